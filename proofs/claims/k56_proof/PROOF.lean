import PyProof.Rows.All
import Wide.All
import OpenK.AllK
import Wide.FinOn
import HandS.ForMost
import HandS.TupAny
import HandS.Style
import HandS.IsInst
import HandS.Star
import HandS.RevRange
import HandS.Wide
import HandS.Conv
import PyProof.StrOps2
import HandS.Evl
import HandS.CallLocal
import HandS.Lambda
import HandS.Nested
import HandS.EndTab
import KE.KNestM
import HandS.More
import KE.KDictZip
import HandS.Zip
import HandS.ForExc
import HandS.DictComp
import HandS.DictTup
import HandS.Walk
import KE.KDictKeyed
import HandS.Iter
import HandS.Deep
import PyProof.Rows.StrMeet
import HandS.Strs
import HandS.DictSubView
import HandS.Sort
import HandS.DeepEq
import PyProof.NeKinds
import PySem.Challenge.RW_whatnext_k56_papers_of_waits_looked_at
set_option Elab.async false
set_option maxRecDepth 100000
set_option maxHeartbeats 8000000
set_option linter.unusedVariables false
namespace KB
open PySem L2
open PySem.AutoSeq1 PySem.MeetsSeq PySem.MeetsSeq2 PySem.MeetsSeq3

def top (i : Nat) : Stmt := (PySem.Challenge.pw_whatnext_k56_papers_of_waits_looked_at).main.body.getD i (.Pass ⟨0, 0, 0, 0⟩)

/-! ### two rules that the layer lacks: a list extended by a tuple, a text times a number -/
theorem ext_lt (l b : Addr) (us ws : Array Value) (n m : Nat) (dd : Option Addr) (sl : Array (Option Value))
    (h0 : ¬(!us.isEmpty && Builtin.List.listTooLong (us.size + ws.size)) = true) (h1 : us.size ≤ sizeLine) (h2 : us.size + ws.size ≤ sizeLine + 1) :
    Meets (Builtin.«list.extend» ⟨[.ref l, .ref b], []⟩) (fun _ R s => s.heap.get? l = some { cls := .type "list", dict := none, data := .seq us n, slots := #[] } ∧
      s.heap.get? b = some { cls := .type "tuple", dict := dd, data := .seq ws m, slots := sl } ∧
      R (.ok (.ret Value.none)) { s with heap := s.heap.update l (Obj.mapSeq fun x => x ++ ws), toks := s.toks }) := by
  refine .of_wp fun prog w A R s h => ?_
  obtain ⟨hp, g, d, tk, os⟩ := s
  obtain ⟨hl, hb, h⟩ := h
  have f1 := idx_int; have f2 := sub_tuple_tuple; have f3 := sub_list_list; have f4 := sub_tuple_list; have f5 := sub_list_tuple
  have hz' : (us ++ ws).size ≤ sizeLine + 1 := by
    rw [Array.size_append]
    exact h2
  wp_walk using (wpAny_updateSeq hl rfl (hz := h1) (_hz' := hz')), wpAny_loadPart' hl, wpAny_loadPart' hb
  exact ⟨_, rfl, h⟩
section
variable {X : Cx}
def rExtT (K : PySem.W.Frag) : V → List V → Hp → VK → Prop := fun x vs H Q => ∃ l b xs zs, x = .ref l ∧ vs = [.ref b] ∧ H l = some (.lst xs) ∧ SqT K H b zs ∧ xs.length + zs.length ≤ sizeLine ∧ Q .non (upd H l (.lst (xs ++ zs)))
theorem mt_extT : MtR X "list.extend" (rExtT X.K) := by
  intro pins s σ H x vs v us Q I rx rv h
  obtain ⟨l, b, xs, zs, rfl, rfl, hH, hB, hz, q⟩ := h
  cases rx
  obtain ⟨u, rfl, ru⟩ := rv.one
  cases ru
  obtain ⟨z, its, n, r, hl, e⟩ := I.lstM hH
  obtain ⟨its2, r2, ⟨⟨c2, d2, a2, s2⟩, e2, hc, n2, hd⟩, _⟩ := I.tuple hB
  cases hc
  cases hd
  have hl2 := r2.length
  have hsz : its.toArray.size + its2.toArray.size ≤ sizeLine := by
    rw [List.size_toArray, List.size_toArray]
    omega
  have hlong : ¬ (!its.toArray.isEmpty && Builtin.List.listTooLong (its.toArray.size + its2.toArray.size)) = true := by
    rw [notLongL hsz, Bool.and_false]
    exact Bool.false_ne_true
  refine call_meets F.slot_list_extend ⟨_, e, rfl⟩ F.entry_list_extend (F.args_list_extend_2 _ _)
    (ext_lt l b its.toArray its2.toArray n n2 d2 s2 hlong (by rw [List.size_toArray]; omega) (by omega)) ⟨e, e2, ?_⟩
  exact ⟨.non, _, I.lset (its' := its ++ its2) hH e (by simp) (r.append r2) (by rw [List.length_append]; exact hz), rfl, q⟩
end
end KB

namespace KB
open PySem L2

/-! ### terms as data -/
inductive Hd | num (z : Int) | nam (x : Str) | plus | less | tell | lett (x : Str) | iff | ask (f : Str)
inductive Tm | mk (h : Hd) (n : Nat) (k : Fin n → Tm)
def hs : Hd → Str
  | .num _ => "number" | .nam _ => "name" | .plus => "plus" | .less => "less" | .tell => "tell" | .lett _ => "let" | .iff => "if" | .ask _ => "ask"
/-- what stands at a, xs being its parts -/
def Lay (H : Hp) (a : Addr) : Hd → List V → Prop
  | .num z, xs => xs = [] ∧ H a = some (.tup [.str "number", .int z])
  | .nam x, xs => xs = [] ∧ H a = some (.tup [.str "name", .str x])
  | .plus, xs => xs.length = 2 ∧ H a = some (.tup (.str "plus" :: xs))
  | .less, xs => xs.length = 2 ∧ H a = some (.tup (.str "less" :: xs))
  | .tell, xs => xs.length = 1 ∧ H a = some (.tup (.str "tell" :: xs))
  | .lett x, xs => xs.length = 2 ∧ H a = some (.tup (.str "let" :: .str x :: xs))
  | .iff, xs => xs.length = 3 ∧ H a = some (.tup (.str "if" :: xs))
  | .ask f, xs => xs.length ≤ 4 ∧ ∃ p, H a = some (.tup [.str "ask", .str f, .ref p]) ∧ H p = some (.tup xs)
def Rfs {n : Nat} (ys : Fin n → Addr) : List V := List.ofFn fun i => V.ref (ys i)
def At (H : Hp) : Tm → Addr → Prop
  | .mk h n k, a => ∃ ys : Fin n → Addr, Lay H a h (Rfs ys) ∧ ∀ i, At H (k i) (ys i)
def cnt : Tm → Nat
  | .mk _ _ k => 1 + (List.ofFn fun i => cnt (k i)).sum
def flatHd : Hd → Bool
  | .num _ | .nam _ | .plus | .less => true
  | _ => false
def simple : Tm → Bool
  | .mk h _ k => flatHd h && (List.ofFn fun i => simple (k i)).all id
def letsOf : Tm → List Str
  | .mk h _ k => (match h with | .lett x => [x] | _ => []) ++ (List.ofFn fun i => letsOf (k i)).flatten

theorem Lay.mono {H H' : Hp} (e : Same H H') {a : Addr} {h : Hd} {xs : List V} (l : Lay H a h xs) : Lay H' a h xs := by
  cases h with
  | ask f => obtain ⟨z, p, h1, h2⟩ := l; exact ⟨z, p, e _ _ h1, e _ _ h2⟩
  | _ => exact ⟨l.1, e _ _ l.2⟩
theorem At.mono {H H' : Hp} (e : Same H H') : ∀ {t : Tm} {a : Addr}, At H t a → At H' t a := by
  intro t
  induction t with
  | mk h n k ih =>
    rintro a ⟨ys, l, r⟩
    exact ⟨ys, l.mono e, fun i => ih i (r i)⟩
/-- every node begins with its word -/
theorem Lay.head {H : Hp} {a : Addr} {h : Hd} {xs : List V} (l : Lay H a h xs) : ∃ r, H a = some (.tup (.str (hs h) :: r)) := by
  cases h with
  | ask f => obtain ⟨z, p, h1, h2⟩ := l; exact ⟨_, h1⟩
  | _ => exact ⟨_, l.2⟩

theorem same_new {H : Hp} {p : Addr} (h : H p = none) (o : HO) : Same H (upd H p o) := fun b u q => by
  rw [upd_ne (ne_of_none q h)]
  exact q
theorem sIx_at {n d : Nat} {i : Int} (h0 : 0 ≤ i) (h : i.toNat ≤ n) : HT.sIx n d (some i) = i.toNat := by
  show (if i < 0 then (i + (n : Int)).toNat else min i.toNat n) = i.toNat
  rw [if_neg (by omega)]
  omega
theorem sIx_no {n d : Nat} : HT.sIx n d none = d := rfl
theorem not_whole {xs : List V} {i : Int} (h0 : 0 < i) (h : i.toNat ≤ xs.length) : ¬ (HT.sIx xs.length 0 (some i) = 0 ∧ HT.sIx xs.length xs.length none = xs.length) := by
  rw [sIx_at (by omega) h]
  omega
theorem cut_from {xs : List V} {i : Int} (h0 : 0 ≤ i) (h : i.toNat ≤ xs.length) : cutV xs (some i) none = xs.drop i.toNat := by
  unfold cutV
  rw [sIx_at h0 h, sIx_no, List.take_of_length_le (by rw [List.length_drop]; exact Nat.le_refl _)]
theorem len1 {α : Type} {x : α} {r : List α} : 1 ≤ (x :: r).length := Nat.succ_le_succ (Nat.zero_le _)
theorem len2 {α : Type} {x y : α} {r : List α} : 2 ≤ (x :: y :: r).length := Nat.succ_le_succ len1
theorem cut1 {x : V} {r : List V} : cutV (x :: r) (some 1) none = r := cut_from (i := 1) (by decide) len1
theorem cut2 {x y : V} {r : List V} : cutV (x :: y :: r) (some 2) none = r := cut_from (i := 2) (by decide) len2
theorem itT {b : Bool} {A B : Prop} (e : b = true) (h : A) : if b = true then A else B := by
  rw [if_pos e]
  exact h
theorem itF {b : Bool} {A B : Prop} (e : b = false) (h : B) : if b = true then A else B := by
  rw [if_neg (by rw [e]; exact Bool.false_ne_true)]
  exact h
theorem at0 {x : V} {r : List V} : atI (x :: r) 0 = some x := at_of (j := 0) rfl rfl
theorem at1 {x y : V} {r : List V} : atI (x :: y :: r) 1 = some y := at_of (j := 1) rfl rfl
theorem at2 {x y z : V} {r : List V} : atI (x :: y :: z :: r) 2 = some z := at_of (j := 2) rfl rfl
theorem sz {n : Nat} (h : n ≤ 100000) : n ≤ sizeLine := Nat.le_trans h (by decide)
/-- the facts of the top -/
structure Ref (K : PySem.W.Frag) (mg : Str → Option Value) (x : Str) (f : Addr) (fd : FuncData) (ps : List Str) : Prop where
  m : mg x = some (.ref f)
  k : PySem.W.keepIn K (.ref f) = true
  b : Binds K fd ps []
structure Txt (K : PySem.W.Frag) (mg : Str → Option Value) : Prop where
  m_len : mg "len" = none
  m_isinstance : mg "isinstance" = none
  m_int : mg "int" = none
  m_tuple : mg "tuple" = none
  m_list : mg "list" = none
  m_str : mg "str" = none
  m_bool : mg "bool" = none
  m_max : mg "max" = none
  m_all : mg "all" = none
  m_dict : mg "dict" = none
  m_range : mg "range" = none
  m_enumerate : mg "enumerate" = none
  m_reversed : mg "reversed" = none

section
variable {P : Program} {w : World} {K : PySem.W.Frag} {mg : Str → Option Value} {base : Heap}
/-! ### parts_of and _law_parts -/
def spParts : Sp := fun vs H Q _ => ∃ a h xs, vs = [.ref a] ∧ Lay H a h xs ∧ ∀ p H', Same H H' → H' p = some (.tup xs) → Q (.ref p) H'
abbrev sparts_of : Stmt := top 8
theorem scparts_of : FnScope ["term"] ["term"] (defScope sparts_of) := ⟨rfl, rfl, rfl, by decide +kernel, rfl, by decide +kernel, by decide +kernel⟩
theorem ok_parts {f : Addr} {fd : FuncData} (F : Fun K "parts_of" "parts_of" sparts_of f fd) : FnOk P w K mg base CX0 1 f fd ["term"] spParts := by
  refine F.ok scparts_of (fun vs H Q E h => ?_) (fun cdv A outer s H vs Q E hr h => ?_)
  · obtain ⟨a, h, xs, rfl, _⟩ := h
    rfl
  obtain ⟨a, h, xs, rfl, l, q⟩ := h
  refine ⟨_, (pss_cons (ps_if (pt_cmpR op_in_seq (pe_ix ix_tup (pv 0) pe_int (fun _ _ => rfl)) (pe_tup (pa_cons pe_str (pa_cons pe_str pa_nil))) rfl) (pss_one (ps_ret (pe_tup pa_nil))) pss_nil)
    (pss_cons (ps_if (pt_cmpR op_eq (pe_ix ix_tup (pv 0) pe_int (fun _ _ => rfl)) pe_str (nomark _)) (pss_one (ps_ret (pe_ix ix_tup (pv 0) pe_int (fun _ _ => rfl)))) pss_nil)
    (pss_cons (ps_if (pt_cmpR op_eq (pe_ix ix_tup (pv 0) pe_int (fun _ _ => rfl)) pe_str (nomark _)) (pss_one (ps_ret (pe_slice sl_tupA (pv 0) (po_some pe_int) po_none))) pss_nil)
    (pss_one (ps_ret (pe_slice sl_tupA (pv 0) (po_some pe_int) po_none)))))), ?_⟩
  obtain ⟨r, hd⟩ := l.head
  refine ⟨_, rfl, a, _, _, _, rfl, rfl, SqT.of hd, at0, sz (by show 2 ≤ 100000; decide), fun t ht => ?_⟩
  have s1 := same_new ht (.tup [.str "number", .str "name"])
  have l1 := l.mono s1
  refine ⟨t, _, rfl, .inr (SqT.of upd_same), rfl, rfl, _, rfl, ?_⟩
  cases h with
  | num z =>
    refine itT rfl ⟨sz (by decide), fun p hp => q p _ (s1.trans (same_new hp _)) ?_⟩
    rw [l.1, upd_same]
  | nam z =>
    refine itT rfl ⟨sz (by decide), fun p hp => q p _ (s1.trans (same_new hp _)) ?_⟩
    rw [l.1, upd_same]
  | ask f =>
    obtain ⟨l1, p, l2, l3⟩ := l
    refine itF rfl ⟨_, rfl, a, _, _, _, rfl, rfl, SqT.of (s1 _ _ l2), at0, rfl, _, rfl, ?_⟩
    refine itT rfl ⟨_, rfl, a, _, _, _, rfl, rfl, SqT.of (s1 _ _ l2), at2, ?_⟩
    exact q p _ s1 (s1 _ _ l3)
  | lett x =>
    refine itF rfl ⟨_, rfl, a, _, _, _, rfl, rfl, SqT.of (s1 _ _ l.2), at0, rfl, _, rfl, ?_⟩
    refine itF rfl ⟨_, rfl, a, _, _, _, rfl, rfl, SqT.of (s1 _ _ l.2), at0, rfl, _, rfl, ?_⟩
    refine itT rfl ⟨_, rfl, _, rfl, a, _, rfl, SqT.of (s1 _ _ l.2), ?_, ?_⟩
    · exact fun z => absurd z (not_whole (by decide) len2)
    · intro _ p hp
      refine q p _ (s1.trans (same_new hp _)) ?_
      rw [upd_same, cut2]
  | plus | less | tell | iff =>
    refine itF rfl ⟨_, rfl, a, _, _, _, rfl, rfl, SqT.of (s1 _ _ l.2), at0, rfl, _, rfl, ?_⟩
    refine itF rfl ⟨_, rfl, a, _, _, _, rfl, rfl, SqT.of (s1 _ _ l.2), at0, rfl, _, rfl, ?_⟩
    refine itF rfl ⟨_, rfl, _, rfl, a, _, rfl, SqT.of (s1 _ _ l.2), ?_, ?_⟩
    · exact fun z => absurd z (not_whole (by decide) len1)
    · intro _ p hp
      refine q p _ (s1.trans (same_new hp _)) ?_
      rw [upd_same, cut1]
end
end KB

namespace KB
open PySem L2

/-! ### rules and small facts -/
def repS (z : Str) (k : Int) : Str := ⟨(List.replicate k.toNat z.cps).foldl (· ++ ·) #[]⟩
def rMulS : R2 := fun x y H Q => ∃ z k, x = .str z ∧ y = .int k ∧ 1 ≤ k ∧ k ≤ 1000 ∧ 1 ≤ z.length ∧ z.length ≤ 1000 ∧ Q (.str (repS z k)) H
theorem repS_one (z : Str) : repS z 1 = z := by
  unfold repS
  show (⟨#[] ++ z.cps⟩ : Str) = z
  rw [Array.empty_append]
theorem size_rep (xs : Array Nat) : ∀ (k : Nat) (acc : Array Nat), ((List.replicate k xs).foldl (· ++ ·) acc).size = acc.size + k * xs.size
  | 0, acc => by
    rw [Nat.zero_mul]
    rfl
  | k + 1, acc => by
    rw [List.replicate_succ, List.foldl_cons, size_rep xs k, Array.size_append, Nat.succ_mul]
    omega
theorem op_mul_str {X : Cx} : OpR X (binaryOp .Mult) rMulS := by
  intro pins s σ H x y v u Q I rx ry h
  obtain ⟨z, k, rfl, rfl, h1, h2, h3, h4, q⟩ := h
  obtain ⟨t, rfl⟩ := rx
  obtain ⟨t', rfl⟩ := ry
  refine PySem.P.mul_str ?_ ?_ ?_ ?_
  · rw [decide_eq_false (by omega), decide_eq_false (by omega)]
    rfl
  · intro _ _
    have e1 : (1000 : Int) * k ≤ 1000000 := by omega
    have e2 : (9223372036854775807 : Int) / k ≥ 9223372036854775 := by
      have e3 : (9223372036854775807 : Int) / k ≥ 9223372036854775807 / 1000 := by
        refine Int.le_ediv_of_mul_le (by omega) ?_
        have : (9223372036854775807 / 1000 : Int) = 9223372036854775 := by decide
        rw [this]
        have : (9223372036854775 : Int) * k ≤ 9223372036854775 * 1000 := Int.mul_le_mul_of_nonneg_left h2 (by decide)
        omega
      have : (9223372036854775807 / 1000 : Int) = 9223372036854775 := by decide
      omega
    have e4 : ((2 : Int) ^ 63 - 1) = 9223372036854775807 := by decide
    rw [e4]
    omega
  · intro _ _
    have e : z.length * k.toNat ≤ 1000 * 1000 := Nat.mul_le_mul h4 (by omega)
    exact decide_eq_false (by show ¬ _ > sizeLine; exact Nat.not_lt.mpr (Nat.le_trans e (by decide)))
  · rw [if_neg (by omega)]
    have hz : (z.length == 0) = false := by
      rw [beq_eq_false_iff_ne]
      omega
    by_cases hk : k = 1
    · subst hk
      rw [if_pos (by rfl)]
      rw [repS_one] at q
      exact ⟨.str z, H, I, ⟨t, rfl⟩, q⟩
    · have hk2 : (k == 1) = false := by
        rw [beq_eq_false_iff_ne]
        exact hk
      rw [if_neg (by rw [hk2, hz]; decide)]
      have e : z.length * k.toNat ≤ 1000 * 1000 := Nat.mul_le_mul h4 (by omega)
      have e2 := size_rep z.cps k.toNat #[]
      refine ⟨?_, .str (repS z k), H, I.tok _, ⟨_, rfl⟩, q⟩
      show (List.foldl (fun x1 x2 => x1 ++ x2) #[] (List.replicate k.toNat z.cps)).size ≤ sizeLine
      rw [e2, Nat.mul_comm]
      show 0 + z.length * k.toNat ≤ sizeLine
      rw [Nat.zero_add]
      exact Nat.le_trans e (by decide)

/-! ### stacks of terms -/
def Stk (H : Hp) : List V → List Tm → Prop
  | [], [] => True
  | v :: vs, t :: ts => (∃ b, v = .ref b ∧ At H t b) ∧ Stk H vs ts
  | _, _ => False
theorem Stk.mono {H H' : Hp} (e : Same H H') : ∀ {vs : List V} {ts : List Tm}, Stk H vs ts → Stk H' vs ts
  | [], [], _ => trivial
  | _ :: _, _ :: _, h => ⟨let ⟨b, e1, h1⟩ := h.1; ⟨b, e1, h1.mono e⟩, Stk.mono e h.2⟩
  | [], _ :: _, h => h.elim
  | _ :: _, [], h => h.elim
theorem Stk.app {H : Hp} : ∀ {vs us : List V} {ts ss : List Tm}, Stk H vs ts → Stk H us ss → Stk H (vs ++ us) (ts ++ ss)
  | [], _, [], _, _, k => k
  | _ :: _, _, _ :: _, _, h, k => ⟨h.1, Stk.app h.2 k⟩
  | [], _, _ :: _, _, h, _ => h.elim
  | _ :: _, _, [], _, h, _ => h.elim
theorem Stk.len {H : Hp} : ∀ {vs : List V} {ts : List Tm}, Stk H vs ts → vs.length = ts.length
  | [], [], _ => rfl
  | _ :: _, _ :: _, h => congrArg (· + 1) (Stk.len h.2)
  | [], _ :: _, h => h.elim
  | _ :: _, [], h => h.elim
theorem Stk.fn {H : Hp} : ∀ {n : Nat} {ys : Fin n → Addr} {k : Fin n → Tm}, (∀ i, At H (k i) (ys i)) → Stk H (Rfs ys) (List.ofFn k)
  | 0, _, _, _ => trivial
  | n + 1, ys, k, h => by
    unfold Rfs
    rw [List.ofFn_succ, List.ofFn_succ]
    exact ⟨⟨_, rfl, h 0⟩, Stk.fn (ys := fun i => ys i.succ) (k := fun i => k i.succ) fun i => h i.succ⟩
def cnts (ts : List Tm) : Nat := (ts.map cnt).sum
theorem cnt_mk {h : Hd} {n : Nat} {k : Fin n → Tm} : cnt (.mk h n k) = 1 + cnts (List.ofFn k) := by
  show 1 + (List.ofFn fun i => cnt (k i)).sum = 1 + ((List.ofFn k).map cnt).sum
  rw [List.map_ofFn]
  rfl
theorem cnts_cons {t : Tm} {r : List Tm} : cnts (t :: r) = cnt t + cnts r := rfl
theorem cnt_pos : ∀ t : Tm, 1 ≤ cnt t
  | .mk _ _ _ => by rw [cnt_mk]; omega
section
variable {P : Program} {w : World} {K : PySem.W.Frag} {mg : Str → Option Value} {base : Heap}
theorem same_mut {H H' : Hp} {p : Addr} {o : HO} (e : Same H H') (h : H p = none) : Same H (upd H' p o) := fun a u ha => by
  rw [upd_ne (ne_of_none ha h)]
  exact e _ _ ha
/-- a list rewritten leaves the terms -/
theorem Lay.put {H : Hp} {l : Addr} {xs ys : List V} (hl : H l = some (.lst xs)) {a : Addr} {h : Hd} {us : List V} (q : Lay H a h us) : Lay (upd H l (.lst ys)) a h us := by
  have go : ∀ {b : Addr} {zs : List V}, H b = some (.tup zs) → upd H l (.lst ys) b = some (.tup zs) := fun {b zs} z => by
    rw [upd_ne (ne_of z hl (by intro e; cases e))]
    exact z
  cases h with
  | ask f => obtain ⟨z, p, h1, h2⟩ := q; exact ⟨z, p, go h1, go h2⟩
  | _ => exact ⟨q.1, go q.2⟩
theorem At.put {H : Hp} {l : Addr} {xs ys : List V} (hl : H l = some (.lst xs)) : ∀ {t : Tm} {a : Addr}, At H t a → At (upd H l (.lst ys)) t a := by
  intro t
  induction t with
  | mk h n k ih =>
    rintro a ⟨zs, q, r⟩
    exact ⟨zs, q.put hl, fun i => ih i (r i)⟩
theorem Stk.put {H : Hp} {l : Addr} {xs ys : List V} (hl : H l = some (.lst xs)) : ∀ {vs : List V} {ts : List Tm}, Stk H vs ts → Stk (upd H l (.lst ys)) vs ts
  | [], [], _ => trivial
  | _ :: _, _ :: _, h => ⟨let ⟨b, e1, h1⟩ := h.1; ⟨b, e1, h1.put hl⟩, Stk.put hl h.2⟩
  | [], _ :: _, h => h.elim
  | _ :: _, [], h => h.elim
end
end KB

namespace KB
open PySem L2

/-! ### what leaves the tuples -/
def TK (H H' : Hp) : Prop := ∀ a xs, H a = some (.tup xs) → H' a = some (.tup xs)
theorem TK.refl (H : Hp) : TK H H := fun _ _ h => h
theorem TK.trans {H H1 H2 : Hp} (a : TK H H1) (b : TK H1 H2) : TK H H2 := fun x o h => b x o (a x o h)
theorem tk_same {H H' : Hp} (e : Same H H') : TK H H' := fun a _ h => e a _ h
theorem tk_put {H : Hp} {l : Addr} {xs : List V} {o : HO} (hl : H l = some (.lst xs)) : TK H (upd H l o) := fun a zs z => by
  rw [upd_ne (ne_of z hl (by intro e; cases e))]
  exact z
theorem Lay.tk {H H' : Hp} (e : TK H H') {a : Addr} {h : Hd} {xs : List V} (l : Lay H a h xs) : Lay H' a h xs := by
  cases h with
  | ask f => obtain ⟨z, p, h1, h2⟩ := l; exact ⟨z, p, e _ _ h1, e _ _ h2⟩
  | _ => exact ⟨l.1, e _ _ l.2⟩
theorem At.tk {H H' : Hp} (e : TK H H') : ∀ {t : Tm} {a : Addr}, At H t a → At H' t a := by
  intro t
  induction t with
  | mk h n k ih =>
    rintro a ⟨ys, l, r⟩
    exact ⟨ys, l.tk e, fun i => ih i (r i)⟩

theorem Stk.tk {H H' : Hp} (e : TK H H') : ∀ {vs : List V} {ts : List Tm}, Stk H vs ts → Stk H' vs ts
  | [], [], _ => trivial
  | _ :: _, _ :: _, h => ⟨let ⟨b, e1, h1⟩ := h.1; ⟨b, e1, h1.tk e⟩, Stk.tk e h.2⟩
  | [], _ :: _, h => h.elim
  | _ :: _, [], h => h.elim
theorem Stk.get {H : Hp} : ∀ {vs : List V} {ts : List Tm} {i : Nat} {v : V}, Stk H vs ts → vs[i]? = some v → ∃ t, ts[i]? = some t ∧ ∃ b, v = .ref b ∧ At H t b
  | [], [], _, _, _, e => by simp at e
  | x :: vs, t :: ts, 0, v, h, e => ⟨t, rfl, by
    have e' : x = v := by simpa using e
    subst e'
    exact h.1⟩
  | x :: vs, t :: ts, i + 1, v, h, e => by
    obtain ⟨b, h1, h2⟩ := Stk.get (i := i) (v := v) h.2 (by simpa using e)
    exact ⟨b, by simpa using h1, h2⟩
  | [], _ :: _, _, _, h, _ => h.elim
  | _ :: _, [], _, _, h, _ => h.elim

/-! ### two lists, item by item -/
def All2 {α : Type} (R : α → V → Prop) : List α → List V → Prop
  | [], [] => True
  | a :: as, v :: vs => R a v ∧ All2 R as vs
  | _, _ => False
theorem All2.imp {α : Type} {R S : α → V → Prop} (e : ∀ a v, R a v → S a v) : ∀ {as : List α} {vs : List V}, All2 R as vs → All2 S as vs
  | [], [], _ => trivial
  | _ :: _, _ :: _, h => ⟨e _ _ h.1, All2.imp e h.2⟩
  | [], _ :: _, h => h.elim
  | _ :: _, [], h => h.elim
theorem All2.app {α : Type} {R : α → V → Prop} : ∀ {as bs : List α} {vs ws : List V}, All2 R as vs → All2 R bs ws → All2 R (as ++ bs) (vs ++ ws)
  | [], _, [], _, _, k => k
  | _ :: _, _, _ :: _, _, h, k => ⟨h.1, All2.app h.2 k⟩
  | [], _, _ :: _, _, h, _ => h.elim
  | _ :: _, _, [], _, h, _ => h.elim
theorem All2.len {α : Type} {R : α → V → Prop} : ∀ {as : List α} {vs : List V}, All2 R as vs → vs.length = as.length
  | [], [], _ => rfl
  | _ :: _, _ :: _, h => congrArg (· + 1) (All2.len h.2)
  | [], _ :: _, h => h.elim
  | _ :: _, [], h => h.elim
theorem All2.get {α : Type} {R : α → V → Prop} : ∀ {as : List α} {vs : List V} {i : Nat} {v : V}, All2 R as vs → vs[i]? = some v → ∃ a, as[i]? = some a ∧ R a v
  | [], [], _, _, _, e => by simp at e
  | a :: as, x :: vs, 0, v, h, e => ⟨a, rfl, by
    have e' : x = v := by simpa using e
    subst e'
    exact h.1⟩
  | a :: as, x :: vs, i + 1, v, h, e => by
    obtain ⟨b, h1, h2⟩ := All2.get (i := i) (v := v) h.2 (by simpa using e)
    exact ⟨b, by simpa using h1, h2⟩
  | [], _ :: _, _, _, h, _ => h.elim
  | _ :: _, [], _, _, h, _ => h.elim

end KB

namespace KB
open PySem L2

/-! ### books -/
abbrev Er := Str × List Str × Tm
def ErV (H : Hp) (e : Er) (v : V) : Prop := ∃ q r b, v = .ref q ∧ H q = some (.tup [.str e.1, .ref r, .ref b]) ∧ H r = some (.tup (e.2.1.map V.str)) ∧ At H e.2.2 b
theorem ErV.tk {H H' : Hp} (t : TK H H') {e : Er} {v : V} (h : ErV H e v) : ErV H' e v :=
  let ⟨q, r, b, e1, h1, h2, h3⟩ := h; ⟨q, r, b, e1, t _ _ h1, t _ _ h2, h3.tk t⟩
def BkAt (H : Hp) (es : List Er) (vs : List V) (p : Addr) : Prop := H p = some (.tup vs) ∧ All2 (ErV H) es vs
theorem BkAt.tk {H H' : Hp} (t : TK H H') {es : List Er} {vs : List V} {p : Addr} (h : BkAt H es vs p) : BkAt H' es vs p := ⟨t _ _ h.1, h.2.imp fun _ _ z => z.tk t⟩
theorem All2.map {α β : Type} {R : β → V → Prop} {f : α → β} : ∀ {as : List α} {vs : List V}, All2 (fun a v => R (f a) v) as vs → All2 R (as.map f) vs
  | [], [], _ => trivial
  | _ :: _, _ :: _, h => ⟨h.1, All2.map h.2⟩
  | [], _ :: _, h => h.elim
  | _ :: _, [], h => h.elim

section
variable {P : Program} {w : World} {K : PySem.W.Frag} {mg : Str → Option Value} {base : Heap}
theorem mem_of_get {α : Type} {l : List α} {i : Nat} {a : α} (h : l[i]? = some a) : a ∈ l := List.mem_of_getElem? h
end
end KB

namespace KB
open PySem L2

theorem catA_of {K : PySem.W.Frag} {H : Hp} {a b : Addr} {xs ys : List V} {Q : VK} (ha : H a = some (.tup xs)) (hb : H b = some (.tup ys)) (hl : xs.length + ys.length ≤ 100000)
    (q : ∀ p H', Same H H' → H' p = some (.tup (xs ++ ys)) → Q (.ref p) H') : rCatA K (.ref a) (.ref b) H Q := by
  refine ⟨a, b, xs, ys, rfl, rfl, SqT.of ha, SqT.of hb, sz hl, fun z => ?_, fun _ z => ?_, fun _ _ p hp => ?_⟩
  · refine q b H (Same.refl H) ?_
    rw [z]
    exact hb
  · refine q a H (Same.refl H) ?_
    rw [z, List.append_nil]
    exact ha
  · exact q p _ (same_new hp _) upd_same
def letsL (ts : List Tm) : List Str := (ts.map letsOf).flatten
def hdLets : Hd → List Str
  | .lett x => [x]
  | _ => []
theorem lets_mk {h : Hd} {n : Nat} {k : _root_.Fin n → Tm} : letsOf (.mk h n k) = hdLets h ++ letsL (List.ofFn k) := by
  have e : (List.ofFn fun i => letsOf (k i)) = (List.ofFn k).map letsOf := (List.map_ofFn ..).symm
  unfold letsL
  rw [← e]
  cases h <;> rfl
end KB

namespace KB
open PySem L2

/-! ### words as the program has them -/
def keptW : List Str := ["let", "be", "in", "tell", "if", "then", "else", "home", "zyzzyva", "xja", "xjb", "xjc", "xjd", "xje", "xjf", "xva", "xvb", "xvc", "xvd", "xve", "xvf", "zzzzq"]
/-- the words that idle posts get -/
def idleW : List Str := ["xja", "xjb", "xjc", "xjd", "xje", "xjf", "xva", "xvb", "xvc", "xvd", "xve", "xvf"]
def small (c : Nat) : Bool := decide (97 ≤ c) && decide (c ≤ 122)
def isW (z : Str) : Bool := !keptW.contains z && (decide (1 ≤ z.length) && decide (z.length ≤ 8)) && z.cps.toList.all small
theorem isW_ok {z : Str} (h : isW z = true) : PySem.PyData.strOk z = true := by
  unfold isW at h
  rw [Bool.and_eq_true] at h
  have h2 := h.2
  rw [List.all_eq_true] at h2
  unfold PySem.PyData.strOk
  rw [← Array.all_toList, List.all_eq_true]
  intro c hc
  have := h2 c hc
  unfold small at this
  rw [Bool.and_eq_true] at this
  have := of_decide_eq_true this.2
  exact decide_eq_true (by omega)
def isV (z : Str) : Bool := isW z || idleW.contains z
theorem isV_of {z : Str} (h : isW z = true) : isV z = true := by
  unfold isV
  rw [h]
  rfl
theorem idle_ok : ∀ z ∈ idleW, PySem.PyData.strOk z = true := by decide +kernel
theorem isV_ok {z : Str} (h : isV z = true) : PySem.PyData.strOk z = true := by
  unfold isV at h
  rcases Bool.or_eq_true_iff.mp h with h | h
  · exact isW_ok h
  · exact idle_ok z (by simpa using h)
/-! ### the tape and lists of words -/
def But1 (tp : Addr) (H H' : Hp) : Prop := ∀ b o, b ≠ tp → H b = some o → H' b = some o
def Tp (H : Hp) (tp : Addr) : Prop := ∃ z, H tp = some (.lst [.int z])
theorem But1.refl (tp : Addr) (H : Hp) : But1 tp H H := fun _ _ _ h => h
theorem But1.trans {tp : Addr} {H H1 H2 : Hp} (a : But1 tp H H1) (b : But1 tp H1 H2) : But1 tp H H2 := fun x o n h => b x o n (a x o n h)
theorem but_same {tp : Addr} {H H' : Hp} (e : Same H H') : But1 tp H H' := fun b o _ h => e b o h
theorem But1.tk {tp : Addr} {H H' : Hp} (ht : Tp H tp) (e : But1 tp H H') : TK H H' := fun a xs h => by
  obtain ⟨z, hz⟩ := ht
  exact e a _ (ne_of h hz (by intro q; cases q)) h
/-- a list of words -/
def Wls (H : Hp) (a : Addr) (xs : List Str) : Prop := H a = some (.lst (xs.map V.str)) ∧ ∀ x ∈ xs, isW x = true
theorem wls_tp {H : Hp} {a tp : Addr} {xs : List Str} (h : H a = some (.lst (xs.map V.str))) (t : Tp H tp) : a ≠ tp := by
  rintro rfl
  obtain ⟨z, hz⟩ := t
  rw [h] at hz
  have e := HO.lst.inj (Option.some.inj hz)
  cases xs with
  | nil => cases e
  | cons x r =>
    rw [List.map_cons] at e
    cases (List.cons.inj e).1
theorem Wls.but {tp a : Addr} {H H' : Hp} {xs : List Str} (e : But1 tp H H') (t : Tp H tp) (h : Wls H a xs) : Wls H' a xs := ⟨e _ _ (wls_tp h.1 t) h.1, h.2⟩
theorem dp_strs {K : PySem.W.Frag} {H : Hp} : ∀ xs : List Str, DpAll K H (xs.map V.str) (xs.map PyData.str)
  | [] => .nil
  | x :: r => .cons (.str x) (dp_strs r)
theorem lay_strs : ∀ {xs : List Str}, (∀ x ∈ xs, PySem.PyData.strOk x = true) → PySem.PyData.canLayAll0 (xs.map PyData.str) = true
  | [], _ => rfl
  | x :: r, h => by
    show (PySem.PyData.strOk x && PySem.PyData.canLayAll0 (r.map PyData.str)) = true
    rw [h x List.mem_cons_self, lay_strs fun y hy => h y (List.mem_cons_of_mem _ hy)]
    rfl
theorem shaped_of {d : PyData} (h1 : d.canLay0 = true) (h2 : d.depth ≤ 64) : SeqAt.shaped d = true := Bool.and_eq_true_iff.mpr ⟨h1, decide_eq_true h2⟩
theorem depth_strs : ∀ xs : List Str, PySem.PyData.depthAll (xs.map PyData.str) = 0
  | [] => rfl
  | x :: r => by
    show max (PySem.PyData.depth (.str x)) (PySem.PyData.depthAll (r.map PyData.str)) = 0
    rw [depth_strs r]
    rfl
theorem shaped_strs {xs : List Str} (h : ∀ x ∈ xs, isW x = true) : SeqAt.shaped (.list (xs.map PyData.str)) = true := by
  refine shaped_of (lay_strs fun x hx => isW_ok (h x hx)) ?_
  show PySem.PyData.depthAll (xs.map PyData.str) + 1 ≤ 64
  rw [depth_strs]
  decide
theorem eqv_nil (xs : List Str) : PyData.eqv (.list (xs.map PyData.str)) (.list []) = xs.isEmpty := by
  cases xs <;> rfl

section
variable {P : Program} {w : World} {K : PySem.W.Frag} {mg : Str → Option Value} {base : Heap}
/-! ### _law_cell_at -/
def spCell (K : PySem.W.Frag) : Sp := fun vs H Q _ => ∃ (a : Addr) (ns : List Int) (k : Int), vs = [.ref a, .int k] ∧ SqL K H a (ns.map V.int) ∧ 0 ≤ k ∧ ∀ z, Q (.int z) H
abbrev s_law_cell_at : Stmt := top 31
theorem scLcell_at : FnScope ["script", "k"] ["script", "k"] (defScope s_law_cell_at) := ⟨rfl, rfl, rfl, by decide +kernel, rfl, by decide +kernel, by decide +kernel⟩
theorem ok_cell (T : Txt K mg) {f : Addr} {fd : FuncData} (F : Fun K "_law_cell_at" "_law_cell_at" s_law_cell_at f fd) : FnOk P w K mg base CX0 1 f fd ["script", "k"] (spCell K) := by
  refine F.ok scLcell_at (fun vs H Q E h => ?_) (fun cdv A outer s H vs Q E hr h => ?_)
  · obtain ⟨a, ns, k, rfl, _⟩ := h
    rfl
  obtain ⟨a, ns, k, rfl, hS, h0, q⟩ := h
  refine ⟨_, (pss_cons (ps_if (pt_cmpR op_lt (pv 1) (pe_callB call_len_seq (by rfl) T.m_len PySem.boot_len (pa_cons (pv 0) pa_nil)) (nomark _)) (pss_one (ps_ret (pe_ix ix_list (pv 0) (pv 1) (fun _ _ => rfl)))) pss_nil)
    (pss_one (ps_ret pe_int))), ?_⟩
  refine ⟨_, rfl, _, rfl, a, _, rfl, .inl hS, _, _, rfl, rfl, _, rfl, ?_⟩
  refine ite2 (fun c => ?_) (fun c => ?_)
  · have c' : k < (((ns.map V.int).length : Nat) : Int) := of_decide_eq_true c
    rw [List.length_map] at c'
    have hk : k.toNat < ns.length := by omega
    refine ⟨_, rfl, _, rfl, a, _, _, .int ns[k.toNat], rfl, rfl, hS, at_of (j := k.toNat) (by omega) ?_, q _⟩
    rw [List.getElem?_map, List.getElem?_eq_getElem hk]
    rfl
  · exact q 0
/-! ### _law_tape -/
def spTape (K : PySem.W.Frag) : Sp := fun vs H Q _ => ∃ (a : Addr) (ns : List Int) (k : Int), vs = [.ref a, .int k] ∧ SqL K H a (ns.map V.int) ∧ 0 ≤ k ∧ k ≤ 1000 ∧ ∀ p z, H p = none → Q (.ref p) (upd H p (.lst [.int z]))
abbrev s_law_tape : Stmt := top 32
theorem scLtape : FnScope ["script", "k", "cell", "p", "one", "found", "turn"] ["script", "k"] (defScope s_law_tape) := ⟨rfl, rfl, rfl, by decide +kernel, rfl, by decide +kernel, by decide +kernel⟩
theorem ok_tape (T : Txt K mg) {f g : Addr} {fd gd : FuncData} (F : Fun K "_law_tape" "_law_tape" s_law_tape f fd) (G_law_cell_at : FnOk P w K mg base CX0 1 g gd ["script", "k"] (spCell K)) (R_law_cell_at : Ref K mg "_law_cell_at" g gd ["script", "k"]) : FnOk P w K mg base CX0 2 f fd ["script", "k"] (spTape K) := by
  refine F.ok scLtape (fun vs H Q E h => ?_) (fun cdv A outer s H vs Q E hr h => ?_)
  · obtain ⟨a, ns, k, rfl, _⟩ := h
    rfl
  obtain ⟨a, ns, k, rfl, hS, h0, h1, q⟩ := h
  refine ⟨_, (pss_cons (ps_set (i := 2) scLtape.nd rfl (Or.inl rfl) (pe_call G_law_cell_at hr rfl R_law_cell_at.m R_law_cell_at.k R_law_cell_at.b .nil pass0 (pa_cons (pv 0) (pa_cons (pv 1) pa_nil))))
    (pss_cons (ps_if (pt_cmpR op_eq (pv 2) pe_int (nomark _)) (pss_one (ps_ret (pe_lst (pa_cons pe_int pa_nil)))) pss_nil)
    (pss_cons (ps_if (pt_cmpR op_ge (pv 2) (pe_op op_pow pe_int pe_int) (nomark _)) (pss_one (ps_ret (pe_lst (pa_cons (pe_op op_sub (pv 2) (pe_op op_pow pe_int pe_int)) pa_nil)))) pss_nil)
    (pss_cons (ps_set (i := 3) scLtape.nd rfl (Or.inl rfl) pe_int)
    (pss_cons (ps_set (i := 4) scLtape.nd rfl (Or.inl rfl) (pe_op op_mod (pe_op op_add (pe_op op_add (pe_op op_mul (pv 2) pe_int) (pe_op op_mul pe_int (pv 1))) pe_int) (pv 3)))
    (pss_cons (ps_set (i := 5) scLtape.nd rfl (Or.inl rfl) (pv 4))
    (pss_cons (ps_for PassesOwn.never rfl (pi_range1 rfl T.m_range (pa_cons pe_int pa_nil)) (pg_name (i := 6) scLtape.nd rfl (Or.inl rfl)) (pss_cons (ps_set (i := 4) scLtape.nd rfl (Or.inl rfl) (pe_op op_mod (pe_op op_add (pe_op op_add (pe_op op_add (pe_op op_mul (pv 4) (pv 4)) (pe_op op_mul pe_int (pv 6))) (pv 2)) pe_int) (pv 3)))
    (pss_one (ps_set (i := 5) scLtape.nd rfl (Or.inl rfl) (pe_op op_add (pe_op op_mul (pv 5) (pv 3)) (pv 4))))))
    (pss_one (ps_ret (pe_lst (pa_cons (pv 5) pa_nil))))))))))), ?_⟩
  have b1 : ∀ x : Int, 0 ≤ x → x < 2305843009213693951 → -(2 ^ 64) < x ∧ x < 2 ^ 64 := fun x h1 h2 => by
    have e : (2 : Int) ^ 64 = 18446744073709551616 := by decide
    rw [e]
    omega
  refine ⟨_, rfl, _, rfl, a, ns, k, rfl, hS, h0, fun z => ?_⟩
  refine ⟨_, rfl, rfl, _, rfl, ?_⟩
  refine ite2 (fun c => ?_) (fun c => ?_)
  · exact ⟨sz (by show 1 ≤ 100000; decide), fun p hp => q p 0 hp⟩
  refine ⟨_, rfl, _, _, rfl, rfl, ⟨by decide, by decide, by decide⟩, _, _, rfl, rfl, _, rfl, ?_⟩
  refine ite2 (fun c => ?_) (fun c => ?_)
  · exact ⟨_, rfl, _, _, rfl, rfl, ⟨by decide, by decide, by decide⟩, _, _, rfl, rfl, sz (by show 1 ≤ 100000; decide), fun p hp => q p _ hp⟩
  refine ⟨_, rfl, _, _, rfl, rfl, .inr ⟨by decide, by decide⟩, _, rfl, _, _, rfl, rfl, .inl ⟨by decide, by decide⟩, _, _, rfl, rfl, _, _, rfl, rfl, _, rfl, _, _, rfl, rfl, (by show (0 : Int) < 2305843009213693951; decide), ?_⟩
  refine ⟨_, rfl, ?_⟩
  refine ⟨20, rfl, by decide, by decide, for_range (lo := 0) (n := 20) (fun i σ H' => ∃ one found o, σ = [some (.ref a), some (.int k), some (.int z), some (.int 2305843009213693951), some (.int one), some (.int found), o] ∧ H' = H ∧ 0 ≤ one ∧ one < 2305843009213693951) ?_ ?_ ?_⟩
  · exact ⟨_, _, _, rfl, rfl, Int.emod_nonneg _ (by decide), Int.emod_lt_of_pos _ (by decide)⟩
  · rintro i σ H' hi ⟨one, found, o, rfl, rfl, g0, g1⟩
    refine ⟨_, rfl, _, rfl, _, _, rfl, rfl, .inl (b1 one g0 g1), _, rfl, _, _, rfl, rfl, .inl ⟨by decide, by decide⟩, _, _, rfl, rfl, _, rfl, _, _, rfl, rfl, _, _, rfl, rfl, _, rfl, _, _, rfl, rfl, (by show (0 : Int) < 2305843009213693951; decide), ?_⟩
    refine ⟨_, rfl, _, rfl, _, _, rfl, rfl, .inr ⟨by decide, by decide⟩, _, rfl, _, _, rfl, rfl, ?_⟩
    exact ⟨_, _, _, rfl, rfl, Int.emod_nonneg _ (by decide), Int.emod_lt_of_pos _ (by decide)⟩
  · rintro σ H' ⟨one, found, o, rfl, rfl, g0, g1⟩
    exact ⟨_, rfl, sz (by show 1 ≤ 100000; decide), fun p hp => q p _ hp⟩
/-! ### _law_digit -/
def spDig : Sp := fun vs H Q _ => ∃ (tp : Addr) (many : Int), vs = [.ref tp, .int many] ∧ Tp H tp ∧ 0 < many ∧ many ≤ 100000000000000000000000000000000000000000000000000000000000 ∧ ∀ r H', 0 ≤ r → r < many → But1 tp H H' → Tp H' tp → Q (.int r) H'
theorem log_many {m : Int} (h0 : 0 < m) (h1 : m ≤ 100000000000000000000000000000000000000000000000000000000000) : m.natAbs.log2 < 9000 := by
  refine PySem.Flt.log2_lt_of (by decide) (Nat.lt_of_le_of_lt (m := 100000000000000000000000000000000000000000000000000000000000) (by omega) ?_)
  exact Nat.lt_of_lt_of_le (m := 2 ^ 200) (by decide) (Nat.pow_le_pow_right (by decide) (by decide))
abbrev s_law_digit : Stmt := top 33
theorem scLdigit : FnScope ["tape", "many", "found"] ["tape", "many"] (defScope s_law_digit) := ⟨rfl, rfl, rfl, by decide +kernel, rfl, by decide +kernel, by decide +kernel⟩
theorem ok_dig {f : Addr} {fd : FuncData} (F : Fun K "_law_digit" "_law_digit" s_law_digit f fd) : FnOk P w K mg base CX0 1 f fd ["tape", "many"] spDig := by
  refine F.ok scLdigit (fun vs H Q E h => ?_) (fun cdv A outer s H vs Q E hr h => ?_)
  · obtain ⟨tp, many, rfl, _⟩ := h
    rfl
  obtain ⟨tp, many, rfl, ⟨z, hz⟩, h0, h1, q⟩ := h
  refine ⟨_, (pss_cons (ps_set (i := 2) scLdigit.nd rfl (Or.inl rfl) (pe_op op_mod (pe_ix ix_list (pv 0) pe_int (fun _ _ => rfl)) (pv 1)))
    (pss_cons (ps_asg (pe_op op_fdivW (pe_ix ix_list (pv 0) pe_int (fun _ _ => rfl)) (pv 1)) (pg_sub (pv 0) pe_int set_list))
    (pss_one (ps_ret (pv 2))))), ?_⟩
  refine ⟨_, rfl, tp, _, _, _, rfl, rfl, SqL.of hz, at0, _, rfl, _, _, rfl, rfl, h0, ?_⟩
  refine ⟨_, rfl, tp, _, _, _, rfl, rfl, SqL.of hz, at0, _, rfl, _, _, rfl, rfl, ⟨h0, log_many h0 h1⟩, ?_⟩
  refine ⟨_, rfl, tp, _, _, 0, rfl, rfl, hz, rfl, ?_⟩
  refine ⟨_, rfl, q _ _ (Int.emod_nonneg _ (by omega)) (Int.emod_lt_of_pos _ h0) (fun b o n h => ?_) ⟨_, upd_same⟩⟩
  rw [upd_ne n]
  exact h
/-! ### _law_number -/
def spNum : Sp := fun vs H Q _ => ∃ (tp : Addr), vs = [.ref tp] ∧ Tp H tp ∧ ∀ r H', But1 tp H H' → Tp H' tp → 0 ≤ r → r < 1000 → Q (.int r) H'
abbrev s_law_number : Stmt := top 35
theorem scLnumber : FnScope ["tape", "way"] ["tape"] (defScope s_law_number) := ⟨rfl, rfl, rfl, by decide +kernel, rfl, by decide +kernel, by decide +kernel⟩
theorem at_some {xs : List V} {i : Int} (h0 : 0 ≤ i) (h1 : i < (xs.length : Int)) : ∃ v, atI xs i = some v ∧ v ∈ xs := by
  have h : i.toNat < xs.length := by omega
  exact ⟨xs[i.toNat], at_of (j := i.toNat) (by omega) (List.getElem?_eq_getElem h), List.getElem_mem h⟩
theorem ok_num {f g : Addr} {fd gd : FuncData} (F : Fun K "_law_number" "_law_number" s_law_number f fd) (G_law_digit : FnOk P w K mg base CX0 1 g gd ["tape", "many"] spDig) (R_law_digit : Ref K mg "_law_digit" g gd ["tape", "many"]) : FnOk P w K mg base CX0 2 f fd ["tape"] spNum := by
  refine F.ok scLnumber (fun vs H Q E h => ?_) (fun cdv A outer s H vs Q E hr h => ?_)
  · obtain ⟨tp, rfl, _⟩ := h
    rfl
  obtain ⟨tp, rfl, ht, q⟩ := h
  refine ⟨_, (pss_cons (ps_set (i := 1) scLnumber.nd rfl (Or.inl rfl) (pe_call G_law_digit hr rfl R_law_digit.m R_law_digit.k R_law_digit.b .nil pass0 (pa_cons (pv 0) (pa_cons pe_int pa_nil))))
    (pss_cons (ps_if (pt_cmpR op_eq (pv 1) pe_int (nomark _)) (pss_one (ps_ret (pe_call G_law_digit hr rfl R_law_digit.m R_law_digit.k R_law_digit.b .nil pass0 (pa_cons (pv 0) (pa_cons pe_int pa_nil))))) pss_nil)
    (pss_one (ps_ret (pe_ix ix_list (pe_lst (pa_cons pe_int (pa_cons pe_int (pa_cons pe_int (pa_cons pe_int (pa_cons pe_int pa_nil)))))) (pv 1) (fun _ _ => rfl)))))), ?_⟩
  refine ⟨_, rfl, tp, 6, rfl, ht, by decide, by decide, fun r H1 r0 r1 k1 t1 => ?_⟩
  refine ⟨_, rfl, rfl, _, rfl, ?_⟩
  refine ite2 (fun c => ?_) (fun c => ?_)
  · exact ⟨_, rfl, tp, 1000, rfl, t1, by decide, by decide, fun r2 H2 z0 z1 k2 t2 => q r2 H2 (k1.trans k2) t2 z0 z1⟩
  · have c' : r ≠ 5 := fun z => c (decide_eq_true (congrArg V.int z))
    refine ⟨sz (by show 5 ≤ 100000; decide), fun p hp => ?_⟩
    have np : tp ≠ p := by
      obtain ⟨z, hz⟩ := t1
      exact ne_of_none hz hp
    obtain ⟨v, hv, hm⟩ := at_some (xs := [V.int 0, .int 1, .int 1, .int 2, .int 3]) (i := r) r0 (by show r < 5; omega)
    have hi : ∃ n : Int, v = V.int n ∧ 0 ≤ n ∧ n < 1000 := by
      simp only [List.mem_cons, List.not_mem_nil, or_false] at hm
      rcases hm with z | z | z | z | z <;> exact ⟨_, z, by decide, by decide⟩
    obtain ⟨n, rfl, z0, z1⟩ := hi
    refine ⟨_, rfl, p, _, _, _, rfl, rfl, SqL.of upd_same, hv, ?_⟩
    refine q n _ (k1.trans (but_same (same_new hp _))) ?_ z0 z1
    obtain ⟨z, hz⟩ := t1
    exact ⟨z, same_new hp _ _ _ hz⟩
end
end KB

namespace KB
open PySem L2

/-! ### good terms -/
def okH : Hd → Prop
  | .nam x => isV x = true
  | .lett x | .ask x => isW x = true
  | .num z => 0 ≤ z ∧ z < 1000
  | _ => True
def okT : Tm → Prop
  | .mk h _ k => okH h ∧ ∀ i, okT (k i)
def HtLe : Nat → Tm → Prop
  | 0, _ => False
  | n + 1, .mk _ _ k => ∀ i, HtLe n (k i)
theorem HtLe.up : ∀ {n : Nat} {t : Tm}, HtLe n t → HtLe (n + 1) t
  | 0, _, h => h.elim
  | n + 1, .mk _ _ _, h => fun i => HtLe.up (n := n) (h i)
theorem HtLe.le {n m : Nat} {t : Tm} (h : HtLe n t) (e : n ≤ m) : HtLe m t := by
  induction e with
  | refl => exact h
  | step _ ih => exact ih.up
/-- each name within its word's reach, each ask with as many terms as hd says -/
def okN (hd : Str → Option Nat) : Hd → Nat → List Str → Prop
  | .nam x, _, xs => x ∈ xs
  | .ask f, n, _ => hd f = some n
  | _, _, _ => True
def inn : Hd → Nat → List Str → List Str
  | .lett x, 1, xs => xs ++ [x]
  | _, _, xs => xs
def okS (hd : Str → Option Nat) : Tm → List Str → Prop
  | .mk h n k, xs => okN hd h n xs ∧ ∀ i, okS hd (k i) (inn h i.val xs)
def mkL (h : Hd) (ts : List Tm) : Tm := .mk h ts.length fun i => ts.get i
theorem ofFn_get (ts : List Tm) : List.ofFn (fun i => ts.get i) = ts := by
  refine List.ext_getElem (by simp) fun i h1 h2 => ?_
  simp
theorem cnt_mkL {h : Hd} {ts : List Tm} : cnt (mkL h ts) = 1 + cnts ts := by
  unfold mkL
  rw [cnt_mk, ofFn_get]
theorem ok_mkL {h : Hd} {ts : List Tm} (a : okH h) (b : ∀ t ∈ ts, okT t) : okT (mkL h ts) := ⟨a, fun i => b _ (List.get_mem ts i)⟩
theorem ht_mkL {n : Nat} {h : Hd} {ts : List Tm} (b : ∀ t ∈ ts, HtLe n t) : HtLe (n + 1) (mkL h ts) := fun i => b _ (List.get_mem ts i)
theorem sc_mkL {hd : Str → Option Nat} {h : Hd} {ts : List Tm} {xs : List Str} (a : okN hd h ts.length xs) (b : ∀ i t, ts[i]? = some t → okS hd t (inn h i xs)) : okS hd (mkL h ts) xs :=
  ⟨a, fun i => b i.val _ (by rw [List.getElem?_eq_getElem i.isLt]; rfl)⟩
theorem lt_mkL {h : Hd} {ts : List Tm} : letsOf (mkL h ts) = hdLets h ++ letsL ts := by
  unfold mkL
  rw [lets_mk, ofFn_get]
theorem letsL_cons (t : Tm) (r : List Tm) : letsL (t :: r) = letsOf t ++ letsL r := by
  unfold letsL
  rw [List.map_cons, List.flatten_cons]
theorem stk_fn {H : Hp} : ∀ {vs : List V} {ts : List Tm}, Stk H vs ts → ∃ ys : _root_.Fin ts.length → Addr, Rfs ys = vs ∧ ∀ i, At H (ts.get i) (ys i)
  | [], [], _ => ⟨fun i => i.elim0, rfl, fun i => i.elim0⟩
  | v :: vs, t :: ts, h => by
    obtain ⟨⟨b, e, hb⟩, hr⟩ := h
    subst e
    obtain ⟨ys, e1, e2⟩ := stk_fn hr
    refine ⟨fun i => match i with | ⟨0, _⟩ => b | ⟨j + 1, hj⟩ => ys ⟨j, Nat.lt_of_succ_lt_succ hj⟩, ?_, ?_⟩
    · unfold Rfs
      show List.ofFn (n := ts.length + 1) _ = _
      rw [List.ofFn_succ, ← e1]
      rfl
    · rintro ⟨j, hj⟩
      cases j with
      | zero => exact hb
      | succ j => exact e2 ⟨j, Nat.lt_of_succ_lt_succ hj⟩
  | [], _ :: _, h => h.elim
  | _ :: _, [], h => h.elim
theorem at_mkL {H : Hp} {a : Addr} {h : Hd} {vs : List V} {ts : List Tm} (l : Lay H a h vs) (s : Stk H vs ts) : At H (mkL h ts) a := by
  obtain ⟨ys, e1, e2⟩ := stk_fn s
  refine ⟨ys, ?_, e2⟩
  rw [e1]
  exact l
/-- a new good term at a, of at most n terms, within at most d -/
structure Gd (H : Hp) (a : Addr) (n d : Nat) (hd : Str → Option Nat) (xs ls : List Str) (t : Tm) : Prop where
  at_ : At H t a
  ok : okT t
  cn : cnt t ≤ n
  dp : HtLe d t
  sc : okS hd t xs
  lt : letsOf t = ls
theorem Gd.tk {H H' : Hp} {a : Addr} {n d : Nat} {hd : Str → Option Nat} {xs ls : List Str} {t : Tm} (e : TK H H') (g : Gd H a n d hd xs ls t) : Gd H' a n d hd xs ls t := ⟨g.at_.tk e, g.ok, g.cn, g.dp, g.sc, g.lt⟩
theorem Gd.le {H : Hp} {a : Addr} {n d m e : Nat} {hd : Str → Option Nat} {xs ls : List Str} {t : Tm} (g : Gd H a n d hd xs ls t) (h1 : n ≤ m) (h2 : d ≤ e) : Gd H a m e hd xs ls t := ⟨g.at_, g.ok, Nat.le_trans g.cn h1, g.dp.le h2, g.sc, g.lt⟩
theorem gd_num {H : Hp} {a : Addr} {z : Int} {hd : Str → Option Nat} {xs : List Str} (l : Lay H a (.num z) []) (o : 0 ≤ z ∧ z < 1000) : Gd H a 1 1 hd xs [] (mkL (.num z) []) :=
  ⟨at_mkL l trivial, ok_mkL o (fun _ z => nomatch z), (by rw [cnt_mkL]; exact Nat.le_refl 1), ht_mkL (n := 0) (fun _ z => nomatch z), sc_mkL trivial (fun _ _ z => by simp at z), lt_mkL⟩
theorem gd_nam {H : Hp} {a : Addr} {x : Str} {hd : Str → Option Nat} {xs : List Str} (l : Lay H a (.nam x) []) (o : isW x = true) (m : x ∈ xs) : Gd H a 1 1 hd xs [] (mkL (.nam x) []) :=
  ⟨at_mkL l trivial, ok_mkL (isV_of o) (fun _ z => nomatch z), (by rw [cnt_mkL]; exact Nat.le_refl 1), ht_mkL (n := 0) (fun _ z => nomatch z), sc_mkL m (fun _ _ z => by simp at z), lt_mkL⟩

section
variable {P : Program} {w : World} {K : PySem.W.Frag} {mg : Str → Option Value} {base : Heap}
/-! ### _law_leaf -/
def spLeaf : Sp := fun vs H Q _ => ∃ (tp : Addr) (kv : V) (ar : Addr) (xs : List Str), vs = [.ref tp, kv, .ref ar] ∧ Tp H tp ∧ Wls H ar xs ∧ xs.length ≤ 1000 ∧ ∀ a t H', But1 tp H H' → Tp H' tp → (∀ hd, Gd H' a 1 1 hd xs [] t) → Q (.ref a) H'
abbrev s_law_leaf : Stmt := top 36
theorem scLleaf : FnScope ["tape", "known", "around"] ["tape", "known", "around"] (defScope s_law_leaf) := ⟨rfl, rfl, rfl, by decide +kernel, rfl, by decide +kernel, by decide +kernel⟩
theorem Tp.same {H H' : Hp} {tp : Addr} (e : Same H H') (t : Tp H tp) : Tp H' tp := let ⟨z, h⟩ := t; ⟨z, e _ _ h⟩
theorem ok_leaf (T : Txt K mg) {f g h : Addr} {fd gd hd : FuncData} (F : Fun K "_law_leaf" "_law_leaf" s_law_leaf f fd) (G_law_digit : FnOk P w K mg base CX0 1 g gd ["tape", "many"] spDig) (R_law_digit : Ref K mg "_law_digit" g gd ["tape", "many"])
    (G_law_number : FnOk P w K mg base CX0 2 h hd ["tape"] spNum) (R_law_number : Ref K mg "_law_number" h hd ["tape"]) : FnOk P w K mg base CX0 3 f fd ["tape", "known", "around"] spLeaf := by
  refine F.ok scLleaf (fun vs H Q E h => ?_) (fun cdv A outer s H vs Q E hr h => ?_)
  · obtain ⟨tp, kv, ar, xs, rfl, _⟩ := h
    rfl
  obtain ⟨tp, kv, ar, xs, rfl, ht, hw, hl, q⟩ := h
  refine ⟨_, (pss_cons (ps_if (PW.pt (pw_and (pt_cmpR (op_neD hr.units) (pv 2) (pe_lst pa_nil) (nomark _)) (pw_and1 (pt_cmpR op_gt (pe_call G_law_digit (hr.mono (by omega)) rfl R_law_digit.m R_law_digit.k R_law_digit.b .nil pass0 (pa_cons (pv 0) (pa_cons pe_int pa_nil))) pe_int (nomark _))))) (pss_one (ps_ret (pe_tup (pa_cons pe_str (pa_cons (pe_ix ix_list (pv 2) (pe_call G_law_digit (hr.mono (by omega)) rfl R_law_digit.m R_law_digit.k R_law_digit.b .nil pass0 (pa_cons (pv 0) (pa_cons (pe_callB call_len_seq (by rfl) T.m_len PySem.boot_len (pa_cons (pv 2) pa_nil)) pa_nil))) (fun _ _ => rfl)) pa_nil))))) pss_nil)
    (pss_one (ps_ret (pe_tup (pa_cons pe_str (pa_cons (pe_call G_law_number hr rfl R_law_number.m R_law_number.k R_law_number.b .nil pass0 (pa_cons (pv 0) pa_nil)) pa_nil)))))), ?_⟩
  have numW : ∀ H1, But1 tp H H1 → Tp H1 tp → (tRet (tTup (tCons (tC (.str "number")) (tCons (tCall spNum [] E0 (tCons (tVar 0) tNil)) tNil)))) { nx := fun x H' => Q V.non H', rt := Q } [some (.ref tp), some kv, some (.ref ar)] H1 := by
    intro H1 k1 t1
    refine ⟨_, rfl, tp, rfl, t1, fun r H2 k2 t2 r0 r1 => ⟨sz (by show 2 ≤ 100000; decide), fun p hp => ?_⟩⟩
    have s := same_new hp (.tup [.str "number", .int r])
    exact q p (mkL (.num r) []) _ ((k1.trans k2).trans (but_same s)) (t2.same s) (fun _ => gd_num ⟨rfl, upd_same⟩ ⟨r0, r1⟩)
  refine ⟨_, rfl, sz (by show 0 ≤ 100000; decide), fun p0 hp0 => ?_⟩
  have s0 := same_new hp0 (.lst [])
  refine ⟨.list (xs.map PyData.str), .list [], .lst (SqL.of (s0 _ _ hw.1)) (dp_strs xs), .lst (SqL.of upd_same) .nil, shaped_strs hw.2, rfl, _, rfl, ?_⟩
  rw [eqv_nil]
  cases xs with
  | nil => exact iteF (numW _ (but_same s0) (ht.same s0))
  | cons x0 xr =>
    refine iteT ⟨_, rfl, tp, 3, rfl, ht.same s0, by decide, by decide, fun r H1 r0 r1 k1 t1 => ?_⟩
    have k01 := (but_same s0).trans k1
    refine ⟨_, _, rfl, rfl, _, rfl, ?_⟩
    refine ite2 (fun c => ?_) (fun c => ?_)
    · have w1 := hw.but k01 ht
      refine ⟨_, rfl, _, rfl, _, rfl, ar, _, rfl, .inl (SqL.of w1.1), tp, _, rfl, t1, ?_, ?_, fun r2 H2 r3 r4 k2 t2 => ?_⟩
      · show (0 : Int) < (((x0 :: xr).map V.str).length : Nat)
        rw [List.length_map, List.length_cons]
        omega
      · rw [List.length_map]
        omega
      have w2 := w1.but k2 t1
      obtain ⟨v, hv, hm⟩ := at_some r3 r4
      obtain ⟨z, hz, rfl⟩ := List.mem_map.mp hm
      refine ⟨ar, _, _, _, rfl, rfl, SqL.of w2.1, hv, sz (by show 2 ≤ 100000; decide), fun p hp => ?_⟩
      have s := same_new hp (.tup [.str "name", .str z])
      exact q p (mkL (.nam z) []) _ ((k01.trans k2).trans (but_same s)) (t2.same s) (fun _ => gd_nam ⟨rfl, upd_same⟩ (hw.2 z hz) hz)
    · exact numW _ k01 t1
/-! ### _law_shares -/
def spShr : Sp := fun vs H Q _ => ∃ (tp : Addr) (room many : Int), vs = [.ref tp, .int room, .int many] ∧ Tp H tp ∧ 0 ≤ many ∧ many ≤ room ∧ room ≤ 1000 ∧
  ∀ (p : Addr) (xs : List Int) (H' : Hp), But1 tp H H' → Tp H' tp → H p = none → H' p = some (.lst (xs.map V.int)) → (xs.length : Int) = many → (∀ x ∈ xs, (1 : Int) ≤ x) → xs.sum ≤ room → Q (.ref p) H'
abbrev s_law_shares : Stmt := top 37
theorem scLshares : FnScope ["tape", "room", "many", "found", "left", "k", "more"] ["tape", "room", "many"] (defScope s_law_shares) := ⟨rfl, rfl, rfl, by decide +kernel, rfl, by decide +kernel, by decide +kernel⟩
theorem rep1 (n : Nat) : (List.replicate n [V.int 1]).flatten = (List.replicate n (1 : Int)).map V.int := by
  induction n with
  | zero => rfl
  | succ n ih =>
    rw [List.replicate_succ, List.flatten_cons, ih, List.replicate_succ]
    rfl
theorem sum1 (n : Nat) : (List.replicate n (1 : Int)).sum = n := by
  induction n with
  | zero => rfl
  | succ n ih =>
    rw [List.replicate_succ, List.sum_cons, ih]
    omega
theorem ok_shares (T : Txt K mg) {f g : Addr} {fd gd : FuncData} (F : Fun K "_law_shares" "_law_shares" s_law_shares f fd) (G_law_digit : FnOk P w K mg base CX0 1 g gd ["tape", "many"] spDig) (R_law_digit : Ref K mg "_law_digit" g gd ["tape", "many"]) : FnOk P w K mg base CX0 2 f fd ["tape", "room", "many"] spShr := by
  refine F.ok scLshares (fun vs H Q E h => ?_) (fun cdv A outer s H vs Q E hr h => ?_)
  · obtain ⟨tp, room, many, rfl, _⟩ := h
    rfl
  obtain ⟨tp, room, many, rfl, ht, h0, h1, h2, q⟩ := h
  refine ⟨_, (pss_cons (ps_set (i := 3) scLshares.nd rfl (Or.inl rfl) (pe_op op_rep (pe_lst (pa_cons pe_int pa_nil)) (pv 2)))
    (pss_cons (ps_set (i := 4) scLshares.nd rfl (Or.inl rfl) (pe_op op_sub (pv 1) (pv 2)))
    (pss_cons (ps_for PassesOwn.never rfl (pi_range1 rfl T.m_range (pa_cons (pv 2) pa_nil)) (pg_name (i := 5) scLshares.nd rfl (Or.inl rfl)) (pss_cons (ps_set (i := 6) scLshares.nd rfl (Or.inl rfl) (pe_call G_law_digit hr rfl R_law_digit.m R_law_digit.k R_law_digit.b .nil pass0 (pa_cons (pv 0) (pa_cons (pe_op op_add (pv 4) pe_int) pa_nil))))
    (pss_cons (ps_asg (pe_op op_add (pe_ix ix_list (pv 3) (pv 5) (fun _ _ => rfl)) (pv 6)) (pg_sub (pv 3) (pv 5) set_list))
    (pss_one (ps_set (i := 4) scLshares.nd rfl (Or.inl rfl) (pe_op op_sub (pv 4) (pv 6)))))))
    (pss_one (ps_ret (pv 3)))))), ?_⟩
  refine ⟨sz (by show 1 ≤ 100000; decide), fun p1 hp1 => ?_⟩
  have s1 := same_new hp1 (.lst [.int 1])
  refine ⟨_, rfl, p1, _, _, rfl, rfl, upd_same, by omega, by omega, sz (by show 1 * many.toNat ≤ 100000; omega), fun fl hfl => ?_⟩
  have s2 := same_new hfl (.lst (List.replicate many.toNat [V.int 1]).flatten)
  have s12 := s1.trans s2
  have hfl0 : H fl = none := s1.free hfl
  have f1 : upd (upd H p1 (.lst [.int 1])) fl (.lst (List.replicate many.toNat [V.int 1]).flatten) fl = some (.lst ((List.replicate many.toNat (1 : Int)).map V.int)) := by
    rw [upd_same, rep1]
  refine ⟨_, rfl, _, rfl, _, _, rfl, rfl, ?_⟩
  refine ⟨_, rfl, many, rfl, by omega, by omega, ?_⟩
  have ntp : fl ≠ tp := by
    obtain ⟨z, hz⟩ := ht
    exact (ne_of_none hz hfl0).symm
  refine for_range (lo := 0) (n := many.toNat) (fun i σ H' => ∃ left o5 o6 xs, σ = [some (.ref tp), some (.int room), some (.int many), some (.ref fl), some (.int left), o5, o6] ∧ But1 tp H H' ∧ Tp H' tp ∧ H' fl = some (.lst ((xs : List Int).map V.int)) ∧
    (xs.length : Int) = many ∧ (∀ x ∈ xs, (1 : Int) ≤ x) ∧ xs.sum + left = room ∧ 0 ≤ left) ?_ ?_ ?_
  · refine ⟨_, _, _, List.replicate many.toNat 1, rfl, but_same s12, ht.same s12, f1, ?_, ?_, ?_, by omega⟩
    · rw [List.length_replicate]
      omega
    · intro x hx
      rw [(List.mem_replicate.mp hx).2]
      decide
    · rw [sum1]
      omega
  · rintro i σ H1 hi ⟨left, o5, o6, xs, rfl, k1, t1, g1, g2, g3, g4, g5⟩
    refine ⟨_, rfl, _, rfl, _, _, rfl, rfl, tp, _, rfl, t1, by omega, ?_, fun r H2 r0 r1 k2 t2 => ?_⟩
    · have : xs.sum ≥ 0 := by
        clear g1 g2 g4
        induction xs with
        | nil => decide
        | cons x r ih =>
          have e1 := g3 x List.mem_cons_self
          have e2 := ih fun y hy => g3 y (List.mem_cons_of_mem _ hy)
          rw [List.sum_cons]
          omega
      omega
    have g6 := k2 _ _ ntp g1
    have hi2 : i < xs.length := by omega
    have hx : xs[i]? = some xs[i] := List.getElem?_eq_getElem hi2
    have e0 : (0 : Int) + (i : Nat) = ((i : Nat) : Int) := by omega
    refine ⟨_, rfl, _, rfl, fl, _, _, .int xs[i], rfl, rfl, SqL.of g6, ?_, _, rfl, _, _, rfl, rfl, ?_⟩
    · rw [e0]
      exact atI_nat (by rw [List.getElem?_map, hx]; rfl)
    refine ⟨_, rfl, _, rfl, fl, _, _, i, rfl, rfl, g6, ?_, ?_⟩
    · rw [e0, List.length_map]
      unfold ixN
      rw [if_pos (by omega), if_pos (by omega)]
      rfl
    refine ⟨_, rfl, _, rfl, _, _, rfl, rfl, ?_⟩
    refine ⟨_, _, _, xs.set i (xs[i] + r), rfl, fun b o n h => ?_, ?_, ?_, ?_, ?_, ?_, by omega⟩
    · by_cases e : b = fl
      · subst e
        rw [hfl0] at h
        cases h
      · rw [upd_ne e]
        exact k2 _ _ n (k1 _ _ n h)
    · obtain ⟨z, hz⟩ := t2
      exact ⟨z, by rw [upd_ne (Ne.symm ntp)]; exact hz⟩
    · rw [upd_same, List.map_set]
    · rw [List.length_set]
      exact g2
    · intro x hx'
      rcases List.mem_or_eq_of_mem_set hx' with z | z
      · exact g3 x z
      · have := g3 _ (List.getElem_mem hi2)
        omega
    · rw [sum_set hx]
      omega
  · rintro σ H1 ⟨left, o5, o6, xs, rfl, k1, t1, g1, g2, g3, g4, g5⟩
    exact ⟨_, rfl, q fl xs H1 k1 t1 hfl0 g1 g2 g3 (by omega)⟩
/-! ### _law_less_one -/
theorem simple_mkL {h : Hd} {ts : List Tm} (a : flatHd h = true) (b : ∀ t ∈ ts, simple t = true) : simple (mkL h ts) = true := by
  unfold mkL simple
  rw [a, Bool.true_and, List.all_eq_true]
  intro x hx
  obtain ⟨i, rfl⟩ := List.mem_ofFn.mp hx
  exact b _ (List.get_mem ts i)
def spLess : Sp := fun vs H Q _ => ∃ (ar : Addr) (xs : List Str), vs = [.ref ar] ∧ Wls H ar xs ∧ ∀ a t H', Same H H' → (∀ hd, Gd H' a 3 2 hd xs [] t) → simple t = true → Q (.ref a) H'
abbrev s_law_less_one : Stmt := top 38
theorem scLless_one : FnScope ["around"] ["around"] (defScope s_law_less_one) := ⟨rfl, rfl, rfl, by decide +kernel, rfl, by decide +kernel, by decide +kernel⟩
theorem ok_less {f : Addr} {fd : FuncData} (F : Fun K "_law_less_one" "_law_less_one" s_law_less_one f fd) : FnOk P w K mg base CX0 1 f fd ["around"] spLess := by
  refine F.ok scLless_one (fun vs H Q E h => ?_) (fun cdv A outer s H vs Q E hr h => ?_)
  · obtain ⟨ar, xs, rfl, _⟩ := h
    rfl
  obtain ⟨ar, xs, rfl, hw, q⟩ := h
  refine ⟨_, (pss_cons (ps_if (pt_cmpR (op_eqD hr.units) (pv 0) (pe_lst pa_nil) (nomark _)) (pss_one (ps_ret (pe_tup (pa_cons pe_str (pa_cons pe_int pa_nil))))) pss_nil)
    (pss_one (ps_ret (pe_tup (pa_cons pe_str (pa_cons (pe_tup (pa_cons pe_str (pa_cons (pe_ix ix_list (pv 0) pe_int (fun _ _ => rfl)) pa_nil))) (pa_cons (pe_tup (pa_cons pe_str (pa_cons pe_int pa_nil))) pa_nil))))))), ?_⟩
  refine ⟨_, rfl, sz (by show 0 ≤ 100000; decide), fun p0 hp0 => ?_⟩
  have s0 := same_new hp0 (.lst [])
  refine ⟨.list (xs.map PyData.str), .list [], .lst (SqL.of (s0 _ _ hw.1)) (dp_strs xs), .lst (SqL.of upd_same) .nil, shaped_strs hw.2, rfl, _, rfl, ?_⟩
  rw [eqv_nil]
  cases xs with
  | nil =>
    refine iteT ⟨sz (by show 2 ≤ 100000; decide), fun p hp => ?_⟩
    exact q p (mkL (.num 0) []) _ (s0.trans (same_new hp _)) (fun _ => (gd_num ⟨rfl, upd_same⟩ (by decide)).le (by decide) (by decide)) (simple_mkL rfl (fun _ z => nomatch z))
  | cons x0 xr =>
    refine iteF ⟨_, rfl, ar, _, _, _, rfl, rfl, SqL.of (s0 _ _ hw.1), at0, sz (by show 2 ≤ 100000; decide), fun p1 hp1 => ?_⟩
    have s1 := same_new hp1 (.tup [.str "name", .str x0])
    refine ⟨sz (by show 2 ≤ 100000; decide), fun p2 hp2 => ?_⟩
    have s2 := same_new hp2 (.tup [.str "number", .int 1])
    refine ⟨sz (by show 3 ≤ 100000; decide), fun p3 hp3 => ?_⟩
    have s3 := same_new hp3 (.tup [.str "less", .ref p1, .ref p2])
    have s23 := s2.trans s3
    have l1 : Lay _ p1 (.nam x0) [] := ⟨rfl, s23 _ _ upd_same⟩
    have l2 : Lay _ p2 (.num 1) [] := ⟨rfl, s3 _ _ upd_same⟩
    refine q p3 (mkL .less [mkL (.nam x0) [], mkL (.num 1) []]) _ (s0.trans (s1.trans s23)) (fun hd => ?_) (simple_mkL rfl fun t ht => by
      simp only [List.mem_cons, List.not_mem_nil, or_false] at ht
      rcases ht with z | z <;> subst z <;> exact simple_mkL rfl (fun _ z => nomatch z))
    have g1 := gd_nam (hd := hd) (xs := x0 :: xr) l1 (hw.2 x0 List.mem_cons_self) List.mem_cons_self
    have g2 := gd_num (hd := hd) (xs := x0 :: xr) l2 (by decide)
    refine ⟨?_, ?_, ?_, ?_, ?_, ?_⟩
    · exact at_mkL (vs := [.ref p1, .ref p2]) ⟨rfl, upd_same⟩ ⟨⟨p1, rfl, g1.at_⟩, ⟨p2, rfl, g2.at_⟩, trivial⟩
    · refine ok_mkL trivial fun t ht => ?_
      simp only [List.mem_cons, List.not_mem_nil, or_false] at ht
      rcases ht with z | z
      · subst z
        exact g1.ok
      · subst z
        exact g2.ok
    · have c1 := g1.cn
      have c2 := g2.cn
      rw [cnt_mkL, cnts_cons, cnts_cons]
      show 1 + (_ + (_ + 0)) ≤ 3
      omega
    · refine ht_mkL fun t ht => ?_
      simp only [List.mem_cons, List.not_mem_nil, or_false] at ht
      rcases ht with z | z
      · subst z
        exact g1.dp
      · subst z
        exact g2.dp
    · refine sc_mkL trivial fun i t hi => ?_
      match i, hi with
      | 0, hi =>
        cases (Option.some.inj hi)
        exact g1.sc
      | 1, hi =>
        cases (Option.some.inj hi)
        exact g2.sc
      | i + 2, hi => simp at hi
    · rw [lt_mkL, letsL_cons, letsL_cons, g1.lt, g2.lt]
      rfl
end
end KB

namespace KB
open PySem L2

/-! ### parts of turned books as data -/
inductive Pt
  | give (j : Str) (t : Tm)
  | ask (f : Str) (ts : List Tm) (j : Str)
  | tell (x : Str) (t : Tm) (p : Pt)
  | lett (x : Str) (t : Tm) (p : Pt)
  | iff (t : Tm) (p q : Pt)
  | post (j x : Str) (p q : Pt)
def RefV (H : Hp) (t : Tm) (v : V) : Prop := ∃ b, v = .ref b ∧ At H t b
def PAt (H : Hp) : Pt → Addr → Prop
  | .give j t, a => ∃ b, H a = some (.tup [.str "give", .str j, .ref b]) ∧ At H t b
  | .ask f ts j, a => ∃ q vs, H a = some (.tup [.str "ask", .str f, .ref q, .str j]) ∧ H q = some (.tup vs) ∧ All2 (RefV H) ts vs
  | .tell x t p, a => ∃ b c, H a = some (.tup [.str "tell", .str x, .ref b, .ref c]) ∧ At H t b ∧ PAt H p c
  | .lett x t p, a => ∃ b c, H a = some (.tup [.str "let", .str x, .ref b, .ref c]) ∧ At H t b ∧ PAt H p c
  | .iff t p q, a => ∃ b c d, H a = some (.tup [.str "if", .ref b, .ref c, .ref d]) ∧ At H t b ∧ PAt H p c ∧ PAt H q d
  | .post j x p q, a => ∃ c d, H a = some (.tup [.str "post", .str j, .str x, .ref c, .ref d]) ∧ PAt H p c ∧ PAt H q d
theorem RefV.tk {H H' : Hp} (k : TK H H') {t : Tm} {v : V} (h : RefV H t v) : RefV H' t v := let ⟨b, e, g⟩ := h; ⟨b, e, g.tk k⟩
theorem PAt.tk {H H' : Hp} (k : TK H H') : ∀ {p : Pt} {a : Addr}, PAt H p a → PAt H' p a
  | .give j t, a, ⟨b, h1, h2⟩ => ⟨b, k _ _ h1, h2.tk k⟩
  | .ask f ts j, a, ⟨q, vs, h1, h2, h3⟩ => ⟨q, vs, k _ _ h1, k _ _ h2, h3.imp fun _ _ z => z.tk k⟩
  | .tell x t p, a, ⟨b, c, h1, h2, h3⟩ => ⟨b, c, k _ _ h1, h2.tk k, PAt.tk k h3⟩
  | .lett x t p, a, ⟨b, c, h1, h2, h3⟩ => ⟨b, c, k _ _ h1, h2.tk k, PAt.tk k h3⟩
  | .iff t p q, a, ⟨b, c, d, h1, h2, h3, h4⟩ => ⟨b, c, d, k _ _ h1, h2.tk k, PAt.tk k h3, PAt.tk k h4⟩
  | .post j x p q, a, ⟨c, d, h1, h2, h3⟩ => ⟨c, d, k _ _ h1, PAt.tk k h2, PAt.tk k h3⟩
/-- a simple term within words -/
structure SmT (hd : Str → Option Nat) (xs : List Str) (t : Tm) : Prop where
  ok : okT t
  si : simple t = true
  sc : okS hd t xs
  cn : cnt t ≤ 3
  ht : HtLe 2 t
def okP (hd : Str → Option Nat) : Pt → List Str → List Str → Prop
  | .give j t, xs, hs => j ∈ hs ∧ SmT hd xs t
  | .ask f ts j, xs, hs => j ∈ hs ∧ isW f = true ∧ hd f = some ts.length ∧ ts.length ≤ 4 ∧ ∀ t ∈ ts, SmT hd xs t
  | .tell x t p, xs, hs => isW x = true ∧ SmT hd xs t ∧ okP hd p (xs ++ [x]) hs
  | .lett x t p, xs, hs => isW x = true ∧ SmT hd xs t ∧ okP hd p (xs ++ [x]) hs
  | .iff t p q, xs, hs => SmT hd xs t ∧ okP hd p xs hs ∧ okP hd q xs hs
  | .post j x p q, xs, hs => isW j = true ∧ isW x = true ∧ okP hd p (xs ++ [x]) hs ∧ okP hd q xs (hs ++ [j])
def pcnt : Pt → Nat
  | .give _ _ => 1
  | .ask _ _ _ => 1
  | .tell _ _ p => 1 + pcnt p
  | .lett _ _ p => 1 + pcnt p
  | .iff _ p q => 1 + pcnt p + pcnt q
  | .post _ _ p q => 1 + pcnt p + pcnt q
/-- the words and the posts' words that a part binds, as they are met -/
def wP : Pt → List Str
  | .give _ _ => []
  | .ask _ _ _ => []
  | .tell x _ p => x :: wP p
  | .lett x _ p => x :: wP p
  | .iff _ p q => wP p ++ wP q
  | .post _ x p q => x :: (wP p ++ wP q)
def jP : Pt → List Str
  | .give _ _ => []
  | .ask _ _ _ => []
  | .tell _ _ p => jP p
  | .lett _ _ p => jP p
  | .iff _ p q => jP p ++ jP q
  | .post j _ p q => j :: (jP p ++ jP q)

/-! ### what the generator of parts has at hand -/
def But3 (tp wl pl : Addr) (H H' : Hp) : Prop := ∀ b o, b ≠ tp → b ≠ wl → b ≠ pl → H b = some o → H' b = some o
theorem But3.refl (tp wl pl : Addr) (H : Hp) : But3 tp wl pl H H := fun _ _ _ _ _ h => h
theorem But3.trans {tp wl pl : Addr} {H H1 H2 : Hp} (a : But3 tp wl pl H H1) (b : But3 tp wl pl H1 H2) : But3 tp wl pl H H2 := fun x o n m l h => b x o n m l (a x o n m l h)
theorem But1.three {tp wl pl : Addr} {H H' : Hp} (a : But1 tp H H') : But3 tp wl pl H H' := fun x o n _ _ h => a x o n h
theorem but3_same {tp wl pl : Addr} {H H' : Hp} (e : Same H H') : But3 tp wl pl H H' := fun b o _ _ _ h => e b o h
abbrev kgE : Key := Sum.inr "errands"
abbrev kgH : Key := Sum.inr "heads"
abbrev kgW : Key := Sum.inr "words"
abbrev kgR : Key := Sum.inr "room"
abbrev kgP : Key := Sum.inr "posts"
abbrev kgS : Key := Sum.inr "straight"
def knT (el hd wl pl : Addr) (room : Int) (st : Bool) : List (Key × V) := [(kgE, .ref el), (kgH, .ref hd), (kgW, .ref wl), (kgR, .int room), (kgP, .ref pl), (kgS, .bl st)]
structure GT (H : Hp) (tp kd wl pl : Addr) (hF : Str → Option Nat) (ws js : List Str) : Prop where
  t : Tp H tp
  w : Wls H wl ws
  p : Wls H pl js
  wn : ws.length ≤ 100
  pn : js.length ≤ 100
  wp : wl ≠ pl
  k : ∃ el hd fs kvs room st, H kd = some (.dK (knT el hd wl pl room st)) ∧ 1 ≤ room ∧ room ≤ 9 ∧ el ≠ wl ∧ el ≠ pl ∧ Wls H el fs ∧ 0 < fs.length ∧ fs.length ≤ 100 ∧ H hd = some (.dK kvs) ∧ ∀ f ∈ fs, ∃ n : Int, valV kvs (Sum.inr f) = some (.int n) ∧ 0 ≤ n ∧ n ≤ 4 ∧ hF f = some n.toNat
section
variable {H H' : Hp} {tp kd wl pl : Addr} {hF : Str → Option Nat} {ws js ws' js' : List Str}
theorem GT.ntk (g : GT H tp kd wl pl hF ws js) {a : Addr} {o : HO} (h : H a = some o) (hn : ∀ xs, o ≠ .lst xs) : a ≠ tp ∧ a ≠ wl ∧ a ≠ pl := by
  obtain ⟨z, hz⟩ := g.t
  exact ⟨ne_of h hz (hn _), ne_of h g.w.1 (hn _), ne_of h g.p.1 (hn _)⟩
theorem GT.tk (g : GT H tp kd wl pl hF ws js) (b : But3 tp wl pl H H') : TK H H' := fun a _ h => by
  obtain ⟨n1, n2, n3⟩ := g.ntk h (fun _ z => nomatch z)
  exact b a _ n1 n2 n3 h
theorem GT.step (g : GT H tp kd wl pl hF ws js) (b : But3 tp wl pl H H') (t : Tp H' tp) (w : Wls H' wl ws') (p : Wls H' pl js') (wn : ws'.length ≤ 100) (pn : js'.length ≤ 100) : GT H' tp kd wl pl hF ws' js' := by
  obtain ⟨el, hd, fs, kvs, room, st, k1, r1, r2, k2, k2', k3, k4, k5, k6, k7⟩ := g.k
  refine ⟨t, w, p, wn, pn, g.wp, el, hd, fs, kvs, room, st, ?_, r1, r2, k2, k2', ⟨b _ _ (wls_tp k3.1 g.t) k2 k2' k3.1, k3.2⟩, k4, k5, ?_, k7⟩
  · obtain ⟨n1, n2, n3⟩ := g.ntk k1 (fun _ z => nomatch z)
    exact b _ _ n1 n2 n3 k1
  · obtain ⟨n1, n2, n3⟩ := g.ntk k6 (fun _ z => nomatch z)
    exact b _ _ n1 n2 n3 k6
theorem GT.one (g : GT H tp kd wl pl hF ws js) (b : But1 tp H H') (t : Tp H' tp) : GT H' tp kd wl pl hF ws js := g.step b.three t (g.w.but b g.t) (g.p.but b g.t) g.wn g.pn
theorem GT.same (g : GT H tp kd wl pl hF ws js) (e : Same H H') : GT H' tp kd wl pl hF ws js := g.one (but_same e) (g.t.same e)
theorem Wls.three {a : Addr} {xs : List Str} (e : But3 tp wl pl H H') (g : GT H tp kd wl pl hF ws js) (n : a ≠ wl) (m : a ≠ pl) (h : Wls H a xs) : Wls H' a xs := ⟨e _ _ (wls_tp h.1 g.t) n m h.1, h.2⟩
theorem GT.new (g : GT H tp kd wl pl hF ws js) {p : Addr} (h : H p = none) : p ≠ tp ∧ p ≠ wl ∧ p ≠ pl := by
  obtain ⟨z, hz⟩ := g.t
  exact ⟨(ne_of_none hz h).symm, (ne_of_none g.w.1 h).symm, (ne_of_none g.p.1 h).symm⟩
variable {el hd : Addr} {room : Int} {st : Bool}
theorem gt_errands (h : H kd = some (.dK (knT el hd wl pl room st))) : DGet H kd (.str "errands") (some (.ref el)) := DGet.k (k := kgE) h
theorem gt_heads (h : H kd = some (.dK (knT el hd wl pl room st))) : DGet H kd (.str "heads") (some (.ref hd)) := DGet.k (k := kgH) h
theorem gt_words (h : H kd = some (.dK (knT el hd wl pl room st))) : DGet H kd (.str "words") (some (.ref wl)) := DGet.k (k := kgW) h
theorem gt_room (h : H kd = some (.dK (knT el hd wl pl room st))) : DGet H kd (.str "room") (some (.int room)) := DGet.k (k := kgR) h
theorem gt_posts (h : H kd = some (.dK (knT el hd wl pl room st))) : DGet H kd (.str "posts") (some (.ref pl)) := DGet.k (k := kgP) h
theorem gt_straight (h : H kd = some (.dK (knT el hd wl pl room st))) : DGet H kd (.str "straight") (some (.bl st)) := DGet.k (k := kgS) h
end
theorem get_of {H : Hp} {hd : Addr} {kvs : List (Key × V)} {f : Str} {v : V} (h : H hd = some (.dK kvs)) (e : valV kvs (Sum.inr f) = some v) : DGet H hd (.str f) (some v) := by
  have := DGet.k (k := Sum.inr f) h
  rw [e] at this
  exact this
/-- the hand-ons around -/
def Hls (H : Hp) (a : Addr) (hs : List Str) : Prop := H a = some (.lst (hs.map V.str))
end KB

namespace KB
open PySem L2

section
variable {P : Program} {w : World} {K : PySem.W.Frag} {mg : Str → Option Value} {base : Heap}
/-! ### _law_simple -/
/-- a simple term at a, of at most n terms, within d -/
structure GdS (H : Hp) (a : Addr) (n d : Nat) (hd : Str → Option Nat) (xs : List Str) (t : Tm) : Prop where
  g : Gd H a n d hd xs [] t
  s : simple t = true
def spSimple (n : Nat) : Sp := fun vs H Q _ => ∃ (tp ar : Addr) (xs : List Str), vs = [.ref tp, .ref ar, .int n] ∧ Tp H tp ∧ Wls H ar xs ∧ xs.length ≤ 1000 ∧ n ≤ 1 ∧ ∀ a t H', But1 tp H H' → Tp H' tp → (∀ hd, GdS H' a (2 * n + 1) (n + 1) hd xs t) → Q (.ref a) H'
abbrev s_law_simple : Stmt := top 39
theorem scLsimple : FnScope ["tape", "around", "deep", "one"] ["tape", "around", "deep"] (defScope s_law_simple) := ⟨rfl, rfl, rfl, by decide +kernel, rfl, by decide +kernel, by decide +kernel⟩
theorem leaf_simple {H : Hp} {a : Addr} {xs : List Str} {t : Tm} (g : ∀ hd, Gd H a 1 1 hd xs [] t) : simple t = true := by
  have g0 := g fun _ => none
  cases t with
  | mk h n k =>
    have hc := g0.cn
    rw [cnt_mk] at hc
    have hn : n = 0 := by
      cases n with
      | zero => rfl
      | succ m =>
        exfalso
        rw [List.ofFn_succ, cnts_cons] at hc
        have := cnt_pos (k 0)
        omega
    subst hn
    obtain ⟨ys, l, _⟩ := g0.at_
    have hl : (Rfs ys).length = 0 := by
      unfold Rfs
      rw [List.length_ofFn]
    have hs := g0.sc.1
    cases h with
    | num z => rfl
    | nam x => rfl
    | plus => rfl
    | less => rfl
    | tell =>
      have := l.1
      omega
    | lett x =>
      have := l.1
      omega
    | iff =>
      have := l.1
      omega
    | ask f => cases hs
def spPrev : Nat → Sp
  | 0 => fun _ _ _ _ => False
  | n + 1 => spSimple n
theorem two_simple {H : Hp} {p a b : Addr} {hd : Str → Option Nat} {xs : List Str} {h : Hd} {t u : Tm} (hh : h = .plus ∨ h = .less) (g1 : GdS H a 1 1 hd xs t) (g2 : GdS H b 1 1 hd xs u) (hp : H p = some (.tup [.str (hs h), .ref a, .ref b])) : GdS H p 3 2 hd xs (mkL h [t, u]) := by
  have both : ∀ (Pr : Tm → Prop), Pr t → Pr u → ∀ x ∈ [t, u], Pr x := fun Pr h1 h2 x hx => by
    rcases List.mem_cons.mp hx with z | z
    · rw [z]
      exact h1
    · rw [List.mem_singleton.mp z]
      exact h2
  have lay : Lay H p h [.ref a, .ref b] := by
    rcases hh with rfl | rfl
    · exact ⟨rfl, hp⟩
    · exact ⟨rfl, hp⟩
  have c1 := g1.g.cn
  have c2 := g2.g.cn
  refine ⟨⟨at_mkL lay ⟨⟨a, rfl, g1.g.at_⟩, ⟨b, rfl, g2.g.at_⟩, trivial⟩, ok_mkL (by rcases hh with rfl | rfl <;> trivial) (both _ g1.g.ok g2.g.ok), ?_, ht_mkL (both _ g1.g.dp g2.g.dp), ?_, ?_⟩, simple_mkL (by rcases hh with rfl | rfl <;> rfl) (both _ g1.s g2.s)⟩
  · rw [cnt_mkL, cnts_cons, cnts_cons]
    show 1 + (_ + (_ + 0)) ≤ 3
    omega
  · refine sc_mkL (by rcases hh with rfl | rfl <;> trivial) fun i x hi => ?_
    have hin : inn h i xs = xs := by rcases hh with rfl | rfl <;> rfl
    rw [hin]
    exact both (fun y => okS hd y xs) g1.g.sc g2.g.sc x (List.mem_of_getElem? hi)
  · have e1 := g1.g.lt
    have e2 := g2.g.lt
    have : letsOf (mkL h [t, u]) = hdLets h ++ letsL [t, u] := by
      unfold mkL
      rw [lets_mk, ofFn_get]
    rw [this]
    show hdLets h ++ (letsOf t ++ (letsOf u ++ [])) = []
    rw [e1, e2]
    rcases hh with rfl | rfl <;> rfl
theorem GdS.tk {H H' : Hp} {a : Addr} {n d : Nat} {hd : Str → Option Nat} {xs : List Str} {t : Tm} (k : TK H H') (g : GdS H a n d hd xs t) : GdS H' a n d hd xs t := ⟨g.g.tk k, g.s⟩
theorem tp_tk {tp : Addr} {H H' : Hp} (t : Tp H tp) (b : But1 tp H H') : TK H H' := b.tk t
theorem ok_simple (T : Txt K mg) (n : Nat) {f fg fh : Addr} {fd gd hd : FuncData} (F : Fun K "_law_simple" "_law_simple" s_law_simple f fd) (G_law_digit : FnOk P w K mg base CX0 1 fg gd ["tape", "many"] spDig) (R_law_digit : Ref K mg "_law_digit" fg gd ["tape", "many"])
    (G_law_leaf : FnOk P w K mg base CX0 3 fh hd ["tape", "known", "around"] spLeaf) (R_law_leaf : Ref K mg "_law_leaf" fh hd ["tape", "known", "around"])
    (G_law_simple : FnOk P w K mg base CX0 (n + 3) f fd ["tape", "around", "deep"] (spPrev n)) (R_law_simple : Ref K mg "_law_simple" f fd ["tape", "around", "deep"]) : FnOk P w K mg base CX0 (n + 4) f fd ["tape", "around", "deep"] (spSimple n) := by
  refine F.ok scLsimple (fun vs H Q E h => ?_) (fun cdv A outer s H vs Q E hr h => ?_)
  · obtain ⟨tp, ar, xs, rfl, _⟩ := h
    rfl
  obtain ⟨tp, ar, xs, rfl, ht, hw, hx, hn1, q⟩ := h
  refine ⟨_, (pss_cons (ps_if (PW.pt (pw_or (pt_cmpR op_eq (pv 2) pe_int (nomark _)) (pw_or1 (pt_cmpR op_gt (pe_call G_law_digit (hr.mono (by omega)) rfl R_law_digit.m R_law_digit.k R_law_digit.b .nil pass0 (pa_cons (pv 0) (pa_cons pe_int pa_nil))) pe_int (nomark _))))) (pss_one (ps_ret (pe_call G_law_leaf (hr.mono (by omega)) rfl R_law_leaf.m R_law_leaf.k R_law_leaf.b .nil pass0 (pa_cons (pv 0) (pa_cons pe_dnewK (pa_cons (pv 1) pa_nil)))))) pss_nil)
    (pss_cons (ps_set (i := 3) scLsimple.nd rfl (Or.inl rfl) (pe_call G_law_simple (hr.mono (by omega)) rfl R_law_simple.m R_law_simple.k R_law_simple.b .nil pass0 (pa_cons (pv 0) (pa_cons (pv 1) (pa_cons (pe_op op_sub (pv 2) pe_int) pa_nil)))))
    (pss_one (ps_ret (pe_tup (pa_cons (pe_ix ix_list (pe_lst (pa_cons pe_str (pa_cons pe_str pa_nil))) (pe_call G_law_digit (hr.mono (by omega)) rfl R_law_digit.m R_law_digit.k R_law_digit.b .nil pass0 (pa_cons (pv 0) (pa_cons pe_int pa_nil))) (fun _ _ => rfl)) (pa_cons (pv 3) (pa_cons (pe_call G_law_simple (hr.mono (by omega)) rfl R_law_simple.m R_law_simple.k R_law_simple.b .nil pass0 (pa_cons (pv 0) (pa_cons (pv 1) (pa_cons (pe_op op_sub (pv 2) pe_int) pa_nil)))) pa_nil)))))))), ?_⟩
  have leafW : ∀ H1, But1 tp H H1 → Tp H1 tp → (tRet (tCall spLeaf [] E0 (tCons (tVar 0) (tCons tDNewK (tCons (tVar 1) tNil))))) { nx := fun x H' => Q V.non H', rt := Q } [some (.ref tp), some (.ref ar), some (.int n), none] H1 := by
    intro H1 b1 t1
    have w1 := hw.but b1 ht
    refine ⟨_, rfl, fun kv hkv => ⟨_, rfl, ?_⟩⟩
    have s2 := same_new hkv (.dK [])
    refine ⟨tp, .ref kv, ar, xs, rfl, t1.same s2, w1.but (but_same s2) t1, hx, fun a t H3 b3 t3 gd => ?_⟩
    exact q a t H3 ((b1.trans (but_same s2)).trans b3) t3 fun hd => ⟨(gd hd).le (by omega) (by omega), leaf_simple gd⟩
  refine ⟨_, rfl, rfl, _, rfl, ?_⟩
  cases n with
  | zero => exact itT rfl (iteT (leafW H (But1.refl _ _) ht))
  | succ n =>
    have hn0 : n = 0 := by omega
    subst hn0
    refine itF rfl ⟨_, rfl, tp, 3, rfl, ht, by decide, by decide, fun r H1 r0 r1 b1 t1 => ?_⟩
    refine ⟨_, _, rfl, rfl, _, rfl, ?_⟩
    refine ite2 (fun c => leafW H1 b1 t1) (fun c => ?_)
    have w1 := hw.but b1 ht
    refine ⟨_, rfl, _, rfl, _, rfl, _, _, rfl, rfl, tp, ar, xs, rfl, t1, w1, hx, Nat.zero_le _, fun a1 u1 H2 b2 t2 g1 => ?_⟩
    have w2 := w1.but b2 t1
    refine ⟨sz (by show 2 ≤ 100000; decide), fun p3 hp3 => ?_⟩
    have s3 := same_new hp3 (.lst [V.str "plus", .str "less"])
    have np : p3 ≠ tp := by
      obtain ⟨z, hz⟩ := t2
      exact (ne_of_none hz hp3).symm
    have h3 : upd H2 p3 (.lst [V.str "plus", .str "less"]) p3 = some (.lst [V.str "plus", .str "less"]) := upd_same
    have t3 := t2.same s3
    have w3 := w2.but (but_same s3) t2
    refine ⟨_, rfl, tp, 2, rfl, t3, by decide, by decide, fun r4 H4 r40 r41 b4 t4 => ?_⟩
    obtain ⟨v, hv, hm⟩ := at_some (xs := [V.str "plus", .str "less"]) r40 r41
    obtain ⟨h, hh, rfl⟩ : ∃ h : Hd, (h = .plus ∨ h = .less) ∧ v = .str (hs h) := by
      rcases List.mem_cons.mp hm with z | z
      · exact ⟨.plus, .inl rfl, z⟩
      · exact ⟨.less, .inr rfl, List.mem_singleton.mp z⟩
    have w4 := w3.but b4 t3
    refine ⟨p3, _, _, _, rfl, rfl, SqL.of (b4 _ _ np h3), hv, _, rfl, _, rfl, _, rfl, _, rfl, _, _, rfl, rfl, tp, ar, xs, rfl, t4, w4, hx, Nat.zero_le _, fun a2 u2 H5 b5 t5 g2 => ?_⟩
    refine ⟨sz (by show 3 ≤ 100000; decide), fun p6 hp6 => ?_⟩
    have s6 := same_new hp6 (.tup [V.str (hs h), .ref a1, .ref a2])
    have k25 : TK H2 H5 := (tp_tk t2 (but_same s3)).trans ((tp_tk t3 b4).trans (tp_tk t4 b5))
    refine q p6 (mkL h [u1, u2]) _ (((((b1.trans b2).trans (but_same s3)).trans b4).trans b5).trans (but_same s6)) (t5.same s6) fun hd => ?_
    exact two_simple hh ((g1 hd).tk (k25.trans (tk_same s6))) ((g2 hd).tk (tk_same s6)) upd_same
theorem no_sp {k : Nat} {f : Addr} {fd : FuncData} {ps : List Str} : FnOk P w K mg base CX0 k f fd ps (fun _ _ _ _ => False) := ⟨fun _ _ _ _ z => z.elim, fun _ _ _ _ _ _ _ _ _ _ _ _ _ z => z.elim⟩
theorem all_simple (T : Txt K mg) {f fg fh : Addr} {fd gd hd : FuncData} (F : Fun K "_law_simple" "_law_simple" s_law_simple f fd) (G_law_digit : FnOk P w K mg base CX0 1 fg gd ["tape", "many"] spDig) (R_law_digit : Ref K mg "_law_digit" fg gd ["tape", "many"])
    (G_law_leaf : FnOk P w K mg base CX0 3 fh hd ["tape", "known", "around"] spLeaf) (R_law_leaf : Ref K mg "_law_leaf" fh hd ["tape", "known", "around"]) (R_law_simple : Ref K mg "_law_simple" f fd ["tape", "around", "deep"]) : FnOk P w K mg base CX0 5 f fd ["tape", "around", "deep"] (spSimple 1) :=
  ok_simple T 1 F G_law_digit R_law_digit G_law_leaf R_law_leaf (ok_simple T 0 F G_law_digit R_law_digit G_law_leaf R_law_leaf no_sp R_law_simple) R_law_simple
end
end KB

namespace KB
open PySem L2

section
variable {P : Program} {w : World} {K : PySem.W.Frag} {mg : Str → Option Value} {base : Heap}
/-! ### _law_some_hand -/
def spHand : Sp := fun vs H Q _ => ∃ (tp kd wl pl hl : Addr) (hF : Str → Option Nat) (ws js hs : List Str), vs = [.ref tp, .ref kd, .ref hl] ∧ GT H tp kd wl pl hF ws js ∧ Hls H hl hs ∧ hs ≠ [] ∧ hs.length ≤ 1000 ∧ hl ≠ tp ∧
  ∀ j H', But1 tp H H' → Tp H' tp → j ∈ hs → Q (.str j) H'
abbrev s_law_some_hand : Stmt := top 40
theorem scLsome_hand : FnScope ["tape", "known", "hands"] ["tape", "known", "hands"] (defScope s_law_some_hand) := ⟨rfl, rfl, rfl, by decide +kernel, rfl, by decide +kernel, by decide +kernel⟩
theorem ok_hand (T : Txt K mg) {f fg : Addr} {fd gd : FuncData} (F : Fun K "_law_some_hand" "_law_some_hand" s_law_some_hand f fd) (G_law_digit : FnOk P w K mg base CX0 1 fg gd ["tape", "many"] spDig) (R_law_digit : Ref K mg "_law_digit" fg gd ["tape", "many"]) :
    FnOk P w K mg base CX0 2 f fd ["tape", "known", "hands"] spHand := by
  refine F.ok scLsome_hand (fun vs H Q E h => ?_) (fun cdv A outer s H vs Q E hr h => ?_)
  · obtain ⟨tp, kd, wl, pl, hl, hF, ws, js, hs, rfl, _⟩ := h
    rfl
  obtain ⟨tp, kd, wl, pl, hl, hF, ws, js, hs, rfl, g, hh, hne, hlen, hn, q⟩ := h
  refine ⟨_, (pss_cons (ps_if (PW.pt (pw_or (pt_truth (pe_dget (hu_of hr) (pv 1) pe_str (fun _ _ => rfl)) (by intro _; rfl)) (pw_or1 (pt_cmpR op_gt (pe_call G_law_digit (hr.mono (by omega)) rfl R_law_digit.m R_law_digit.k R_law_digit.b .nil pass0 (pa_cons (pv 0) (pa_cons pe_int pa_nil))) pe_int (nomark _))))) (pss_one (ps_ret (pe_ix ix_list (pv 2) (pe_un un_neg pe_int) (fun _ _ => rfl)))) pss_nil)
    (pss_one (ps_ret (pe_ix ix_list (pv 2) (pe_call G_law_digit (hr.mono (by omega)) rfl R_law_digit.m R_law_digit.k R_law_digit.b .nil pass0 (pa_cons (pv 0) (pa_cons (pe_callB call_len_seq (by rfl) T.m_len PySem.boot_len (pa_cons (pv 2) pa_nil)) pa_nil))) (fun _ _ => rfl))))), ?_⟩
  obtain ⟨el, hd, fs, kvs, room, st, k1, _⟩ := g.k
  obtain ⟨r, j, rfl⟩ : ∃ r j, hs = r ++ [j] := ⟨hs.dropLast, hs.getLast hne, (List.dropLast_concat_getLast hne).symm⟩
  have em : (r ++ [j]).map V.str = r.map V.str ++ [V.str j] := by
    rw [List.map_append]
    rfl
  have lastW : ∀ H1, But1 tp H H1 → Tp H1 tp → (tRet (tOp (rIxL K) (tVar 2) (tUn (rU fun i => .int (-i)) (tC (.int 1))))) { nx := fun x H' => Q V.non H', rt := Q } [some (.ref tp), some (.ref kd), some (.ref hl)] H1 := by
    intro H1 b1 t1
    have h1 : H1 hl = some (.lst (r.map V.str ++ [V.str j])) := by
      rw [← em]
      exact b1 _ _ hn hh
    exact ⟨_, rfl, _, rfl, hl, _, _, _, rfl, rfl, SqL.of h1, atI_last _ _, q j H1 b1 t1 (List.mem_append_right _ List.mem_cons_self)⟩
  refine ⟨_, rfl, kd, _, rfl, gt_straight k1, st, rfl, ?_⟩
  cases st with
  | true => exact itT rfl (iteT (lastW H (But1.refl _ _) g.t))
  | false =>
    refine itF rfl ⟨_, rfl, tp, 3, rfl, g.t, by decide, by decide, fun r1 H1 r10 r11 b1 t1 => ?_⟩
    refine ⟨_, _, rfl, rfl, _, rfl, ?_⟩
    refine ite2 (fun c => lastW H1 b1 t1) (fun c => ?_)
    have h1 : H1 hl = some (.lst ((r ++ [j]).map V.str)) := b1 _ _ hn hh
    have el1 : (((r ++ [j]).map V.str).length : Int) = ((r ++ [j]).length : Int) := by rw [List.length_map]
    have pos : 0 < (r ++ [j]).length := by simp
    refine ⟨_, rfl, _, rfl, _, rfl, hl, _, rfl, .inl (SqL.of h1), tp, _, rfl, t1, by rw [el1]; omega, by rw [el1]; omega, fun r2 H2 r20 r21 b2 t2 => ?_⟩
    obtain ⟨v, hv, hm⟩ := at_some r20 r21
    obtain ⟨z, hz, rfl⟩ := List.mem_map.mp hm
    exact ⟨hl, _, _, _, rfl, rfl, SqL.of (b2 _ _ hn h1), hv, q z H2 (b1.trans b2) t2 hz⟩
end
end KB

namespace KB
open PySem L2

theorem GdS.sm {H : Hp} {a : Addr} {hd : Str → Option Nat} {xs : List Str} {t : Tm} (g : GdS H a 3 2 hd xs t) : SmT hd xs t := ⟨g.g.ok, g.s, g.g.sc, g.g.cn, g.g.dp⟩
section
variable {P : Program} {w : World} {K : PySem.W.Frag} {mg : Str → Option Value} {base : Heap}
/-! ### _law_end -/
def spEnd : Sp := fun vs H Q _ => ∃ (tp kd wl pl ar hl : Addr) (hF : Str → Option Nat) (ws js xs hs : List Str), vs = [.ref tp, .ref kd, .ref ar, .ref hl] ∧ GT H tp kd wl pl hF ws js ∧ Wls H ar xs ∧ xs.length ≤ 1000 ∧ Hls H hl hs ∧ hs ≠ [] ∧ hs.length ≤ 1000 ∧ hl ≠ tp ∧
  ∀ a p H', But1 tp H H' → Tp H' tp → PAt H' p a → okP hF p xs hs → pcnt p = 1 → wP p = [] → jP p = [] → Q (.ref a) H'
abbrev s_law_end : Stmt := top 41
theorem scLend : FnScope ["tape", "known", "around", "hands", "f", "hand", "some", "k"] ["tape", "known", "around", "hands"] (defScope s_law_end) := ⟨rfl, rfl, rfl, by decide +kernel, rfl, by decide +kernel, by decide +kernel⟩
theorem ok_end (T : Txt K mg) {f fg fh fl fs : Addr} {fd gd hd ld sd : FuncData} (F : Fun K "_law_end" "_law_end" s_law_end f fd) (G_law_digit : FnOk P w K mg base CX0 1 fg gd ["tape", "many"] spDig) (R_law_digit : Ref K mg "_law_digit" fg gd ["tape", "many"])
    (G_law_some_hand : FnOk P w K mg base CX0 2 fh hd ["tape", "known", "hands"] spHand) (R_law_some_hand : Ref K mg "_law_some_hand" fh hd ["tape", "known", "hands"]) (G_law_less_one : FnOk P w K mg base CX0 1 fl ld ["around"] spLess) (R_law_less_one : Ref K mg "_law_less_one" fl ld ["around"])
    (G_law_simple : FnOk P w K mg base CX0 5 fs sd ["tape", "around", "deep"] (spSimple 1)) (R_law_simple : Ref K mg "_law_simple" fs sd ["tape", "around", "deep"]) : FnOk P w K mg base CX0 6 f fd ["tape", "known", "around", "hands"] spEnd := by
  refine F.ok scLend (fun vs H Q E h => ?_) (fun cdv A outer s H vs Q E hr h => ?_)
  · obtain ⟨tp, kd, wl, pl, ar, hl, hF, ws, js, xs, hs, rfl, _⟩ := h
    rfl
  obtain ⟨tp, kd, wl, pl, ar, hl, hF, ws, js, xs, hs, rfl, g, hw, hx, hh, hne, hhl, hnt, q⟩ := h
  refine ⟨_, (pss_cons (ps_set (i := 4) scLend.nd rfl (Or.inl rfl) (pe_ix ix_list (pe_dget (hu_of hr) (pv 1) pe_str (fun _ _ => rfl)) (pe_call G_law_digit (hr.mono (by omega)) rfl R_law_digit.m R_law_digit.k R_law_digit.b .nil pass0 (pa_cons (pv 0) (pa_cons (pe_callB call_len_seq (by rfl) T.m_len PySem.boot_len (pa_cons (pe_dget (hu_of hr) (pv 1) pe_str (fun _ _ => rfl)) pa_nil)) pa_nil))) (fun _ _ => rfl)))
    (pss_cons (ps_set (i := 5) scLend.nd rfl (Or.inl rfl) (pe_call G_law_some_hand (hr.mono (by omega)) rfl R_law_some_hand.m R_law_some_hand.k R_law_some_hand.b .nil pass0 (pa_cons (pv 0) (pa_cons (pv 1) (pa_cons (pv 3) pa_nil)))))
    (pss_cons (ps_if (pt_cmpR op_eq (pe_call G_law_digit (hr.mono (by omega)) rfl R_law_digit.m R_law_digit.k R_law_digit.b .nil pass0 (pa_cons (pv 0) (pa_cons pe_int pa_nil))) pe_int (nomark _)) (pss_one (ps_ret (pe_tup (pa_cons pe_str (pa_cons (pv 5) (pa_cons (pe_call G_law_simple (hr.mono (by omega)) rfl R_law_simple.m R_law_simple.k R_law_simple.b .nil pass0 (pa_cons (pv 0) (pa_cons (pv 2) (pa_cons pe_int pa_nil)))) pa_nil)))))) pss_nil)
    (pss_cons (ps_set (i := 6) scLend.nd rfl (Or.inl rfl) (pe_lst pa_nil))
    (pss_cons (ps_for PassesOwn.never rfl (pi_range1 rfl T.m_range (pa_cons (pe_dget (hu_of hr) (pe_dget (hu_of hr) (pv 1) pe_str (fun _ _ => rfl)) (pv 4) (fun _ _ => rfl)) pa_nil)) (pg_name (i := 7) scLend.nd rfl (Or.inl rfl)) (pss_one (ps_if (PW.pt (pw_and (pt_cmpR op_eq (pv 7) pe_int (nomark _)) (pw_and1 (pt_cmpR op_gt (pe_call G_law_digit (hr.mono (by omega)) rfl R_law_digit.m R_law_digit.k R_law_digit.b .nil pass0 (pa_cons (pv 0) (pa_cons pe_int pa_nil))) pe_int (nomark _))))) (pss_one (ps_expr (pe_bm PySem.F.plainAttrs_list PySem.F.slot_list_append PySem.F.type_list_append mt_append (pv 6) (pa_cons (pe_call G_law_less_one (hr.mono (by omega)) rfl R_law_less_one.m R_law_less_one.k R_law_less_one.b .nil pass0 (pa_cons (pv 2) pa_nil)) pa_nil)))) (pss_one (ps_expr (pe_bm PySem.F.plainAttrs_list PySem.F.slot_list_append PySem.F.type_list_append mt_append (pv 6) (pa_cons (pe_call G_law_simple (hr.mono (by omega)) rfl R_law_simple.m R_law_simple.k R_law_simple.b .nil pass0 (pa_cons (pv 0) (pa_cons (pv 2) (pa_cons pe_int pa_nil)))) pa_nil)))))))
    (pss_one (ps_ret (pe_tup (pa_cons pe_str (pa_cons (pv 4) (pa_cons (pe_callTy call_tuple_of (by rfl) T.m_tuple (by decide +kernel) (pa_cons (pv 6) pa_nil)) (pa_cons (pv 5) pa_nil)))))))))))), ?_⟩
  obtain ⟨el, hd', fs, kvs, room, st, k1, _, _, _, _, k3, k4, k5, k6, k7⟩ := g.k
  refine ⟨_, rfl, kd, _, rfl, gt_errands k1, _, rfl, _, rfl, kd, _, rfl, gt_errands k1, el, _, rfl, .inl (SqL.of k3.1), tp, _, rfl, g.t, ?_, ?_, fun r H1 r0 r1 b1 t1 => ?_⟩
  · rw [List.length_map]
    omega
  · rw [List.length_map]
    omega
  have g1 := g.one b1 t1
  have k3' := k3.but b1 g.t
  have nkt := (g.ntk k1 (fun _ z => nomatch z)).1
  have nht := (g.ntk k6 (fun _ z => nomatch z)).1
  obtain ⟨v, hv, hm⟩ := at_some r0 r1
  obtain ⟨fn, hfn, rfl⟩ := List.mem_map.mp hm
  obtain ⟨many, hmany, m0, m4, mF⟩ := k7 fn hfn
  have hwfn := k3.2 fn hfn
  refine ⟨el, _, _, _, rfl, rfl, SqL.of k3'.1, hv, ?_⟩
  -- the hand
  refine ⟨_, rfl, _, rfl, _, rfl, tp, kd, wl, pl, hl, hF, ws, js, hs, rfl, g1, b1 _ _ hnt hh, hne, hhl, hnt, fun j H2 b2 t2 hj => ?_⟩
  have b12 := b1.trans b2
  refine ⟨_, rfl, tp, 2, rfl, t2, by decide, by decide, fun r3 H3 r30 r31 b3 t3 => ⟨rfl, _, rfl, ?_⟩⟩
  have b13 := b12.trans b3
  have w3 := hw.but b13 g.t
  refine ite2 (fun c => ?_) (fun c => ?_)
  · -- a give
    refine ⟨_, rfl, _, rfl, _, rfl, tp, ar, xs, rfl, t3, w3, hx, Nat.le_refl _, fun a t H4 b4 t4 gs => ⟨sz (by show 3 ≤ 100000; decide), fun p5 hp5 => ?_⟩⟩
    have s5 := same_new hp5 (.tup [V.str "give", .str j, .ref a])
    exact q p5 (.give j t) _ ((b13.trans b4).trans (but_same s5)) (t4.same s5) ⟨a, upd_same, (gs hF).g.at_.mono s5⟩ ⟨hj, (gs hF).sm⟩ rfl rfl rfl
  · -- an ask
    refine ⟨sz (by show 0 ≤ 100000; decide), fun sl hsl => ?_⟩
    have s4 := same_new hsl (.lst [])
    have nst : sl ≠ tp := by
      obtain ⟨z, hz⟩ := t3
      exact (ne_of_none hz hsl).symm
    have b14 := b13.trans (but_same s4)
    have t4 := t3.same s4
    have h4 : upd H3 sl (.lst []) sl = some (.lst []) := upd_same
    have frS : H3 sl = none := hsl
    have w4 := w3.but (but_same s4) t3
    have sH4 : Same H3 (upd H3 sl (.lst [])) := s4
    generalize upd H3 sl (.lst []) = H4 at b14 t4 h4 w4 sH4 ⊢
    have nsar : ar ≠ sl := ne_of_none w3.1 frS
    refine ⟨_, rfl, kd, _, rfl, gt_heads (b14 _ _ nkt k1), _, rfl, hd', _, rfl, get_of (b14 _ _ nht k6) hmany, _, rfl, by omega, by omega, ?_⟩
    refine for_range (lo := 0) (n := many.toNat) (fun i σ H' => ∃ o7 vs ts, σ = [some (.ref tp), some (.ref kd), some (.ref ar), some (.ref hl), some (.str fn), some (.str j), some (.ref sl), o7] ∧ (∀ b o, b ≠ tp → b ≠ sl → H4 b = some o → H' b = some o) ∧ Tp H' tp ∧
      H' sl = some (.lst vs) ∧ All2 (RefV H') ts vs ∧ ts.length = i ∧ ∀ t ∈ ts, SmT hF xs t) ⟨_, [], [], rfl, fun _ _ _ _ z => z, t4, h4, trivial, rfl, fun _ z => nomatch z⟩ ?_ ?_
    · rintro i σ H5 hi ⟨o7, vs, ts, rfl, b5, t5, h5, k5s, hlen, hts⟩
      have w5 : Wls H5 ar xs := ⟨b5 _ _ (wls_tp w4.1 t4) nsar w4.1, w4.2⟩
      have hvl := k5s.len
      have put : ∀ (a : Addr) (t : Tm) (H6 : Hp), But1 tp H5 H6 → Tp H6 tp → At H6 t a → SmT hF xs t →
          ∃ l zs y, V.ref sl = .ref l ∧ [V.ref a] = [y] ∧ H6 l = some (.lst zs) ∧ zs.length < sizeLine ∧ ∃ o7 vs ts, ([some (.ref tp), some (.ref kd), some (.ref ar), some (.ref hl), some (.str fn), some (.str j), some (.ref sl), some (.int (0 + (i : Nat)))] : St) = [some (.ref tp), some (.ref kd), some (.ref ar), some (.ref hl), some (.str fn), some (.str j), some (.ref sl), o7] ∧
            (∀ b o, b ≠ tp → b ≠ sl → H4 b = some o → upd H6 l (.lst (zs ++ [y])) b = some o) ∧ Tp (upd H6 l (.lst (zs ++ [y]))) tp ∧ upd H6 l (.lst (zs ++ [y])) sl = some (.lst vs) ∧ All2 (RefV (upd H6 l (.lst (zs ++ [y])))) ts vs ∧ ts.length = i + 1 ∧ ∀ t ∈ ts, SmT hF xs t := by
        intro a t H6 b6 t6 at6 sm
        have h6 := b6 _ _ nst h5
        have tk6 := b6.tk t5
        have tkp : TK H6 (upd H6 sl (.lst (vs ++ [V.ref a]))) := tk_put h6
        refine ⟨sl, vs, .ref a, rfl, rfl, h6, Nat.lt_of_le_of_lt (m := 1000) (by omega) (by decide), _, vs ++ [.ref a], ts ++ [t], rfl, fun b o n1 n2 hb => ?_, ?_, upd_same, ?_, ?_, fun u hu => ?_⟩
        · rw [upd_ne n2]
          exact b6 _ _ n1 (b5 _ _ n1 n2 hb)
        · obtain ⟨z, hz⟩ := t6
          exact ⟨z, by rw [upd_ne nst.symm]; exact hz⟩
        · exact All2.app (k5s.imp fun _ _ z => (z.tk tk6).tk tkp) ⟨⟨a, rfl, at6.tk tkp⟩, trivial⟩
        · rw [List.length_append, hlen]
          rfl
        · rcases List.mem_append.mp hu with z | z
          · exact hts u z
          · rw [List.mem_singleton.mp z]
            exact sm
      refine ⟨_, rfl, rfl, _, rfl, ?_⟩
      by_cases c0 : V.int (0 + (i : Nat)) = V.int 0
      · refine itT (decide_eq_true c0) ⟨_, rfl, tp, 4, rfl, t5, by decide, by decide, fun r6 H6 r60 r61 b6 t6 => ?_⟩
        have h6 := b6 _ _ nst h5
        have w6 := w5.but b6 t5
        refine ⟨_, _, rfl, rfl, _, rfl, ?_⟩
        refine ite2 (fun c2 => ?_) (fun c2 => ?_)
        · refine ⟨_, rfl, .inl ⟨rfl, _, SqL.of h6⟩, _, rfl, ar, xs, rfl, w6, fun a t H7 s7 gd smp => ?_⟩
          exact put a t H7 (b6.trans (but_same s7)) (t6.same s7) (gd hF).at_ ⟨(gd hF).ok, smp, (gd hF).sc, (gd hF).cn, (gd hF).dp⟩
        · exact ⟨_, rfl, .inl ⟨rfl, _, SqL.of h6⟩, _, rfl, _, rfl, tp, ar, xs, rfl, t6, w6, hx, Nat.le_refl _, fun a t H7 b7 t7 gs => put a t H7 (b6.trans b7) t7 (gs hF).g.at_ (gs hF).sm⟩
      · refine itF (decide_eq_false c0) (iteF ?_)
        exact ⟨_, rfl, .inl ⟨rfl, _, SqL.of h5⟩, _, rfl, _, rfl, tp, ar, xs, rfl, t5, w5, hx, Nat.le_refl _, fun a t H7 b7 t7 gs => put a t H7 b7 t7 (gs hF).g.at_ (gs hF).sm⟩
    · rintro σ H5 ⟨o7, vs, ts, rfl, b5, t5, h5, k5s, hlen, hts⟩
      refine ⟨_, rfl, _, rfl, sl, _, rfl, .inl ⟨SqL.of h5, fun p6 hp6 => ⟨_, rfl, sz (by show 4 ≤ 100000; decide), fun p7 hp7 => ?_⟩⟩⟩
      have s6 := same_new hp6 (.tup vs)
      have s7 := same_new hp7 (.tup [V.str "ask", .str fn, .ref p6, .str j])
      have bE : But1 tp H (upd (upd H5 p6 (.tup vs)) p7 (.tup [V.str "ask", .str fn, .ref p6, .str j])) := fun b o nb hb => by
        have h3 := b13 b o nb hb
        exact s7 _ _ (s6 _ _ (b5 b o nb (ne_of_none h3 frS) (sH4 _ _ h3)))
      have hF4 : hF fn = some ts.length := by rw [mF, hlen]
      refine q p7 (.ask fn ts j) _ bE ((t5.same s6).same s7) ⟨p6, vs, upd_same, s7 _ _ upd_same, k5s.imp fun _ _ z => z.tk (tk_same (s6.trans s7))⟩ ⟨hj, hwfn, hF4, by omega, hts⟩ rfl rfl rfl
end
end KB

namespace KB
open PySem L2

theorem lastV {xs : List V} {y : V} : (xs ++ [y])[(xs ++ [y]).length - 1]? = some y := by
  rw [List.length_append, List.length_singleton, Nat.add_sub_cancel, List.getElem?_append_right (Nat.le_refl _), Nat.sub_self]
  rfl
theorem dropV {xs : List V} {y : V} : (xs ++ [y]).dropLast = xs := List.dropLast_concat
theorem GT.popW {H : Hp} {tp kd wl pl : Addr} {hF : Str → Option Nat} {ws js : List Str} {x : Str} (g : GT H tp kd wl pl hF (ws ++ [x]) js) : GT (upd H wl (.lst (ws.map V.str))) tp kd wl pl hF ws js ∧ But3 tp wl pl H (upd H wl (.lst (ws.map V.str))) := by
  have b : But3 tp wl pl H (upd H wl (.lst (ws.map V.str))) := fun b o _ n _ h => by rw [upd_ne n]; exact h
  have hn := wls_tp g.w.1 g.t
  obtain ⟨z, hz⟩ := g.t
  have wn := g.wn
  rw [List.length_append] at wn
  exact ⟨g.step b ⟨z, by rw [upd_ne hn.symm]; exact hz⟩ ⟨upd_same, fun y hy => g.w.2 y (List.mem_append_left _ hy)⟩ ⟨by rw [upd_ne g.wp.symm]; exact g.p.1, g.p.2⟩ (by omega) g.pn, b⟩
theorem GT.popP {H : Hp} {tp kd wl pl : Addr} {hF : Str → Option Nat} {ws js : List Str} {x : Str} (g : GT H tp kd wl pl hF ws (js ++ [x])) : GT (upd H pl (.lst (js.map V.str))) tp kd wl pl hF ws js ∧ But3 tp wl pl H (upd H pl (.lst (js.map V.str))) := by
  have b : But3 tp wl pl H (upd H pl (.lst (js.map V.str))) := fun b o _ _ n h => by rw [upd_ne n]; exact h
  have hn := wls_tp g.p.1 g.t
  obtain ⟨z, hz⟩ := g.t
  have pn := g.pn
  rw [List.length_append] at pn
  exact ⟨g.step b ⟨z, by rw [upd_ne hn.symm]; exact hz⟩ ⟨by rw [upd_ne g.wp]; exact g.w.1, g.w.2⟩ ⟨upd_same, fun y hy => g.p.2 y (List.mem_append_left _ hy)⟩ g.wn (by omega), b⟩
theorem snoc_of {ws : List Str} (h : ws ≠ []) : ∃ r x, ws = r ++ [x] := ⟨ws.dropLast, ws.getLast h, (List.dropLast_concat_getLast h).symm⟩
theorem mapS {ws : List Str} {x : Str} : (ws ++ [x]).map V.str = ws.map V.str ++ [V.str x] := by
  rw [List.map_append]
  rfl
section
variable {P : Program} {w : World} {K : PySem.W.Frag} {mg : Str → Option Value} {base : Heap}
/-! ### _law_part -/
/-- what stands around a part that is to be drawn -/
structure PtIn (H : Hp) (tp kd wl pl ar hl : Addr) (hF : Str → Option Nat) (ws js xs hs : List Str) : Prop where
  g : GT H tp kd wl pl hF ws js
  w : Wls H ar xs
  a1 : ar ≠ wl
  a2 : ar ≠ pl
  h : Hls H hl hs
  h0 : hl ≠ tp
  h1 : hl ≠ wl
  h2 : hl ≠ pl
  ne : hs ≠ []
  wj : ws.length ≤ js.length
  l1 : xs.length + ws.length ≤ 200
  l2 : hs.length + js.length ≤ 200
/-- what is told of a part that was drawn -/
structure PtOut (H H' : Hp) (tp kd wl pl : Addr) (hF : Str → Option Nat) (ws js xs hs : List Str) (n : Nat) (a : Addr) (p : Pt) (ws' js' ls ms : List Str) : Prop where
  b : But3 tp wl pl H H'
  g : GT H' tp kd wl pl hF ws' js'
  wj : ws'.length ≤ js'.length
  e1 : ws = ws' ++ ls.reverse
  e2 : js = js' ++ ms.reverse
  at_ : PAt H' p a
  ok : okP hF p xs hs
  cn : pcnt p ≤ n
  s1 : (wP p).Sublist ls
  s2 : (jP p).Sublist ms
def spPart (n : Nat) : Sp := fun vs H Q _ => ∃ (tp kd wl pl ar hl : Addr) (hF : Str → Option Nat) (ws js xs hs : List Str) (room deep : Int), vs = [.ref tp, .ref kd, .ref ar, .ref hl, .int room, .int deep] ∧ PtIn H tp kd wl pl ar hl hF ws js xs hs ∧ 1 ≤ room ∧ room ≤ 1000 ∧ 0 ≤ deep ∧ deep ≤ n ∧
  ∀ a p H' ws' js' ls ms, PtOut H H' tp kd wl pl hF ws js xs hs room.toNat a p ws' js' ls ms → Q (.ref a) H'
def spPtPrev : Nat → Sp
  | 0 => fun _ _ _ _ => False
  | n + 1 => spPart n
theorem PtIn.step {H H' : Hp} {tp kd wl pl ar hl : Addr} {hF : Str → Option Nat} {ws js ws' js' xs hs : List Str} (I : PtIn H tp kd wl pl ar hl hF ws js xs hs) (b : But3 tp wl pl H H') (g : GT H' tp kd wl pl hF ws' js') (wj : ws'.length ≤ js'.length) (l1 : ws'.length ≤ ws.length) (l2 : js'.length ≤ js.length) : PtIn H' tp kd wl pl ar hl hF ws' js' xs hs := by
  have h1 := I.l1
  have h2 := I.l2
  exact ⟨g, I.w.three b I.g I.a1 I.a2, I.a1, I.a2, b _ _ I.h0 I.h1 I.h2 I.h, I.h0, I.h1, I.h2, I.ne, wj, by omega, by omega⟩
theorem PtIn.one {H H' : Hp} {tp kd wl pl ar hl : Addr} {hF : Str → Option Nat} {ws js xs hs : List Str} (I : PtIn H tp kd wl pl ar hl hF ws js xs hs) (b : But1 tp H H') (t : Tp H' tp) : PtIn H' tp kd wl pl ar hl hF ws js xs hs := I.step b.three (I.g.one b t) I.wj (Nat.le_refl _) (Nat.le_refl _)
theorem PtIn.same {H H' : Hp} {tp kd wl pl ar hl : Addr} {hF : Str → Option Nat} {ws js xs hs : List Str} (I : PtIn H tp kd wl pl ar hl hF ws js xs hs) (s : Same H H') : PtIn H' tp kd wl pl ar hl hF ws js xs hs := I.one (but_same s) (I.g.t.same s)
abbrev s_law_part : Stmt := top 42
theorem scLpart : FnScope ["tape", "known", "around", "hands", "room", "deep", "word", "choice", "shares", "one", "x", "j", "term"] ["tape", "known", "around", "hands", "room", "deep"] (defScope s_law_part) := ⟨rfl, rfl, rfl, by decide +kernel, rfl, by decide +kernel, by decide +kernel⟩
theorem ok_part (T : Txt K mg) (n : Nat) {f fg fh fe fs fq : Addr} {fd gd hd ed sd qd : FuncData} (F : Fun K "_law_part" "_law_part" s_law_part f fd) (G_law_digit : FnOk P w K mg base CX0 1 fg gd ["tape", "many"] spDig) (R_law_digit : Ref K mg "_law_digit" fg gd ["tape", "many"])
    (G_law_some_hand : FnOk P w K mg base CX0 2 fh hd ["tape", "known", "hands"] spHand) (R_law_some_hand : Ref K mg "_law_some_hand" fh hd ["tape", "known", "hands"]) (G_law_end : FnOk P w K mg base CX0 6 fe ed ["tape", "known", "around", "hands"] spEnd) (R_law_end : Ref K mg "_law_end" fe ed ["tape", "known", "around", "hands"])
    (G_law_simple : FnOk P w K mg base CX0 5 fs sd ["tape", "around", "deep"] (spSimple 1)) (R_law_simple : Ref K mg "_law_simple" fs sd ["tape", "around", "deep"]) (G_law_shares : FnOk P w K mg base CX0 2 fq qd ["tape", "room", "many"] spShr) (R_law_shares : Ref K mg "_law_shares" fq qd ["tape", "room", "many"])
    (G_law_part : FnOk P w K mg base CX0 (n + 6) f fd ["tape", "known", "around", "hands", "room", "deep"] (spPtPrev n)) (R_law_part : Ref K mg "_law_part" f fd ["tape", "known", "around", "hands", "room", "deep"]) : FnOk P w K mg base CX0 (n + 7) f fd ["tape", "known", "around", "hands", "room", "deep"] (spPart n) := by
  refine F.ok scLpart (fun vs H Q E h => ?_) (fun cdv A outer s H vs Q E hr h => ?_)
  · obtain ⟨tp, kd, wl, pl, ar, hl, hF, ws, js, xs, hs, room, deep, rfl, _⟩ := h
    rfl
  obtain ⟨tp, kd, wl, pl, ar, hl, hF, ws, js, xs, hs, room, deep, rfl, I, hr1, hr2, hd1, hd2, q⟩ := h
  refine ⟨_, (pss_cons (ps_if (PW.pt (pw_or (pt_cmpR op_lt (pv 4) pe_int (nomark _)) (pw_or1 (pt_cmpR op_eq (pv 5) pe_int (nomark _))))) (pss_one (ps_ret (pe_call G_law_end (hr.mono (by omega)) rfl R_law_end.m R_law_end.k R_law_end.b .nil pass0 (pa_cons (pv 0) (pa_cons (pv 1) (pa_cons (pv 2) (pa_cons (pv 3) pa_nil))))))) pss_nil)
    (pss_cons (ps_set (i := 6) scLpart.nd rfl (Or.inl rfl) (pe_ix ix_list (pe_lst (pa_cons pe_str (pa_cons pe_str (pa_cons pe_str (pa_cons pe_str (pa_cons pe_str (pa_cons pe_str (pa_cons pe_str (pa_cons pe_str pa_nil))))))))) (pe_call G_law_digit (hr.mono (by omega)) rfl R_law_digit.m R_law_digit.k R_law_digit.b .nil pass0 (pa_cons (pv 0) (pa_cons pe_int pa_nil))) (fun _ _ => rfl)))
    (pss_cons (ps_if (pt_cmpR op_eq (pv 6) pe_str (nomark _)) (pss_cons (ps_set (i := 7) scLpart.nd rfl (Or.inl rfl) (pe_call G_law_simple (hr.mono (by omega)) rfl R_law_simple.m R_law_simple.k R_law_simple.b .nil pass0 (pa_cons (pv 0) (pa_cons (pv 2) (pa_cons pe_int pa_nil)))))
    (pss_cons (ps_set (i := 8) scLpart.nd rfl (Or.inl rfl) (pe_call G_law_shares (hr.mono (by omega)) rfl R_law_shares.m R_law_shares.k R_law_shares.b .nil pass0 (pa_cons (pv 0) (pa_cons (pe_op op_sub (pv 4) pe_int) (pa_cons pe_int pa_nil)))))
    (pss_cons (ps_set (i := 9) scLpart.nd rfl (Or.inl rfl) (pe_call G_law_part (hr.mono (by omega)) rfl R_law_part.m R_law_part.k R_law_part.b .nil pass0 (pa_cons (pv 0) (pa_cons (pv 1) (pa_cons (pv 2) (pa_cons (pv 3) (pa_cons (pe_ix ix_list (pv 8) pe_int (fun _ _ => rfl)) (pa_cons (pe_op op_sub (pv 5) pe_int) pa_nil))))))))
    (pss_one (ps_ret (pe_tup (pa_cons pe_str (pa_cons (pv 7) (pa_cons (pv 9) (pa_cons (pe_call G_law_part (hr.mono (by omega)) rfl R_law_part.m R_law_part.k R_law_part.b .nil pass0 (pa_cons (pv 0) (pa_cons (pv 1) (pa_cons (pv 2) (pa_cons (pv 3) (pa_cons (pe_ix ix_list (pv 8) pe_int (fun _ _ => rfl)) (pa_cons (pe_op op_sub (pv 5) pe_int) pa_nil))))))) pa_nil)))))))))) pss_nil)
    (pss_cons (ps_if (pt_cmpR (op_eqD hr.units) (pe_dget (hu_of hr) (pv 1) pe_str (fun _ _ => rfl)) (pe_lst pa_nil) (nomark _)) (pss_one (ps_ret (pe_call G_law_end (hr.mono (by omega)) rfl R_law_end.m R_law_end.k R_law_end.b .nil pass0 (pa_cons (pv 0) (pa_cons (pv 1) (pa_cons (pv 2) (pa_cons (pv 3) pa_nil))))))) pss_nil)
    (pss_cons (ps_set (i := 10) scLpart.nd rfl (Or.inl rfl) (pe_bm0 PySem.F.plainAttrs_list PySem.F.slot_list_pop PySem.F.type_list_pop mt_pop (pe_dget (hu_of hr) (pv 1) pe_str (fun _ _ => rfl))))
    (pss_cons (ps_if (pt_cmpR op_eq (pv 6) pe_str (nomark _)) (pss_cons (ps_set (i := 11) scLpart.nd rfl (Or.inl rfl) (pe_bm0 PySem.F.plainAttrs_list PySem.F.slot_list_pop PySem.F.type_list_pop mt_pop (pe_dget (hu_of hr) (pv 1) pe_str (fun _ _ => rfl))))
    (pss_cons (ps_set (i := 8) scLpart.nd rfl (Or.inl rfl) (pe_call G_law_shares (hr.mono (by omega)) rfl R_law_shares.m R_law_shares.k R_law_shares.b .nil pass0 (pa_cons (pv 0) (pa_cons (pe_op op_sub (pv 4) pe_int) (pa_cons pe_int pa_nil)))))
    (pss_cons (ps_set (i := 9) scLpart.nd rfl (Or.inl rfl) (pe_call G_law_part (hr.mono (by omega)) rfl R_law_part.m R_law_part.k R_law_part.b .nil pass0 (pa_cons (pv 0) (pa_cons (pv 1) (pa_cons (pe_op op_cat (pv 2) (pe_lst (pa_cons (pv 10) pa_nil))) (pa_cons (pv 3) (pa_cons (pe_ix ix_list (pv 8) pe_int (fun _ _ => rfl)) (pa_cons (pe_op op_sub (pv 5) pe_int) pa_nil))))))))
    (Evl.pss_cut (ps_if (pt_cmpR op_eq (pe_call G_law_digit (hr.mono (by omega)) rfl R_law_digit.m R_law_digit.k R_law_digit.b .nil pass0 (pa_cons (pv 0) (pa_cons pe_int pa_nil))) pe_int (nomark _)) (pss_one (ps_set (i := 9) scLpart.nd rfl (Or.inl rfl) (pe_tup (pa_cons pe_str (pa_cons (pe_call G_law_some_hand (hr.mono (by omega)) rfl R_law_some_hand.m R_law_some_hand.k R_law_some_hand.b .nil pass0 (pa_cons (pv 0) (pa_cons (pv 1) (pa_cons (pv 3) pa_nil)))) (pa_cons (pe_tup (pa_cons pe_str (pa_cons (pv 10) pa_nil))) pa_nil)))))) pss_nil)
    (pss_one (ps_ret (pe_tup (pa_cons pe_str (pa_cons (pv 11) (pa_cons (pv 10) (pa_cons (pv 9) (pa_cons (pe_call G_law_part (hr.mono (by omega)) rfl R_law_part.m R_law_part.k R_law_part.b .nil pass0 (pa_cons (pv 0) (pa_cons (pv 1) (pa_cons (pv 2) (pa_cons (pe_op op_cat (pv 3) (pe_lst (pa_cons (pv 11) pa_nil))) (pa_cons (pe_ix ix_list (pv 8) pe_int (fun _ _ => rfl)) (pa_cons (pe_op op_sub (pv 5) pe_int) pa_nil))))))) pa_nil)))))))))))) pss_nil)
    (pss_cons (ps_set (i := 12) scLpart.nd rfl (Or.inl rfl) (pe_call G_law_simple (hr.mono (by omega)) rfl R_law_simple.m R_law_simple.k R_law_simple.b .nil pass0 (pa_cons (pv 0) (pa_cons (pv 2) (pa_cons pe_int pa_nil)))))
    (pss_one (ps_ret (pe_tup (pa_cons (pv 6) (pa_cons (pv 10) (pa_cons (pv 12) (pa_cons (pe_call G_law_part (hr.mono (by omega)) rfl R_law_part.m R_law_part.k R_law_part.b .nil pass0 (pa_cons (pv 0) (pa_cons (pv 1) (pa_cons (pe_op op_cat (pv 2) (pe_lst (pa_cons (pv 10) pa_nil))) (pa_cons (pv 3) (pa_cons (pe_op op_sub (pv 4) pe_int) (pa_cons (pe_op op_sub (pv 5) pe_int) pa_nil))))))) pa_nil)))))))))))))), ?_⟩
  have l1 := I.l1
  have l2 := I.l2
  have endW : ∀ (H1 : Hp) (s6 : Option V), But3 tp wl pl H H1 → PtIn H1 tp kd wl pl ar hl hF ws js xs hs → (tRet (tCall spEnd [] E0 (tCons (tVar 0) (tCons (tVar 1) (tCons (tVar 2) (tCons (tVar 3) tNil)))))) { nx := fun x H' => Q V.non H', rt := Q }
      [some (.ref tp), some (.ref kd), some (.ref ar), some (.ref hl), some (.int room), some (.int deep), s6, none, none, none, none, none, none] H1 := by
    intro H1 s6 b1 I1
    refine ⟨_, rfl, _, rfl, _, rfl, _, rfl, tp, kd, wl, pl, ar, hl, hF, ws, js, xs, hs, rfl, I1.g, I1.w, by omega, I1.h, I1.ne, by omega, I1.h0, fun a p H2 b2 t2 pa ok c1 c2 c3 => ?_⟩
    exact q a p H2 ws js [] [] ⟨b1.trans b2.three, I1.g.one b2 t2, I1.wj, (List.append_nil ws).symm, (List.append_nil js).symm, pa, ok, by omega, by rw [c2]; exact .slnil, by rw [c3]; exact .slnil⟩
  refine ⟨_, rfl, _, _, rfl, rfl, _, rfl, ?_⟩
  refine ite2 (fun c => iteT (endW H none (But3.refl _ _ _ _) I)) (fun c => ?_)
  have hroom : 3 ≤ room := by
    have : ¬ room < 3 := fun z => c (decide_eq_true z)
    omega
  refine ⟨_, rfl, rfl, _, rfl, ?_⟩
  refine ite2 (fun c2 => endW H none (But3.refl _ _ _ _) I) (fun c2 => ?_)
  have hdeep : deep ≠ 0 := fun z => c2 (decide_eq_true (by rw [z]))
  cases n with
  | zero => exact absurd (by omega : deep = 0) hdeep
  | succ n =>
  refine ⟨sz (by show 8 ≤ 100000; decide), fun p1 hp1 => ?_⟩
  have s1 := same_new hp1 (.lst [V.str "tell", .str "let", .str "if", .str "if", .str "post", .str "post", .str "post", .str "post"])
  have I1 := I.same s1
  have n1 := (I.g.new hp1).1
  refine ⟨_, rfl, tp, 8, rfl, I1.g.t, by decide, by decide, fun r H2 r0 r1 b2 t2 => ?_⟩
  obtain ⟨v, hv, hm⟩ := at_some (xs := [V.str "tell", .str "let", .str "if", .str "if", .str "post", .str "post", .str "post", .str "post"]) r0 r1
  have I2 := I1.one b2 t2
  have B2 : But3 tp wl pl H H2 := (but3_same s1).trans b2.three
  refine ⟨p1, _, _, _, rfl, rfl, SqL.of (b2 _ _ n1 upd_same), hv, ?_⟩
  have hcase : v = .str "if" ∨ v = .str "post" ∨ v = .str "tell" ∨ v = .str "let" := by
    simp only [List.mem_cons, List.not_mem_nil, or_false] at hm
    rcases hm with z | z | z | z | z | z | z | z
    · exact .inr (.inr (.inl z))
    · exact .inr (.inr (.inr z))
    · exact .inl z
    · exact .inl z
    · exact .inr (.inl z)
    · exact .inr (.inl z)
    · exact .inr (.inl z)
    · exact .inr (.inl z)
  rcases hcase with rfl | rest
  · -- if
    refine ⟨_, rfl, rfl, _, rfl, itT rfl ?_⟩
    refine ⟨_, rfl, _, rfl, tp, ar, xs, rfl, I2.g.t, I2.w, by omega, Nat.le_refl _, fun a3 u3 H3 b3 t3 gs => ?_⟩
    have I3 := I2.one b3 t3
    refine ⟨_, rfl, _, rfl, _, _, rfl, rfl, tp, room - 1, 2, rfl, t3, by decide, by omega, by omega, fun sp ss H4 b4 t4 fr4 h4 hl4 pos4 sum4 => ?_⟩
    have I4 := I3.one b4 t4
    obtain ⟨y0, y1, rfl⟩ : ∃ y0 y1, ss = [y0, y1] := by
      match ss, hl4 with
      | [y0, y1], _ => exact ⟨y0, y1, rfl⟩
      | [], z => cases z
      | [_], z => cases z
      | _ :: _ :: _ :: _, z => simp at z; omega
    have py0 := pos4 y0 List.mem_cons_self
    have py1 := pos4 y1 (List.mem_cons_of_mem _ List.mem_cons_self)
    have sy : y0 + y1 ≤ room - 1 := by
      have : y0 + (y1 + 0) ≤ room - 1 := sum4
      omega
    have ns := I3.g.new fr4
    refine ⟨_, rfl, _, rfl, _, rfl, _, rfl, _, rfl, sp, _, _, _, rfl, rfl, SqL.of h4, at0, _, rfl, _, _, rfl, rfl, tp, kd, wl, pl, ar, hl, hF, ws, js, xs, hs, y0, deep - 1, rfl, I4, py0, by omega, by omega, by omega, fun a5 q5 H5 ws5 js5 ls5 ms5 O5 => ?_⟩
    have le1 : ws5.length ≤ ws.length := by
      rw [O5.e1, List.length_append]
      omega
    have le2 : js5.length ≤ js.length := by
      rw [O5.e2, List.length_append]
      omega
    have I5 := I4.step O5.b O5.g O5.wj le1 le2
    have h5 := O5.b _ _ ns.1 ns.2.1 ns.2.2 h4
    refine ⟨_, rfl, _, rfl, _, rfl, _, rfl, _, rfl, _, rfl, _, rfl, sp, _, _, _, rfl, rfl, SqL.of h5, at1, _, rfl, _, _, rfl, rfl, tp, kd, wl, pl, ar, hl, hF, ws5, js5, xs, hs, y1, deep - 1, rfl, I5, py1, by omega, by omega, by omega, fun a6 q6 H6 ws6 js6 ls6 ms6 O6 => ?_⟩
    refine ⟨sz (by show 4 ≤ 100000; decide), fun p7 hp7 => ?_⟩
    have s7 := same_new hp7 (.tup [V.str "if", .ref a3, .ref a5, .ref a6])
    have b34 : But3 tp wl pl H3 H6 := (b4.three.trans O5.b).trans O6.b
    have k36 : TK H3 H6 := I3.g.tk b34
    have k56 : TK H5 H6 := I5.g.tk O6.b
    have B6 : But3 tp wl pl H H6 := (B2.trans b3.three).trans b34
    refine q p7 (.iff u3 q5 q6) _ ws6 js6 (ls5 ++ ls6) (ms5 ++ ms6) ⟨B6.trans (but3_same s7), O6.g.same s7, O6.wj, ?_, ?_, ⟨a3, a5, a6, upd_same, ((gs hF).g.at_.tk k36).mono s7, (O5.at_.tk k56).tk (tk_same s7), O6.at_.tk (tk_same s7)⟩, ⟨(gs hF).sm, O5.ok, O6.ok⟩, ?_, O5.s1.append O6.s1, O5.s2.append O6.s2⟩
    · rw [List.reverse_append, ← List.append_assoc, ← O6.e1]
      exact O5.e1
    · rw [List.reverse_append, ← List.append_assoc, ← O6.e2]
      exact O5.e2
    · have c5 := O5.cn
      have c6 := O6.cn
      show 1 + pcnt q5 + pcnt q6 ≤ room.toNat
      omega
  obtain ⟨wd, rfl, hwd⟩ : ∃ wd : Str, v = .str wd ∧ (wd = "post" ∨ wd = "tell" ∨ wd = "let") := by
    rcases rest with z | z | z
    · exact ⟨_, z, .inl rfl⟩
    · exact ⟨_, z, .inr (.inl rfl)⟩
    · exact ⟨_, z, .inr (.inr rfl)⟩
  have hnif : decide (V.str wd = V.str (Str.ofString "if")) = false := by
    rcases hwd with rfl | rfl | rfl <;> rfl
  refine ⟨_, rfl, rfl, _, rfl, itF hnif ?_⟩
  clear rest hv hm
  obtain ⟨el, hd', fs', kvs, rm, st, k2, _⟩ := I2.g.k
  refine ⟨_, rfl, kd, _, rfl, gt_words k2, sz (by show 0 ≤ 100000; decide), fun p0 hp0 => ?_⟩
  have s3 := same_new hp0 (.lst [])
  refine ⟨.list (ws.map PyData.str), .list [], .lst (SqL.of (s3 _ _ I2.g.w.1)) (dp_strs ws), .lst (SqL.of upd_same) .nil, shaped_strs I2.g.w.2, rfl, _, rfl, ?_⟩
  rw [eqv_nil]
  have I3 := I2.same s3
  have B3 := B2.trans (but3_same (tp := tp) (wl := wl) (pl := pl) s3)
  have k3 := s3 _ _ k2
  generalize upd H2 p0 (.lst []) = H3 at I3 B3 k3 ⊢
  by_cases hws : ws = []
  · exact itT (by rw [hws]; rfl) (endW H3 _ B3 I3)
  refine itF (by cases ws with | nil => exact absurd rfl hws | cons _ _ => rfl) ?_
  obtain ⟨wsx, x, rfl⟩ := snoc_of hws
  have hxW : isW x = true := I.g.w.2 x (List.mem_append_right _ List.mem_cons_self)
  have gw := I3.g.w.1
  rw [mapS] at gw
  refine ⟨_, rfl, kd, _, rfl, gt_words k3, .inl ⟨rfl, _, SqL.of gw⟩, wl, _, _, rfl, rfl, gw, lastV, ?_⟩
  rw [dropV]
  obtain ⟨g4, b4⟩ := I3.g.popW
  have wj := I.wj
  rw [List.length_append] at wj
  have wj : wsx.length + 1 ≤ js.length := wj
  have lx : (wsx ++ [x]).length = wsx.length + 1 := by rw [List.length_append]; rfl
  have I4 := I3.step b4 g4 (by omega) (by omega) (Nat.le_refl _)
  have B4 := B3.trans b4
  have k4 : (upd H3 wl (.lst (wsx.map V.str))) kd = some (.dK (knT el hd' wl pl rm st)) := by
    obtain ⟨n1, n2, n3⟩ := I3.g.ntk k3 (fun _ z => nomatch z)
    exact b4 _ _ n1 n2 n3 k3
  generalize upd H3 wl (.lst (wsx.map V.str)) = H4 at g4 b4 I4 B4 k4 ⊢
  -- what is around with one word more
  have moreW : ∀ {H5 : Hp} {ws5 js5 : List Str} (I5 : PtIn H5 tp kd wl pl ar hl hF ws5 js5 xs hs) (hw5 : ws5.length ≤ wsx.length) {p6 p7 : Addr} (hp6 : H5 p6 = none) (hp7 : upd H5 p6 (.lst [V.str x]) p7 = none),
      PtIn (upd (upd H5 p6 (.lst [V.str x])) p7 (.lst (xs.map V.str ++ [V.str x]))) tp kd wl pl p7 hl hF ws5 js5 (xs ++ [x]) hs := by
    intro H5 ws5 js5 I5 hw5 p6 p7 hp6 hp7
    have s6 := same_new hp6 (.lst [V.str x])
    have s7 := same_new hp7 (.lst (xs.map V.str ++ [V.str x]))
    have I7 := I5.same (s6.trans s7)
    have nn := (I5.same s6).g.new hp7
    have e7 := I7.l2
    refine ⟨I7.g, ⟨by rw [upd_same, mapS], fun y hy => ?_⟩, nn.2.1, nn.2.2, I7.h, I7.h0, I7.h1, I7.h2, I7.ne, I7.wj, ?_, e7⟩
    · rcases List.mem_append.mp hy with z | z
      · exact I.w.2 y z
      · rw [List.mem_singleton.mp z]
        exact hxW
    · rw [List.length_append, List.length_singleton]
      omega
  by_cases hpost : wd = "post"
  · subst hpost
    refine ⟨_, rfl, rfl, _, rfl, itT rfl ?_⟩
    obtain ⟨jsx, j, rfl⟩ := snoc_of (ws := js) (fun z => by rw [z] at wj; cases wj)
    have hjW : isW j = true := I.g.p.2 j (List.mem_append_right _ List.mem_cons_self)
    have lj : (jsx ++ [j]).length = jsx.length + 1 := by rw [List.length_append]; rfl
    have gp := I4.g.p.1
    rw [mapS] at gp
    refine ⟨_, rfl, kd, _, rfl, gt_posts k4, .inl ⟨rfl, _, SqL.of gp⟩, pl, _, _, rfl, rfl, gp, lastV, ?_⟩
    rw [dropV]
    obtain ⟨g5, b5⟩ := I4.g.popP
    have I5 := I4.step b5 g5 (by omega) (Nat.le_refl _) (by omega)
    have B5 := B4.trans b5
    generalize upd H4 pl (.lst (jsx.map V.str)) = H5 at g5 b5 I5 B5 ⊢
    refine ⟨_, rfl, _, rfl, _, _, rfl, rfl, tp, room - 1, 2, rfl, I5.g.t, by decide, by omega, by omega, fun sp ss H6 b6 t6 fr6 h6 hl6 pos6 sum6 => ?_⟩
    have I6 := I5.one b6 t6
    obtain ⟨y0, y1, rfl⟩ : ∃ y0 y1, ss = [y0, y1] := by
      match ss, hl6 with
      | [y0, y1], _ => exact ⟨y0, y1, rfl⟩
      | [], z => cases z
      | [_], z => cases z
      | _ :: _ :: _ :: _, z => simp at z; omega
    have py0 := pos6 y0 List.mem_cons_self
    have py1 := pos6 y1 (List.mem_cons_of_mem _ List.mem_cons_self)
    have sy : y0 + y1 ≤ room - 1 := by
      have : y0 + (y1 + 0) ≤ room - 1 := sum6
      omega
    have ns := I5.g.new fr6
    -- T
    refine ⟨_, rfl, _, rfl, _, rfl, _, rfl, sz (by show 1 ≤ 100000; decide), fun p7 hp7 => ?_⟩
    have s7 := same_new hp7 (.lst [V.str x])
    refine ⟨ar, p7, _, _, rfl, rfl, s7 _ _ I6.w.1, upd_same, sz (by rw [List.length_map]; show xs.length + 1 ≤ 100000; omega), fun p8 hp8 => ?_⟩
    have s8 := same_new hp8 (.lst (xs.map V.str ++ [V.str x]))
    have I8 := moreW I6 (Nat.le_refl _) hp7 hp8
    have h8 := s8 _ _ (s7 _ _ h6)
    have s68 := s7.trans s8
    generalize upd (upd H6 p7 (.lst [V.str x])) p8 (.lst (xs.map V.str ++ [V.str x])) = H8 at I8 h8 s68 ⊢
    refine ⟨_, rfl, _, rfl, sp, _, _, _, rfl, rfl, SqL.of h8, at0, _, rfl, _, _, rfl, rfl, tp, kd, wl, pl, p8, hl, hF, wsx, jsx, xs ++ [x], hs, y0, deep - 1, rfl, I8, py0, by omega, by omega, by omega, fun a9 q9 H9 ws9 js9 ls9 ms9 O9 => ?_⟩
    have le1 : ws9.length ≤ wsx.length := by
      rw [O9.e1, List.length_append]
      omega
    have le2 : js9.length ≤ jsx.length := by
      rw [O9.e2, List.length_append]
      omega
    have b69 : But3 tp wl pl H6 H9 := (but3_same s68).trans O9.b
    have I9 := I6.step b69 O9.g O9.wj le1 le2
    have h9 := O9.b _ _ ns.1 ns.2.1 ns.2.2 h8
    refine ⟨fun σ' H' => ∃ a q, σ' = [some (.ref tp), some (.ref kd), some (.ref ar), some (.ref hl), some (.int room), some (.int deep), some (.str "post"), none, some (.ref sp), some (.ref a), some (.str x), some (.str j), none] ∧ But3 tp wl pl H9 H' ∧ PtIn H' tp kd wl pl ar hl hF ws9 js9 xs hs ∧
      H' sp = some (.lst ([y0, y1].map V.int)) ∧ PAt H' q a ∧ okP hF q (xs ++ [x]) hs ∧ pcnt q ≤ y0.toNat ∧ (wP q).Sublist ls9 ∧ (jP q).Sublist ms9, ?_, ?_⟩
    · refine ⟨_, rfl, tp, 8, rfl, I9.g.t, by decide, by decide, fun r10 H10 r100 r101 b10 t10 => ⟨rfl, _, rfl, ?_⟩⟩
      have I10 := I9.one b10 t10
      have h10 := b10 _ _ ns.1 h9
      refine ite2 (fun c => ?_) (fun c => ?_)
      · refine ⟨_, rfl, _, rfl, _, rfl, tp, kd, wl, pl, hl, hF, ws9, js9, hs, rfl, I10.g, I10.h, I10.ne, by have := I10.l2; omega, I10.h0, fun jj H11 b11 t11 hjj => ?_⟩
        have I11 := I10.one b11 t11
        refine ⟨_, rfl, sz (by show 2 ≤ 100000; decide), fun p12 hp12 => ⟨sz (by show 3 ≤ 100000; decide), fun p13 hp13 => ?_⟩⟩
        have s12 := same_new hp12 (.tup [V.str "name", .str x])
        have s13 := same_new hp13 (.tup [V.str "give", .str jj, .ref p12])
        have gn : Gd (upd (upd H11 p12 (.tup [V.str "name", .str x])) p13 (.tup [V.str "give", .str jj, .ref p12])) p12 1 1 hF (xs ++ [x]) [] (mkL (.nam x) []) := gd_nam ⟨rfl, s13 _ _ upd_same⟩ hxW (List.mem_append_right _ List.mem_cons_self)
        refine ⟨p13, .give jj (mkL (.nam x) []), rfl, ((b10.three.trans b11.three).trans (but3_same s12)).trans (but3_same s13), (I11.same s12).same s13, s13 _ _ (s12 _ _ (b11 _ _ ns.1 h10)), ⟨p12, upd_same, gn.at_⟩, ⟨hjj, gn.ok, simple_mkL rfl (fun _ z => nomatch z), gn.sc, Nat.le_trans gn.cn (by decide), gn.dp.le (by decide)⟩, by show 1 ≤ y0.toNat; omega, List.nil_sublist _, List.nil_sublist _⟩
      · exact ⟨a9, q9, rfl, b10.three, I10, h10, O9.at_.tk (b10.tk I9.g.t), O9.ok, O9.cn, O9.s1, O9.s2⟩
    rintro σ10 H10 ⟨a10, q10, rfl, b10, I10, h10, pa10, ok10, cn10, su10, sj10⟩
    -- U
    refine ⟨_, rfl, _, rfl, _, rfl, _, rfl, _, rfl, _, rfl, _, rfl, _, rfl, sz (by show 1 ≤ 100000; decide), fun p11 hp11 => ?_⟩
    have s11 := same_new hp11 (.lst [V.str j])
    refine ⟨hl, p11, _, _, rfl, rfl, s11 _ _ I10.h, upd_same, sz (by rw [List.length_map]; show hs.length + 1 ≤ 100000; omega), fun p12 hp12 => ?_⟩
    have s12 := same_new hp12 (.lst (hs.map V.str ++ [V.str j]))
    have I12 := I10.same (s11.trans s12)
    have nn := (I10.same s11).g.new hp12
    have hH : (upd (upd H10 p11 (.lst [V.str j])) p12 (.lst (hs.map V.str ++ [V.str j]))) p12 = some (.lst ((hs ++ [j]).map V.str)) := by
      rw [upd_same, mapS]
    have h12 := s12 _ _ (s11 _ _ h10)
    have s1012 := s11.trans s12
    generalize upd (upd H10 p11 (.lst [V.str j])) p12 (.lst (hs.map V.str ++ [V.str j])) = H12 at I12 hH h12 s1012 ⊢
    have J12 : PtIn H12 tp kd wl pl ar p12 hF ws9 js9 xs (hs ++ [j]) := ⟨I12.g, I12.w, I12.a1, I12.a2, hH, nn.1, nn.2.1, nn.2.2, by simp, I12.wj, I12.l1, by rw [List.length_append, List.length_singleton]; omega⟩
    refine ⟨_, rfl, sp, _, _, _, rfl, rfl, SqL.of h12, at1, _, rfl, _, _, rfl, rfl, tp, kd, wl, pl, ar, p12, hF, ws9, js9, xs, hs ++ [j], y1, deep - 1, rfl, J12, py1, by omega, by omega, by omega, fun a13 q13 H13 ws13 js13 ls13 ms13 O13 => ?_⟩
    refine ⟨sz (by show 5 ≤ 100000; decide), fun p14 hp14 => ?_⟩
    have s14 := same_new hp14 (.tup [V.str "post", .str j, .str x, .ref a10, .ref a13])
    have k1013 : TK H10 H13 := (tk_same s1012).trans (I12.g.tk O13.b)
    have BE : But3 tp wl pl H H13 := (((B5.trans b6.three).trans b69).trans b10).trans ((but3_same s1012).trans O13.b)
    refine q p14 (.post j x q10 q13) _ ws13 js13 (x :: (ls9 ++ ls13)) (j :: (ms9 ++ ms13)) ⟨BE.trans (but3_same s14), O13.g.same s14, O13.wj, ?_, ?_, ⟨a10, a13, upd_same, (pa10.tk k1013).tk (tk_same s14), O13.at_.tk (tk_same s14)⟩, ⟨hjW, hxW, ok10, O13.ok⟩, ?_, (su10.append O13.s1).cons_cons x, (sj10.append O13.s2).cons_cons j⟩
    · rw [O9.e1, O13.e1]
      simp
    · rw [O9.e2, O13.e2]
      simp
    · have c13 := O13.cn
      show 1 + pcnt q10 + pcnt q13 ≤ room.toNat
      omega
  · have hnp : decide (V.str wd = V.str (Str.ofString "post")) = false := decide_eq_false fun z => hpost (V.str.inj z)
    refine ⟨_, rfl, rfl, _, rfl, itF hnp ?_⟩
    have hwd2 : wd = "tell" ∨ wd = "let" := hwd.resolve_left hpost
    refine ⟨_, rfl, _, rfl, tp, ar, xs, rfl, I4.g.t, I4.w, by omega, Nat.le_refl _, fun a5 u5 H5 b5 t5 gs => ?_⟩
    have I5 := I4.one b5 t5
    refine ⟨_, rfl, _, rfl, _, rfl, _, rfl, _, rfl, _, rfl, _, rfl, sz (by show 1 ≤ 100000; decide), fun p7 hp7 => ?_⟩
    have s7 := same_new hp7 (.lst [V.str x])
    refine ⟨ar, p7, _, _, rfl, rfl, s7 _ _ I5.w.1, upd_same, sz (by rw [List.length_map]; show xs.length + 1 ≤ 100000; omega), fun p8 hp8 => ?_⟩
    have s8 := same_new hp8 (.lst (xs.map V.str ++ [V.str x]))
    have I8 := moreW I5 (Nat.le_refl _) hp7 hp8
    have s58 := s7.trans s8
    generalize upd (upd H5 p7 (.lst [V.str x])) p8 (.lst (xs.map V.str ++ [V.str x])) = H8 at I8 s58 ⊢
    refine ⟨_, rfl, _, rfl, _, _, rfl, rfl, _, rfl, _, _, rfl, rfl, tp, kd, wl, pl, p8, hl, hF, wsx, js, xs ++ [x], hs, room - 1, deep - 1, rfl, I8, by omega, by omega, by omega, by omega, fun a9 q9 H9 ws9 js9 ls9 ms9 O9 => ?_⟩
    refine ⟨sz (by show 4 ≤ 100000; decide), fun p14 hp14 => ?_⟩
    have s14 := same_new hp14 (.tup [V.str wd, .str x, .ref a5, .ref a9])
    have k59 : TK H5 H9 := (tk_same s58).trans (I8.g.tk O9.b)
    have BE : But3 tp wl pl H H9 := ((B4.trans b5.three).trans (but3_same s58)).trans O9.b
    have hatT := ((gs hF).g.at_.tk k59).tk (tk_same s14)
    have hatP := O9.at_.tk (tk_same s14)
    have e1 : wsx ++ [x] = ws9 ++ (x :: ls9).reverse := by
      rw [O9.e1]
      simp
    have hc : 1 + pcnt q9 ≤ room.toNat := by
      have := O9.cn
      omega
    rcases hwd2 with rfl | rfl
    · exact q p14 (.tell x u5 q9) _ ws9 js9 (x :: ls9) ms9 ⟨BE.trans (but3_same s14), O9.g.same s14, O9.wj, e1, O9.e2, ⟨a5, a9, upd_same, hatT, hatP⟩, ⟨hxW, (gs hF).sm, O9.ok⟩, hc, O9.s1.cons_cons x, O9.s2⟩
    · exact q p14 (.lett x u5 q9) _ ws9 js9 (x :: ls9) ms9 ⟨BE.trans (but3_same s14), O9.g.same s14, O9.wj, e1, O9.e2, ⟨a5, a9, upd_same, hatT, hatP⟩, ⟨hxW, (gs hF).sm, O9.ok⟩, hc, O9.s1.cons_cons x, O9.s2⟩
end
end KB

namespace KB
open PySem L2

section
variable {P : Program} {w : World} {K : PySem.W.Frag} {mg : Str → Option Value} {base : Heap}
theorem all_part (T : Txt K mg) {f fg fh fe fs fq : Addr} {fd gd hd ed sd qd : FuncData} (F : Fun K "_law_part" "_law_part" s_law_part f fd) (G_law_digit : FnOk P w K mg base CX0 1 fg gd ["tape", "many"] spDig) (R_law_digit : Ref K mg "_law_digit" fg gd ["tape", "many"])
    (G_law_some_hand : FnOk P w K mg base CX0 2 fh hd ["tape", "known", "hands"] spHand) (R_law_some_hand : Ref K mg "_law_some_hand" fh hd ["tape", "known", "hands"]) (G_law_end : FnOk P w K mg base CX0 6 fe ed ["tape", "known", "around", "hands"] spEnd) (R_law_end : Ref K mg "_law_end" fe ed ["tape", "known", "around", "hands"])
    (G_law_simple : FnOk P w K mg base CX0 5 fs sd ["tape", "around", "deep"] (spSimple 1)) (R_law_simple : Ref K mg "_law_simple" fs sd ["tape", "around", "deep"]) (G_law_shares : FnOk P w K mg base CX0 2 fq qd ["tape", "room", "many"] spShr) (R_law_shares : Ref K mg "_law_shares" fq qd ["tape", "room", "many"])
    (R_law_part : Ref K mg "_law_part" f fd ["tape", "known", "around", "hands", "room", "deep"]) : ∀ n : Nat, FnOk P w K mg base CX0 (n + 7) f fd ["tape", "known", "around", "hands", "room", "deep"] (spPart n)
  | 0 => ok_part T 0 F G_law_digit R_law_digit G_law_some_hand R_law_some_hand G_law_end R_law_end G_law_simple R_law_simple G_law_shares R_law_shares no_sp R_law_part
  | n + 1 => ok_part T (n + 1) F G_law_digit R_law_digit G_law_some_hand R_law_some_hand G_law_end R_law_end G_law_simple R_law_simple G_law_shares R_law_shares (all_part T F G_law_digit R_law_digit G_law_some_hand R_law_some_hand G_law_end R_law_end G_law_simple R_law_simple G_law_shares R_law_shares R_law_part n) R_law_part
/-! ### _law_turned_body -/
def spTBody : Sp := fun vs H Q _ => ∃ (tp kd wl pl nl : Addr) (hF : Str → Option Nat) (ws js xs : List Str), vs = [.ref tp, .ref kd, .ref nl] ∧ GT H tp kd wl pl hF ws js ∧ Wls H nl xs ∧ nl ≠ wl ∧ nl ≠ pl ∧ ws.length ≤ js.length ∧ xs.length + ws.length ≤ 100 ∧ js.length ≤ 100 ∧
  ∀ a p H' ws' js' ls ms, PtOut H H' tp kd wl pl hF ws js xs ["home"] 13 a p ws' js' ls ms → Q (.ref a) H'
theorem PtOut.le {H H' : Hp} {tp kd wl pl : Addr} {hF : Str → Option Nat} {ws js xs hs : List Str} {n m : Nat} {a : Addr} {p : Pt} {ws' js' ls ms : List Str} (h : n ≤ m) (O : PtOut H H' tp kd wl pl hF ws js xs hs n a p ws' js' ls ms) : PtOut H H' tp kd wl pl hF ws js xs hs m a p ws' js' ls ms :=
  ⟨O.b, O.g, O.wj, O.e1, O.e2, O.at_, O.ok, Nat.le_trans O.cn h, O.s1, O.s2⟩
theorem PtOut.pre {H0 H H' : Hp} {tp kd wl pl : Addr} {hF : Str → Option Nat} {ws js xs hs : List Str} {n : Nat} {a : Addr} {p : Pt} {ws' js' ls ms : List Str} (b : But3 tp wl pl H0 H) (O : PtOut H H' tp kd wl pl hF ws js xs hs n a p ws' js' ls ms) : PtOut H0 H' tp kd wl pl hF ws js xs hs n a p ws' js' ls ms :=
  ⟨b.trans O.b, O.g, O.wj, O.e1, O.e2, O.at_, O.ok, O.cn, O.s1, O.s2⟩
abbrev s_law_turned_body : Stmt := top 43
theorem scLturned_body : FnScope ["tape", "known", "names", "one", "two"] ["tape", "known", "names"] (defScope s_law_turned_body) := ⟨rfl, rfl, rfl, by decide +kernel, rfl, by decide +kernel, by decide +kernel⟩
theorem ok_tbody (T : Txt K mg) {f fg fp : Addr} {fd gd pd_ : FuncData} (F : Fun K "_law_turned_body" "_law_turned_body" s_law_turned_body f fd) (G_law_digit : FnOk P w K mg base CX0 1 fg gd ["tape", "many"] spDig) (R_law_digit : Ref K mg "_law_digit" fg gd ["tape", "many"])
    (G_law_part : FnOk P w K mg base CX0 15 fp pd_ ["tape", "known", "around", "hands", "room", "deep"] (spPart 8)) (R_law_part : Ref K mg "_law_part" fp pd_ ["tape", "known", "around", "hands", "room", "deep"]) : FnOk P w K mg base CX0 16 f fd ["tape", "known", "names"] spTBody := by
  refine F.ok scLturned_body (fun vs H Q E h => ?_) (fun cdv A outer s H vs Q E hr h => ?_)
  · obtain ⟨tp, kd, wl, pl, nl, hF, ws, js, xs, rfl, _⟩ := h
    rfl
  obtain ⟨tp, kd, wl, pl, nl, hF, ws, js, xs, rfl, g, hw, n1, n2, wj, l1, l2, q⟩ := h
  refine ⟨_, (pss_cons (ps_if (PW.pt (pw_and (pt_cmpR (op_neD hr.units) (pv 2) (pe_lst pa_nil) (nomark _)) (pw_and1 (pt_cmpR op_gt (pe_call G_law_digit (hr.mono (by omega)) rfl R_law_digit.m R_law_digit.k R_law_digit.b .nil pass0 (pa_cons (pv 0) (pa_cons pe_int pa_nil))) pe_int (nomark _))))) (pss_cons (ps_set (i := 3) scLturned_body.nd rfl (Or.inl rfl) (pe_call G_law_part (hr.mono (by omega)) rfl R_law_part.m R_law_part.k R_law_part.b .nil pass0 (pa_cons (pv 0) (pa_cons (pv 1) (pa_cons (pv 2) (pa_cons (pe_lst (pa_cons pe_str pa_nil)) (pa_cons (pe_dget (hu_of hr) (pv 1) pe_str (fun _ _ => rfl)) (pa_cons pe_int pa_nil))))))))
    (pss_cons (ps_set (i := 4) scLturned_body.nd rfl (Or.inl rfl) (pe_call G_law_part (hr.mono (by omega)) rfl R_law_part.m R_law_part.k R_law_part.b .nil pass0 (pa_cons (pv 0) (pa_cons (pv 1) (pa_cons (pv 2) (pa_cons (pe_lst (pa_cons pe_str pa_nil)) (pa_cons pe_int (pa_cons pe_int pa_nil))))))))
    (pss_one (ps_ret (pe_tup (pa_cons pe_str (pa_cons (pe_tup (pa_cons pe_str (pa_cons (pe_ix ix_list (pv 2) pe_int (fun _ _ => rfl)) pa_nil))) (pa_cons (pv 3) (pa_cons (pv 4) pa_nil))))))))) pss_nil)
    (pss_one (ps_ret (pe_call G_law_part (hr.mono (by omega)) rfl R_law_part.m R_law_part.k R_law_part.b .nil pass0 (pa_cons (pv 0) (pa_cons (pv 1) (pa_cons (pv 2) (pa_cons (pe_lst (pa_cons pe_str pa_nil)) (pa_cons (pe_dget (hu_of hr) (pv 1) pe_str (fun _ _ => rfl)) (pa_cons pe_int pa_nil)))))))))), ?_⟩
  -- home around
  have inH : ∀ {H1 : Hp} {ws1 js1 : List Str} {ph : Addr}, GT H1 tp kd wl pl hF ws1 js1 → Wls H1 nl xs → H1 ph = none → ws1.length ≤ js1.length → ws1.length ≤ ws.length → js1.length ≤ js.length → PtIn (upd H1 ph (.lst [V.str "home"])) tp kd wl pl nl ph hF ws1 js1 xs ["home"] := by
    intro H1 ws1 js1 ph g1 w1 hph a1 a2 a3
    have sp := same_new hph (.lst [V.str "home"])
    have nn := g1.new hph
    exact ⟨g1.same sp, w1.but (but_same sp) g1.t, n1, n2, upd_same, nn.1, nn.2.1, nn.2.2, by simp, a1, by omega, by show 1 + js1.length ≤ 200; omega⟩
  obtain ⟨el, hd', fs', kvs, rm, st, k1, rm1, rm9, _⟩ := g.k
  have nk := g.ntk k1 (fun _ z => nomatch z)
  have finalW : ∀ H1, But1 tp H H1 → Tp H1 tp → _ := fun (H1 : Hp) (b1 : But1 tp H H1) (t1 : Tp H1 tp) =>
    (show (tRet (tCall (spPart 8) [] E0 (tCons (tVar 0) (tCons (tVar 1) (tCons (tVar 2) (tCons (tLst (tCons (tC (.str "home")) tNil)) (tCons (tDGet (tVar 1) (tC (.str "room"))) (tCons (tC (.int 8)) tNil)))))))) { nx := fun x H' => Q V.non H', rt := Q } [some (.ref tp), some (.ref kd), some (.ref nl), none, none] H1 from by
      refine ⟨_, rfl, _, rfl, _, rfl, sz (by show 1 ≤ 100000; decide), fun ph hph => ?_⟩
      have s2 := same_new hph (.lst [V.str "home"])
      have g1 := g.one b1 t1
      refine ⟨_, rfl, kd, _, rfl, gt_room (s2 _ _ (b1 _ _ nk.1 k1)), tp, kd, wl, pl, nl, ph, hF, ws, js, xs, ["home"], rm, 8, rfl, inH g1 (hw.but b1 g.t) hph wj (Nat.le_refl _) (Nat.le_refl _), rm1, by omega, by decide, by decide, fun a p H' ws' js' ls ms O => ?_⟩
      exact q a p H' ws' js' ls ms ((O.pre (b1.three.trans (but3_same s2))).le (by omega)))
  refine ⟨_, rfl, sz (by show 0 ≤ 100000; decide), fun p0 hp0 => ?_⟩
  have s0 := same_new hp0 (.lst [])
  refine ⟨.list (xs.map PyData.str), .list [], .lst (SqL.of (s0 _ _ hw.1)) (dp_strs xs), .lst (SqL.of upd_same) .nil, shaped_strs hw.2, rfl, _, rfl, ?_⟩
  rw [eqv_nil]
  have g0 := g.same s0
  have w0 := hw.but (but_same s0) g.t
  have b0 : But1 tp H (upd H p0 (.lst [])) := but_same s0
  generalize upd H p0 (.lst []) = H0 at g0 w0 b0 ⊢
  cases xs with
  | nil => exact itF rfl (iteF (finalW H0 b0 g0.t))
  | cons x xr =>
    refine itT rfl ⟨_, rfl, tp, 4, rfl, g0.t, by decide, by decide, fun r H1 r0 r1 b1 t1 => ?_⟩
    have b01 := b0.trans b1
    refine ⟨_, _, rfl, rfl, _, rfl, ?_⟩
    refine ite2 (fun c => ?_) (fun c => finalW H1 b01 t1)
    have g1 := g0.one b1 t1
    have w1 := w0.but b1 g0.t
    have k11 := b01 _ _ nk.1 k1
    -- one
    refine ⟨_, rfl, _, rfl, _, rfl, sz (by show 1 ≤ 100000; decide), fun ph hph => ?_⟩
    have s2 := same_new hph (.lst [V.str "home"])
    refine ⟨_, rfl, kd, _, rfl, gt_room (s2 _ _ k11), tp, kd, wl, pl, nl, ph, hF, ws, js, x :: xr, ["home"], rm, 7, rfl, inH g1 w1 hph wj (Nat.le_refl _) (Nat.le_refl _), rm1, by omega, by decide, by decide, fun a3 q3 H3 ws3 js3 ls3 ms3 O3 => ?_⟩
    have le1 : ws3.length ≤ ws.length := by
      rw [O3.e1, List.length_append]
      omega
    have le2 : js3.length ≤ js.length := by
      rw [O3.e2, List.length_append]
      omega
    have B3 : But3 tp wl pl H1 H3 := (but3_same s2).trans O3.b
    have w3 := w1.three B3 g1 n1 n2
    -- two
    refine ⟨_, rfl, _, rfl, _, rfl, sz (by show 1 ≤ 100000; decide), fun ph4 hph4 => ?_⟩
    have s4 := same_new hph4 (.lst [V.str "home"])
    refine ⟨tp, kd, wl, pl, nl, ph4, hF, ws3, js3, x :: xr, ["home"], 3, 2, rfl, inH O3.g w3 hph4 O3.wj le1 le2, by decide, by decide, by decide, by decide, fun a5 q5 H5 ws5 js5 ls5 ms5 O5 => ?_⟩
    have B5 : But3 tp wl pl H3 H5 := (but3_same s4).trans O5.b
    have w5 := w3.three B5 O3.g n1 n2
    refine ⟨_, rfl, nl, _, _, _, rfl, rfl, SqL.of w5.1, at0, sz (by show 2 ≤ 100000; decide), fun p6 hp6 => ⟨_, rfl, _, rfl, sz (by show 4 ≤ 100000; decide), fun p7 hp7 => ?_⟩⟩
    have s6 := same_new hp6 (.tup [V.str "name", .str x])
    have s7 := same_new hp7 (.tup [V.str "if", .ref p6, .ref a3, .ref a5])
    have s67 := s6.trans s7
    have gn := gd_nam (hd := hF) (xs := x :: xr) (H := upd (upd H5 p6 (.tup [V.str "name", .str x])) p7 (.tup [V.str "if", .ref p6, .ref a3, .ref a5])) (a := p6) (x := x) ⟨rfl, s7 _ _ upd_same⟩ (hw.2 x List.mem_cons_self) List.mem_cons_self
    have k35 : TK H3 H5 := O3.g.tk B5
    refine q p7 (.iff (mkL (.nam x) []) q3 q5) _ ws5 js5 (ls3 ++ ls5) (ms3 ++ ms5) ⟨((b01.three.trans B3).trans B5).trans (but3_same s67), O5.g.same s67, O5.wj, ?_, ?_, ⟨p6, a3, a5, upd_same, gn.at_, (O3.at_.tk k35).tk (tk_same s67), O5.at_.tk (tk_same s67)⟩, ⟨⟨gn.ok, simple_mkL rfl (fun _ z => nomatch z), gn.sc, Nat.le_trans gn.cn (by decide), gn.dp.le (by decide)⟩, O3.ok, O5.ok⟩, ?_, O3.s1.append O5.s1, O3.s2.append O5.s2⟩
    · rw [O3.e1, O5.e1]
      simp
    · rw [O3.e2, O5.e2]
      simp
    · have c3 := O3.cn
      have c5 : pcnt q5 ≤ 3 := O5.cn
      show 1 + pcnt q3 + pcnt q5 ≤ 13
      omega
end
end KB

namespace KB
open PySem L2

/-! ### the words that are drawn -/
def lettersS : Str := "abcdefghijklmnopqrstuvwxyz"
def sgn (i : Nat) : Str := ⟨#[97 + i % 26]⟩
def endsL : List Str := ["", "a", "omelons"]
def someL : List Str := ["give", "ask", "post", "plus", "less", "name", "number", "to", "as", "f", "x", "aq", "bq", "lets", "ifs", "ina", "homes", "q"]
def w0 (turn : Nat) (e : Str) (k : Nat) : Str := sgn (turn + k) ++ e
def w1 (turn : Nat) (k : Nat) : Str := repS (sgn (turn + k / 8)) (1 + (k : Int) % 8)
def w2 (turn : Nat) (k : Nat) : Str := someL.getD ((turn + k) % 18) ""
def good16 (f : Nat → Str) : Bool := ((List.range 16).map f).all isW && decide ((List.range 16).map f).Nodup
theorem good_w0 : ∀ turn < 26, ∀ e ∈ endsL, good16 (w0 turn e) = true := by decide +kernel
theorem good_w1 : ∀ turn < 26, good16 (w1 turn) = true := by decide +kernel
theorem good_w2 : ∀ turn < 26, good16 (w2 turn) = true := by decide +kernel
theorem good_of {f : Nat → Str} (h : good16 f = true) {n : Nat} (hn : n ≤ 16) : (∀ x ∈ (List.range n).map f, isW x = true) ∧ ((List.range n).map f).Nodup := by
  unfold good16 at h
  rw [Bool.and_eq_true] at h
  have hs : ((List.range n).map f).Sublist ((List.range 16).map f) := (List.range_sublist.mpr hn).map f
  exact ⟨fun x hx => List.all_eq_true.mp h.1 x (hs.subset hx), (of_decide_eq_true h.2).sublist hs⟩
theorem letters_at {i : Int} (h0 : 0 ≤ i) (h1 : i < 26) : atI lettersS.cps.toList i = some (97 + i.toNat) := by
  have e : lettersS.cps.toList = (List.range 26).map (97 + ·) := by decide +kernel
  rw [e]
  obtain ⟨n, rfl⟩ : ∃ n : Nat, i = (n : Int) := ⟨i.toNat, by omega⟩
  rw [Int.toNat_natCast]
  refine atI_nat ?_
  rw [List.getElem?_map, List.getElem?_range (by omega)]
  rfl
theorem range_push {f : Nat → Str} (i : Nat) : ((List.range i).map f).map V.str ++ [V.str (f i)] = ((List.range (i + 1)).map f).map V.str := by
  rw [List.range_succ, List.map_append, List.map_append]
  rfl

section
variable {P : Program} {w : World} {K : PySem.W.Frag} {mg : Str → Option Value} {base : Heap}
def spWords : Sp := fun vs H Q _ => ∃ (tp : Addr) (many : Int), vs = [.ref tp, .int many] ∧ Tp H tp ∧ 0 ≤ many ∧ many ≤ 16 ∧
  ∀ (p : Addr) (xs : List Str) (H' : Hp), But1 tp H H' → Tp H' tp → H p = none → Wls H' p xs → (xs.length : Int) = many → xs.Nodup → Q (.ref p) H'
abbrev s_law_words : Stmt := top 34
theorem scLwords : FnScope ["tape", "many", "letters", "way", "turn", "ends", "k", "some"] ["tape", "many"] (defScope s_law_words) := ⟨rfl, rfl, rfl, by decide +kernel, rfl, by decide +kernel, by decide +kernel⟩
theorem ok_words (T : Txt K mg) {f g : Addr} {fd gd : FuncData} (F : Fun K "_law_words" "_law_words" s_law_words f fd) (G_law_digit : FnOk P w K mg base CX0 1 g gd ["tape", "many"] spDig) (R_law_digit : Ref K mg "_law_digit" g gd ["tape", "many"]) : FnOk P w K mg base CX0 2 f fd ["tape", "many"] spWords := by
  refine F.ok scLwords (fun vs H Q E h => ?_) (fun cdv A outer s H vs Q E hr h => ?_)
  · obtain ⟨tp, many, rfl, _⟩ := h
    rfl
  obtain ⟨tp, many, rfl, ht, hm0, hm1, q⟩ := h
  refine ⟨_, (pss_cons (ps_set (i := 2) scLwords.nd rfl (Or.inr rfl) pe_str)
    (pss_cons (ps_set (i := 3) scLwords.nd rfl (Or.inl rfl) (pe_call G_law_digit hr rfl R_law_digit.m R_law_digit.k R_law_digit.b .nil pass0 (pa_cons (pv 0) (pa_cons pe_int pa_nil))))
    (pss_cons (ps_set (i := 4) scLwords.nd rfl (Or.inr rfl) (pe_call G_law_digit hr rfl R_law_digit.m R_law_digit.k R_law_digit.b .nil pass0 (pa_cons (pv 0) (pa_cons pe_int pa_nil))))
    (pss_cons (ps_if (pt_cmpR op_eq (pv 3) pe_int (nomark _)) (pss_cons (ps_set (i := 5) scLwords.nd rfl (Or.inr rfl) (pe_ix ix_list (pe_lst (pa_cons pe_str (pa_cons pe_str (pa_cons pe_str pa_nil)))) (pe_call G_law_digit hr rfl R_law_digit.m R_law_digit.k R_law_digit.b .nil pass0 (pa_cons (pv 0) (pa_cons pe_int pa_nil))) (fun _ _ => rfl)))
    (pss_one (ps_ret (pe_lc (own := [("k", 6)]) (g := gName 6) (by rfl) scLwords.nd (pi_range1 rfl T.m_range (pa_cons (pv 1) pa_nil)) (blkOk_by (own := [("k", 6)]) (N := ["tape", "many", "letters", "way", "turn", "ends", "k", "some"]) (sc := defScope s_law_words) (by decide +kernel)) (fun _ _ _ _ _ => (pg_name (i := 6) scLwords.nd rfl (Or.inl rfl))) (fun _ _ _ _ _ => pts_nil) (fun _ _ _ _ _ => (pe_op op_add_str (pe_ix ix_str (pv 2) (pe_op op_mod (pe_op op_add (pv 4) (pv 6)) pe_int) (fun _ _ => rfl)) (pv 5))))))) pss_nil)
    (pss_cons (ps_if (pt_cmpR op_eq (pv 3) pe_int (nomark _)) (pss_one (ps_ret (pe_lc (own := [("k", 6)]) (g := gName 6) (by rfl) scLwords.nd (pi_range1 rfl T.m_range (pa_cons (pv 1) pa_nil)) (blkOk_by (own := [("k", 6)]) (N := ["tape", "many", "letters", "way", "turn", "ends", "k", "some"]) (sc := defScope s_law_words) (by decide +kernel)) (fun _ _ _ _ _ => (pg_name (i := 6) scLwords.nd rfl (Or.inl rfl))) (fun _ _ _ _ _ => pts_nil) (fun _ _ _ _ _ => (pe_op op_mul_str (pe_ix ix_str (pv 2) (pe_op op_mod (pe_op op_add (pv 4) (pe_op op_fdiv (pv 6) pe_int)) pe_int) (fun _ _ => rfl)) (pe_op op_add pe_int (pe_op op_mod (pv 6) pe_int))))))) pss_nil)
    (pss_cons (ps_set (i := 7) scLwords.nd rfl (Or.inr rfl) (pe_lst (pa_cons pe_str (pa_cons pe_str (pa_cons pe_str (pa_cons pe_str (pa_cons pe_str (pa_cons pe_str (pa_cons pe_str (pa_cons pe_str (pa_cons pe_str (pa_cons pe_str (pa_cons pe_str pa_nil)))))))))))))
    (pss_cons (ps_set (i := 7) scLwords.nd rfl (Or.inr rfl) (pe_op op_cat (pv 7) (pe_lst (pa_cons pe_str (pa_cons pe_str (pa_cons pe_str (pa_cons pe_str (pa_cons pe_str (pa_cons pe_str (pa_cons pe_str pa_nil))))))))))
    (pss_one (ps_ret (pe_lc (own := [("k", 6)]) (g := gName 6) (te := tOp (rIxL K) (tVar 7) (tOp (rI (fun _ j => 0 < j) fun i j => .int (i % j)) (tOp (rI0 fun i j => .int (i + j)) (tVar 4) (tVar 6)) (tC (.int 18)))) (by rfl) scLwords.nd (pi_range1 rfl T.m_range (pa_cons (pv 1) pa_nil)) (blkOk_by (own := [("k", 6)]) (N := ["tape", "many", "letters", "way", "turn", "ends", "k", "some"]) (sc := defScope s_law_words) (by decide +kernel)) (fun _ _ _ _ _ => (pg_name (i := 6) scLwords.nd rfl (Or.inl rfl))) (fun _ _ _ _ _ => pts_nil) (fun _ _ _ _ _ => (pe_ix ix_list (pv 7) (pe_op op_mod (pe_op op_add (pv 4) (pv 6)) pe_int) (fun _ _ => rfl))))))))))))), ?_⟩
  have fin : ∀ (f : Nat → Str), good16 f = true → ∀ (H1 : Hp) (D : Addr) (H' : Hp), But1 tp H H1 → Tp H1 tp → H1 D = none → Same H1 H' → H' D = some (.lst (((List.range many.toNat).map f).map V.str)) → Q (.ref D) H' := by
    intro f hf H1 D H' b1 t1 hD s1 h1
    obtain ⟨e1, e2⟩ := good_of hf (n := many.toNat) (by omega)
    refine q D _ H' (b1.trans (but_same s1)) (t1.same s1) ?_ ⟨h1, e1⟩ (by rw [List.length_map, List.length_range]; omega) e2
    cases e : H D with
    | none => rfl
    | some o =>
      obtain ⟨z, hz⟩ := t1
      rw [b1 _ _ (ne_of_none hz hD).symm e] at hD
      cases hD
  refine ⟨_, rfl, tp, 3, rfl, ht, by decide, by decide, fun way H1 _ _ b1 t1 => ?_⟩
  refine ⟨_, rfl, tp, 26, rfl, t1, by decide, by decide, fun turn H2 r0 r1 b2 t2 => ?_⟩
  have b12 := b1.trans b2
  refine ⟨_, rfl, rfl, _, rfl, ?_⟩
  refine ite2 (fun c1 => ?_) (fun c1 => ?_)
  · refine ⟨sz (by show 3 ≤ 100000; decide), fun p hp => ?_⟩
    have s3 := same_new hp (.lst [.str "", .str "a", .str "omelons"])
    have np : p ≠ tp := by
      obtain ⟨z, hz⟩ := t2
      exact (ne_of_none hz hp).symm
    refine ⟨_, rfl, tp, 3, rfl, t2.same s3, by decide, by decide, fun r H3 r2 r3 b3 t3 => ?_⟩
    obtain ⟨v, hv, hm⟩ := at_some (xs := endsL.map V.str) r2 r3
    obtain ⟨e, he, rfl⟩ := List.mem_map.mp hm
    have hel : e.length ≤ 100 := by
      have : ∀ x ∈ endsL, x.length ≤ 100 := by decide +kernel
      exact this e he
    refine ⟨p, _, _, _, rfl, rfl, SqL.of (b3 _ _ np upd_same), hv, ?_⟩
    have b4 := (b12.trans (but_same s3)).trans b3
    refine ⟨_, rfl, many, rfl, by omega, by omega, fun D hD => lc_range (lo := 0) (n := many.toNat) (fun i H' => Same H3 H' ∧ H' D = some (.lst (((List.range i).map (w0 turn.toNat e)).map V.str))) ⟨same_new hD _, upd_same⟩ ?_ ?_⟩
    · rintro i H' hi ⟨s5, h5⟩
      have ei : (turn + (0 + (i : Nat))) % 26 = (((turn.toNat + i) % 26 : Nat) : Int) := by omega
      refine ⟨rfl, ?_⟩
      dsimp only [tYes]
      refine iteT ?_
      refine ⟨_, rfl, _, rfl, _, rfl, _, _, rfl, rfl, _, _, rfl, rfl, (by show (0 : Int) < 26; decide), lettersS, _, _, rfl, rfl, (by decide +kernel), letters_at (Int.emod_nonneg _ (by decide)) (Int.emod_lt_of_pos _ (by decide)), ?_⟩
      refine ⟨_, rfl, _, _, rfl, rfl, sz (by show 1 + e.length ≤ 100000; omega), ?_⟩
      refine ⟨_, h5, Nat.lt_of_le_of_lt (m := 100) (by rw [List.length_map, List.length_map, List.length_range]; omega) (by decide), same_mut s5 hD, ?_⟩
      rw [upd_same, ← range_push]
      have e9 : w0 turn.toNat e i = (⟨#[97 + ((turn + (0 + (i : Nat))) % 26).toNat]⟩ : Str) ++ e := by
        rw [ei, Int.toNat_natCast]
        rfl
      rw [e9]
    · rintro H' ⟨s5, h5⟩
      exact fin _ (good_w0 turn.toNat (by omega) e he) H3 D H' b4 t3 hD s5 h5
  refine ⟨_, rfl, rfl, _, rfl, ?_⟩
  refine ite2 (fun c2 => ?_) (fun c2 => ?_)
  · refine ⟨_, rfl, many, rfl, by omega, by omega, fun D hD => lc_range (lo := 0) (n := many.toNat) (fun i H' => Same H2 H' ∧ H' D = some (.lst (((List.range i).map (w1 turn.toNat)).map V.str))) ⟨same_new hD _, upd_same⟩ ?_ ?_⟩
    · rintro i H' hi ⟨s5, h5⟩
      have ei : (turn + (0 + (i : Nat)) / 8) % 26 = (((turn.toNat + i / 8) % 26 : Nat) : Int) := by omega
      refine ⟨rfl, ?_⟩
      dsimp only [tYes]
      refine iteT ?_
      refine ⟨_, rfl, _, rfl, _, rfl, _, _, rfl, rfl, ⟨by decide, by decide⟩, _, _, rfl, rfl, _, _, rfl, rfl, (by show (0 : Int) < 26; decide), lettersS, _, _, rfl, rfl, (by decide +kernel), letters_at (Int.emod_nonneg _ (by decide)) (Int.emod_lt_of_pos _ (by decide)), ?_⟩
      refine ⟨_, rfl, _, _, rfl, rfl, (by show (0 : Int) < 8; decide), _, _, rfl, rfl, _, _, rfl, rfl, by omega, by omega, Nat.le_refl 1, by show 1 ≤ 1000; decide, ?_⟩
      refine ⟨_, h5, Nat.lt_of_le_of_lt (m := 100) (by rw [List.length_map, List.length_map, List.length_range]; omega) (by decide), same_mut s5 hD, ?_⟩
      rw [upd_same, ← range_push]
      have e9 : w1 turn.toNat i = repS (⟨#[97 + ((turn + (0 + (i : Nat)) / 8) % 26).toNat]⟩ : Str) (1 + (0 + (i : Nat)) % 8) := by
        rw [ei, Int.toNat_natCast, Int.zero_add]
        rfl
      rw [e9]
    · rintro H' ⟨s5, h5⟩
      exact fin _ (good_w1 turn.toNat (by omega)) H2 D H' b12 t2 hD s5 h5
  · refine ⟨sz (by show 11 ≤ 100000; decide), fun p1 hp1 => ?_⟩
    have s3 := same_new hp1 (.lst ((someL.take 11).map V.str))
    refine ⟨_, rfl, sz (by show 7 ≤ 100000; decide), fun p2 hp2 => ?_⟩
    have s4 := same_new hp2 (.lst ((someL.drop 11).map V.str))
    refine ⟨p1, p2, (someL.take 11).map V.str, (someL.drop 11).map V.str, rfl, rfl, s4 _ _ upd_same, upd_same, sz (by show 18 ≤ 100000; decide), fun p3 hp3 => ?_⟩
    have s5 := same_new hp3 (.lst ((someL.take 11).map V.str ++ (someL.drop 11).map V.str))
    have s35 := s3.trans (s4.trans s5)
    have h3 : upd (upd (upd H2 p1 (.lst ((someL.take 11).map V.str))) p2 (.lst ((someL.drop 11).map V.str))) p3 (.lst ((someL.take 11).map V.str ++ (someL.drop 11).map V.str)) p3 = some (.lst (someL.map V.str)) := upd_same
    have t3 := t2.same s35
    have b3 := b12.trans (but_same s35)
    refine ⟨_, rfl, many, rfl, by omega, by omega, fun D hD => lc_range (lo := 0) (n := many.toNat) (fun i H' => Same (upd (upd (upd H2 p1 (.lst ((someL.take 11).map V.str))) p2 (.lst ((someL.drop 11).map V.str))) p3 (.lst ((someL.take 11).map V.str ++ (someL.drop 11).map V.str))) H' ∧ H' D = some (.lst (((List.range i).map (w2 turn.toNat)).map V.str))) ⟨same_new hD _, upd_same⟩ ?_ ?_⟩
    · rintro i H' hi ⟨s6, h6⟩
      have ei : (turn + (0 + (i : Nat))) % 18 = (((turn.toNat + i) % 18 : Nat) : Int) := by omega
      have hat : atI (someL.map V.str) ((turn + (0 + (i : Nat))) % 18) = some (V.str (w2 turn.toNat i)) := by
        rw [ei]
        refine atI_nat ?_
        rw [List.getElem?_map]
        unfold w2
        have hl : (turn.toNat + i) % 18 < someL.length := Nat.mod_lt _ (by decide)
        rw [List.getElem?_eq_getElem hl, List.getD_eq_getElem?_getD, List.getElem?_eq_getElem hl]
        rfl
      refine ⟨rfl, ?_⟩
      dsimp only [tYes]
      refine iteT ?_
      refine ⟨_, rfl, _, rfl, _, rfl, _, _, rfl, rfl, _, _, rfl, rfl, (by show (0 : Int) < 18; decide), p3, _, _, _, rfl, rfl, SqL.of (s6 _ _ h3), hat, ?_⟩
      refine ⟨_, h6, Nat.lt_of_le_of_lt (m := 100) (by rw [List.length_map, List.length_map, List.length_range]; omega) (by decide), same_mut s6 hD, ?_⟩
      rw [upd_same, ← range_push]
    · rintro H' ⟨s6, h6⟩
      exact fin _ (good_w2 turn.toNat (by omega)) _ D H' b3 t3 hD s6 h6
end
end KB

namespace KB
open PySem L2

/-! ### turned books -/
def But2 (tp wl : Addr) (H H' : Hp) : Prop := ∀ b o, b ≠ tp → b ≠ wl → H b = some o → H' b = some o
theorem But2.refl (tp wl : Addr) (H : Hp) : But2 tp wl H H := fun _ _ _ _ h => h
abbrev TEr := Str × List Str × Pt
def TErV (H : Hp) (e : TEr) (v : V) : Prop := ∃ q r b, v = .ref q ∧ H q = some (.tup [.str e.1, .ref r, .ref b]) ∧ H r = some (.tup (e.2.1.map V.str)) ∧ PAt H e.2.2 b
theorem TErV.tk {H H' : Hp} (t : TK H H') {e : TEr} {v : V} (h : TErV H e v) : TErV H' e v :=
  let ⟨q, r, b, e1, h1, h2, h3⟩ := h; ⟨q, r, b, e1, t _ _ h1, t _ _ h2, h3.tk t⟩
def TBkAt (H : Hp) (es : List TEr) (vs : List V) (p : Addr) : Prop := H p = some (.tup vs) ∧ All2 (TErV H) es vs
structure GdTE (hF : Str → Option Nat) (e : TEr) : Prop where
  w : isW e.1 = true
  ws : ∀ x ∈ e.2.1, isW x = true
  n4 : e.2.1.length ≤ 4
  ok : okP hF e.2.2 e.2.1 ["home"]
  cn : pcnt e.2.2 ≤ 13
  hf : hF e.1 = some e.2.1.length
  un : (e.2.1 ++ wP e.2.2).Nodup
  uj : (jP e.2.2).Nodup
structure GdTB (es : List TEr) : Prop where
  len : 1 ≤ es.length ∧ es.length ≤ 6
  nd : (es.map (·.1)).Nodup
  er : ∃ hF : Str → Option Nat, (∀ e ∈ es, GdTE hF e) ∧ ∀ f n, hF f = some n → f ∈ es.map (·.1)
def knT4 (el hd wl : Addr) (room : Int) : List (Key × V) := [(kgE, .ref el), (kgH, .ref hd), (kgW, .ref wl), (kgR, .int room)]
theorem merge_kn4 (el hd wl : Addr) (room : Int) : mergeK [] (knT4 el hd wl room) = knT4 el hd wl room := rfl
def hFof (fs : List Str) (kvs : List (Key × V)) (f : Str) : Option Nat :=
  if f ∈ fs then (match valV kvs (Sum.inr f) with | some (.int n) => some n.toNat | _ => none) else none
theorem hFof_at {fs : List Str} {kvs : List (Key × V)} {f : Str} {n : Int} (h : f ∈ fs) (e : valV kvs (Sum.inr f) = some (.int n)) : hFof fs kvs f = some n.toNat := by
  unfold hFof
  rw [if_pos h, e]
theorem hFof_in {fs : List Str} {kvs : List (Key × V)} {f : Str} {n : Nat} (h : hFof fs kvs f = some n) : f ∈ fs := by
  unfold hFof at h
  by_cases c : f ∈ fs
  · exact c
  · rw [if_neg c] at h
    cases h

theorem cut_to {xs : List V} {i : Int} (h0 : 0 ≤ i) (h : i.toNat ≤ xs.length) : cutV xs none (some i) = xs.take i.toNat := by
  unfold cutV
  rw [sIx_no, sIx_at h0 h, List.drop_zero, Nat.sub_zero]

section
variable {P : Program} {w : World} {K : PySem.W.Frag} {mg : Str → Option Value} {base : Heap}
/-! ### _law_turned_book -/
def spTBook (K : PySem.W.Frag) : Sp := fun vs H Q _ => ∃ (sc : Addr) (ns : List Int) (start : Int) (st : Bool), vs = [.ref sc, .int start, .bl st] ∧ SqL K H sc (ns.map V.int) ∧ 0 ≤ start ∧ start ≤ 100 ∧ ∀ p es us H', Same H H' → TBkAt H' es us p → GdTB es → Q (.ref p) H'
abbrev s_law_turned_book : Stmt := top 44
theorem scLturned_book : FnScope ["script", "start", "straight", "head", "errands", "heads", "f", "room", "found", "k", "tape", "words", "names", "known"] ["script", "start", "straight"] (defScope s_law_turned_book) := ⟨rfl, rfl, rfl, by decide +kernel, rfl, by decide +kernel, by decide +kernel⟩
theorem ok_tbook (T : Txt K mg) {f fg ft fw fb : Addr} {fd gd td wd bd : FuncData} (F : Fun K "_law_turned_book" "_law_turned_book" s_law_turned_book f fd) (G_law_digit : FnOk P w K mg base CX0 1 fg gd ["tape", "many"] spDig) (R_law_digit : Ref K mg "_law_digit" fg gd ["tape", "many"])
    (G_law_tape : FnOk P w K mg base CX0 2 ft td ["script", "k"] (spTape K)) (R_law_tape : Ref K mg "_law_tape" ft td ["script", "k"]) (G_law_words : FnOk P w K mg base CX0 2 fw wd ["tape", "many"] spWords) (R_law_words : Ref K mg "_law_words" fw wd ["tape", "many"])
    (G_law_turned_body : FnOk P w K mg base CX0 16 fb bd ["tape", "known", "names"] spTBody) (R_law_turned_body : Ref K mg "_law_turned_body" fb bd ["tape", "known", "names"]) : FnOk P w K mg base CX0 17 f fd ["script", "start", "straight"] (spTBook K) := by
  refine F.ok scLturned_book (fun vs H Q E h => ?_) (fun cdv A outer s H vs Q E hr h => ?_)
  · obtain ⟨sc, ns, start, st, rfl, _⟩ := h
    rfl
  obtain ⟨sc, ns, start, st, rfl, hS, hst0, hst1, q⟩ := h
  refine ⟨_, (pss_cons (ps_set (i := 3) scLturned_book.nd rfl (Or.inl rfl) (pe_call G_law_tape (hr.mono (by omega)) rfl R_law_tape.m R_law_tape.k R_law_tape.b .nil pass0 (pa_cons (pv 0) (pa_cons (pv 1) pa_nil))))
    (pss_cons (ps_set (i := 4) scLturned_book.nd rfl (Or.inl rfl) (pe_call G_law_words (hr.mono (by omega)) rfl R_law_words.m R_law_words.k R_law_words.b .nil pass0 (pa_cons (pv 3) (pa_cons (pe_ix ix_list (pe_lst (pa_cons pe_int (pa_cons pe_int (pa_cons pe_int (pa_cons pe_int (pa_cons pe_int (pa_cons pe_int pa_nil))))))) (pe_call G_law_digit (hr.mono (by omega)) rfl R_law_digit.m R_law_digit.k R_law_digit.b .nil pass0 (pa_cons (pv 3) (pa_cons pe_int pa_nil))) (fun _ _ => rfl)) pa_nil))))
    (pss_cons (ps_set (i := 5) scLturned_book.nd rfl (Or.inl rfl) pe_dnewK)
    (pss_cons (ps_for PassesOwn.never rfl (pi_list (pv 4)) (pg_name (i := 6) scLturned_book.nd rfl (Or.inl rfl)) (pss_one (ps_dput (hu_of hr) (pv 5) (pv 6) (pe_ix ix_list (pe_lst (pa_cons pe_int (pa_cons pe_int (pa_cons pe_int (pa_cons pe_int (pa_cons pe_int (pa_cons pe_int pa_nil))))))) (pe_call G_law_digit (hr.mono (by omega)) rfl R_law_digit.m R_law_digit.k R_law_digit.b .nil pass0 (pa_cons (pv 3) (pa_cons pe_int pa_nil))) (fun _ _ => rfl)) rfl)))
    (pss_cons (ps_set (i := 7) scLturned_book.nd rfl (Or.inl rfl) (pe_ix ix_list (pe_lst (pa_cons pe_int (pa_cons pe_int (pa_cons pe_int (pa_cons pe_int pa_nil))))) (pe_call G_law_digit (hr.mono (by omega)) rfl R_law_digit.m R_law_digit.k R_law_digit.b .nil pass0 (pa_cons (pv 3) (pa_cons pe_int pa_nil))) (fun _ _ => rfl)))
    (pss_cons (ps_set (i := 8) scLturned_book.nd rfl (Or.inl rfl) (pe_lst pa_nil))
    (pss_cons (ps_for PassesOwn.never rfl (pi_range1 rfl T.m_range (pa_cons (pe_callB call_len_seq (by rfl) T.m_len PySem.boot_len (pa_cons (pv 4) pa_nil)) pa_nil)) (pg_name (i := 9) scLturned_book.nd rfl (Or.inl rfl)) (pss_cons (ps_set (i := 10) scLturned_book.nd rfl (Or.inl rfl) (pe_call G_law_tape (hr.mono (by omega)) rfl R_law_tape.m R_law_tape.k R_law_tape.b .nil pass0 (pa_cons (pv 0) (pa_cons (pe_op op_add (pe_op op_add (pv 1) pe_int) (pv 9)) pa_nil))))
    (pss_cons (ps_set (i := 11) scLturned_book.nd rfl (Or.inl rfl) (pe_call G_law_words (hr.mono (by omega)) rfl R_law_words.m R_law_words.k R_law_words.b .nil pass0 (pa_cons (pv 10) (pa_cons pe_int pa_nil))))
    (pss_cons (ps_set (i := 12) scLturned_book.nd rfl (Or.inl rfl) (pe_slice sl_list (pv 11) po_none (po_some (pe_dget (hu_of hr) (pv 5) (pe_ix ix_list (pv 4) (pv 9) (fun _ _ => rfl)) (fun _ _ => rfl)))))
    (pss_cons (ps_set (i := 13) scLturned_book.nd rfl (Or.inl rfl) (pe_disp (pps_cons pe_str (pv 4) (pps_cons pe_str (pv 5) (pps_cons pe_str (pe_slice sl_list (pv 11) (po_some (pe_callB call_len_seq (by rfl) T.m_len PySem.boot_len (pa_cons (pv 12) pa_nil))) po_none) (pps_cons pe_str (pv 7) pps_nil)))) (by rfl) (by rfl) (fun z => by cases z) (by decide)))
    (pss_cons (ps_dput (hu_of hr) (pv 13) pe_str (pe_call G_law_words (hr.mono (by omega)) rfl R_law_words.m R_law_words.k R_law_words.b .nil pass0 (pa_cons (pv 10) (pa_cons pe_int pa_nil))) rfl)
    (pss_cons (ps_dput (hu_of hr) (pv 13) pe_str (pv 2) rfl)
    (pss_one (ps_expr (pe_bm PySem.F.plainAttrs_list PySem.F.slot_list_append PySem.F.type_list_append mt_append (pv 8) (pa_cons (pe_tup (pa_cons (pe_ix ix_list (pv 4) (pv 9) (fun _ _ => rfl)) (pa_cons (pe_callTy call_tuple_of (by rfl) T.m_tuple (by decide +kernel) (pa_cons (pv 12) pa_nil)) (pa_cons (pe_call G_law_turned_body hr rfl R_law_turned_body.m R_law_turned_body.k R_law_turned_body.b .nil pass0 (pa_cons (pv 10) (pa_cons (pv 13) (pa_cons (pv 12) pa_nil)))) pa_nil)))) pa_nil)))))))))))
    (pss_one (ps_ret (pe_callTy call_tuple_of (by rfl) T.m_tuple (by decide +kernel) (pa_cons (pv 8) pa_nil))))))))))), ?_⟩
  refine ⟨_, rfl, _, rfl, sc, ns, start, rfl, hS, hst0, by omega, fun hp z0 hhp => ?_⟩
  have s1 := same_new hhp (.lst [.int z0])
  have t1 : Tp (upd H hp (.lst [.int z0])) hp := ⟨z0, upd_same⟩
  -- errands
  refine ⟨_, rfl, sz (by show 6 ≤ 100000; decide), fun p2 hp2 => ?_⟩
  have s2 := same_new hp2 (.lst [.int 1, .int 2, .int 2, .int 3, .int 4, .int 6])
  have t2 := t1.same s2
  have n2 : p2 ≠ hp := (ne_of_none upd_same hp2).symm
  refine ⟨_, rfl, hp, 6, rfl, t2, by decide, by decide, fun r H3 r0 r1 b3 t3 => ?_⟩
  have hme : ∃ m : Int, atI [V.int 1, .int 2, .int 2, .int 3, .int 4, .int 6] r = some (.int m) ∧ 1 ≤ m ∧ m ≤ 6 := by
    obtain ⟨v, hv, hm⟩ := at_some (xs := [V.int 1, .int 2, .int 2, .int 3, .int 4, .int 6]) r0 r1
    simp only [List.mem_cons, List.not_mem_nil, or_false] at hm
    rcases hm with z | z | z | z | z | z <;> subst z <;> exact ⟨_, hv, by decide, by decide⟩
  obtain ⟨m, hma, hm1, hm6⟩ := hme
  refine ⟨p2, _, _, _, rfl, rfl, SqL.of (b3 _ _ n2 upd_same), hma, ?_⟩
  refine ⟨hp, m, rfl, t3, by omega, by omega, fun el fs H4 b4 t4 hel w4 hfl hnd => ?_⟩
  have sH3 : Same H H3 := fun b o h => b3 _ _ (ne_of_none h hhp) (s2 _ _ (s1 _ _ h))
  have sH4 : Same H H4 := fun b o h => b4 _ _ (ne_of_none h hhp) (sH3 _ _ h)
  -- heads
  intro hd hhd
  have s5 := same_new hhd (.dK [])
  have t5 := t4.same s5
  have w5 := w4.but (but_same s5) t4
  have hhd0 : H hd = none := by
    cases e : H hd with
    | none => rfl
    | some o =>
      rw [sH4 _ _ e] at hhd
      cases hhd
  have nhd : hd ≠ hp := by
    obtain ⟨z, hz⟩ := t4
    exact (ne_of_none hz hhd).symm
  have neh : el ≠ hd := ne_of_none w4.1 hhd
  have hlen6 : fs.length ≤ 6 := by omega
  have sH5 : Same H (upd H4 hd (.dK [])) := sH4.trans s5
  have h5d : upd H4 hd (.dK []) hd = some (.dK []) := upd_same
  generalize upd H4 hd (.dK []) = H5 at s5 t5 w5 sH5 h5d
  refine ⟨_, rfl, el, rfl, ⟨_, SqL.of w5.1⟩, for_list (K := K) (a := el) (xs := fs.map V.str) (fun i σ H' => ∃ o kvs, σ = [some (.ref sc), some (.int start), some (.bl st), some (.ref hp), some (.ref el), some (.ref hd), o, none, none, none, none, none, none, none] ∧
    But2 hp hd H5 H' ∧ Tp H' hp ∧ H' hd = some (.dK kvs) ∧ kvs.length ≤ i ∧ ∀ f ∈ fs.take i, ∃ n : Int, valV kvs (Sum.inr f) = some (.int n) ∧ 0 ≤ n ∧ n ≤ 4) ?_ ?_ ?_ ?_⟩
  · refine ⟨none, [], rfl, But2.refl _ _ _, t5, h5d, Nat.le_refl _, fun f hf => ?_⟩
    rw [List.take_zero] at hf
    cases hf
  · rintro i σ H' _ ⟨o, kvs, rfl, b6, _⟩
    exact SqL.of (b6 _ _ (wls_tp w5.1 t5) neh w5.1)
  · rintro i x σ H6 hx ⟨o, kvs, rfl, b6, t6, h6, hkl, hkv⟩
    rw [List.getElem?_map] at hx
    obtain ⟨fn, hfn, rfl⟩ : ∃ fn, fs[i]? = some fn ∧ V.str fn = x := by
      cases e : fs[i]? with
      | none =>
        rw [e] at hx
        cases hx
      | some fn =>
        rw [e] at hx
        exact ⟨fn, rfl, Option.some.inj hx⟩
    obtain ⟨hi, hi2⟩ := List.getElem?_eq_some_iff.mp hfn
    refine ⟨sz (by show 6 ≤ 100000; decide), fun p7 hp7 => ?_⟩
    have s7 := same_new hp7 (.lst [.int 1, .int 2, .int 1, .int 0, .int 3, .int 4])
    have n7 : p7 ≠ hp := by
      obtain ⟨z, hz⟩ := t6
      exact (ne_of_none hz hp7).symm
    refine ⟨_, rfl, hp, 6, rfl, t6.same s7, by decide, by decide, fun r2 H8 r3 r4 b8 t8 => ?_⟩
    have hne : ∃ m : Int, atI [V.int 1, .int 2, .int 1, .int 0, .int 3, .int 4] r2 = some (.int m) ∧ 0 ≤ m ∧ m ≤ 4 := by
      obtain ⟨v, hv, hm⟩ := at_some (xs := [V.int 1, .int 2, .int 1, .int 0, .int 3, .int 4]) r3 r4
      simp only [List.mem_cons, List.not_mem_nil, or_false] at hm
      rcases hm with z | z | z | z | z | z <;> subst z <;> exact ⟨_, hv, by decide, by decide⟩
    obtain ⟨m2, hma2, hm20, hm24⟩ := hne
    have h8 : H8 hd = some (.dK kvs) := b8 _ _ nhd (s7 _ _ h6)
    refine ⟨p7, _, _, _, rfl, rfl, SqL.of (b8 _ _ n7 upd_same), hma2, _, rfl, _, rfl, hd, _, rfl, DPut.k (k := Sum.inr fn) h8 (Nat.lt_of_le_of_lt (m := 1000) (by omega) (by decide)), ?_⟩
    refine ⟨_, _, rfl, fun b o n1 n2 hb => ?_, ?_, upd_same, ?_, ?_⟩
    · rw [upd_ne n2]
      exact b8 _ _ n1 (s7 _ _ (b6 _ _ n1 n2 hb))
    · obtain ⟨z, hz⟩ := t8
      exact ⟨z, by rw [upd_ne nhd.symm]; exact hz⟩
    · have := length_putK kvs (Sum.inr fn) (V.int m2)
      omega
    · intro f' hf'
      rw [List.take_succ_eq_append_getElem hi, hi2] at hf'
      by_cases e : f' = fn
      · subst e
        exact ⟨m2, by rw [valV_put, if_pos rfl], hm20, hm24⟩
      · rcases List.mem_append.mp hf' with z | z
        · obtain ⟨n3, q1, q2, q3⟩ := hkv f' z
          refine ⟨n3, ?_, q2, q3⟩
          rw [valV_put, if_neg (fun y => e (Sum.inr.inj y))]
          exact q1
        · exact absurd (List.mem_singleton.mp z) e
  rintro σ H6 ⟨o5, kvs, rfl, b6, t6, h6, _, hkv⟩
  rw [List.length_map, List.take_length] at hkv
  have w6 : Wls H6 el fs := ⟨b6 _ _ (wls_tp w5.1 t5) neh w5.1, w5.2⟩
  have sH6 : Same H H6 := fun b o hb => b6 _ _ (ne_of_none hb hhp) (ne_of_none hb hhd0) (sH5 _ _ hb)
  -- room
  refine ⟨sz (by show 4 ≤ 100000; decide), fun p7 hp7 => ?_⟩
  have s7 := same_new hp7 (.lst [.int 3, .int 5, .int 7, .int 9])
  have n7 : p7 ≠ hp := by
    obtain ⟨z, hz⟩ := t6
    exact (ne_of_none hz hp7).symm
  refine ⟨_, rfl, hp, 4, rfl, t6.same s7, by decide, by decide, fun r2 H8 r3 r4 b8 t8 => ?_⟩
  have hre : ∃ m : Int, atI [V.int 3, .int 5, .int 7, .int 9] r2 = some (.int m) ∧ 3 ≤ m ∧ m ≤ 9 := by
    obtain ⟨v, hv, hm⟩ := at_some (xs := [V.int 3, .int 5, .int 7, .int 9]) r3 r4
    simp only [List.mem_cons, List.not_mem_nil, or_false] at hm
    rcases hm with z | z | z | z <;> subst z <;> exact ⟨_, hv, by decide, by decide⟩
  obtain ⟨room, hra, hr8, hr40⟩ := hre
  refine ⟨p7, _, _, _, rfl, rfl, SqL.of (b8 _ _ n7 upd_same), hra, ?_⟩
  have sH8 : Same H H8 := fun b o hb => b8 _ _ (ne_of_none hb hhp) (s7 _ _ (sH6 _ _ hb))
  have w8 : Wls H8 el fs := ⟨b8 _ _ (wls_tp w6.1 t6) (s7 _ _ w6.1), w6.2⟩
  have h8 : H8 hd = some (.dK kvs) := b8 _ _ nhd (s7 _ _ h6)
  have hS8 : SqL K H8 sc (ns.map V.int) := sH8.seq hS
  clear h6 w6 sH6 s7 b8 t8 hp7 b6 t6
  -- found
  refine ⟨sz (by show 0 ≤ 100000; decide), fun fl hflN => ?_⟩
  have s9 := same_new hflN (.lst [])
  refine ⟨_, rfl, el, _, rfl, .inl (SqL.of (s9 _ _ w8.1)), _, rfl, by omega, by rw [List.length_map]; omega, ?_⟩
  have hnl : (((fs.map V.str).length : Nat) : Int).toNat = fs.length := by
    rw [Int.toNat_natCast, List.length_map]
  refine for_range (lo := 0) (n := (((fs.map V.str).length : Nat) : Int).toNat) (fun i σ H' => ∃ o8 o9 o10 o11 o12 vs es, σ = [some (.ref sc), some (.int start), some (.bl st), some (.ref hp), some (.ref el), some (.ref hd), o5, some (.int room), some (.ref fl), o8, o9, o10, o11, o12] ∧
    Same H8 H' ∧ H' fl = some (.lst vs) ∧ All2 (TErV H') es vs ∧ es.length = i ∧ es.map (·.1) = fs.take i ∧ ∀ e ∈ es, GdTE (hFof fs kvs) e) ?_ ?_ ?_
  · exact ⟨_, _, _, _, _, [], [], rfl, s9, upd_same, trivial, rfl, rfl, fun _ z => nomatch z⟩
  · rintro i σ H' hi ⟨o8, o9, o10, o11, o12, vs, es, rfl, sA, hfA, kA, hel2, hnm, hgd⟩
    rw [hnl] at hi
    have hfi : fs[i]? = some fs[i] := List.getElem?_eq_getElem hi
    have hfm := List.getElem_mem hi
    generalize fs[i] = fn at hfi hfm
    have ei : (0 : Int) + (i : Nat) = ((i : Nat) : Int) := by omega
    have hat : atI (fs.map V.str) ((0 : Int) + (i : Nat)) = some (V.str fn) := by
      rw [ei]
      exact atI_nat (by rw [List.getElem?_map, hfi]; rfl)
    obtain ⟨nn, hnn, hn0, hn4⟩ := hkv fn hfm
    -- tape
    refine ⟨_, rfl, _, rfl, _, _, rfl, rfl, _, rfl, _, _, rfl, rfl, sc, ns, _, rfl, sA.seq hS8, by omega, by omega, fun tp z htp => ?_⟩
    have sB := same_new htp (.lst [.int z])
    have tB : Tp (upd H' tp (.lst [.int z])) tp := ⟨z, upd_same⟩
    refine ⟨_, rfl, tp, 16, rfl, tB, by decide, by decide, fun wp ws HC bC tC hwp wC hwl hwnd => ?_⟩
    have hwl16 : ws.length = 16 := by omega
    have sC : Same H' HC := fun b o hb => bC _ _ (ne_of_none hb htp) (sB _ _ hb)
    have wCe : Wls HC el fs := ⟨sC _ _ (sA _ _ w8.1), w8.2⟩
    have hCd : HC hd = some (.dK kvs) := sC _ _ (sA _ _ h8)
    -- names
    refine ⟨_, rfl, _, rfl, _, rfl, _, rfl, el, _, _, _, rfl, rfl, SqL.of wCe.1, hat, hd, _, rfl, get_of hCd hnn, _, rfl, wp, _, rfl, SqL.of wC.1, fun np hnp => ?_⟩
    have eN : cutV (ws.map V.str) none (some nn) = (ws.take nn.toNat).map V.str := by
      rw [cut_to hn0 (by rw [List.length_map]; omega), List.map_take]
    rw [eN]
    have sD := same_new hnp (.lst ((ws.take nn.toNat).map V.str))
    have hD : upd HC np (.lst ((ws.take nn.toNat).map V.str)) np = some (.lst ((ws.take nn.toNat).map V.str)) := upd_same
    have tD := tC.same sD
    generalize upd HC np (.lst ((ws.take nn.toNat).map V.str)) = HD at sD hD tD
    -- known
    intro kd hkd
    have sE := same_new hkd (.dK [])
    refine ⟨_, rfl, _, rfl, _, rfl, _, rfl, np, _, rfl, .inl (SqL.of (sE _ _ hD)), _, rfl, wp, _, rfl, SqL.of (sE _ _ (sD _ _ wC.1)), fun wl hwlN => ?_⟩
    have eW : cutV (ws.map V.str) (some ((((ws.take nn.toNat).map V.str).length : Nat) : Int)) none = (ws.drop nn.toNat).map V.str := by
      have e1 : ((ws.take nn.toNat).map V.str).length = nn.toNat := by
        rw [List.length_map, List.length_take]
        omega
      rw [e1, cut_from (by omega) (by rw [List.length_map]; omega), List.map_drop, Int.toNat_natCast]
    rw [eW]
    have sF := same_new hwlN (.lst ((ws.drop nn.toNat).map V.str))
    have hkF : upd (upd HD kd (.dK [])) wl (.lst ((ws.drop nn.toNat).map V.str)) kd = some (.dK []) := sF _ _ upd_same
    have hwF : upd (upd HD kd (.dK [])) wl (.lst ((ws.drop nn.toNat).map V.str)) wl = some (.lst ((ws.drop nn.toNat).map V.str)) := upd_same
    have nwk : wl ≠ kd := (ne_of_none upd_same hwlN).symm
    have nwn : np ≠ wl := ne_of_none (sE _ _ hD) hwlN
    have sDF := sE.trans sF
    have nwe : el ≠ wl := ne_of_none (sE _ _ (sD _ _ wCe.1)) hwlN
    have hwl0 : H' wl = none := by
      cases e : H' wl with
      | none => rfl
      | some o =>
        rw [sE _ _ (sD _ _ (sC _ _ e))] at hwlN
        cases hwlN
    generalize upd (upd HD kd (.dK [])) wl (.lst ((ws.drop nn.toNat).map V.str)) = HF at sDF hkF hwF
    refine ⟨_, rfl, hkF, knT4 el hd wl room, rfl, by show 4 ≤ 15; decide, ?_⟩
    rw [merge_kn4]
    have sG4 : Same HD (upd HF kd (.dK (knT4 el hd wl room))) := fun b o hb => by
      have nb : b ≠ kd := ne_of_none hb hkd
      rw [upd_ne nb]
      exact sDF _ _ hb
    have hkG4 : upd HF kd (.dK (knT4 el hd wl room)) kd = some (.dK (knT4 el hd wl room)) := upd_same
    have hwG4 : upd HF kd (.dK (knT4 el hd wl room)) wl = some (.lst ((ws.drop nn.toNat).map V.str)) := by
      rw [upd_ne nwk]
      exact hwF
    generalize upd HF kd (.dK (knT4 el hd wl room)) = HG4 at sG4 hkG4 hwG4 ⊢
    -- posts, straight
    have tG4 : Tp HG4 tp := (tC.same sD).same sG4
    have nkt : kd ≠ tp := by
      obtain ⟨z, hz⟩ := tC.same sD
      exact (ne_of_none hz hkd).symm
    have big4 : (knT4 el hd wl room).length < sizeLine := Nat.lt_of_lt_of_le (by show 4 < 1000; decide : _ < 1000) (by decide)
    have big5 : ∀ pl : Addr, (putK (knT4 el hd wl room) kgP (.ref pl)).length < sizeLine := fun pl => Nat.lt_of_lt_of_le (by show 5 < 1000; decide : _ < 1000) (by decide)
    refine ⟨_, rfl, tp, 16, rfl, tG4, by decide, by decide, fun pl js HP bP tP hplN wPl hjl hjnd => ?_⟩
    have hjl16 : js.length = 16 := by omega
    have hkP := bP _ _ nkt hkG4
    have npk : pl ≠ kd := fun z => by
      rw [z] at hplN
      rw [hkG4] at hplN
      cases hplN
    refine ⟨_, rfl, kd, _, rfl, DPut.k (k := kgP) hkP big4, ?_⟩
    refine ⟨_, rfl, _, rfl, kd, _, rfl, DPut.k (k := kgS) upd_same (big5 pl), ?_⟩
    have hkG : (upd (upd HP kd (.dK (putK (knT4 el hd wl room) kgP (.ref pl)))) kd (.dK (putK (putK (knT4 el hd wl room) kgP (.ref pl)) kgS (.bl st)))) kd = some (.dK (knT el hd wl pl room st)) := upd_same
    have oth : ∀ b o, b ≠ kd → HP b = some o → (upd (upd HP kd (.dK (putK (knT4 el hd wl room) kgP (.ref pl)))) kd (.dK (putK (putK (knT4 el hd wl room) kgP (.ref pl)) kgS (.bl st)))) b = some o := fun b o n h => by
      rw [upd_ne n, upd_ne n]
      exact h
    generalize (upd (upd HP kd (.dK (putK (knT4 el hd wl room) kgP (.ref pl)))) kd (.dK (putK (putK (knT4 el hd wl room) kgP (.ref pl)) kgS (.bl st)))) = HG at hkG oth ⊢
    have bDG : ∀ b o, b ≠ tp → HD b = some o → HG b = some o := fun b o nb hb => oth b o (ne_of_none hb hkd) (bP b o nb (sG4 b o hb))
    have tG : Tp HG tp := by
      obtain ⟨z, hz⟩ := tP
      exact ⟨z, oth _ _ nkt.symm hz⟩
    have nwt : wl ≠ tp := wls_tp hwG4 tG4
    have hwG : HG wl = some (.lst ((ws.drop nn.toNat).map V.str)) := oth _ _ nwk (bP _ _ nwt hwG4)
    have nwp : wl ≠ pl := ne_of_none hwG4 hplN
    have wPG : Wls HG pl js := ⟨oth _ _ npk wPl.1, wPl.2⟩
    have net : el ≠ tp := wls_tp wCe.1 tC
    have ndt : hd ≠ tp := by
      obtain ⟨z, hz⟩ := tC
      exact ne_of hCd hz (fun y => by cases y)
    have nep : el ≠ pl := ne_of_none (sG4 _ _ (sD _ _ wCe.1)) hplN
    have nnp : np ≠ pl := ne_of_none (sG4 _ _ hD) hplN
    have nnt : np ≠ tp := wls_tp hD (tC.same sD)
    have hpl0 : H' pl = none := by
      cases e : H' pl with
      | none => rfl
      | some o =>
        rw [sG4 _ _ (sD _ _ (sC _ _ e))] at hplN
        cases hplN
    have gG : GT HG tp kd wl pl (hFof fs kvs) (ws.drop nn.toNat) js := ⟨tG, ⟨hwG, fun x hx => wC.2 x (List.mem_of_mem_drop hx)⟩, wPG, by rw [List.length_drop]; omega, by omega, nwp,
      el, hd, fs, kvs, room, st, hkG, by omega, hr40, nwe, nep, ⟨bDG _ _ net (sD _ _ wCe.1), wCe.2⟩, by omega, by omega, bDG _ _ ndt (sD _ _ hCd), fun f hf => let ⟨n, e1, e2, e3⟩ := hkv f hf; ⟨n, e1, e2, e3, hFof_at hf e1⟩⟩
    have sXG : Same H' HG := fun b o hb => bDG b o (ne_of_none hb htp) (sD _ _ (sC b o hb))
    have wG : Wls HG np (ws.take nn.toNat) := ⟨bDG _ _ nnt hD, fun x hx => wC.2 x (List.mem_of_mem_take hx)⟩
    -- the errand
    refine ⟨_, rfl, .inl ⟨rfl, _, SqL.of (sXG _ _ hfA)⟩, _, rfl, _, rfl, el, _, _, _, rfl, rfl, SqL.of (bDG _ _ net (sD _ _ wCe.1)), hat, _, rfl, np, _, rfl, .inl ⟨SqL.of wG.1, fun tl htl => ?_⟩⟩
    have sH := same_new htl (.tup ((ws.take nn.toNat).map V.str))
    refine ⟨_, rfl, _, rfl, _, rfl, tp, kd, wl, pl, np, hFof fs kvs, ws.drop nn.toNat, js, ws.take nn.toNat, rfl, gG.same sH, wG.but (but_same sH) gG.t, nwn, nnp, by rw [List.length_drop]; omega, by rw [List.length_take, List.length_drop]; omega, by omega, fun a t HI wsI jsI ls ms O => ?_⟩
    refine ⟨sz (by show 3 ≤ 100000; decide), fun ep hep => ?_⟩
    have sJ := same_new hep (.tup [.str fn, .ref tl, .ref a])
    have tkI : TK (upd HG tl (.tup ((ws.take nn.toNat).map V.str))) HI := (gG.same sH).tk O.b
    have sX : Same H' HI := fun b o hb => O.b _ _ (ne_of_none hb htp) (ne_of_none hb hwl0) (ne_of_none hb hpl0) (sH _ _ (sXG _ _ hb))
    have sXJ := sX.trans sJ
    have hfJ := sXJ _ _ hfA
    have hvl := kA.len
    refine ⟨fl, _, _, rfl, rfl, hfJ, Nat.lt_of_le_of_lt (m := 1000) (by omega) (by decide), ?_⟩
    have tkJ := (tk_same sXJ).trans (tk_put (o := .lst (vs ++ [.ref ep])) hfJ)
    have tkP := tk_put (o := .lst (vs ++ [.ref ep])) hfJ
    refine ⟨_, _, _, _, _, vs ++ [.ref ep], es ++ [(fn, ws.take nn.toNat, t)], rfl, same_mut (sA.trans sXJ) hflN, upd_same, ?_, ?_, ?_, ?_⟩
    · refine (kA.imp fun _ _ z => z.tk tkJ).app ⟨⟨ep, tl, a, rfl, tkP _ _ upd_same, tkP _ _ (sJ _ _ (tkI _ _ upd_same)), (O.at_.tk (tk_same sJ)).tk tkP⟩, trivial⟩
    · rw [List.length_append, hel2]
      rfl
    · rw [List.map_append, hnm, List.take_succ_eq_append_getElem hi]
      have e : fs[i] = fn := by
        rw [List.getElem?_eq_getElem hi] at hfi
        exact Option.some.inj hfi
      rw [e]
      rfl
    · intro e he
      rcases List.mem_append.mp he with z | z
      · exact hgd e z
      · rw [List.mem_singleton.mp z]
        have etk : (ws.take nn.toNat).length = nn.toNat := by
          rw [List.length_take]
          omega
        refine ⟨w8.2 fn hfm, fun x hx => wC.2 x (List.mem_of_mem_take hx), by show (ws.take nn.toNat).length ≤ 4; omega, O.ok, O.cn, ?_, ?_, ?_⟩
        · show hFof fs kvs fn = some (ws.take nn.toNat).length
          rw [etk]
          exact hFof_at hfm hnn
        · show (ws.take nn.toNat ++ wP t).Nodup
          have e9 : ws = ws.take nn.toNat ++ (wsI ++ ls.reverse) := by rw [← O.e1, List.take_append_drop]
          rw [e9] at hwnd
          rw [List.nodup_append] at hwnd ⊢
          obtain ⟨n1, n2, n3⟩ := hwnd
          have n4 := (List.nodup_append.mp n2).2.1
          have n5 : ls.Nodup := (List.reverse_perm ls).nodup_iff.mp n4
          exact ⟨n1, n5.sublist O.s1, fun a ha b hb => n3 a ha b (List.mem_append_right _ (List.mem_reverse.mpr (O.s1.subset hb)))⟩
        · show (jP t).Nodup
          have n2 := hjnd
          rw [O.e2] at n2
          have n4 := (List.nodup_append.mp n2).2.1
          have n5 : ms.Nodup := (List.reverse_perm ms).nodup_iff.mp n4
          exact n5.sublist O.s2
  · rintro σ H' ⟨o8, o9, o10, o11, o12, vs, es, rfl, sA, hfA, kA, hel2, hnm, hgd⟩
    rw [hnl] at hel2 hnm
    rw [List.take_length] at hnm
    refine ⟨_, rfl, fl, _, rfl, .inl ⟨SqL.of hfA, fun p hp9 => ?_⟩⟩
    have sK := same_new hp9 (.tup vs)
    refine q p es vs _ ((sH8.trans sA).trans sK) ⟨upd_same, kA.imp fun _ _ z => z.tk (tk_same sK)⟩ ⟨by omega, by rw [hnm]; exact hnd, _, hgd, fun f n hf => by rw [hnm]; exact hFof_in hf⟩
end
end KB

namespace KB
open PySem L2 HT
theorem layAll : ∀ {ds : List PyData}, (∀ d ∈ ds, d.canLay0 = true) → PySem.PyData.canLayAll0 ds = true
  | [], _ => rfl
  | d :: r, h => by
    show (d.canLay0 && PySem.PyData.canLayAll0 r) = true
    rw [h d List.mem_cons_self, layAll fun x hx => h x (List.mem_cons_of_mem _ hx)]
    rfl
theorem depthAll_le {m : Nat} : ∀ {ds : List PyData}, (∀ d ∈ ds, d.depth ≤ m) → PySem.PyData.depthAll ds ≤ m
  | [], _ => Nat.zero_le _
  | d :: r, h => by
    show max d.depth (PySem.PyData.depthAll r) ≤ m
    have h1 := h d List.mem_cons_self
    have h2 := depthAll_le fun x hx => h x (List.mem_cons_of_mem _ hx)
    omega
theorem depth_tup {m : Nat} {ds : List PyData} (h : ∀ d ∈ ds, d.depth ≤ m) : (PyData.tuple ds).depth ≤ m + 1 := by
  show PySem.PyData.depthAll ds + 1 ≤ m + 1
  have := depthAll_le h
  omega
theorem lay_lit {x : Str} (h : PySem.PyData.strOk x = true) : (PyData.str x).canLay0 = true := h
theorem lay_str {x : Str} (h : isW x = true) : (PyData.str x).canLay0 = true := isW_ok h
/-! ### terms as data -/
def pdH : Hd → List PyData → PyData
  | .num z, _ => .tuple [.str "number", .int z]
  | .nam x, _ => .tuple [.str "name", .str x]
  | .plus, ds => .tuple (.str "plus" :: ds)
  | .less, ds => .tuple (.str "less" :: ds)
  | .tell, ds => .tuple (.str "tell" :: ds)
  | .lett x, ds => .tuple (.str "let" :: .str x :: ds)
  | .iff, ds => .tuple (.str "if" :: ds)
  | .ask f, ds => .tuple [.str "ask", .str f, .tuple ds]
def pd : Tm → PyData
  | .mk h _ k => pdH h (List.ofFn fun i => pd (k i))
theorem lay_pdH {h : Hd} {ds : List PyData} (o : okH h) (l : ∀ d ∈ ds, d.canLay0 = true) : (pdH h ds).canLay0 = true := by
  have la := layAll l
  cases h with
  | num z =>
    refine layAll fun d hd => ?_
    rcases List.mem_cons.mp hd with y | y
    · rw [y]
      exact lay_lit (by decide +kernel)
    · rw [List.mem_singleton.mp y]
      rfl
  | nam x =>
    refine layAll fun d hd => ?_
    rcases List.mem_cons.mp hd with z | z
    · rw [z]
      exact lay_lit (by decide +kernel)
    · rw [List.mem_singleton.mp z]
      exact isV_ok o
  | lett x =>
    refine layAll fun d hd => ?_
    rcases List.mem_cons.mp hd with z | z
    · rw [z]
      exact lay_lit (by decide +kernel)
    · rcases List.mem_cons.mp z with z | z
      · rw [z]
        exact lay_str o
      · exact l d z
  | ask f =>
    refine layAll fun d hd => ?_
    rcases List.mem_cons.mp hd with z | z
    · rw [z]
      exact lay_lit (by decide +kernel)
    · rcases List.mem_cons.mp z with z | z
      · rw [z]
        exact lay_str o
      · rw [List.mem_singleton.mp z]
        exact la
  | _ =>
    refine layAll fun d hd => ?_
    rcases List.mem_cons.mp hd with z | z
    · rw [z]
      exact lay_lit (by decide +kernel)
    · exact l d z
theorem lay_pd : ∀ {t : Tm}, okT t → (pd t).canLay0 = true := by
  intro t
  induction t with
  | mk h n k ih =>
    rintro ⟨o, r⟩
    refine lay_pdH o fun d hd => ?_
    obtain ⟨i, rfl⟩ := List.mem_ofFn.mp hd
    exact ih i (r i)
theorem depth_pdH {h : Hd} {m : Nat} {ds : List PyData} (l : ∀ d ∈ ds, d.depth ≤ m) : (pdH h ds).depth ≤ m + 2 := by
  cases h with
  | num z => exact Nat.le_trans (depth_tup (m := 0) fun d hd => by
      rcases List.mem_cons.mp hd with y | y
      · rw [y]
        exact Nat.le_refl 0
      · rw [List.mem_singleton.mp y]
        exact Nat.le_refl 0) (by omega)
  | nam x => exact Nat.le_trans (depth_tup (m := 0) fun d hd => by
      rcases List.mem_cons.mp hd with z | z
      · rw [z]
        exact Nat.le_refl 0
      · rw [List.mem_singleton.mp z]
        exact Nat.le_refl 0) (by omega)
  | lett x =>
    refine Nat.le_trans (depth_tup (m := m) fun d hd => ?_) (by omega)
    rcases List.mem_cons.mp hd with z | z
    · rw [z]
      exact Nat.zero_le _
    · rcases List.mem_cons.mp z with z | z
      · rw [z]
        exact Nat.zero_le _
      · exact l d z
  | ask f =>
    refine depth_tup (m := m + 1) fun d hd => ?_
    rcases List.mem_cons.mp hd with z | z
    · rw [z]
      exact Nat.zero_le _
    · rcases List.mem_cons.mp z with z | z
      · rw [z]
        exact Nat.zero_le _
      · rw [List.mem_singleton.mp z]
        exact depth_tup l
  | _ =>
    refine Nat.le_trans (depth_tup (m := m) fun d hd => ?_) (by omega)
    rcases List.mem_cons.mp hd with z | z
    · rw [z]
      exact Nat.zero_le _
    · exact l d z
theorem depth_pd : ∀ {n : Nat} {t : Tm}, HtLe n t → (pd t).depth ≤ 2 * n
  | 0, _, h => h.elim
  | n + 1, .mk h m k, r => by
    refine Nat.le_trans (depth_pdH (h := h) (m := 2 * n) fun d hd => ?_) (by omega)
    obtain ⟨i, rfl⟩ := List.mem_ofFn.mp hd
    exact depth_pd (r i)
theorem dp_ints {K : PySem.W.Frag} {H : Hp} : ∀ ks : List Int, DpAll K H (ks.map V.int) (ks.map PyData.int)
  | [] => .nil
  | k :: r => .cons (.int k) (dp_ints r)
/-! ### parts of turned books as data -/
/-- a simple term, good -/
structure STm (t : Tm) : Prop where
  ok : okT t
  si : simple t = true
  cn : cnt t ≤ 3
  ht : HtLe 2 t
theorem SmT.st {hd : Str → Option Nat} {xs : List Str} {t : Tm} (h : SmT hd xs t) : STm t := ⟨h.ok, h.si, h.cn, h.ht⟩
/-- a part whose words are words -/
def kP : Pt → Prop
  | .give j t => PySem.PyData.strOk j = true ∧ STm t
  | .ask f ts j => PySem.PyData.strOk j = true ∧ isW f = true ∧ ts.length ≤ 4 ∧ ∀ t ∈ ts, STm t
  | .tell x t p => isW x = true ∧ STm t ∧ kP p
  | .lett x t p => isW x = true ∧ STm t ∧ kP p
  | .iff t p q => STm t ∧ kP p ∧ kP q
  | .post j x p q => isV j = true ∧ isV x = true ∧ kP p ∧ kP q
theorem okP_kP {hd : Str → Option Nat} : ∀ {p : Pt} {xs hs : List Str}, (∀ j ∈ hs, PySem.PyData.strOk j = true) → okP hd p xs hs → kP p
  | .give j t, _, _, hh, h => ⟨hh _ h.1, h.2.st⟩
  | .ask f ts j, _, _, hh, h => ⟨hh _ h.1, h.2.1, h.2.2.2.1, fun t ht => (h.2.2.2.2 t ht).st⟩
  | .tell x t p, _, _, hh, h => ⟨h.1, h.2.1.st, okP_kP hh h.2.2⟩
  | .lett x t p, _, _, hh, h => ⟨h.1, h.2.1.st, okP_kP hh h.2.2⟩
  | .iff t p q, _, _, hh, h => ⟨h.1.st, okP_kP hh h.2.1, okP_kP hh h.2.2⟩
  | .post j x p q, _, _, hh, h => ⟨isV_of h.1, isV_of h.2.1, okP_kP hh h.2.2.1, okP_kP (fun k hk => by
      rcases List.mem_append.mp hk with z | z
      · exact hh k z
      · rw [List.mem_singleton.mp z]
        exact isW_ok h.1) h.2.2.2⟩
theorem STm.lay {t : Tm} (h : STm t) : (pd t).canLay0 = true := lay_pd h.ok
theorem STm.dep {t : Tm} (h : STm t) : (pd t).depth ≤ 4 := depth_pd h.ht
/-! ### all parts and terms of a part, counted -/
def ncnt : Pt → Nat
  | .give _ t => 1 + cnt t
  | .ask _ ts _ => 1 + cnts ts
  | .tell _ t p => 1 + cnt t + ncnt p
  | .lett _ t p => 1 + cnt t + ncnt p
  | .iff t p q => 1 + cnt t + ncnt p + ncnt q
  | .post _ _ p q => 1 + ncnt p + ncnt q
theorem cnts_le {ts : List Tm} (h : ∀ t ∈ ts, STm t) : cnts ts ≤ 3 * ts.length := by
  induction ts with
  | nil => exact Nat.le_refl _
  | cons t r ih =>
    have h1 := (h t List.mem_cons_self).cn
    have h2 := ih fun u hu => h u (List.mem_cons_of_mem _ hu)
    rw [cnts_cons, List.length_cons]
    omega
theorem ncnt_le : ∀ {p : Pt}, kP p → ncnt p ≤ 13 * pcnt p
  | .give j t, h => by
    have := h.2.cn
    show 1 + cnt t ≤ 13 * 1
    omega
  | .ask f ts j, h => by
    have := cnts_le h.2.2.2
    have := h.2.2.1
    show 1 + cnts ts ≤ 13 * 1
    omega
  | .tell x t p, h => by
    have := h.2.1.cn
    have := ncnt_le h.2.2
    show 1 + cnt t + ncnt p ≤ 13 * (1 + pcnt p)
    omega
  | .lett x t p, h => by
    have := h.2.1.cn
    have := ncnt_le h.2.2
    show 1 + cnt t + ncnt p ≤ 13 * (1 + pcnt p)
    omega
  | .iff t p q, h => by
    have := h.1.cn
    have := ncnt_le h.2.1
    have := ncnt_le h.2.2
    show 1 + cnt t + ncnt p + ncnt q ≤ 13 * (1 + pcnt p + pcnt q)
    omega
  | .post j x p q, h => by
    have := ncnt_le h.2.2.1
    have := ncnt_le h.2.2.2
    show 1 + ncnt p + ncnt q ≤ 13 * (1 + pcnt p + pcnt q)
    omega
end KB

namespace KB
open PySem L2

/-! ### trees, whatever they are made of -/
def plL {N : Type} (pl : N → List (List Int × N)) : Nat → List N → List (List Int × N)
  | _, [] => []
  | j, t :: ts => (pl t).map (fun e => ((j : Int) :: e.1, e.2)) ++ plL pl (j + 1) ts
structure Tre (N : Type) where
  kids : N → List N
  sz : N → Nat
  pl : N → List (List Int × N)
  A : Hp → N → Addr → Prop
  tk : ∀ {H H' : Hp} {n : N} {a : Addr}, TK H H' → A H n a → A H' n a
  szk : ∀ n, sz n = 1 + ((kids n).map sz).sum
  plk : ∀ n, pl n = ([], n) :: plL pl 0 (kids n)
namespace Tre
variable {N : Type} (R : Tre N)
def V (H : Hp) (n : N) (v : L2.V) : Prop := ∃ b, v = .ref b ∧ R.A H n b
def szs (ns : List N) : Nat := (ns.map R.sz).sum
def pre (n : N) : List N := (R.pl n).map (·.2)
theorem V.tk {R : Tre N} {H H' : Hp} (e : TK H H') {n : N} {v : L2.V} (h : R.V H n v) : R.V H' n v := let ⟨b, e1, h1⟩ := h; ⟨b, e1, R.tk e h1⟩
theorem szs_cons (n : N) (r : List N) : R.szs (n :: r) = R.sz n + R.szs r := rfl
theorem szs_app (a b : List N) : R.szs (a ++ b) = R.szs a + R.szs b := by
  unfold szs
  rw [List.map_append, List.sum_append]
theorem pos (n : N) : 1 ≤ R.sz n := by
  rw [R.szk]
  omega
theorem len_szs : ∀ ns : List N, ns.length ≤ R.szs ns
  | [] => Nat.le_refl _
  | n :: r => by
    have h1 := R.pos n
    have h2 := len_szs r
    rw [R.szs_cons, List.length_cons]
    omega
theorem pl_len (m : Nat) : ∀ n, R.sz n ≤ m → (R.pl n).length = R.sz n := by
  induction m with
  | zero => intro n h; have := R.pos n; omega
  | succ m ih =>
    intro n h
    have e := R.szk n
    have go : ∀ (ns : List N) (j : Nat), R.szs ns ≤ m → (plL R.pl j ns).length = R.szs ns := by
      intro ns
      induction ns with
      | nil => intro j _; rfl
      | cons a r ihr =>
        intro j hj
        rw [R.szs_cons] at hj ⊢
        show ((R.pl a).map (fun e => ((j : Int) :: e.1, e.2)) ++ plL R.pl (j + 1) r).length = _
        rw [List.length_append, List.length_map, ihr (j + 1) (by omega), ih a (by omega)]
    rw [R.plk, List.length_cons, go (R.kids n) 0 (by show ((R.kids n).map R.sz).sum ≤ m; omega), e]
    show R.szs (R.kids n) + 1 = 1 + R.szs (R.kids n)
    omega
theorem pl_short (m : Nat) : ∀ n, R.sz n ≤ m → ∀ e ∈ R.pl n, e.1.length < R.sz n := by
  induction m with
  | zero => intro n h; have := R.pos n; omega
  | succ m ih =>
    intro n h
    have e := R.szk n
    have go : ∀ (ns : List N) (j : Nat), R.szs ns ≤ m → ∀ e ∈ plL R.pl j ns, e.1.length ≤ R.szs ns := by
      intro ns
      induction ns with
      | nil => intro j _ e he; cases he
      | cons a r ihr =>
        intro j hj e he
        rw [R.szs_cons] at hj ⊢
        have he' : e ∈ (R.pl a).map (fun e => ((j : Int) :: e.1, e.2)) ++ plL R.pl (j + 1) r := he
        rcases List.mem_append.mp he' with z | z
        · obtain ⟨e', h1, rfl⟩ := List.mem_map.mp z
          have := ih a (by omega) e' h1
          show e'.1.length + 1 ≤ _
          omega
        · have := ihr (j + 1) (by omega) e z
          omega
    intro x hx
    rw [R.plk] at hx
    have e2 : R.sz n = 1 + R.szs (R.kids n) := e
    rcases List.mem_cons.mp hx with z | z
    · subst z
      show 0 < R.sz n
      omega
    · have := go (R.kids n) 0 (by omega) x z
      omega
end Tre
section
variable {P : Program} {w : World} {K : PySem.W.Frag} {mg : Str → Option Value} {base : Heap}
/-- what a function promises that tells the parts right in a part -/
def spKids {N : Type} (R : Tre N) : Sp := fun vs H Q _ => ∃ (n : N) (a : Addr), vs = [.ref a] ∧ R.A H n a ∧ ∀ p H' us, Same H H' → H' p = some (.tup us) → All2 (R.V H') (R.kids n) us → Q (.ref p) H'
/-! ### met -/
/-! ### placed -/
/-- a tuple that begins with pre -/
def PlV (H : Hp) (pre : List V) (ks : List Int) (v : V) : Prop := ∃ r, v = .ref r ∧ H r = some (.tup (pre ++ ks.map V.int))
theorem PlV.tk {H H' : Hp} (e : TK H H') {pre : List V} {ks : List Int} {v : V} (h : PlV H pre ks v) : PlV H' pre ks v :=
  let ⟨r, e1, h1⟩ := h; ⟨r, e1, e _ _ h1⟩
/-- a place and its part -/
def EntV {N : Type} (A : Hp → N → Addr → Prop) (H : Hp) (pre : List V) (kt : List Int × N) (v : V) : Prop := ∃ q r b, v = .ref q ∧ H q = some (.tup [.ref r, .ref b]) ∧ H r = some (.tup (pre ++ kt.1.map V.int)) ∧ A H kt.2 b
theorem EntV.tk {N : Type} {A : Hp → N → Addr → Prop} {H H' : Hp} (ta : ∀ {n : N} {a : Addr}, TK H H' → A H n a → A H' n a) (e : TK H H') {pre : List V} {kt : List Int × N} {v : V} (h : EntV A H pre kt v) : EntV A H' pre kt v :=
  let ⟨q, r, b, e1, h1, h2, h3⟩ := h; ⟨q, r, b, e1, e _ _ h1, e _ _ h2, ta e h3⟩
def entsN {N : Type} (ks : List Int) : Nat → List N → List (List Int × N)
  | _, [] => []
  | j, t :: ts => (ks ++ [(j : Int)], t) :: entsN ks (j + 1) ts
theorem entsN_snd {N : Type} {ks : List Int} : ∀ {ts : List N} {j : Nat}, (entsN ks j ts).map (·.2) = ts
  | [], _ => rfl
  | t :: ts, j => by
    show t :: (entsN ks (j + 1) ts).map (·.2) = t :: ts
    rw [entsN_snd]
theorem entsN_drop {N : Type} {ks : List Int} {kl : List N} {i : Nat} (h : i < kl.length) : entsN ks i (kl.drop i) = (ks ++ [(i : Int)], kl[i]) :: entsN ks (i + 1) (kl.drop (i + 1)) := by
  rw [List.drop_eq_getElem_cons h]
  rfl
namespace Tre
variable {N : Type} (R : Tre N)
def at_ (ks : List Int) (l : List (List Int × N)) : List (List Int × N) := l.map fun e => (ks ++ e.1, e.2)
def spread (es : List (List Int × N)) : List (List Int × N) := (es.map fun kt => at_ kt.1 (R.pl kt.2)).flatten
def ecnt (es : List (List Int × N)) : Nat := R.szs (es.map (·.2))
theorem spread_cons {e : List Int × N} {r : List (List Int × N)} : R.spread (e :: r) = at_ e.1 (R.pl e.2) ++ R.spread r := rfl
theorem spread_app {a b : List (List Int × N)} : R.spread (a ++ b) = R.spread a ++ R.spread b := by
  unfold spread
  rw [List.map_append, List.flatten_append]
theorem spread_ents {ks : List Int} : ∀ {ts : List N} {j : Nat}, R.spread (entsN ks j ts) = at_ ks (plL R.pl j ts)
  | [], _ => rfl
  | t :: ts, j => by
    show R.spread ((ks ++ [(j : Int)], t) :: entsN ks (j + 1) ts) = at_ ks ((R.pl t).map (fun e => ((j : Int) :: e.1, e.2)) ++ plL R.pl (j + 1) ts)
    rw [R.spread_cons, spread_ents]
    unfold at_
    rw [List.map_append, List.map_map]
    congr 1
    refine List.map_congr_left fun p _ => ?_
    show ((ks ++ [(j : Int)]) ++ p.1, p.2) = (ks ++ ((j : Int) :: p.1), p.2)
    rw [List.append_assoc]
    rfl
end Tre
def spPlaced {N : Type} (R : Tre N) (gp : Addr) : Sp := fun vs H Q _ => ∃ (nm : Str) (a : Addr) (n : N), vs = [.str nm, .ref a, .ref gp] ∧ R.A H n a ∧ R.sz n ≤ 1000 ∧ ∀ p H' its, H p = none → Same H H' → H' p = some (.lst its) → All2 (EntV R.A H' [.str nm]) (R.pl n) its → Q (.ref p) H'
abbrev splaced : Stmt := top 4
theorem scplaced : FnScope ["name", "body", "parts", "found", "waiting", "place", "part", "own", "k"] ["name", "body", "parts"] (defScope splaced) := ⟨rfl, rfl, rfl, by decide +kernel, rfl, by decide +kernel, by decide +kernel⟩
def PldW {N : Type} (R : Tre N) (H : Hp) (nm : Str) (a gp fl wl : Addr) (t : N) (m : Nat) (σ : St) (H' : Hp) : Prop := ∃ o1 o2 o3 o4 fs fv rs es, σ = [some (.str nm), some (.ref a), some (.ref gp), some (.ref fl), some (.ref wl), o1, o2, o3, o4] ∧ Same H H' ∧ H fl = none ∧ H wl = none ∧ fl ≠ wl ∧
  H' fl = some (.lst fv) ∧ All2 (EntV R.A H' [.str nm]) fs fv ∧ H' wl = some (.lst (List.reverse rs)) ∧ All2 (EntV R.A H' [.str nm]) es rs ∧ m = R.ecnt es ∧ fs.length + R.ecnt es ≤ 1000 ∧ fs ++ R.spread es = R.pl t
/-- within the loop over the parts, i of them put there -/
def PldI {N : Type} (R : Tre N) (H : Hp) (nm : Str) (a gp fl wl b ra pp : Addr) (fs : List (List Int × N)) (ks : List Int) (kl : List N) (es : List (List Int × N)) (ys : List V) (i : Nat) (σ : St) (H' : Hp) : Prop :=
  ∃ o4, σ = [some (.str nm), some (.ref a), some (.ref gp), some (.ref fl), some (.ref wl), some (.ref ra), some (.ref b), some (.ref pp), o4] ∧ Same H H' ∧ (∃ fv, H' fl = some (.lst fv) ∧ All2 (EntV R.A H' [.str nm]) fs fv) ∧
  (∃ rs, H' wl = some (.lst (List.reverse rs)) ∧ All2 (EntV R.A H' [.str nm]) (entsN ks (kl.length - i) (kl.drop (kl.length - i)) ++ es) rs) ∧ H' ra = some (.tup (.str nm :: ks.map V.int)) ∧ H' pp = some (.tup ys) ∧ All2 (R.V H') kl ys
theorem ok_placed {N : Type} (R : Tre N) (T : Txt K mg) {k : Nat} {f g : Addr} {fd gd : FuncData} {x : Str} (F : Fun K "placed" "placed" splaced f fd) (Gparts : FnOk P w K mg base CX0 k g gd [x] (spKids R)) (kk : PySem.W.keepIn K (.ref g) = true) (bb : Binds K gd [x] []) : FnOk P w K mg base CX0 (k + 1) f fd ["name", "body", "parts"] (spPlaced R g) := by
  refine F.ok scplaced (fun vs H Q E h => ?_) (fun cdv A outer s H vs Q E hr h => ?_)
  · obtain ⟨nm, a, t, rfl, _⟩ := h
    rfl
  obtain ⟨nm, a, t, rfl, hA, hc, q⟩ := h
  refine ⟨_, (pss_cons (ps_set (i := 3) scplaced.nd rfl (Or.inl rfl) (pe_lst pa_nil))
    (pss_cons (ps_set (i := 4) scplaced.nd rfl (Or.inl rfl) (pe_lst (pa_cons (pe_tup (pa_cons (pe_tup (pa_cons (pv 0) pa_nil)) (pa_cons (pv 1) pa_nil))) pa_nil)))
    (pss_cons (ps_while PassesOwn.never (pt_truth (pv 4) (by intro _; rfl)) (pss_cons (ps_asg (pe_bm0 PySem.F.plainAttrs_list PySem.F.slot_list_pop PySem.F.type_list_pop mt_pop (pv 4)) (pg_tup rfl (pgs_cons (pg_name (i := 5) scplaced.nd rfl (Or.inl rfl)) (pgs_cons (pg_name (i := 6) scplaced.nd rfl (Or.inl rfl)) pgs_nil))))
    (pss_cons (ps_expr (pe_bm PySem.F.plainAttrs_list PySem.F.slot_list_append PySem.F.type_list_append mt_append (pv 3) (pa_cons (pe_tup (pa_cons (pv 5) (pa_cons (pv 6) pa_nil))) pa_nil)))
    (pss_cons (ps_set (i := 7) scplaced.nd rfl (Or.inl rfl) (pe_callL (i := 2) Gparts (hr.mono (by omega)) rfl (.inl rfl) kk bb .nil pass0 (pa_cons (pv 6) pa_nil)))
    (pss_one (ps_for PassesOwn.never rfl (pi_revR rfl T.m_reversed (prg_1 rfl T.m_range (pe_callB call_len_seq (by rfl) T.m_len PySem.boot_len (pa_cons (pv 7) pa_nil)))) (pg_name (i := 8) scplaced.nd rfl (Or.inl rfl)) (pss_one (ps_expr (pe_bm PySem.F.plainAttrs_list PySem.F.slot_list_append PySem.F.type_list_append mt_append (pv 4) (pa_cons (pe_tup (pa_cons (pe_tup (StX.pa_star (pv 5) (pa_cons (pv 8) pa_nil))) (pa_cons (pe_ix ix_tup (pv 7) (pv 8) (fun _ _ => rfl)) pa_nil))) pa_nil))))))))))
    (pss_one (ps_ret (pv 3)))))), ?_⟩
  refine ⟨sz (by show 0 ≤ 100000; decide), fun fl hfl => ?_⟩
  have s0 := same_new hfl (.lst [])
  refine ⟨_, rfl, sz (by show 1 ≤ 100000; decide), fun p0 hp0 => ?_⟩
  have s1 := same_new hp0 (.tup [.str nm])
  refine ⟨_, rfl, sz (by show 2 ≤ 100000; decide), fun p1 hp1 => ?_⟩
  have s2 := same_new hp1 (.tup [.ref p0, .ref a])
  refine ⟨sz (by show 1 ≤ 100000; decide), fun wl hwl => ?_⟩
  have s3 := same_new hwl (.lst [.ref p1])
  have hfl3 := s3 _ _ (s2 _ _ (s1 _ _ (upd_same (H := H) (a := fl) (o := .lst []))))
  have hwf : fl ≠ wl := ne_of_none (s2 _ _ (s1 _ _ upd_same)) hwl
  have sA : Same H _ := s0.trans (s1.trans (s2.trans s3))
  refine ⟨PldW R H nm a g fl wl t, ⟨_, none, none, none, none, [], [], [.ref p1], [([], t)], rfl, sA, hfl, (s0.trans (s1.trans s2)).free hwl, hwf, hfl3, trivial, upd_same, ⟨⟨p1, p0, a, rfl, s3 _ _ upd_same, s3 _ _ (s2 _ _ upd_same), R.tk (tk_same sA) hA⟩, trivial⟩, rfl, ?_, ?_⟩, ?_⟩
  · show 0 + (R.sz t + 0) ≤ 1000
    omega
  · rw [R.spread_cons]
    show [] ++ ((R.pl t).map (fun e => ([] ++ e.1, e.2)) ++ []) = R.pl t
    simp
  clear hfl3 s3 hwl s2 hp1 s1 hp0 s0 sA
  rintro m σ H1 ⟨o1, o2, o3, o4, fs, fv, rs, es, rfl, s1, hf0, hw0, _, h1, k1, h2, k2, rfl, hm, hP⟩
  refine ⟨_, rfl, _, .inl ⟨_, SqL.of h2, rfl⟩, ?_⟩
  cases rs with
  | nil =>
    cases es with
    | cons _ _ => exact k2.elim
    | nil =>
      refine itF rfl ⟨_, rfl, ?_⟩
      have e : fs = R.pl t := by
        rw [← hP]
        exact (List.append_nil fs).symm
      subst e
      exact q _ _ _ hfl s1 h1 k1
  | cons r rs =>
    cases es with
    | nil => exact k2.elim
    | cons e1 es =>
      obtain ⟨ks, t1⟩ := e1
      obtain ⟨⟨qa, ra, b, rfl, g1, g2, g3⟩, k3⟩ := k2
      refine itT (by simp) ⟨fun σ' H' => ∃ m', m' < R.ecnt ((ks, t1) :: es) ∧ PldW R H nm a g fl wl t m' σ' H', fun _ _ z => z, ?_⟩
      -- place, part = waiting.pop()
      refine ⟨_, rfl, .inl ⟨rfl, _, SqL.of h2⟩, wl, _, .ref qa, rfl, rfl, h2, by simp, ?_⟩
      have eD : ((V.ref qa :: rs).reverse).dropLast = rs.reverse := by rw [List.reverse_cons, List.dropLast_concat]
      rw [eD]
      have tk2 : TK H1 (upd H1 wl (.lst rs.reverse)) := tk_put h2
      have s2 : Same H (upd H1 wl (.lst rs.reverse)) := same_mut s1 hw0
      have w2 : upd H1 wl (.lst rs.reverse) wl = some (.lst rs.reverse) := upd_same
      have f2 : upd H1 wl (.lst rs.reverse) fl = some (.lst fv) := by
        rw [upd_ne hwf]
        exact h1
      have k4 := k1.imp fun _ _ z => EntV.tk R.tk tk2 z
      have k5 := k3.imp fun _ _ z => EntV.tk R.tk tk2 z
      have g4 := tk2 _ _ g1
      have g5 := tk2 _ _ g2
      have g6 := R.tk tk2 g3
      clear tk2
      generalize upd H1 wl (.lst rs.reverse) = H2 at s2 w2 f2 k4 k5 g4 g5 g6
      refine ⟨qa, _, rfl, SqT.of g4, rfl, _, _, rfl, _, _, rfl, rfl, ?_⟩
      -- found.append((place, part))
      have hfs := k4.len
      refine ⟨_, rfl, .inl ⟨rfl, _, SqL.of f2⟩, _, rfl, _, rfl, sz (by show 2 ≤ 100000; decide), fun p2 hp2 => ?_⟩
      have s3 := same_new hp2 (.tup [.ref ra, .ref b])
      have f3 := s3 _ _ f2
      refine ⟨fl, _, _, rfl, rfl, f3, Nat.lt_of_le_of_lt (m := 1000) (by omega) (by decide), ?_⟩
      have tk3 : TK H2 (upd (upd H2 p2 (.tup [.ref ra, .ref b])) fl (.lst (fv ++ [.ref p2]))) := (tk_same s3).trans (tk_put f3)
      have s4 : Same H (upd (upd H2 p2 (.tup [.ref ra, .ref b])) fl (.lst (fv ++ [.ref p2]))) := same_mut (s2.trans s3) hf0
      have f4 : upd (upd H2 p2 (.tup [.ref ra, .ref b])) fl (.lst (fv ++ [.ref p2])) fl = some (.lst (fv ++ [.ref p2])) := upd_same
      have w4 : upd (upd H2 p2 (.tup [.ref ra, .ref b])) fl (.lst (fv ++ [.ref p2])) wl = some (.lst rs.reverse) := by
        rw [upd_ne (Ne.symm hwf)]
        exact s3 _ _ w2
      have g7 : upd (upd H2 p2 (.tup [.ref ra, .ref b])) fl (.lst (fv ++ [.ref p2])) p2 = some (.tup [.ref ra, .ref b]) := tk_put f3 _ _ upd_same
      have g8 := tk3 _ _ g5
      have g9 := R.tk tk3 g6
      have k6 : All2 (EntV R.A _ [.str nm]) (fs ++ [(ks, t1)]) (fv ++ [.ref p2]) := (k4.imp fun _ _ z => EntV.tk R.tk tk3 z).app ⟨⟨p2, _, _, rfl, g7, g8, g9⟩, trivial⟩
      have k7 := k5.imp fun _ _ z => EntV.tk R.tk tk3 z
      clear tk3 g7
      generalize upd (upd H2 p2 (.tup [.ref ra, .ref b])) fl (.lst (fv ++ [.ref p2])) = H4 at s4 f4 w4 k6 k7 g8 g9
      -- own = parts(part)
      refine ⟨rfl, _, rfl, t1, b, rfl, g9, fun pp H5 ys s5 g10 hys => ?_⟩
      have f5 := s5 _ _ f4
      have w5 := s5 _ _ w4
      have s6 : Same H H5 := s4.trans s5
      have k8 := k6.imp fun _ _ z => EntV.tk R.tk (tk_same s5) z
      have k9 := k7.imp fun _ _ z => EntV.tk R.tk (tk_same s5) z
      have g11 := s5 _ _ g8
      have hkl := hys.len
      have hec : R.ecnt ((ks, t1) :: es) = 1 + R.szs (R.kids t1) + R.ecnt es := by
        show R.sz t1 + R.ecnt es = _
        rw [R.szk]
        rfl
      have hnk := R.len_szs (R.kids t1)
      have hes := R.len_szs (es.map (·.2))
      rw [List.length_map] at hes
      have hes2 : es.length ≤ R.ecnt es := hes
      refine ⟨_, rfl, pp, _, rfl, .inr (SqT.of g10), _, rfl, by decide, by decide, by omega, by omega, ?_⟩
      rw [hkl]
      generalize hn : (R.kids t1).length = n at hkl hnk
      have e0 : ((n : Int) - 0).toNat = n := by omega
      rw [e0]
      refine for_rangeC (lo := 0 + (n : Int) - 1) (c := -1) (n := n) (PldI R H nm a g fl wl b ra pp (fs ++ [(ks, t1)]) ks (R.kids t1) es ys) ?_ ?_ ?_
      · refine ⟨_, rfl, s6, ⟨_, f5, k8⟩, ⟨rs, w5, ?_⟩, g11, g10, hys⟩
        rw [Nat.sub_zero, List.drop_length]
        exact k9
      · rintro i σ' H6 hi ⟨o4', rfl, r1, ⟨fv6, r2, r3⟩, ⟨rs6, r4, r5⟩, r6, r7, r8⟩
        rw [hn] at r5
        have hj : n - i - 1 < n := by omega
        have ej : (0 : Int) + (n : Int) - 1 + ((i : Nat) : Int) * (-1) = ((n - i - 1 : Nat) : Int) := by omega
        rw [ej]
        obtain ⟨v, hv⟩ : ∃ v, ys[n - i - 1]? = some v := ⟨_, List.getElem?_eq_getElem (by rw [hkl]; exact hj)⟩
        obtain ⟨tj, htj, bj, rfl, hbj⟩ := r8.get hv
        have hes6 := r5.len
        rw [List.length_append] at hes6
        have hle6 : (entsN ks (n - i) ((R.kids t1).drop (n - i))).length ≤ n := by
          have z := congrArg List.length (entsN_snd (ks := ks) (ts := (R.kids t1).drop (n - i)) (j := n - i))
          rw [List.length_map, List.length_drop, hn] at z
          omega
        refine ⟨_, rfl, .inl ⟨rfl, _, SqL.of r4⟩, _, rfl, ra, _, rfl, .inl (SqT.of r6), _, rfl, sz ?_, fun p3 hp3 => ?_⟩
        · have z9 : (ks, t1) ∈ R.pl t := by
            rw [← hP, R.spread_cons]
            refine List.mem_append_right _ (List.mem_append_left _ ?_)
            show (ks, t1) ∈ (R.pl t1).map (fun e => (ks ++ e.1, e.2))
            rw [R.plk, List.map_cons]
            exact List.mem_cons.mpr (.inl (by rw [List.append_nil]))
          have z8 := R.pl_short _ t (Nat.le_refl _) _ z9
          show ((.str nm :: ks.map V.int) ++ [V.int ((n - i - 1 : Nat) : Int)]).length ≤ 100000
          rw [List.length_append, List.length_cons, List.length_map, List.length_singleton]
          have z7 : ks.length < R.sz t := z8
          omega
        have t3 := same_new hp3 (.tup ((.str nm :: ks.map V.int) ++ [.int ((n - i - 1 : Nat) : Int)]))
        refine ⟨_, rfl, _, rfl, pp, _, _, _, rfl, rfl, SqT.of (t3 _ _ r7), atI_nat hv, sz (by show 2 ≤ 100000; decide), fun p4 hp4 => ?_⟩
        have t4 := same_new hp4 (.tup [.ref p3, .ref bj])
        have w6 := t4 _ _ (t3 _ _ r4)
        refine ⟨wl, _, _, rfl, rfl, w6, Nat.lt_of_le_of_lt (m := 2000) (by rw [List.length_reverse]; omega) (by decide), ?_⟩
        have tt := t3.trans t4
        have tk6 := (tk_same tt).trans (tk_put (o := .lst (rs6.reverse ++ [.ref p4])) w6)
        refine ⟨_, rfl, same_mut (r1.trans tt) hw0, ⟨fv6, ?_, r3.imp fun _ _ z => EntV.tk R.tk tk6 z⟩, ⟨.ref p4 :: rs6, ?_, ?_⟩, tk6 _ _ r6, tk6 _ _ r7, r8.imp fun _ _ z => Tre.V.tk tk6 z⟩
        · rw [upd_ne hwf]
          exact tt _ _ r2
        · rw [upd_same, List.reverse_cons]
        · rw [hn]
          have e2 : n - (i + 1) = n - i - 1 := by omega
          have e3 : n - i - 1 + 1 = n - i := by omega
          rw [e2, entsN_drop (by rw [hn]; exact hj), e3]
          refine ⟨⟨p4, p3, bj, rfl, ?_, ?_, ?_⟩, r5.imp fun _ _ z => EntV.tk R.tk tk6 z⟩
          · exact tk_put w6 _ _ upd_same
          · have z := (tk_same t4).trans (tk_put (o := .lst (rs6.reverse ++ [.ref p4])) w6) _ _ (upd_same (H := H6) (a := p3) (o := .tup ((.str nm :: ks.map V.int) ++ [.int ((n - i - 1 : Nat) : Int)])))
            rw [z]
            simp
          · have e9 : (R.kids t1)[n - i - 1]'(by rw [hn]; exact hj) = tj := by
              rw [List.getElem?_eq_getElem (by rw [hn]; exact hj)] at htj
              exact Option.some.inj htj
            show R.A _ ((R.kids t1)[n - i - 1]'(by rw [hn]; exact hj)) bj
            rw [e9]
            exact R.tk tk6 hbj
      · rintro σ' H6 ⟨o4', rfl, r1, ⟨fv6, r2, r3⟩, ⟨rs6, r4, r5⟩, r6, r7, r8⟩
        rw [hn, Nat.sub_self, List.drop_zero] at r5
        have e3 : R.ecnt (entsN ks 0 (R.kids t1) ++ es) = R.szs (R.kids t1) + R.ecnt es := by
          unfold Tre.ecnt
          rw [List.map_append, entsN_snd, R.szs_app]
        refine ⟨_, ?_, _, _, _, _, fs ++ [(ks, t1)], fv6, rs6, _, rfl, r1, hf0, hw0, hwf, r2, r3, r4, r5, rfl, ?_, ?_⟩
        · rw [e3, hec]
          omega
        · rw [e3, List.length_append, List.length_singleton]
          omega
        · rw [← hP, R.spread_cons, R.spread_app, R.spread_ents, R.plk]
          unfold Tre.at_
          simp
end
end KB

namespace KB
open PySem L2

def termsP : Pt → List Tm
  | .give _ t => [t]
  | .ask _ ts _ => ts
  | .tell _ t _ => [t]
  | .lett _ t _ => [t]
  | .iff t _ _ => [t]
  | .post _ _ _ _ => []
def restP : Pt → List Pt
  | .give _ _ => []
  | .ask _ _ _ => []
  | .tell _ _ p => [p]
  | .lett _ _ p => [p]
  | .iff _ p q => [p, q]
  | .post _ _ p q => [p, q]
/-! ### turned parts as a tree -/
def plP : Pt → List (List Int × Pt)
  | .give j t => [([], .give j t)]
  | .ask f ts j => [([], .ask f ts j)]
  | .tell x t p => ([], .tell x t p) :: ((plP p).map (fun e => (((0 : Nat) : Int) :: e.1, e.2)) ++ [])
  | .lett x t p => ([], .lett x t p) :: ((plP p).map (fun e => (((0 : Nat) : Int) :: e.1, e.2)) ++ [])
  | .iff t p q => ([], .iff t p q) :: ((plP p).map (fun e => (((0 : Nat) : Int) :: e.1, e.2)) ++ ((plP q).map (fun e => (((1 : Nat) : Int) :: e.1, e.2)) ++ []))
  | .post j x p q => ([], .post j x p q) :: ((plP p).map (fun e => (((0 : Nat) : Int) :: e.1, e.2)) ++ ((plP q).map (fun e => (((1 : Nat) : Int) :: e.1, e.2)) ++ []))
def TrP : Tre Pt where
  kids := restP
  sz := pcnt
  pl := plP
  A := PAt
  tk e h := PAt.tk e h
  szk n := by cases n <;> simp [pcnt, restP, Nat.add_assoc]
  plk n := by cases n <;> rfl
/-! ### turned parts and their terms as a tree -/
abbrev Nd := Pt ⊕ Tm
def plT : Tm → List (List Int × Nd)
  | .mk h n k => ([], .inr (.mk h n k)) :: (List.ofFn fun i : Fin n => (plT (k i)).map (fun e => ((i.val : Int) :: e.1, e.2))).flatten
def plTs : Nat → List Tm → List (List Int × Nd)
  | _, [] => []
  | j, t :: ts => (plT t).map (fun e => ((j : Int) :: e.1, e.2)) ++ plTs (j + 1) ts
def plQ : Pt → List (List Int × Nd)
  | .give j t => ([], .inl (.give j t)) :: ((plT t).map (fun e => (((0 : Nat) : Int) :: e.1, e.2)) ++ [])
  | .ask f ts j => ([], .inl (.ask f ts j)) :: plTs 0 ts
  | .tell x t p => ([], .inl (.tell x t p)) :: ((plT t).map (fun e => (((0 : Nat) : Int) :: e.1, e.2)) ++ ((plQ p).map (fun e => (((1 : Nat) : Int) :: e.1, e.2)) ++ []))
  | .lett x t p => ([], .inl (.lett x t p)) :: ((plT t).map (fun e => (((0 : Nat) : Int) :: e.1, e.2)) ++ ((plQ p).map (fun e => (((1 : Nat) : Int) :: e.1, e.2)) ++ []))
  | .iff t p q => ([], .inl (.iff t p q)) :: ((plT t).map (fun e => (((0 : Nat) : Int) :: e.1, e.2)) ++ ((plQ p).map (fun e => (((1 : Nat) : Int) :: e.1, e.2)) ++ ((plQ q).map (fun e => (((2 : Nat) : Int) :: e.1, e.2)) ++ [])))
  | .post j x p q => ([], .inl (.post j x p q)) :: ((plQ p).map (fun e => (((0 : Nat) : Int) :: e.1, e.2)) ++ ((plQ q).map (fun e => (((1 : Nat) : Int) :: e.1, e.2)) ++ []))
def plN : Nd → List (List Int × Nd)
  | .inl p => plQ p
  | .inr t => plT t
def kidsN : Nd → List Nd
  | .inl p => (termsP p).map .inr ++ (restP p).map .inl
  | .inr (.mk _ _ k) => (List.ofFn k).map .inr
def szN : Nd → Nat
  | .inl p => ncnt p
  | .inr t => cnt t
def NAt (H : Hp) : Nd → Addr → Prop
  | .inl p, a => PAt H p a ∧ kP p
  | .inr t, a => At H t a ∧ simple t = true
theorem plTs_plL : ∀ (ts : List Tm) (j : Nat), plTs j ts = plL plN j (ts.map .inr)
  | [], _ => rfl
  | t :: ts, j => by
    show (plT t).map (fun e => ((j : Int) :: e.1, e.2)) ++ plTs (j + 1) ts = (plT t).map (fun e => ((j : Int) :: e.1, e.2)) ++ plL plN (j + 1) (ts.map .inr)
    rw [plTs_plL ts (j + 1)]
theorem plT_fn : ∀ {n : Nat} {k : Fin n → Tm} {j : Nat}, (List.ofFn fun i : Fin n => (plT (k i)).map (fun e => (((j + i.val : Nat) : Int) :: e.1, e.2))).flatten = plTs j (List.ofFn k)
  | 0, _, _ => rfl
  | n + 1, k, j => by
    rw [List.ofFn_succ, List.ofFn_succ, List.flatten_cons]
    show _ = (plT (k 0)).map (fun e => ((j : Int) :: e.1, e.2)) ++ plTs (j + 1) _
    rw [← plT_fn (k := fun i => k i.succ) (j := j + 1)]
    congr 3
    · funext i
      have e : j + (i.succ).val = j + 1 + i.val := by
        rw [Fin.val_succ]
        omega
      rw [e]
theorem plT_mk {h : Hd} {n : Nat} {k : Fin n → Tm} : plT (.mk h n k) = ([], .inr (.mk h n k)) :: plTs 0 (List.ofFn k) := by
  rw [← plT_fn]
  show _ :: _ = _
  congr 4
  funext i
  rw [Nat.zero_add]
theorem szs_inr (ts : List Tm) : ((ts.map Sum.inr).map szN).sum = cnts ts := by
  rw [List.map_map]
  rfl
def TrN : Tre Nd where
  kids := kidsN
  sz := szN
  pl := plN
  A := NAt
  tk {H H' n a} e h := by
    cases n with
    | inl p => exact ⟨PAt.tk e h.1, h.2⟩
    | inr t => exact ⟨h.1.tk e, h.2⟩
  szk n := by
    cases n with
    | inl p =>
      cases p with
      | ask f ts j =>
        show 1 + cnts ts = 1 + (((ts.map Sum.inr ++ []).map szN)).sum
        rw [List.append_nil, szs_inr]
      | _ => simp [szN, ncnt, kidsN, termsP, restP, Nat.add_assoc]
    | inr t =>
      obtain ⟨h, n, k⟩ := t
      show cnt (.mk h n k) = 1 + (((List.ofFn k).map Sum.inr).map szN).sum
      rw [szs_inr, cnt_mk]
  plk n := by
    cases n with
    | inl p =>
      cases p with
      | ask f ts j =>
        show ([], .inl (.ask f ts j)) :: plTs 0 ts = ([], .inl (.ask f ts j)) :: plL plN 0 (ts.map .inr ++ [])
        rw [List.append_nil, plTs_plL]
      | _ => rfl
    | inr t =>
      obtain ⟨h, n, k⟩ := t
      show plT (.mk h n k) = ([], .inr (.mk h n k)) :: plL plN 0 ((List.ofFn k).map .inr)
      rw [plT_mk, plTs_plL]
theorem cut3 {x y z : V} {r : List V} : cutV (x :: y :: z :: r) (some 3) none = r := cut_from (i := 3) (by decide) (Nat.succ_le_succ len2)
theorem len3 {α : Type} {x y z : α} {r : List α} : 3 ≤ (x :: y :: z :: r).length := Nat.succ_le_succ len2
theorem all2_fn {H : Hp} : ∀ {n : Nat} {k : Fin n → Tm} {ys : Fin n → Addr}, (∀ i, At H (k i) (ys i)) → All2 (RefV H) (List.ofFn k) (Rfs ys)
  | 0, _, _, _ => trivial
  | n + 1, k, ys, h => by
    unfold Rfs
    rw [List.ofFn_succ, List.ofFn_succ]
    exact ⟨⟨ys 0, rfl, h 0⟩, all2_fn (k := fun i => k i.succ) (ys := fun i => ys i.succ) fun i => h i.succ⟩
theorem simple_mk {h : Hd} {n : Nat} {k : Fin n → Tm} (e : simple (.mk h n k) = true) : flatHd h = true ∧ ∀ i, simple (k i) = true := by
  have e' : (flatHd h && (List.ofFn fun i => simple (k i)).all id) = true := e
  rw [Bool.and_eq_true, List.all_eq_true] at e'
  exact ⟨e'.1, fun i => e'.2 _ (List.mem_ofFn.mpr ⟨i, rfl⟩)⟩
theorem all2_mem {α : Type} {R S : α → V → Prop} : ∀ {as : List α} {vs : List V}, All2 R as vs → (∀ a ∈ as, ∀ v, R a v → S a v) → All2 S as vs
  | [], [], _, _ => trivial
  | a :: as, v :: vs, h, e => ⟨e a List.mem_cons_self v h.1, all2_mem h.2 fun b hb => e b (List.mem_cons_of_mem _ hb)⟩
  | [], _ :: _, h, _ => h.elim
  | _ :: _, [], h, _ => h.elim
def heads : List V := [.str "number", .str "name", .str "plus", .str "less"]
theorem flat_in2 (h : Hd) : inV (.str (hs h)) heads = flatHd h := by
  cases h <;> rfl
/-- how a part begins -/
def hsP : Pt → Str
  | .give _ _ => "give" | .ask _ _ _ => "ask" | .tell _ _ _ => "tell" | .lett _ _ _ => "let" | .iff _ _ _ => "if" | .post _ _ _ _ => "post"
theorem PAt.head {H : Hp} {p : Pt} {a : Addr} (h : PAt H p a) : ∃ r, H a = some (.tup (.str (hsP p) :: r)) := by
  cases p with
  | give j t => obtain ⟨b, h1, _⟩ := h; exact ⟨_, h1⟩
  | ask f ts j => obtain ⟨b, vs, h1, _⟩ := h; exact ⟨_, h1⟩
  | tell x t p => obtain ⟨b, c, h1, _⟩ := h; exact ⟨_, h1⟩
  | lett x t p => obtain ⟨b, c, h1, _⟩ := h; exact ⟨_, h1⟩
  | iff t p q => obtain ⟨b, c, d, h1, _⟩ := h; exact ⟨_, h1⟩
  | post j x p q => obtain ⟨c, d, h1, _⟩ := h; exact ⟨_, h1⟩
theorem kP_terms {p : Pt} (h : kP p) : ∀ t ∈ termsP p, simple t = true := by
  intro t ht
  cases p with
  | give j u => rw [List.mem_singleton.mp ht]; exact h.2.si
  | ask f ts j => exact (h.2.2.2 t ht).si
  | tell x u p => rw [List.mem_singleton.mp ht]; exact h.2.1.si
  | lett x u p => rw [List.mem_singleton.mp ht]; exact h.2.1.si
  | iff u p q => rw [List.mem_singleton.mp ht]; exact h.1.si
  | post j x p q => cases ht
theorem kP_rest {p : Pt} (h : kP p) : ∀ u ∈ restP p, kP u := by
  intro u hu
  cases p with
  | give j t => cases hu
  | ask f ts j => cases hu
  | tell x t p => rw [List.mem_singleton.mp hu]; exact h.2.2
  | lett x t p => rw [List.mem_singleton.mp hu]; exact h.2.2
  | iff t p q =>
    rcases List.mem_cons.mp hu with z | z
    · rw [z]; exact h.2.1
    · rw [List.mem_singleton.mp z]; exact h.2.2
  | post j x p q =>
    rcases List.mem_cons.mp hu with z | z
    · rw [z]; exact h.2.2.1
    · rw [List.mem_singleton.mp z]; exact h.2.2.2
section
variable {P : Program} {w : World} {K : PySem.W.Frag} {mg : Str → Option Value} {base : Heap}
/-! ### terms_in -/
def spTermsIn : Sp := fun vs H Q _ => ∃ (a : Addr) (p : Pt), vs = [.ref a] ∧ PAt H p a ∧ ∀ H' q vs, Same H H' → H' q = some (.tup vs) → All2 (RefV H') (termsP p) vs → Q (.ref q) H'
abbrev sterms_in : Stmt := top 14
theorem scterms_in : FnScope ["part"] ["part"] (defScope sterms_in) := ⟨rfl, rfl, rfl, by decide +kernel, rfl, by decide +kernel, by decide +kernel⟩
theorem ok_tin {f : Addr} {fd : FuncData} (F : Fun K "terms_in" "terms_in" sterms_in f fd) : FnOk P w K mg base CX0 1 f fd ["part"] spTermsIn := by
  refine F.ok scterms_in (fun vs H Q E h => ?_) (fun cdv A outer s H vs Q E hr h => ?_)
  · obtain ⟨a, p, rfl, _⟩ := h
    rfl
  obtain ⟨a, p, rfl, hA, q⟩ := h
  refine ⟨_, (pss_cons (ps_if (pt_cmpR op_eq (pe_ix ix_tup (pv 0) pe_int (fun _ _ => rfl)) pe_str (nomark _)) (pss_one (ps_ret (pe_ix ix_tup (pv 0) pe_int (fun _ _ => rfl)))) pss_nil)
    (pss_cons (ps_if (pt_cmpR op_eq (pe_ix ix_tup (pv 0) pe_int (fun _ _ => rfl)) pe_str (nomark _)) (pss_one (ps_ret (pe_slice sl_tupA (pv 0) (po_some pe_int) (po_some pe_int)))) pss_nil)
    (pss_cons (ps_if (pt_cmpR op_eq (pe_ix ix_tup (pv 0) pe_int (fun _ _ => rfl)) pe_str (nomark _)) (pss_one (ps_ret (pe_tup pa_nil))) pss_nil)
    (pss_one (ps_ret (pe_slice sl_tupA (pv 0) (po_some pe_int) (po_some pe_int))))))), ?_⟩
  cases p with
  | give j t =>
    obtain ⟨b, h1, h2⟩ := hA
    refine ⟨_, rfl, a, _, _, _, rfl, rfl, SqT.of h1, at0, rfl, _, rfl, itF rfl ⟨_, rfl, a, _, _, _, rfl, rfl, SqT.of h1, at0, rfl, _, rfl, itF rfl ⟨_, rfl, a, _, _, _, rfl, rfl, SqT.of h1, at0, rfl, _, rfl, itF rfl ?_⟩⟩⟩
    refine ⟨_, rfl, _, rfl, _, rfl, a, _, rfl, SqT.of h1, fun z => absurd z (by show ¬ (HT.sIx 3 0 (some 2) = 0 ∧ HT.sIx 3 3 (some 3) = 3); decide), fun _ p hp => ?_⟩
    have s1 := same_new hp (.tup [V.ref b])
    exact q _ p [.ref b] s1 upd_same ⟨⟨b, rfl, h2.mono s1⟩, trivial⟩
  | ask g ts j =>
    obtain ⟨b, vs, h1, h2, h3⟩ := hA
    exact ⟨_, rfl, a, _, _, _, rfl, rfl, SqT.of h1, at0, rfl, _, rfl, itT rfl ⟨_, rfl, a, _, _, _, rfl, rfl, SqT.of h1, at2, q H b vs (Same.refl H) h2 h3⟩⟩
  | tell x t p =>
    obtain ⟨b, c, h1, h2, h3⟩ := hA
    refine ⟨_, rfl, a, _, _, _, rfl, rfl, SqT.of h1, at0, rfl, _, rfl, itF rfl ⟨_, rfl, a, _, _, _, rfl, rfl, SqT.of h1, at0, rfl, _, rfl, itF rfl ⟨_, rfl, a, _, _, _, rfl, rfl, SqT.of h1, at0, rfl, _, rfl, itF rfl ?_⟩⟩⟩
    refine ⟨_, rfl, _, rfl, _, rfl, a, _, rfl, SqT.of h1, fun z => absurd z (by show ¬ (HT.sIx 4 0 (some 2) = 0 ∧ HT.sIx 4 4 (some 3) = 4); decide), fun _ p hp => ?_⟩
    have s1 := same_new hp (.tup [V.ref b])
    exact q _ p [.ref b] s1 upd_same ⟨⟨b, rfl, h2.mono s1⟩, trivial⟩
  | lett x t p =>
    obtain ⟨b, c, h1, h2, h3⟩ := hA
    refine ⟨_, rfl, a, _, _, _, rfl, rfl, SqT.of h1, at0, rfl, _, rfl, itF rfl ⟨_, rfl, a, _, _, _, rfl, rfl, SqT.of h1, at0, rfl, _, rfl, itF rfl ⟨_, rfl, a, _, _, _, rfl, rfl, SqT.of h1, at0, rfl, _, rfl, itF rfl ?_⟩⟩⟩
    refine ⟨_, rfl, _, rfl, _, rfl, a, _, rfl, SqT.of h1, fun z => absurd z (by show ¬ (HT.sIx 4 0 (some 2) = 0 ∧ HT.sIx 4 4 (some 3) = 4); decide), fun _ p hp => ?_⟩
    have s1 := same_new hp (.tup [V.ref b])
    exact q _ p [.ref b] s1 upd_same ⟨⟨b, rfl, h2.mono s1⟩, trivial⟩
  | iff t p p2 =>
    obtain ⟨b, c, d, h1, h2, h3, h4⟩ := hA
    refine ⟨_, rfl, a, _, _, _, rfl, rfl, SqT.of h1, at0, rfl, _, rfl, itF rfl ⟨_, rfl, a, _, _, _, rfl, rfl, SqT.of h1, at0, rfl, _, rfl, itT rfl ?_⟩⟩
    refine ⟨_, rfl, _, rfl, _, rfl, a, _, rfl, SqT.of h1, fun z => absurd z (by show ¬ (HT.sIx 4 0 (some 1) = 0 ∧ HT.sIx 4 4 (some 2) = 4); decide), fun _ p hp => ?_⟩
    have s1 := same_new hp (.tup [V.ref b])
    exact q _ p [.ref b] s1 upd_same ⟨⟨b, rfl, h2.mono s1⟩, trivial⟩
  | post j x p p2 =>
    obtain ⟨c, d, h1, h2, h3⟩ := hA
    refine ⟨_, rfl, a, _, _, _, rfl, rfl, SqT.of h1, at0, rfl, _, rfl, itF rfl ⟨_, rfl, a, _, _, _, rfl, rfl, SqT.of h1, at0, rfl, _, rfl, itF rfl ⟨_, rfl, a, _, _, _, rfl, rfl, SqT.of h1, at0, rfl, _, rfl, itT rfl ?_⟩⟩⟩
    exact ⟨sz (by show 0 ≤ 100000; decide), fun p hp => q _ p [] (same_new hp _) upd_same trivial⟩
/-! ### rest_of -/
abbrev srest_of : Stmt := top 15
theorem screst_of : FnScope ["part"] ["part"] (defScope srest_of) := ⟨rfl, rfl, rfl, by decide +kernel, rfl, by decide +kernel, by decide +kernel⟩
theorem ok_rest {f : Addr} {fd : FuncData} (F : Fun K "rest_of" "rest_of" srest_of f fd) : FnOk P w K mg base CX0 1 f fd ["part"] (spKids TrP) := by
  refine F.ok screst_of (fun vs H Q E h => ?_) (fun cdv A outer s H vs Q E hr h => ?_)
  · obtain ⟨p, a, rfl, _⟩ := h
    rfl
  obtain ⟨p, a, rfl, hA, q⟩ := h
  refine ⟨_, (pss_cons (ps_if (pt_cmpR op_eq (pe_ix ix_tup (pv 0) pe_int (fun _ _ => rfl)) pe_str (nomark _)) (pss_one (ps_ret (pe_slice sl_tupA (pv 0) (po_some pe_int) po_none))) pss_nil)
    (pss_cons (ps_if (pt_cmpR op_in_seq (pe_ix ix_tup (pv 0) pe_int (fun _ _ => rfl)) (pe_tup (pa_cons pe_str (pa_cons pe_str pa_nil))) rfl) (pss_one (ps_ret (pe_tup pa_nil))) pss_nil)
    (pss_one (ps_ret (pe_slice sl_tupA (pv 0) (po_some pe_int) po_none))))), ?_⟩
  have hA' : PAt H p a := hA
  obtain ⟨r, hd⟩ := hA'.head
  refine ⟨_, rfl, a, _, _, _, rfl, rfl, SqT.of hd, at0, rfl, _, rfl, ?_⟩
  cases p with
  | iff t p1 p2 =>
    obtain ⟨b, c, d, h1, h2, h3, h4⟩ := hA'
    refine itT rfl ⟨_, rfl, _, rfl, a, _, rfl, SqT.of h1, fun z => absurd z (not_whole (by decide) len2), fun _ pa hpa => ?_⟩
    have s1 := same_new hpa (.tup (cutV [.str "if", .ref b, .ref c, .ref d] (some 2) none))
    exact q pa _ [.ref c, .ref d] s1 (by rw [upd_same, cut2]) ⟨⟨c, rfl, PAt.tk (tk_same s1) h3⟩, ⟨d, rfl, PAt.tk (tk_same s1) h4⟩, trivial⟩
  | give j t =>
    refine itF rfl ⟨_, rfl, a, _, _, _, rfl, rfl, SqT.of hd, at0, sz (by show 2 ≤ 100000; decide), fun t1 ht1 => ⟨t1, _, rfl, .inr (SqT.of upd_same), rfl, rfl, _, rfl, itT rfl ⟨sz (by show 0 ≤ 100000; decide), fun pa hpa => ?_⟩⟩⟩
    exact q pa _ [] ((same_new ht1 _).trans (same_new hpa _)) upd_same trivial
  | ask g ts j =>
    refine itF rfl ⟨_, rfl, a, _, _, _, rfl, rfl, SqT.of hd, at0, sz (by show 2 ≤ 100000; decide), fun t1 ht1 => ⟨t1, _, rfl, .inr (SqT.of upd_same), rfl, rfl, _, rfl, itT rfl ⟨sz (by show 0 ≤ 100000; decide), fun pa hpa => ?_⟩⟩⟩
    exact q pa _ [] ((same_new ht1 _).trans (same_new hpa _)) upd_same trivial
  | tell x t p1 =>
    obtain ⟨b, c, h1, h2, h3⟩ := hA'
    refine itF rfl ⟨_, rfl, a, _, _, _, rfl, rfl, SqT.of h1, at0, sz (by show 2 ≤ 100000; decide), fun t1 ht1 => ⟨t1, _, rfl, .inr (SqT.of upd_same), rfl, rfl, _, rfl, itF rfl ?_⟩⟩
    have s0 := same_new ht1 (.tup [.str "give", .str "ask"])
    refine ⟨_, rfl, _, rfl, a, _, rfl, SqT.of (s0 _ _ h1), fun z => absurd z (not_whole (by decide) len3), fun _ pa hpa => ?_⟩
    have s1 := s0.trans (same_new hpa (.tup (cutV [.str "tell", .str x, .ref b, .ref c] (some 3) none)))
    exact q pa _ [.ref c] s1 (by rw [upd_same, cut3]) ⟨⟨c, rfl, PAt.tk (tk_same s1) h3⟩, trivial⟩
  | lett x t p1 =>
    obtain ⟨b, c, h1, h2, h3⟩ := hA'
    refine itF rfl ⟨_, rfl, a, _, _, _, rfl, rfl, SqT.of h1, at0, sz (by show 2 ≤ 100000; decide), fun t1 ht1 => ⟨t1, _, rfl, .inr (SqT.of upd_same), rfl, rfl, _, rfl, itF rfl ?_⟩⟩
    have s0 := same_new ht1 (.tup [.str "give", .str "ask"])
    refine ⟨_, rfl, _, rfl, a, _, rfl, SqT.of (s0 _ _ h1), fun z => absurd z (not_whole (by decide) len3), fun _ pa hpa => ?_⟩
    have s1 := s0.trans (same_new hpa (.tup (cutV [.str "let", .str x, .ref b, .ref c] (some 3) none)))
    exact q pa _ [.ref c] s1 (by rw [upd_same, cut3]) ⟨⟨c, rfl, PAt.tk (tk_same s1) h3⟩, trivial⟩
  | post j x p1 p2 =>
    obtain ⟨c, d, h1, h2, h3⟩ := hA'
    refine itF rfl ⟨_, rfl, a, _, _, _, rfl, rfl, SqT.of h1, at0, sz (by show 2 ≤ 100000; decide), fun t1 ht1 => ⟨t1, _, rfl, .inr (SqT.of upd_same), rfl, rfl, _, rfl, itF rfl ?_⟩⟩
    have s0 := same_new ht1 (.tup [.str "give", .str "ask"])
    refine ⟨_, rfl, _, rfl, a, _, rfl, SqT.of (s0 _ _ h1), fun z => absurd z (not_whole (by decide) len3), fun _ pa hpa => ?_⟩
    have s1 := s0.trans (same_new hpa (.tup (cutV [.str "post", .str j, .str x, .ref c, .ref d] (some 3) none)))
    exact q pa _ [.ref c, .ref d] s1 (by rw [upd_same, cut3]) ⟨⟨c, rfl, PAt.tk (tk_same s1) h2⟩, ⟨d, rfl, PAt.tk (tk_same s1) h3⟩, trivial⟩
/-! ### turned_parts -/
abbrev sturned_parts : Stmt := top 16
theorem scturned_parts : FnScope ["part"] ["part"] (defScope sturned_parts) := ⟨rfl, rfl, rfl, by decide +kernel, rfl, by decide +kernel, by decide +kernel⟩
theorem ok_tparts (hS : ∃ a, mg "SIMPLE_HEADS" = some (.ref a) ∧ ∀ H, SqT K H a heads) {f f1 f2 f3 : Addr} {fd d1 d2 d3 : FuncData} (F : Fun K "turned_parts" "turned_parts" sturned_parts f fd) (Gparts_of : FnOk P w K mg base CX0 1 f1 d1 ["term"] spParts) (Rparts_of : Ref K mg "parts_of" f1 d1 ["term"])
    (Gterms_in : FnOk P w K mg base CX0 1 f2 d2 ["part"] spTermsIn) (Rterms_in : Ref K mg "terms_in" f2 d2 ["part"]) (Grest_of : FnOk P w K mg base CX0 1 f3 d3 ["part"] (spKids TrP)) (Rrest_of : Ref K mg "rest_of" f3 d3 ["part"]) : FnOk P w K mg base CX0 2 f fd ["part"] (spKids TrN) := by
  refine F.ok scturned_parts (fun vs H Q E h => ?_) (fun cdv A outer s H vs Q E hr h => ?_)
  · obtain ⟨p, a, rfl, _⟩ := h
    rfl
  obtain ⟨n, a, rfl, hA, q⟩ := h
  obtain ⟨sh, msh, hsh⟩ := hS
  refine ⟨_, (pss_cons (ps_if (pt_cmpR op_in_seq (pe_ix ix_tup (pv 0) pe_int (fun _ _ => rfl)) (pe_glob (v := .ref sh) rfl msh rfl) rfl) (pss_one (ps_ret (pe_call Gparts_of (hr.mono (by omega)) rfl Rparts_of.m Rparts_of.k Rparts_of.b .nil pass0 (pa_cons (pv 0) pa_nil)))) pss_nil)
    (pss_one (ps_ret (pe_op op_catA (pe_call Gterms_in (hr.mono (by omega)) rfl Rterms_in.m Rterms_in.k Rterms_in.b .nil pass0 (pa_cons (pv 0) pa_nil)) (pe_call Grest_of (hr.mono (by omega)) rfl Rrest_of.m Rrest_of.k Rrest_of.b .nil pass0 (pa_cons (pv 0) pa_nil)))))), ?_⟩
  cases n with
  | inr t =>
    obtain ⟨hT, hsi⟩ := hA
    obtain ⟨h, n, k⟩ := t
    obtain ⟨ys, l, hk⟩ := hT
    obtain ⟨r, hd⟩ := l.head
    obtain ⟨e1, e2⟩ := simple_mk hsi
    refine ⟨_, rfl, a, _, _, _, rfl, rfl, SqT.of hd, at0, sh, _, rfl, .inr (hsh _), rfl, rfl, _, rfl, itT ?_ ⟨_, rfl, a, h, _, rfl, l, fun p H1 s1 h1 => ?_⟩⟩
    · show inV (.str (hs h)) heads = true
      rw [flat_in2, e1]
    · refine q p H1 _ s1 h1 ?_
      have z := all2_fn (k := k) (ys := ys) fun i => (hk i).mono s1
      refine All2.map (f := Sum.inr) (all2_mem z fun u hu v hv => ?_)
      obtain ⟨b, rfl, hb⟩ := hv
      obtain ⟨i, rfl⟩ := List.mem_ofFn.mp hu
      exact ⟨b, rfl, hb, e2 i⟩
  | inl p =>
    obtain ⟨hA', hk⟩ : PAt H p a ∧ kP p := hA
    obtain ⟨r, hd⟩ := hA'.head
    refine ⟨_, rfl, a, _, _, _, rfl, rfl, SqT.of hd, at0, sh, _, rfl, .inr (hsh _), rfl, rfl, _, rfl, itF ?_ ⟨_, rfl, a, p, rfl, hA', fun H1 b1 us1 s1 g1 k1 => ?_⟩⟩
    · show inV (.str (hsP p)) heads = false
      cases p <;> rfl
    · refine ⟨_, rfl, p, a, rfl, PAt.tk (tk_same s1) hA', fun b2 H2 us2 s2 g2 k2 => ?_⟩
      have z1 := k1.len
      have z2 := k2.len
      have l1 : (termsP p).length ≤ 4 := by
        cases p with
        | ask f ts j => exact hk.2.2.1
        | _ => show (_ : List Tm).length ≤ 4; simp [termsP]
      have l2 : (restP p).length ≤ 2 := by cases p <;> simp [restP]
      refine catA_of (s2 _ _ g1) g2 (by show us1.length + us2.length ≤ 100000; rw [z1, z2]; show (termsP p).length + (restP p).length ≤ 100000; omega) fun b3 H3 s3 g3 => ?_
      refine q b3 H3 _ ((s1.trans s2).trans s3) g3 ?_
      refine All2.app (All2.map (f := Sum.inr) (all2_mem k1 fun t ht v hv => ?_)) (All2.map (f := Sum.inl) (all2_mem k2 fun u hu v hv => ?_))
      · obtain ⟨b, e, hb⟩ := hv
        exact ⟨b, e, hb.mono (s2.trans s3), kP_terms hk t ht⟩
      · obtain ⟨b, e, hb⟩ := hv
        exact ⟨b, e, PAt.tk (tk_same s3) hb, kP_rest hk u hu⟩
/-! ### hand_of -/
end
end KB

namespace KB
open PySem L2 HT

/-! ### idle posts -/
def passed : Pt → Str → Bool
  | .give _ t, x => PyData.eqv (pd t) (.tuple [.str "name", .str x])
  | _, _ => false
def PlS (H : Hp) (x : Str × List Int) (v : V) : Prop := ∃ r, v = .ref r ∧ H r = some (.tup (.str x.1 :: x.2.map V.int))
theorem PlS.tk {H H' : Hp} (e : TK H H') {x : Str × List Int} {v : V} (h : PlS H x v) : PlS H' x v := let ⟨r, a, b⟩ := h; ⟨r, a, e _ _ b⟩
theorem STm.shaped {t : Tm} (h : STm t) : SeqAt.shaped (pd t) = true := shaped_of h.lay (Nat.le_trans h.dep (by decide))
theorem at3 {x y z u : V} {r : List V} : atI (x :: y :: z :: u :: r) 3 = some u := at_of (j := 3) rfl rfl
theorem at4 {x y z u t : V} {r : List V} : atI (x :: y :: z :: u :: t :: r) 4 = some t := at_of (j := 4) rfl rfl
section
variable {P : Program} {w : World} {K : PySem.W.Frag} {mg : Str → Option Value} {base : Heap}
/-! ### is_handed_to -/
/-! ### is_passed_on -/
/-! ### is_idle -/
/-! ### idle_places -/
end
end KB

namespace KB
open PySem L2 HT

/-! ### the law's own walks -/
def lkids : Pt → List (Int × Pt)
  | .give _ _ => []
  | .ask _ _ _ => []
  | .tell _ _ p => [(1, p)]
  | .lett _ _ p => [(1, p)]
  | .iff _ p q => [(1, p), (2, q)]
  | .post _ _ p q => [(0, p), (1, q)]
def allP : Pt → List (List Int × Pt)
  | .give j t => [([], .give j t)]
  | .ask f ts j => [([], .ask f ts j)]
  | .tell x t p => ([], .tell x t p) :: ((allP p).map (fun e => ((1 : Int) :: e.1, e.2)) ++ [])
  | .lett x t p => ([], .lett x t p) :: ((allP p).map (fun e => ((1 : Int) :: e.1, e.2)) ++ [])
  | .iff t p q => ([], .iff t p q) :: ((allP p).map (fun e => ((1 : Int) :: e.1, e.2)) ++ ((allP q).map (fun e => ((2 : Int) :: e.1, e.2)) ++ []))
  | .post j x p q => ([], .post j x p q) :: ((allP p).map (fun e => ((0 : Int) :: e.1, e.2)) ++ ((allP q).map (fun e => ((1 : Int) :: e.1, e.2)) ++ []))
def allK (ks : List (Int × Pt)) : List (List Int × Pt) := (ks.map fun k => (allP k.2).map fun e => (k.1 :: e.1, e.2)).flatten
theorem allP_mk (p : Pt) : allP p = ([], p) :: allK (lkids p) := by cases p <;> rfl
theorem pc_pos : ∀ p : Pt, 1 ≤ pcnt p := fun p => TrP.pos p
theorem allP_len : ∀ p : Pt, (allP p).length = pcnt p
  | .give j t => rfl
  | .ask f ts j => rfl
  | .tell x t p => by simp [allP, pcnt, allP_len p]; omega
  | .lett x t p => by simp [allP, pcnt, allP_len p]; omega
  | .iff t p q => by simp [allP, pcnt, allP_len p, allP_len q]; omega
  | .post j x p q => by simp [allP, pcnt, allP_len p, allP_len q]; omega
theorem lk_cnt {p : Pt} {k : Int × Pt} (h : k ∈ lkids p) : pcnt k.2 < pcnt p := by
  cases p with
  | give j t => cases h
  | ask f ts j => cases h
  | tell x t p => rw [List.mem_singleton.mp h]; show pcnt p < 1 + pcnt p; omega
  | lett x t p => rw [List.mem_singleton.mp h]; show pcnt p < 1 + pcnt p; omega
  | iff t p q =>
    rcases List.mem_cons.mp h with z | z
    · rw [z]; show pcnt p < 1 + pcnt p + pcnt q; omega
    · rw [List.mem_singleton.mp z]; show pcnt q < 1 + pcnt p + pcnt q; omega
  | post j x p q =>
    rcases List.mem_cons.mp h with z | z
    · rw [z]; show pcnt p < 1 + pcnt p + pcnt q; omega
    · rw [List.mem_singleton.mp z]; show pcnt q < 1 + pcnt p + pcnt q; omega
def kcnt (ks : List (Int × Pt)) : Nat := (ks.map fun k => pcnt k.2).sum
theorem kcnt_lk (p : Pt) : kcnt (lkids p) < pcnt p := by
  cases p <;> simp [kcnt, lkids, pcnt] <;> omega
theorem kcnt_take (ks : List (Int × Pt)) (i : Nat) : kcnt (ks.take i) ≤ kcnt ks := by
  have e : kcnt ks = kcnt (ks.take i) + kcnt (ks.drop i) := by
    unfold kcnt
    rw [← List.sum_append, ← List.map_append, List.take_append_drop]
  omega
theorem allK_len : ∀ ks : List (Int × Pt), (allK ks).length = kcnt ks
  | [] => rfl
  | k :: r => by
    show ((allP k.2).map (fun e => (k.1 :: e.1, e.2)) ++ allK r).length = pcnt k.2 + kcnt r
    rw [List.length_append, List.length_map, allP_len, allK_len r]
theorem allK_take {ks : List (Int × Pt)} {i : Nat} {k : Int × Pt} (h : ks[i]? = some k) : allK (ks.take (i + 1)) = allK (ks.take i) ++ (allP k.2).map fun e => (k.1 :: e.1, e.2) := by
  obtain ⟨hi, he⟩ := List.getElem?_eq_some_iff.mp h
  unfold allK
  rw [List.take_succ_eq_append_getElem hi, List.map_append, List.flatten_append, he]
  simp
/-- a part within, by its number -/
def KidV (H : Hp) (k : Int × Pt) (v : V) : Prop := ∃ q b, v = .ref q ∧ H q = some (.tup [.int k.1, .ref b]) ∧ PAt H k.2 b
theorem KidV.tk {H H' : Hp} (e : TK H H') {k : Int × Pt} {v : V} (h : KidV H k v) : KidV H' k v := let ⟨q, b, e1, h1, h2⟩ := h; ⟨q, b, e1, e _ _ h1, h2.tk e⟩
theorem EntV.deep {H : Hp} {pre : List V} {i : Int} {e : List Int × Pt} {v : V} (h : EntV PAt H (pre ++ [.int i]) e v) : EntV PAt H pre (i :: e.1, e.2) v := by
  obtain ⟨q, r, b, e1, h1, h2, h3⟩ := h
  refine ⟨q, r, b, e1, h1, ?_, h3⟩
  rw [h2, List.append_assoc]
  rfl
theorem EntV.tkP {H H' : Hp} (e : TK H H') {pre : List V} {kt : List Int × Pt} {v : V} (h : EntV PAt H pre kt v) : EntV PAt H' pre kt v := EntV.tk (fun t z => PAt.tk t z) e h
theorem hsP_ask {p : Pt} (h : hsP p = "ask") : ∃ f ts j, p = .ask f ts j := by
  cases p <;> dsimp only [hsP] at h <;> first | exact ⟨_, _, _, rfl⟩ | exact absurd h (by decide)
section
variable {P : Program} {w : World} {K : PySem.W.Frag} {mg : Str → Option Value} {base : Heap}
/-! ### _law_kids -/
def spLKids : Sp := fun vs H Q _ => ∃ (a : Addr) (p : Pt), vs = [.ref a] ∧ PAt H p a ∧ ∀ r H' us, H r = none → Same H H' → H' r = some (.lst us) → All2 (KidV H') (lkids p) us → Q (.ref r) H'
abbrev s_law_kids : Stmt := top 45
theorem scLkids : FnScope ["part"] ["part"] (defScope s_law_kids) := ⟨rfl, rfl, rfl, by decide +kernel, rfl, by decide +kernel, by decide +kernel⟩
theorem ok_lkids {f : Addr} {fd : FuncData} (F : Fun K "_law_kids" "_law_kids" s_law_kids f fd) : FnOk P w K mg base CX0 1 f fd ["part"] spLKids := by
  refine F.ok scLkids (fun vs H Q E h => ?_) (fun cdv A outer s H vs Q E hr h => ?_)
  · obtain ⟨a, p, rfl, _⟩ := h
    rfl
  obtain ⟨a, p, rfl, hA, q⟩ := h
  refine ⟨_, (pss_cons (ps_if (PW.pt (pw_or (pt_cmpR op_eq (pe_ix ix_tup (pv 0) pe_int (fun _ _ => rfl)) pe_str (nomark _)) (pw_or1 (pt_cmpR op_eq (pe_ix ix_tup (pv 0) pe_int (fun _ _ => rfl)) pe_str (nomark _))))) (pss_one (ps_ret (pe_lst pa_nil))) pss_nil)
    (pss_cons (ps_if (pt_cmpR op_eq (pe_ix ix_tup (pv 0) pe_int (fun _ _ => rfl)) pe_str (nomark _)) (pss_one (ps_ret (pe_lst (pa_cons (pe_tup (pa_cons pe_int (pa_cons (pe_ix ix_tup (pv 0) pe_int (fun _ _ => rfl)) pa_nil))) (pa_cons (pe_tup (pa_cons pe_int (pa_cons (pe_ix ix_tup (pv 0) pe_int (fun _ _ => rfl)) pa_nil))) pa_nil))))) pss_nil)
    (pss_cons (ps_if (pt_cmpR op_eq (pe_ix ix_tup (pv 0) pe_int (fun _ _ => rfl)) pe_str (nomark _)) (pss_one (ps_ret (pe_lst (pa_cons (pe_tup (pa_cons pe_int (pa_cons (pe_ix ix_tup (pv 0) pe_int (fun _ _ => rfl)) pa_nil))) (pa_cons (pe_tup (pa_cons pe_int (pa_cons (pe_ix ix_tup (pv 0) pe_int (fun _ _ => rfl)) pa_nil))) pa_nil))))) pss_nil)
    (pss_one (ps_ret (pe_lst (pa_cons (pe_tup (pa_cons pe_int (pa_cons (pe_ix ix_tup (pv 0) pe_int (fun _ _ => rfl)) pa_nil))) pa_nil))))))), ?_⟩
  obtain ⟨r0, hd⟩ := hA.head
  refine ⟨_, rfl, a, _, _, _, rfl, rfl, SqT.of hd, at0, rfl, _, rfl, ?_⟩
  cases p with
  | give j t => exact itT rfl (itT rfl ⟨sz (by show 0 ≤ 100000; decide), fun r hr => q r _ [] hr (same_new hr _) upd_same trivial⟩)
  | ask g ts j => exact itF rfl ⟨_, rfl, a, _, _, _, rfl, rfl, SqT.of hd, at0, rfl, _, rfl, itT rfl ⟨sz (by show 0 ≤ 100000; decide), fun r hr => q r _ [] hr (same_new hr _) upd_same trivial⟩⟩
  | post j x p p2 =>
    obtain ⟨c, d, h1, h2, h3⟩ := hA
    refine itF rfl ⟨_, rfl, a, _, _, _, rfl, rfl, SqT.of h1, at0, rfl, _, rfl, itF rfl ⟨_, rfl, a, _, _, _, rfl, rfl, SqT.of h1, at0, rfl, _, rfl, itT rfl ?_⟩⟩
    refine ⟨_, rfl, a, _, _, _, rfl, rfl, SqT.of h1, at3, sz (by show 2 ≤ 100000; decide), fun t1 ht1 => ?_⟩
    have s1 := same_new ht1 (.tup [.int 0, .ref c])
    refine ⟨_, rfl, a, _, _, _, rfl, rfl, SqT.of (s1 _ _ h1), at4, sz (by show 2 ≤ 100000; decide), fun t2 ht2 => ?_⟩
    have s2 := same_new ht2 (.tup [.int 1, .ref d])
    refine ⟨sz (by show 2 ≤ 100000; decide), fun r hr => ?_⟩
    have s3 := same_new hr (.lst [.ref t1, .ref t2])
    have s := s1.trans (s2.trans s3)
    exact q r _ _ ((s1.trans s2).free hr) s upd_same ⟨⟨t1, c, rfl, (s2.trans s3) _ _ upd_same, h2.tk (tk_same s)⟩, ⟨t2, d, rfl, s3 _ _ upd_same, h3.tk (tk_same s)⟩, trivial⟩
  | iff t p p2 =>
    obtain ⟨b, c, d, h1, h2, h3, h4⟩ := hA
    refine itF rfl ⟨_, rfl, a, _, _, _, rfl, rfl, SqT.of h1, at0, rfl, _, rfl, itF rfl ⟨_, rfl, a, _, _, _, rfl, rfl, SqT.of h1, at0, rfl, _, rfl, itF rfl ⟨_, rfl, a, _, _, _, rfl, rfl, SqT.of h1, at0, rfl, _, rfl, itT rfl ?_⟩⟩⟩
    refine ⟨_, rfl, a, _, _, _, rfl, rfl, SqT.of h1, at2, sz (by show 2 ≤ 100000; decide), fun t1 ht1 => ?_⟩
    have s1 := same_new ht1 (.tup [.int 1, .ref c])
    refine ⟨_, rfl, a, _, _, _, rfl, rfl, SqT.of (s1 _ _ h1), at3, sz (by show 2 ≤ 100000; decide), fun t2 ht2 => ?_⟩
    have s2 := same_new ht2 (.tup [.int 2, .ref d])
    refine ⟨sz (by show 2 ≤ 100000; decide), fun r hr => ?_⟩
    have s3 := same_new hr (.lst [.ref t1, .ref t2])
    have s := s1.trans (s2.trans s3)
    exact q r _ _ ((s1.trans s2).free hr) s upd_same ⟨⟨t1, c, rfl, (s2.trans s3) _ _ upd_same, h3.tk (tk_same s)⟩, ⟨t2, d, rfl, s3 _ _ upd_same, h4.tk (tk_same s)⟩, trivial⟩
  | tell x t p =>
    obtain ⟨b, c, h1, h2, h3⟩ := hA
    refine itF rfl ⟨_, rfl, a, _, _, _, rfl, rfl, SqT.of h1, at0, rfl, _, rfl, itF rfl ⟨_, rfl, a, _, _, _, rfl, rfl, SqT.of h1, at0, rfl, _, rfl, itF rfl ⟨_, rfl, a, _, _, _, rfl, rfl, SqT.of h1, at0, rfl, _, rfl, itF rfl ?_⟩⟩⟩
    refine ⟨_, rfl, a, _, _, _, rfl, rfl, SqT.of h1, at3, sz (by show 2 ≤ 100000; decide), fun t1 ht1 => ?_⟩
    have s1 := same_new ht1 (.tup [.int 1, .ref c])
    refine ⟨sz (by show 1 ≤ 100000; decide), fun r hr => ?_⟩
    have s3 := same_new hr (.lst [.ref t1])
    exact q r _ _ (s1.free hr) (s1.trans s3) upd_same ⟨⟨t1, c, rfl, s3 _ _ upd_same, h3.tk (tk_same (s1.trans s3))⟩, trivial⟩
  | lett x t p =>
    obtain ⟨b, c, h1, h2, h3⟩ := hA
    refine itF rfl ⟨_, rfl, a, _, _, _, rfl, rfl, SqT.of h1, at0, rfl, _, rfl, itF rfl ⟨_, rfl, a, _, _, _, rfl, rfl, SqT.of h1, at0, rfl, _, rfl, itF rfl ⟨_, rfl, a, _, _, _, rfl, rfl, SqT.of h1, at0, rfl, _, rfl, itF rfl ?_⟩⟩⟩
    refine ⟨_, rfl, a, _, _, _, rfl, rfl, SqT.of h1, at3, sz (by show 2 ≤ 100000; decide), fun t1 ht1 => ?_⟩
    have s1 := same_new ht1 (.tup [.int 1, .ref c])
    refine ⟨sz (by show 1 ≤ 100000; decide), fun r hr => ?_⟩
    have s3 := same_new hr (.lst [.ref t1])
    exact q r _ _ (s1.free hr) (s1.trans s3) upd_same ⟨⟨t1, c, rfl, s3 _ _ upd_same, h3.tk (tk_same (s1.trans s3))⟩, trivial⟩
/-! ### _law_all -/
def spLAll : Nat → Sp
  | 0 => fun _ _ _ _ => False
  | n + 1 => fun vs H Q _ => ∃ (a pl : Addr) (p : Pt) (pre : List V), vs = [.ref a, .ref pl] ∧ PAt H p a ∧ pcnt p ≤ n + 1 ∧ pcnt p ≤ 1000 ∧ H pl = some (.tup pre) ∧ pre.length + n ≤ 2000 ∧ ∀ r H' us, H r = none → Same H H' → H' r = some (.lst us) → All2 (EntV PAt H' pre) (allP p) us → Q (.ref r) H'
abbrev s_law_all : Stmt := top 46
theorem scLall : FnScope ["part", "place", "found", "number", "one"] ["part", "place"] (defScope s_law_all) := ⟨rfl, rfl, rfl, by decide +kernel, rfl, by decide +kernel, by decide +kernel⟩
theorem ok_lall (n : Nat) {f f1 : Addr} {fd d1 : FuncData} (F : Fun K "_law_all" "_law_all" s_law_all f fd) (G_law_kids : FnOk P w K mg base CX0 1 f1 d1 ["part"] spLKids) (R_law_kids : Ref K mg "_law_kids" f1 d1 ["part"])
    (G_law_all : FnOk P w K mg base CX0 (n + 1) f fd ["part", "place"] (spLAll n)) (R_law_all : Ref K mg "_law_all" f fd ["part", "place"]) : FnOk P w K mg base CX0 (n + 2) f fd ["part", "place"] (spLAll (n + 1)) := by
  refine F.ok scLall (fun vs H Q E h => ?_) (fun cdv A outer s H vs Q E hr h => ?_)
  · obtain ⟨a, pl, p, pre, rfl, _⟩ := h
    rfl
  obtain ⟨a, pl, p, pre, rfl, hA, hn, hk, hpl, hpr, q⟩ := h
  refine ⟨_, (pss_cons (ps_set (i := 2) scLall.nd rfl (Or.inl rfl) (pe_lst (pa_cons (pe_tup (pa_cons (pv 1) (pa_cons (pv 0) pa_nil))) pa_nil)))
    (pss_cons (ps_for PassesOwn.never rfl (pi_list (pe_call G_law_kids (hr.mono (by omega)) rfl R_law_kids.m R_law_kids.k R_law_kids.b .nil pass0 (pa_cons (pv 0) pa_nil))) (pg_tup rfl (pgs_cons (pg_name (i := 3) scLall.nd rfl (Or.inl rfl)) (pgs_cons (pg_name (i := 4) scLall.nd rfl (Or.inl rfl)) pgs_nil))) (pss_one (ps_set (i := 2) scLall.nd rfl (Or.inl rfl) (pe_op op_cat (pv 2) (pe_call G_law_all (hr.mono (by omega)) rfl R_law_all.m R_law_all.k R_law_all.b .nil pass0 (pa_cons (pv 4) (pa_cons (pe_op op_catA (pv 1) (pe_tup (pa_cons (pv 3) pa_nil))) pa_nil)))))))
    (pss_one (ps_ret (pv 2))))), ?_⟩
  refine ⟨_, rfl, _, rfl, sz (by show 2 ≤ 100000; decide), fun t0 ht0 => ?_⟩
  have s1 := same_new ht0 (.tup [.ref pl, .ref a])
  refine ⟨sz (by show 1 ≤ 100000; decide), fun fl0 hfl0 => ?_⟩
  have s2 := same_new hfl0 (.lst [.ref t0])
  have s12 := s1.trans s2
  refine ⟨_, rfl, a, p, rfl, hA.tk (tk_same s12), fun kl H1 ks hkl s3 hk1 kk1 => ?_⟩
  have s13 := s12.trans s3
  have hlk := kk1.len
  refine ⟨kl, rfl, ⟨_, SqL.of hk1⟩, for_list (K := K) (a := kl) (xs := ks) (fun i σ H' => ∃ fl fv o3 o4, σ = [some (.ref a), some (.ref pl), some (.ref fl), o3, o4] ∧ H fl = none ∧ Same H1 H' ∧ H' fl = some (.lst fv) ∧ All2 (EntV PAt H' pre) (([], p) :: allK ((lkids p).take i)) fv) ?_ ?_ ?_ ?_⟩
  · refine ⟨fl0, [.ref t0], none, none, rfl, s1.free hfl0, Same.refl _, s3 _ _ upd_same, ?_⟩
    rw [List.take_zero]
    refine ⟨⟨t0, pl, a, rfl, s3 _ _ (s2 _ _ upd_same), ?_, hA.tk (tk_same s13)⟩, trivial⟩
    rw [List.map_nil, List.append_nil]
    exact s13 _ _ hpl
  · rintro i σ H' _ ⟨fl, fv, o3, o4, rfl, _, s4, _⟩
    exact SqL.of (s4 _ _ hk1)
  · rintro i x σ H2 hx ⟨fl, fv, o3, o4, rfl, hf0, s4, hf, kf⟩
    obtain ⟨k, hk', qa, b, rfl, g1, g2⟩ := kk1.get hx
    have hkm := mem_of_get hk'
    have hkc := lk_cnt hkm
    refine ⟨qa, _, rfl, SqT.of (s4 _ _ g1), rfl, _, _, rfl, _, _, rfl, rfl, ?_⟩
    have sH2 := s13.trans s4
    refine ⟨_, rfl, _, rfl, _, rfl, _, rfl, sz (by show 1 ≤ 100000; decide), fun t1 ht1 => ?_⟩
    have s5 := same_new ht1 (.tup [.int k.1])
    refine catA_of (s5 _ _ (sH2 _ _ hpl)) upd_same (by show pre.length + 1 ≤ 100000; omega) fun t2 H3 s6 g3 => ?_
    have s56 := s5.trans s6
    cases n with
    | zero => have := pc_pos k.2; omega
    | succ n =>
      refine ⟨b, t2, k.2, _, rfl, (g2.tk (tk_same s4)).tk (tk_same s56), by omega, by omega, g3, by rw [List.length_append, List.length_singleton]; omega, fun r H4 us hr4 s7 g4 k4 => ?_⟩
      have s57 := s56.trans s7
      have e1 := kf.len
      have e2 := k4.len
      rw [allP_len] at e2
      have e3 : (([], p) :: allK ((lkids p).take i)).length ≤ 1000 := by
        rw [List.length_cons, allK_len]
        have := kcnt_take (lkids p) i
        have := kcnt_lk p
        omega
      refine ⟨fl, r, _, _, rfl, rfl, s57 _ _ hf, g4, sz (by omega), fun p5 hp5 => ?_⟩
      have s8 := same_new hp5 (.lst (fv ++ us))
      refine ⟨p5, fv ++ us, _, _, rfl, ?_, s4.trans (s57.trans s8), upd_same, ?_⟩
      · exact (sH2.trans s57).free hp5
      · rw [allK_take hk']
        exact All2.app (as := ([], p) :: allK ((lkids p).take i)) (kf.imp fun _ _ z => EntV.tkP (tk_same (s57.trans s8)) z) (All2.map (f := fun (e : List Int × Pt) => (k.1 :: e.1, e.2)) (k4.imp fun _ _ z => EntV.tkP (tk_same s8) (EntV.deep z)))
  · rintro σ H2 ⟨fl, fv, o3, o4, rfl, hf0, s4, hf, kf⟩
    refine ⟨_, rfl, ?_⟩
    rw [hlk, List.take_length, ← allP_mk] at kf
    exact q fl H2 fv hf0 (s13.trans s4) hf kf
theorem all_lall {f f1 : Addr} {fd d1 : FuncData} (F : Fun K "_law_all" "_law_all" s_law_all f fd) (G_law_kids : FnOk P w K mg base CX0 1 f1 d1 ["part"] spLKids) (R_law_kids : Ref K mg "_law_kids" f1 d1 ["part"]) (R_law_all : Ref K mg "_law_all" f fd ["part", "place"]) : ∀ n : Nat, FnOk P w K mg base CX0 (n + 1) f fd ["part", "place"] (spLAll n)
  | 0 => no_sp
  | n + 1 => ok_lall n F G_law_kids R_law_kids (all_lall F G_law_kids R_law_kids R_law_all n) R_law_all
/-! ### _law_ends -/
/-! ### _law_is_idle -/
/-! ### _law_all_of -/
end
end KB

namespace KB
open PySem L2 HT

def kidsT : Tm → List Tm | .mk _ _ k => List.ofFn k
def hdT : Tm → Hd | .mk h _ _ => h
theorem all2_fnR {H : Hp} : ∀ {n : Nat} {k : _root_.Fin n → Tm} {ys : _root_.Fin n → Addr}, (∀ i, At H (k i) (ys i)) → All2 (RefV H) (List.ofFn k) (Rfs ys)
  | 0, _, _, _ => trivial
  | n + 1, k, ys, h => by
    unfold Rfs
    rw [List.ofFn_succ, List.ofFn_succ]
    exact ⟨⟨ys 0, rfl, h 0⟩, all2_fnR (k := fun i => k i.succ) (ys := fun i => ys i.succ) fun i => h i.succ⟩
theorem At.kids {H : Hp} {t : Tm} {a : Addr} (h : At H t a) : ∃ xs, Lay H a (hdT t) xs ∧ All2 (RefV H) (kidsT t) xs := by
  cases t with
  | mk hd n k =>
    obtain ⟨ys, l, r⟩ := h
    exact ⟨Rfs ys, l, all2_fnR r⟩
section
variable {P : Program} {w : World} {K : PySem.W.Frag} {mg : Str → Option Value} {base : Heap}
/-! ### last_taken -/
end
end KB

namespace KB
open PySem PySem.Spec PyProof.Rows L2 LamX NdefX

/-! ### what stays where tables of code objects may grow -/
def Sx (H H' : Hp) : Prop := ExtN H H' ∧ ∀ b, H' b = none → H b = none
theorem Sx.refl (H : Hp) : Sx H H := ⟨ExtN.refl H, fun _ z => z⟩
theorem Sx.trans {H H1 H2 : Hp} (a : Sx H H1) (b : Sx H1 H2) : Sx H H2 := ⟨a.1.trans b.1, fun x z => a.2 x (b.2 x z)⟩
theorem Sx.free {H H' : Hp} (s : Sx H H') {b : Addr} (z : H' b = none) : H b = none := s.2 b z
theorem Sx.at_ {H H' : Hp} (s : Sx H H') {b : Addr} {o : HO} (h : H b = some o) (n : ∀ ps, o ≠ .tbl ps) : H' b = some o := s.1 b o h n
theorem Sx.t {H H' : Hp} (s : Sx H H') {b : Addr} {xs : List V} (h : H b = some (.tup xs)) : H' b = some (.tup xs) := s.1 b _ h fun _ z => nomatch z
theorem Sx.l {H H' : Hp} (s : Sx H H') {b : Addr} {xs : List V} (h : H b = some (.lst xs)) : H' b = some (.lst xs) := s.1 b _ h fun _ z => nomatch z
theorem Sx.d {H H' : Hp} (s : Sx H H') {b : Addr} {kvs : List (Key × V)} (h : H b = some (.dK kvs)) : H' b = some (.dK kvs) := s.1 b _ h fun _ z => nomatch z
theorem Sx.tk {H H' : Hp} (s : Sx H H') : TK H H' := fun _ _ h => s.t h
theorem Sx.code {H H' : Hp} (s : Sx H H') {c : Addr} {q : Str} (h : H c = some (CodeO c q)) : H' c = some (CodeO c q) := s.1 c _ h codeO_ne
theorem sx_same {H H' : Hp} (s : Same H H') : Sx H H' := ⟨fun b o h _ => s b o h, fun b z => s.free z⟩
theorem tabs_new {T : List (Addr × Str)} {H H' : Hp} (t : Tabs T H) (s : Same H H') : Tabs T H' := t.ext fun b o h => s b o h
/-- nothing that is a table is written -/
theorem tabs_mut {T : List (Addr × Str)} {H : Hp} (t : Tabs T H) {a : Addr} {xs : List V} (h : H a = some (.lst xs)) (o : HO) : Tabs T (upd H a o) := fun p hp => by
  obtain ⟨ps, h1, h2, h3⟩ := t p hp
  refine ⟨ps, by rw [upd_ne (ne_of h1 h (fun z => nomatch z))]; exact h1, h2, fun pos cv hc => ?_⟩
  obtain ⟨c, e1, e2⟩ := h3 pos cv hc
  refine ⟨c, e1, ?_⟩
  rw [upd_ne (ne_of e2 h (fun z => by unfold CodeO at z; cases z))]
  exact e2
/-! ### a lambda with parameters -/
/-- its words, the cells that it captured, its code object -/
structure LF where
  qual : Str
  pr : Arguments
  bd : Expr
  sc : Scope
  cl : List (Str × Addr)
  c : Addr
abbrev LF.obj (F : LF) (pm ctv : Value) : Obj := PySem.W.kla_obj "<lambda>" F.qual F.pr F.bd F.sc F.cl pm F.c ctv
def LamO (f : Addr) (F : LF) : HO := .ext fun h => ∃ pm ctv : Value, h.get? f = some (F.obj pm ctv)
theorem lamO_ne {f : Addr} {F : LF} (ps : Array Value) : LamO f F ≠ .tbl ps := fun z => by
  unfold LamO at z
  cases z
/-- what is known of a lambda at f -/
def Kn (f : Addr) (F : LF) (H : Hp) : Prop := H f = some (LamO f F) ∧ H F.c = some (CodeO F.c F.qual)
theorem Kn.sx {f : Addr} {F : LF} {H H' : Hp} (s : Sx H H') (k : Kn f F H) : Kn f F H' := ⟨s.1 f _ k.1 lamO_ne, s.code k.2⟩
section
variable {X : Cx} {pins : List (Addr × Obj)} {σ : L2.St} {H : Hp} {s : Shared}
end
section
variable {X : Cx} {pins : List (Addr × Obj)} {σ : L2.St} {H : Hp} {s : Shared}
end
/-! ### a parameter that holds a lambda, called -/
/-! ### a def that is handed a lambda -/
end KB

namespace KB
open PySem L2 HT

theorem All2.take {α : Type} {S : α → V → Prop} : ∀ {as : List α} {vs : List V} (n : Nat), All2 S as vs → All2 S (as.take n) (vs.take n)
  | _, _, 0, _ => trivial
  | [], [], _ + 1, _ => trivial
  | a :: as, v :: vs, n + 1, h => ⟨h.1, All2.take n h.2⟩
  | [], _ :: _, _ + 1, h => h.elim
  | _ :: _, [], _ + 1, h => h.elim
/-! ### remade as a machine of data -/
section
variable {N B : Type} (R : Tre N) (g : N → List B → B) (F : N → B)
end
section
variable {P : Program} {w : World} {K : PySem.W.Frag} {mg : Str → Option Value} {base : Heap} {N B : Type}
def WtV (R : Tre N) (H : Hp) (e : N × Bool) (v : V) : Prop := ∃ q a, v = .ref q ∧ H q = some (.tup [.ref a, .bl e.2]) ∧ R.A H e.1 a
theorem WtV.tk {R : Tre N} {H H' : Hp} (k : TK H H') {e : N × Bool} {v : V} (h : WtV R H e v) : WtV R H' e v := let ⟨q, a, e1, h1, h2⟩ := h; ⟨q, a, e1, k _ _ h1, R.tk k h2⟩
end
end KB

namespace KB
open PySem L2 HT
open PySem.Sem (wp)
open RZ (nextOf_tuple_item nextOf_tuple_end)

/-! ### dict(zip(xs, ys)) of two tuples: the pair that was given out stands still -/
section
variable {prog : Program} {w : World} {A : Around} {E : Value → Shared → Prop} {s : Shared}
structure ZT (h : Heap) (z TI i1 i2 l1 l2 : Addr) (xs ys : Array Value) (k : Nat) : Prop where
  pr : IsPair h TI (.ref i1) (.ref i2)
  a1 : h.IsTupleIter i1 l1 k
  a2 : h.IsTupleIter i2 l2 k
  t1 : h.IsTuple l1 xs
  t2 : h.IsTuple l2 ys
theorem ZT.at {h h' : Heap} {z TI i1 i2 l1 l2 : Addr} {xs ys : Array Value} {k : Nat} (x : ZT h z TI i1 i2 l1 l2 xs ys k) (e : ∀ c, c = TI ∨ c = i1 ∨ c = i2 ∨ c = l1 ∨ c = l2 → ∀ o, h.get? c = some o → h'.get? c = some o) :
    ZT h' z TI i1 i2 l1 l2 xs ys k :=
  ⟨e _ (by simp) _ x.pr, x.a1.at fun o => e _ (by simp) o, x.a2.at fun o => e _ (by simp) o, x.t1.at fun o => e _ (by simp) o, x.t2.at fun o => e _ (by simp) o⟩
end
end KB

namespace KB
open PySem PySem.Spec PyProof.Rows L2 LamX

/-! ### the end of a law that writes out and makes lambdas: tables of code objects, and no repr under way -/
section
variable {P : Program} {w : World} {K : PySem.W.Frag} {mg mb : Str → Option Value} {k : Nat} {fa a : Addr} {cs : List (Addr × Addr)} {fd : FuncData} {x : Str} {sp : Sp} {s : Shared} {vs : List Value} {ns : List Int}
/-- what the head knows of the tables -/
structure HeadT (K : PySem.W.Frag) (mg : Str → Option Value) (h : Heap) (cs : List (Addr × Addr)) : Prop where
  empty : ∀ p ∈ cs, h.get? p.2 = some { cls := .none, data := .fields #[] }
  own : ∀ p ∈ cs, K.lookup p.2 = none
  code : ∀ p ∈ cs, PySem.W.CodeHd h p.1 p.2
  blt : ∃ (bm : Addr) (ob : Obj), mg "__builtins__" = some (.ref bm) ∧ bm ≠ builtinsNs ∧ h.get? bm = some ob ∧ ob.cls = .type "module" ∧ ob.dict = some builtinsNs ∧ ob.data = .plain
theorem HeadT.at_ {h : Heap} (T : HeadT K mg h cs) {b : Addr} (m : b ∈ cs.map (·.2)) : h.get? b = some { cls := .none, data := .fields #[] } ∧ K.lookup b = none := by
  obtain ⟨p, hp, rfl⟩ := List.mem_map.mp m
  exact ⟨T.empty p hp, T.own p hp⟩
end
end KB

namespace KB
open PySem L2

/-! ### the number of a simple term -/
abbrev Env := Str → Option Int
def evH (env : Env) : Hd → List Int → Int
  | .num z, _ => z
  | .nam x, _ => (env x).getD 0
  | .plus, l => Int.fmod (l.getD 0 0 + l.getD 1 0) 1000
  | .less, l => Int.fmod (l.getD 0 0 - l.getD 1 0) 1000
  | _, _ => 0
def evS (env : Env) : Tm → Int
  | .mk h _ k => evH env h (List.ofFn fun i => evS env (k i))
/-- each name of a simple term has its number -/
def hasN (env : Env) : Tm → Prop
  | .mk h _ k => (match h with | .nam x => ∃ z, env x = some z | _ => True) ∧ ∀ i, hasN env (k i)
section
variable {P : Program} {w : World} {K : PySem.W.Frag} {mg : Str → Option Value} {base : Heap}
end
end KB

namespace KB
open PySem L2

/-! ### what a run wants of parts -/
/-- simple, its names within these -/
structure RTm (xs : List Str) (t : Tm) : Prop where
  ok : okT t
  si : simple t = true
  n : ∀ env : Env, (∀ x ∈ xs, ∃ z, env x = some z) → hasN env t
  cn : cnt t ≤ 200
  ht : HtLe 64 t
def rP (hd : Str → Option Nat) : Pt → List Str → List Str → Prop
  | .give j t, xs, hs => j ∈ hs ∧ RTm xs t
  | .ask f ts j, xs, hs => j ∈ hs ∧ isW f = true ∧ hd f = some ts.length ∧ ts.length ≤ 4 ∧ ∀ t ∈ ts, RTm xs t
  | .tell x t p, xs, hs => isW x = true ∧ RTm xs t ∧ rP hd p (xs ++ [x]) hs
  | .lett x t p, xs, hs => isW x = true ∧ RTm xs t ∧ rP hd p (xs ++ [x]) hs
  | .iff t p q, xs, hs => RTm xs t ∧ rP hd p xs hs ∧ rP hd q xs hs
  | .post j x p q, xs, hs => isW j = true ∧ isW x = true ∧ rP hd p (xs ++ [x]) hs ∧ rP hd q xs (hs ++ [j])
structure RTE (hF : Str → Option Nat) (e : TEr) : Prop where
  w : isW e.1 = true
  ws : ∀ x ∈ e.2.1, isW x = true
  n4 : e.2.1.length ≤ 5
  ok : rP hF e.2.2 e.2.1 ["home"]
  cn : pcnt e.2.2 ≤ 900
  hf : hF e.1 = some e.2.1.length
  nd : e.2.1.Nodup
theorem hasN_of {hd : Str → Option Nat} {env : Env} : ∀ {t : Tm} {xs : List Str}, simple t = true → okS hd t xs → (∀ x ∈ xs, ∃ z, env x = some z) → hasN env t := by
  intro t
  induction t with
  | mk h n k ih =>
    intro xs hs ho he
    obtain ⟨hf, hk⟩ := simple_mk hs
    obtain ⟨o1, o2⟩ := ho
    refine ⟨?_, fun i => ih i (hk i) ?_ he⟩
    · cases h with
      | nam x => exact he x o1
      | _ => exact trivial
    · have e := o2 i
      cases h with
      | lett x => exact absurd hf Bool.false_ne_true
      | _ => exact e
theorem SmT.rtm {hd : Str → Option Nat} {xs : List Str} {t : Tm} (h : SmT hd xs t) : RTm xs t := ⟨h.ok, h.si, fun env he => hasN_of h.si h.sc he, Nat.le_trans h.cn (by decide), h.ht.le (by decide)⟩
theorem rP_of {hd : Str → Option Nat} : ∀ {p : Pt} {xs js : List Str}, okP hd p xs js → rP hd p xs js
  | .give _ _, _, _, h => ⟨h.1, h.2.rtm⟩
  | .ask _ _ _, _, _, h => ⟨h.1, h.2.1, h.2.2.1, h.2.2.2.1, fun t ht => (h.2.2.2.2 t ht).rtm⟩
  | .tell _ _ _, _, _, h => ⟨h.1, h.2.1.rtm, rP_of h.2.2⟩
  | .lett _ _ _, _, _, h => ⟨h.1, h.2.1.rtm, rP_of h.2.2⟩
  | .iff _ _ _, _, _, h => ⟨h.1.rtm, rP_of h.2.1, rP_of h.2.2⟩
  | .post _ _ _ _, _, _, h => ⟨h.1, h.2.1, rP_of h.2.2.1, rP_of h.2.2.2⟩
theorem GdTE.rt {hd : Str → Option Nat} {e : TEr} (g : GdTE hd e) : RTE hd e := ⟨g.w, g.ws, Nat.le_trans g.n4 (by decide), rP_of g.ok, Nat.le_trans g.cn (by decide), g.hf, (List.nodup_append.mp g.un).1⟩

/-! ### a turned run as a machine of data; wt and lim are for its end alone -/
inductive Ev | ask (f : Str) (ns : List Int) | tell (z : Int)
inductive Fe | no | done (z : Int) | long
/-- a hand-on that was made: its word, T, what was around it (hand-ons by number, 0 the end), how high it is -/
structure HR where
  x : Str
  T : Pt
  env : Env
  hs : Str → Option Nat
  h : Int
  wt : Nat
structure CT where
  most : Nat
  asked : Nat
  trail : List Ev
  fin : Fe
  deepest : Int
  made : Int
  part : Pt
  env : Env
  hs : Str → Option Nat
  tab : List HR
  lim : Nat
def setE (env : Env) (x : Str) (z : Int) : Env := fun y => if y = x then some z else env y
def setH (hs : Str → Option Nat) (j : Str) (i : Nat) : Str → Option Nat := fun y => if y = j then some i else hs y
def envOf : List Str → List Int → Env
  | x :: xs, n :: ns => fun y => if y = x then some n else envOf xs ns y
  | _, _ => fun _ => none
def wtAt (tab : List HR) : Nat → Nat
  | 0 => 0
  | k + 1 => (tab[k]?.map (·.wt)).getD 0
def hiAt (tab : List HR) : Nat → Int
  | 0 => 0
  | k + 1 => (tab[k]?.map (·.h)).getD 0
def hAt (hs : Str → Option Nat) (j : Str) : Nat := (hs j).getD 0
def askT (es : List TEr) (c : CT) (f : Str) (ns : List Int) (i : Nat) : CT :=
  if c.asked = c.most then { c with fin := .long } else
  match es.find? (fun e => decide (e.1 = f)) with
  | none => c
  | some e => { c with asked := c.asked + 1, trail := c.trail ++ [.ask f ns], deepest := max c.deepest (hiAt c.tab i), part := e.2.2, env := envOf e.2.1 ns, hs := fun y => if y = "home" then some i else none }
def stepT (es : List TEr) (c : CT) : CT :=
  match c.part with
  | .give j t =>
    match hAt c.hs j with
    | 0 => { c with fin := .done (evS c.env t) }
    | k + 1 =>
      match c.tab[k]? with
      | none => c
      | some r => { c with part := r.T, env := setE r.env r.x (evS c.env t), hs := r.hs, lim := r.wt - pcnt r.T }
  | .ask f ts j => askT es c f (ts.map (evS c.env)) (hAt c.hs j)
  | .tell x t p => { c with trail := c.trail ++ [.tell (evS c.env t)], env := setE c.env x (evS c.env t), part := p }
  | .lett x t p => { c with env := setE c.env x (evS c.env t), part := p }
  | .iff t p q => { c with part := if evS c.env t = 0 then q else p }
  | .post j x p q => { c with made := c.made + 1, tab := c.tab ++ [⟨x, p, c.env, c.hs, hiAt c.tab (hAt c.hs "home") + 1, pcnt p + c.lim⟩], hs := setH c.hs j (c.tab.length + 1), part := q, lim := pcnt p + c.lim }

/-! ### what holds all along -/
def fU : Fe → Nat
  | .no => 1
  | _ => 0
def muB (B : Nat) (c : CT) : Nat := (c.most - c.asked) * B + (pcnt c.part + c.lim) + fU c.fin
def muT (c : CT) : Nat := muB 1000 c
theorem pcnt_pos (p : Pt) : 1 ≤ pcnt p := by
  cases p <;> unfold pcnt <;> omega
/-- words and hand-ons are around, up to so many hand-ons -/
structure InE (hd : Str → Option Nat) (tab : List HR) (n : Nat) (p : Pt) (env : Env) (hs : Str → Option Nat) (xs js : List Str) (lim : Nat) : Prop where
  ok : rP hd p xs js
  e : ∀ x ∈ xs, ∃ z, env x = some z
  h : ∀ j ∈ js, ∃ i, hs j = some i
  b : ∀ j i, hs j = some i → i ≤ n ∧ wtAt tab i ≤ lim
  m : ("home" : Str) ∈ js
structure RecOk (hd : Str → Option Nat) (tab : List HR) (k : Nat) (r : HR) : Prop where
  sc : ∃ xs js, InE hd tab k r.T (setE r.env r.x 0) r.hs (xs ++ [r.x]) js (r.wt - pcnt r.T)
  w : pcnt r.T ≤ r.wt
structure WfT (es : List TEr) (hd : Str → Option Nat) (c : CT) : Prop where
  go : c.fin = .no
  as_ : c.asked ≤ c.most
  at_ : ∃ xs js, InE hd c.tab c.tab.length c.part c.env c.hs xs js c.lim
  tb : ∀ (k : Nat) (r : HR), c.tab[k]? = some r → RecOk hd c.tab k r
structure TEsOk (es : List TEr) (hd : Str → Option Nat) : Prop where
  er : ∀ e ∈ es, RTE hd e
  dom : ∀ f n, hd f = some n → f ∈ es.map (·.1)
theorem TEsOk.found {es : List TEr} {hd : Str → Option Nat} (E : TEsOk es hd) {f : Str} {n : Nat} (h : hd f = some n) : ∃ e, es.find? (fun e => decide (e.1 = f)) = some e ∧ e ∈ es ∧ e.1 = f ∧ e.2.1.length = n := by
  obtain ⟨e0, h0, h1⟩ := List.mem_map.mp (E.dom f n h)
  cases hf : es.find? (fun e => decide (e.1 = f)) with
  | none => exact absurd (decide_eq_true h1) (List.find?_eq_none.mp hf e0 h0)
  | some e =>
    have hm := List.mem_of_find?_eq_some hf
    have he : e.1 = f := of_decide_eq_true (List.find?_some (p := fun e : TEr => decide (e.1 = f)) hf)
    have g := (E.er e hm).hf
    rw [he, h] at g
    exact ⟨e, rfl, hm, he, (Option.some.inj g).symm⟩
theorem envOf_some : ∀ {xs : List Str} {ns : List Int} {x : Str}, xs.length = ns.length → x ∈ xs → ∃ z, envOf xs ns x = some z
  | [], _, _, _, h => by cases h
  | _ :: _, [], _, h, _ => by simp at h
  | y :: ys, n :: ns, x, hl, h => by
    by_cases c : x = y
    · exact ⟨n, if_pos c⟩
    · obtain ⟨z, hz⟩ := envOf_some (xs := ys) (ns := ns) (by simpa using hl) (by
        rcases List.mem_cons.mp h with q | q
        · exact absurd q c
        · exact q)
      exact ⟨z, (if_neg c).trans hz⟩
theorem wtAt_app {tab : List HR} {r : HR} {i : Nat} (h : i ≤ tab.length) : wtAt (tab ++ [r]) i = wtAt tab i := by
  cases i with
  | zero => rfl
  | succ k =>
    show (((tab ++ [r])[k]?).map (·.wt)).getD 0 = ((tab[k]?).map (·.wt)).getD 0
    rw [List.getElem?_append_left (by omega)]
theorem wtAt_last {tab : List HR} {r : HR} : wtAt (tab ++ [r]) (tab.length + 1) = r.wt := by
  show (((tab ++ [r])[tab.length]?).map (·.wt)).getD 0 = r.wt
  rw [List.getElem?_append_right (Nat.le_refl _), Nat.sub_self]
  rfl
theorem InE.app {hd : Str → Option Nat} {tab : List HR} {r : HR} {n : Nat} {p : Pt} {env : Env} {hs : Str → Option Nat} {xs js : List Str} {lim : Nat} (I : InE hd tab n p env hs xs js lim) (hn : n ≤ tab.length) : InE hd (tab ++ [r]) n p env hs xs js lim :=
  ⟨I.ok, I.e, I.h, fun j i e => let ⟨a, b⟩ := I.b j i e; ⟨a, by rw [wtAt_app (by omega)]; exact b⟩, I.m⟩
theorem setE_some {env : Env} {xs : List Str} {x : Str} {z : Int} (h : ∀ y ∈ xs, ∃ z, env y = some z) : ∀ y ∈ xs ++ [x], ∃ w, setE env x z y = some w := by
  intro y hy
  unfold setE
  by_cases c : y = x
  · exact ⟨z, if_pos c⟩
  · rw [if_neg c]
    rcases List.mem_append.mp hy with q | q
    · exact h y q
    · exact absurd (List.mem_singleton.mp q) c
/-- one step keeps it, and something falls -/
theorem wf_stepB {es : List TEr} {hd : Str → Option Nat} (E : TEsOk es hd) {B : Nat} (hB : ∀ e ∈ es, pcnt e.2.2 < B) {c : CT} (w : WfT es hd c) : (WfT es hd (stepT es c) ∨ (stepT es c).fin ≠ .no) ∧ muB B (stepT es c) < muB B c := by
  obtain ⟨xs, js, I⟩ := w.at_
  have hgo := w.go
  have ok := I.ok
  cases hp : c.part with
  | give j t =>
    rw [hp] at ok
    obtain ⟨i, hi⟩ := I.h j ok.1
    have hA : hAt c.hs j = i := by
      unfold hAt
      rw [hi]
      rfl
    obtain ⟨bi, bw⟩ := I.b j i hi
    cases i with
    | zero =>
      have eS : stepT es c = { c with fin := .done (evS c.env t) } := by
        unfold stepT
        rw [hp]
        show (match hAt c.hs j with | 0 => _ | k + 1 => _) = _
        rw [hA]
      rw [eS]
      refine ⟨.inr (fun z => by cases z), ?_⟩
      unfold muB
      rw [hgo]
      show (c.most - c.asked) * B + (pcnt c.part + c.lim) + 0 < (c.most - c.asked) * B + (pcnt c.part + c.lim) + 1
      omega
    | succ k =>
      have hk : k < c.tab.length := by omega
      have hr : c.tab[k]? = some c.tab[k] := List.getElem?_eq_getElem hk
      generalize c.tab[k] = r at hr
      have R := w.tb k r hr
      have hw : wtAt c.tab (k + 1) = r.wt := by
        show ((c.tab[k]?).map (·.wt)).getD 0 = r.wt
        rw [hr]
        rfl
      rw [hw] at bw
      have eS : stepT es c = { c with part := r.T, env := setE r.env r.x (evS c.env t), hs := r.hs, lim := r.wt - pcnt r.T } := by
        unfold stepT
        rw [hp]
        show (match hAt c.hs j with | 0 => _ | k + 1 => _) = _
        rw [hA]
        show (match c.tab[k]? with | none => c | some r => _) = _
        rw [hr]
      rw [eS]
      obtain ⟨xs', js', J⟩ := R.sc
      refine ⟨.inl ⟨hgo, w.as_, ⟨xs' ++ [r.x], js', J.ok, ?_, J.h, fun j i e => let ⟨a, b⟩ := J.b j i e; ⟨by show i ≤ c.tab.length; omega, b⟩, J.m⟩, w.tb⟩, ?_⟩
      · intro y hy
        obtain ⟨z, hz⟩ := J.e y hy
        show ∃ z, setE r.env r.x (evS c.env t) y = some z
        unfold setE at hz ⊢
        by_cases q : y = r.x
        · exact ⟨_, if_pos q⟩
        · rw [if_neg q] at hz ⊢
          exact ⟨z, hz⟩
      · have h1 := R.w
        unfold muB
        rw [hp]
        show (c.most - c.asked) * B + (pcnt r.T + (r.wt - pcnt r.T)) + fU c.fin < (c.most - c.asked) * B + (1 + c.lim) + fU c.fin
        omega
  | ask f ts j =>
    rw [hp] at ok
    obtain ⟨i, hi⟩ := I.h j ok.1
    have hA : hAt c.hs j = i := by
      unfold hAt
      rw [hi]
      rfl
    obtain ⟨bi, bw⟩ := I.b j i hi
    have eS : stepT es c = askT es c f (ts.map (evS c.env)) (hAt c.hs j) := by
      unfold stepT
      rw [hp]
    rw [eS, hA]
    obtain ⟨e, f1, f2, f3, f4⟩ := E.found ok.2.2.1
    have ge := E.er e f2
    unfold askT
    by_cases ha : c.asked = c.most
    · rw [if_pos ha]
      refine ⟨.inr (fun z => by cases z), ?_⟩
      unfold muB
      rw [hgo]
      show (c.most - c.asked) * B + (pcnt c.part + c.lim) + 0 < (c.most - c.asked) * B + (pcnt c.part + c.lim) + 1
      omega
    · rw [if_neg ha, f1]
      have has := w.as_
      refine ⟨.inl ⟨hgo, by show c.asked + 1 ≤ c.most; omega, ⟨e.2.1, ["home"], ge.ok, fun x hx => envOf_some (by rw [f4, List.length_map]) hx, fun y hy => ⟨i, if_pos (List.mem_singleton.mp hy)⟩, fun y i2 h2 => ?_, List.mem_cons_self⟩, w.tb⟩, ?_⟩
      · have h2 : (if y = "home" then some i else none) = some i2 := h2
        by_cases q : y = "home"
        · rw [if_pos q] at h2
          cases h2
          exact ⟨bi, bw⟩
        · rw [if_neg q] at h2
          cases h2
      · have hc := hB e f2
        have hmul : (c.most - c.asked) * B = (c.most - (c.asked + 1)) * B + B := by
          have e1 : c.most - c.asked = (c.most - (c.asked + 1)) + 1 := by omega
          rw [e1, Nat.succ_mul]
        have hpp := pcnt_pos c.part
        unfold muB
        show (c.most - (c.asked + 1)) * B + (pcnt e.2.2 + c.lim) + fU c.fin < (c.most - c.asked) * B + (pcnt c.part + c.lim) + fU c.fin
        omega
  | tell x t p =>
    rw [hp] at ok
    have eS : stepT es c = { c with trail := c.trail ++ [.tell (evS c.env t)], env := setE c.env x (evS c.env t), part := p } := by
      unfold stepT
      rw [hp]
    rw [eS]
    refine ⟨.inl ⟨hgo, w.as_, ⟨xs ++ [x], js, ok.2.2, setE_some I.e, I.h, I.b, I.m⟩, w.tb⟩, ?_⟩
    unfold muB
    rw [hp]
    show (c.most - c.asked) * B + (pcnt p + c.lim) + fU c.fin < (c.most - c.asked) * B + (1 + pcnt p + c.lim) + fU c.fin
    omega
  | lett x t p =>
    rw [hp] at ok
    have eS : stepT es c = { c with env := setE c.env x (evS c.env t), part := p } := by
      unfold stepT
      rw [hp]
    rw [eS]
    refine ⟨.inl ⟨hgo, w.as_, ⟨xs ++ [x], js, ok.2.2, setE_some I.e, I.h, I.b, I.m⟩, w.tb⟩, ?_⟩
    unfold muB
    rw [hp]
    show (c.most - c.asked) * B + (pcnt p + c.lim) + fU c.fin < (c.most - c.asked) * B + (1 + pcnt p + c.lim) + fU c.fin
    omega
  | iff t p q =>
    rw [hp] at ok
    have eS : stepT es c = { c with part := if evS c.env t = 0 then q else p } := by
      unfold stepT
      rw [hp]
    rw [eS]
    refine ⟨.inl ⟨hgo, w.as_, ⟨xs, js, ?_, I.e, I.h, I.b, I.m⟩, w.tb⟩, ?_⟩
    · show rP hd (if evS c.env t = 0 then q else p) xs js
      split
      · exact ok.2.2
      · exact ok.2.1
    · unfold muB
      rw [hp]
      show (c.most - c.asked) * B + (pcnt (if evS c.env t = 0 then q else p) + c.lim) + fU c.fin < (c.most - c.asked) * B + (1 + pcnt p + pcnt q + c.lim) + fU c.fin
      split <;> omega
  | post j x p q =>
    rw [hp] at ok
    have eS : stepT es c = { c with made := c.made + 1, tab := c.tab ++ [⟨x, p, c.env, c.hs, hiAt c.tab (hAt c.hs "home") + 1, pcnt p + c.lim⟩], hs := setH c.hs j (c.tab.length + 1), part := q, lim := pcnt p + c.lim } := by
      unfold stepT
      rw [hp]
    rw [eS]
    refine ⟨.inl ⟨hgo, w.as_, ⟨xs, js ++ [j], ok.2.2.2, I.e, ?_, ?_, List.mem_append_left _ I.m⟩, ?_⟩, ?_⟩
    · intro y hy
      show ∃ i, setH c.hs j (c.tab.length + 1) y = some i
      unfold setH
      by_cases e : y = j
      · exact ⟨_, if_pos e⟩
      · rw [if_neg e]
        rcases List.mem_append.mp hy with z | z
        · exact I.h y z
        · exact absurd (List.mem_singleton.mp z) e
    · intro y i hi
      have hi : (if y = j then some (c.tab.length + 1) else c.hs y) = some i := hi
      show i ≤ (c.tab ++ [_]).length ∧ wtAt (c.tab ++ [_]) i ≤ pcnt p + c.lim
      rw [List.length_append]
      by_cases e : y = j
      · rw [if_pos e] at hi
        cases hi
        refine ⟨Nat.le_refl _, ?_⟩
        rw [wtAt_last]
        exact Nat.le_refl _
      · rw [if_neg e] at hi
        obtain ⟨a, b⟩ := I.b y i hi
        refine ⟨by omega, ?_⟩
        rw [wtAt_app a]
        omega
    · intro k r hk
      by_cases hlt : k < c.tab.length
      · have hk : (c.tab ++ [_])[k]? = some r := hk
        rw [List.getElem?_append_left hlt] at hk
        have R := w.tb k r hk
        obtain ⟨xs', js', J⟩ := R.sc
        exact ⟨⟨xs', js', J.app (by omega)⟩, R.w⟩
      · have hk : (c.tab ++ [_])[k]? = some r := hk
        have hlen := (List.getElem?_eq_some_iff.mp hk).1
        rw [List.length_append, List.length_singleton] at hlen
        have hk2 : k = c.tab.length := by omega
        subst hk2
        rw [List.getElem?_append_right (Nat.le_refl _), Nat.sub_self] at hk
        have hr := (Option.some.inj hk).symm
        subst hr
        refine ⟨⟨xs, js, (InE.mk ok.2.2.1 (setE_some I.e) I.h (fun y i e => ?_) I.m : InE hd c.tab c.tab.length p _ _ _ _ _).app (Nat.le_refl _)⟩, Nat.le_add_right _ _⟩
        obtain ⟨a, b⟩ := I.b y i e
        refine ⟨a, ?_⟩
        show wtAt c.tab i ≤ pcnt p + c.lim - pcnt p
        omega
    · unfold muB
      rw [hp]
      show (c.most - c.asked) * B + (pcnt q + (pcnt p + c.lim)) + fU c.fin < (c.most - c.asked) * B + (1 + pcnt p + pcnt q + c.lim) + fU c.fin
      omega
theorem wf_stepT {es : List TEr} {hd : Str → Option Nat} (E : TEsOk es hd) {c : CT} (w : WfT es hd c) : (WfT es hd (stepT es c) ∨ (stepT es c).fin ≠ .no) ∧ muT (stepT es c) < muT c := wf_stepB E (fun e he => by have := (E.er e he).cn; omega) w
end KB

namespace KB
open PySem L2 HT LamX NdefX

/-! ### simple terms as a tree -/
/-- what is asked of the numbers' table: a name for the number of each word -/
def EnvAt (H : Hp) (env : Env) (b : Addr) : Prop := ∃ kvs : List (Key × V), H b = some (.dK kvs) ∧ kvs.length ≤ 1000 ∧ ∀ x : Str, valV kvs (Sum.inr x) = (env x).map V.int
theorem EnvAt.sx {H H' : Hp} (s : Sx H H') {env : Env} {b : Addr} (h : EnvAt H env b) : EnvAt H' env b := let ⟨kvs, h1, h2⟩ := h; ⟨kvs, s.d h1, h2⟩
section
variable {P : Program} {w : World} {K : PySem.W.Frag} {mg : Str → Option Value} {base : Heap}
/-! ### combined -/
/-! ### number_by_parts -/
/-! ### number_of -/
end
end KB

namespace KB
open PySem L2 HT

theorem passX {X : Cx} {P : Program} {w : World} : Passes (L2.CX P w) X E0 := fun _ _ _ _ _ _ _ h => by
  obtain ⟨_, _, _, _, _, _, _, _, _, _, _, _, z⟩ := h
  exact z.elim
/-- an own class of exceptions, over ValueError, without __init__ -/
structure XcT (K : PySem.W.Frag) (mg : Str → Option Value) (x : Str) (C : Addr) : Prop where
  g : mg x = some (.ref C)
  x : PySem.W.excIn K C [.type "ValueError", .type "Exception", .type "BaseException", .type "object"] "ValueError.__new__" = true
  k : PySem.W.keepIn K (.ref C) = true
  b : PySem.W.subIn K (.ref C) (.type "BaseException") = some true
  t : PySem.W.typeIn K (.ref C) = some (.type "type")
section
variable {P : Program} {w : World} {K : PySem.W.Frag} {mg : Str → Option Value} {base : Heap} {CN CM : Addr}
/-! ### is_whole -/
/-! ### errand_named in a turned book, any name -/
def spNamT : Sp := fun vs H Q _ => ∃ (p : Addr) (es : List TEr) (us : List V) (f : Str), vs = [.ref p, .str f] ∧ TBkAt H es us p ∧ (∀ i e, es[i]? = some e → e.1 = f → (∀ (j : Nat) e', j < i → es[j]? = some e' → e'.1 ≠ f) → ∀ v, TErV H e v → Q v H) ∧ ((∀ e ∈ es, e.1 ≠ f) → Q .non H)
abbrev serrand_named : Stmt := top 9
theorem scerrand_named : FnScope ["book", "f", "errand"] ["book", "f"] (defScope serrand_named) := ⟨rfl, rfl, rfl, by decide +kernel, rfl, by decide +kernel, by decide +kernel⟩
theorem ok_nam {f : Addr} {fd : FuncData} (F : Fun K "errand_named" "errand_named" serrand_named f fd) : FnOk P w K mg base CX0 1 f fd ["book", "f"] spNamT := by
  refine F.ok scerrand_named (fun vs H Q E h => ?_) (fun cdv A outer s H vs Q E hr h => ?_)
  · obtain ⟨p, es, us, f, rfl, _⟩ := h
    rfl
  obtain ⟨p, es, us, nm, rfl, hB, q1, q2⟩ := h
  refine ⟨_, (pss_cons (ps_for PassesOwn.never rfl (pi_tup (pv 0)) (pg_name (i := 2) scerrand_named.nd rfl (Or.inl rfl)) (pss_one (ps_if (pt_cmpR op_eq (pe_ix ix_tup (pv 2) pe_int (fun _ _ => rfl)) (pv 1) (nomark _)) (pss_one (ps_ret (pv 2))) pss_nil)))
    (pss_one (ps_ret pe_non))), ?_⟩
  refine ⟨_, rfl, p, rfl, ⟨_, SqT.of hB.1⟩, for_tup (xs := us) (fun j σ H' => ∃ o, σ = [some (.ref p), some (.str nm), o] ∧ H' = H ∧ ∀ i e, i < j → es[i]? = some e → e.1 ≠ nm) ⟨_, rfl, rfl, fun i e h => absurd h (Nat.not_lt_zero _)⟩ ?_ ?_ ?_⟩
  · rintro j σ H' _ ⟨o, rfl, rfl, _⟩
    exact SqT.of hB.1
  · rintro j x σ H' hx ⟨o, rfl, rfl, hj⟩
    obtain ⟨e, he, hev⟩ := hB.2.get hx
    obtain ⟨qa, r, b, rfl, g1, g2, g3⟩ := id hev
    refine ⟨_, rfl, qa, _, _, _, rfl, rfl, SqT.of g1, at0, _, rfl, rfl, _, rfl, ?_⟩
    by_cases c : e.1 = nm
    · exact itT (decide_eq_true (congrArg V.str c)) ⟨_, rfl, q1 j e he c (fun i e' hi he' => hj i e' hi he') _ hev⟩
    · refine itF (decide_eq_false fun z => c (V.str.inj z)) ⟨_, rfl, rfl, fun i e' hi he' => ?_⟩
      by_cases z : i = j
      · subst z
        rw [he] at he'
        cases he'
        exact c
      · exact hj i e' (by omega) he'
  · rintro σ H' ⟨o, rfl, rfl, hj⟩
    refine q2 fun e he => ?_
    obtain ⟨i, hi⟩ := List.mem_iff_getElem?.mp he
    refine hj i e ?_ hi
    rw [hB.2.len]
    exact (List.getElem?_eq_some_iff.mp hi).1
/-! ### need_errand -/
def spNeedE (CN : Addr) : Sp := fun vs H Q E => ∃ (p : Addr) (es : List TEr) (us : List V) (f : Str), vs = [.ref p, .str f] ∧ TBkAt H es us p ∧ ((∃ e ∈ es, e.1 = f) → Q .non H) ∧ ((∀ e ∈ es, e.1 ≠ f) → E (.ref CN) none H)
abbrev sneed_errand : Stmt := top 11
theorem scneed_errand : FnScope ["book", "f"] ["book", "f"] (defScope sneed_errand) := ⟨rfl, rfl, rfl, by decide +kernel, rfl, by decide +kernel, by decide +kernel⟩
theorem ok_needE (XNoAsking : XcT K mg "NoAsking" CN) {f f1 : Addr} {fd d1 : FuncData} (F : Fun K "need_errand" "need_errand" sneed_errand f fd)
    (Gerrand_named : FnOk P w K mg base CX0 1 f1 d1 ["book", "f"] spNamT) (Rerrand_named : Ref K mg "errand_named" f1 d1 ["book", "f"]) : FnOk P w K mg base (L2.CX P w) 2 f fd ["book", "f"] (spNeedE CN) := by
  refine F.okX scneed_errand (fun vs H Q E h => ?_) (fun cdv A outer s H vs Q E hr h => ?_)
  · obtain ⟨p, es, us, f, rfl, _⟩ := h
    rfl
  obtain ⟨p, es, us, nm, rfl, hB, q1, q2⟩ := h
  refine ⟨_, (pss_one (ps_if (pt_cmpR op_isN (pe_call Gerrand_named (hr.mono (by omega)) rfl Rerrand_named.m Rerrand_named.k Rerrand_named.b .nil pass0 (pa_cons (pv 0) (pa_cons (pv 1) pa_nil))) pe_non (nomark _)) (pss_one (ps_raise rfl (takes_of rfl rfl rfl rfl) (pmk_own PySem.F.excBase_ValueError XNoAsking.x XNoAsking.g XNoAsking.k (raises_own XNoAsking.b XNoAsking.t) rfl))) pss_nil)), ?_⟩
  refine ⟨_, rfl, _, rfl, p, es, us, nm, rfl, hB, fun i e he hn hj v hv => ?_, fun hno => ?_⟩
  · obtain ⟨qa, r, b, rfl, g1, g2, g3⟩ := hv
    exact ⟨rfl, _, rfl, itF (decide_eq_false (by intro z; cases z)) (q1 ⟨e, mem_of_get he, hn⟩)⟩
  · exact ⟨rfl, _, rfl, itT (decide_eq_true rfl) (q2 hno)⟩
/-! ### need_asking -/
/-! ### need_most -/
end
end KB

namespace KB
open PySem L2 HT LamX NdefX

variable {CR : Addr}
/-! ### what stays where objects of classes are written -/
def Ix (CR : Addr) (H H' : Hp) : Prop := (∀ b o, H b = some o → (∀ d fs, o ≠ .ins CR d fs) → (∀ ps, o ≠ .tbl ps) → H' b = some o) ∧ ∀ b, H' b = none → H b = none
theorem Ix.refl (H : Hp) : Ix CR H H := ⟨fun _ _ z _ _ => z, fun _ z => z⟩
theorem Ix.trans {H H1 H2 : Hp} (a : Ix CR H H1) (b : Ix CR H1 H2) : Ix CR H H2 := ⟨fun x o h n m => b.1 x o (a.1 x o h n m) n m, fun x z => a.2 x (b.2 x z)⟩
theorem Ix.free {H H' : Hp} (s : Ix CR H H') {b : Addr} (z : H' b = none) : H b = none := s.2 b z
theorem Ix.t {H H' : Hp} (s : Ix CR H H') {b : Addr} {xs : List V} (h : H b = some (.tup xs)) : H' b = some (.tup xs) := s.1 b _ h (fun _ _ z => nomatch z) fun _ z => nomatch z
theorem Ix.l {H H' : Hp} (s : Ix CR H H') {b : Addr} {xs : List V} (h : H b = some (.lst xs)) : H' b = some (.lst xs) := s.1 b _ h (fun _ _ z => nomatch z) fun _ z => nomatch z
theorem Ix.d {H H' : Hp} (s : Ix CR H H') {b : Addr} {kvs : List (Key × V)} (h : H b = some (.dK kvs)) : H' b = some (.dK kvs) := s.1 b _ h (fun _ _ z => nomatch z) fun _ z => nomatch z
theorem Ix.tk {H H' : Hp} (s : Ix CR H H') : TK H H' := fun _ _ h => s.t h
theorem ix_sx {H H' : Hp} (s : Sx H H') : Ix CR H H' := ⟨fun b o h _ m => s.1 b o h m, s.2⟩
theorem ix_mut {H H' : Hp} (s : Ix CR H H') {a : Addr} (h : H a = none) (o : HO) : Ix CR H (upd H' a o) := by
  refine ⟨fun b u z n m => ?_, fun b z => ?_⟩
  · rw [upd_ne (ne_of_none z h)]
    exact s.1 b u z n m
  · by_cases e : b = a
    · rw [e]; exact h
    · rw [upd_ne e] at z
      exact s.2 b z
theorem ix_ins {H H' : Hp} (s : Ix CR H H') {a : Addr} {d : Addr} {fs : List (Str × V)} (h : H a = some (.ins CR d fs)) (o : HO) : Ix CR H (upd H' a o) := by
  refine ⟨fun b u z n m => ?_, fun b z => ?_⟩
  · have e : b ≠ a := fun e => by
      subst e
      rw [h] at z
      exact n _ _ (Option.some.inj z).symm
    rw [upd_ne e]
    exact s.1 b u z n m
  · by_cases e : b = a
    · subst e
      rw [upd_same] at z
      cases z
    · rw [upd_ne e] at z
      exact s.2 b z
/-! ### words and hand-ons around -/
abbrev HsT := Str → Option Nat
def EnvN (H : Hp) (env : Env) (n : Nat) (b : Addr) : Prop := ∃ kvs : List (Key × V), H b = some (.dK kvs) ∧ kvs.length ≤ n ∧ ∀ x : Str, valV kvs (Sum.inr x) = (env x).map V.int
theorem EnvN.ix {H H' : Hp} (s : Ix CR H H') {env : Env} {n : Nat} {b : Addr} (h : EnvN H env n b) : EnvN H' env n b := let ⟨kvs, h1, h2⟩ := h; ⟨kvs, s.d h1, h2⟩
theorem EnvN.at_ {H : Hp} {env : Env} {n : Nat} {b : Addr} (h : EnvN H env n b) (hn : n ≤ 1000) : EnvAt H env b := let ⟨kvs, h1, h2, h3⟩ := h; ⟨kvs, h1, Nat.le_trans h2 hn, h3⟩
theorem EnvN.le {H : Hp} {env : Env} {n m : Nat} {b : Addr} (e : n ≤ m) (h : EnvN H env n b) : EnvN H env m b := let ⟨kvs, h1, h2, h3⟩ := h; ⟨kvs, h1, Nat.le_trans h2 e, h3⟩
/-! ### a part passed, as data -/
/-- hand-ons, whatever they are kept as -/
structure GM (CR : Addr) (G : Type) where
  new : G → Str → Pt → Env → HsT → G
  nid : G → Nat
  HV : Hp → G → Nat → V → Prop
  ix : ∀ {H H' : Hp} {g : G} {i : Nat} {v : V}, Ix CR H H' → HV H g i v → HV H' g i v
  mu : ∀ {H : Hp} {a : Addr} {xs : List V} {o : HO} {g : G} {i : Nat} {v : V}, H a = some (.lst xs) → HV H g i v → HV (upd H a o) g i v
  mono : ∀ {H : Hp} {g : G} {x : Str} {p : Pt} {env : Env} {hs : HsT} {i : Nat} {v : V}, HV H g i v → HV H (new g x p env hs) i v
def HdN {G : Type} (M : GM CR G) (g : G) (H : Hp) (hs : HsT) (n : Nat) (b : Addr) : Prop := ∃ kvs : List (Key × V), H b = some (.dK kvs) ∧ kvs.length ≤ n ∧ ∀ (j : Str) (i : Nat), hs j = some i → ∃ v, M.HV H g i v ∧ valV kvs (Sum.inr j) = some v
theorem HdN.ix {G : Type} {M : GM CR G} {g : G} {H H' : Hp} (s : Ix CR H H') {hs : HsT} {n : Nat} {b : Addr} (h : HdN M g H hs n b) : HdN M g H' hs n b := let ⟨kvs, h1, h2, h3⟩ := h; ⟨kvs, s.d h1, h2, fun j i e => let ⟨v, a, c⟩ := h3 j i e; ⟨v, M.ix s a, c⟩⟩
theorem HdN.le {G : Type} {M : GM CR G} {g : G} {H : Hp} {hs : HsT} {n m : Nat} {b : Addr} (e : n ≤ m) (h : HdN M g H hs n b) : HdN M g H hs m b := let ⟨kvs, h1, h2, h3⟩ := h; ⟨kvs, h1, Nat.le_trans h2 e, h3⟩
/-- what is around, told by words and hand-ons -/
structure Sc (p : Pt) (env : Env) (hs : HsT) : Prop where
  ok : ∃ hd xs js, rP hd p xs js ∧ (∀ x ∈ xs, ∃ z, env x = some z) ∧ (∀ j ∈ js, ∃ i, hs j = some i) ∧ ("home" : Str) ∈ js
theorem Sc.home {p : Pt} {env : Env} {hs : HsT} (h : Sc p env hs) : ∃ i, hs "home" = some i := let ⟨_, _, _, _, _, c, d⟩ := h.ok; c _ d
section
variable {P : Program} {w : World} {K : PySem.W.Frag} {mg : Str → Option Value} {base : Heap} {G : Type}
/-! ### passed -/
end
end KB

namespace KB
open PySem L2 HT LamX NdefX

/-! ### the attributes of a TurnedRunning and a HandOn -/
structure TV where
  (errands most trail fin deepest made asked part words hands : V)
def fsT (r : TV) : List (Str × V) := [("errands", r.errands), ("most", r.most), ("trail", r.trail), ("end", r.fin), ("deepest", r.deepest), ("made", r.made), ("asked", r.asked), ("part", r.part), ("words", r.words), ("hands", r.hands)]
def fsH (p w h n : V) : List (Str × V) := [("post", p), ("words", w), ("hands", h), ("height", n)]
/-! ### hand-ons as objects -/
inductive HonAt (CH : Addr) (H : Hp) (tab : List HR) : Nat → V → Prop
  | fin (a dx wb hb : Addr) : H a = some (.ins CH dx (fsH .non (.ref wb) (.ref hb) (.int 0))) → HonAt CH H tab 0 (.ref a)
  | mk (k : Nat) (r : HR) (a dx pb wb hb : Addr) (n : Nat) (j : Str) (q : Pt) (kvs : List (Key × V)) (vf : Str → V) : tab[k]? = some r → H a = some (.ins CH dx (fsH (.ref pb) (.ref wb) (.ref hb) (.int r.h))) → PAt H (.post j r.x r.T q) pb → EnvN H r.env n wb →
      H hb = some (.dK kvs) → kvs.length ≤ n → n + 1 + pcnt r.T ≤ 1000 → (∀ j i, r.hs j = some i → valV kvs (Sum.inr j) = some (vf j)) → (∀ j i, r.hs j = some i → HonAt CH H tab i (vf j)) → HonAt CH H tab (k + 1) (.ref a)
theorem HonAt.keep {CH : Addr} {H H' : Hp} {tab tab' : List HR} (ht : ∀ (k : Nat) (r : HR), tab[k]? = some r → tab'[k]? = some r) (hi : ∀ a dx fs, H a = some (.ins CH dx fs) → H' a = some (.ins CH dx fs)) (htk : TK H H') (hd : ∀ a kvs, H a = some (.dK kvs) → H' a = some (.dK kvs)) :
    ∀ {i : Nat} {v : V}, HonAt CH H tab i v → HonAt CH H' tab' i v := by
  intro i v h
  induction h with
  | fin a dx wb hb h => exact .fin a dx wb hb (hi _ _ _ h)
  | mk k r a dx pb wb hb n j q kvs vf h1 h2 h3 h4 h5 h6 h7 h8 h9 ih =>
    obtain ⟨kvw, e1, e2⟩ := h4
    exact .mk k r a dx pb wb hb n j q kvs vf (ht _ _ h1) (hi _ _ _ h2) (PAt.tk htk h3) ⟨kvw, hd _ _ e1, e2⟩ (hd _ _ h5) h6 h7 h8 ih
structure TG where
  tab : List HR
  made : Int
  lim : Nat
def newG (g : TG) (x : Str) (p : Pt) (env : Env) (hs : HsT) : TG := ⟨g.tab ++ [⟨x, p, env, hs, hiAt g.tab (hAt hs "home") + 1, pcnt p + g.lim⟩], g.made + 1, pcnt p + g.lim⟩
theorem tab_app {tab : List HR} {r : HR} : ∀ (k : Nat) (s : HR), tab[k]? = some s → (tab ++ [r])[k]? = some s := fun k s h => by
  rw [List.getElem?_append_left (List.getElem?_eq_some_iff.mp h).1]
  exact h
def MT {CH CR : Addr} (ne : CH ≠ CR) : GM CR TG where
  new := newG
  nid g := g.tab.length + 1
  HV H g i v := HonAt CH H g.tab i v
  ix s h := h.keep (fun _ _ z => z) (fun a dx fs z => s.1 a _ z (fun d f e => ne (by cases e; rfl)) fun _ e => nomatch e) s.tk fun a kvs z => s.d z
  mu hl h := h.keep (fun _ _ z => z) (fun a dx fs z => by rw [upd_ne (ne_of z hl (fun e => nomatch e))]; exact z) (tk_put hl) fun a kvs z => by rw [upd_ne (ne_of z hl (fun e => nomatch e))]; exact z
  mono h := h.keep tab_app (fun _ _ _ z => z) (fun _ _ z => z) fun _ _ z => z
section
variable {P : Program} {w : World} {K : PySem.W.Frag} {mg : Str → Option Value} {base : Heap} {CH CR : Addr}
/-! ### HandOn(post, words, hands, height) -/
/-! ### make -/
end
end KB

namespace KB
open PySem L2 HT LamX NdefX

/-! ### steps in a row -/
inductive RchT (es : List TEr) : CT → CT → Prop
  | refl (c : CT) : RchT es c c
  | snoc {c c1 : CT} : RchT es c c1 → c1.fin = .no → RchT es c (stepT es c1)
theorem RchT.trans {es : List TEr} {a b c : CT} (h : RchT es a b) (k : RchT es b c) : RchT es a c := by
  induction k with
  | refl => exact h
  | snoc _ e ih => exact .snoc ih e
theorem RchT.one {es : List TEr} {c : CT} (h : c.fin = .no) : RchT es c (stepT es c) := .snoc (.refl c) h
theorem RchT.wf {es : List TEr} {hd : Str → Option Nat} (E : TEsOk es hd) {c c' : CT} (h : RchT es c c') (w : WfT es hd c) : (WfT es hd c' ∨ c'.fin ≠ .no) ∧ muT c' ≤ muT c := by
  induction h with
  | refl => exact ⟨.inl w, Nat.le_refl _⟩
  | snoc _ e ih =>
    obtain ⟨a, b⟩ := wf_stepT E (ih.1.resolve_right fun z => z e)
    exact ⟨a, by have := ih.2; omega⟩
/-- how long what is told gets -/
def szT (c : CT) : Nat := c.trail.length + muT c
theorem step_trail {es : List TEr} {c : CT} : (stepT es c).trail.length ≤ c.trail.length + 1 := by
  unfold stepT askT
  repeat' split
  all_goals first | exact Nat.le_succ _ | (show (c.trail ++ [_]).length ≤ _; rw [List.length_append]; exact Nat.le_refl _)
theorem RchT.sz {es : List TEr} {hd : Str → Option Nat} (E : TEsOk es hd) {c c' : CT} (h : RchT es c c') (w : WfT es hd c) : szT c' ≤ szT c := by
  induction h with
  | refl => exact Nat.le_refl _
  | @snoc c1 h e ih =>
    obtain ⟨a, b⟩ := wf_stepT E ((h.wf E w).1.resolve_right fun z => z e)
    have := step_trail (es := es) (c := c1)
    unfold szT at ih ⊢
    omega
/-- the run where a part is passed -/
def gOf (c : CT) : TG := ⟨c.tab, c.made, c.lim⟩
/-! ### how a run on its way stands in the heap -/
structure AdT where
  dx : Addr
  ed : Addr
  tl : Addr
  ev : V
  tv : List V
def FeV (H : Hp) : Fe → V → Prop
  | .no, v => v = .non
  | .done z, v => ∃ q, v = .ref q ∧ H q = some (.tup [.str "done", .int z])
  | .long, v => ∃ q, v = .ref q ∧ H q = some (.tup [.str "long"])
def EvV (H : Hp) : Ev → V → Prop
  | .ask f ns, v => ∃ q r, v = .ref q ∧ H q = some (.tup [.str "ask", .str f, .ref r]) ∧ H r = some (.tup (ns.map V.int))
  | .tell z, v => ∃ q, v = .ref q ∧ H q = some (.tup [.str "tell", .int z])
theorem FeV.tk {H H' : Hp} (e : TK H H') {f : Fe} {v : V} (h : FeV H f v) : FeV H' f v := by
  cases f with
  | no => exact h
  | done z => exact let ⟨q, a, b⟩ := h; ⟨q, a, e _ _ b⟩
  | long => exact let ⟨q, a, b⟩ := h; ⟨q, a, e _ _ b⟩
theorem EvV.tk {H H' : Hp} (e : TK H H') {f : Ev} {v : V} (h : EvV H f v) : EvV H' f v := by
  cases f with
  | ask f ns => exact let ⟨q, r, a, b, c⟩ := h; ⟨q, r, a, e _ _ b, e _ _ c⟩
  | tell z => exact let ⟨q, a, b⟩ := h; ⟨q, a, e _ _ b⟩
theorem FeV.no {H : Hp} {f : Fe} {v : V} (h : FeV H f v) : v = .non ↔ f = .no := by
  cases f with
  | no => exact ⟨fun _ => rfl, fun _ => h⟩
  | done z => exact ⟨fun e => (by obtain ⟨q, a, _⟩ := h; rw [e] at a; cases a), fun e => nomatch e⟩
  | long => exact ⟨fun e => (by obtain ⟨q, a, _⟩ := h; rw [e] at a; cases a), fun e => nomatch e⟩
/-- the errands' table -/
def ErT (H : Hp) (es : List TEr) (D : Addr) : Prop := ∃ kvs : List (Key × V), H D = some (.dK kvs) ∧ ∀ e ∈ es, ∃ qa r b, valV kvs (Sum.inr e.1) = some (.ref qa) ∧ H qa = some (.tup [.ref r, .ref b]) ∧ H r = some (.tup (e.2.1.map V.str)) ∧ PAt H e.2.2 b
theorem ErT.ix {CR : Addr} {H H' : Hp} (s : Ix CR H H') {es : List TEr} {D : Addr} (h : ErT H es D) : ErT H' es D :=
  let ⟨kvs, a, b⟩ := h; ⟨kvs, s.d a, fun e he => let ⟨qa, r, b, c1, c2, c3, c4⟩ := b e he; ⟨qa, r, b, c1, s.t c2, s.t c3, PAt.tk s.tk c4⟩⟩
def tvOf (a : AdT) (c : CT) (pv wv hv : V) : TV := ⟨.ref a.ed, .int (c.most : Int), .ref a.tl, a.ev, .int c.deepest, .int c.made, .int (c.asked : Int), pv, wv, hv⟩
/-- all but the part that is due -/
structure RunB (CR : Addr) (TT : List (Addr × Str)) (H0 H : Hp) (es : List TEr) (p : Addr) (c : CT) (a : AdT) (pv wv hv : V) : Prop where
  n0 : H0 p = none
  nt : H0 a.tl = none
  sx : Ix CR H0 H
  tt : Tabs TT H
  ob : H p = some (.ins CR a.dx (fsT (tvOf a c pv wv hv)))
  er : ErT H es a.ed
  tr : H a.tl = some (.lst a.tv)
  te : All2 (EvV H) c.trail a.tv
  ev : FeV H c.fin a.ev
/-- the part that is due, with what is around -/
def PartAt {CH CR : Addr} (ne : CH ≠ CR) (H : Hp) (c : CT) (pv wv hv : V) : Prop := ∃ (pa wb hb : Addr) (n : Nat), pv = .ref pa ∧ wv = .ref wb ∧ hv = .ref hb ∧ PAt H c.part pa ∧ EnvN H c.env n wb ∧ HdN (MT ne) (gOf c) H c.hs n hb ∧ n + pcnt c.part ≤ 1000
end KB

namespace KB
open PySem L2 HT LamX NdefX

theorem big {n : Nat} (h : n ≤ 10000000) : n < sizeLine := Nat.lt_of_le_of_lt h (by decide)
theorem tabs_mutI {T : List (Addr × Str)} {H : Hp} (t : Tabs T H) {a c d : Addr} {fs : List (Str × V)} (h : H a = some (.ins c d fs)) (o : HO) : Tabs T (upd H a o) := fun p hp => by
  obtain ⟨ps, h1, h2, h3⟩ := t p hp
  refine ⟨ps, by rw [upd_ne (ne_of h1 h (fun z => nomatch z))]; exact h1, h2, fun pos cv hc => ?_⟩
  obtain ⟨c, e1, e2⟩ := h3 pos cv hc
  refine ⟨c, e1, ?_⟩
  rw [upd_ne (ne_of e2 h (fun z => by unfold CodeO at z; cases z))]
  exact e2
section
variable {CH CR : Addr} {ne : CH ≠ CR} {TT : List (Addr × Str)} {H0 H H' : Hp} {es : List TEr} {p : Addr} {c c' : CT} {a a' : AdT} {pv wv hv pv' wv' hv' : V}
theorem RunB.sxs (R : RunB CR TT H0 H es p c a pv wv hv) (s : Sx H H') (t : Tabs TT H') : RunB CR TT H0 H' es p c a pv wv hv :=
  ⟨R.n0, R.nt, R.sx.trans (ix_sx s), t, s.at_ R.ob (fun _ z => nomatch z), R.er.ix (CR := CR) (ix_sx s), s.l R.tr, R.te.imp fun _ _ z => z.tk s.tk, R.ev.tk s.tk⟩
theorem RunB.same (R : RunB CR TT H0 H es p c a pv wv hv) (s : Same H H') : RunB CR TT H0 H' es p c a pv wv hv := R.sxs (sx_same s) (tabs_new R.tt s)
/-- a field of the run's own is written -/
theorem RunB.put (R : RunB CR TT H0 H es p c a pv wv hv) (e1 : a'.dx = a.dx := by rfl) (e2 : a'.ed = a.ed := by rfl) (e3 : a'.tl = a.tl := by rfl) (e4 : a'.tv = a.tv := by rfl) (e5 : c'.trail = c.trail := by rfl) (hev : FeV (upd H p (.ins CR a.dx (fsT (tvOf a' c' pv' wv' hv')))) c'.fin a'.ev) :
    RunB CR TT H0 (upd H p (.ins CR a.dx (fsT (tvOf a' c' pv' wv' hv')))) es p c' a' pv' wv' hv' := by
  have s : Ix CR H (upd H p (.ins CR a.dx (fsT (tvOf a' c' pv' wv' hv')))) := ix_ins (Ix.refl H) R.ob _
  refine ⟨R.n0, by rw [e3]; exact R.nt, ix_mut R.sx R.n0 _, tabs_mutI R.tt R.ob _, by rw [e1]; exact upd_same, by rw [e2]; exact R.er.ix s, by rw [e3, e4]; exact s.l R.tr, by rw [e5, e4]; exact R.te.imp fun _ _ z => z.tk s.tk, hev⟩
/-- something more is told -/
theorem RunB.tell (R : RunB CR TT H0 H es p c a pv wv hv) {e : List Ev} {v : List V} (h : All2 (EvV H) e v) :
    RunB CR TT H0 (upd H a.tl (.lst (a.tv ++ v))) es p { c with trail := c.trail ++ e } { a with tv := a.tv ++ v } pv wv hv := by
  have tk : TK H (upd H a.tl (.lst (a.tv ++ v))) := tk_put R.tr
  obtain ⟨kvs, k1, k2⟩ := R.er
  refine ⟨R.n0, R.nt, ix_mut R.sx R.nt _, tabs_mut R.tt R.tr _, by rw [upd_ne (ne_of R.ob R.tr (fun z => nomatch z))]; exact R.ob, ⟨kvs, by rw [upd_ne (ne_of k1 R.tr (fun z => nomatch z))]; exact k1, fun e he => ?_⟩, upd_same, (R.te.imp fun _ _ z => z.tk tk).app (h.imp fun _ _ z => z.tk tk), R.ev.tk tk⟩
  obtain ⟨qa, r, b, c1, c2, c3, c4⟩ := k2 e he
  exact ⟨qa, r, b, c1, tk _ _ c2, tk _ _ c3, PAt.tk tk c4⟩
theorem PartAt.ix (s : Ix CR H H') (h : PartAt ne H c pv wv hv) : PartAt ne H' c pv wv hv :=
  let ⟨pa, wb, hb, n, a1, a2, a3, a4, a5, a6, a7⟩ := h; ⟨pa, wb, hb, n, a1, a2, a3, PAt.tk s.tk a4, a5.ix s, a6.ix s, a7⟩
end
section
variable {P : Program} {w : World} {K : PySem.W.Frag} {mg : Str → Option Value} {base : Heap} {CH CR : Addr}
/-! ### ask -/
end
end KB

namespace KB
open PySem L2 HT LamX NdefX

theorem RunB.passed {CR : Addr} {TT : List (Addr × Str)} {H0 H H' : Hp} {es : List TEr} {p : Addr} {c c' : CT} {a : AdT} {pv wv hv : V} (R : RunB CR TT H0 H es p c a pv wv hv) (s : Ix CR H H') (t : Tabs TT H') (ob : H' p = some (.ins CR a.dx (fsT (tvOf a c' pv wv hv)))) (e : c'.trail = c.trail) (ef : c'.fin = c.fin) :
    RunB CR TT H0 H' es p c' a pv wv hv := ⟨R.n0, R.nt, R.sx.trans s, t, ob, R.er.ix s, s.l R.tr, by rw [e]; exact R.te.imp fun _ _ z => z.tk s.tk, by rw [ef]; exact R.ev.tk s.tk⟩
section
variable {P : Program} {w : World} {K : PySem.W.Frag} {mg : Str → Option Value} {base : Heap} {CH CR : Addr}
/-! ### pass_part -/
end
end KB

namespace KB
open PySem L2 HT LamX NdefX

/-! ### the law's hand-ons -/
def FrA (A : List Addr) (H H' : Hp) : Prop := ∀ b o, b ∉ A → H b = some o → H' b = some o
theorem FrA.refl (A : List Addr) (H : Hp) : FrA A H H := fun _ _ _ h => h
theorem FrA.trans {A : List Addr} {H H1 H2 : Hp} (a : FrA A H H1) (b : FrA A H1 H2) : FrA A H H2 := fun x o n h => b x o n (a x o n h)
theorem fr_same {A : List Addr} {H H' : Hp} (s : Same H H') : FrA A H H' := fun b o _ h => s b o h
inductive LHon (A : List Addr) (H : Hp) (tab : List HR) : Nat → V → Prop
  | fin (q : Addr) : H q = some (.tup [.int 0]) → LHon A H tab 0 (.ref q)
  | mk (k : Nat) (r : HR) (q tb nb hb : Addr) (n : Nat) (kvn kvs : List (Key × V)) (vf : Str → V) : tab[k]? = some r → H q = some (.tup [.int r.h, .str r.x, .ref tb, .ref nb, .ref hb]) → PAt H r.T tb → nb ∉ A → hb ∉ A → H nb = some (.dK kvn) → kvn.length ≤ n → (∀ x : Str, valV kvn (Sum.inr x) = (r.env x).map V.int) →
      H hb = some (.dK kvs) → kvs.length ≤ n → n + 1 + pcnt r.T ≤ 1000 → (∀ j i, r.hs j = some i → valV kvs (Sum.inr j) = some (vf j)) → (∀ j i, r.hs j = some i → LHon A H tab i (vf j)) → LHon A H tab (k + 1) (.ref q)
theorem LHon.keep {A : List Addr} {H H' : Hp} {tab tab' : List HR} (ht : ∀ (k : Nat) (r : HR), tab[k]? = some r → tab'[k]? = some r) (f : FrA A H H') (tk : TK H H') : ∀ {i : Nat} {v : V}, LHon A H tab i v → LHon A H' tab' i v := by
  intro i v h
  induction h with
  | fin q h => exact .fin q (tk _ _ h)
  | mk k r q tb nb hb n kvn kvs vf h1 h2 h3 h4 h5 h6 h7 h8 h9 h10 h11 h12 h13 ih =>
    exact .mk k r q tb nb hb n kvn kvs vf (ht _ _ h1) (tk _ _ h2) (PAt.tk tk h3) h4 h5 (f _ _ h4 h6) h7 h8 (f _ _ h5 h9) h10 h11 h12 ih
theorem LHon.fresh {A A' : List Addr} {H : Hp} {tab : List HR} (hA : ∀ a ∈ A', a ∈ A ∨ H a = none) : ∀ {i : Nat} {v : V}, LHon A H tab i v → LHon A' H tab i v := by
  intro i v h
  induction h with
  | fin q h => exact .fin q h
  | mk k r q tb nb hb n kvn kvs vf h1 h2 h3 h4 h5 h6 h7 h8 h9 h10 h11 h12 h13 ih =>
    refine .mk k r q tb nb hb n kvn kvs vf h1 h2 h3 (fun z => ?_) (fun z => ?_) h6 h7 h8 h9 h10 h11 h12 ih
    · rcases hA nb z with y | y
      · exact h4 y
      · rw [h6] at y
        cases y
    · rcases hA hb z with y | y
      · exact h5 y
      · rw [h9] at y
        cases y
/-! ### now, and what is around -/
def nowK (tl : Addr) (dp md mn : Int) : List (Key × V) := [(Sum.inr "trail", .ref tl), (Sum.inr "deepest", .int dp), (Sum.inr "made", .int md), (Sum.inr "many", .int mn)]
structure NowL (H : Hp) (nd tl : Addr) (c : CT) (tv : List V) : Prop where
  n : H nd = some (.dK (nowK tl c.deepest c.made c.asked))
  t : H tl = some (.lst tv)
  te : All2 (EvV H) c.trail tv
structure AroundL (A : List Addr) (H : Hp) (c : CT) (pa nm hb : Addr) (n : Nat) : Prop where
  p : PAt H c.part pa
  e : EnvN H c.env n nm
  h : ∃ kvs : List (Key × V), H hb = some (.dK kvs) ∧ kvs.length ≤ n ∧ ∀ (j : Str) (i : Nat), c.hs j = some i → ∃ v, LHon A H c.tab i v ∧ valV kvs (Sum.inr j) = some v
  n : n + pcnt c.part ≤ 1000
theorem NowL.same {H H' : Hp} {nd tl : Addr} {c : CT} {tv : List V} (s : Same H H') (N : NowL H nd tl c tv) : NowL H' nd tl c tv := ⟨s _ _ N.n, s _ _ N.t, N.te.imp fun _ _ z => z.tk (tk_same s)⟩
theorem AroundL.keep {A : List Addr} {H H' : Hp} {c : CT} {pa nm hb : Addr} {n : Nat} (R : AroundL A H c pa nm hb n) (f : FrA A H H') (tk : TK H H') (hn : ∀ kvs, H nm = some (.dK kvs) → H' nm = some (.dK kvs)) (hh : ∀ kvs, H hb = some (.dK kvs) → H' hb = some (.dK kvs)) : AroundL A H' c pa nm hb n :=
  ⟨PAt.tk tk R.p, let ⟨kvs, a, b⟩ := R.e; ⟨kvs, hn _ a, b⟩, let ⟨kvs, a, b, d⟩ := R.h; ⟨kvs, hh _ a, b, fun j i e => let ⟨v, x, y⟩ := d j i e; ⟨v, x.keep (fun _ _ z => z) f tk, y⟩⟩, R.n⟩
theorem AroundL.same {A : List Addr} {H H' : Hp} {c : CT} {pa nm hb : Addr} {n : Nat} (s : Same H H') (R : AroundL A H c pa nm hb n) : AroundL A H' c pa nm hb n := R.keep (fr_same s) (tk_same s) (fun _ h => s _ _ h) fun _ h => s _ _ h
section
variable {P : Program} {w : World} {K : PySem.W.Frag} {mg : Str → Option Value} {base : Heap}
/-! ### _law_along -/
end
end KB

namespace KB
open PySem L2 HT

/-! ### what a run tells, as Python's data -/
def pdEv : Ev → PyData
  | .ask f ns => .tuple [.str "ask", .str f, .tuple (ns.map PyData.int)]
  | .tell z => .tuple [.str "tell", .int z]
def pdFe : Fe → PyData
  | .no => .tuple []
  | .done z => .tuple [.str "done", .int z]
  | .long => .tuple [.str "long"]
def pdTr (t : List Ev) : PyData := .list (t.map pdEv)
def pdRun (c : CT) : PyData := .tuple [pdTr c.trail, pdFe c.fin, .int c.deepest, .int c.made]
theorem dp_ev {K : PySem.W.Frag} {H : Hp} {e : Ev} {v : V} (h : EvV H e v) : Dp K H v (pdEv e) := by
  cases e with
  | ask f ns =>
    obtain ⟨q, r, e1, h1, h2⟩ := h
    subst e1
    exact .tup (SqT.of h1) (.cons (.str _) (.cons (.str _) (.cons (.tup (SqT.of h2) (dp_ints ns)) .nil)))
  | tell z =>
    obtain ⟨q, e1, h1⟩ := h
    subst e1
    exact .tup (SqT.of h1) (.cons (.str _) (.cons (.int _) .nil))
theorem dp_tr {K : PySem.W.Frag} {H : Hp} : ∀ {t : List Ev} {vs : List V}, All2 (EvV H) t vs → DpAll K H vs (t.map pdEv)
  | [], [], _ => .nil
  | _ :: _, _ :: _, h => .cons (dp_ev h.1) (dp_tr h.2)
  | [], _ :: _, h => h.elim
  | _ :: _, [], h => h.elim
theorem dp_fe {K : PySem.W.Frag} {H : Hp} {f : Fe} {v : V} (h : FeV H f v) (hn : f ≠ .no) : Dp K H v (pdFe f) := by
  cases f with
  | no => exact absurd rfl hn
  | done z =>
    obtain ⟨q, e1, h1⟩ := h
    subst e1
    exact .tup (SqT.of h1) (.cons (.str _) (.cons (.int _) .nil))
  | long =>
    obtain ⟨q, e1, h1⟩ := h
    subst e1
    exact .tup (SqT.of h1) (.cons (.str _) .nil)
/-- what run tells, at q -/
structure RunV (H : Hp) (c : CT) (q : Addr) (tl : Addr) (tv : List V) (ev : V) : Prop where
  q : H q = some (.tup [.ref tl, ev, .int c.deepest, .int c.made])
  tl : H tl = some (.lst tv)
  te : All2 (EvV H) c.trail tv
  ev : FeV H c.fin ev
  nn : c.fin ≠ .no
theorem RunV.same {H H' : Hp} {c : CT} {q tl : Addr} {tv : List V} {ev : V} (s : Same H H') (h : RunV H c q tl tv ev) : RunV H' c q tl tv ev := ⟨s _ _ h.q, s _ _ h.tl, h.te.imp fun _ _ z => z.tk (tk_same s), h.ev.tk (tk_same s), h.nn⟩
theorem RunV.dp {K : PySem.W.Frag} {H : Hp} {c : CT} {q tl : Addr} {tv : List V} {ev : V} (h : RunV H c q tl tv ev) : Dp K H (.ref q) (pdRun c) :=
  .tup (SqT.of h.q) (.cons (.lst (SqL.of h.tl) (dp_tr h.te)) (.cons (dp_fe h.ev h.nn) (.cons (.int _) (.cons (.int _) .nil))))
/-! ### what a run tells can be written out -/
/-- what is asked of a thing that is told -/
structure Sho (d : PyData) (n : Nat) : Prop where
  w : d.weight ≤ n
  s : d.showable = true
  i : d.intsShort 13 = true
theorem Sho.le {d : PyData} {n m : Nat} (h : Sho d n) (e : n ≤ m) : Sho d m := ⟨Nat.le_trans h.w e, h.s, h.i⟩
/-- from a run there is just one end -/
theorem RchT.head {es : List TEr} {c c' : CT} (h : RchT es c c') : c' = c ∨ (c.fin = .no ∧ RchT es (stepT es c) c') := by
  induction h with
  | refl => exact .inl rfl
  | snoc h e ih =>
    rcases ih with z | ⟨z1, z2⟩
    · rw [z] at e ⊢
      exact .inr ⟨e, .refl _⟩
    · exact .inr ⟨z1, .snoc z2 e⟩
section
variable {P : Program} {w : World} {K : PySem.W.Frag} {mg : Str → Option Value} {base : Heap}
/-! ### _law_same_run -/
end
end KB

namespace KB
open PySem L2 HT LamX NdefX

theorem TBkAt.ix {CR : Addr} {H H' : Hp} (s : Ix CR H H') {es : List TEr} {vs : List V} {p : Addr} (h : TBkAt H es vs p) : TBkAt H' es vs p := ⟨s.t h.1, h.2.imp fun _ _ z => z.tk s.tk⟩
section
variable {P : Program} {w : World} {K : PySem.W.Frag} {mg : Str → Option Value} {base : Heap} {CR : Addr}
end
end KB

namespace KB
open PySem L2

/-! ### laid parts -/
/-- a simple term, good -/
structure LTm (t : Tm) : Prop where
  ok : okT t
  si : simple t = true
  cn : cnt t ≤ 13
  ht : HtLe 5 t
theorem HtLe.to : ∀ {n m : Nat} {t : Tm}, HtLe n t → n ≤ m → HtLe m t := fun h e => h.le e
theorem GdS.lt {H : Hp} {a : Addr} {hd : Str → Option Nat} {xs : List Str} {t : Tm} (g : GdS H a 3 2 hd xs t) : LTm t := ⟨g.g.ok, g.s, Nat.le_trans g.g.cn (by decide), g.g.dp.le (by decide)⟩
/-- a simple term at b, of at most n terms, within at most d -/
def TmB (H : Hp) (n d : Nat) (b : Addr) : Prop := ∃ t, At H t b ∧ okT t ∧ simple t = true ∧ cnt t ≤ n ∧ HtLe d t
theorem TmB.tk {H H' : Hp} {n d : Nat} {b : Addr} (k : TK H H') : TmB H n d b → TmB H' n d b := fun ⟨t, h1, h2⟩ => ⟨t, h1.tk k, h2⟩
theorem TmB.le {H : Hp} {n d m e : Nat} {b : Addr} (h1 : n ≤ m) (h2 : d ≤ e) : TmB H n d b → TmB H m e b := fun ⟨t, g1, g2, g3, g4, g5⟩ => ⟨t, g1, g2, g3, Nat.le_trans g4 h1, g5.le h2⟩
theorem TmB.lt {H : Hp} {b : Addr} : TmB H 13 5 b → ∃ t, At H t b ∧ LTm t := fun ⟨t, g1, g2, g3, g4, g5⟩ => ⟨t, g1, g2, g3, g4, g5⟩
theorem tb_two {H : Hp} {p a b : Addr} {n m d e : Nat} {h : Hd} (hh : h = .plus ∨ h = .less) (g1 : TmB H n d a) (g2 : TmB H m e b) (hp : H p = some (.tup [.str (hs h), .ref a, .ref b])) : TmB H (1 + n + m) (max d e + 1) p := by
  obtain ⟨t, a1, a2, a3, a4, a5⟩ := g1
  obtain ⟨u, b1, b2, b3, b4, b5⟩ := g2
  have both : ∀ (Pr : Tm → Prop), Pr t → Pr u → ∀ x ∈ [t, u], Pr x := fun Pr h1 h2 x hx => by
    rcases List.mem_cons.mp hx with z | z
    · rw [z]
      exact h1
    · rw [List.mem_singleton.mp z]
      exact h2
  have lay : Lay H p h [.ref a, .ref b] := by
    rcases hh with rfl | rfl
    · exact ⟨rfl, hp⟩
    · exact ⟨rfl, hp⟩
  refine ⟨mkL h [t, u], at_mkL lay ⟨⟨a, rfl, a1⟩, ⟨b, rfl, b1⟩, trivial⟩, ok_mkL (by rcases hh with rfl | rfl <;> trivial) (both _ a2 b2), simple_mkL (by rcases hh with rfl | rfl <;> rfl) (both _ a3 b3), ?_, ht_mkL (both _ (a5.le (by omega)) (b5.le (by omega)))⟩
  rw [cnt_mkL, cnts_cons, cnts_cons]
  show 1 + (_ + (_ + 0)) ≤ _
  omega
theorem tb_new {H : Hp} {p a b : Addr} {n m d e : Nat} {h : Hd} (hh : h = .plus ∨ h = .less) (g1 : TmB H n d a) (g2 : TmB H m e b) (hp : H p = none) : TmB (upd H p (.tup [.str (hs h), .ref a, .ref b])) (1 + n + m) (max d e + 1) p :=
  tb_two hh (g1.tk (tk_same (same_new hp _))) (g2.tk (tk_same (same_new hp _))) upd_same
/-- what is at hand while the terms are written: here, one, other, and the terms so far -/
structure AdS (H0 H : Hp) (tp p0 a1 a2 : Addr) (ds : List Addr) : Prop where
  b : But1 tp H0 H
  t : Tp H tp
  g0 : TmB H 1 1 p0
  g1 : TmB H 3 2 a1
  g2 : TmB H 3 2 a2
  ds : ∀ d ∈ ds, TmB H 13 5 d
theorem AdS.new {H0 H : Hp} {tp p0 a1 a2 : Addr} {ds : List Addr} (I : AdS H0 H tp p0 a1 a2 ds) {p : Addr} (hp : H p = none) (o : HO) : AdS H0 (upd H p o) tp p0 a1 a2 ds :=
  have s := same_new hp o
  ⟨I.b.trans (but_same s), I.t.same s, I.g0.tk (tk_same s), I.g1.tk (tk_same s), I.g2.tk (tk_same s), fun d hd => (I.ds d hd).tk (tk_same s)⟩
theorem AdS.put {H0 H : Hp} {tp p0 a1 a2 : Addr} {ds : List Addr} (I : AdS H0 H tp p0 a1 a2 ds) {d : Addr} (h : TmB H 13 5 d) : AdS H0 H tp p0 a1 a2 (ds ++ [d]) :=
  ⟨I.b, I.t, I.g0, I.g1, I.g2, fun e he => by
    rcases List.mem_append.mp he with z | z
    · exact I.ds e z
    · rw [List.mem_singleton.mp z]
      exact h⟩
theorem AdS.two {H0 H : Hp} {tp p0 a1 a2 : Addr} {ds : List Addr} (I : AdS H0 H tp p0 a1 a2 ds) {p a b : Addr} {n m d e : Nat} (h : Hd) (hh : h = .plus ∨ h = .less) (x : TmB H n d a) (y : TmB H m e b) (hp : H p = none) (c : 1 + n + m ≤ 13) (c2 : max d e + 1 ≤ 5) :
    AdS H0 (upd H p (.tup [.str (hs h), .ref a, .ref b])) tp p0 a1 a2 (ds ++ [p]) := (I.new hp _).put ((tb_new hh x y hp).le c c2)
theorem AdS.fin {H0 HJ H5 H6 : Hp} {tp p0 a1 a2 : Addr} {ds : List Addr} {Q : VK} (J : AdS H0 HJ tp p0 a1 a2 ds) (b5 : But1 tp HJ H5) (t5 : Tp H5 tp) (b6 : But1 tp H5 H6) (t6 : Tp H6 tp)
    (q : ∀ a t H', But1 tp H0 H' → Tp H' tp → At H' t a → LTm t → Q (.ref a) H') : (∀ d ∈ ds, Q (.ref d) H6) ∧ Q (.ref p0) H6 ∧ Q (.ref a1) H6 := by
  have k6 : TK HJ H6 := (tp_tk J.t b5).trans (tp_tk t5 b6)
  have fin : ∀ d, TmB HJ 13 5 d → Q (.ref d) H6 := fun d hd => by
    obtain ⟨t, h1, h2⟩ := (hd.tk k6).lt
    exact q d t H6 ((J.b.trans b5).trans b6) t6 h1 h2
  exact ⟨fun d hd => fin d (J.ds d hd), fin _ (J.g0.le (by decide) (by decide)), fin _ (J.g1.le (by decide) (by decide))⟩
section
variable {P : Program} {w : World} {K : PySem.W.Frag} {mg : Str → Option Value} {base : Heap}
/-! ### _law_adding -/
end
end KB

namespace KB
open PySem L2

abbrev kgO : Key := Sum.inr "own"
abbrev kgI : Key := Sum.inr "wild"
def klT (el hd wl pl : Addr) (own : Str) (wild : Int) : List (Key × V) := [(kgE, .ref el), (kgH, .ref hd), (kgW, .ref wl), (kgP, .ref pl), (kgO, .str own), (kgI, .int wild)]
/-- what the generator of laid parts has at hand -/
structure GL (H : Hp) (tp kd wl pl : Addr) (ws js : List Str) : Prop where
  t : Tp H tp
  w : Wls H wl ws
  p : Wls H pl js
  wn : ws.length ≤ 100
  pn : js.length ≤ 100
  wp : wl ≠ pl
  k : ∃ el hd fs kvs own wild, H kd = some (.dK (klT el hd wl pl own wild)) ∧ 1 ≤ wild ∧ wild ≤ 3 ∧ own ∈ fs ∧ el ≠ wl ∧ el ≠ pl ∧ Wls H el fs ∧ 0 < fs.length ∧ fs.length ≤ 100 ∧ H hd = some (.dK kvs) ∧ ∀ f ∈ fs, ∃ n : Int, valV kvs (Sum.inr f) = some (.int n) ∧ 0 ≤ n ∧ n ≤ 4
section
variable {H H' : Hp} {tp kd wl pl : Addr} {ws js ws' js' : List Str}
theorem GL.ntk (g : GL H tp kd wl pl ws js) {a : Addr} {o : HO} (h : H a = some o) (hn : ∀ xs, o ≠ .lst xs) : a ≠ tp ∧ a ≠ wl ∧ a ≠ pl := by
  obtain ⟨z, hz⟩ := g.t
  exact ⟨ne_of h hz (hn _), ne_of h g.w.1 (hn _), ne_of h g.p.1 (hn _)⟩
theorem GL.tk (g : GL H tp kd wl pl ws js) (b : But3 tp wl pl H H') : TK H H' := fun a _ h => by
  obtain ⟨n1, n2, n3⟩ := g.ntk h (fun _ z => nomatch z)
  exact b a _ n1 n2 n3 h
theorem GL.step (g : GL H tp kd wl pl ws js) (b : But3 tp wl pl H H') (t : Tp H' tp) (w : Wls H' wl ws') (p : Wls H' pl js') (wn : ws'.length ≤ 100) (pn : js'.length ≤ 100) : GL H' tp kd wl pl ws' js' := by
  obtain ⟨el, hd, fs, kvs, own, wild, k1, r1, r2, r3, k2, k2', k3, k4, k5, k6, k7⟩ := g.k
  refine ⟨t, w, p, wn, pn, g.wp, el, hd, fs, kvs, own, wild, ?_, r1, r2, r3, k2, k2', ⟨b _ _ (wls_tp k3.1 g.t) k2 k2' k3.1, k3.2⟩, k4, k5, ?_, k7⟩
  · obtain ⟨n1, n2, n3⟩ := g.ntk k1 (fun _ z => nomatch z)
    exact b _ _ n1 n2 n3 k1
  · obtain ⟨n1, n2, n3⟩ := g.ntk k6 (fun _ z => nomatch z)
    exact b _ _ n1 n2 n3 k6
theorem GL.one (g : GL H tp kd wl pl ws js) (b : But1 tp H H') (t : Tp H' tp) : GL H' tp kd wl pl ws js := g.step b.three t (g.w.but b g.t) (g.p.but b g.t) g.wn g.pn
theorem GL.same (g : GL H tp kd wl pl ws js) (e : Same H H') : GL H' tp kd wl pl ws js := g.one (but_same e) (g.t.same e)
theorem Wls.threeL {a : Addr} {xs : List Str} (e : But3 tp wl pl H H') (g : GL H tp kd wl pl ws js) (n : a ≠ wl) (m : a ≠ pl) (h : Wls H a xs) : Wls H' a xs := ⟨e _ _ (wls_tp h.1 g.t) n m h.1, h.2⟩
theorem GL.new (g : GL H tp kd wl pl ws js) {p : Addr} (h : H p = none) : p ≠ tp ∧ p ≠ wl ∧ p ≠ pl := by
  obtain ⟨z, hz⟩ := g.t
  exact ⟨(ne_of_none hz h).symm, (ne_of_none g.w.1 h).symm, (ne_of_none g.p.1 h).symm⟩
variable {el hd : Addr} {own : Str} {wild : Int}
end
section
variable {P : Program} {w : World} {K : PySem.W.Frag} {mg : Str → Option Value} {base : Heap}
/-! ### _law_laid_ask -/
end
end KB

namespace KB
open PySem L2

/-- what stands around a laid part that is to be drawn -/
structure PtL (H : Hp) (tp kd wl pl ar : Addr) (ws js xs : List Str) : Prop where
  g : GL H tp kd wl pl ws js
  w : Wls H ar xs
  a1 : ar ≠ wl
  a2 : ar ≠ pl
  wj : ws.length ≤ js.length
  l1 : xs.length + ws.length ≤ 200
theorem PtL.step {H H' : Hp} {tp kd wl pl ar : Addr} {ws js ws' js' xs : List Str} (I : PtL H tp kd wl pl ar ws js xs) (b : But3 tp wl pl H H') (g : GL H' tp kd wl pl ws' js') (wj : ws'.length ≤ js'.length) (l1 : ws'.length ≤ ws.length) : PtL H' tp kd wl pl ar ws' js' xs := by
  have h1 := I.l1
  exact ⟨g, I.w.threeL b I.g I.a1 I.a2, I.a1, I.a2, wj, by omega⟩
theorem PtL.one {H H' : Hp} {tp kd wl pl ar : Addr} {ws js xs : List Str} (I : PtL H tp kd wl pl ar ws js xs) (b : But1 tp H H') (t : Tp H' tp) : PtL H' tp kd wl pl ar ws js xs := I.step b.three (I.g.one b t) I.wj (Nat.le_refl _)
theorem PtL.same {H H' : Hp} {tp kd wl pl ar : Addr} {ws js xs : List Str} (I : PtL H tp kd wl pl ar ws js xs) (s : Same H H') : PtL H' tp kd wl pl ar ws js xs := I.one (but_same s) (I.g.t.same s)
section
variable {P : Program} {w : World} {K : PySem.W.Frag} {mg : Str → Option Value} {base : Heap}
/-! ### _law_laid_part -/
end
end KB

namespace KB
open PySem L2 HT
/-! ### terms as data -/
/-! ### parts of turned books as data -/
/-- a simple term, good -/
structure STm_5 (t : Tm) : Prop where
  ok : okT t
  si : simple t = true
  cn : cnt t ≤ 13
  ht : HtLe 5 t
/-! ### all parts and terms of a part, counted -/
end KB

namespace KB
open PySem L2

/-! ### simple terms, seen -/
inductive ST
  | num (z : Int)
  | nam (x : Str)
  | two (l : Bool) (a b : ST)
def hdB (l : Bool) : Hd := if l then .less else .plus
def SAt (H : Hp) : ST → Addr → Prop
  | .num z, a => H a = some (.tup [.str "number", .int z])
  | .nam x, a => H a = some (.tup [.str "name", .str x])
  | .two l s t, a => ∃ b c, H a = some (.tup [.str (hs (hdB l)), .ref b, .ref c]) ∧ SAt H s b ∧ SAt H t c
theorem SAt.tk {H H' : Hp} (k : TK H H') : ∀ {s : ST} {a : Addr}, SAt H s a → SAt H' s a
  | .num _, _, h => k _ _ h
  | .nam _, _, h => k _ _ h
  | .two _ _ _, _, ⟨b, c, h, h1, h2⟩ => ⟨b, c, k _ _ h, SAt.tk k h1, SAt.tk k h2⟩
section
variable {P : Program} {w : World} {K : PySem.W.Frag} {mg : Str → Option Value} {base : Heap}
/-! ### _law_names_in -/
/-! ### _law_taken -/
end
end KB

namespace KB
open PySem L2

/-! ### the least place -/
def ltL : List Int → List Int → Bool
  | _, [] => false
  | [], _ :: _ => true
  | a :: r, b :: s => decide (a < b) || (decide (a = b) && ltL r s)
theorem ltL_irr : ∀ xs : List Int, ltL xs xs = false
  | [] => rfl
  | a :: r => by
    unfold ltL
    rw [ltL_irr r]
    simp
theorem ltL_tr : ∀ {xs ys zs : List Int}, ltL xs ys = true → ltL ys zs = true → ltL xs zs = true
  | xs, [], zs, h, _ => by
    cases xs <;> cases h
  | xs, b :: s, [], _, h => by cases h
  | [], b :: s, c :: t, _, _ => rfl
  | a :: r, b :: s, c :: t, h1, h2 => by
    unfold ltL at h1 h2 ⊢
    simp only [Bool.or_eq_true, Bool.and_eq_true, decide_eq_true_eq] at h1 h2 ⊢
    rcases h1 with h1 | ⟨h1, g1⟩
    · rcases h2 with h2 | ⟨h2, g2⟩
      · left
        omega
      · left
        omega
    · rcases h2 with h2 | ⟨h2, g2⟩
      · left
        omega
      · right
        exact ⟨by omega, ltL_tr g1 g2⟩
theorem ltL_cons (k : Int) (xs ys : List Int) : ltL (k :: xs) (k :: ys) = ltL xs ys := by
  show (decide (k < k) || (decide (k = k) && ltL xs ys)) = _
  simp
theorem ltL_lt {k l : Int} (h : k < l) (xs ys : List Int) : ltL (k :: xs) (l :: ys) = true := by
  show (decide (k < l) || _) = true
  rw [decide_eq_true h]
  rfl
/-- d is a least one of these -/
def MinOf (xs : List (List Int)) : Option (List Int) → Prop
  | none => xs = []
  | some m => m ∈ xs ∧ ∀ y ∈ xs, ltL y m = false
theorem MinOf.less {xs : List (List Int)} {m x : List Int} (h : MinOf xs (some m)) (c : ltL x m = true) : MinOf (xs ++ [x]) (some x) := by
  refine ⟨List.mem_append_right _ List.mem_cons_self, fun y hy => ?_⟩
  rcases List.mem_append.mp hy with z | z
  · cases e : ltL y x with
    | false => rfl
    | true =>
      have h1 := ltL_tr e c
      rw [h.2 y z] at h1
      cases h1
  · rw [List.mem_singleton.mp z]
    exact ltL_irr x
theorem MinOf.keep {xs : List (List Int)} {m x : List Int} (h : MinOf xs (some m)) (c : ltL x m = false) : MinOf (xs ++ [x]) (some m) := by
  refine ⟨List.mem_append_left _ h.1, fun y hy => ?_⟩
  rcases List.mem_append.mp hy with z | z
  · exact h.2 y z
  · rw [List.mem_singleton.mp z]
    exact c
/-! ### the asks that are handed on, as the law meets them and as the program does -/
def orO {α : Type} : Option α → Option α → Option α
  | some a, _ => some a
  | none, b => b
/-- d is the least of these, all others are greater -/
def Least (xs : List (List Int)) : Option (List Int) → Prop
  | none => xs = []
  | some m => m ∈ xs ∧ ∀ y ∈ xs, y = m ∨ ltL m y = true
theorem Least.map {xs : List (List Int)} {d : Option (List Int)} (k : Int) (h : Least xs d) : Least (xs.map (k :: ·)) (d.map (k :: ·)) := by
  cases d with
  | none =>
    have h : xs = [] := h
    rw [h]
    rfl
  | some m =>
    refine ⟨List.mem_map.mpr ⟨m, h.1, rfl⟩, fun y hy => ?_⟩
    obtain ⟨z, hz, rfl⟩ := List.mem_map.mp hy
    rcases h.2 z hz with e | e
    · left
      rw [e]
    · right
      rw [ltL_cons]
      exact e
theorem Least.two {xs ys : List (List Int)} {d e : Option (List Int)} {k l : Int} (hkl : k < l) (h1 : Least xs d) (h2 : Least ys e) : Least (xs.map (k :: ·) ++ ys.map (l :: ·)) (orO (d.map (k :: ·)) (e.map (l :: ·))) := by
  have g1 := h1.map k
  have g2 := h2.map l
  cases d with
  | none =>
    have h1 : xs = [] := h1
    rw [h1]
    exact g2
  | some m =>
    refine ⟨List.mem_append_left _ g1.1, fun y hy => ?_⟩
    rcases List.mem_append.mp hy with z | z
    · exact g1.2 y z
    · obtain ⟨v, _, rfl⟩ := List.mem_map.mp z
      exact .inr (ltL_lt hkl _ _)
end KB

namespace KB
open PySem L2

/-! ### no place twice -/
theorem plL_head {N : Type} {pl : N → List (List Int × N)} : ∀ {ns : List N} {j : Nat} {e : List Int × N}, e ∈ plL pl j ns → ∃ (k : Nat) (r : List Int), j ≤ k ∧ e.1 = (k : Int) :: r
  | [], _, _, h => nomatch h
  | n :: ns, j, e, h => by
    rcases List.mem_append.mp h with z | z
    · obtain ⟨u, _, rfl⟩ := List.mem_map.mp z
      exact ⟨j, u.1, Nat.le_refl _, rfl⟩
    · obtain ⟨k, r, h1, h2⟩ := plL_head z
      exact ⟨k, r, by omega, h2⟩
theorem plL_nd {N : Type} {pl : N → List (List Int × N)} : ∀ {ns : List N} {j : Nat}, (∀ n ∈ ns, ((pl n).map (·.1)).Nodup) → ((plL pl j ns).map (·.1)).Nodup
  | [], _, _ => List.nodup_nil
  | n :: ns, j, h => by
    show (((pl n).map (fun e => ((j : Int) :: e.1, e.2)) ++ plL pl (j + 1) ns).map (·.1)).Nodup
    rw [List.map_append, List.nodup_append]
    refine ⟨?_, plL_nd fun m hm => h m (List.mem_cons_of_mem _ hm), ?_⟩
    · rw [List.map_map]
      have e : ((fun x : List Int × N => x.1) ∘ fun e : List Int × N => ((j : Int) :: e.1, e.2)) = (((j : Int) :: ·) ∘ (·.1)) := rfl
      rw [e, ← List.map_map]
      exact List.Pairwise.map _ (fun a b hab z => hab (List.cons.inj z).2) (h n List.mem_cons_self)
    · intro a ha b hb
      obtain ⟨u, hu, rfl⟩ := List.mem_map.mp ha
      obtain ⟨v, _, rfl⟩ := List.mem_map.mp hu
      obtain ⟨u2, hu2, rfl⟩ := List.mem_map.mp hb
      obtain ⟨k, r, h1, h2⟩ := plL_head hu2
      rw [h2]
      intro z
      have := (List.cons.inj z).1
      omega
theorem sz_mem {N : Type} (R : Tre N) : ∀ {ns : List N} {n : N}, n ∈ ns → R.sz n ≤ (ns.map R.sz).sum
  | m :: r, n, h => by
    rcases List.mem_cons.mp h with z | z
    · rw [z]
      show R.sz m ≤ R.sz m + (r.map R.sz).sum
      omega
    · have := sz_mem R z
      show R.sz n ≤ R.sz m + (r.map R.sz).sum
      omega
theorem pl_nd {N : Type} (R : Tre N) : ∀ (m : Nat) (n : N), R.sz n ≤ m → ((R.pl n).map (·.1)).Nodup
  | 0, n, h => by
    have := R.szk n
    omega
  | m + 1, n, h => by
    rw [R.plk, List.map_cons, List.nodup_cons]
    have hs := R.szk n
    refine ⟨fun z => ?_, plL_nd fun k hk => pl_nd R m k (by have := sz_mem R hk; omega)⟩
    obtain ⟨u, hu, e⟩ := List.mem_map.mp z
    obtain ⟨k, r, _, h2⟩ := plL_head hu
    rw [h2] at e
    cases e
/-! ### what is known of an entry -/
theorem LTm.st {t : Tm} (h : LTm t) : STm_5 t := ⟨h.ok, h.si, h.cn, h.ht⟩
end KB

namespace KB
open PySem PySem.Spec PyProof.Rows L2

/-! ### for k, v in d.items(), the keys tuples -/
section
variable {X : Cx} {pins : List (Addr × Obj)} {σ : L2.St} {H : Hp} {s : Shared} {d : Addr} {o : Obj}
theorem frz_tup {kvs : List (List L2.Key × L2.V)} (I : Inv X pins σ H s) (h : H d = some (.frz o (.dT kvs))) :
    (d == sysModules) = false ∧ s.heap.get? d = some o ∧ o.ExactDict ∧ ∃ (es : Array DictEntry) (ep : Nat), o.data = .dict es ep ∧ es.size = kvs.length ∧
      ∀ (i : Nat) (k : List L2.Key) (v : L2.V), kvs[i]? = some (k, v) → ∃ (en : DictEntry) (q : Addr), es[i]? = some en ∧ en.key = .ref q ∧ H q = some (.tup (k.map kV)) ∧ RelV v en.val := by
  obtain ⟨hd, z, hs, xs, pr, o', es, ep, ho, hx, hdt, he, _⟩ := I.hok d _ h
  rw [hd] at ho
  cases ho
  refine ⟨hs, hd, hx, es, ep, hdt, ?_, fun i k v e => ?_⟩
  · have l1 : es.size = xs.length := size_of_entries he
    have l2 : kvs.length = xs.length := Paired.length pr
    omega
  · obtain ⟨b, hb, e1, e2, e3⟩ := paired_get pr e
    have g := entry_at he i
    rw [hb] at g
    exact ⟨_, b.2.1, g, rfl, e2, e3⟩
end
/-- the pairs of the locked dict at d, each a new tuple: the key's own tuple, the value -/
def ItT (d : Addr) (o : Obj) (kvs : List (List L2.Key × L2.V)) : It :=
  ⟨fun i H => H d = some (.frz o (.dT kvs)) ∧ i < kvs.length, fun i H x H' => ∃ T k v q, kvs[i]? = some (k, v) ∧ H q = some (.tup (k.map kV)) ∧ x = .ref T ∧ H T = none ∧ H' = upd H T (.tup [.ref q, v]), fun i H => H d = some (.frz o (.dT kvs)) ∧ kvs.length ≤ i⟩
section
variable {P : Program} {w : World} {K : PySem.W.Frag} {d : Addr} {o : Obj} {es : Array DictEntry} {ep : Nat}
theorem turn_tup {kvs : List (List L2.Key × L2.V)} {elts : List Expr} {kk : Nat} {tpos : Pos} (it : Addr) (hod : o.data = .dict es ep) :
    Turn P w K (.Tuple elts kk tpos) (ItT d o kvs) [it] it (fun i h => ∃ ok ov, IsItemIter h it d i kvs.length ep ok ov) where
  mem := by simp
  obj := fun i h st b hb => by
    have e : b = it := by simpa using hb
    subst e
    obtain ⟨ok, ov, e⟩ := st
    exact ⟨_, e, fun v z => nomatch z⟩
  keep := fun i h h' st k => let ⟨ok, ov, e⟩ := st; ⟨ok, ov, k it (by simp) _ e⟩
  item := by
    intro X hP hw hK hc i pins s σ H E I hf st hg
    subst hP hw hK
    obtain ⟨hd, hi⟩ := hg
    obtain ⟨hs, hgd, hx, es', ep', hdt, hsz, ent⟩ := frz_tup I hd
    obtain ⟨rfl, rfl⟩ := dict_ep hod hdt
    obtain ⟨⟨k, v⟩, hkv⟩ : ∃ p, kvs[i]? = some p := ⟨kvs[i], List.getElem?_eq_getElem hi⟩
    obtain ⟨en, q, hen, hkey, hq, rv⟩ := ent i k v hkv
    obtain ⟨ok, ov, he⟩ := st
    rw [← hsz] at he
    have hlt : it < s.heap.objs.size := Heap.lt_size he
    have hie : i < es'.size := by omega
    have een : es'[i] = en := by
      rw [Array.getElem?_eq_getElem hie] at hen
      exact Option.some.inj hen
    refine DT.nextI he ⟨o, hgd, hx, hdt⟩ hie fun h' ho hT hz hk => ?_
    rw [een, hkey] at ho hT
    refine ⟨_, rfl, wpAny_letOwnedTupleGo_items (s := { s with heap := h' }) ho fun h'' he' sb => ?_⟩
    have hT2 : h''.get? s.heap.objs.size = some { cls := .type "tuple", data := .seq #[.ref q, en.val] } := (sb.2 _ (Nat.ne_of_gt hlt)).trans hT
    have new : ObjOk X.prog X.w (upd H s.heap.objs.size (.tup [.ref q, v])) h'' s.heap.objs.size (.tup [.ref q, v]) :=
      ⟨by show 2 ≤ sizeLine; decide, [.ref q, en.val], .cons rfl (.cons rv .nil), ⟨_, hT2, rfl, _, rfl⟩⟩
    have I1 : Inv X pins σ (upd H s.heap.objs.size (.tup [.ref q, v])) { s with heap := h'' } :=
      I.turnedNew (t' := s.toks) (ch := [it]) (fun b ob hb e => (sb.2 b (by simpa using hb)).trans (hk b ob (by simpa using hb) e)) hf (Nat.le_refl _) new
    refine ⟨.ref s.heap.objs.size, _, I1, rfl, ⟨_, k, v, q, hkv, hq, rfl, I.hok.fresh (Nat.le_refl _), rfl⟩, ⟨.ref q, en.val, ?_⟩, fun b hb => ?_⟩
    · rw [← hsz]; exact he'
    · have e : b = it := by simpa using hb
      rw [e, upd_ne (Nat.ne_of_lt hlt)]
      exact (hf it (by simp)).1
  done := by
    intro X hP hw hK hc i pins s σ H E I hf st hg
    subst hP hw hK
    obtain ⟨hd, hi⟩ := hg
    obtain ⟨f0, f1, f2, f3, f4, f5⟩ := hf it (by simp)
    obtain ⟨hs, hgd, hx, es', ep', hdt, hsz, ent⟩ := frz_tup I hd
    obtain ⟨rfl, rfl⟩ := dict_ep hod hdt
    obtain ⟨ok, ov, he⟩ := st
    rw [← hsz] at he
    exact DT.endI (I.ok.hd hc) he ⟨o, hgd, hx, hdt⟩ (by omega) fun h' eb => ⟨rfl, I.turned (t' := s.toks) (fun b ob hb e => eb b ob hb e) f0 f1 f3 f4 f5⟩
  self := fun A i s Q E st h => let ⟨_, _, e⟩ := st; PySem.W.kcp_self e h
end
def iTupItems (td : TE) : TI := fun σ H R => td σ H fun x H1 => ∃ d o kvs, x = .ref d ∧ H1 d = some (.frz o (.dT kvs)) ∧ R (ItT d o kvs) H1
theorem pi_tupItems {X : Cx} {e : Expr} {td : TE} {apos cpos : Pos} {elts : List Expr} {kk : Nat} {tpos : Pos} (he : PE X e td) (hbase : attributeBase e "items" X.env (eval e X.env) = eval e X.env := by rfl) (hline : (apos.endLine == cpos.line) = true := by rfl) :
    PI X (.Tuple elts kk tpos) (.Call (.Attribute e "items" apos) [] [] cpos) (iTupItems td) := by
  refine ⟨fun pins s σ H R I h => ?_⟩
  refine wpAny_Call_method (T := "dict") (id := "dict.items") hbase rfl hline F.plainAttrs_dict F.slot_dict_items F.type_dict_items (thn (he.run pins s σ H _ I h) fun u s1 ⟨x, H1, I1, rx, d, o, kvs, ex, hd, q⟩ => ?_)
  subst ex
  obtain rfl : u = Value.ref d := rx
  obtain ⟨hs, hgd, hx, es, ep, hdt, hsz, ent⟩ := frz_tup I1 hd
  have raw : DT.Raw s1.heap d es ep := ⟨o, hgd, hx, hdt⟩
  refine ⟨raw.typeIs, fun b z => ?_, ?_⟩
  · cases z
    exact ⟨o, hgd, hx.2.1⟩
  have I2 : Inv X pins σ H1 { s1 with heap := s1.heap.push { cls := .type "dict_items", data := .fields #[.ref d] } } := I1.kept (t' := s1.toks) fun b ob z => Heap.get?_push_of_some _ z
  have fin : wpAny (model X.prog X.w) X.A (pyIter (.ref s1.heap.objs.size)) (PIE X pins σ (.Tuple elts kk tpos) R) X.xe { s1 with heap := s1.heap.push { cls := .type "dict_items", data := .fields #[.ref d] } } := by
    refine DT.iterI (d := d) ⟨_, Heap.get?_push_size _ rfl, rfl, rfl⟩ (raw.push _) (pi_one (tk := s1.toks) I2 _ (turn_tup _ hdt) ⟨.none, .none, ?_⟩ q)
    rw [← hsz]
    exact Heap.get?_push_size _ rfl
  show wpAny _ _ (callWith cpos (.builtin "dict.items") [.ref d] [] []) _ X.xe s1
  exact method_meetsIn F.slot_dict_items F.entry_dict_items rfl (PySem.evalArgs_none ⟨rfl, raw.typeIs, F.args_dict_items_1 _, _, DT.meetsItems (es := es) (ep := ep) hs, raw, fin⟩)
theorem walk_tupItems {d : Addr} {o : Obj} {kvs : List (List L2.Key × L2.V)} : Walk (ItT d o kvs) kvs.length (fun H => H d = some (.frz o (.dT kvs))) (fun i H x H' => ∃ T k v q, kvs[i]? = some (k, v) ∧ H q = some (.tup (k.map kV)) ∧ x = .ref T ∧ H T = none ∧ H' = upd H T (.tup [.ref q, v])) :=
  ⟨fun _ _ hi g => ⟨g, hi⟩, fun _ g => ⟨g, Nat.le_refl _⟩, fun _ _ _ _ _ _ y => y⟩
end KB

namespace KB
open PySem L2 HT

theorem put_new {kvs : List (List L2.Key × L2.V)} {k : List L2.Key} {v : L2.V} (h : k ∉ kvs.map (·.1)) : putK kvs k v = kvs ++ [(k, v)] := by
  unfold putK
  rw [if_neg]
  intro z
  obtain ⟨x, hx, e⟩ := List.any_eq_true.mp z
  exact h (List.mem_map.mpr ⟨x, hx, of_decide_eq_true e⟩)
def keyP (f : Str) (pl : List Int) : List L2.Key := .inr f :: pl.map .inl
theorem keyP_V (f : Str) (pl : List Int) : (keyP f pl).map kV = .str f :: pl.map V.int := by
  unfold keyP
  rw [List.map_cons, List.map_map]
  rfl
theorem keyP_inj {f : Str} {a b : List Int} (h : keyP f a = keyP f b) : a = b := by
  have h := (List.cons.inj h).2
  induction a generalizing b with
  | nil =>
    cases b with
    | nil => rfl
    | cons y s => cases h
  | cons x r ih =>
    cases b with
    | nil => cases h
    | cons y s =>
      obtain ⟨h1, h2⟩ := List.cons.inj h
      rw [Sum.inl.inj h1, ih (b := s) (by unfold keyP; exact congrArg _ h2) h2]
section
variable {P : Program} {w : World} {K : PySem.W.Frag} {mg : Str → Option Value} {base : Heap} {CN : Addr}
/-! ### not_carried_at -/
end
end KB

namespace KB
open PySem L2

/-! ### asks, each by its place, and rows of them -/
abbrev Pl := Str × List Int
abbrev Ak := Pl × Str × Nat
inductive Row (A : List Ak) : Str → List Ak → Str → Prop
  | nil {f : Str} : Row A f [] f
  | cons {a : Ak} {r : List Ak} {g : Str} : a ∈ A → Row A a.2.1 r g → Row A a.1.1 (a :: r) g
def wtR (r : List Ak) : Nat := (r.map (·.2.2)).sum
theorem wtR_app (r q : List Ak) : wtR (r ++ q) = wtR r + wtR q := by
  unfold wtR
  rw [List.map_append, List.sum_append]
theorem wtR_cons (a : Ak) (r : List Ak) : wtR (a :: r) = a.2.2 + wtR r := rfl
theorem Row.cons' {A : List Ak} {a : Ak} {r : List Ak} {f g : Str} (h : a ∈ A) (e : a.1.1 = f) (k : Row A a.2.1 r g) : Row A f (a :: r) g := e ▸ .cons h k
theorem Row.app {A : List Ak} {f g h : Str} {r q : List Ak} (a : Row A f r g) (b : Row A g q h) : Row A f (r ++ q) h := by
  induction a with
  | nil => exact b
  | cons m _ ih => exact .cons m (ih b)
theorem Row.snoc {A : List Ak} {f g : Str} {r : List Ak} {a : Ak} (h : Row A f r g) (m : a ∈ A) (e : a.1.1 = g) : Row A f (r ++ [a]) a.2.1 := h.app (.cons' m e .nil)
theorem Row.mem {A : List Ak} {f g : Str} {r : List Ak} (h : Row A f r g) : ∀ a ∈ r, a ∈ A := by
  induction h with
  | nil => exact fun _ z => nomatch z
  | cons m _ ih =>
    intro b hb
    rcases List.mem_cons.mp hb with z | z
    · rw [z]; exact m
    · exact ih b z
theorem Row.to {A : List Ak} {f g : Str} {r : List Ak} (h : Row A f r g) : ∀ b ∈ r, ∃ q, Row A f q b.1.1 := by
  induction h with
  | nil => exact fun _ z => nomatch z
  | @cons a r g m _ ih =>
    intro b hb
    rcases List.mem_cons.mp hb with z | z
    · rw [z]; exact ⟨[], .nil⟩
    · obtain ⟨q, hq⟩ := ih b z
      exact ⟨a :: q, .cons m hq⟩
/-- names that no ask leads out of -/
def Cl (A : List Ak) (N : List Str) : Prop := ∀ a ∈ A, a.1.1 ∈ N → a.2.1 ∈ N
theorem Row.cl {A : List Ak} {N : List Str} (c : Cl A N) {f g : Str} {r : List Ak} (h : Row A f r g) : f ∈ N → g ∈ N ∧ ∀ a ∈ r, a.1.1 ∈ N := by
  induction h with
  | nil => exact fun m => ⟨m, fun _ z => nomatch z⟩
  | @cons a r g m _ ih =>
    intro hf
    obtain ⟨x, y⟩ := ih (c a m hf)
    refine ⟨x, fun b hb => ?_⟩
    rcases List.mem_cons.mp hb with z | z
    · rw [z]; exact hf
    · exact y b z
/-! ### no ring: so many weigh at most -/
def NR (A : List Ak) (N : List Str) : Prop := ∀ a ∈ A, 0 < a.2.2 → a.1.1 ∈ N → ∀ r, ¬ Row A a.2.1 r a.1.1
def srcs (r : List Ak) : List Str := (r.filter fun a => decide (0 < a.2.2)).map (·.1.1)
theorem srcs_mem {r : List Ak} {s : Str} (h : s ∈ srcs r) : ∃ a ∈ r, 0 < a.2.2 ∧ a.1.1 = s := by
  obtain ⟨a, ha, e⟩ := List.mem_map.mp h
  obtain ⟨h1, h2⟩ := List.mem_filter.mp ha
  exact ⟨a, h1, of_decide_eq_true h2, e⟩
theorem nodup_le : ∀ {xs ys : List Str}, xs.Nodup → (∀ x ∈ xs, x ∈ ys) → xs.length ≤ ys.length
  | [], ys, _, _ => Nat.zero_le _
  | x :: xs, ys, nd, h => by
    obtain ⟨n1, n2⟩ := List.nodup_cons.mp nd
    have hx : x ∈ ys := h x List.mem_cons_self
    have l := List.length_erase_of_mem hx
    have i := nodup_le (xs := xs) (ys := ys.erase x) n2 fun y hy => (List.mem_erase_of_ne (show y ≠ x from fun e => n1 (by rw [← e]; exact hy))).mpr (h y (List.mem_cons_of_mem _ hy))
    have p : 0 < ys.length := List.length_pos_of_mem hx
    rw [List.length_cons]
    omega
theorem srcs_ok {A : List Ak} {N : List Str} (c : Cl A N) (nr : NR A N) {f g : Str} {r : List Ak} (h : Row A f r g) : f ∈ N → (srcs r).Nodup ∧ ∀ s ∈ srcs r, s ∈ N := by
  induction h with
  | nil => exact fun _ => ⟨List.nodup_nil, fun _ z => nomatch z⟩
  | @cons a r g m k ih =>
    intro hf
    obtain ⟨x, y⟩ := ih (c a m hf)
    by_cases w : 0 < a.2.2
    · have e : srcs (a :: r) = a.1.1 :: srcs r := by
        unfold srcs
        rw [List.filter_cons_of_pos (by exact decide_eq_true w)]
        rfl
      rw [e]
      refine ⟨List.nodup_cons.mpr ⟨fun z => ?_, x⟩, fun s hs => ?_⟩
      · obtain ⟨b, hb, _, e2⟩ := srcs_mem z
        obtain ⟨q, hq⟩ := k.to b hb
        rw [e2] at hq
        exact nr a m w hf q hq
      · rcases List.mem_cons.mp hs with z | z
        · rw [z]; exact hf
        · exact y s z
    · have e : srcs (a :: r) = srcs r := by
        unfold srcs
        rw [List.filter_cons_of_neg (by show ¬ decide (0 < a.2.2) = true; rw [decide_eq_false w]; exact Bool.false_ne_true)]
      rw [e]
      exact ⟨x, y⟩
theorem wt_srcs {A : List Ak} (w1 : ∀ a ∈ A, a.2.2 ≤ 1) : ∀ {r : List Ak}, (∀ a ∈ r, a ∈ A) → wtR r = (srcs r).length
  | [], _ => rfl
  | a :: r, h => by
    have i := wt_srcs w1 (r := r) fun b hb => h b (List.mem_cons_of_mem _ hb)
    have ha := w1 a (h a List.mem_cons_self)
    rw [wtR_cons, i]
    by_cases w : 0 < a.2.2
    · have e : srcs (a :: r) = a.1.1 :: srcs r := by
        unfold srcs
        rw [List.filter_cons_of_pos (by exact decide_eq_true w)]
        rfl
      rw [e, List.length_cons]
      omega
    · have e : srcs (a :: r) = srcs r := by
        unfold srcs
        rw [List.filter_cons_of_neg (by show ¬ decide (0 < a.2.2) = true; rw [decide_eq_false w]; exact Bool.false_ne_true)]
      rw [e]
      omega
theorem wt_le {A : List Ak} {N : List Str} (c : Cl A N) (nr : NR A N) (w1 : ∀ a ∈ A, a.2.2 ≤ 1) {f g : Str} {r : List Ak} (h : Row A f r g) (hf : f ∈ N) : wtR r ≤ N.length := by
  obtain ⟨x, y⟩ := srcs_ok c nr h hf
  rw [wt_srcs w1 h.mem]
  exact nodup_le x y
/-! ### levels -/
def Up (A : List Ak) (N : List Str) (lv : Str → Nat) : Prop := ∀ a ∈ A, a.1.1 ∈ N → lv a.2.1 + a.2.2 ≤ lv a.1.1
def Re (A : List Ak) (N : List Str) (lv : Str → Nat) : Prop := ∀ n ∈ N, ∃ r g, Row A n r g ∧ wtR r = lv n
theorem Up.row {A : List Ak} {N : List Str} {lv : Str → Nat} (u : Up A N lv) (c : Cl A N) {f g : Str} {r : List Ak} (h : Row A f r g) : f ∈ N → wtR r + lv g ≤ lv f := by
  induction h with
  | nil => exact fun _ => by show 0 + _ ≤ _; omega
  | @cons a r g m k ih =>
    intro hf
    have := ih (c a m hf)
    have := u a m hf
    rw [wtR_cons]
    omega
theorem first_w {A : List Ak} {f g : Str} {r : List Ak} (h : Row A f r g) : 0 < wtR r → ∃ p a q, r = p ++ a :: q ∧ wtR p = 0 ∧ 0 < a.2.2 ∧ a ∈ A ∧ Row A f p a.1.1 ∧ Row A a.2.1 q g := by
  induction h with
  | nil => exact fun z => absurd z (Nat.lt_irrefl 0)
  | @cons a r g m k ih =>
    intro hw
    by_cases w : 0 < a.2.2
    · exact ⟨[], a, r, rfl, rfl, w, m, .nil, k⟩
    · rw [wtR_cons] at hw
      obtain ⟨p, b, q, e1, e2, e3, e4, e5, e6⟩ := ih (by omega)
      exact ⟨a :: p, b, q, by rw [e1]; rfl, by rw [wtR_cons]; omega, e3, e4, .cons m e5, e6⟩
/-- there is an ask to one level below -/
theorem step_there {A : List Ak} {N : List Str} {lv : Str → Nat} (u : Up A N lv) (re : Re A N lv) (c : Cl A N) (w1 : ∀ a ∈ A, a.2.2 ≤ 1) {f : Str} (hf : f ∈ N) (h : 0 < lv f) : ∃ p a, Row A f p a.1.1 ∧ a ∈ A ∧ 0 < a.2.2 ∧ lv a.2.1 + 1 = lv f := by
  obtain ⟨r, g, hr, e⟩ := re f hf
  obtain ⟨p, a, q, e1, e2, e3, e4, e5, e6⟩ := first_w hr (by omega)
  have hs := (e5.cl c hf).1
  have h1 := u.row c e6 (c a e4 hs)
  have h2 := u.row c e5 hf
  have h3 := u a e4 hs
  have h4 := w1 a e4
  rw [e1, wtR_app, wtR_cons] at e
  exact ⟨p, a, e5, e4, e3, by omega⟩
/-- rows to all that can be come to -/
structure RowsOk (A : List Ak) (f : Str) (R : List (Str × List Ak)) : Prop where
  nd : (R.map (·.1)).Nodup
  st : f ∈ R.map (·.1)
  so : ∀ x ∈ R, Row A f x.2 x.1
  cl : Cl A (R.map (·.1))
theorem RowsOk.all {A : List Ak} {f : Str} {R : List (Str × List Ak)} (h : RowsOk A f R) {g : Str} {r : List Ak} (k : Row A f r g) : g ∈ R.map (·.1) := (k.cl h.cl h.st).1
/-! ### levels found by rounds -/
def sumL (N : List Str) (lv : Str → Nat) : Nat := (N.map lv).sum
theorem sum_le {N : List Str} {lv : Str → Nat} {B : Nat} (h : ∀ n ∈ N, lv n ≤ B) : sumL N lv ≤ N.length * B := by
  unfold sumL
  induction N with
  | nil => exact Nat.zero_le _
  | cons n N ih =>
    have h1 := h n List.mem_cons_self
    have h2 := ih fun m hm => h m (List.mem_cons_of_mem _ hm)
    rw [List.map_cons, List.sum_cons, List.length_cons, Nat.succ_mul]
    omega
def setL (lv : Str → Nat) (x : Str) (v : Nat) : Str → Nat := fun y => if y = x then v else lv y
theorem sum_set {N : List Str} {lv : Str → Nat} {x : Str} {v : Nat} (hv : lv x < v) : x ∈ N → sumL N lv < sumL N (setL lv x v) := by
  have mono : ∀ M : List Str, sumL M lv ≤ sumL M (setL lv x v) := by
    intro M
    unfold sumL
    induction M with
    | nil => exact Nat.le_refl _
    | cons n M ih =>
      rw [List.map_cons, List.sum_cons, List.map_cons, List.sum_cons]
      have : lv n ≤ setL lv x v n := by
        unfold setL
        split
        · rename_i e; rw [e]; omega
        · exact Nat.le_refl _
      omega
  intro hx
  induction N with
  | nil => cases hx
  | cons n M ih =>
    have m := mono M
    show lv n + sumL M lv < setL lv x v n + sumL M (setL lv x v)
    rcases List.mem_cons.mp hx with z | z
    · have : setL lv x v n = v := if_pos z.symm
      rw [this, ← z]
      omega
    · have := ih z
      have : lv n ≤ setL lv x v n := by
        unfold setL
        split
        · rename_i e; rw [e]; omega
        · exact Nat.le_refl _
      omega
theorem Re.set {A : List Ak} {N : List Str} {lv : Str → Nat} (re : Re A N lv) (c : Cl A N) {a : Ak} (ha : a ∈ A) (hs : a.1.1 ∈ N) : Re A N (setL lv a.1.1 (lv a.2.1 + a.2.2)) := by
  intro n hn
  by_cases e : n = a.1.1
  · obtain ⟨r, g, hr, hw⟩ := re a.2.1 (c a ha hs)
    refine ⟨a :: r, g, .cons' ha e.symm hr, ?_⟩
    rw [wtR_cons, show setL lv a.1.1 (lv a.2.1 + a.2.2) n = lv a.2.1 + a.2.2 from if_pos e]
    omega
  · obtain ⟨r, g, hr, hw⟩ := re n hn
    refine ⟨r, g, hr, ?_⟩
    rw [show setL lv a.1.1 (lv a.2.1 + a.2.2) n = lv n from if_neg e]
    exact hw
theorem Re.le {A : List Ak} {N : List Str} {lv : Str → Nat} (re : Re A N lv) (c : Cl A N) (nr : NR A N) (w1 : ∀ a ∈ A, a.2.2 ≤ 1) : ∀ n ∈ N, lv n ≤ N.length := fun n hn => by
  obtain ⟨r, g, hr, hw⟩ := re n hn
  rw [← hw]
  exact wt_le c nr w1 hr hn
end KB

namespace KB
open PySem L2 HT LamX NdefX

/-! ### asks in the heap -/
def keyA (p : Pl) : List L2.Key := keyP p.1 p.2
def AkE (H : Hp) (a : Ak) (kv : List L2.Key × V) : Prop := kv.1 = keyA a.1 ∧ ∃ b, kv.2 = .ref b ∧ H b = some (.tup [.str a.2.1, .int (a.2.2 : Int)])
def AkL (H : Hp) : List Ak → List (List L2.Key × V) → Prop
  | [], [] => True
  | a :: as, kv :: kvs => AkE H a kv ∧ AkL H as kvs
  | _, _ => False
theorem AkL.tk {H H' : Hp} (t : TK H H') : ∀ {as : List Ak} {kvs : List (List L2.Key × V)}, AkL H as kvs → AkL H' as kvs
  | [], [], _ => trivial
  | _ :: _, _ :: _, ⟨⟨e, b, h1, h2⟩, r⟩ => ⟨⟨e, b, h1, t _ _ h2⟩, r.tk t⟩
  | [], _ :: _, h => h.elim
  | _ :: _, [], h => h.elim
theorem AkL.app {H : Hp} {a : Ak} {kv : List L2.Key × V} (s : AkE H a kv) : ∀ {as : List Ak} {kvs : List (List L2.Key × V)}, AkL H as kvs → AkL H (as ++ [a]) (kvs ++ [kv])
  | [], [], _ => ⟨s, trivial⟩
  | _ :: _, _ :: _, ⟨x, r⟩ => ⟨x, r.app s⟩
  | [], _ :: _, h => h.elim
  | _ :: _, [], h => h.elim
theorem AkL.keys {H : Hp} : ∀ {as : List Ak} {kvs : List (List L2.Key × V)}, AkL H as kvs → kvs.map (·.1) = as.map fun a => keyA a.1
  | [], [], _ => rfl
  | _ :: _, _ :: _, ⟨x, r⟩ => by rw [List.map_cons, List.map_cons, x.1, r.keys]
  | [], _ :: _, h => h.elim
  | _ :: _, [], h => h.elim
theorem AkL.len {H : Hp} {as : List Ak} {kvs : List (List L2.Key × V)} (h : AkL H as kvs) : kvs.length = as.length := by
  have := congrArg List.length h.keys
  rwa [List.length_map, List.length_map] at this
theorem AkL.get {H : Hp} : ∀ {as : List Ak} {kvs : List (List L2.Key × V)}, AkL H as kvs → ∀ {i : Nat} {kv : List L2.Key × V}, kvs[i]? = some kv → ∃ a, as[i]? = some a ∧ AkE H a kv
  | [], [], _, i, kv, h => by simp at h
  | a :: as, kv0 :: kvs, ⟨x, r⟩, 0, kv, h => by
    rw [List.getElem?_cons_zero] at h
    cases h
    exact ⟨a, rfl, x⟩
  | a :: as, kv0 :: kvs, ⟨x, r⟩, i + 1, kv, h => by
    rw [List.getElem?_cons_succ] at h
    exact r.get h
  | [], _ :: _, h, _, _, _ => h.elim
  | _ :: _, [], h, _, _, _ => h.elim
theorem keyA_inj {p q : Pl} (h : keyA p = keyA q) : p = q := by
  have h1 : (Sum.inr p.1 : L2.Key) = Sum.inr q.1 := (List.cons.inj h).1
  have e : p.1 = q.1 := Sum.inr.inj h1
  have h' : keyP p.1 p.2 = keyP p.1 q.2 := by
    have z : keyP p.1 p.2 = keyP q.1 q.2 := h
    rw [z, e]
  exact Prod.ext e (keyP_inj h')
theorem keyA_V (p : Pl) : (keyA p).map kV = .str p.1 :: p.2.map V.int := keyP_V p.1 p.2
def PlAt (H : Hp) (p : Pl) (b : Addr) : Prop := H b = some (.tup (.str p.1 :: p.2.map V.int))
/-! ### asks of parts -/
def akOf (nm : Str) (e : List Int × Nd) : Option Ak := match e.2 with
  | .inl (.ask g _ j) => some ((nm, e.1), g, if j = "home" then 0 else 1)
  | _ => none
def asksE (e : TEr) : List Ak := (plQ e.2.2).filterMap (akOf e.1)
def asksB (es : List TEr) : List Ak := (es.map asksE).flatten
theorem akOf_pl {nm : Str} {e : List Int × Nd} {a : Ak} (h : akOf nm e = some a) : a.1 = (nm, e.1) ∧ a.2.2 ≤ 1 := by
  obtain ⟨ks, n⟩ := e
  cases n with
  | inl p =>
    cases p with
    | ask g ts j =>
      have : some (((nm, ks), g, if j = "home" then 0 else 1) : Ak) = some a := h
      cases this
      refine ⟨rfl, ?_⟩
      show (if j = "home" then 0 else 1) ≤ 1
      split <;> decide
    | _ => cases h
  | inr t => cases h
theorem asks_take {es : List TEr} {i : Nat} {e : TEr} (h : es[i]? = some e) : asksB (es.take (i + 1)) = asksB (es.take i) ++ asksE e := by
  obtain ⟨hi, he⟩ := List.getElem?_eq_some_iff.mp h
  unfold asksB
  rw [List.take_succ_eq_append_getElem hi, List.map_append, List.flatten_append, he]
  simp
theorem asksE_nm {e : TEr} {a : Ak} (h : a ∈ asksE e) : a.1.1 = e.1 ∧ a.2.2 ≤ 1 := by
  obtain ⟨x, hx, hh⟩ := List.mem_filterMap.mp h
  obtain ⟨h1, h2⟩ := akOf_pl hh
  exact ⟨by rw [h1], h2⟩
theorem asksE_nd (e : TEr) : ((asksE e).map (·.1)).Nodup := by
  have h1 : ((plQ e.2.2).map (·.1)).Nodup := pl_nd TrN _ (.inl e.2.2) (Nat.le_refl _)
  have sub : ∀ l : List (List Int × Nd), ((l.filterMap (akOf e.1)).map (·.1)).Sublist (l.map fun x => (e.1, x.1)) := by
    intro l
    induction l with
    | nil => exact List.Sublist.slnil
    | cons x l ih =>
      rw [List.filterMap_cons]
      cases hx : akOf e.1 x with
      | none => exact ih.trans (List.sublist_cons_self _ _)
      | some a =>
        rw [List.map_cons, List.map_cons, (akOf_pl hx).1]
        exact ih.cons_cons _
  refine (sub _).nodup ?_
  rw [show (plQ e.2.2).map (fun x => (e.1, x.1)) = ((plQ e.2.2).map (·.1)).map fun k => (e.1, k) from (List.map_map ..).symm]
  exact List.pairwise_map.mpr (h1.imp fun hab z => hab (Prod.mk.inj z).2)
theorem asksB_nd {es : List TEr} (h : (es.map (·.1)).Nodup) : ((asksB es).map (·.1)).Nodup := by
  induction es with
  | nil => exact List.nodup_nil
  | cons e r ih =>
    obtain ⟨n1, n2⟩ := List.nodup_cons.mp h
    have e1 : asksB (e :: r) = asksE e ++ asksB r := rfl
    rw [e1, List.map_append]
    refine List.nodup_append.mpr ⟨asksE_nd e, ih n2, fun x hx y hy z => ?_⟩
    obtain ⟨a, ha, rfl⟩ := List.mem_map.mp hx
    obtain ⟨b, hb, rfl⟩ := List.mem_map.mp hy
    obtain ⟨l, hl, hb2⟩ := List.mem_flatten.mp hb
    obtain ⟨e2, he2, rfl⟩ := List.mem_map.mp hl
    have h1 := (asksE_nm ha).1
    have h2 := (asksE_nm hb2).1
    refine n1 (List.mem_map.mpr ⟨e2, he2, ?_⟩)
    exact h2.symm.trans ((congrArg Prod.fst z).symm.trans h1)
theorem asksB_w {es : List TEr} : ∀ a ∈ asksB es, a.2.2 ≤ 1 := fun a ha => by
  obtain ⟨l, hl, hb2⟩ := List.mem_flatten.mp ha
  obtain ⟨e2, he2, rfl⟩ := List.mem_map.mp hl
  exact (asksE_nm hb2).2
theorem asksE_len (e : TEr) : (asksE e).length ≤ ncnt e.2.2 := by
  have h1 : (plQ e.2.2).length = ncnt e.2.2 := TrN.pl_len _ (.inl e.2.2) (Nat.le_refl _)
  rw [← h1]
  exact List.length_filterMap_le _ _
theorem asksB_len {es : List TEr} (h : ∀ e ∈ es, ncnt e.2.2 ≤ 1000) : (asksB es).length ≤ 1000 * es.length := by
  induction es with
  | nil => exact Nat.zero_le _
  | cons e r ih =>
    have e1 : asksB (e :: r) = asksE e ++ asksB r := rfl
    have := ih fun x hx => h x (List.mem_cons_of_mem _ hx)
    have := asksE_len e
    have := h e List.mem_cons_self
    rw [e1, List.length_append, List.length_cons]
    omega
theorem But1.tkD {D : Addr} {H H' : Hp} {kvs : List (List L2.Key × V)} (h : H D = some (.dT kvs)) (e : But1 D H H') : TK H H' := fun a xs ha => e a _ (fun z => by rw [z, h] at ha; cases ha) ha
theorem head_ask {H : Hp} {n : Nd} {a : Addr} (h : NAt H n a) : ∃ (x : Str) (r : List V), H a = some (.tup (.str x :: r)) ∧ (x = "ask" → ∃ g ts j, n = .inl (.ask g ts j)) := by
  cases n with
  | inl p =>
    obtain ⟨r, hr⟩ := h.1.head
    refine ⟨hsP p, r, hr, fun e => ?_⟩
    obtain ⟨g, ts, j, rfl⟩ := hsP_ask e
    exact ⟨g, ts, j, rfl⟩
  | inr t =>
    obtain ⟨hT, hsi⟩ := h
    obtain ⟨hh, n, k⟩ := t
    obtain ⟨ys, l, _⟩ := hT
    obtain ⟨r, hd⟩ := l.head
    refine ⟨_, r, hd, fun e => ?_⟩
    have e1 := (simple_mk hsi).1
    cases hh with
    | num z => exact absurd (show ("number" : Str) = "ask" from e) (by decide)
    | nam z => exact absurd (show ("name" : Str) = "ask" from e) (by decide)
    | plus => exact absurd (show ("plus" : Str) = "ask" from e) (by decide)
    | less => exact absurd (show ("less" : Str) = "ask" from e) (by decide)
    | _ => cases e1
section
variable {P : Program} {w : World} {K : PySem.W.Frag} {mg : Str → Option Value} {base : Heap}
/-! ### asks_placed -/
def spAsks : Sp := fun vs H Q _ => ∃ (p : Addr) (es : List TEr) (us : List V), vs = [.ref p] ∧ TBkAt H es us p ∧ es.length ≤ 6 ∧ (∀ e ∈ es, kP e.2.2 ∧ ncnt e.2.2 ≤ 1000) ∧ (es.map (·.1)).Nodup ∧
  ∀ D H' kvs, H D = none → Same H H' → H' D = some (.dT kvs) → AkL H' (asksB es) kvs → Q (.ref D) H'
abbrev sasks_placed : Stmt := top 19
theorem scasks_placed : FnScope ["turned", "asks", "name", "names", "body", "place", "part"] ["turned"] (defScope sasks_placed) := ⟨rfl, rfl, rfl, by decide +kernel, rfl, by decide +kernel, by decide +kernel⟩
theorem ok_asks {th : Value} (eh : mg "HOME" = some th) (rh : RelV (.str "home") th) {f f1 f2 : Addr} {fd d1 d2 : FuncData} (F : Fun K "asks_placed" "asks_placed" sasks_placed f fd)
    (Gplaced : FnOk P w K mg base CX0 3 f1 d1 ["name", "body", "parts"] (spPlaced TrN f2)) (Rplaced : Ref K mg "placed" f1 d1 ["name", "body", "parts"]) (Rturned_parts : Ref K mg "turned_parts" f2 d2 ["part"]) : FnOk P w K mg base CX0 4 f fd ["turned"] spAsks := by
  refine F.ok scasks_placed (fun vs H Q E h => ?_) (fun cdv A outer s H vs Q E hr h => ?_)
  · obtain ⟨p, es, us, rfl, _⟩ := h
    rfl
  obtain ⟨p, es, us, rfl, hB, hl6, hk, hnd, q⟩ := h
  refine ⟨_, (pss_cons (ps_set (i := 1) scasks_placed.nd rfl (Or.inl rfl) pe_dnewT)
    (pss_cons (ps_for PassesOwn.never rfl (pi_tup (pv 0)) (pg_tup rfl (pgs_cons (pg_name (i := 2) scasks_placed.nd rfl (Or.inl rfl)) (pgs_cons (pg_name (i := 3) scasks_placed.nd rfl (Or.inl rfl)) (pgs_cons (pg_name (i := 4) scasks_placed.nd rfl (Or.inl rfl)) pgs_nil)))) (pss_one (ps_for PassesOwn.never rfl (pi_list (pe_call Gplaced (hr.mono (by omega)) rfl Rplaced.m Rplaced.k Rplaced.b .nil pass0 (pa_cons (pv 2) (pa_cons (pv 4) (pa_cons (pe_glob (v := .ref f2) rfl Rturned_parts.m rfl) pa_nil))))) (pg_tup rfl (pgs_cons (pg_name (i := 5) scasks_placed.nd rfl (Or.inl rfl)) (pgs_cons (pg_name (i := 6) scasks_placed.nd rfl (Or.inl rfl)) pgs_nil))) (pss_one (ps_if (pt_cmpR op_eq (pe_ix ix_tup (pv 6) pe_int (fun _ _ => rfl)) pe_str (nomark _)) (pss_one (ps_dput (hu_of hr) (pv 1) (pv 5) (pe_tup (pa_cons (pe_ix ix_tup (pv 6) pe_int (fun _ _ => rfl)) (pa_cons (pe_ifExp (pt_cmpR op_eq (pe_ix ix_tup (pv 6) pe_int (fun _ _ => rfl)) (pe_glob (v := .str "home") rfl eh rh) (nomark _)) pe_int pe_int) pa_nil))) rfl)) pss_nil)))))
    (pss_one (ps_ret (pv 1))))), ?_⟩
  refine fun D hD => ?_
  have s0 := same_new hD (.dT [])
  have hndA := asksB_nd hnd
  refine ⟨_, rfl, p, rfl, ⟨_, SqT.of (s0 _ _ hB.1)⟩, for_tup (xs := us) (fun i σ H' => ∃ o2 o3 o4 o5 o6 kvs, σ = [some (.ref p), some (.ref D), o2, o3, o4, o5, o6] ∧ Same H H' ∧ H' D = some (.dT kvs) ∧ AkL H' (asksB (es.take i)) kvs) ⟨_, _, _, _, _, [], rfl, s0, upd_same, by rw [List.take_zero]; exact trivial⟩ ?_ ?_ ?_⟩
  · rintro i σ H' _ ⟨o2, o3, o4, o5, o6, kvs, rfl, s1, _⟩
    exact SqT.of (s1 _ _ hB.1)
  · rintro i x σ H1 hx ⟨o2, o3, o4, o5, o6, kvs, rfl, s1, h1, k1⟩
    obtain ⟨e, he, qa, r, b, rfl, g1, g2, g3⟩ := hB.2.get hx
    obtain ⟨hke, hne⟩ := hk e (mem_of_get he)
    refine ⟨qa, _, rfl, SqT.of (s1 _ _ g1), rfl, _, _, rfl, _, _, rfl, _, _, rfl, rfl, ?_⟩
    refine ⟨_, rfl, _, rfl, e.1, b, .inl e.2.2, rfl, ⟨PAt.tk (tk_same s1) g3, hke⟩, hne, fun L H2 its hL s2 h2 k2 => ?_⟩
    have k2' : All2 (EntV NAt H2 [.str e.1]) (plQ e.2.2) its := k2
    have hlp : its.length = ncnt e.2.2 := k2'.len.trans (TrN.pl_len _ (.inl e.2.2) (Nat.le_refl _))
    have nL : L ≠ D := fun z => by rw [z, h1] at hL; cases hL
    have hD2 := s2 _ _ h1
    have k12 := k1.tk (tk_same s2)
    have fD : ∀ {X : Hp} {A : List Ak} {kv : List (List L2.Key × V)}, AkL X A kv → A.length ≤ 6000 → kv.length ≤ 6000 := fun k h => by rw [k.len]; exact h
    have big := asksB_len (es := es.take (i + 1)) fun x hx => (hk x (List.mem_of_mem_take hx)).2
    have hl6' : (es.take (i + 1)).length ≤ es.length := by rw [List.length_take]; omega
    rw [asks_take he, List.length_append] at big
    refine ⟨L, rfl, ⟨_, SqL.of h2⟩, for_list (K := K) (a := L) (xs := its) (fun j σ H' => ∃ o5 o6 kvs, σ = [some (.ref p), some (.ref D), some (.str e.1), some (.ref r), some (.ref b), o5, o6] ∧ But1 D H2 H' ∧ H' D = some (.dT kvs) ∧ AkL H' (asksB (es.take i) ++ ((plQ e.2.2).take j).filterMap (akOf e.1)) kvs) ⟨_, _, kvs, rfl, But1.refl _ _, hD2, by rw [List.take_zero]; simpa using k12⟩ ?_ ?_ ?_⟩
    · rintro j σ H' _ ⟨o5, o6, kvs, rfl, b3, _⟩
      exact SqL.of (b3 _ _ nL h2)
    · rintro j x σ H3 hx ⟨o5, o6, kvs3, rfl, b3, h3, k3⟩
      obtain ⟨en, hen, q2, r2, b2, rfl, e1, e2, e3⟩ := k2'.get hx
      obtain ⟨hj, hj2⟩ := List.getElem?_eq_some_iff.mp hen
      have tk3 := But1.tkD hD2 b3
      refine ⟨q2, _, rfl, SqT.of (tk3 _ _ e1), rfl, _, _, rfl, _, _, rfl, rfl, ?_⟩
      obtain ⟨hx0, rr, hh, hask⟩ := head_ask e3
      have bj : (((plQ e.2.2).take j).filterMap (akOf e.1)).length ≤ (asksE e).length := (List.Sublist.filterMap _ (List.take_sublist j _)).length_le
      have step : (asksB (es.take i) ++ ((plQ e.2.2).take (j + 1)).filterMap (akOf e.1)) = (asksB (es.take i) ++ ((plQ e.2.2).take j).filterMap (akOf e.1)) ++ [en].filterMap (akOf e.1) := by
        rw [List.take_succ_eq_append_getElem hj, hj2, List.filterMap_append, List.append_assoc]
      refine ⟨_, rfl, b2, _, _, _, rfl, rfl, SqT.of (tk3 _ _ hh), at0, rfl, _, rfl, ?_⟩
      refine ite2 (fun c => ?_) (fun c => ?_)
      · obtain ⟨g, ts, jj, hn⟩ := hask (V.str.inj (of_decide_eq_true c))
        obtain ⟨ks, nd⟩ := en
        dsimp only at hn
        subst hn
        obtain ⟨⟨tb, tvs, t1, t2, t3⟩, _⟩ : PAt H2 (.ask g ts jj) b2 ∧ kP (.ask g ts jj) := e3
        have hak : akOf e.1 (ks, .inl (.ask g ts jj)) = some ((e.1, ks), g, if jj = "home" then 0 else 1) := rfl
        have e2' : H2 r2 = some (.tup (.str e.1 :: ks.map V.int)) := e2
        have fin : ∀ (wv : Nat) (tt : Addr) (H4 : Hp), wv = (if jj = "home" then 0 else 1) → H3 tt = none → H4 = upd H3 tt (.tup [.str g, .int (wv : Int)]) → ∃ o5 o6 kvs, [some (V.ref p), some (.ref D), some (.str e.1), some (.ref r), some (.ref b), some (.ref r2), some (.ref b2)] = [some (V.ref p), some (.ref D), some (.str e.1), some (.ref r), some (.ref b), o5, o6] ∧ But1 D H2 (upd H4 D (.dT (putK kvs3 (keyA (e.1, ks)) (.ref tt)))) ∧ (upd H4 D (.dT (putK kvs3 (keyA (e.1, ks)) (.ref tt)))) D = some (.dT kvs) ∧ AkL (upd H4 D (.dT (putK kvs3 (keyA (e.1, ks)) (.ref tt)))) (asksB (es.take i) ++ ((plQ e.2.2).take (j + 1)).filterMap (akOf e.1)) kvs := by
          intro wv tt H4 hw htt hH4
          have s4 : Same H3 H4 := by rw [hH4]; exact same_new htt _
          have ht4 : H4 tt = some (.tup [.str g, .int (wv : Int)]) := by rw [hH4]; exact upd_same
          have ntD : tt ≠ D := fun z => by rw [z, h3] at htt; cases htt
          have hnew : keyA (e.1, ks) ∉ kvs3.map (·.1) := by
            rw [k3.keys]
            intro z
            obtain ⟨a, ha, ea⟩ := List.mem_map.mp z
            have ea' : a.1 = (e.1, ks) := keyA_inj ea
            have full : ((asksB (es.take i) ++ ((plQ e.2.2).take (j + 1)).filterMap (akOf e.1)).map (·.1)).Sublist ((asksB es).map (·.1)) := by
              refine List.Sublist.map _ ?_
              have a1 : (asksB (es.take i) ++ asksE e).Sublist (asksB es) := by
                rw [← asks_take he]
                unfold asksB
                have : (es.take (i + 1)) ++ es.drop (i + 1) = es := List.take_append_drop _ _
                conv => rhs; rw [← this, List.map_append, List.flatten_append]
                exact List.sublist_append_left _ _
              exact (List.Sublist.append (List.Sublist.refl _) (List.Sublist.filterMap _ (List.take_sublist _ _))).trans a1
            have nd := full.nodup hndA
            rw [step, List.map_append] at nd
            have hl : [(ks, (.inl (.ask g ts jj) : Nd))].filterMap (akOf e.1) = [((e.1, ks), g, if jj = "home" then 0 else 1)] := rfl
            rw [hl] at nd
            exact (List.nodup_append.mp nd).2.2 _ (List.mem_map.mpr ⟨a, ha, rfl⟩) _ List.mem_cons_self ea'
          rw [put_new hnew]
          have tkD : TK H4 (upd H4 D (.dT (kvs3 ++ [(keyA (e.1, ks), .ref tt)]))) := fun y ys hy => by
            rw [upd_ne (fun z => by rw [z, s4 _ _ h3] at hy; cases hy)]
            exact hy
          refine ⟨_, _, _, rfl, fun y o ny hy => ?_, upd_same, ?_⟩
          · rw [upd_ne ny]
            exact s4 _ _ (b3 y o ny hy)
          · rw [step]
            exact ((k3.tk ((tk_same s4).trans tkD)).app ⟨rfl, tt, rfl, by rw [← hw]; exact tkD _ _ ht4⟩)
        refine ⟨_, rfl, b2, _, _, _, rfl, rfl, SqT.of (tk3 _ _ t1), at1, ?_⟩
        refine ⟨_, rfl, b2, _, _, _, rfl, rfl, SqT.of (tk3 _ _ t1), at3, rfl, _, rfl, ?_⟩
        refine ite2 (fun c2 => ?_) (fun c2 => ?_)
        · have hjj : jj = "home" := V.str.inj (of_decide_eq_true c2)
          refine ⟨sz (by show 2 ≤ 100000; decide), fun tt htt => ?_⟩
          refine ⟨_, rfl, _, rfl, D, _, rfl, DPut.t (k := keyA (e.1, ks)) ((same_new htt _) _ _ h3) ((same_new htt _) _ _ (by rw [keyA_V]; exact tk3 _ _ e2')) (Nat.lt_of_le_of_lt (fD k3 ?_) (by decide)), fin 0 tt _ (by rw [if_pos hjj]) htt rfl⟩
          rw [List.length_append]
          omega
        · have hjj : ¬ jj = "home" := fun z => c2 (decide_eq_true (congrArg V.str z))
          refine ⟨sz (by show 2 ≤ 100000; decide), fun tt htt => ?_⟩
          refine ⟨_, rfl, _, rfl, D, _, rfl, DPut.t (k := keyA (e.1, ks)) ((same_new htt _) _ _ h3) ((same_new htt _) _ _ (by rw [keyA_V]; exact tk3 _ _ e2')) (Nat.lt_of_le_of_lt (fD k3 ?_) (by decide)), fin 1 tt _ (by rw [if_neg hjj]) htt rfl⟩
          rw [List.length_append]
          omega
      · refine ⟨_, _, kvs3, rfl, b3, h3, ?_⟩
        rw [step]
        have : akOf e.1 en = none := by
          cases hq : akOf e.1 en with
          | none => rfl
          | some a =>
            obtain ⟨ks, nd⟩ := en
            cases nd with
            | inl p =>
              cases p with
              | ask g ts jj =>
                obtain ⟨⟨tb, tvs, t1, _⟩, _⟩ : PAt H2 (.ask g ts jj) b2 ∧ kP (.ask g ts jj) := e3
                rw [t1] at hh
                cases hh
                exact absurd (decide_eq_true rfl) c
              | _ => cases hq
            | inr t => cases hq
        rw [show [en].filterMap (akOf e.1) = [] by rw [List.filterMap_cons, this]; rfl, List.append_nil]
        exact k3
    · rintro σ H3 ⟨o5, o6, kvs3, rfl, b3, h3, k3⟩
      rw [hlp, show ncnt e.2.2 = (plQ e.2.2).length from (TrN.pl_len _ (.inl e.2.2) (Nat.le_refl _)).symm, List.take_length] at k3
      refine ⟨_, _, _, _, _, kvs3, rfl, fun y o hy => b3 _ _ (fun z => by rw [z, hD] at hy; cases hy) (s2 _ _ (s1 _ _ hy)), h3, ?_⟩
      rw [asks_take he]
      exact k3
  · rintro σ H1 ⟨o2, o3, o4, o5, o6, kvs, rfl, s1, h1, k1⟩
    rw [hB.2.len, List.take_length] at k1
    exact ⟨_, rfl, q D H1 kvs hD s1 h1 k1⟩
end
end KB

namespace KB
open PySem L2 HT LamX NdefX

/-! ### rows in the heap -/
def PlcV (H : Hp) (p : Pl) (v : V) : Prop := ∃ b, v = .ref b ∧ H b = some (.tup (.str p.1 :: p.2.map V.int))
theorem PlcV.tk {H H' : Hp} (t : TK H H') {p : Pl} {v : V} (h : PlcV H p v) : PlcV H' p v := let ⟨b, e, k⟩ := h; ⟨b, e, t _ _ k⟩
def RwE (H : Hp) (W : Addr → Prop) (x : Str × List Ak) (kv : L2.Key × V) : Prop := kv.1 = .inr x.1 ∧ ∃ l vs, kv.2 = .ref l ∧ W l ∧ H l = some (.lst vs) ∧ All2 (PlcV H) (x.2.map (·.1)) vs
def RwL (H : Hp) (W : Addr → Prop) : List (Str × List Ak) → List (L2.Key × V) → Prop
  | [], [] => True
  | x :: xs, kv :: kvs => RwE H W x kv ∧ RwL H W xs kvs
  | _, _ => False
def LK (W : Addr → Prop) (H H' : Hp) : Prop := ∀ l vs, W l → H l = some (.lst vs) → H' l = some (.lst vs)
theorem RwL.mono {H H' : Hp} {W : Addr → Prop} (l : LK W H H') (t : TK H H') : ∀ {R : List (Str × List Ak)} {kvs : List (L2.Key × V)}, RwL H W R kvs → RwL H' W R kvs
  | [], [], _ => trivial
  | _ :: _, _ :: _, ⟨⟨e, a, vs, h1, h2, h3, h4⟩, r⟩ => ⟨⟨e, a, vs, h1, h2, l _ _ h2 h3, h4.imp fun _ _ z => z.tk t⟩, r.mono l t⟩
  | [], _ :: _, h => h.elim
  | _ :: _, [], h => h.elim
theorem RwL.app {H : Hp} {W : Addr → Prop} {x : Str × List Ak} {kv : L2.Key × V} (s : RwE H W x kv) : ∀ {R : List (Str × List Ak)} {kvs : List (L2.Key × V)}, RwL H W R kvs → RwL H W (R ++ [x]) (kvs ++ [kv])
  | [], [], _ => ⟨s, trivial⟩
  | _ :: _, _ :: _, ⟨y, r⟩ => ⟨y, r.app s⟩
  | [], _ :: _, h => h.elim
  | _ :: _, [], h => h.elim
theorem RwL.keys {H : Hp} {W : Addr → Prop} : ∀ {R : List (Str × List Ak)} {kvs : List (L2.Key × V)}, RwL H W R kvs → kvs.map (·.1) = R.map fun x => (.inr x.1 : L2.Key)
  | [], [], _ => rfl
  | _ :: _, _ :: _, ⟨y, r⟩ => by rw [List.map_cons, List.map_cons, y.1, r.keys]
  | [], _ :: _, h => h.elim
  | _ :: _, [], h => h.elim
theorem RwL.len {H : Hp} {W : Addr → Prop} {R : List (Str × List Ak)} {kvs : List (L2.Key × V)} (h : RwL H W R kvs) : kvs.length = R.length := by
  have := congrArg List.length h.keys
  rwa [List.length_map, List.length_map] at this
theorem valV_no {κ : Type} [DecidableEq κ] : ∀ {kvs : List (κ × V)} {k : κ}, k ∉ kvs.map (·.1) → valV kvs k = none := by
  intro kvs k h
  unfold valV
  rw [List.find?_eq_none.mpr fun x hx => ?_]
  · rfl
  · intro e
    exact h (List.mem_map.mpr ⟨x, hx, of_decide_eq_true e⟩)
theorem RwL.there {H : Hp} {W : Addr → Prop} : ∀ {R : List (Str × List Ak)} {kvs : List (L2.Key × V)}, RwL H W R kvs → ∀ {n : Str}, n ∈ R.map (·.1) → ∃ x kv, x ∈ R ∧ x.1 = n ∧ valV kvs (.inr n) = some kv.2 ∧ RwE H W x kv
  | [], [], _, _, h => nomatch h
  | x :: R, kv :: kvs, ⟨y, r⟩, n, h => by
    by_cases c : x.1 = n
    · refine ⟨x, kv, List.mem_cons_self, c, ?_, y⟩
      unfold valV
      rw [List.find?_cons_of_pos (by exact decide_eq_true (by rw [y.1, c]))]
      rfl
    · have hn : n ∈ R.map (·.1) := by
        rcases List.mem_cons.mp h with z | z
        · exact absurd z.symm c
        · exact z
      obtain ⟨x', kv', a, b, e, f⟩ := r.there hn
      refine ⟨x', kv', List.mem_cons_of_mem _ a, b, ?_, f⟩
      unfold valV at e ⊢
      rw [List.find?_cons_of_neg (by show ¬ decide (kv.1 = .inr n) = true; rw [decide_eq_false (fun z => by rw [y.1] at z; exact c (Sum.inr.inj z))]; exact Bool.false_ne_true)]
      exact e
  | [], _ :: _, h, _, _ => h.elim
  | _ :: _, [], h, _, _ => h.elim
theorem RwL.val {H : Hp} {W : Addr → Prop} {R : List (Str × List Ak)} {kvs : List (L2.Key × V)} (h : RwL H W R kvs) (n : Str) : (valV kvs (.inr n)).isSome = decide (n ∈ R.map (·.1)) := by
  by_cases c : n ∈ R.map (·.1)
  · obtain ⟨_, kv, _, _, e, _⟩ := h.there c
    rw [e, decide_eq_true c]
    rfl
  · rw [valV_no (by rw [h.keys]; intro z; obtain ⟨x, hx, e⟩ := List.mem_map.mp z; exact c (List.mem_map.mpr ⟨x, hx, Sum.inr.inj e⟩)), decide_eq_false c]
    rfl
theorem putK_new {κ : Type} [DecidableEq κ] {kvs : List (κ × V)} {k : κ} {v : V} (h : k ∉ kvs.map (·.1)) : putK kvs k v = kvs ++ [(k, v)] := by
  unfold putK
  rw [if_neg]
  intro z
  obtain ⟨x, hx, e⟩ := List.any_eq_true.mp z
  exact h (List.mem_map.mpr ⟨x, hx, of_decide_eq_true e⟩)
/-! ### what is known of rows as they are found -/
structure RI (A : List Ak) (f : Str) (R : List (Str × List Ak)) (ws : List Str) : Prop where
  nd : (R.map (·.1)).Nodup
  st : f ∈ R.map (·.1)
  so : ∀ x ∈ R, Row A f x.2 x.1
  sub : ∀ x ∈ R.map (·.1), x ∈ f :: A.map (·.2.1)
  wk : ∀ x ∈ ws, x ∈ R.map (·.1)
  ln : ∀ x ∈ R, x.2.length < R.length
def meas (A : List Ak) (R : List (Str × List Ak)) (ws : List Str) : Nat := 2 * (A.length + 1 - R.length) + ws.length
theorem RI.len {A : List Ak} {f : Str} {R : List (Str × List Ak)} {ws : List Str} (h : RI A f R ws) : R.length ≤ A.length + 1 := by
  have := nodup_le h.nd h.sub
  rwa [List.length_map, List.length_cons, List.length_map] at this
theorem RI.add {A : List Ak} {f : Str} {R : List (Str × List Ak)} {ws : List Str} (h : RI A f R ws) {a : Ak} (ha : a ∈ A) {x : Str × List Ak} (hx : x ∈ R) (e : x.1 = a.1.1) (hn : a.2.1 ∉ R.map (·.1)) :
    RI A f (R ++ [(a.2.1, x.2 ++ [a])]) (ws ++ [a.2.1]) ∧ meas A (R ++ [(a.2.1, x.2 ++ [a])]) (ws ++ [a.2.1]) + 1 = meas A R ws := by
  have k : (R ++ [(a.2.1, x.2 ++ [a])]).map (·.1) = R.map (·.1) ++ [a.2.1] := by rw [List.map_append]; rfl
  have r : RI A f (R ++ [(a.2.1, x.2 ++ [a])]) (ws ++ [a.2.1]) := by
    refine ⟨?_, ?_, fun y hy => ?_, fun y hy => ?_, fun y hy => ?_, fun y hy => ?_⟩
    · rw [k]
      exact List.nodup_append.mpr ⟨h.nd, by simp, fun y hy z hz e => hn (by rw [← List.mem_singleton.mp hz, ← e]; exact hy)⟩
    · rw [k]; exact List.mem_append_left _ h.st
    · rcases List.mem_append.mp hy with z | z
      · exact h.so y z
      · rw [List.mem_singleton.mp z]
        exact (h.so x hx).snoc ha e.symm
    · rw [k] at hy
      rcases List.mem_append.mp hy with z | z
      · exact h.sub y z
      · rw [List.mem_singleton.mp z]
        exact List.mem_cons_of_mem _ (List.mem_map.mpr ⟨a, ha, rfl⟩)
    · rw [k]
      rcases List.mem_append.mp hy with z | z
      · exact List.mem_append_left _ (h.wk y z)
      · exact List.mem_append_right _ z
    · rw [List.length_append, List.length_singleton]
      rcases List.mem_append.mp hy with z | z
      · have := h.ln y z
        omega
      · rw [List.mem_singleton.mp z]
        have := h.ln x hx
        show (x.2 ++ [a]).length < _
        rw [List.length_append, List.length_singleton]
        omega
  refine ⟨r, ?_⟩
  have := r.len
  unfold meas
  rw [List.length_append, List.length_singleton] at this ⊢
  rw [List.length_append, List.length_singleton]
  omega
/-- nothing but these may be written -/
def Fr3 (D W a : Addr) (H H' : Hp) : Prop := ∀ b o, b ≠ D → b ≠ W → b ≠ a → H b = some o → H' b = some o
section
variable {P : Program} {w : World} {K : PySem.W.Frag} {mg : Str → Option Value} {base : Heap}
/-! ### rows_from -/
abbrev srows_from : Stmt := top 20
theorem scrows_from : FnScope ["f", "asks", "rows", "waiting", "name", "place", "asked", "weight"] ["f", "asks"] (defScope srows_from) := ⟨rfl, rfl, rfl, by decide +kernel, rfl, by decide +kernel, by decide +kernel⟩
def WN (H : Hp) (W : Addr) (l : Addr) : Prop := l ≠ W ∧ H l = none
theorem none_back {H H' : Hp} {a : Addr} (s : Same H H') (h : H' a = none) : H a = none := by
  cases e : H a with
  | none => rfl
  | some o => rw [s _ _ e] at h; cases h
def spRows : Sp := fun vs H Q _ => ∃ (f : Str) (aD : Addr) (A : List Ak) (akvs : List (List L2.Key × V)), vs = [.str f, .ref aD] ∧ H aD = some (.dT akvs) ∧ AkL H A akvs ∧ A.length ≤ 10000 ∧
  ∀ D H' R kvs (W : Addr → Prop), H D = none → Same H H' → (∀ l, W l → H l = none) → H' D = some (.dK kvs) → RwL H' W R kvs → RowsOk A f R → R.length ≤ A.length + 1 → (∀ x ∈ R, x.2.length < R.length) → Q (.ref D) H'
theorem ok_rows {f : Addr} {fd : FuncData} (F : Fun K "rows_from" "rows_from" srows_from f fd) : FnOk P w K mg base CX0 1 f fd ["f", "asks"] spRows := by
  refine F.ok scrows_from (fun vs H Q E h => ?_) (fun cdv A outer s H vs Q E hr h => ?_)
  · obtain ⟨f, aD, A, akvs, rfl, _⟩ := h
    rfl
  obtain ⟨f, aD, A, akvs, rfl, hA, hk, hlA, q⟩ := h
  refine ⟨_, (pss_cons (ps_set (i := 2) scrows_from.nd rfl (Or.inl rfl) (pe_disp (pps_cons (pv 0) (pe_lst pa_nil) pps_nil) (by rfl) (by rfl) (fun z => by cases z) (by decide)))
    (pss_cons (ps_set (i := 3) scrows_from.nd rfl (Or.inl rfl) (pe_lst (pa_cons (pv 0) pa_nil)))
    (pss_cons (ps_while PassesOwn.never (pt_truth (pv 3) (by intro _; rfl)) (pss_cons (ps_set (i := 4) scrows_from.nd rfl (Or.inl rfl) (pe_bm0 PySem.F.plainAttrs_list PySem.F.slot_list_pop PySem.F.type_list_pop mt_pop (pv 3)))
    (pss_one (ps_lock (ps_for PassesOwn.never rfl (pi_tupItems (pv 1)) (pg_tup rfl (pgs_cons (pg_name (i := 5) scrows_from.nd rfl (Or.inl rfl)) (pgs_cons (pg_tup rfl (pgs_cons (pg_name (i := 6) scrows_from.nd rfl (Or.inl rfl)) (pgs_cons (pg_name (i := 7) scrows_from.nd rfl (Or.inl rfl)) pgs_nil))) pgs_nil))) (pss_one (ps_if (PW.pt (pw_and (pt_cmpR op_eq (pe_ix ix_tup (pv 5) pe_int (fun _ _ => rfl)) (pv 4) (nomark _)) (pw_and1 (pt_cmp (pc_dnotin (hu_of hr) (pv 6) (pv 2)))))) (pss_cons (ps_dput (hu_of hr) (pv 2) (pv 6) (pe_lst (StX.pa_star (pe_dget (hu_of hr) (pv 2) (pv 4) (fun _ _ => rfl)) (pa_cons (pv 5) pa_nil))) rfl)
    (pss_one (ps_expr (pe_bm PySem.F.plainAttrs_list PySem.F.slot_list_append PySem.F.type_list_append mt_append (pv 3) (pa_cons (pv 6) pa_nil))))) pss_nil)))))))
    (pss_one (ps_ret (pv 2)))))), ?_⟩
  -- rows, waiting
  refine fun D hD => ⟨_, rfl, sz (by show 0 ≤ 100000; decide), fun l0 hl0 => ?_⟩
  have sD := same_new hD (.dK [])
  have s0 := same_new hl0 (.lst [])
  refine ⟨s0 _ _ upd_same, [((.inr f : L2.Key), .ref l0)], rfl, by show 1 ≤ 15; decide, ?_⟩
  rw [show mergeK [] [((.inr f : L2.Key), V.ref l0)] = [((.inr f : L2.Key), V.ref l0)] from rfl]
  have hl0' := hl0
  have nlD : l0 ≠ D := fun z => by rw [z, upd_same] at hl0; cases hl0
  have s1 : Same H (upd (upd (upd H D (.dK [])) l0 (.lst [])) D (.dK [((.inr f : L2.Key), V.ref l0)])) := same_mut (sD.trans s0) hD
  have g1 : (upd (upd (upd H D (.dK [])) l0 (.lst [])) D (.dK [((.inr f : L2.Key), V.ref l0)])) D = some (.dK [((.inr f : L2.Key), V.ref l0)]) := upd_same
  have g2 : (upd (upd (upd H D (.dK [])) l0 (.lst [])) D (.dK [((.inr f : L2.Key), V.ref l0)])) l0 = some (.lst []) := by rw [upd_ne nlD]; exact upd_same
  generalize upd (upd (upd H D (.dK [])) l0 (.lst [])) D (.dK [((.inr f : L2.Key), V.ref l0)]) = H1 at s1 g1 g2
  refine ⟨_, rfl, sz (by show 1 ≤ 100000; decide), fun W hW => ?_⟩
  have s2 := same_new hW (.lst [.str f])
  have nl0H : H l0 = none := none_back (sD) hl0'
  have nDW : D ≠ W := fun z => by rw [← z, g1] at hW; cases hW
  have nlW : l0 ≠ W := fun z => by rw [← z, g2] at hW; cases hW
  have naD : aD ≠ D := fun z => by rw [← z, hA] at hD; cases hD
  have hW0 : H W = none := by
    cases e : H W with
    | none => rfl
    | some o => rw [s1 _ _ e] at hW; cases hW
  have naW : aD ≠ W := fun z => by rw [← z, hA] at hW0; cases hW0
  -- while
  refine ⟨fun m σ H' => ∃ (o4 o5 o6 o7 : Option V) (R : List (Str × List Ak)) (ws : List Str) (kvs : List (L2.Key × V)), σ = [some (.str f), some (.ref aD), some (.ref D), some (.ref W), o4, o5, o6, o7] ∧ Same H H' ∧ H' D = some (.dK kvs) ∧ H' W = some (.lst (ws.map V.str)) ∧ RwL H' (WN H W) R kvs ∧ RI A f R ws ∧ (∀ a ∈ A, a.1.1 ∈ R.map (·.1) → a.1.1 ∉ ws → a.2.1 ∈ R.map (·.1)) ∧ m = meas A R ws ∧ meas A R ws ≤ 20001,
    ⟨_, _, _, _, _, [(f, [])], [f], _, rfl, s1.trans s2, s2 _ _ g1, upd_same, ⟨⟨rfl, l0, [], rfl, ⟨nlW, nl0H⟩, s2 _ _ g2, trivial⟩, trivial⟩, ⟨by simp, List.mem_cons_self, fun x hx => by rw [List.mem_singleton.mp hx]; exact .nil, fun x hx => by rw [List.mem_singleton.mp hx]; exact List.mem_cons_self, fun x hx => hx, fun x hx => by rw [List.mem_singleton.mp hx]; show 0 < 1; decide⟩, fun a _ h1 h2 => absurd (show a.1.1 ∈ [f] by simpa using h1) h2, rfl, by show 2 * (A.length + 1 - 1) + 1 ≤ 20001; omega⟩, ?_⟩
  rintro m σ H2 ⟨o4, o5, o6, o7, R, ws, kvs, rfl, s12, h1, h2, hR, hI, hcl, rfl, hle⟩
  refine ⟨_, rfl, _, .inl ⟨_, SqL.of h2, rfl⟩, ?_⟩
  rcases List.eq_nil_or_concat ws with rfl | ⟨ws', name, ews⟩
  · refine itF rfl ⟨_, rfl, q D H2 R kvs (WN H W) hD s12 (fun _ z => z.2) h1 hR ⟨hI.nd, hI.st, hI.so, fun a ha hs => hcl a ha hs (fun z => nomatch z)⟩ hI.len hI.ln⟩
  · rw [List.concat_eq_append] at ews
    subst ews
    have hne : ((ws' ++ [name]).map V.str).isEmpty = false := by cases ws' <;> rfl
    refine itT (by rw [hne]; rfl) ?_
    refine ⟨fun σ' H' => ∃ m', m' < meas A R (ws' ++ [name]) ∧ ∃ (o4 o5 o6 o7 : Option V) (R : List (Str × List Ak)) (ws : List Str) (kvs : List (L2.Key × V)), σ' = [some (.str f), some (.ref aD), some (.ref D), some (.ref W), o4, o5, o6, o7] ∧ Same H H' ∧ H' D = some (.dK kvs) ∧ H' W = some (.lst (ws.map V.str)) ∧ RwL H' (WN H W) R kvs ∧ RI A f R ws ∧ (∀ a ∈ A, a.1.1 ∈ R.map (·.1) → a.1.1 ∉ ws → a.2.1 ∈ R.map (·.1)) ∧ m' = meas A R ws ∧ meas A R ws ≤ 20001, fun _ _ z => z, ?_⟩
    have elast : ((ws' ++ [name]).map V.str)[((ws' ++ [name]).map V.str).length - 1]? = some (.str name) := by
      rw [List.map_append, List.length_append]
      simp
    have edrop : ((ws' ++ [name]).map V.str).dropLast = ws'.map V.str := by
      rw [List.map_append]
      simp
    refine ⟨_, rfl, .inl ⟨rfl, _, SqL.of h2⟩, W, _, .str name, rfl, rfl, h2, elast, ?_⟩
    rw [edrop]
    have tkW : TK H2 (upd H2 W (.lst (ws'.map V.str))) := tk_put h2
    have lkW : LK (WN H W) H2 (upd H2 W (.lst (ws'.map V.str))) := fun l vs n hl => by rw [upd_ne n.1]; exact hl
    have hR3 := hR.mono lkW tkW
    have h13 : (upd H2 W (.lst (ws'.map V.str))) D = some (.dK kvs) := by rw [upd_ne nDW]; exact h1
    have h23 : (upd H2 W (.lst (ws'.map V.str))) W = some (.lst (ws'.map V.str)) := upd_same
    have s13 : Same H (upd H2 W (.lst (ws'.map V.str))) := same_mut s12 hW0
    generalize upd H2 W (.lst (ws'.map V.str)) = H3 at hR3 h13 h23 s13
    clear hR tkW lkW h2 h1 s12
    have hI3 : RI A f R ws' := ⟨hI.nd, hI.st, hI.so, hI.sub, fun x hx => hI.wk x (List.mem_append_left _ hx), hI.ln⟩
    have hnk : name ∈ R.map (·.1) := hI.wk name (List.mem_append_right _ List.mem_cons_self)
    have hm3 : meas A R ws' + 1 = meas A R (ws' ++ [name]) := by unfold meas; rw [List.length_append, List.length_singleton]; omega
    have hcl3 : ∀ a ∈ A, a.1.1 ∈ R.map (·.1) → a.1.1 ∉ ws' → a.1.1 ≠ name → a.2.1 ∈ R.map (·.1) := fun a ha h1 h2 h3 => hcl a ha h1 fun z => by
      rcases List.mem_append.mp z with y | y
      · exact h2 y
      · exact h3 (List.mem_singleton.mp y)
    clear hcl hI
    have hA3 := s13 _ _ hA
    -- for
    obtain ⟨M0, hM0⟩ : ∃ M0, M0 = meas A R (ws' ++ [name]) := ⟨_, rfl⟩
    rw [← hM0] at hm3 ⊢
    have hbig : M0 ≤ 40000 := by rw [hM0]; omega
    refine ⟨aD, .dT akvs, hA3, trivial, fun od => ?_⟩
    have hA4 : (upd H3 aD (.frz od (.dT akvs))) aD = some (.frz od (.dT akvs)) := upd_same
    have f4 : ∀ b o, b ≠ aD → H b = some o → (upd H3 aD (.frz od (.dT akvs))) b = some o := fun b o n h => by rw [upd_ne n]; exact s13 _ _ h
    have h14 : (upd H3 aD (.frz od (.dT akvs))) D = some (.dK kvs) := by rw [upd_ne naD.symm]; exact h13
    have h24 : (upd H3 aD (.frz od (.dT akvs))) W = some (.lst (ws'.map V.str)) := by rw [upd_ne naW.symm]; exact h23
    have hR4 := hR3.mono (H' := upd H3 aD (.frz od (.dT akvs))) (fun l vs _ h => by rw [upd_ne (fun z => by rw [z, hA3] at h; cases h)]; exact h) (fun b xs h => by rw [upd_ne (fun z => by rw [z, hA3] at h; cases h)]; exact h)
    generalize upd H3 aD (.frz od (.dT akvs)) = H4 at hA4 f4 h14 h24 hR4
    refine ⟨_, rfl, aD, od, akvs, rfl, hA4, for_it walk_tupItems (fun i σ H' => ∃ (o5 o6 o7 : Option V) (R : List (Str × List Ak)) (ws : List Str) (kvs : List (L2.Key × V)), σ = [some (.str f), some (.ref aD), some (.ref D), some (.ref W), some (.str name), o5, o6, o7] ∧ (∀ b o, b ≠ aD → H b = some o → H' b = some o) ∧ H' aD = some (.frz od (.dT akvs)) ∧ H' D = some (.dK kvs) ∧ H' W = some (.lst (ws.map V.str)) ∧ RwL H' (WN H W) R kvs ∧ RI A f R ws ∧ name ∈ R.map (·.1) ∧
      (∀ a ∈ A, a.1.1 ∈ R.map (·.1) → a.1.1 ∉ ws → a.1.1 ≠ name → a.2.1 ∈ R.map (·.1)) ∧ (∀ k a, k < i → A[k]? = some a → a.1.1 = name → a.2.1 ∈ R.map (·.1)) ∧ meas A R ws + 1 ≤ M0) ?_ ?_ ?_ ?_⟩
    · exact ⟨_, _, _, R, ws', kvs, rfl, f4, hA4, h14, h24, hR4, hI3, hnk, hcl3, fun k a h => absurd h (Nat.not_lt_zero k), Nat.le_of_eq hm3⟩
    · rintro i σ H5 _ ⟨o5, o6, o7, R, ws, kvs, rfl, _, h, _⟩
      exact h
    · rintro i x σ H5 H6 hi ⟨o5, o6, o7, R5, ws5, kvs5, rfl, f5, a5, h15, h25, hR5, hI5, hn5, hcl5, hp5, hm5⟩ ⟨T', k, v, qk, hkv, hq, rfl, hT, rfl⟩
      have tk5 : TK H H5 := fun b xs hb => f5 b _ (fun z => by rw [z, hA] at hb; cases hb) hb
      obtain ⟨a, ha, hk1, bv, hv, hb⟩ := hk.get hkv
      dsimp only at hk1 hv
      subst hk1 hv
      have hb5 := tk5 _ _ hb
      have sT := same_new hT (.tup [.ref qk, .ref bv])
      have ham := mem_of_get ha
      rw [keyA_V] at hq
      refine ⟨T', _, rfl, SqT.of upd_same, rfl, _, _, rfl, _, _, rfl, ⟨bv, _, rfl, SqT.of (sT _ _ hb5), rfl, _, _, rfl, _, _, rfl, rfl, rfl, ?_⟩⟩
      have f6 : ∀ b o, b ≠ aD → H b = some o → (upd H5 T' (.tup [.ref qk, .ref bv])) b = some o := fun b o n h => sT _ _ (f5 b o n h)
      have a6 := sT _ _ a5
      have h16 := sT _ _ h15
      have h26 := sT _ _ h25
      have hR6 := hR5.mono (fun l vs _ h => sT _ _ h) (tk_same sT)
      have hq6 := sT _ _ hq
      generalize upd H5 T' (.tup [.ref qk, .ref bv]) = H6 at f6 a6 h16 h26 hR6 hq6
      have done : (a.1.1 = name → a.2.1 ∈ R5.map (·.1)) → ∀ k a', k < i + 1 → A[k]? = some a' → a'.1.1 = name → a'.2.1 ∈ R5.map (·.1) := fun hd k a' hk' ha' hn' => by
        by_cases c : k = i
        · rw [c, ha] at ha'
          cases ha'
          exact hd hn'
        · exact hp5 k a' (by omega) ha' hn'
      refine ⟨_, rfl, qk, _, _, _, rfl, rfl, SqT.of hq6, at0, _, rfl, rfl, _, rfl, ?_⟩
      refine ite2 (fun c => ?_) (fun c => ⟨_, _, _, R5, ws5, kvs5, rfl, f6, a6, h16, h26, hR6, hI5, hn5, hcl5, done fun z => absurd (decide_eq_true (congrArg V.str z)) c, hm5⟩)
      have hsn : a.1.1 = name := V.str.inj (of_decide_eq_true c)
      refine ⟨_, rfl, _, rfl, D, _, rfl, DGet.k (k := .inr a.2.1) h16, _, rfl, ?_⟩
      rw [hR6.val]
      by_cases hin : a.2.1 ∈ R5.map (·.1)
      · refine itF (by rw [decide_eq_true hin]; rfl) ⟨_, _, _, R5, ws5, kvs5, rfl, f6, a6, h16, h26, hR6, hI5, hn5, hcl5, done fun _ => hin, hm5⟩
      · refine itT (by rw [decide_eq_false hin]; rfl) ?_
        obtain ⟨y, kvy, hy1, hy2, hy3, hy4, ly, vy, hy5, hy6, hy7, hy8⟩ := hR6.there hn5
        rw [hy5] at hy3
        obtain ⟨hI7, hm7⟩ := hI5.add ham hy1 (hy2.trans hsn.symm) hin
        refine ⟨_, rfl, _, rfl, D, .ref ly, rfl, by rw [← hy3]; exact DGet.k (k := .inr name) h16, ly, _, rfl, .inr (SqL.of hy7), _, rfl, ?_⟩
        have hvl : vy.length ≤ 10000 := by
          have e1 := hy8.len
          rw [List.length_map] at e1
          have := hI5.ln y hy1
          have := hI5.len
          omega
        refine ⟨sz (by rw [List.length_append, List.length_singleton]; omega), fun l7 hl7 => ?_⟩
        have s7 := same_new hl7 (.lst (vy ++ [.ref qk]))
        have nl7W : l7 ≠ W := fun z => by rw [z, h26] at hl7; cases hl7
        have nl7H : H l7 = none := by
          cases e : H l7 with
          | none => rfl
          | some o => rw [f6 _ _ (fun z => by rw [z, a6] at hl7; cases hl7) e] at hl7; cases hl7
        have nl7D : l7 ≠ D := fun z => by rw [z, h16] at hl7; cases hl7
        have hkl := hR6.len
        have hI5l := hI5.len
        refine ⟨_, rfl, _, rfl, D, _, rfl, DPut.k (k := .inr a.2.1) (s7 _ _ h16) (Nat.lt_of_le_of_lt (m := 10001) (by omega) (by decide)), ?_⟩
        rw [putK_new (by rw [hR6.keys]; intro z; obtain ⟨x, hx, e⟩ := List.mem_map.mp z; exact hin (List.mem_map.mpr ⟨x, hx, Sum.inr.inj e⟩))]
        have tk8 : TK (upd H6 l7 (.lst (vy ++ [.ref qk]))) (upd (upd H6 l7 (.lst (vy ++ [.ref qk]))) D (.dK (kvs5 ++ [((.inr a.2.1 : L2.Key), .ref l7)]))) := fun b xs hb => by
          rw [upd_ne (fun z => by rw [z, s7 _ _ h16] at hb; cases hb)]
          exact hb
        have lk8 : LK (WN H W) (upd H6 l7 (.lst (vy ++ [.ref qk]))) (upd (upd H6 l7 (.lst (vy ++ [.ref qk]))) D (.dK (kvs5 ++ [((.inr a.2.1 : L2.Key), .ref l7)]))) := fun l vs _ hl => by
          rw [upd_ne (fun z => by rw [z, s7 _ _ h16] at hl; cases hl)]
          exact hl
        have hR8 := ((hR6.mono (fun l vs _ h => s7 _ _ h) (tk_same s7)).mono lk8 tk8).app (x := (a.2.1, y.2 ++ [a])) (kv := ((.inr a.2.1 : L2.Key), .ref l7)) ⟨rfl, l7, vy ++ [.ref qk], rfl, ⟨nl7W, nl7H⟩, by rw [upd_ne nl7D]; exact upd_same, by
          rw [List.map_append]
          exact (hy8.imp fun _ _ z => (z.tk (tk_same s7)).tk tk8).app ⟨⟨qk, rfl, tk8 _ _ (s7 _ _ hq6)⟩, trivial⟩⟩
        have f8 : ∀ b o, b ≠ aD → H b = some o → (upd (upd H6 l7 (.lst (vy ++ [.ref qk]))) D (.dK (kvs5 ++ [((.inr a.2.1 : L2.Key), .ref l7)]))) b = some o := fun b o n h => by
          rw [upd_ne (fun z => by rw [z, hD] at h; cases h)]
          exact s7 _ _ (f6 b o n h)
        have a8 : (upd (upd H6 l7 (.lst (vy ++ [.ref qk]))) D (.dK (kvs5 ++ [((.inr a.2.1 : L2.Key), .ref l7)]))) aD = some (.frz od (.dT akvs)) := by
          rw [upd_ne naD]; exact s7 _ _ a6
        have h18 : (upd (upd H6 l7 (.lst (vy ++ [.ref qk]))) D (.dK (kvs5 ++ [((.inr a.2.1 : L2.Key), .ref l7)]))) D = some (.dK (kvs5 ++ [((.inr a.2.1 : L2.Key), .ref l7)])) := upd_same
        have h28 : (upd (upd H6 l7 (.lst (vy ++ [.ref qk]))) D (.dK (kvs5 ++ [((.inr a.2.1 : L2.Key), .ref l7)]))) W = some (.lst (ws5.map V.str)) := by
          rw [upd_ne nDW.symm]; exact s7 _ _ h26
        generalize upd (upd H6 l7 (.lst (vy ++ [.ref qk]))) D (.dK (kvs5 ++ [((.inr a.2.1 : L2.Key), .ref l7)])) = H8 at hR8 f8 a8 h18 h28
        have hwl : ws5.length ≤ 40000 := by
          have : meas A R5 ws5 = 2 * (A.length + 1 - R5.length) + ws5.length := rfl
          have := hbig
          omega
        refine ⟨_, rfl, .inl ⟨rfl, _, SqL.of h28⟩, _, rfl, W, _, _, rfl, rfl, h28, Nat.lt_of_le_of_lt (m := 40000) (by rw [List.length_map]; exact hwl) (by decide), ?_⟩
        refine ⟨_, _, _, R5 ++ [(a.2.1, y.2 ++ [a])], ws5 ++ [a.2.1], kvs5 ++ [((.inr a.2.1 : L2.Key), .ref l7)], rfl, fun b o n h => ?_, ?_, ?_, ?_, ?_, hI7, ?_, ?_, ?_, ?_⟩
        · rw [upd_ne (fun z => by rw [z, hW0] at h; cases h)]
          exact f8 b o n h
        · rw [upd_ne naW]; exact a8
        · rw [upd_ne nDW]; exact h18
        · rw [upd_same, List.map_append]; rfl
        · exact hR8.mono (fun l vs n hl => by rw [upd_ne n.1]; exact hl) (tk_put h28)
        · rw [List.map_append]; exact List.mem_append_left _ hn5
        · intro b hb' h1 h2 h3
          rw [List.map_append] at h1 ⊢
          have h2' : b.1.1 ∉ ws5 := fun z => h2 (List.mem_append_left _ z)
          rcases List.mem_append.mp h1 with z | z
          · exact List.mem_append_left _ (hcl5 b hb' z h2' h3)
          · exact absurd (List.mem_append_right ws5 z) h2
        · intro k a' hk' ha' hn'
          rw [List.map_append]
          by_cases c : k = i
          · rw [c, ha] at ha'
            cases ha'
            exact List.mem_append_right _ List.mem_cons_self
          · exact List.mem_append_left _ (hp5 k a' (by omega) ha' hn')
        · omega
    · rintro σ H5 ⟨o5, o6, o7, R5, ws5, kvs5, rfl, f5, a5, h15, h25, hR5, hI5, hn5, hcl5, hp5, hm5⟩
      rw [hk.len] at hp5
      refine ⟨a5, meas A R5 ws5, by omega, _, _, _, _, R5, ws5, kvs5, rfl, fun b o h => ?_, ?_, ?_, ?_, hI5, ?_, rfl, by omega⟩
      · by_cases c : b = aD
        · rw [c, hA] at h
          rw [c, upd_same]
          exact h
        · rw [upd_ne c]
          exact f5 b o c h
      · rw [upd_ne naD.symm]; exact h15
      · rw [upd_ne naW.symm]; exact h25
      · exact hR5.mono (fun l vs _ h => by rw [upd_ne (fun z => by rw [z, a5] at h; cases h)]; exact h) (fun b xs h => by rw [upd_ne (fun z => by rw [z, a5] at h; cases h)]; exact h)
      · intro a ha h1 h2
        by_cases c : a.1.1 = name
        · obtain ⟨k, hk', e⟩ := List.getElem_of_mem ha
          exact hp5 k a hk' (by rw [List.getElem?_eq_getElem hk', e]) c
        · exact hcl5 a ha h1 h2 c
def spRowsZ : Sp := fun vs H Q _ => ∃ (f : Str) (aD : Addr) (A : List Ak) (akvs : List (List L2.Key × V)) (od : Obj), vs = [.str f, .ref aD] ∧ H aD = some (.frz od (.dT akvs)) ∧ AkL H A akvs ∧ A.length ≤ 10000 ∧
  ∀ D H' R kvs (W : Addr → Prop), H D = none → Same H H' → (∀ l, W l → H l = none) → H' D = some (.dK kvs) → RwL H' W R kvs → RowsOk A f R → R.length ≤ A.length + 1 → (∀ x ∈ R, x.2.length < R.length) → Q (.ref D) H'
theorem ok_rowsZ {f : Addr} {fd : FuncData} (F : Fun K "rows_from" "rows_from" srows_from f fd) : FnOk P w K mg base CX0 1 f fd ["f", "asks"] spRowsZ := by
  refine F.ok scrows_from (fun vs H Q E h => ?_) (fun cdv A outer s H vs Q E hr h => ?_)
  · obtain ⟨f, aD, A, akvs, od, rfl, _⟩ := h
    rfl
  obtain ⟨f, aD, A, akvs, od, rfl, hA, hk, hlA, q⟩ := h
  refine ⟨_, (pss_cons (ps_set (i := 2) scrows_from.nd rfl (Or.inl rfl) (pe_disp (pps_cons (pv 0) (pe_lst pa_nil) pps_nil) (by rfl) (by rfl) (fun z => by cases z) (by decide)))
    (pss_cons (ps_set (i := 3) scrows_from.nd rfl (Or.inl rfl) (pe_lst (pa_cons (pv 0) pa_nil)))
    (pss_cons (ps_while PassesOwn.never (pt_truth (pv 3) (by intro _; rfl)) (pss_cons (ps_set (i := 4) scrows_from.nd rfl (Or.inl rfl) (pe_bm0 PySem.F.plainAttrs_list PySem.F.slot_list_pop PySem.F.type_list_pop mt_pop (pv 3)))
    (pss_one (ps_for PassesOwn.never rfl (pi_tupItems (pv 1)) (pg_tup rfl (pgs_cons (pg_name (i := 5) scrows_from.nd rfl (Or.inl rfl)) (pgs_cons (pg_tup rfl (pgs_cons (pg_name (i := 6) scrows_from.nd rfl (Or.inl rfl)) (pgs_cons (pg_name (i := 7) scrows_from.nd rfl (Or.inl rfl)) pgs_nil))) pgs_nil))) (pss_one (ps_if (PW.pt (pw_and (pt_cmpR op_eq (pe_ix ix_tup (pv 5) pe_int (fun _ _ => rfl)) (pv 4) (nomark _)) (pw_and1 (pt_cmp (pc_dnotin (hu_of hr) (pv 6) (pv 2)))))) (pss_cons (ps_dput (hu_of hr) (pv 2) (pv 6) (pe_lst (StX.pa_star (pe_dget (hu_of hr) (pv 2) (pv 4) (fun _ _ => rfl)) (pa_cons (pv 5) pa_nil))) rfl)
    (pss_one (ps_expr (pe_bm PySem.F.plainAttrs_list PySem.F.slot_list_append PySem.F.type_list_append mt_append (pv 3) (pa_cons (pv 6) pa_nil))))) pss_nil))))))
    (pss_one (ps_ret (pv 2)))))), ?_⟩
  -- rows, waiting
  refine fun D hD => ⟨_, rfl, sz (by show 0 ≤ 100000; decide), fun l0 hl0 => ?_⟩
  have sD := same_new hD (.dK [])
  have s0 := same_new hl0 (.lst [])
  refine ⟨s0 _ _ upd_same, [((.inr f : L2.Key), .ref l0)], rfl, by show 1 ≤ 15; decide, ?_⟩
  rw [show mergeK [] [((.inr f : L2.Key), V.ref l0)] = [((.inr f : L2.Key), V.ref l0)] from rfl]
  have hl0' := hl0
  have nlD : l0 ≠ D := fun z => by rw [z, upd_same] at hl0; cases hl0
  have s1 : Same H (upd (upd (upd H D (.dK [])) l0 (.lst [])) D (.dK [((.inr f : L2.Key), V.ref l0)])) := same_mut (sD.trans s0) hD
  have g1 : (upd (upd (upd H D (.dK [])) l0 (.lst [])) D (.dK [((.inr f : L2.Key), V.ref l0)])) D = some (.dK [((.inr f : L2.Key), V.ref l0)]) := upd_same
  have g2 : (upd (upd (upd H D (.dK [])) l0 (.lst [])) D (.dK [((.inr f : L2.Key), V.ref l0)])) l0 = some (.lst []) := by rw [upd_ne nlD]; exact upd_same
  generalize upd (upd (upd H D (.dK [])) l0 (.lst [])) D (.dK [((.inr f : L2.Key), V.ref l0)]) = H1 at s1 g1 g2
  refine ⟨_, rfl, sz (by show 1 ≤ 100000; decide), fun W hW => ?_⟩
  have s2 := same_new hW (.lst [.str f])
  have nl0H : H l0 = none := none_back (sD) hl0'
  have nDW : D ≠ W := fun z => by rw [← z, g1] at hW; cases hW
  have nlW : l0 ≠ W := fun z => by rw [← z, g2] at hW; cases hW
  have naD : aD ≠ D := fun z => by rw [← z, hA] at hD; cases hD
  have hW0 : H W = none := by
    cases e : H W with
    | none => rfl
    | some o => rw [s1 _ _ e] at hW; cases hW
  have naW : aD ≠ W := fun z => by rw [← z, hA] at hW0; cases hW0
  -- while
  refine ⟨fun m σ H' => ∃ (o4 o5 o6 o7 : Option V) (R : List (Str × List Ak)) (ws : List Str) (kvs : List (L2.Key × V)), σ = [some (.str f), some (.ref aD), some (.ref D), some (.ref W), o4, o5, o6, o7] ∧ Same H H' ∧ H' D = some (.dK kvs) ∧ H' W = some (.lst (ws.map V.str)) ∧ RwL H' (WN H W) R kvs ∧ RI A f R ws ∧ (∀ a ∈ A, a.1.1 ∈ R.map (·.1) → a.1.1 ∉ ws → a.2.1 ∈ R.map (·.1)) ∧ m = meas A R ws ∧ meas A R ws ≤ 20001,
    ⟨_, _, _, _, _, [(f, [])], [f], _, rfl, s1.trans s2, s2 _ _ g1, upd_same, ⟨⟨rfl, l0, [], rfl, ⟨nlW, nl0H⟩, s2 _ _ g2, trivial⟩, trivial⟩, ⟨by simp, List.mem_cons_self, fun x hx => by rw [List.mem_singleton.mp hx]; exact .nil, fun x hx => by rw [List.mem_singleton.mp hx]; exact List.mem_cons_self, fun x hx => hx, fun x hx => by rw [List.mem_singleton.mp hx]; show 0 < 1; decide⟩, fun a _ h1 h2 => absurd (show a.1.1 ∈ [f] by simpa using h1) h2, rfl, by show 2 * (A.length + 1 - 1) + 1 ≤ 20001; omega⟩, ?_⟩
  rintro m σ H2 ⟨o4, o5, o6, o7, R, ws, kvs, rfl, s12, h1, h2, hR, hI, hcl, rfl, hle⟩
  refine ⟨_, rfl, _, .inl ⟨_, SqL.of h2, rfl⟩, ?_⟩
  rcases List.eq_nil_or_concat ws with rfl | ⟨ws', name, ews⟩
  · refine itF rfl ⟨_, rfl, q D H2 R kvs (WN H W) hD s12 (fun _ z => z.2) h1 hR ⟨hI.nd, hI.st, hI.so, fun a ha hs => hcl a ha hs (fun z => nomatch z)⟩ hI.len hI.ln⟩
  · rw [List.concat_eq_append] at ews
    subst ews
    have hne : ((ws' ++ [name]).map V.str).isEmpty = false := by cases ws' <;> rfl
    refine itT (by rw [hne]; rfl) ?_
    refine ⟨fun σ' H' => ∃ m', m' < meas A R (ws' ++ [name]) ∧ ∃ (o4 o5 o6 o7 : Option V) (R : List (Str × List Ak)) (ws : List Str) (kvs : List (L2.Key × V)), σ' = [some (.str f), some (.ref aD), some (.ref D), some (.ref W), o4, o5, o6, o7] ∧ Same H H' ∧ H' D = some (.dK kvs) ∧ H' W = some (.lst (ws.map V.str)) ∧ RwL H' (WN H W) R kvs ∧ RI A f R ws ∧ (∀ a ∈ A, a.1.1 ∈ R.map (·.1) → a.1.1 ∉ ws → a.2.1 ∈ R.map (·.1)) ∧ m' = meas A R ws ∧ meas A R ws ≤ 20001, fun _ _ z => z, ?_⟩
    have elast : ((ws' ++ [name]).map V.str)[((ws' ++ [name]).map V.str).length - 1]? = some (.str name) := by
      rw [List.map_append, List.length_append]
      simp
    have edrop : ((ws' ++ [name]).map V.str).dropLast = ws'.map V.str := by
      rw [List.map_append]
      simp
    refine ⟨_, rfl, .inl ⟨rfl, _, SqL.of h2⟩, W, _, .str name, rfl, rfl, h2, elast, ?_⟩
    rw [edrop]
    have tkW : TK H2 (upd H2 W (.lst (ws'.map V.str))) := tk_put h2
    have lkW : LK (WN H W) H2 (upd H2 W (.lst (ws'.map V.str))) := fun l vs n hl => by rw [upd_ne n.1]; exact hl
    have hR3 := hR.mono lkW tkW
    have h13 : (upd H2 W (.lst (ws'.map V.str))) D = some (.dK kvs) := by rw [upd_ne nDW]; exact h1
    have h23 : (upd H2 W (.lst (ws'.map V.str))) W = some (.lst (ws'.map V.str)) := upd_same
    have s13 : Same H (upd H2 W (.lst (ws'.map V.str))) := same_mut s12 hW0
    generalize upd H2 W (.lst (ws'.map V.str)) = H3 at hR3 h13 h23 s13
    clear hR tkW lkW h2 h1 s12
    have hI3 : RI A f R ws' := ⟨hI.nd, hI.st, hI.so, hI.sub, fun x hx => hI.wk x (List.mem_append_left _ hx), hI.ln⟩
    have hnk : name ∈ R.map (·.1) := hI.wk name (List.mem_append_right _ List.mem_cons_self)
    have hm3 : meas A R ws' + 1 = meas A R (ws' ++ [name]) := by unfold meas; rw [List.length_append, List.length_singleton]; omega
    have hcl3 : ∀ a ∈ A, a.1.1 ∈ R.map (·.1) → a.1.1 ∉ ws' → a.1.1 ≠ name → a.2.1 ∈ R.map (·.1) := fun a ha h1 h2 h3 => hcl a ha h1 fun z => by
      rcases List.mem_append.mp z with y | y
      · exact h2 y
      · exact h3 (List.mem_singleton.mp y)
    clear hcl hI
    have hA3 := s13 _ _ hA
    -- for
    obtain ⟨M0, hM0⟩ : ∃ M0, M0 = meas A R (ws' ++ [name]) := ⟨_, rfl⟩
    rw [← hM0] at hm3 ⊢
    have hbig : M0 ≤ 40000 := by rw [hM0]; omega
    have hA4 := hA3
    have f4 : ∀ b o, b ≠ aD → H b = some o → H3 b = some o := fun b o _ h => s13 _ _ h
    have h14 := h13
    have h24 := h23
    have hR4 := hR3
    refine ⟨_, rfl, aD, od, akvs, rfl, hA4, for_it walk_tupItems (fun i σ H' => ∃ (o5 o6 o7 : Option V) (R : List (Str × List Ak)) (ws : List Str) (kvs : List (L2.Key × V)), σ = [some (.str f), some (.ref aD), some (.ref D), some (.ref W), some (.str name), o5, o6, o7] ∧ (∀ b o, b ≠ aD → H b = some o → H' b = some o) ∧ H' aD = some (.frz od (.dT akvs)) ∧ H' D = some (.dK kvs) ∧ H' W = some (.lst (ws.map V.str)) ∧ RwL H' (WN H W) R kvs ∧ RI A f R ws ∧ name ∈ R.map (·.1) ∧
      (∀ a ∈ A, a.1.1 ∈ R.map (·.1) → a.1.1 ∉ ws → a.1.1 ≠ name → a.2.1 ∈ R.map (·.1)) ∧ (∀ k a, k < i → A[k]? = some a → a.1.1 = name → a.2.1 ∈ R.map (·.1)) ∧ meas A R ws + 1 ≤ M0) ?_ ?_ ?_ ?_⟩
    · exact ⟨_, _, _, R, ws', kvs, rfl, f4, hA4, h14, h24, hR4, hI3, hnk, hcl3, fun k a h => absurd h (Nat.not_lt_zero k), Nat.le_of_eq hm3⟩
    · rintro i σ H5 _ ⟨o5, o6, o7, R, ws, kvs, rfl, _, h, _⟩
      exact h
    · rintro i x σ H5 H6 hi ⟨o5, o6, o7, R5, ws5, kvs5, rfl, f5, a5, h15, h25, hR5, hI5, hn5, hcl5, hp5, hm5⟩ ⟨T', k, v, qk, hkv, hq, rfl, hT, rfl⟩
      have tk5 : TK H H5 := fun b xs hb => f5 b _ (fun z => by rw [z, hA] at hb; cases hb) hb
      obtain ⟨a, ha, hk1, bv, hv, hb⟩ := hk.get hkv
      dsimp only at hk1 hv
      subst hk1 hv
      have hb5 := tk5 _ _ hb
      have sT := same_new hT (.tup [.ref qk, .ref bv])
      have ham := mem_of_get ha
      rw [keyA_V] at hq
      refine ⟨T', _, rfl, SqT.of upd_same, rfl, _, _, rfl, _, _, rfl, ⟨bv, _, rfl, SqT.of (sT _ _ hb5), rfl, _, _, rfl, _, _, rfl, rfl, rfl, ?_⟩⟩
      have f6 : ∀ b o, b ≠ aD → H b = some o → (upd H5 T' (.tup [.ref qk, .ref bv])) b = some o := fun b o n h => sT _ _ (f5 b o n h)
      have a6 := sT _ _ a5
      have h16 := sT _ _ h15
      have h26 := sT _ _ h25
      have hR6 := hR5.mono (fun l vs _ h => sT _ _ h) (tk_same sT)
      have hq6 := sT _ _ hq
      generalize upd H5 T' (.tup [.ref qk, .ref bv]) = H6 at f6 a6 h16 h26 hR6 hq6
      have done : (a.1.1 = name → a.2.1 ∈ R5.map (·.1)) → ∀ k a', k < i + 1 → A[k]? = some a' → a'.1.1 = name → a'.2.1 ∈ R5.map (·.1) := fun hd k a' hk' ha' hn' => by
        by_cases c : k = i
        · rw [c, ha] at ha'
          cases ha'
          exact hd hn'
        · exact hp5 k a' (by omega) ha' hn'
      refine ⟨_, rfl, qk, _, _, _, rfl, rfl, SqT.of hq6, at0, _, rfl, rfl, _, rfl, ?_⟩
      refine ite2 (fun c => ?_) (fun c => ⟨_, _, _, R5, ws5, kvs5, rfl, f6, a6, h16, h26, hR6, hI5, hn5, hcl5, done fun z => absurd (decide_eq_true (congrArg V.str z)) c, hm5⟩)
      have hsn : a.1.1 = name := V.str.inj (of_decide_eq_true c)
      refine ⟨_, rfl, _, rfl, D, _, rfl, DGet.k (k := .inr a.2.1) h16, _, rfl, ?_⟩
      rw [hR6.val]
      by_cases hin : a.2.1 ∈ R5.map (·.1)
      · refine itF (by rw [decide_eq_true hin]; rfl) ⟨_, _, _, R5, ws5, kvs5, rfl, f6, a6, h16, h26, hR6, hI5, hn5, hcl5, done fun _ => hin, hm5⟩
      · refine itT (by rw [decide_eq_false hin]; rfl) ?_
        obtain ⟨y, kvy, hy1, hy2, hy3, hy4, ly, vy, hy5, hy6, hy7, hy8⟩ := hR6.there hn5
        rw [hy5] at hy3
        obtain ⟨hI7, hm7⟩ := hI5.add ham hy1 (hy2.trans hsn.symm) hin
        refine ⟨_, rfl, _, rfl, D, .ref ly, rfl, by rw [← hy3]; exact DGet.k (k := .inr name) h16, ly, _, rfl, .inr (SqL.of hy7), _, rfl, ?_⟩
        have hvl : vy.length ≤ 10000 := by
          have e1 := hy8.len
          rw [List.length_map] at e1
          have := hI5.ln y hy1
          have := hI5.len
          omega
        refine ⟨sz (by rw [List.length_append, List.length_singleton]; omega), fun l7 hl7 => ?_⟩
        have s7 := same_new hl7 (.lst (vy ++ [.ref qk]))
        have nl7W : l7 ≠ W := fun z => by rw [z, h26] at hl7; cases hl7
        have nl7H : H l7 = none := by
          cases e : H l7 with
          | none => rfl
          | some o => rw [f6 _ _ (fun z => by rw [z, a6] at hl7; cases hl7) e] at hl7; cases hl7
        have nl7D : l7 ≠ D := fun z => by rw [z, h16] at hl7; cases hl7
        have hkl := hR6.len
        have hI5l := hI5.len
        refine ⟨_, rfl, _, rfl, D, _, rfl, DPut.k (k := .inr a.2.1) (s7 _ _ h16) (Nat.lt_of_le_of_lt (m := 10001) (by omega) (by decide)), ?_⟩
        rw [putK_new (by rw [hR6.keys]; intro z; obtain ⟨x, hx, e⟩ := List.mem_map.mp z; exact hin (List.mem_map.mpr ⟨x, hx, Sum.inr.inj e⟩))]
        have tk8 : TK (upd H6 l7 (.lst (vy ++ [.ref qk]))) (upd (upd H6 l7 (.lst (vy ++ [.ref qk]))) D (.dK (kvs5 ++ [((.inr a.2.1 : L2.Key), .ref l7)]))) := fun b xs hb => by
          rw [upd_ne (fun z => by rw [z, s7 _ _ h16] at hb; cases hb)]
          exact hb
        have lk8 : LK (WN H W) (upd H6 l7 (.lst (vy ++ [.ref qk]))) (upd (upd H6 l7 (.lst (vy ++ [.ref qk]))) D (.dK (kvs5 ++ [((.inr a.2.1 : L2.Key), .ref l7)]))) := fun l vs _ hl => by
          rw [upd_ne (fun z => by rw [z, s7 _ _ h16] at hl; cases hl)]
          exact hl
        have hR8 := ((hR6.mono (fun l vs _ h => s7 _ _ h) (tk_same s7)).mono lk8 tk8).app (x := (a.2.1, y.2 ++ [a])) (kv := ((.inr a.2.1 : L2.Key), .ref l7)) ⟨rfl, l7, vy ++ [.ref qk], rfl, ⟨nl7W, nl7H⟩, by rw [upd_ne nl7D]; exact upd_same, by
          rw [List.map_append]
          exact (hy8.imp fun _ _ z => (z.tk (tk_same s7)).tk tk8).app ⟨⟨qk, rfl, tk8 _ _ (s7 _ _ hq6)⟩, trivial⟩⟩
        have f8 : ∀ b o, b ≠ aD → H b = some o → (upd (upd H6 l7 (.lst (vy ++ [.ref qk]))) D (.dK (kvs5 ++ [((.inr a.2.1 : L2.Key), .ref l7)]))) b = some o := fun b o n h => by
          rw [upd_ne (fun z => by rw [z, hD] at h; cases h)]
          exact s7 _ _ (f6 b o n h)
        have a8 : (upd (upd H6 l7 (.lst (vy ++ [.ref qk]))) D (.dK (kvs5 ++ [((.inr a.2.1 : L2.Key), .ref l7)]))) aD = some (.frz od (.dT akvs)) := by
          rw [upd_ne naD]; exact s7 _ _ a6
        have h18 : (upd (upd H6 l7 (.lst (vy ++ [.ref qk]))) D (.dK (kvs5 ++ [((.inr a.2.1 : L2.Key), .ref l7)]))) D = some (.dK (kvs5 ++ [((.inr a.2.1 : L2.Key), .ref l7)])) := upd_same
        have h28 : (upd (upd H6 l7 (.lst (vy ++ [.ref qk]))) D (.dK (kvs5 ++ [((.inr a.2.1 : L2.Key), .ref l7)]))) W = some (.lst (ws5.map V.str)) := by
          rw [upd_ne nDW.symm]; exact s7 _ _ h26
        generalize upd (upd H6 l7 (.lst (vy ++ [.ref qk]))) D (.dK (kvs5 ++ [((.inr a.2.1 : L2.Key), .ref l7)])) = H8 at hR8 f8 a8 h18 h28
        have hwl : ws5.length ≤ 40000 := by
          have : meas A R5 ws5 = 2 * (A.length + 1 - R5.length) + ws5.length := rfl
          have := hbig
          omega
        refine ⟨_, rfl, .inl ⟨rfl, _, SqL.of h28⟩, _, rfl, W, _, _, rfl, rfl, h28, Nat.lt_of_le_of_lt (m := 40000) (by rw [List.length_map]; exact hwl) (by decide), ?_⟩
        refine ⟨_, _, _, R5 ++ [(a.2.1, y.2 ++ [a])], ws5 ++ [a.2.1], kvs5 ++ [((.inr a.2.1 : L2.Key), .ref l7)], rfl, fun b o n h => ?_, ?_, ?_, ?_, ?_, hI7, ?_, ?_, ?_, ?_⟩
        · rw [upd_ne (fun z => by rw [z, hW0] at h; cases h)]
          exact f8 b o n h
        · rw [upd_ne naW]; exact a8
        · rw [upd_ne nDW]; exact h18
        · rw [upd_same, List.map_append]; rfl
        · exact hR8.mono (fun l vs n hl => by rw [upd_ne n.1]; exact hl) (tk_put h28)
        · rw [List.map_append]; exact List.mem_append_left _ hn5
        · intro b hb' h1 h2 h3
          rw [List.map_append] at h1 ⊢
          have h2' : b.1.1 ∉ ws5 := fun z => h2 (List.mem_append_left _ z)
          rcases List.mem_append.mp h1 with z | z
          · exact List.mem_append_left _ (hcl5 b hb' z h2' h3)
          · exact absurd (List.mem_append_right ws5 z) h2
        · intro k a' hk' ha' hn'
          rw [List.map_append]
          by_cases c : k = i
          · rw [c, ha] at ha'
            cases ha'
            exact List.mem_append_right _ List.mem_cons_self
          · exact List.mem_append_left _ (hp5 k a' (by omega) ha' hn')
        · omega
    · rintro σ H5 ⟨o5, o6, o7, R5, ws5, kvs5, rfl, f5, a5, h15, h25, hR5, hI5, hn5, hcl5, hp5, hm5⟩
      rw [hk.len] at hp5
      refine ⟨meas A R5 ws5, by omega, _, _, _, _, R5, ws5, kvs5, rfl, fun b o h => ?_, h15, h25, hR5, hI5, ?_, rfl, by omega⟩
      · by_cases c : b = aD
        · rw [c, hA] at h
          rw [c]
          cases h
          exact a5
        · exact f5 b o c h
      · intro a ha h1 h2
        by_cases c : a.1.1 = name
        · obtain ⟨k, hk', e⟩ := List.getElem_of_mem ha
          exact hp5 k a hk' (by rw [List.getElem?_eq_getElem hk', e]) c
        · exact hcl5 a ha h1 h2 c
end
end KB

set_option pp.maxSteps 400
namespace KB
open PySem L2 HT LamX NdefX PyProof.Rows

/-- a dict comprehension over any walk -/
theorem dc_walk {J : It} {n : Nat} {G : Hp → Prop} {Y : Nat → Hp → V → Hp → Prop} (w : Walk J n G Y) {g : L2.TG} {tt : TT} {tk tv : TE} {vs : List Nat} {σ : L2.St} {H1 : Hp} {D : Addr} {Qd : Hp → Prop} (Pv : Nat → Hp → Prop) (h0 : Pv 0 (upd H1 D (.dK [])))
    (hG : ∀ i H, i ≤ n → Pv i H → G H)
    (hs : ∀ i x H H', i < n → Pv i H → Y i H x H' → g x (wipe σ vs) H' fun σ2 H2 => wipe σ2 vs = wipe σ vs ∧ tt σ2 H2 fun b H3 =>
      if b = true then tk σ2 H3 fun y H4 => tv σ2 H4 fun z H5 => ∃ kvs k, y = kV k ∧ H5 D = some (.dK kvs) ∧ kvs.length < sizeLine ∧ Pv (i + 1) (upd H5 D (.dK (putK kvs k z))) else Pv (i + 1) H3) (hd : ∀ H, Pv n H → Qd H) :
    ∃ W : Nat → Nat → Hp → Prop, (∃ m, W 0 m (upd H1 D (.dK []))) ∧ ∀ i m H, W i m H →
      (J.stop i H ∧ Qd H) ∨ (J.go i H ∧ ∃ Nx : Hp → Prop, (∀ H', Nx H' → ∃ m', m' < m ∧ W (i + 1) m' H') ∧ ∀ x H', J.yld i H x H' → g x (wipe σ vs) H' fun σ2 H2 => wipe σ2 vs = wipe σ vs ∧ tt σ2 H2 fun b H3 =>
        if b = true then tk σ2 H3 fun y H4 => tv σ2 H4 fun z H5 => ∃ kvs k, y = kV k ∧ H5 D = some (.dK kvs) ∧ kvs.length < sizeLine ∧ Nx (upd H5 D (.dK (putK kvs k z))) else Nx H3) := by
  refine ⟨fun i m H => m = n - i ∧ i ≤ n ∧ Pv i H, ⟨n, by simp, Nat.zero_le _, h0⟩, ?_⟩
  rintro i m H ⟨rfl, hi, p⟩
  have g1 := hG i H hi p
  by_cases c : i < n
  · exact .inr ⟨w.goes i H c g1, Pv (i + 1), fun H' p' => ⟨n - (i + 1), by omega, rfl, c, p'⟩, fun x H' y => hs i x H H' c p (w.yields i H x H' c g1 y)⟩
  · have e : i = n := by omega
    subst e
    exact .inl ⟨w.stops H g1, hd H p⟩
/-- a list comprehension over any walk -/
theorem lc_walk {J : It} {n : Nat} {G : Hp → Prop} {Y : Nat → Hp → V → Hp → Prop} (w : Walk J n G Y) {g : L2.TG} {tt : TT} {te : TE} {vs : List Nat} {σ : L2.St} {H1 : Hp} {D : Addr} {Qd : Hp → Prop} (Pv : Nat → Hp → Prop) (h0 : Pv 0 (upd H1 D (.lst [])))
    (hG : ∀ i H, i ≤ n → Pv i H → G H)
    (hs : ∀ i x H H', i < n → Pv i H → Y i H x H' → g x (wipe σ vs) H' fun σ2 H2 => wipe σ2 vs = wipe σ vs ∧ tt σ2 H2 fun b H3 =>
      if b = true then te σ2 H3 fun y H4 => ∃ acc, H4 D = some (.lst acc) ∧ acc.length < sizeLine ∧ Pv (i + 1) (upd H4 D (.lst (acc ++ [y]))) else Pv (i + 1) H3) (hd : ∀ H, Pv n H → Qd H) :
    ∃ W : Nat → Nat → Hp → Prop, (∃ m, W 0 m (upd H1 D (.lst []))) ∧ ∀ i m H, W i m H →
      (J.stop i H ∧ Qd H) ∨ (J.go i H ∧ ∃ Nx : Hp → Prop, (∀ H', Nx H' → ∃ m', m' < m ∧ W (i + 1) m' H') ∧ ∀ x H', J.yld i H x H' → g x (wipe σ vs) H' fun σ2 H2 => wipe σ2 vs = wipe σ vs ∧ tt σ2 H2 fun b H3 =>
        if b = true then te σ2 H3 fun y H4 => ∃ acc, H4 D = some (.lst acc) ∧ acc.length < sizeLine ∧ Nx (upd H4 D (.lst (acc ++ [y]))) else Nx H3) := by
  refine ⟨fun i m H => m = n - i ∧ i ≤ n ∧ Pv i H, ⟨n, by simp, Nat.zero_le _, h0⟩, ?_⟩
  rintro i m H ⟨rfl, hi, p⟩
  have g1 := hG i H hi p
  by_cases c : i < n
  · exact .inr ⟨w.goes i H c g1, Pv (i + 1), fun H' p' => ⟨n - (i + 1), by omega, rfl, c, p'⟩, fun x H' y => hs i x H H' c p (w.yields i H x H' c g1 y)⟩
  · have e : i = n := by omega
    subst e
    exact .inl ⟨w.stops H g1, hd H p⟩
theorem sw_trueD {kx vx : Expr} {gs : List Comprehension} {scope : Scope} {pos py : Pos} {y : Str} {l : Nat} {env : PySem.Env} (hk : env.scope.kind = ScopeKind.function) (hy : List.lookup y env.scope.names = some NameKind.local) (hl : (py.line == pos.line) = true)
    (ha : (scope.names.any fun x => match x with | (n, k) => n == y && (k == NameKind.local || k == NameKind.cell)) = false) : swapsWith (kx.DictComp vx gs scope pos) (some (Expr.Name y py)) l env = pure true := sw_true (elt := kx) (gs := gs) (pos := pos) (l := l) hk hy hl ha
theorem ps_setDc {X : Cx} {i : Nat} {y : Str} {py : Pos} {kx vx tg iter : Expr} {ifs : List Expr} {scope : Scope} {own : List (Str × Nat)} {pos spos : Pos} {wi : TI} {g : L2.TG} {tt : TT} {tk tv : TE}
    (hc : X.calm = true) (hN : X.N.Nodup) (hy : X.N[i]? = some y) (hyl : List.lookup y X.env.scope.names = some NameKind.local)
    (hsw : swapsWith (kx.DictComp vx [{ target := tg, iter := iter, ifs := ifs, is_async := 0 }] scope pos) (some (Expr.Name y py)) spos.line X.env = pure true)
    (hi : PI X tg iter wi) (ok : BlkOk X.N X.env.scope scope own)
    (hg : ∀ (s : Shared) (H : Hp) (C : Addr) (cl : List (Str × Addr)) (fp : List Addr), PG (X.blk s H scope (compEnvC scope cl C X.env) fp) tg g)
    (ht : ∀ (s : Shared) (H : Hp) (C : Addr) (cl : List (Str × Addr)) (fp : List Addr), PTs (X.blk s H scope (compEnvC scope cl C X.env) fp) ifs tt)
    (hk : ∀ (s : Shared) (H : Hp) (C : Addr) (cl : List (Str × Addr)) (fp : List Addr), PE (X.blk s H scope (compEnvC scope cl C X.env) fp) kx tk)
    (he : ∀ (s : Shared) (H : Hp) (C : Addr) (cl : List (Str × Addr)) (fp : List Addr), PE (X.blk s H scope (compEnvC scope cl C X.env) fp) vx tv)
    (hs : ∀ x : Value, foldedSetIterable iter X.env x = pure x := by intro _; rfl) :
    PS X (Stmt.Assign [Expr.Name y py] (kx.DictComp vx [{ target := tg, iter := iter, ifs := ifs, is_async := 0 }] scope pos) spos) (tAsg (tDc wi g tt tk tv (own.map (·.2))) (gName i)) := by
  refine ⟨fun pins s σ H D I h => ?_⟩
  rw [exec_Assign_Name_used y py _ spos hsw]
  refine wpAny_bind (wpAny_standAt (wpAny_bind ?_))
  refine wpAny_bind (thn (dc_core hc hN I hi ok hg ht hk he hs h fun L C s' m H' I' q hn f => ?_) fun x s' hq => wpAny_pure (wpAny_pure hq))
  refine wpAny_assign_Name (store_ok2 (v := .ref L) I' hN hy (Or.inl hyl) rfl (fun s2 I2 ⟨a, sb, ha⟩ => ?_) (Or.inr hyl))
  obtain ⟨f0, f1, f2, f3, f4, f5⟩ := f
  have haC : C ≠ a := by
    rcases ha with z | z
    · rw [z]; exact f1
    · intro e; exact f4 y a z e.symm
  exact ⟨m, Heap.Ns.sameBut hn sb haC, fun h3 sb3 => ⟨σ.set i (some (.ref L)), H', Inv.turned I2 (fun b o hb e => (sb3.right b hb).trans e) f0 f1 f3 f4 f5, q⟩⟩
/-! ### levels in the heap -/
def LvK (N : List Str) (lv : Str → Nat) : List (L2.Key × V) := N.map fun n => (.inr n, .int (lv n : Int))
theorem LvK.keys (N : List Str) (lv : Str → Nat) : (LvK N lv).map (·.1) = N.map fun n => (.inr n : L2.Key) := by unfold LvK; rw [List.map_map]; rfl
theorem lvK_val {N : List Str} {lv : Str → Nat} {n : Str} (h : n ∈ N) : valV (LvK N lv) (.inr n) = some (.int (lv n : Int)) := by
  induction N with
  | nil => cases h
  | cons m M ih =>
    unfold valV LvK
    rw [List.map_cons]
    by_cases c : m = n
    · rw [List.find?_cons_of_pos (by exact decide_eq_true (by rw [c])), c]
      rfl
    · rw [List.find?_cons_of_neg (by show ¬ decide ((Sum.inr m : L2.Key) = .inr n) = true; rw [decide_eq_false fun z => c (Sum.inr.inj z)]; exact Bool.false_ne_true)]
      rcases List.mem_cons.mp h with z | z
      · exact absurd z.symm c
      · exact ih z
theorem lvK_no {N : List Str} {lv : Str → Nat} {n : Str} (h : n ∉ N) : valV (LvK N lv) (.inr n) = none := valV_no (by
  rw [LvK.keys]
  intro z
  obtain ⟨x, hx, e⟩ := List.mem_map.mp z
  exact h (by rw [← Sum.inr.inj e]; exact hx))
theorem lvK_put {N : List Str} {lv : Str → Nat} {x : Str} {v : Nat} (h : x ∈ N) : putK (LvK N lv) (.inr x) (.int (v : Int)) = LvK N (setL lv x v) := by
  unfold putK
  rw [if_pos (show (LvK N lv).any (fun kv => decide (kv.1 = Sum.inr x)) = true from List.any_eq_true.mpr ⟨(.inr x, .int (lv x : Int)), List.mem_map.mpr ⟨x, h, rfl⟩, decide_eq_true rfl⟩)]
  unfold LvK
  rw [List.map_map]
  refine List.map_congr_left fun n _ => ?_
  show (if (Sum.inr n : L2.Key) = .inr x then ((Sum.inr n : L2.Key), V.int (v : Int)) else (.inr n, .int (lv n : Int))) = (.inr n, .int (setL lv x v n : Int))
  unfold setL
  by_cases c : n = x
  · rw [if_pos (by rw [c]), if_pos c]
  · rw [if_neg (fun z => c (Sum.inr.inj z)), if_neg c]
section
variable {P : Program} {w : World} {K : PySem.W.Frag} {mg : Str → Option Value} {base : Heap}
/-! ### least_levels -/
abbrev sleast_levels : Stmt := top 21
theorem scleast_levels : FnScope ["asks", "names", "levels", "name", "is_settled", "place", "asked", "weight"] ["asks", "names"] (defScope sleast_levels) := ⟨rfl, rfl, rfl, by decide +kernel, rfl, by decide +kernel, by decide +kernel⟩
def spLeast : Sp := fun vs H Q _ => ∃ (aD nL : Addr) (A : List Ak) (akvs : List (List L2.Key × V)) (N : List Str), vs = [.ref aD, .ref nL] ∧ H aD = some (.dT akvs) ∧ AkL H A akvs ∧ H nL = some (.lst (N.map V.str)) ∧ N.Nodup ∧ N.length ≤ 10001 ∧ A.length ≤ 10000 ∧ Cl A N ∧ NR A N ∧ (∀ a ∈ A, a.2.2 ≤ 1) ∧
  ∀ D H' lv, H D = none → Same H H' → H' D = some (.dK (LvK N lv)) → Up A N lv → Re A N lv → Q (.ref D) H'
theorem ok_least {f : Addr} {fd : FuncData} (F : Fun K "least_levels" "least_levels" sleast_levels f fd) : FnOk P w K mg base CX0 1 f fd ["asks", "names"] spLeast := by
  refine F.ok scleast_levels (fun vs H Q E h => ?_) (fun cdv A outer s H vs Q E hr h => ?_)
  · obtain ⟨aD, nL, A, akvs, N, rfl, _⟩ := h
    rfl
  obtain ⟨aD, nL, A, akvs, N, rfl, hA, hk, hN, hnd, hlN, hlA, hcl, hnr, hw1, q⟩ := h
  refine ⟨_, (pss_cons (ps_setDc (i := 2) (own := [("name", 3)]) (g := gName 3) (tt := tYes) (tk := tVar 3) (tv := tC (.int 0)) (by rfl) scleast_levels.nd rfl rfl (sw_trueD rfl rfl rfl (by decide +kernel)) (pi_list (pv 1)) (blkOk_by (own := [("name", 3)]) (N := ["asks", "names", "levels", "name", "is_settled", "place", "asked", "weight"]) (sc := defScope sleast_levels) (by decide +kernel)) (fun _ _ _ _ _ => (pg_name (i := 3) scleast_levels.nd rfl (Or.inl rfl))) (fun _ _ _ _ _ => pts_nil) (fun _ _ _ _ _ => (pv 3)) (fun _ _ _ _ _ => pe_int))
    (pss_cons (ps_set (i := 4) scleast_levels.nd rfl (Or.inl rfl) pe_bl)
    (pss_cons (ps_while PassesOwn.never (pt_not (pt_val (pv 4))) (pss_cons (ps_set (i := 4) scleast_levels.nd rfl (Or.inl rfl) pe_bl)
    (pss_one (ps_lock (ps_for PassesOwn.never rfl (pi_tupItems (pv 0)) (pg_tup rfl (pgs_cons (pg_name (i := 5) scleast_levels.nd rfl (Or.inl rfl)) (pgs_cons (pg_tup rfl (pgs_cons (pg_name (i := 6) scleast_levels.nd rfl (Or.inl rfl)) (pgs_cons (pg_name (i := 7) scleast_levels.nd rfl (Or.inl rfl)) pgs_nil))) pgs_nil))) (pss_one (ps_if (PW.pt (pw_and (pt_cmp (pc_din (hu_of hr) (pe_ix ix_tup (pv 5) pe_int (fun _ _ => rfl)) (pv 2))) (pw_and1 (pt_cmpR op_lt (pe_dget (hu_of hr) (pv 2) (pe_ix ix_tup (pv 5) pe_int (fun _ _ => rfl)) (fun _ _ => rfl)) (pe_op op_add (pe_dget (hu_of hr) (pv 2) (pv 6) (fun _ _ => rfl)) (pv 7)) (nomark _))))) (pss_cons (ps_dput (hu_of hr) (pv 2) (pe_ix ix_tup (pv 5) pe_int (fun _ _ => rfl)) (pe_op op_add (pe_dget (hu_of hr) (pv 2) (pv 6) (fun _ _ => rfl)) (pv 7)) rfl)
    (pss_one (ps_set (i := 4) scleast_levels.nd rfl (Or.inl rfl) pe_bl))) pss_nil)))))))
    (pss_one (ps_ret (pv 2)))))), ?_⟩
  refine ⟨_, rfl, nL, rfl, ⟨_, SqL.of hN⟩, fun D hD => ?_⟩
  have naD : aD ≠ D := fun z => by rw [← z, hA] at hD; cases hD
  refine dc_walk (walk_list (K := K) (a := nL) (xs := N.map V.str)) (fun i H' => Same H H' ∧ H' D = some (.dK (LvK (N.take i) fun _ => 0))) ⟨same_new hD _, upd_same⟩ ?_ ?_ ?_
  · rintro i H' _ ⟨s1, _⟩
    exact SqL.of (s1 _ _ hN)
  · rintro i x H1 H2 hi ⟨s1, h1⟩ ⟨e', hx⟩
    subst e'
    rw [List.getElem?_map] at hx
    obtain ⟨n, hn, rfl⟩ := Option.map_eq_some_iff.mp hx
    obtain ⟨hj, hj2⟩ := List.getElem?_eq_some_iff.mp hn
    refine ⟨rfl, ?_⟩
    dsimp only [tYes]
    rw [if_pos rfl]
    refine ⟨_, rfl, LvK (N.take i) (fun _ => 0), Sum.inr n, rfl, h1, Nat.lt_of_le_of_lt (m := 10001) (by unfold LvK; rw [List.length_map, List.length_take]; omega) (by decide), same_mut s1 hD, ?_⟩
    rw [upd_same, putK_new, List.take_succ_eq_append_getElem hj, hj2]
    · unfold LvK
      rw [List.map_append]
      rfl
    · rw [LvK.keys]
      intro z
      obtain ⟨y, hy, e⟩ := List.mem_map.mp z
      have e2 : y = n := Sum.inr.inj e
      obtain ⟨k, hk', e3⟩ := List.getElem_of_mem hy
      rw [List.getElem_take] at e3
      have hk2 : k < i := by rw [List.length_take] at hk'; omega
      exact List.pairwise_iff_getElem.mp hnd k i (by omega) hj hk2 (e3.trans (e2.trans hj2.symm))
  rintro H1 ⟨s1, h1⟩
  rw [List.length_map, List.take_length] at h1
  -- while
  refine ⟨fun m σ H' => ∃ (o3 o5 o6 o7 : Option V) (lv : Str → Nat) (st : Bool), σ = [some (.ref aD), some (.ref nL), some (.ref D), o3, some (.bl st), o5, o6, o7] ∧ Same H H' ∧ H' D = some (.dK (LvK N lv)) ∧ Re A N lv ∧ (st = true → Up A N lv) ∧ m = (if st = true then 0 else 1) + (N.length * N.length - sumL N lv),
    ⟨_, _, _, _, _, fun _ => 0, false, rfl, s1, h1, fun n hn => ⟨[], n, .nil, rfl⟩, (by intro z; cases z), rfl⟩, ?_⟩
  rintro m σ H2 ⟨o3, o5, o6, o7, lv, st, rfl, s2, h2, re, up, rfl⟩
  refine ⟨_, rfl, _, rfl, ?_⟩
  cases st with
  | true => exact itF rfl ⟨_, rfl, q D H2 lv hD s2 h2 (up rfl) re⟩
  | false =>
    refine itT rfl ?_
    refine ⟨fun σ' H' => ∃ m', m' < (if false = true then 0 else 1) + (N.length * N.length - sumL N lv) ∧ ∃ (o3 o5 o6 o7 : Option V) (lv : Str → Nat) (st : Bool), σ' = [some (.ref aD), some (.ref nL), some (.ref D), o3, some (.bl st), o5, o6, o7] ∧ Same H H' ∧ H' D = some (.dK (LvK N lv)) ∧ Re A N lv ∧ (st = true → Up A N lv) ∧ m' = (if st = true then 0 else 1) + (N.length * N.length - sumL N lv), fun _ _ z => z, ?_⟩
    have hA2 := s2 _ _ hA
    refine ⟨aD, .dT akvs, hA2, trivial, fun od => ?_⟩
    have hA4 : (upd H2 aD (.frz od (.dT akvs))) aD = some (.frz od (.dT akvs)) := upd_same
    have f4 : ∀ b o, b ≠ aD → H b = some o → (upd H2 aD (.frz od (.dT akvs))) b = some o := fun b o n h => by rw [upd_ne n]; exact s2 _ _ h
    have h14 : (upd H2 aD (.frz od (.dT akvs))) D = some (.dK (LvK N lv)) := by rw [upd_ne naD.symm]; exact h2
    generalize upd H2 aD (.frz od (.dT akvs)) = H4 at hA4 f4 h14
    refine ⟨_, rfl, aD, od, akvs, rfl, hA4, for_it walk_tupItems (fun i σ H' => ∃ (o5 o6 o7 : Option V) (lv1 : Str → Nat) (st : Bool), σ = [some (.ref aD), some (.ref nL), some (.ref D), o3, some (.bl st), o5, o6, o7] ∧ (∀ b o, b ≠ aD → H b = some o → H' b = some o) ∧ H' aD = some (.frz od (.dT akvs)) ∧ H' D = some (.dK (LvK N lv1)) ∧ Re A N lv1 ∧
      ((st = true ∧ lv1 = lv ∧ ∀ k a, k < i → A[k]? = some a → a.1.1 ∈ N → lv1 a.2.1 + a.2.2 ≤ lv1 a.1.1) ∨ (st = false ∧ sumL N lv < sumL N lv1))) ?_ ?_ ?_ ?_⟩
    · exact ⟨_, _, _, lv, true, rfl, f4, hA4, h14, re, .inl ⟨rfl, rfl, fun k a h => absurd h (Nat.not_lt_zero k)⟩⟩
    · rintro i σ H5 _ ⟨o5, o6, o7, lv1, st, rfl, _, h, _⟩
      exact h
    · rintro i x σ H5 H6 hi ⟨o5, o6, o7, lv1, st, rfl, f5, a5, h15, re5, hst⟩ ⟨T', k, v, qk, hkv, hq, rfl, hT, rfl⟩
      have tk5 : TK H H5 := fun b xs hb => f5 b _ (fun z => by rw [z, hA] at hb; cases hb) hb
      obtain ⟨a, ha, hk1, bv, hv, hb⟩ := hk.get hkv
      dsimp only at hk1 hv
      subst hk1 hv
      have hb5 := tk5 _ _ hb
      have sT := same_new hT (.tup [.ref qk, .ref bv])
      have ham := mem_of_get ha
      rw [keyA_V] at hq
      refine ⟨T', _, rfl, SqT.of upd_same, rfl, _, _, rfl, _, _, rfl, ⟨bv, _, rfl, SqT.of (sT _ _ hb5), rfl, _, _, rfl, _, _, rfl, rfl, rfl, ?_⟩⟩
      have f6 : ∀ b o, b ≠ aD → H b = some o → (upd H5 T' (.tup [.ref qk, .ref bv])) b = some o := fun b o n h => sT _ _ (f5 b o n h)
      have a6 := sT _ _ a5
      have h16 := sT _ _ h15
      have hq6 := sT _ _ hq
      generalize upd H5 T' (.tup [.ref qk, .ref bv]) = H6 at f6 a6 h16 hq6
      have done : (a.1.1 ∈ N → lv1 a.2.1 + a.2.2 ≤ lv1 a.1.1) → ((st = true ∧ lv1 = lv ∧ ∀ k a, k < i + 1 → A[k]? = some a → a.1.1 ∈ N → lv1 a.2.1 + a.2.2 ≤ lv1 a.1.1) ∨ (st = false ∧ sumL N lv < sumL N lv1)) := fun hd => by
        rcases hst with ⟨e1, e2, e3⟩ | z
        · refine .inl ⟨e1, e2, fun k a' hk' ha' hn' => ?_⟩
          by_cases c : k = i
          · rw [c, ha] at ha'
            cases ha'
            exact hd hn'
          · exact e3 k a' (by omega) ha' hn'
        · exact .inr z
      refine ⟨_, rfl, qk, _, _, _, rfl, rfl, SqT.of hq6, at0, _, rfl, D, _, rfl, DGet.k (k := .inr a.1.1) h16, _, rfl, ?_⟩
      by_cases hin : a.1.1 ∈ N
      · refine itT (by rw [lvK_val hin]; rfl) ?_
        have hin2 := hcl a ham hin
        refine ⟨_, rfl, _, rfl, qk, _, _, _, rfl, rfl, SqT.of hq6, at0, D, _, rfl, by rw [← lvK_val hin]; exact DGet.k (k := .inr a.1.1) h16, _, rfl, _, rfl, D, _, rfl, by rw [← lvK_val hin2]; exact DGet.k (k := .inr a.2.1) h16, _, rfl, _, _, rfl, rfl, _, _, rfl, rfl, _, rfl, ?_⟩
        refine ite2 (fun c => ?_) (fun c => ⟨_, _, _, lv1, st, rfl, f6, a6, h16, re5, done fun _ => by
          have c' : ¬ ((lv1 a.1.1 : Int) < (lv1 a.2.1 : Int) + (a.2.2 : Int)) := fun z => c (decide_eq_true z)
          omega⟩)
        have c' : ((lv1 a.1.1 : Int) < (lv1 a.2.1 : Int) + (a.2.2 : Int)) := of_decide_eq_true c
        refine ⟨_, rfl, _, rfl, D, _, rfl, by rw [← lvK_val hin2]; exact DGet.k (k := .inr a.2.1) h16, _, rfl, _, _, rfl, rfl, _, rfl, _, rfl, qk, _, _, _, rfl, rfl, SqT.of hq6, at0, D, _, rfl, DPut.k (k := .inr a.1.1) h16 (Nat.lt_of_le_of_lt (m := 10001) (by unfold LvK; rw [List.length_map]; omega) (by decide)), ?_⟩
        refine ⟨_, _, _, setL lv1 a.1.1 (lv1 a.2.1 + a.2.2), false, rfl, fun b o n h => ?_, ?_, by rw [← lvK_put hin, Int.natCast_add]; exact upd_same, re5.set hcl ham hin, .inr ⟨rfl, ?_⟩⟩
        · rw [upd_ne (fun z => by rw [z, hD] at h; cases h)]
          exact f6 b o n h
        · rw [upd_ne naD]; exact a6
        · have := sum_set (N := N) (lv := lv1) (x := a.1.1) (v := lv1 a.2.1 + a.2.2) (by omega) hin
          rcases hst with ⟨_, e2, _⟩ | ⟨_, z⟩
          · rw [← e2]; exact this
          · omega
      · refine itF (by rw [lvK_no hin]; rfl) ⟨_, _, _, lv1, st, rfl, f6, a6, h16, re5, done fun z => absurd z hin⟩
    · rintro σ H5 ⟨o5, o6, o7, lv1, st, rfl, f5, a5, h15, re5, hst⟩
      rw [hk.len] at hst
      have b1 := sum_le (N := N) (lv := lv1) (B := N.length) (re5.le hcl hnr hw1)
      refine ⟨a5, (if st = true then 0 else 1) + (N.length * N.length - sumL N lv1), ?_, _, _, _, _, lv1, st, rfl, fun b o h => ?_, ?_, re5, fun e => ?_, rfl⟩
      · rcases hst with ⟨e1, e2, _⟩ | ⟨e1, z⟩
        · rw [e1, e2]
          show 0 + _ < 1 + _
          omega
        · rw [e1]
          show 1 + _ < 1 + _
          omega
      · by_cases c : b = aD
        · rw [c, hA] at h
          rw [c, upd_same]
          exact h
        · rw [upd_ne c]
          exact f5 b o c h
      · rw [upd_ne naD.symm]; exact h15
      · rcases hst with ⟨_, _, e3⟩ | ⟨e1, _⟩
        · intro a ha hs
          obtain ⟨k, hk', e⟩ := List.getElem_of_mem ha
          exact e3 k a hk' (by rw [List.getElem?_eq_getElem hk', e]) hs
        · rw [e1] at e
          cases e
/-! ### is_step_to -/
abbrev sis_step_to : Stmt := top 24
theorem scis_step_to : FnScope ["level", "ask", "levels", "asked", "weight"] ["level", "ask", "levels"] (defScope sis_step_to) := ⟨rfl, rfl, rfl, by decide +kernel, rfl, by decide +kernel, by decide +kernel⟩
def spStep : Sp := fun vs H Q _ => ∃ (v : Int) (b D : Addr) (a : Str) (wt : Nat) (N : List Str) (lv : Str → Nat), vs = [.int v, .ref b, .ref D] ∧ H b = some (.tup [.str a, .int (wt : Int)]) ∧ H D = some (.dK (LvK N lv)) ∧ a ∈ N ∧ Q (.bl (decide (0 < wt ∧ (lv a : Int) = v))) H
theorem ok_step {f : Addr} {fd : FuncData} (F : Fun K "is_step_to" "is_step_to" sis_step_to f fd) : FnOk P w K mg base CX0 1 f fd ["level", "ask", "levels"] spStep := by
  refine F.ok scis_step_to (fun vs H Q E h => ?_) (fun cdv A outer s H vs Q E hr h => ?_)
  · obtain ⟨v, b, D, a, wt, N, lv, rfl, _⟩ := h
    rfl
  obtain ⟨v, b, D, a, wt, N, lv, rfl, hb, hD, hin, q⟩ := h
  refine ⟨_, (pss_cons (ps_asg (pv 1) (pg_tup rfl (pgs_cons (pg_name (i := 3) scis_step_to.nd rfl (Or.inl rfl)) (pgs_cons (pg_name (i := 4) scis_step_to.nd rfl (Or.inl rfl)) pgs_nil))))
    (pss_one (ps_ret (pe_and (pe_cmpR op_gt (pv 4) pe_int (nomark _)) (pe_one (pe_cmpR op_eq (pe_dget (hu_of hr) (pv 2) (pv 3) (fun _ _ => rfl)) (pv 0) (nomark _))))))), ?_⟩
  refine ⟨_, rfl, b, _, rfl, SqT.of hb, rfl, _, _, rfl, _, _, rfl, rfl, ?_⟩
  refine ⟨_, rfl, _, _, rfl, rfl, _, rfl, ?_⟩
  refine ite2 (fun c => ?_) (fun c => ?_)
  · refine ⟨_, rfl, _, rfl, D, _, rfl, by rw [← lvK_val hin]; exact DGet.k (k := .inr a) hD, _, rfl, rfl, ?_⟩
    have c' : (0 : Int) < (wt : Int) := of_decide_eq_true c
    refine Eq.mp ?_ q
    congr 2
    refine decide_eq_decide.mpr ⟨fun z => by rw [z.2], fun z => ⟨by omega, V.int.inj z⟩⟩
  · have c' : ¬ (0 : Int) < (wt : Int) := fun z => c (decide_eq_true z)
    rw [decide_eq_false (fun z => c' (by omega))] at q
    exact q
end
end KB

set_option pp.maxSteps 400
namespace KB
open PySem L2 HT LamX NdefX

theorem AkL.val {H : Hp} : ∀ {as : List Ak} {kvs : List (List L2.Key × V)}, AkL H as kvs → (as.map (·.1)).Nodup → ∀ {i : Nat} {kv : List L2.Key × V}, kvs[i]? = some kv → valV kvs kv.1 = some kv.2
  | [], [], _, _, i, kv, h => by simp at h
  | a :: as, kv0 :: kvs, ⟨x, r⟩, nd, i, kv, h => by
    obtain ⟨n1, n2⟩ := List.nodup_cons.mp nd
    cases i with
    | zero =>
      rw [List.getElem?_cons_zero] at h
      cases h
      unfold valV
      rw [List.find?_cons_of_pos (by exact decide_eq_true rfl)]
      rfl
    | succ i =>
      rw [List.getElem?_cons_succ] at h
      have ih := r.val n2 h
      obtain ⟨b, hb, hk, _⟩ := r.get h
      unfold valV at ih ⊢
      rw [List.find?_cons_of_neg]
      · exact ih
      · intro z
        have e : kv0.1 = kv.1 := of_decide_eq_true z
        rw [x.1, hk] at e
        exact n1 (List.mem_map.mpr ⟨b, mem_of_get hb, (keyA_inj e).symm⟩)
  | [], _ :: _, h, _, _, _, _ => h.elim
  | _ :: _, [], h, _, _, _, _ => h.elim
theorem AkL.has {H : Hp} {as : List Ak} {kvs : List (List L2.Key × V)} (h : AkL H as kvs) (nd : (as.map (·.1)).Nodup) {a : Ak} (ha : a ∈ as) : ∃ b, valV kvs (keyA a.1) = some (.ref b) ∧ H b = some (.tup [.str a.2.1, .int (a.2.2 : Int)]) := by
  obtain ⟨i, hi, e⟩ := List.getElem_of_mem ha
  have hi' : i < kvs.length := by rw [h.len]; exact hi
  obtain ⟨a', ha', hk, b, hb, hc⟩ := h.get (List.getElem?_eq_getElem hi')
  rw [List.getElem?_eq_getElem hi, e] at ha'
  cases ha'
  refine ⟨b, ?_, hc⟩
  rw [← hk, ← hb]
  exact h.val nd (List.getElem?_eq_getElem hi')
section
variable {P : Program} {w : World} {K : PySem.W.Frag} {mg : Str → Option Value} {base : Heap}
/-! ### step_down -/
abbrev sstep_down : Stmt := top 23
theorem scstep_down : FnScope ["f", "asks", "levels", "rows", "below", "last", "place"] ["f", "asks", "levels"] (defScope sstep_down) := ⟨rfl, rfl, rfl, by decide +kernel, rfl, by decide +kernel, by decide +kernel⟩
def spDown : Sp := fun vs H Q _ => ∃ (f : Str) (aD D : Addr) (A : List Ak) (akvs : List (List L2.Key × V)) (N : List Str) (lv : Str → Nat), vs = [.str f, .ref aD, .ref D] ∧ H aD = some (.dT akvs) ∧ AkL H A akvs ∧ A.length ≤ 10000 ∧ (A.map (·.1)).Nodup ∧ H D = some (.dK (LvK N lv)) ∧ f ∈ N ∧ Cl A N ∧ Up A N lv ∧ Re A N lv ∧ (∀ a ∈ A, a.2.2 ≤ 1) ∧ 0 < lv f ∧
  ∀ L H' p a vp q, H L = none → Same H H' → H' L = some (.lst (vp ++ [.ref q])) → All2 (PlcV H') (p.map (·.1)) vp → PlAt H' a.1 q → Row A f p a.1.1 → a ∈ A → 0 < a.2.2 → lv a.2.1 + 1 = lv f → vp.length ≤ A.length + 1 → Q (.ref L) H'
theorem ok_down {f f1 f2 : Addr} {fd d1 d2 : FuncData} (F : Fun K "step_down" "step_down" sstep_down f fd)
    (Grows_from : FnOk P w K mg base CX0 1 f1 d1 ["f", "asks"] spRows) (Rrows_from : Ref K mg "rows_from" f1 d1 ["f", "asks"])
    (Gis_step_to : FnOk P w K mg base CX0 1 f2 d2 ["level", "ask", "levels"] spStep) (Ris_step_to : Ref K mg "is_step_to" f2 d2 ["level", "ask", "levels"]) : FnOk P w K mg base CX0 2 f fd ["f", "asks", "levels"] spDown := by
  refine F.ok scstep_down (fun vs H Q E h => ?_) (fun cdv A outer s H vs Q E hr h => ?_)
  · obtain ⟨f, aD, D, A, akvs, N, lv, rfl, _⟩ := h
    rfl
  obtain ⟨f, aD, D, A, akvs, N, lv, rfl, hA, hk, hlA, hnd, hD, hf, hcl, up, re, hw1, hpos, q⟩ := h
  refine ⟨_, (pss_cons (ps_set (i := 3) scstep_down.nd rfl (Or.inr rfl) (pe_call Grows_from (hr.mono (by omega)) rfl Rrows_from.m Rrows_from.k Rrows_from.b .nil pass0 (pa_cons (pv 0) (pa_cons (pv 1) pa_nil))))
    (pss_cons (ps_set (i := 4) scstep_down.nd rfl (Or.inr rfl) (pe_op op_sub (pe_dget (hu_of hr) (pv 2) (pv 0) (fun _ _ => rfl)) pe_int))
    (pss_cons (ps_lock (ps_setLc (i := 5) (own := [("place", 6)]) (g := gName 6) (tt := tAnd (tB (tDIn (tOp (rIxT K) (tVar 6) (tC (.int 0))) (tVar 3))) (tB (tCall spStep [] E0 (tCons (tVar 4) (tCons (tDGet (tVar 1) (tVar 6)) (tCons (tVar 2) tNil)))))) (te := tVar 6) (by rfl) scstep_down.nd rfl rfl (sw_true rfl rfl rfl (by decide +kernel)) (pi_keys (pv 1)) (blkOk_by (own := [("place", 6)]) (N := ["f", "asks", "levels", "rows", "below", "last", "place"]) (sc := defScope sstep_down) (by decide +kernel)) (fun _ _ _ _ _ => (pg_name (i := 6) scstep_down.nd rfl (Or.inl rfl))) (fun _ _ _ _ _ => (pts_one (PW.pt (pw_and (pt_cmp (pc_din (hu_of hr) (pe_ix ix_tup (pv 6) pe_int (fun _ _ => rfl)) (pv 3))) (pw_and1 (pt_val (pe_call Gis_step_to (hr.mono (by omega)) rfl Ris_step_to.m Ris_step_to.k Ris_step_to.b .nil pass0 (pa_cons (pv 4) (pa_cons (pe_dget (hu_of hr) (pv 1) (pv 6) (fun _ _ => rfl)) (pa_cons (pv 2) pa_nil)))))))))) (fun _ _ _ _ _ => (pv 6))))
    (pss_one (ps_ret (pe_lst (StX.pa_star (pe_dget (hu_of hr) (pv 3) (pe_ix ix_tup (pe_ix ix_list (pv 5) pe_int (fun _ _ => rfl)) pe_int (fun _ _ => rfl)) (fun _ _ => rfl)) (pa_cons (pe_ix ix_list (pv 5) pe_int (fun _ _ => rfl)) pa_nil)))))))), ?_⟩
  refine ⟨_, rfl, _, rfl, f, aD, A, akvs, rfl, hA, hk, hlA, fun D2 H1 R kvs W hD2 s1 hWn h1 hR ok hRl hRn => ?_⟩
  have hD1 := s1 _ _ hD
  have hA1 := s1 _ _ hA
  have n2A : D2 ≠ aD := fun z => by rw [z, hA] at hD2; cases hD2
  have nDA : D ≠ aD := fun z => by rw [z, hA] at hD; cases hD
  refine ⟨_, rfl, _, rfl, D, _, rfl, by rw [← lvK_val hf]; exact DGet.k (k := .inr f) hD1, _, _, rfl, rfl, ?_⟩
  refine ⟨aD, .dT akvs, hA1, trivial, fun od => ?_⟩
  have hA2 : (upd H1 aD (.frz od (.dT akvs))) aD = some (.frz od (.dT akvs)) := upd_same
  have f2 : ∀ b o, b ≠ aD → H b = some o → (upd H1 aD (.frz od (.dT akvs))) b = some o := fun b o n h => by rw [upd_ne n]; exact s1 _ _ h
  have hD3 : (upd H1 aD (.frz od (.dT akvs))) D = some (.dK (LvK N lv)) := by rw [upd_ne nDA]; exact hD1
  have h2 : (upd H1 aD (.frz od (.dT akvs))) D2 = some (.dK kvs) := by rw [upd_ne n2A]; exact h1
  have lk0 : LK W H1 (upd H1 aD (.frz od (.dT akvs))) := fun l vs _ h => by rw [upd_ne (fun z => by rw [z, hA1] at h; cases h)]; exact h
  have tk0 : TK H1 (upd H1 aD (.frz od (.dT akvs))) := fun b xs h => by rw [upd_ne (fun z => by rw [z, hA1] at h; cases h)]; exact h
  have hR2 := hR.mono lk0 tk0
  generalize upd H1 aD (.frz od (.dT akvs)) = H2 at hA2 f2 hD3 h2 hR2
  have tk2 : TK H H2 := fun b xs hb => f2 b _ (fun z => by rw [z, hA] at hb; cases hb) hb
  have hk2 := hk.tk tk2
  have hRN : ∀ n, n ∈ R.map (·.1) → n ∈ N := fun n hn => by
    obtain ⟨x, hx, e⟩ := List.mem_map.mp hn
    rw [← e]
    exact ((ok.so x hx).cl hcl hf).1
  have hgood : ∀ a : Ak, a ∈ A → (a.1.1 ∈ R.map (·.1) ∧ 0 < a.2.2 ∧ (lv a.2.1 : Int) = (lv f : Int) - 1) → (0 < a.2.2 ∧ lv a.2.1 + 1 = lv f) := fun a _ z => ⟨z.2.1, by have := z.2.2; omega⟩
  refine ⟨_, rfl, aD, od, rfl, .inr ⟨akvs, hA2, fun L hL => ?_⟩⟩
  have nLA : L ≠ aD := fun z => by rw [z, hA2] at hL; cases hL
  refine lc_walk walk_keysT (fun i H' => ∃ (as : List Ak) (vs : List V), Same H2 H' ∧ H' L = some (.lst vs) ∧ All2 (PlcV H') (as.map (·.1)) vs ∧ vs.length ≤ i ∧ (∀ a ∈ as, a ∈ A ∧ a.1.1 ∈ R.map (·.1) ∧ 0 < a.2.2 ∧ (lv a.2.1 : Int) = (lv f : Int) - 1) ∧ (∀ k a, k < i → A[k]? = some a → a.1.1 ∈ R.map (·.1) → 0 < a.2.2 → (lv a.2.1 : Int) = (lv f : Int) - 1 → as ≠ [])) ?_ ?_ ?_ ?_
  · exact ⟨[], [], same_new hL _, upd_same, trivial, Nat.le_refl _, (fun _ h => nomatch h), fun k a h => absurd h (Nat.not_lt_zero k)⟩
  · rintro i H3 _ ⟨as, vs, s3, _⟩
    exact s3 _ _ hA2
  · rintro i x H3 H4 hi ⟨as, vs, s3, h3, hv, hvl, hg, hc⟩ ⟨e', k, v, qk, hkv, rfl, hq⟩
    subst e'
    obtain ⟨a, ha, hk1, bv, hv1, hb⟩ := hk2.get hkv
    have hval := hk2.val hnd hkv
    dsimp only at hk1 hv1 hval
    subst hk1 hv1
    have ham := mem_of_get ha
    have hq' := hq
    rw [keyA_V] at hq'
    have hA3 := s3 _ _ hA2
    refine ⟨rfl, ?_⟩
    refine ⟨_, rfl, qk, _, _, _, rfl, rfl, SqT.of hq', at0, _, rfl, D2, _, rfl, DGet.k (k := .inr a.1.1) (s3 _ _ h2), _, rfl, ?_⟩
    rw [hR2.val]
    have skip : ¬ (a.1.1 ∈ R.map (·.1) ∧ 0 < a.2.2 ∧ (lv a.2.1 : Int) = (lv f : Int) - 1) → ∃ (as : List Ak) (vs : List V), Same H2 H4 ∧ H4 L = some (.lst vs) ∧ All2 (PlcV H4) (as.map (·.1)) vs ∧ vs.length ≤ i + 1 ∧ (∀ a ∈ as, a ∈ A ∧ a.1.1 ∈ R.map (·.1) ∧ 0 < a.2.2 ∧ (lv a.2.1 : Int) = (lv f : Int) - 1) ∧ (∀ k a, k < i + 1 → A[k]? = some a → a.1.1 ∈ R.map (·.1) → 0 < a.2.2 → (lv a.2.1 : Int) = (lv f : Int) - 1 → as ≠ []) := fun hno => by
      refine ⟨as, vs, s3, h3, hv, by omega, hg, fun k a' hk' ha' x1 x2 x3 => ?_⟩
      by_cases c : k = i
      · rw [c, ha] at ha'
        cases ha'
        exact absurd ⟨x1, x2, x3⟩ hno
      · exact hc k a' (by omega) ha' x1 x2 x3
    by_cases hin : a.1.1 ∈ R.map (·.1)
    · refine itT (by rw [decide_eq_true hin]) ?_
      have hin2 : a.2.1 ∈ N := hcl a ham (hRN _ hin)
      refine ⟨_, rfl, _, rfl, _, rfl, aD, .ref bv, rfl, .inr ⟨akvs, keyA a.1, qk, .inr ⟨od, hA3⟩, rfl, hq, hval.symm⟩, _, rfl, _, bv, D, a.2.1, a.2.2, N, lv, rfl, s3 _ _ hb, s3 _ _ hD3, hin2, _, rfl, ?_⟩
      refine ite2 (fun c => ?_) (fun c => skip fun z => c (decide_eq_true z.2))
      obtain ⟨c1, c2⟩ := of_decide_eq_true c
      refine ⟨_, rfl, vs, h3, Nat.lt_of_le_of_lt (m := 10000) (by rw [hk2.len] at hi; omega) (by decide), as ++ [a], vs ++ [.ref qk], same_mut s3 hL, upd_same, ?_, ?_, fun b hb => ?_, fun _ _ _ _ _ _ _ z => ?_⟩
      · rw [List.map_append]
        exact (hv.imp fun _ _ z => z.tk (tk_put h3)).app ⟨⟨qk, rfl, tk_put h3 _ _ hq'⟩, trivial⟩
      · rw [List.length_append, List.length_singleton]; omega
      · rcases List.mem_append.mp hb with z | z
        · exact hg b z
        · rw [List.mem_singleton.mp z]
          exact ⟨ham, hin, c1, c2⟩
      · exact absurd z (by simp)
    · refine itF (by rw [decide_eq_false hin]) (itF rfl (skip fun z => hin z.1))
  rintro H3 ⟨as, vs, s3, h3, hv, hvl, hg, hc⟩
  rw [hk2.len] at hc hvl
  have hA3 := s3 _ _ hA2
  refine ⟨hA3, ?_⟩
  obtain ⟨p0, a0, hp0, ha0, hw0, hl0⟩ := step_there up re hcl hw1 hf hpos
  have hne : as ≠ [] := by
    obtain ⟨k, hk', e⟩ := List.getElem_of_mem ha0
    exact hc k a0 hk' (by rw [List.getElem?_eq_getElem hk', e]) (ok.all hp0) hw0 (by omega)
  cases as with
  | nil => exact absurd rfl hne
  | cons a as =>
    cases vs with
    | nil => exact hv.elim
    | cons v vs =>
      obtain ⟨⟨qk, rfl, hq⟩, hv'⟩ := hv
      obtain ⟨ham, hin, hw, hl⟩ := hg a List.mem_cons_self
      have f4 : ∀ b o, b ≠ aD → H3 b = some o → (upd H3 aD (.dT akvs)) b = some o := fun b o n h => by rw [upd_ne n]; exact h
      have s4 : Same H (upd H3 aD (.dT akvs)) := fun b o h => by
        by_cases c : b = aD
        · rw [c, hA] at h
          rw [c, upd_same]
          exact h
        · exact f4 b o c (s3 _ _ (f2 b o c h))
      have h4L : (upd H3 aD (.dT akvs)) L = some (.lst (.ref qk :: vs)) := f4 _ _ nLA h3
      have h4D : (upd H3 aD (.dT akvs)) D2 = some (.dK kvs) := f4 _ _ n2A (s3 _ _ h2)
      have hR4 : RwL (upd H3 aD (.dT akvs)) W R kvs := (hR2.mono (fun l vs _ h => s3 _ _ h) (tk_same s3)).mono (fun l vs _ h => f4 _ _ (fun z => by rw [z, hA3] at h; cases h) h) (fun l vs h => f4 _ _ (fun z => by have h' : H3 _ = _ := h; rw [z, hA3] at h'; cases h') h)
      have hq4 : (upd H3 aD (.dT akvs)) qk = some (.tup (.str a.1.1 :: a.1.2.map V.int)) := f4 _ _ (fun z => by rw [z, hA3] at hq; cases hq) hq
      generalize upd H3 aD (.dT akvs) = H4 at s4 h4L h4D hR4 hq4
      obtain ⟨y, kvy, hy1, hy2, hy3, hy4, ly, vy, hy5, hy6, hy7, hy8⟩ := hR4.there hin
      rw [hy5] at hy3
      refine ⟨_, rfl, _, rfl, L, _, _, _, rfl, rfl, SqL.of h4L, at0, qk, _, _, _, rfl, rfl, SqT.of hq4, at0, D2, .ref ly, rfl, by rw [← hy3]; exact DGet.k (k := .inr a.1.1) h4D, ly, _, rfl, .inr (SqL.of hy7), _, rfl, L, _, _, _, rfl, rfl, SqL.of h4L, at0, ?_⟩
      have hvl : vy.length ≤ A.length + 1 := by
        have e1 := hy8.len
        rw [List.length_map] at e1
        have := hRn y hy1
        omega
      refine ⟨sz (by rw [List.length_append, List.length_singleton]; omega), fun l7 hl7 => ?_⟩
      have s7 := same_new hl7 (.lst (vy ++ [.ref qk]))
      have hrow := ok.so y hy1
      rw [hy2] at hrow
      refine q l7 _ y.2 a vy qk ?_ (s4.trans s7) upd_same (hy8.imp fun _ _ z => z.tk (tk_same s7)) (s7 _ _ hq4) hrow ham hw (by omega) hvl
      cases e : H l7 with
      | none => rfl
      | some o => rw [s4 _ _ e] at hl7; cases hl7
/-! ### greatest_row -/
abbrev sgreatest_row : Stmt := top 22
theorem scgreatest_row : FnScope ["f", "asks", "levels", "row", "name", "step"] ["f", "asks", "levels"] (defScope sgreatest_row) := ⟨rfl, rfl, rfl, by decide +kernel, rfl, by decide +kernel, by decide +kernel⟩
def spGreat : Sp := fun vs H Q _ => ∃ (f : Str) (aD D : Addr) (A : List Ak) (akvs : List (List L2.Key × V)) (N : List Str) (lv : Str → Nat), vs = [.str f, .ref aD, .ref D] ∧ H aD = some (.dT akvs) ∧ AkL H A akvs ∧ A.length ≤ 300 ∧ N.length ≤ 301 ∧ (∀ n ∈ N, lv n ≤ N.length) ∧ (A.map (·.1)).Nodup ∧ H D = some (.dK (LvK N lv)) ∧ f ∈ N ∧ Cl A N ∧ Up A N lv ∧ Re A N lv ∧ (∀ a ∈ A, a.2.2 ≤ 1) ∧
  ∀ L H' r vs g, H L = none → Same H H' → H' L = some (.lst vs) → All2 (PlcV H') (r.map (·.1)) vs → Row A f r g → wtR r = lv f → vs.length ≤ 100000 → Q (.ref L) H'
theorem ok_great {f f1 : Addr} {fd d1 : FuncData} (F : Fun K "greatest_row" "greatest_row" sgreatest_row f fd)
    (Gstep_down : FnOk P w K mg base CX0 2 f1 d1 ["f", "asks", "levels"] spDown) (Rstep_down : Ref K mg "step_down" f1 d1 ["f", "asks", "levels"]) : FnOk P w K mg base CX0 3 f fd ["f", "asks", "levels"] spGreat := by
  refine F.ok scgreatest_row (fun vs H Q E h => ?_) (fun cdv A outer s H vs Q E hr h => ?_)
  · obtain ⟨f, aD, D, A, akvs, N, lv, rfl, _⟩ := h
    rfl
  obtain ⟨f, aD, D, A, akvs, N, lv, rfl, hA, hk, hlA, hlN, hlv, hnd, hD, hf, hcl, up, re, hw1, q⟩ := h
  refine ⟨_, (pss_cons (ps_set (i := 3) scgreatest_row.nd rfl (Or.inl rfl) (pe_lst pa_nil))
    (pss_cons (ps_set (i := 4) scgreatest_row.nd rfl (Or.inl rfl) (pv 0))
    (pss_cons (ps_while PassesOwn.never (pt_cmpR op_gt (pe_dget (hu_of hr) (pv 2) (pv 4) (fun _ _ => rfl)) pe_int (nomark _)) (pss_cons (ps_set (i := 5) scgreatest_row.nd rfl (Or.inl rfl) (pe_call Gstep_down (hr.mono (by omega)) rfl Rstep_down.m Rstep_down.k Rstep_down.b .nil pass0 (pa_cons (pv 4) (pa_cons (pv 1) (pa_cons (pv 2) pa_nil)))))
    (pss_cons (ps_expr (pe_bm PySem.F.plainAttrs_list PySem.F.slot_list_extend PySem.F.type_list_extend mt_extend (pv 3) (pa_cons (pv 5) pa_nil)))
    (pss_one (ps_set (i := 4) scgreatest_row.nd rfl (Or.inl rfl) (pe_ix ix_tup (pe_dget (hu_of hr) (pv 1) (pe_ix ix_list (pv 5) (pe_un un_neg pe_int) (fun _ _ => rfl)) (fun _ _ => rfl)) pe_int (fun _ _ => rfl)))))))
    (pss_one (ps_ret (pv 3)))))), ?_⟩
  refine ⟨sz (by show 0 ≤ 100000; decide), fun Lr hLr => ?_⟩
  refine ⟨_, rfl, ?_⟩
  have s0 := same_new hLr (.lst [])
  refine ⟨fun m σ H' => ∃ (o5 : Option V) (r : List Ak) (vs : List V) (g : Str), σ = [some (.str f), some (.ref aD), some (.ref D), some (.ref Lr), some (.str g), o5] ∧ Same H H' ∧ H' Lr = some (.lst vs) ∧ All2 (PlcV H') (r.map (·.1)) vs ∧ Row A f r g ∧ wtR r + lv g = lv f ∧ vs.length ≤ (lv f - lv g) * 302 ∧ lv g ≤ lv f ∧ m = lv g,
    ⟨_, _, [], [], f, rfl, s0, upd_same, trivial, .nil, by show 0 + _ = _; omega, Nat.zero_le _, Nat.le_refl _, rfl⟩, ?_⟩
  rintro m σ H1 ⟨o5, r, vs, g, rfl, s1, h1, hv, hrow, hwt, hvl, hgf, rfl⟩
  have hg := (hrow.cl hcl hf).1
  have hD1 := s1 _ _ hD
  have hA1 := s1 _ _ hA
  refine ⟨_, rfl, _, rfl, D, _, rfl, by rw [← lvK_val hg]; exact DGet.k (k := .inr g) hD1, _, _, rfl, rfl, _, rfl, ?_⟩
  refine ite2 (fun c => ?_) (fun c => ?_)
  · have hpos : 0 < lv g := by
      have : (0 : Int) < (lv g : Int) := of_decide_eq_true c
      omega
    refine ⟨fun σ' H' => ∃ m', m' < lv g ∧ ∃ (o5 : Option V) (r : List Ak) (vs : List V) (g : Str), σ' = [some (.str f), some (.ref aD), some (.ref D), some (.ref Lr), some (.str g), o5] ∧ Same H H' ∧ H' Lr = some (.lst vs) ∧ All2 (PlcV H') (r.map (·.1)) vs ∧ Row A f r g ∧ wtR r + lv g = lv f ∧ vs.length ≤ (lv f - lv g) * 302 ∧ lv g ≤ lv f ∧ m' = lv g, fun _ _ z => z, ?_⟩
    have hk1 := hk.tk (tk_same s1)
    refine ⟨_, rfl, _, rfl, _, rfl, g, aD, D, A, akvs, N, lv, rfl, hA1, hk1, by omega, hnd, hD1, hg, hcl, up, re, hw1, hpos, fun L H2 p a vp qk hL s2 h2 hvp hqk hrp ham haw hal hpl => ?_⟩
    have h12 := s2 _ _ h1
    have nLL : L ≠ Lr := fun z => by rw [z, h1] at hL; cases hL
    have hmul : (lv f - lv a.2.1) * 302 = (lv f - lv g) * 302 + 302 := by
      have : lv f - lv a.2.1 = (lv f - lv g) + 1 := by omega
      rw [this, Nat.succ_mul]
    have hfb : (lv f - lv g) * 302 ≤ 301 * 302 := Nat.mul_le_mul_right _ (by have := hlv f hf; omega)
    refine ⟨_, rfl, .inl ⟨rfl, _, SqL.of h12⟩, _, rfl, Lr, L, _, _, rfl, rfl, h12, h2, Nat.le_of_lt (Nat.lt_of_le_of_lt (m := 100000) (by rw [List.length_append, List.length_singleton]; omega) (by decide)), ?_⟩
    have tk3 : TK H2 (upd H2 Lr (.lst (vs ++ (vp ++ [.ref qk])))) := tk_put h12
    have hA3 : (upd H2 Lr (.lst (vs ++ (vp ++ [.ref qk])))) aD = some (.dT akvs) := by
      have hA2 := s2 _ _ hA1
      rw [upd_ne (fun z => by rw [z, h12] at hA2; cases hA2)]
      exact hA2
    have h3 : (upd H2 Lr (.lst (vs ++ (vp ++ [.ref qk])))) L = some (.lst (vp ++ [.ref qk])) := by rw [upd_ne nLL]; exact h2
    have s3 : Same H (upd H2 Lr (.lst (vs ++ (vp ++ [.ref qk])))) := same_mut (s1.trans s2) hLr
    have h3r : (upd H2 Lr (.lst (vs ++ (vp ++ [.ref qk])))) Lr = some (.lst (vs ++ (vp ++ [.ref qk]))) := upd_same
    generalize upd H2 Lr (.lst (vs ++ (vp ++ [.ref qk]))) = H3 at tk3 hA3 h3 s3 h3r
    obtain ⟨bv, hval, hb⟩ := hk.has hnd ham
    have hq3 := tk3 _ _ hqk
    refine ⟨_, rfl, _, rfl, _, rfl, L, _, _, _, rfl, rfl, SqL.of h3, atI_last _ _, aD, .ref bv, rfl, by rw [← hval]; exact DGet.t (k := keyA a.1) hA3 (by rw [keyA_V]; exact hq3), bv, _, _, _, rfl, rfl, SqT.of (s3 _ _ hb), at0, ?_⟩
    refine ⟨lv a.2.1, by omega, _, r ++ (p ++ [a]), vs ++ (vp ++ [.ref qk]), a.2.1, rfl, s3, h3r, ?_, hrow.app (hrp.snoc ham rfl), ?_, ?_, by omega, rfl⟩
    · rw [List.map_append, List.map_append]
      exact (hv.imp fun _ _ z => (z.tk (tk_same s2)).tk tk3).app ((hvp.imp fun _ _ z => z.tk tk3).app ⟨⟨qk, rfl, hq3⟩, trivial⟩)
    · have h1' := up.row hcl hrp hg
      have h2' := up a ham (hrp.cl hcl hg).1
      rw [wtR_app, wtR_app, wtR_cons]
      show _ + (_ + (_ + 0)) + _ = _
      have := hw1 a ham
      omega
    · rw [List.length_append, List.length_append, List.length_singleton, hmul]
      omega
  · have h0 : lv g = 0 := by
      have : ¬ (0 : Int) < (lv g : Int) := fun z => c (decide_eq_true z)
      omega
    exact ⟨_, rfl, q Lr H1 r vs g hLr s1 h1 hv hrow (by omega) (by
      have hfb : (lv f - lv g) * 302 ≤ 301 * 302 := Nat.mul_le_mul_right _ (by have := hlv f hf; omega)
      omega)⟩
end
end KB

set_option pp.maxSteps 400
namespace KB
open PySem L2 HT LamX NdefX

section
variable {P : Program} {w : World} {K : PySem.W.Frag} {mg : Str → Option Value} {base : Heap} {CN : Addr}
/-! ### most_waiting -/
abbrev smost_waiting : Stmt := top 18
theorem scmost_waiting : FnScope ["turned", "f", "asks", "rows", "place", "asked", "weight", "rows_on", "levels"] ["turned", "f"] (defScope smost_waiting) := ⟨rfl, rfl, rfl, by decide +kernel, rfl, by decide +kernel, by decide +kernel⟩
/-- what a told ring is -/
structure RingT (H H' : Hp) (A : List Ak) (f : Str) (l1 l2 : Addr) (r1 r2 : List Ak) (v1 v2 : List V) (g : Str) : Prop where
  n1 : H l1 = none
  n2 : H l2 = none
  ne : l1 ≠ l2
  h1 : H' l1 = some (.lst v1)
  h2 : H' l2 = some (.lst v2)
  p1 : All2 (PlcV H') (r1.map (·.1)) v1
  p2 : All2 (PlcV H') (r2.map (·.1)) v2
  w1 : Row A f r1 g
  w2 : Row A g r2 g
  wt : 0 < wtR r2
  b1 : v1.length ≤ 100000
  b2 : v2.length ≤ 100000
/-- what a told row and its levels are -/
structure MostT (H H' : Hp) (A : List Ak) (f : Str) (L D : Addr) (N : List Str) (lv : Str → Nat) (r : List Ak) (vs : List V) (g : Str) : Prop where
  nL : H L = none
  nD : H D = none
  ne : L ≠ D
  hL : H' L = some (.lst vs)
  hD : H' D = some (.dK (LvK N lv))
  pv : All2 (PlcV H') (r.map (·.1)) vs
  row : Row A f r g
  wt : wtR r = lv f
  st : f ∈ N
  cl : Cl A N
  up : Up A N lv
  re : Re A N lv
  nr : NR A N
  so : ∀ n ∈ N, ∃ r, Row A f r n
  nd : N.Nodup
  b1 : vs.length ≤ 100000
def spMW : Sp := fun vs H Q _ => ∃ (p : Addr) (es : List TEr) (us : List V) (f : Str), vs = [.ref p, .str f] ∧ TBkAt H es us p ∧ es.length ≤ 6 ∧ (∀ e ∈ es, kP e.2.2 ∧ ncnt e.2.2 ≤ 1000) ∧ (es.map (·.1)).Nodup ∧ (∃ e ∈ es, e.1 = f) ∧ (asksB es).length ≤ 300 ∧
  (∀ H' t l1 l2 r1 r2 v1 v2 g, Same H H' → H' t = some (.tup [.str "ring", .ref l1, .ref l2]) → RingT H H' (asksB es) f l1 l2 r1 r2 v1 v2 g → Q (.ref t) H') ∧
  (∀ H' t L D N lv r vs g, Same H H' → H' t = some (.tup [.str "most", .ref L, .ref D]) → MostT H H' (asksB es) f L D N lv r vs g → Q (.ref t) H')
theorem ok_mw {f f1 f2 f3 f4 f5 : Addr} {fd d1 d2 d3 d4 d5 : FuncData} (F : Fun K "most_waiting" "most_waiting" smost_waiting f fd)
    (Gneed_errand : FnOk P w K mg base (L2.CX P w) 2 f1 d1 ["book", "f"] (spNeedE CN)) (Rneed_errand : Ref K mg "need_errand" f1 d1 ["book", "f"])
    (Gasks_placed : FnOk P w K mg base CX0 4 f2 d2 ["turned"] spAsks) (Rasks_placed : Ref K mg "asks_placed" f2 d2 ["turned"])
    (Grows_from : FnOk P w K mg base CX0 1 f3 d3 ["f", "asks"] spRows) (GrowsZ : FnOk P w K mg base CX0 1 f3 d3 ["f", "asks"] spRowsZ) (Rrows_from : Ref K mg "rows_from" f3 d3 ["f", "asks"])
    (Gleast_levels : FnOk P w K mg base CX0 1 f4 d4 ["asks", "names"] spLeast) (Rleast_levels : Ref K mg "least_levels" f4 d4 ["asks", "names"])
    (Ggreatest_row : FnOk P w K mg base CX0 3 f5 d5 ["f", "asks", "levels"] spGreat) (Rgreatest_row : Ref K mg "greatest_row" f5 d5 ["f", "asks", "levels"])
    (T : Txt K mg) : FnOk P w K mg base CX0 5 f fd ["turned", "f"] spMW := by
  refine F.ok scmost_waiting (fun vs H Q E h => ?_) (fun cdv A outer s H vs Q E hr h => ?_)
  · obtain ⟨p, es, us, f, rfl, _⟩ := h
    rfl
  obtain ⟨p, es, us, f, rfl, hB, hl6, hk0, hnd, ⟨e0, he0, hf⟩, hl3, qr, qm⟩ := h
  refine ⟨_, (pss_cons (ps_expr (pe_call Gneed_errand (hr.mono (by omega)) rfl Rneed_errand.m Rneed_errand.k Rneed_errand.b .nil passX (pa_cons (pv 0) (pa_cons (pv 1) pa_nil))))
    (pss_cons (ps_set (i := 2) scmost_waiting.nd rfl (Or.inl rfl) (pe_call Gasks_placed (hr.mono (by omega)) rfl Rasks_placed.m Rasks_placed.k Rasks_placed.b .nil pass0 (pa_cons (pv 0) pa_nil)))
    (pss_cons (ps_set (i := 3) scmost_waiting.nd rfl (Or.inl rfl) (pe_call Grows_from (hr.mono (by omega)) rfl Rrows_from.m Rrows_from.k Rrows_from.b .nil pass0 (pa_cons (pv 1) (pa_cons (pv 2) pa_nil))))
    (pss_cons (ps_lock (ps_for PassesOwn.never rfl (pi_tupItems (pv 2)) (pg_tup rfl (pgs_cons (pg_name (i := 4) scmost_waiting.nd rfl (Or.inl rfl)) (pgs_cons (pg_tup rfl (pgs_cons (pg_name (i := 5) scmost_waiting.nd rfl (Or.inl rfl)) (pgs_cons (pg_name (i := 6) scmost_waiting.nd rfl (Or.inl rfl)) pgs_nil))) pgs_nil))) (pss_one (ps_if (PW.pt (pw_and (pt_cmpR op_gt (pv 6) pe_int (nomark _)) (pw_and1 (pt_cmp (pc_din (hu_of hr) (pe_ix ix_tup (pv 4) pe_int (fun _ _ => rfl)) (pv 3)))))) (pss_cons (ps_set (i := 7) scmost_waiting.nd rfl (Or.inl rfl) (pe_call GrowsZ (hr.mono (by omega)) rfl Rrows_from.m Rrows_from.k Rrows_from.b .nil pass0 (pa_cons (pv 5) (pa_cons (pv 2) pa_nil))))
    (pss_one (ps_if (pt_cmp (pc_din (hu_of hr) (pe_ix ix_tup (pv 4) pe_int (fun _ _ => rfl)) (pv 7))) (pss_one (ps_ret (pe_tup (pa_cons pe_str (pa_cons (pe_dget (hu_of hr) (pv 3) (pe_ix ix_tup (pv 4) pe_int (fun _ _ => rfl)) (fun _ _ => rfl)) (pa_cons (pe_lst (pa_cons (pv 4) (StX.pa_star (pe_dget (hu_of hr) (pv 7) (pe_ix ix_tup (pv 4) pe_int (fun _ _ => rfl)) (fun _ _ => rfl)) pa_nil))) pa_nil)))))) pss_nil))) pss_nil))))
    (pss_cons (ps_set (i := 8) scmost_waiting.nd rfl (Or.inl rfl) (pe_call Gleast_levels (hr.mono (by omega)) rfl Rleast_levels.m Rleast_levels.k Rleast_levels.b .nil pass0 (pa_cons (pv 2) (pa_cons (pe_callTy (call_list_dK rfl) (by rfl) T.m_list (by decide +kernel) (pa_cons (pv 3) pa_nil)) pa_nil))))
    (pss_one (ps_ret (pe_tup (pa_cons pe_str (pa_cons (pe_call Ggreatest_row (hr.mono (by omega)) rfl Rgreatest_row.m Rgreatest_row.k Rgreatest_row.b .nil pass0 (pa_cons (pv 1) (pa_cons (pv 2) (pa_cons (pv 8) pa_nil)))) (pa_cons (pv 8) pa_nil))))))))))), ?_⟩
  refine ⟨_, rfl, _, rfl, p, es, us, f, rfl, hB, fun _ => ?_, fun hno => absurd hf (hno e0 he0)⟩
  refine ⟨_, rfl, p, es, us, rfl, hB, hl6, hk0, hnd, fun aD H1 akvs hA0 s1 hA hk => ?_⟩
  have hw1 : ∀ a ∈ asksB es, a.2.2 ≤ 1 := asksB_w
  have hndA := asksB_nd hnd
  generalize asksB es = A at hk hl3 hw1 hndA qm qr
  refine ⟨_, rfl, _, rfl, f, aD, A, akvs, rfl, hA, hk, by omega, fun D H2 R kvs W hD s2 hWn h2 hR ok hRl hRn => ?_⟩
  have hA2 := s2 _ _ hA
  have nDA : D ≠ aD := fun z => by rw [z, hA] at hD; cases hD
  refine ⟨aD, .dT akvs, hA2, trivial, fun od => ?_⟩
  have hA3 : (upd H2 aD (.frz od (.dT akvs))) aD = some (.frz od (.dT akvs)) := upd_same
  have f3 : ∀ b o, b ≠ aD → H2 b = some o → (upd H2 aD (.frz od (.dT akvs))) b = some o := fun b o n h => by rw [upd_ne n]; exact h
  generalize upd H2 aD (.frz od (.dT akvs)) = H3 at hA3 f3
  have back : ∀ H', (∀ b o, b ≠ aD → H2 b = some o → H' b = some o) → Same H2 (upd H' aD (.dT akvs)) := fun H' f4 b o h => by
    by_cases c : b = aD
    · rw [c, hA2] at h
      rw [c, upd_same]
      exact h
    · rw [upd_ne c]
      exact f4 b o c h
  have nst : ∀ {b : Addr} {u : HO}, H2 b = some u → (∀ kk, u ≠ .dT kk) → b ≠ aD := fun h n z => by
    rw [z, hA2] at h
    exact n _ (Option.some.inj h).symm
  refine ⟨_, rfl, aD, od, akvs, rfl, hA3, for_it walk_tupItems (fun i σ H' => ∃ (o4 o5 o6 o7 : Option V), σ = [some (.ref p), some (.str f), some (.ref aD), some (.ref D), o4, o5, o6, o7, none] ∧ (∀ b o, b ≠ aD → H2 b = some o → H' b = some o) ∧ H' aD = some (.frz od (.dT akvs)) ∧
      (∀ k a, k < i → A[k]? = some a → 0 < a.2.2 → a.1.1 ∈ R.map (·.1) → ∀ r, ¬ Row A a.2.1 r a.1.1)) ?_ ?_ ?_ ?_⟩
  · exact ⟨_, _, _, _, rfl, f3, hA3, fun k a h => absurd h (Nat.not_lt_zero k)⟩
  · rintro i σ H5 _ ⟨o4, o5, o6, o7, rfl, _, h, _⟩
    exact h
  · rintro i x σ H5 H6 hi ⟨o4, o5, o6, o7, rfl, f5, a5, hp5⟩ ⟨T', k, v, qk, hkv, hq, rfl, hT, rfl⟩
    have tk5 : TK H2 H5 := fun b xs hb => f5 b _ (nst hb (fun _ z => nomatch z)) hb
    have hk5 := (hk.tk (tk_same s2)).tk tk5
    obtain ⟨a, ha, hk1, bv, hv, hb⟩ := hk5.get hkv
    dsimp only at hk1 hv
    subst hk1 hv
    have sT := same_new hT (.tup [.ref qk, .ref bv])
    have ham := mem_of_get ha
    rw [keyA_V] at hq
    refine ⟨T', _, rfl, SqT.of upd_same, rfl, _, _, rfl, _, _, rfl, ⟨bv, _, rfl, SqT.of (sT _ _ hb), rfl, _, _, rfl, _, _, rfl, rfl, rfl, ?_⟩⟩
    have f6 : ∀ b o, b ≠ aD → H2 b = some o → (upd H5 T' (.tup [.ref qk, .ref bv])) b = some o := fun b o n h => sT _ _ (f5 b o n h)
    have a6 := sT _ _ a5
    have hq6 := sT _ _ hq
    have hk6 := hk5.tk (tk_same sT)
    generalize upd H5 T' (.tup [.ref qk, .ref bv]) = H6 at f6 a6 hq6 hk6
    have h26 := f6 _ _ nDA h2
    have hR6 : RwL H6 W R kvs := hR.mono (fun l vs _ h => f6 _ _ (nst h (fun _ z => nomatch z)) h) (fun l vs h => f6 _ _ (nst h (fun _ z => nomatch z)) h)
    have done : (0 < a.2.2 → a.1.1 ∈ R.map (·.1) → ∀ r, ¬ Row A a.2.1 r a.1.1) → (∀ k a, k < i + 1 → A[k]? = some a → 0 < a.2.2 → a.1.1 ∈ R.map (·.1) → ∀ r, ¬ Row A a.2.1 r a.1.1) := fun hd k a' hk' ha' x1 x2 => by
      by_cases c : k = i
      · rw [c, ha] at ha'
        cases ha'
        exact hd x1 x2
      · exact hp5 k a' (by omega) ha' x1 x2
    refine ⟨_, rfl, _, _, rfl, rfl, _, rfl, ?_⟩
    refine ite2 (fun c => ?_) (fun c => itF rfl ⟨_, _, _, _, rfl, f6, a6, done fun z => absurd (decide_eq_true (by omega : (0 : Int) < (a.2.2 : Int))) c⟩)
    refine ⟨_, rfl, qk, _, _, _, rfl, rfl, SqT.of hq6, at0, _, rfl, D, _, rfl, DGet.k (k := .inr a.1.1) h26, _, rfl, ?_⟩
    rw [hR6.val]
    by_cases hin : a.1.1 ∈ R.map (·.1)
    · refine itT (by rw [decide_eq_true hin]) ?_
      refine ⟨_, rfl, _, rfl, a.2.1, aD, A, akvs, od, rfl, a6, hk6, by omega, fun D3 H7 R3 kvs3 W3 hD3 s7 hWn3 h7 hR7 ok7 hR7l hR7n => ?_⟩
      have hq7 := s7 _ _ hq6
      have f7 : ∀ b o, b ≠ aD → H2 b = some o → H7 b = some o := fun b o n h => s7 _ _ (f6 b o n h)
      have a7 := s7 _ _ a6
      have h27 := s7 _ _ h26
      have hR7' := hR6.mono (fun l vs _ h => s7 _ _ h) (tk_same s7)
      refine ⟨_, rfl, qk, _, _, _, rfl, rfl, SqT.of hq7, at0, _, rfl, D3, _, rfl, DGet.k (k := .inr a.1.1) h7, _, rfl, ?_⟩
      rw [hR7.val]
      by_cases hin3 : a.1.1 ∈ R3.map (·.1)
      · refine itT (by rw [decide_eq_true hin3]) ?_
        obtain ⟨y, kvy, hy1, hy2, hy3, hy4, ly, vy, hy5, hy6, hy7, hy8⟩ := hR7'.there hin
        obtain ⟨y3, kvy3, hz1, hz2, hz3, hz4, lz, vz, hz5, hz6, hz7, hz8⟩ := hR7.there hin3
        rw [hy5] at hy3
        rw [hz5] at hz3
        have hzl : vz.length ≤ 301 := by
          have e1 := hz8.len
          rw [List.length_map] at e1
          have := hR7n y3 hz1
          omega
        refine ⟨_, rfl, _, rfl, qk, _, _, _, rfl, rfl, SqT.of hq7, at0, D, .ref ly, rfl, by rw [← hy3]; exact DGet.k (k := .inr a.1.1) h27, _, rfl, _, rfl, _, rfl, qk, _, _, _, rfl, rfl, SqT.of hq7, at0, D3, .ref lz, rfl, by rw [← hz3]; exact DGet.k (k := .inr a.1.1) h7, lz, _, rfl, .inr (SqL.of hz7), ?_⟩
        refine ⟨sz (by rw [List.append_nil, List.length_cons]; omega), fun l8 hl8 => ?_⟩
        refine ⟨sz (by show 3 ≤ 100000; decide), fun t ht => ?_⟩
        have s8 := (same_new hl8 (.lst (.ref qk :: (vz ++ [])))).trans (same_new ht (.tup [.str "ring", .ref ly, .ref l8]))
        refine ⟨s8 _ _ a7, ?_⟩
        have sF := (s1.trans s2).trans (back _ fun b o n h => s8 _ _ (f7 b o n h))
        have nlA : l8 ≠ aD := fun z => by rw [z, a7] at hl8; cases hl8
        have ntA : t ≠ aD := fun z => by rw [z, (same_new hl8 _) _ _ a7] at ht; cases ht
        have hy7' : H7 ly = some (.lst vy) := hy7
        have n1A : ly ≠ aD := fun z => by rw [z, a7] at hy7'; cases hy7'
        have ntl : l8 ≠ t := fun z => by rw [← z, upd_same] at ht; cases ht
        have nly : ly ≠ l8 := fun z => by rw [← z, hy7'] at hl8; cases hl8
        have hl8n : H7 l8 = none := hl8
        have tkF : TK H7 (upd (upd (upd H7 l8 (.lst (.ref qk :: (vz ++ [])))) t (.tup [.str "ring", .ref ly, .ref l8])) aD (.dT akvs)) := fun b xs hb => by
          rw [upd_ne (fun z => by rw [z, a7] at hb; cases hb)]
          exact s8 _ _ hb
        refine qr _ t ly l8 y.2 (a :: y3.2) vy (.ref qk :: (vz ++ [])) a.1.1 sF (by rw [upd_ne ntA]; exact upd_same) ⟨none_back s1 (hWn ly hy6), ?_, nly, by rw [upd_ne n1A]; exact s8 _ _ hy7, by rw [upd_ne nlA, upd_ne ntl]; exact upd_same, hy8.imp fun _ _ z => z.tk tkF, ?_, ?_, ?_, ?_, ?_, ?_⟩
        · cases e : H l8 with
          | none => rfl
          | some o =>
            have := f7 l8 o nlA (s2 _ _ (s1 _ _ e))
            rw [hl8n] at this
            cases this
        · exact ⟨⟨qk, rfl, tkF _ _ hq7⟩, cast (congrArg (All2 (PlcV _) _) (List.append_nil vz).symm) (hz8.imp fun _ _ z => z.tk tkF)⟩
        · have := ok.so y hy1
          rw [hy2] at this
          exact this
        · have := ok7.so y3 hz1
          rw [hz2] at this
          exact .cons ham this
        · rw [wtR_cons]
          have : 0 < a.2.2 := by
            have := of_decide_eq_true c
            omega
          omega
        · have e1 := hy8.len
          rw [List.length_map] at e1
          have := hRn y hy1
          omega
        · rw [List.append_nil, List.length_cons]
          omega
      · refine itF (by rw [decide_eq_false hin3]) ⟨_, _, _, _, rfl, f7, a7, done fun _ _ r hr => hin3 (ok7.all hr)⟩
    · refine itF (by rw [decide_eq_false hin]) ⟨_, _, _, _, rfl, f6, a6, done fun _ z => absurd z hin⟩
  · rintro σ H5 ⟨o4, o5, o6, o7, rfl, f5, a5, hp5⟩
    rw [hk.len] at hp5
    refine ⟨a5, ?_⟩
    have s6 := back H5 f5
    have hA6 : (upd H5 aD (.dT akvs)) aD = some (.dT akvs) := upd_same
    generalize upd H5 aD (.dT akvs) = H6 at s6 hA6
    have h26 := s6 _ _ h2
    have hk6 := (hk.tk (tk_same s2)).tk (tk_same s6)
    have hnr : NR A (R.map (·.1)) := fun a ha hw hin => by
      obtain ⟨k, hk', e⟩ := List.getElem_of_mem ha
      exact hp5 k a hk' (by rw [List.getElem?_eq_getElem hk', e]) hw hin
    refine ⟨_, rfl, _, rfl, D, kvs, rfl, h26, fun nL hnL => ?_⟩
    have s7 := same_new hnL (.lst (kvs.map fun kv => kV kv.1))
    have hN : (upd H6 nL (.lst (kvs.map fun kv => kV kv.1))) nL = some (.lst ((R.map (·.1)).map V.str)) := by
      rw [upd_same, show (kvs.map fun kv => kV kv.1) = (kvs.map (·.1)).map kV by rw [List.map_map]; rfl, hR.keys, List.map_map, List.map_map]
      rfl
    generalize upd H6 nL (.lst (kvs.map fun kv => kV kv.1)) = H7 at s7 hN
    refine ⟨aD, nL, A, akvs, R.map (·.1), rfl, s7 _ _ hA6, hk6.tk (tk_same s7), hN, ok.nd, by rw [List.length_map]; omega, by omega, ok.cl, hnr, hw1, fun Dl H8 lv hDl s8 h8 up re => ?_⟩
    have s68 := s7.trans s8
    refine ⟨_, rfl, _, rfl, _, rfl, f, aD, Dl, A, akvs, R.map (·.1), lv, rfl, s68 _ _ hA6, hk6.tk (tk_same s68), hl3, by rw [List.length_map]; omega, re.le ok.cl hnr hw1, hndA, h8, ok.st, ok.cl, up, re, hw1, fun L H9 r vs g hL s9 h9 hv hrow hwt hvb => ?_⟩
    have hso : ∀ n ∈ R.map (·.1), ∃ r, Row A f r n := fun n hn => by
      obtain ⟨x, hx, e⟩ := List.mem_map.mp hn
      exact ⟨x.2, by rw [← e]; exact ok.so x hx⟩
    refine ⟨_, rfl, sz (by show 3 ≤ 100000; decide), fun t ht => ?_⟩
    have s10 := same_new ht (.tup [.str "most", .ref L, .ref Dl])
    exact qm _ t L Dl (R.map (·.1)) lv r vs g (s1.trans (s2.trans (s6.trans (s68.trans (s9.trans s10))))) upd_same ⟨none_back (s1.trans (s2.trans (s6.trans s68))) hL, none_back (s1.trans (s2.trans (s6.trans s7))) hDl, (fun z => by rw [z, h8] at hL; cases hL), s10 _ _ h9, s10 _ _ (s9 _ _ h8), hv.imp fun _ _ z => z.tk (tk_same s10), hrow, hwt, ok.st, ok.cl, up, re, hnr, hso, ok.nd, hvb⟩
/-- a name of no errand -/
def spMWZ (CN : Addr) : Sp := fun vs H Q E => ∃ (p : Addr) (es : List TEr) (us : List V) (f : Str), vs = [.ref p, .str f] ∧ TBkAt H es us p ∧ (∀ e ∈ es, e.1 ≠ f) ∧ E (.ref CN) none H
theorem ok_mwZ {f f1 f2 f3 f4 f5 : Addr} {fd d1 d2 d3 d4 d5 : FuncData} (F : Fun K "most_waiting" "most_waiting" smost_waiting f fd)
    (Gneed_errand : FnOk P w K mg base (L2.CX P w) 2 f1 d1 ["book", "f"] (spNeedE CN)) (Rneed_errand : Ref K mg "need_errand" f1 d1 ["book", "f"])
    (Gasks_placed : FnOk P w K mg base CX0 4 f2 d2 ["turned"] spAsks) (Rasks_placed : Ref K mg "asks_placed" f2 d2 ["turned"])
    (Grows_from : FnOk P w K mg base CX0 1 f3 d3 ["f", "asks"] spRows) (GrowsZ : FnOk P w K mg base CX0 1 f3 d3 ["f", "asks"] spRowsZ) (Rrows_from : Ref K mg "rows_from" f3 d3 ["f", "asks"])
    (Gleast_levels : FnOk P w K mg base CX0 1 f4 d4 ["asks", "names"] spLeast) (Rleast_levels : Ref K mg "least_levels" f4 d4 ["asks", "names"])
    (Ggreatest_row : FnOk P w K mg base CX0 3 f5 d5 ["f", "asks", "levels"] spGreat) (Rgreatest_row : Ref K mg "greatest_row" f5 d5 ["f", "asks", "levels"])
    (T : Txt K mg) : FnOk P w K mg base (L2.CX P w) 5 f fd ["turned", "f"] (spMWZ CN) := by
  refine F.okX scmost_waiting (fun vs H Q E h => ?_) (fun cdv A outer s H vs Q E hr h => ?_)
  · obtain ⟨p, es, us, f, rfl, _⟩ := h
    rfl
  obtain ⟨p, es, us, nm, rfl, hB, hno, q⟩ := h
  have tk : Takes (cxOf (L2.CX P w) P w K mg base ["turned", "f", "asks", "rows", "place", "asked", "weight", "rows_on", "levels"] "most_waiting" (defScope smost_waiting) f cdv A outer s H E) (fun cls d σ H' => E cls d H') := takes_of rfl rfl rfl rfl
  refine ⟨_, (pss_cons (ps_expr (pe_callS Gneed_errand (hr.mono (by omega)) rfl Rneed_errand.m Rneed_errand.k Rneed_errand.b (fun σ => passAt tk σ) (pa_cons (pv 0) (pa_cons (pv 1) pa_nil))))
    (pss_cons (ps_set (i := 2) scmost_waiting.nd rfl (Or.inl rfl) (pe_call Gasks_placed (hr.mono (by omega)) rfl Rasks_placed.m Rasks_placed.k Rasks_placed.b .nil pass0 (pa_cons (pv 0) pa_nil)))
    (pss_cons (ps_set (i := 3) scmost_waiting.nd rfl (Or.inl rfl) (pe_call Grows_from (hr.mono (by omega)) rfl Rrows_from.m Rrows_from.k Rrows_from.b .nil pass0 (pa_cons (pv 1) (pa_cons (pv 2) pa_nil))))
    (pss_cons (ps_lock (ps_for (passes_of rfl) rfl (pi_tupItems (pv 2)) (pg_tup rfl (pgs_cons (pg_name (i := 4) scmost_waiting.nd rfl (Or.inl rfl)) (pgs_cons (pg_tup rfl (pgs_cons (pg_name (i := 5) scmost_waiting.nd rfl (Or.inl rfl)) (pgs_cons (pg_name (i := 6) scmost_waiting.nd rfl (Or.inl rfl)) pgs_nil))) pgs_nil))) (pss_one (ps_if (PW.pt (pw_and (pt_cmpR op_gt (pv 6) pe_int (nomark _)) (pw_and1 (pt_cmp (pc_din (hu_of hr) (pe_ix ix_tup (pv 4) pe_int (fun _ _ => rfl)) (pv 3)))))) (pss_cons (ps_set (i := 7) scmost_waiting.nd rfl (Or.inl rfl) (pe_call GrowsZ (hr.mono (by omega)) rfl Rrows_from.m Rrows_from.k Rrows_from.b .nil pass0 (pa_cons (pv 5) (pa_cons (pv 2) pa_nil))))
    (pss_one (ps_if (pt_cmp (pc_din (hu_of hr) (pe_ix ix_tup (pv 4) pe_int (fun _ _ => rfl)) (pv 7))) (pss_one (ps_ret (pe_tup (pa_cons pe_str (pa_cons (pe_dget (hu_of hr) (pv 3) (pe_ix ix_tup (pv 4) pe_int (fun _ _ => rfl)) (fun _ _ => rfl)) (pa_cons (pe_lst (pa_cons (pv 4) (StX.pa_star (pe_dget (hu_of hr) (pv 7) (pe_ix ix_tup (pv 4) pe_int (fun _ _ => rfl)) (fun _ _ => rfl)) pa_nil))) pa_nil)))))) pss_nil))) pss_nil))))
    (pss_cons (ps_set (i := 8) scmost_waiting.nd rfl (Or.inl rfl) (pe_call Gleast_levels (hr.mono (by omega)) rfl Rleast_levels.m Rleast_levels.k Rleast_levels.b .nil pass0 (pa_cons (pv 2) (pa_cons (pe_callTy (call_list_dK rfl) (by rfl) T.m_list (by decide +kernel) (pa_cons (pv 3) pa_nil)) pa_nil))))
    (pss_one (ps_ret (pe_tup (pa_cons pe_str (pa_cons (pe_call Ggreatest_row (hr.mono (by omega)) rfl Rgreatest_row.m Rgreatest_row.k Rgreatest_row.b .nil pass0 (pa_cons (pv 1) (pa_cons (pv 2) (pa_cons (pv 8) pa_nil)))) (pa_cons (pv 8) pa_nil))))))))))), ?_⟩
  refine ⟨_, rfl, _, rfl, p, es, us, nm, rfl, hB, fun hex => ?_, fun _ => q⟩
  obtain ⟨e, he, z⟩ := hex
  exact absurd z (hno e he)
end
end KB

set_option pp.maxSteps 400
namespace KB
open PySem L2 HT LamX NdefX

/-! ### asks of a part -/
def asksOf : Pt → List (Str × Str)
  | .give _ _ => []
  | .ask f _ j => [(f, j)]
  | .tell _ _ p => asksOf p
  | .lett _ _ p => asksOf p
  | .iff _ p q => asksOf p ++ asksOf q
  | .post _ _ p q => asksOf p ++ asksOf q
def postsOk : Pt → Prop
  | .give _ _ => True
  | .ask _ _ _ => True
  | .tell _ _ p => postsOk p
  | .lett _ _ p => postsOk p
  | .iff _ p q => postsOk p ∧ postsOk q
  | .post j _ p q => j ≠ "home" ∧ postsOk p ∧ postsOk q
def inE (e : List Int × Nd) : Option (List Int × Pt) := match e.2 with
  | .inl p => some (e.1, p)
  | .inr _ => none
theorem in_map (k : Int) (l : List (List Int × Nd)) : (l.map fun e => (k :: e.1, e.2)).filterMap inE = (l.filterMap inE).map fun e => (k :: e.1, e.2) := by
  rw [List.filterMap_map, List.map_filterMap]
  congr 1
  funext e
  obtain ⟨ks, n⟩ := e
  cases n <;> rfl
theorem in_T : ∀ t : Tm, (plT t).filterMap inE = [] := by
  intro t
  induction t with
  | mk h n k ih =>
    rw [show plT (.mk h n k) = ([], .inr (.mk h n k)) :: (List.ofFn fun i : _root_.Fin n => (plT (k i)).map (fun e => ((i.val : Int) :: e.1, e.2))).flatten from rfl]
    rw [List.filterMap_cons]
    show List.filterMap inE _ = []
    rw [List.filterMap_eq_nil_iff]
    intro e he
    obtain ⟨l, hl, he2⟩ := List.mem_flatten.mp he
    obtain ⟨i, rfl⟩ := List.mem_ofFn.mp hl
    obtain ⟨e', he', rfl⟩ := List.mem_map.mp he2
    have := List.filterMap_eq_nil_iff.mp (ih i) e' he'
    obtain ⟨ks, nn⟩ := e'
    cases nn with
    | inl p => cases this
    | inr t => rfl
theorem in_Ts : ∀ (ts : List Tm) (j : Nat), (plTs j ts).filterMap inE = []
  | [], _ => rfl
  | t :: ts, j => by
    show (((plT t).map fun e => ((j : Int) :: e.1, e.2)) ++ plTs (j + 1) ts).filterMap inE = []
    rw [List.filterMap_append, in_map, in_T, in_Ts ts (j + 1)]
    rfl
theorem inl_same : ∀ p : Pt, (plQ p).filterMap inE = allP p
  | .give j t => by
    show ([], Pt.give j t) :: List.filterMap inE (((plT t).map fun e => (((0 : Nat) : Int) :: e.1, e.2)) ++ []) = _
    rw [List.append_nil, in_map, in_T]
    rfl
  | .ask f ts j => by
    show ([], Pt.ask f ts j) :: List.filterMap inE (plTs 0 ts) = _
    rw [in_Ts]
    rfl
  | .tell x t p => by
    show ([], Pt.tell x t p) :: List.filterMap inE (((plT t).map fun e => (((0 : Nat) : Int) :: e.1, e.2)) ++ (((plQ p).map fun e => (((1 : Nat) : Int) :: e.1, e.2)) ++ [])) = _
    rw [List.append_nil, List.filterMap_append, in_map, in_map, in_T, inl_same p]
    show _ = _ :: (_ ++ [])
    rw [List.append_nil]
    rfl
  | .lett x t p => by
    show ([], Pt.lett x t p) :: List.filterMap inE (((plT t).map fun e => (((0 : Nat) : Int) :: e.1, e.2)) ++ (((plQ p).map fun e => (((1 : Nat) : Int) :: e.1, e.2)) ++ [])) = _
    rw [List.append_nil, List.filterMap_append, in_map, in_map, in_T, inl_same p]
    show _ = _ :: (_ ++ [])
    rw [List.append_nil]
    rfl
  | .iff t p q => by
    show ([], Pt.iff t p q) :: List.filterMap inE (((plT t).map fun e => (((0 : Nat) : Int) :: e.1, e.2)) ++ (((plQ p).map fun e => (((1 : Nat) : Int) :: e.1, e.2)) ++ (((plQ q).map fun e => (((2 : Nat) : Int) :: e.1, e.2)) ++ []))) = _
    rw [List.append_nil, List.filterMap_append, List.filterMap_append, in_map, in_map, in_map, in_T, inl_same p, inl_same q]
    show _ = _ :: (_ ++ (_ ++ []))
    rw [List.append_nil]
    rfl
  | .post j x p q => by
    show ([], Pt.post j x p q) :: List.filterMap inE (((plQ p).map fun e => (((0 : Nat) : Int) :: e.1, e.2)) ++ (((plQ q).map fun e => (((1 : Nat) : Int) :: e.1, e.2)) ++ [])) = _
    rw [List.append_nil, List.filterMap_append, in_map, in_map, inl_same p, inl_same q]
    show _ = _ :: (_ ++ (_ ++ []))
    rw [List.append_nil]
    rfl
def akP (nm : Str) (e : List Int × Pt) : Option Ak := match e.2 with
  | .ask g _ j => some ((nm, e.1), g, if j = "home" then 0 else 1)
  | _ => none
theorem asksE_same (e : TEr) : asksE e = (allP e.2.2).filterMap (akP e.1) := by
  rw [← inl_same, List.filterMap_filterMap]
  unfold asksE
  congr 1
  funext x
  obtain ⟨ks, n⟩ := x
  cases n with
  | inl p => cases p <;> rfl
  | inr t => rfl
structure AskP (A : List Ak) (g : Str) (p : Pt) : Prop where
  po : postsOk p
  a : ∀ x ∈ asksOf p, ∃ a ∈ A, a.1.1 = g ∧ a.2.1 = x.1 ∧ a.2.2 = if x.2 = "home" then 0 else 1
/-! ### a run's heights stay below the levels -/
structure FrL (A : List Ak) (N : List Str) (lv : Str → Nat) (L : Nat) (tab : List HR) (n : Nat) (p : Pt) (hs : Str → Option Nat) : Prop where
  x : ∃ (g : Str) (h : Nat), g ∈ N ∧ AskP A g p ∧ (∃ i, hs "home" = some i ∧ hiAt tab i = (h : Int)) ∧ h + lv g ≤ L ∧ ∀ j i, hs j = some i → i ≤ n ∧ (j ≠ "home" → hiAt tab i = (h : Int) + 1)
theorem hiAt_app {tab : List HR} {r : HR} {i : Nat} (h : i ≤ tab.length) : hiAt (tab ++ [r]) i = hiAt tab i := by
  cases i with
  | zero => rfl
  | succ k =>
    show (((tab ++ [r])[k]?).map (·.h)).getD 0 = ((tab[k]?).map (·.h)).getD 0
    rw [List.getElem?_append_left (by omega)]
theorem FrL.app {A : List Ak} {N : List Str} {lv : Str → Nat} {L : Nat} {tab : List HR} {r : HR} {n : Nat} {p : Pt} {hs : Str → Option Nat} (f : FrL A N lv L tab n p hs) (hn : n ≤ tab.length) : FrL A N lv L (tab ++ [r]) n p hs := by
  obtain ⟨g, h, h1, h2, ⟨i, h3, h4⟩, h5, h6⟩ := f.x
  refine ⟨g, h, h1, h2, ⟨i, h3, ?_⟩, h5, fun j i hj => ⟨(h6 j i hj).1, fun hne => ?_⟩⟩
  · rw [hiAt_app (by have := (h6 _ _ h3).1; omega)]; exact h4
  · rw [hiAt_app (by have := (h6 _ _ hj).1; omega)]; exact (h6 j i hj).2 hne
theorem FrL.sub {A : List Ak} {N : List Str} {lv : Str → Nat} {L : Nat} {tab : List HR} {n : Nat} {p q : Pt} {hs : Str → Option Nat} (f : FrL A N lv L tab n p hs) (k : postsOk p → postsOk q) (s : ∀ x ∈ asksOf q, x ∈ asksOf p) : FrL A N lv L tab n q hs := by
  obtain ⟨g, h, h1, h2, h3, h5, h6⟩ := f.x
  exact ⟨g, h, h1, ⟨k h2.po, fun x hx => h2.a x (s x hx)⟩, h3, h5, h6⟩
theorem FrL.le {A : List Ak} {N : List Str} {lv : Str → Nat} {L : Nat} {tab : List HR} {n m : Nat} {p : Pt} {hs : Str → Option Nat} (f : FrL A N lv L tab n p hs) (k : n ≤ m) : FrL A N lv L tab m p hs := by
  obtain ⟨g, h, h1, h2, h3, h5, h6⟩ := f.x
  exact ⟨g, h, h1, h2, h3, h5, fun j i hj => ⟨Nat.le_trans (h6 j i hj).1 k, (h6 j i hj).2⟩⟩
end KB

set_option pp.maxSteps 400
namespace KB
open PySem L2 HT LamX NdefX

/-! ### webs -/
abbrev kwS : Key := Sum.inr "some"
abbrev kwM : Key := Sum.inr "many"
def knW (sl : Addr) (m : Int) : List (Key × V) := [(kwS, .ref sl), (kwM, .int m)]
def sg (m : Nat) : Str := ⟨#[97 + m]⟩
theorem isW_p : ∀ m < 26, isW (("p" : Str) ++ sg m) = true ∧ isW (("w" : Str) ++ sg m) = true := by decide +kernel
theorem len_p : ∀ m < 26, (sg m).length ≤ 10 := by decide +kernel
def ButK (tp kd : Addr) (H H' : Hp) : Prop := ∀ b o, b ≠ tp → b ≠ kd → H b = some o → H' b = some o
theorem ButK.refl (tp kd : Addr) (H : Hp) : ButK tp kd H H := fun _ _ _ _ h => h
theorem ButK.trans {tp kd : Addr} {H H1 H2 : Hp} (a : ButK tp kd H H1) (b : ButK tp kd H1 H2) : ButK tp kd H H2 := fun x o n m h => b x o n m (a x o n m h)
theorem But1.two {tp kd : Addr} {H H' : Hp} (a : But1 tp H H') : ButK tp kd H H' := fun x o n _ h => a x o n h
theorem butK_same {tp kd : Addr} {H H' : Hp} (e : Same H H') : ButK tp kd H H' := fun b o _ _ h => e b o h
structure GW (H : Hp) (tp kd sl : Addr) (hF : Str → Option Nat) (ss : List Str) (m : Nat) : Prop where
  t : Tp H tp
  k : H kd = some (.dK (knW sl (m : Int)))
  s : Wls H sl ss
  f : ∀ f ∈ ss, hF f = some 0
  n : ss.length ≤ 100
section
variable {H H' : Hp} {tp kd sl : Addr} {hF : Str → Option Nat} {ss : List Str} {m m' : Nat}
theorem GW.nkt (g : GW H tp kd sl hF ss m) : kd ≠ tp := by
  obtain ⟨z, hz⟩ := g.t
  exact ne_of g.k hz (fun y => nomatch y)
theorem GW.nsk (g : GW H tp kd sl hF ss m) : sl ≠ kd := fun z => by
  have h := g.s.1
  rw [z, g.k] at h
  cases h
theorem GW.one (g : GW H tp kd sl hF ss m) (b : But1 tp H H') (t : Tp H' tp) : GW H' tp kd sl hF ss m := ⟨t, b _ _ g.nkt g.k, g.s.but b g.t, g.f, g.n⟩
theorem GW.same (g : GW H tp kd sl hF ss m) (e : Same H H') : GW H' tp kd sl hF ss m := g.one (but_same e) (g.t.same e)
theorem GW.tk (g : GW H tp kd sl hF ss m) (b : ButK tp kd H H') : TK H H' := fun a xs h => by
  obtain ⟨z, hz⟩ := g.t
  exact b a _ (ne_of h hz (fun y => nomatch y)) (fun e => by rw [e, g.k] at h; cases h) h
theorem gMany {H : Hp} {kd sl : Addr} {m : Int} (h : H kd = some (.dK (knW sl m))) : DGet H kd (.str "many") (some (.int m)) := DGet.k (k := kwM) h
theorem gSome {H : Hp} {kd sl : Addr} {m : Int} (h : H kd = some (.dK (knW sl m))) : DGet H kd (.str "some") (some (.ref sl)) := DGet.k (k := kwS) h
theorem Hls.two {hl : Addr} {hs : List Str} (g : GW H tp kd sl hF ss m) (b : ButK tp kd H H') (h : Hls H hl hs) (n : hl ≠ tp) : Hls H' hl hs := b _ _ n (fun e => by
  have h' : H hl = _ := h
  rw [e, g.k] at h'
  cases h') h
end
theorem gds_num {H : Hp} {a : Addr} {z : Int} (h : H a = some (.tup [.str "number", .int z])) (o : 0 ≤ z ∧ z < 1000) (hd : Str → Option Nat) (xs : List Str) : GdS H a 3 2 hd xs (mkL (.num z) []) :=
  ⟨(gd_num ⟨rfl, h⟩ o).le (by decide) (by decide), simple_mkL rfl (fun _ z => nomatch z)⟩
section
variable {P : Program} {w : World} {K : PySem.W.Frag} {mg : Str → Option Value} {base : Heap}
/-! ### _law_web_part -/
def spWebP : Nat → Sp
  | 0 => fun _ _ _ _ => False
  | n + 1 => fun vs H Q _ => ∃ (tp kd sl hl : Addr) (hF : Str → Option Nat) (ss hs : List Str) (m room : Nat), vs = [.ref tp, .ref kd, .ref hl, .int (room : Int)] ∧ GW H tp kd sl hF ss m ∧ (∀ f ∈ ss, isW f = true) ∧ Hls H hl hs ∧ hs ≠ [] ∧ hs.length + room ≤ 100 ∧ hl ≠ tp ∧ 1 ≤ room ∧ room ≤ 2 ^ n ∧ m + room ≤ 26 ∧
    ∀ a p H' m', ButK tp kd H H' → GW H' tp kd sl hF ss m' → m ≤ m' → m' + 1 ≤ m + room → PAt H' p a → (∀ xs, okP hF p xs hs) → pcnt p + 1 ≤ 2 * room → Q (.ref a) H'
abbrev s_law_web_part : Stmt := top 47
theorem scLweb_part : FnScope ["tape", "known", "hands", "room", "way", "hand", "one", "sign"] ["tape", "known", "hands", "room"] (defScope s_law_web_part) := ⟨rfl, rfl, rfl, by decide +kernel, rfl, by decide +kernel, by decide +kernel⟩
theorem ok_webp (T : Txt K mg) (n : Nat) {f fg : Addr} {fd gd : FuncData} (F : Fun K "_law_web_part" "_law_web_part" s_law_web_part f fd) (G_law_digit : FnOk P w K mg base CX0 1 fg gd ["tape", "many"] spDig) (R_law_digit : Ref K mg "_law_digit" fg gd ["tape", "many"])
    (G_law_web_part : FnOk P w K mg base CX0 (n + 1) f fd ["tape", "known", "hands", "room"] (spWebP n)) (R_law_web_part : Ref K mg "_law_web_part" f fd ["tape", "known", "hands", "room"]) : FnOk P w K mg base CX0 (n + 2) f fd ["tape", "known", "hands", "room"] (spWebP (n + 1)) := by
  refine F.ok scLweb_part (fun vs H Q E h => ?_) (fun cdv A outer s H vs Q E hr h => ?_)
  · obtain ⟨tp, kd, sl, hl, hF, ss, hs, m, room, rfl, _⟩ := h
    rfl
  obtain ⟨tp, kd, sl, hl, hF, ss, hs, m, room, rfl, g, hsw, hh, hne, hlen, hnt, hr1, hr2, hm, q⟩ := h
  refine ⟨_, (pss_cons (ps_set (i := 4) scLweb_part.nd rfl (Or.inl rfl) (pe_call G_law_digit (hr.mono (by omega)) rfl R_law_digit.m R_law_digit.k R_law_digit.b .nil pass0 (pa_cons (pv 0) (pa_cons pe_int pa_nil))))
    (pss_cons (ps_if (PW.pt (pw_or (pt_cmpR op_lt (pv 3) pe_int (nomark _)) (pw_or1 (pt_cmpR op_eq (pv 4) pe_int (nomark _))))) (pss_cons (ps_set (i := 5) scLweb_part.nd rfl (Or.inl rfl) (pe_ix ix_list (pv 2) (pe_call G_law_digit (hr.mono (by omega)) rfl R_law_digit.m R_law_digit.k R_law_digit.b .nil pass0 (pa_cons (pv 0) (pa_cons (pe_callB call_len_seq (by rfl) T.m_len PySem.boot_len (pa_cons (pv 2) pa_nil)) pa_nil))) (fun _ _ => rfl)))
    (pss_cons (ps_if (PW.pt (pw_or (pt_cmpR (op_eqD hr.units) (pe_dget (hu_of hr) (pv 1) pe_str (fun _ _ => rfl)) (pe_lst pa_nil) (nomark _)) (pw_or1 (pt_cmpR op_eq (pe_call G_law_digit (hr.mono (by omega)) rfl R_law_digit.m R_law_digit.k R_law_digit.b .nil pass0 (pa_cons (pv 0) (pa_cons pe_int pa_nil))) pe_int (nomark _))))) (pss_one (ps_ret (pe_tup (pa_cons pe_str (pa_cons (pv 5) (pa_cons (pe_tup (pa_cons pe_str (pa_cons pe_int pa_nil))) pa_nil)))))) pss_nil)
    (pss_one (ps_ret (pe_tup (pa_cons pe_str (pa_cons (pe_ix ix_list (pe_dget (hu_of hr) (pv 1) pe_str (fun _ _ => rfl)) (pe_call G_law_digit (hr.mono (by omega)) rfl R_law_digit.m R_law_digit.k R_law_digit.b .nil pass0 (pa_cons (pv 0) (pa_cons (pe_callB call_len_seq (by rfl) T.m_len PySem.boot_len (pa_cons (pe_dget (hu_of hr) (pv 1) pe_str (fun _ _ => rfl)) pa_nil)) pa_nil))) (fun _ _ => rfl)) (pa_cons (pe_tup pa_nil) (pa_cons (pv 5) pa_nil))))))))) pss_nil)
    (pss_cons (ps_if (pt_cmpR op_lt (pv 4) pe_int (nomark _)) (pss_cons (ps_set (i := 6) scLweb_part.nd rfl (Or.inl rfl) (pe_call G_law_web_part (hr.mono (by omega)) rfl R_law_web_part.m R_law_web_part.k R_law_web_part.b .nil pass0 (pa_cons (pv 0) (pa_cons (pv 1) (pa_cons (pv 2) (pa_cons (pe_op op_fdivN (pv 3) pe_int) pa_nil))))))
    (pss_one (ps_ret (pe_tup (pa_cons pe_str (pa_cons (pe_tup (pa_cons pe_str (pa_cons (pe_op op_sub (pv 4) pe_int) pa_nil))) (pa_cons (pv 6) (pa_cons (pe_call G_law_web_part (hr.mono (by omega)) rfl R_law_web_part.m R_law_web_part.k R_law_web_part.b .nil pass0 (pa_cons (pv 0) (pa_cons (pv 1) (pa_cons (pv 2) (pa_cons (pe_op op_fdivN (pv 3) pe_int) pa_nil))))) pa_nil)))))))) pss_nil)
    (pss_cons (ps_set (i := 7) scLweb_part.nd rfl (Or.inl rfl) (pe_ix ix_str pe_str (pe_dget (hu_of hr) (pv 1) pe_str (fun _ _ => rfl)) (fun _ _ => rfl)))
    (pss_cons (ps_dput (hu_of hr) (pv 1) pe_str (pe_op op_add (pe_dget (hu_of hr) (pv 1) pe_str (fun _ _ => rfl)) pe_int) rfl)
    (pss_cons (ps_set (i := 6) scLweb_part.nd rfl (Or.inl rfl) (pe_call G_law_web_part (hr.mono (by omega)) rfl R_law_web_part.m R_law_web_part.k R_law_web_part.b .nil pass0 (pa_cons (pv 0) (pa_cons (pv 1) (pa_cons (pv 2) (pa_cons (pe_op op_fdivN (pv 3) pe_int) pa_nil))))))
    (pss_one (ps_ret (pe_tup (pa_cons pe_str (pa_cons (pe_op op_add_str pe_str (pv 7)) (pa_cons (pe_op op_add_str pe_str (pv 7)) (pa_cons (pv 6) (pa_cons (pe_call G_law_web_part (hr.mono (by omega)) rfl R_law_web_part.m R_law_web_part.k R_law_web_part.b .nil pass0 (pa_cons (pv 0) (pa_cons (pv 1) (pa_cons (pe_op op_cat (pv 2) (pe_lst (pa_cons (pe_op op_add_str pe_str (pv 7)) pa_nil))) (pa_cons (pe_op op_fdivN (pv 3) pe_int) pa_nil))))) pa_nil)))))))))))))), ?_⟩
  have nkt := g.nkt
  have hsl : (hs.map V.str).length = hs.length := List.length_map ..
  have hspos : 0 < hs.length := List.length_pos_iff.mpr hne
  refine ⟨_, rfl, tp, 6, rfl, g.t, by decide, by decide, fun r H1 r0 r1 b1 t1 => ?_⟩
  have g1 := g.one b1 t1
  have hh1 : Hls H1 hl hs := b1 _ _ hnt hh
  refine ⟨_, rfl, _, _, rfl, rfl, _, rfl, ?_⟩
  refine ite2 (fun c => iteT ?_) (fun c => ?_)
  · refine ⟨_, rfl, _, rfl, _, rfl, hl, _, rfl, .inl (SqL.of hh1), tp, _, rfl, t1, by rw [hsl]; omega, by rw [hsl]; omega, fun r2 H2 r20 r21 b2 t2 => ?_⟩
    obtain ⟨v, hv, hvm⟩ := at_some (xs := hs.map V.str) r20 r21
    obtain ⟨j, hj, rfl⟩ := List.mem_map.mp hvm
    have g2 := g1.one b2 t2
    refine ⟨hl, _, _, _, rfl, rfl, SqL.of (b2 _ _ hnt hh1), hv, ?_⟩
    refine ⟨_, rfl, kd, _, rfl, gSome g2.k, sz (by show 0 ≤ 100000; decide), fun p0 hp0 => ?_⟩
    have s3 := same_new hp0 (.lst [])
    have g3 := g2.same s3
    refine ⟨.list (ss.map PyData.str), .list [], .lst (SqL.of g3.s.1) (dp_strs ss), .lst (SqL.of upd_same) .nil, shaped_strs hsw, rfl, _, rfl, ?_⟩
    rw [eqv_nil]
    have b03 : ButK tp kd H (upd H2 p0 (.lst [])) := (b1.two.trans b2.two).trans (butK_same s3)
    generalize upd H2 p0 (.lst []) = H3 at g3 b03 ⊢
    have giveW : ∀ H4, But1 tp H3 H4 → GW H4 tp kd sl hF ss m → ∀ t5, H4 t5 = none → ∀ p6, (upd H4 t5 (.tup [V.str "number", .int 1])) p6 = none → Q (.ref p6) (upd (upd H4 t5 (.tup [V.str "number", .int 1])) p6 (.tup [V.str "give", .str j, .ref t5])) := fun H4 b4 g4 t5 ht5 p6 hp6 => by
      have s5 := same_new ht5 (.tup [V.str "number", .int 1])
      have s6 := same_new hp6 (.tup [V.str "give", .str j, .ref t5])
      have h5 : (upd H4 t5 (.tup [V.str "number", .int 1])) t5 = some (.tup [V.str "number", .int 1]) := upd_same
      exact q p6 (.give j (mkL (.num 1) [])) _ m ((b03.trans b4.two).trans (butK_same (s5.trans s6))) (g4.same (s5.trans s6)) (Nat.le_refl _) (by omega) ⟨t5, upd_same, (gds_num h5 (by decide) hF []).g.at_.tk (tk_same s6)⟩ (fun xs => ⟨hj, (gds_num h5 (by decide) hF xs).sm⟩) (by show 1 + 1 ≤ 2 * room; omega)
    by_cases hss : ss = []
    · refine itT (by rw [hss]; rfl) (iteT ⟨_, rfl, sz (by show 2 ≤ 100000; decide), fun t5 ht5 => ⟨sz (by show 3 ≤ 100000; decide), fun p6 hp6 => giveW H3 (But1.refl _ _) g3 t5 ht5 p6 hp6⟩⟩)
    · have hssp : 0 < ss.length := List.length_pos_iff.mpr hss
      have hssl : (ss.map V.str).length = ss.length := List.length_map ..
      have hssn := g3.n
      refine itF (by cases ss with | nil => exact absurd rfl hss | cons _ _ => rfl) ⟨_, rfl, tp, 5, rfl, g3.t, by decide, by decide, fun r4 H4 r40 r41 b4 t4 => ⟨rfl, _, rfl, ?_⟩⟩
      have g4 := g3.one b4 t4
      refine ite2 (fun c4 => ⟨_, rfl, sz (by show 2 ≤ 100000; decide), fun t5 ht5 => ⟨sz (by show 3 ≤ 100000; decide), fun p6 hp6 => giveW H4 b4 g4 t5 ht5 p6 hp6⟩⟩) (fun c4 => ?_)
      refine ⟨_, rfl, kd, _, rfl, gSome g4.k, _, rfl, _, rfl, kd, _, rfl, gSome g4.k, sl, _, rfl, .inl (SqL.of g4.s.1), tp, _, rfl, t4, by rw [hssl]; omega, by rw [hssl]; omega, fun r5 H5 r50 r51 b5 t5 => ?_⟩
      obtain ⟨v5, hv5, hvm5⟩ := at_some (xs := ss.map V.str) r50 r51
      obtain ⟨fn, hfn, rfl⟩ := List.mem_map.mp hvm5
      have g5 := g4.one b5 t5
      refine ⟨sl, _, _, _, rfl, rfl, SqL.of g5.s.1, hv5, sz (by show 0 ≤ 100000; decide), fun t6 ht6 => ⟨_, rfl, sz (by show 4 ≤ 100000; decide), fun p7 hp7 => ?_⟩⟩
      have s6 := same_new ht6 (.tup [])
      have s7 := same_new hp7 (.tup [V.str "ask", .str fn, .ref t6, .str j])
      exact q p7 (.ask fn [] j) _ m ((b03.trans (b4.two.trans b5.two)).trans (butK_same (s6.trans s7))) (g5.same (s6.trans s7)) (Nat.le_refl _) (by omega) ⟨t6, [], upd_same, s7 _ _ upd_same, trivial⟩ (fun xs => ⟨hj, hsw fn hfn, g.f fn hfn, Nat.zero_le _, fun _ z => nomatch z⟩) (by show 1 + 1 ≤ 2 * room; omega)
  have hroom : 2 ≤ room := by
    have : ¬ (room : Int) < 2 := fun z => c (decide_eq_true z)
    omega
  refine ⟨_, rfl, rfl, _, rfl, ?_⟩
  refine ite2 (fun c2 => ?_) (fun c2 => ?_)
  · refine ⟨_, rfl, _, rfl, _, rfl, hl, _, rfl, .inl (SqL.of hh1), tp, _, rfl, t1, by rw [hsl]; omega, by rw [hsl]; omega, fun r2 H2 r20 r21 b2 t2 => ?_⟩
    obtain ⟨v, hv, hvm⟩ := at_some (xs := hs.map V.str) r20 r21
    obtain ⟨j, hj, rfl⟩ := List.mem_map.mp hvm
    have g2 := g1.one b2 t2
    refine ⟨hl, _, _, _, rfl, rfl, SqL.of (b2 _ _ hnt hh1), hv, ?_⟩
    refine ⟨_, rfl, kd, _, rfl, gSome g2.k, sz (by show 0 ≤ 100000; decide), fun p0 hp0 => ?_⟩
    have s3 := same_new hp0 (.lst [])
    have g3 := g2.same s3
    refine ⟨.list (ss.map PyData.str), .list [], .lst (SqL.of g3.s.1) (dp_strs ss), .lst (SqL.of upd_same) .nil, shaped_strs hsw, rfl, _, rfl, ?_⟩
    rw [eqv_nil]
    have b03 : ButK tp kd H (upd H2 p0 (.lst [])) := (b1.two.trans b2.two).trans (butK_same s3)
    generalize upd H2 p0 (.lst []) = H3 at g3 b03 ⊢
    have giveW : ∀ H4, But1 tp H3 H4 → GW H4 tp kd sl hF ss m → ∀ t5, H4 t5 = none → ∀ p6, (upd H4 t5 (.tup [V.str "number", .int 1])) p6 = none → Q (.ref p6) (upd (upd H4 t5 (.tup [V.str "number", .int 1])) p6 (.tup [V.str "give", .str j, .ref t5])) := fun H4 b4 g4 t5 ht5 p6 hp6 => by
      have s5 := same_new ht5 (.tup [V.str "number", .int 1])
      have s6 := same_new hp6 (.tup [V.str "give", .str j, .ref t5])
      have h5 : (upd H4 t5 (.tup [V.str "number", .int 1])) t5 = some (.tup [V.str "number", .int 1]) := upd_same
      exact q p6 (.give j (mkL (.num 1) [])) _ m ((b03.trans b4.two).trans (butK_same (s5.trans s6))) (g4.same (s5.trans s6)) (Nat.le_refl _) (by omega) ⟨t5, upd_same, (gds_num h5 (by decide) hF []).g.at_.tk (tk_same s6)⟩ (fun xs => ⟨hj, (gds_num h5 (by decide) hF xs).sm⟩) (by show 1 + 1 ≤ 2 * room; omega)
    by_cases hss : ss = []
    · refine itT (by rw [hss]; rfl) (iteT ⟨_, rfl, sz (by show 2 ≤ 100000; decide), fun t5 ht5 => ⟨sz (by show 3 ≤ 100000; decide), fun p6 hp6 => giveW H3 (But1.refl _ _) g3 t5 ht5 p6 hp6⟩⟩)
    · have hssp : 0 < ss.length := List.length_pos_iff.mpr hss
      have hssl : (ss.map V.str).length = ss.length := List.length_map ..
      have hssn := g3.n
      refine itF (by cases ss with | nil => exact absurd rfl hss | cons _ _ => rfl) ⟨_, rfl, tp, 5, rfl, g3.t, by decide, by decide, fun r4 H4 r40 r41 b4 t4 => ⟨rfl, _, rfl, ?_⟩⟩
      have g4 := g3.one b4 t4
      refine ite2 (fun c4 => ⟨_, rfl, sz (by show 2 ≤ 100000; decide), fun t5 ht5 => ⟨sz (by show 3 ≤ 100000; decide), fun p6 hp6 => giveW H4 b4 g4 t5 ht5 p6 hp6⟩⟩) (fun c4 => ?_)
      refine ⟨_, rfl, kd, _, rfl, gSome g4.k, _, rfl, _, rfl, kd, _, rfl, gSome g4.k, sl, _, rfl, .inl (SqL.of g4.s.1), tp, _, rfl, t4, by rw [hssl]; omega, by rw [hssl]; omega, fun r5 H5 r50 r51 b5 t5 => ?_⟩
      obtain ⟨v5, hv5, hvm5⟩ := at_some (xs := ss.map V.str) r50 r51
      obtain ⟨fn, hfn, rfl⟩ := List.mem_map.mp hvm5
      have g5 := g4.one b5 t5
      refine ⟨sl, _, _, _, rfl, rfl, SqL.of g5.s.1, hv5, sz (by show 0 ≤ 100000; decide), fun t6 ht6 => ⟨_, rfl, sz (by show 4 ≤ 100000; decide), fun p7 hp7 => ?_⟩⟩
      have s6 := same_new ht6 (.tup [])
      have s7 := same_new hp7 (.tup [V.str "ask", .str fn, .ref t6, .str j])
      exact q p7 (.ask fn [] j) _ m ((b03.trans (b4.two.trans b5.two)).trans (butK_same (s6.trans s7))) (g5.same (s6.trans s7)) (Nat.le_refl _) (by omega) ⟨t6, [], upd_same, s7 _ _ upd_same, trivial⟩ (fun xs => ⟨hj, hsw fn hfn, g.f fn hfn, Nat.zero_le _, fun _ z => nomatch z⟩) (by show 1 + 1 ≤ 2 * room; omega)
  cases n with
  | zero => exact absurd hr2 (by show ¬ room ≤ 1; omega)
  | succ n =>
  have hhalf : room / 2 ≤ 2 ^ n := by
    have : room ≤ 2 ^ n * 2 := by rw [← Nat.pow_succ]; exact hr2
    omega
  have hfd : Int.fdiv (room : Int) 2 = ((room / 2 : Nat) : Int) := by
    rw [Int.fdiv_eq_ediv_of_nonneg _ (by decide)]
    omega
  have h0 : H1 kd = _ := g1.k
  have way : r ≠ 0 := fun z => c2 (decide_eq_true (by rw [z]))
  refine ⟨_, rfl, _, _, rfl, rfl, _, rfl, ?_⟩
  refine ite2 (fun c3 => ?_) (fun c3 => ?_)
  · -- if
    have hr3 : r < 3 := of_decide_eq_true c3
    refine ⟨_, rfl, _, rfl, _, rfl, _, rfl, _, _, rfl, rfl, ⟨by decide, by decide⟩, tp, kd, sl, hl, hF, ss, hs, m, room / 2, by show [_, _, _, V.int (Int.fdiv (room : Int) 2)] = _; rw [hfd], g1, hsw, hh1, hne, by omega, hnt, by omega, hhalf, by omega, fun a3 p3 H3 m3 b3 g3 l3 u3 at3 ok3 cn3 => ?_⟩
    have hh3 := Hls.two g1 b3 hh1 hnt
    refine ⟨_, rfl, _, _, rfl, rfl, sz (by show 2 ≤ 100000; decide), fun t4 ht4 => ?_⟩
    have s4 := same_new ht4 (.tup [V.str "number", .int (r - 1)])
    have h4 : (upd H3 t4 (.tup [V.str "number", .int (r - 1)])) t4 = some (.tup [V.str "number", .int (r - 1)]) := upd_same
    have g4 := g3.same s4
    have hh4 : Hls _ hl hs := s4 _ _ hh3
    refine ⟨_, rfl, _, rfl, _, rfl, _, rfl, _, rfl, _, _, rfl, rfl, ⟨by decide, by decide⟩, tp, kd, sl, hl, hF, ss, hs, m3, room / 2, by show [_, _, _, V.int (Int.fdiv (room : Int) 2)] = _; rw [hfd], g4, hsw, hh4, hne, by omega, hnt, by omega, hhalf, by omega, fun a5 p5 H5 m5 b5 g5 l5 u5 at5 ok5 cn5 => ?_⟩
    have tk45 := g4.tk b5
    refine ⟨sz (by show 4 ≤ 100000; decide), fun p6 hp6 => ?_⟩
    have s6 := same_new hp6 (.tup [V.str "if", .ref t4, .ref a3, .ref a5])
    have tk6 := tk_same s6
    refine q p6 (.iff (mkL (.num (r - 1)) []) p3 p5) _ m5 (((b1.two.trans b3).trans (butK_same s4)).trans (b5.trans (butK_same s6))) (g5.same s6) (by omega) (by omega) ⟨t4, a3, a5, upd_same, (gds_num h4 (by omega) hF []).g.at_.tk (tk45.trans tk6), ((at3.tk (tk_same s4)).tk tk45).tk tk6, at5.tk tk6⟩ (fun xs => ⟨(gds_num h4 (by omega) hF xs).sm, ok3 xs, ok5 xs⟩) ?_
    show 1 + pcnt p3 + pcnt p5 + 1 ≤ 2 * room
    omega
  · -- post
    refine ⟨_, rfl, kd, _, rfl, gMany h0, lettersS, _, _, rfl, rfl, (by decide +kernel), letters_at (by omega) (by omega), ?_⟩
    refine ⟨_, rfl, kd, _, rfl, gMany h0, _, _, rfl, rfl, _, rfl, kd, _, rfl, DPut.k (k := kwM) h0 (Nat.lt_of_lt_of_le (by show 2 < 1000; decide : _ < 1000) (by decide)), ?_⟩
    have esg : (⟨#[97 + (m : Int).toNat]⟩ : Str) = sg m := by rw [Int.toNat_natCast]; rfl
    rw [esg]
    have b4 : ButK tp kd H1 (upd H1 kd (.dK (putK (knW sl (m : Int)) kwM (.int ((m : Int) + 1))))) := fun b o _ n h => by rw [upd_ne n]; exact h
    have g4 : GW (upd H1 kd (.dK (putK (knW sl (m : Int)) kwM (.int ((m : Int) + 1))))) tp kd sl hF ss (m + 1) := by
      obtain ⟨z, hz⟩ := g1.t
      exact ⟨⟨z, by rw [upd_ne nkt.symm]; exact hz⟩, by rw [upd_same]; rfl, ⟨by rw [upd_ne g1.nsk]; exact g1.s.1, g1.s.2⟩, g1.f, g1.n⟩
    have hh4 := Hls.two g1 b4 hh1 hnt
    have tkA := g1.tk b4
    generalize upd H1 kd (.dK (putK (knW sl (m : Int)) kwM (.int ((m : Int) + 1)))) = H4 at b4 g4 hh4 tkA ⊢
    obtain ⟨iwp, iww⟩ := isW_p m (by omega)
    have hlp := len_p m (by omega)
    refine ⟨_, rfl, _, rfl, _, rfl, _, rfl, _, _, rfl, rfl, ⟨by decide, by decide⟩, tp, kd, sl, hl, hF, ss, hs, m + 1, room / 2, by show [_, _, _, V.int (Int.fdiv (room : Int) 2)] = _; rw [hfd], g4, hsw, hh4, hne, by omega, hnt, by omega, hhalf, by omega, fun a5 p5 H5 m5 b5 g5 l5 u5 at5 ok5 cn5 => ?_⟩
    have hh5 := Hls.two g4 b5 hh4 hnt
    refine ⟨_, rfl, _, _, rfl, rfl, sz (by show 1 + (sg m).length ≤ 100000; omega), _, rfl, _, _, rfl, rfl, sz (by show 1 + (sg m).length ≤ 100000; omega), _, rfl, _, rfl, _, rfl, _, rfl, _, rfl, _, _, rfl, rfl, sz (by show 1 + (sg m).length ≤ 100000; omega), sz (by show 1 ≤ 100000; decide), fun l6 hl6 => ?_⟩
    have s6 := same_new hl6 (.lst [V.str ("p" ++ sg m)])
    have h6 : (upd H5 l6 (.lst [V.str ("p" ++ sg m)])) l6 = some (.lst [V.str ("p" ++ sg m)]) := upd_same
    refine ⟨hl, l6, _, _, rfl, rfl, s6 _ _ hh5, h6, sz (by rw [List.length_map, List.length_singleton]; omega), fun l7 hl7 => ?_⟩
    have s7 := same_new hl7 (.lst (hs.map V.str ++ [V.str ("p" ++ sg m)]))
    have s67 := s6.trans s7
    have g7 := g5.same s67
    have hh7 : Hls (upd (upd H5 l6 (.lst [V.str ("p" ++ sg m)])) l7 (.lst (hs.map V.str ++ [V.str ("p" ++ sg m)]))) l7 (hs ++ ["p" ++ sg m]) := by
      show _ = _
      rw [upd_same, List.map_append]
      rfl
    have n7 : l7 ≠ tp := by
      obtain ⟨z, hz⟩ := (g5.same s6).t
      exact (ne_of_none hz hl7).symm
    generalize upd (upd H5 l6 (.lst [V.str ("p" ++ sg m)])) l7 (.lst (hs.map V.str ++ [V.str ("p" ++ sg m)])) = H7 at s67 g7 hh7
    refine ⟨_, rfl, _, _, rfl, rfl, ⟨by decide, by decide⟩, tp, kd, sl, l7, hF, ss, hs ++ ["p" ++ sg m], m5, room / 2, by show [_, _, _, V.int (Int.fdiv (room : Int) 2)] = _; rw [hfd], g7, hsw, hh7, by simp, by rw [List.length_append, List.length_singleton]; omega, n7, by omega, hhalf, by omega, fun a8 p8 H8 m8 b8 g8 l8 u8 at8 ok8 cn8 => ?_⟩
    have tk8 := g7.tk b8
    refine ⟨sz (by show 5 ≤ 100000; decide), fun p9 hp9 => ?_⟩
    have s9 := same_new hp9 (.tup [V.str "post", .str ("p" ++ sg m), .str ("w" ++ sg m), .ref a5, .ref a8])
    have tk9 := tk_same s9
    refine q p9 (.post ("p" ++ sg m) ("w" ++ sg m) p5 p8) _ m8 (((b1.two.trans b4).trans (b5.trans (butK_same s67))).trans (b8.trans (butK_same s9))) (g8.same s9) (by omega) (by omega) ⟨a5, a8, upd_same, ((at5.tk (tk_same s67)).tk tk8).tk tk9, at8.tk tk9⟩ (fun xs => ⟨iwp, iww, ok5 _, ok8 _⟩) ?_
    show 1 + pcnt p5 + pcnt p8 + 1 ≤ 2 * room
    omega
end
end KB

set_option pp.maxSteps 400
namespace KB
open PySem L2 HT LamX NdefX

/-! ### books of waits -/
structure WB (hd : Str → Option Nat) (es : List TEr) : Prop where
  rt : ∀ e ∈ es, RTE hd e
  dom : ∀ f n, hd f = some n → f ∈ es.map (·.1)
  nd : (es.map (·.1)).Nodup
  l1 : 1 ≤ es.length
  l6 : es.length ≤ 6
  kp : ∀ e ∈ es, kP e.2.2
  cn : ∀ e ∈ es, pcnt e.2.2 ≤ 31
  n4 : ∀ e ∈ es, e.2.1.length ≤ 4
theorem home_ok : ∀ j ∈ (["home"] : List Str), PySem.PyData.strOk j = true := fun j hj => by
  rw [List.mem_singleton.mp hj]
  decide +kernel
theorem GdTB.wb {es : List TEr} (g : GdTB es) : ∃ hd, WB hd es := by
  obtain ⟨hd, h1, h2⟩ := g.er
  exact ⟨hd, fun e he => (h1 e he).rt, h2, g.nd, g.len.1, g.len.2, fun e he => okP_kP home_ok (h1 e he).ok, fun e he => Nat.le_trans (h1 e he).cn (by decide), fun e he => (h1 e he).n4⟩
theorem WB.tes {hd : Str → Option Nat} {es : List TEr} (w : WB hd es) : TEsOk es hd := ⟨w.rt, w.dom⟩
theorem WB.nc {hd : Str → Option Nat} {es : List TEr} (w : WB hd es) : ∀ e ∈ es, kP e.2.2 ∧ ncnt e.2.2 ≤ 1000 := fun e he => ⟨w.kp e he, by
  have := ncnt_le (w.kp e he)
  have := w.cn e he
  omega⟩
theorem WB.al {hd : Str → Option Nat} {es : List TEr} (w : WB hd es) : (asksB es).length ≤ 300 := by
  have : ∀ l : List TEr, (∀ e ∈ l, pcnt e.2.2 ≤ 31) → (asksB l).length ≤ 31 * l.length := by
    intro l
    induction l with
    | nil => exact fun _ => Nat.zero_le _
    | cons e r ih =>
      intro h
      have h1 := ih fun x hx => h x (List.mem_cons_of_mem _ hx)
      have h2 := h e List.mem_cons_self
      have h3 : (asksE e).length ≤ pcnt e.2.2 := by
        rw [asksE_same, ← allP_len]
        exact List.length_filterMap_le _ _
      have e1 : asksB (e :: r) = asksE e ++ asksB r := rfl
      rw [e1, List.length_append, List.length_cons]
      omega
  have h1 := this es w.cn
  have := w.l6
  omega
section
variable {P : Program} {w : World} {K : PySem.W.Frag} {mg : Str → Option Value} {base : Heap}
theorem all_webp (T : Txt K mg) {f fg : Addr} {fd gd : FuncData} (F : Fun K "_law_web_part" "_law_web_part" s_law_web_part f fd) (G_law_digit : FnOk P w K mg base CX0 1 fg gd ["tape", "many"] spDig) (R_law_digit : Ref K mg "_law_digit" fg gd ["tape", "many"])
    (R_law_web_part : Ref K mg "_law_web_part" f fd ["tape", "known", "hands", "room"]) : ∀ n : Nat, FnOk P w K mg base CX0 (n + 1) f fd ["tape", "known", "hands", "room"] (spWebP n)
  | 0 => no_sp
  | n + 1 => ok_webp T n F G_law_digit R_law_digit (all_webp T F G_law_digit R_law_digit R_law_web_part n) R_law_web_part
/-! ### _law_web -/
def spWeb (K : PySem.W.Frag) : Sp := fun vs H Q _ => ∃ (sc : Addr) (ns : List Int) (start : Int), vs = [.ref sc, .int start] ∧ SqL K H sc (ns.map V.int) ∧ 0 ≤ start ∧ start ≤ 100 ∧
  ∀ (p : Addr) (es : List TEr) (us : List V) (H' : Hp) (hd : Str → Option Nat), Same H H' → TBkAt H' es us p → WB hd es → Q (.ref p) H'
abbrev s_law_web : Stmt := top 48
theorem scLweb : FnScope ["script", "start", "head", "errands", "found", "k", "tape", "some", "known"] ["script", "start"] (defScope s_law_web) := ⟨rfl, rfl, rfl, by decide +kernel, rfl, by decide +kernel, by decide +kernel⟩
theorem ok_web (T : Txt K mg) {f fg ft fw fb : Addr} {fd gd td wd bd : FuncData} (F : Fun K "_law_web" "_law_web" s_law_web f fd) (G_law_digit : FnOk P w K mg base CX0 1 fg gd ["tape", "many"] spDig) (R_law_digit : Ref K mg "_law_digit" fg gd ["tape", "many"])
    (G_law_tape : FnOk P w K mg base CX0 2 ft td ["script", "k"] (spTape K)) (R_law_tape : Ref K mg "_law_tape" ft td ["script", "k"]) (G_law_words : FnOk P w K mg base CX0 2 fw wd ["tape", "many"] spWords) (R_law_words : Ref K mg "_law_words" fw wd ["tape", "many"])
    (G_law_web_part : FnOk P w K mg base CX0 6 fb bd ["tape", "known", "hands", "room"] (spWebP 5)) (R_law_web_part : Ref K mg "_law_web_part" fb bd ["tape", "known", "hands", "room"]) : FnOk P w K mg base CX0 7 f fd ["script", "start"] (spWeb K) := by
  refine F.ok scLweb (fun vs H Q E h => ?_) (fun cdv A outer s H vs Q E hr h => ?_)
  · obtain ⟨sc, ns, start, rfl, _⟩ := h
    rfl
  obtain ⟨sc, ns, start, rfl, hS, hs0, hs1, q⟩ := h
  refine ⟨_, (pss_cons (ps_set (i := 2) scLweb.nd rfl (Or.inl rfl) (pe_call G_law_tape (hr.mono (by omega)) rfl R_law_tape.m R_law_tape.k R_law_tape.b .nil pass0 (pa_cons (pv 0) (pa_cons (pv 1) pa_nil))))
    (pss_cons (ps_set (i := 3) scLweb.nd rfl (Or.inl rfl) (pe_call G_law_words (hr.mono (by omega)) rfl R_law_words.m R_law_words.k R_law_words.b .nil pass0 (pa_cons (pv 2) (pa_cons (pe_op op_add pe_int (pe_call G_law_digit (hr.mono (by omega)) rfl R_law_digit.m R_law_digit.k R_law_digit.b .nil pass0 (pa_cons (pv 2) (pa_cons pe_int pa_nil)))) pa_nil))))
    (pss_cons (ps_set (i := 4) scLweb.nd rfl (Or.inl rfl) (pe_lst pa_nil))
    (pss_cons (ps_for PassesOwn.never rfl (pi_range1 rfl T.m_range (pa_cons (pe_callB call_len_seq (by rfl) T.m_len PySem.boot_len (pa_cons (pv 3) pa_nil)) pa_nil)) (pg_name (i := 5) scLweb.nd rfl (Or.inl rfl)) (pss_cons (ps_set (i := 6) scLweb.nd rfl (Or.inl rfl) (pe_call G_law_tape (hr.mono (by omega)) rfl R_law_tape.m R_law_tape.k R_law_tape.b .nil pass0 (pa_cons (pv 0) (pa_cons (pe_op op_add (pe_op op_add (pv 1) pe_int) (pv 5)) pa_nil))))
    (pss_cons (ps_set (i := 7) scLweb.nd rfl (Or.inl rfl) (pe_op op_cat (pe_slice sl_list (pv 3) (po_some (pe_op op_add (pv 5) pe_int)) po_none) (pe_ix ix_list (pe_lst (pa_cons (pe_lst pa_nil) (pa_cons (pe_lst pa_nil) (pa_cons (pe_lst pa_nil) (pa_cons (pe_slice sl_list (pv 3) (po_some (pv 5)) (po_some (pe_op op_add (pv 5) pe_int))) (pa_cons (pv 3) pa_nil)))))) (pe_call G_law_digit (hr.mono (by omega)) rfl R_law_digit.m R_law_digit.k R_law_digit.b .nil pass0 (pa_cons (pv 2) (pa_cons pe_int pa_nil))) (fun _ _ => rfl))))
    (pss_cons (ps_set (i := 8) scLweb.nd rfl (Or.inl rfl) (pe_disp (pps_cons pe_str (pv 7) (pps_cons pe_str pe_int pps_nil)) (by rfl) (by rfl) (fun z => by cases z) (by decide)))
    (pss_one (ps_expr (pe_bm PySem.F.plainAttrs_list PySem.F.slot_list_append PySem.F.type_list_append mt_append (pv 4) (pa_cons (pe_tup (pa_cons (pe_ix ix_list (pv 3) (pv 5) (fun _ _ => rfl)) (pa_cons (pe_tup pa_nil) (pa_cons (pe_call G_law_web_part (hr.mono (by omega)) rfl R_law_web_part.m R_law_web_part.k R_law_web_part.b .nil pass0 (pa_cons (pv 6) (pa_cons (pv 8) (pa_cons (pe_lst (pa_cons pe_str pa_nil)) (pa_cons (pe_ix ix_list (pe_lst (pa_cons pe_int (pa_cons pe_int (pa_cons pe_int (pa_cons pe_int pa_nil))))) (pe_call G_law_digit (hr.mono (by omega)) rfl R_law_digit.m R_law_digit.k R_law_digit.b .nil pass0 (pa_cons (pv 2) (pa_cons pe_int pa_nil))) (fun _ _ => rfl)) pa_nil))))) pa_nil)))) pa_nil))))))))
    (pss_one (ps_ret (pe_callTy call_tuple_of (by rfl) T.m_tuple (by decide +kernel) (pa_cons (pv 4) pa_nil)))))))), ?_⟩
  refine ⟨_, rfl, _, rfl, sc, ns, start, rfl, hS, hs0, by omega, fun hp z0 hhp => ?_⟩
  have s1 := same_new hhp (.lst [.int z0])
  have t1 : Tp (upd H hp (.lst [.int z0])) hp := ⟨z0, upd_same⟩
  generalize upd H hp (.lst [.int z0]) = H1 at s1 t1
  refine ⟨_, rfl, _, rfl, hp, 6, rfl, t1, by decide, by decide, fun r0 H2 r00 r01 b2 t2 => ⟨_, _, rfl, rfl, hp, _, rfl, t2, by omega, by omega, fun el fs H3 b3 t3 hel w3 hl3 hnd3 => ?_⟩⟩
  have hfl6 : fs.length ≤ 6 := by omega
  have hfl1 : 1 ≤ fs.length := by omega
  have s3 : Same H H3 := fun b o hb => b3 _ _ (ne_of_none hb hhp) (b2 _ _ (ne_of_none hb hhp) (s1 _ _ hb))
  have net : el ≠ hp := wls_tp w3.1 t3
  -- found
  refine ⟨sz (by show 0 ≤ 100000; decide), fun fl hflN => ?_⟩
  have s4 := same_new hflN (.lst [])
  have hflH : H fl = none := by
    cases e : H fl with
    | none => rfl
    | some o => rw [s3 _ _ e] at hflN; cases hflN
  have nlp : fl ≠ hp := by
    obtain ⟨z, hz⟩ := t3
    exact (ne_of_none hz hflN).symm
  have nle : fl ≠ el := fun z => by rw [z, w3.1] at hflN; cases hflN
  refine ⟨_, rfl, el, _, rfl, .inl (SqL.of (s4 _ _ w3.1)), _, rfl, by omega, by rw [List.length_map]; omega, ?_⟩
  have hnl : (((fs.map V.str).length : Nat) : Int).toNat = fs.length := by
    rw [Int.toNat_natCast, List.length_map]
  refine for_range (lo := 0) (n := (((fs.map V.str).length : Nat) : Int).toNat) (fun i σ H' => ∃ (o5 o6 o7 o8 : Option V) (vs : List V) (es : List TEr), σ = [some (.ref sc), some (.int start), some (.ref hp), some (.ref el), some (.ref fl), o5, o6, o7, o8] ∧
    Same H H' ∧ Tp H' hp ∧ H' el = some (.lst (fs.map V.str)) ∧ H' fl = some (.lst vs) ∧ All2 (TErV H') es vs ∧ es.length = i ∧ es.map (·.1) = fs.take i ∧ ∀ e ∈ es, e.2.1 = [] ∧ okP (fun f => if f ∈ fs then some 0 else none) e.2.2 [] ["home"] ∧ pcnt e.2.2 ≤ 31) ?_ ?_ ?_
  · exact ⟨_, _, _, _, [], [], rfl, s3.trans s4, t3.same s4, s4 _ _ w3.1, upd_same, trivial, rfl, rfl, fun _ z => nomatch z⟩
  · rintro i σ H5 hi ⟨o5, o6, o7, o8, vs, es, rfl, sA, tA, elA, hfA, kA, hel2, hnm, hgd⟩
    rw [hnl] at hi
    have hfi : fs[i]? = some fs[i] := List.getElem?_eq_getElem hi
    have hfm := List.getElem_mem hi
    have hfe : fs[i]? = some fs[i] := hfi
    generalize hfn : fs[i] = fn at hfi hfm
    have ei : (0 : Int) + (i : Nat) = ((i : Nat) : Int) := by omega
    have hat : atI (fs.map V.str) ((0 : Int) + (i : Nat)) = some (V.str fn) := by
      rw [ei]
      exact atI_nat (by rw [List.getElem?_map, hfi]; rfl)
    -- tape
    refine ⟨_, rfl, _, rfl, _, _, rfl, rfl, _, rfl, _, _, rfl, rfl, sc, ns, _, rfl, sA.seq hS, by omega, by omega, fun tp z htp => ?_⟩
    have sB := same_new htp (.lst [.int z])
    have tB : Tp (upd H5 tp (.lst [.int z])) tp := ⟨z, upd_same⟩
    have nth : tp ≠ hp := by
      obtain ⟨z, hz⟩ := tA
      exact (ne_of_none hz htp).symm
    have elB := sB _ _ elA
    have hpB := tA.same sB
    have ntf : fl ≠ tp := ne_of_none hfA htp
    generalize upd H5 tp (.lst [.int z]) = H6 at sB tB elB hpB
    -- some
    have sub1 : ∀ (a b : Option Int), ∃ zs : List Str, cutV (fs.map V.str) a b = zs.map V.str ∧ (∀ f ∈ zs, f ∈ fs) ∧ zs.length ≤ 6 := fun a b => by
      refine ⟨List.take (sIx (fs.map V.str).length (fs.map V.str).length b - sIx (fs.map V.str).length 0 a) (List.drop (sIx (fs.map V.str).length 0 a) fs), ?_, fun f hf => List.mem_of_mem_drop (List.mem_of_mem_take hf), ?_⟩
      · rw [List.map_take, List.map_drop]
        rfl
      · rw [List.length_take, List.length_drop]
        omega
    obtain ⟨z1, ez1, hz1, lz1⟩ := sub1 (some ((0 : Int) + (i : Nat) + 1)) none
    obtain ⟨z2, ez2, hz2, lz2⟩ := sub1 (some ((0 : Int) + (i : Nat))) (some ((0 : Int) + (i : Nat) + 1))
    refine ⟨_, rfl, _, rfl, _, _, rfl, rfl, _, rfl, el, _, rfl, SqL.of elB, fun p1 hp1 => ?_⟩
    rw [ez1]
    have sC := same_new hp1 (.lst (z1.map V.str))
    have h1C : (upd H6 p1 (.lst (z1.map V.str))) p1 = some (.lst (z1.map V.str)) := upd_same
    generalize upd H6 p1 (.lst (z1.map V.str)) = H7 at sC h1C
    refine ⟨sz (by show 0 ≤ 100000; decide), fun e1 he1 => ⟨sz (by show 0 ≤ 100000; decide), fun e2 he2 => ⟨sz (by show 0 ≤ 100000; decide), fun e3 he3 => ?_⟩⟩⟩
    have sD := (same_new he1 (.lst [])).trans ((same_new he2 (.lst [])).trans (same_new he3 (.lst [])))
    have d1 : (upd (upd (upd H7 e1 (.lst [])) e2 (.lst [])) e3 (.lst [])) e1 = some (.lst []) := (same_new he3 (.lst [])) _ _ ((same_new he2 (.lst [])) _ _ upd_same)
    have d2 : (upd (upd (upd H7 e1 (.lst [])) e2 (.lst [])) e3 (.lst [])) e2 = some (.lst []) := (same_new he3 (.lst [])) _ _ upd_same
    have d3 : (upd (upd (upd H7 e1 (.lst [])) e2 (.lst [])) e3 (.lst [])) e3 = some (.lst []) := upd_same
    generalize upd (upd (upd H7 e1 (.lst [])) e2 (.lst [])) e3 (.lst []) = H8 at sD d1 d2 d3
    have elD := sD _ _ (sC _ _ elB)
    refine ⟨_, rfl, _, rfl, _, rfl, _, rfl, _, _, rfl, rfl, _, rfl, el, _, rfl, SqL.of elD, fun p4 hp4 => ?_⟩
    rw [ez2]
    have sE := same_new hp4 (.lst (z2.map V.str))
    have h4E : (upd H8 p4 (.lst (z2.map V.str))) p4 = some (.lst (z2.map V.str)) := upd_same
    generalize upd H8 p4 (.lst (z2.map V.str)) = H9 at sE h4E
    refine ⟨_, rfl, sz (by show 5 ≤ 100000; decide), fun ll hll => ?_⟩
    have sF := same_new hll (.lst [V.ref e1, .ref e2, .ref e3, .ref p4, .ref el])
    have hllF : (upd H9 ll (.lst [V.ref e1, .ref e2, .ref e3, .ref p4, .ref el])) ll = some (.lst [V.ref e1, .ref e2, .ref e3, .ref p4, .ref el]) := upd_same
    generalize upd H9 ll (.lst [V.ref e1, .ref e2, .ref e3, .ref p4, .ref el]) = HA at sF hllF
    have s6A := sC.trans (sD.trans (sE.trans sF))
    have hpA := hpB.same s6A
    have nlh : ll ≠ hp := by
      obtain ⟨z, hz⟩ := (hpB.same (sC.trans (sD.trans sE)))
      exact (ne_of_none hz hll).symm
    refine ⟨_, rfl, hp, 5, rfl, hpA, by decide, by decide, fun r5 HB r50 r51 bB tB2 => ?_⟩
    obtain ⟨v, hv, hvm⟩ := at_some (xs := [V.ref e1, .ref e2, .ref e3, .ref p4, .ref el]) r50 r51
    have hz : ∃ (b : Addr) (zs : List Str), v = .ref b ∧ HB b = some (.lst (zs.map V.str)) ∧ (∀ f ∈ zs, f ∈ fs) ∧ zs.length ≤ 6 := by
      have nb : ∀ {b : Addr} {zs : List Str}, HA b = some (.lst (zs.map V.str)) → HB b = some (.lst (zs.map V.str)) := fun h => bB _ _ (wls_tp h hpA) h
      simp only [List.mem_cons, List.not_mem_nil, or_false] at hvm
      rcases hvm with z | z | z | z | z
      · exact ⟨e1, [], z, nb (zs := []) (sF _ _ (sE _ _ d1)), (fun _ y => nomatch y), Nat.zero_le _⟩
      · exact ⟨e2, [], z, nb (zs := []) (sF _ _ (sE _ _ d2)), (fun _ y => nomatch y), Nat.zero_le _⟩
      · exact ⟨e3, [], z, nb (zs := []) (sF _ _ (sE _ _ d3)), (fun _ y => nomatch y), Nat.zero_le _⟩
      · exact ⟨p4, z2, z, nb (sF _ _ h4E), hz2, lz2⟩
      · exact ⟨el, fs, z, nb (sF _ _ (sE _ _ elD)), fun _ y => y, hfl6⟩
    obtain ⟨b, zs, rfl, hbB, hzs, lzs⟩ := hz
    refine ⟨ll, _, _, _, rfl, rfl, SqL.of (bB _ _ nlh hllF), hv, ?_⟩
    have h1B : HB p1 = some (.lst (z1.map V.str)) := bB _ _ (wls_tp (sF _ _ (sE _ _ (sD _ _ h1C))) hpA) (sF _ _ (sE _ _ (sD _ _ h1C)))
    refine ⟨p1, b, _, _, rfl, rfl, h1B, hbB, sz (by rw [List.length_map, List.length_map]; omega), fun sl hsl => ?_⟩
    have sG := same_new hsl (.lst (z1.map V.str ++ zs.map V.str))
    have hslG : (upd HB sl (.lst (z1.map V.str ++ zs.map V.str))) sl = some (.lst ((z1 ++ zs).map V.str)) := by rw [upd_same, List.map_append]
    have tG := tB2.same sG
    have f5 : ∀ x o, x ≠ hp → H5 x = some o → (upd HB sl (.lst (z1.map V.str ++ zs.map V.str))) x = some o := fun x o n hx => sG _ _ (bB _ _ n (s6A _ _ (sB _ _ hx)))
    have ttG : Tp (upd HB sl (.lst (z1.map V.str ++ zs.map V.str))) tp := by
      obtain ⟨y, hy⟩ := tB
      exact ⟨y, sG _ _ (bB _ _ nth (s6A _ _ hy))⟩
    generalize upd HB sl (.lst (z1.map V.str ++ zs.map V.str)) = HG at sG hslG tG f5 ttG
    -- known
    intro kd hkd
    refine ⟨_, rfl, upd_same, knW sl 0, rfl, by show 2 ≤ 15; decide, ?_⟩
    rw [show mergeK [] (knW sl 0) = knW sl 0 from rfl]
    have sK0 := same_new hkd (.dK [])
    have sK : Same HG (upd (upd HG kd (.dK [])) kd (.dK (knW sl 0))) := same_mut sK0 hkd
    have hkK : (upd (upd HG kd (.dK [])) kd (.dK (knW sl 0))) kd = some (.dK (knW sl 0)) := upd_same
    have hkd5 : H5 kd = none := by
      cases e : H5 kd with
      | none => rfl
      | some o =>
        exfalso
        by_cases c : kd = hp
        · obtain ⟨y, hy⟩ := tG
          rw [c, hy] at hkd
          cases hkd
        · rw [f5 _ _ c e] at hkd
          cases hkd
    generalize upd (upd HG kd (.dK [])) kd (.dK (knW sl 0)) = HK at sK hkK
    have fK : ∀ x o, x ≠ hp → H5 x = some o → HK x = some o := fun x o n hx => sK _ _ (f5 x o n hx)
    have elK : HK el = some (.lst (fs.map V.str)) := fK _ _ net elA
    have flK : HK fl = some (.lst vs) := fK _ _ nlp hfA
    refine ⟨_, rfl, .inl ⟨rfl, _, SqL.of flK⟩, _, rfl, _, rfl, el, _, _, _, rfl, rfl, SqL.of elK, hat, sz (by show 0 ≤ 100000; decide), fun t0 ht0 => ?_⟩
    have sL := same_new ht0 (.tup [])
    refine ⟨_, rfl, _, rfl, sz (by show 1 ≤ 100000; decide), fun hl hhl => ?_⟩
    have sM := same_new hhl (.lst [.str "home"])
    refine ⟨sz (by show 4 ≤ 100000; decide), fun l4 hl4 => ?_⟩
    have sN := same_new hl4 (.lst [.int 1, .int 4, .int 8, .int 16])
    have h4N : (upd (upd (upd HK t0 (.tup [])) hl (.lst [.str "home"])) l4 (.lst [.int 1, .int 4, .int 8, .int 16])) l4 = some (.lst [.int 1, .int 4, .int 8, .int 16]) := upd_same
    have hlN : (upd (upd (upd HK t0 (.tup [])) hl (.lst [.str "home"])) l4 (.lst [.int 1, .int 4, .int 8, .int 16])) hl = some (.lst [.str "home"]) := sN _ _ upd_same
    have ht0N : (upd (upd (upd HK t0 (.tup [])) hl (.lst [.str "home"])) l4 (.lst [.int 1, .int 4, .int 8, .int 16])) t0 = some (.tup []) := sN _ _ (sM _ _ upd_same)
    have sLN := sL.trans (sM.trans sN)
    have hpK := tG.same sK
    have n4h : l4 ≠ hp := by
      obtain ⟨y, hy⟩ := hpK.same (sL.trans sM)
      exact (ne_of_none hy hl4).symm
    have nhh : hl ≠ hp := by
      obtain ⟨y, hy⟩ := hpK.same sL
      exact (ne_of_none hy hhl).symm
    have ttK := ttG.same sK
    have nht : hl ≠ tp := by
      obtain ⟨y, hy⟩ := ttK.same sL
      exact (ne_of_none hy hhl).symm
    have nt0 : t0 ≠ hp := by
      obtain ⟨y, hy⟩ := hpK
      exact (ne_of_none hy ht0).symm
    generalize upd (upd (upd HK t0 (.tup [])) hl (.lst [.str "home"])) l4 (.lst [.int 1, .int 4, .int 8, .int 16]) = HN at sLN h4N hlN ht0N
    refine ⟨_, rfl, hp, 4, rfl, hpK.same sLN, by decide, by decide, fun r7 HO r70 r71 bO tO => ?_⟩
    have hre : ∃ room : Nat, atI [V.int 1, .int 4, .int 8, .int 16] r7 = some (.int (room : Int)) ∧ 1 ≤ room ∧ room ≤ 16 := by
      obtain ⟨v, hv, hm⟩ := at_some (xs := [V.int 1, .int 4, .int 8, .int 16]) r70 r71
      simp only [List.mem_cons, List.not_mem_nil, or_false] at hm
      rcases hm with z | z | z | z <;> subst z
      · exact ⟨1, hv, by decide, by decide⟩
      · exact ⟨4, hv, by decide, by decide⟩
      · exact ⟨8, hv, by decide, by decide⟩
      · exact ⟨16, hv, by decide, by decide⟩
    obtain ⟨room, hra, hr1, hr16⟩ := hre
    refine ⟨l4, _, _, _, rfl, rfl, SqL.of (bO _ _ n4h h4N), hra, ?_⟩
    have ttO : Tp HO tp := by
      obtain ⟨y, hy⟩ := ttK.same sLN
      exact ⟨y, bO _ _ nth hy⟩
    have nkh : kd ≠ hp := by
      obtain ⟨y, hy⟩ := hpK
      exact ne_of hkK hy (fun y => nomatch y)
    have hkO : HO kd = some (.dK (knW sl 0)) := bO _ _ nkh (sLN _ _ hkK)
    have hslK : HK sl = some (.lst ((z1 ++ zs).map V.str)) := sK _ _ hslG
    have nsh : sl ≠ hp := wls_tp hslK hpK
    have hslO : HO sl = some (.lst ((z1 ++ zs).map V.str)) := bO _ _ nsh (sLN _ _ hslK)
    have hss : ∀ f ∈ z1 ++ zs, f ∈ fs := fun f hf => by
      rcases List.mem_append.mp hf with y | y
      · exact hz1 f y
      · exact hzs f y
    have gO : GW HO tp kd sl (fun f => if f ∈ fs then some 0 else none) (z1 ++ zs) 0 := ⟨ttO, hkO, ⟨hslO, fun f hf => w3.2 f (hss f hf)⟩, fun f hf => if_pos (hss f hf), by rw [List.length_append]; omega⟩
    have hlO : Hls HO hl ["home"] := bO _ _ nhh hlN
    refine ⟨tp, kd, sl, hl, (fun f => if f ∈ fs then some 0 else none), z1 ++ zs, ["home"], 0, room, rfl, gO, fun f hf => w3.2 f (hss f hf), hlO, by simp, by show 1 + room ≤ 100; omega, nht, hr1, by show room ≤ 16; exact hr16, by omega, fun a pp HP m' bP gP lP uP atP okP' cnP => ?_⟩
    refine ⟨sz (by show 3 ≤ 100000; decide), fun ep hep => ?_⟩
    have sQ := same_new hep (.tup [.str fn, .ref t0, .ref a])
    have keep : ∀ x o, x ≠ hp → H5 x = some o → (upd HP ep (.tup [.str fn, .ref t0, .ref a])) x = some o := fun x o n hx => by
      refine sQ _ _ (bP _ _ (fun z => ?_) (fun z => ?_) (bO _ _ n (sLN _ _ (fK x o n hx))))
      · rw [z, htp] at hx; cases hx
      · rw [z, hkd5] at hx; cases hx
    have hfQ := keep _ _ nlp hfA
    have hvl := kA.len
    have tkQ : TK H5 (upd HP ep (.tup [.str fn, .ref t0, .ref a])) := fun x xs hx => keep x _ (by
      obtain ⟨y, hy⟩ := tA
      exact ne_of hx hy (fun z => nomatch z)) hx
    have ht0Q : (upd HP ep (.tup [.str fn, .ref t0, .ref a])) t0 = some (.tup []) := sQ _ _ (gO.tk bP _ _ (bO _ _ nt0 ht0N))
    have tkP := tk_put (o := .lst (vs ++ [.ref ep])) hfQ
    have nhpP : kd ≠ hp := nkh
    have hpP : Tp HP hp := by
      obtain ⟨y, hy⟩ := tO
      exact ⟨y, bP _ _ nth.symm nkh.symm hy⟩
    refine ⟨fl, _, _, rfl, rfl, hfQ, Nat.lt_of_le_of_lt (m := 1000) (by omega) (by decide), ?_⟩
    have sX : Same H (upd HP ep (.tup [.str fn, .ref t0, .ref a])) := fun x o hx => keep x o (ne_of_none hx hhp) (sA _ _ hx)
    refine ⟨_, _, _, _, vs ++ [.ref ep], es ++ [(fn, [], pp)], rfl, same_mut sX hflH, ?_, ?_, upd_same, ?_, ?_, ?_, ?_⟩
    · obtain ⟨y, hy⟩ := hpP
      exact ⟨y, by rw [upd_ne nlp.symm]; exact sQ _ _ hy⟩
    · rw [upd_ne nle.symm]; exact keep _ _ net elA
    · refine (kA.imp fun _ _ z => (z.tk tkQ).tk tkP).app ⟨⟨ep, t0, a, rfl, tkP _ _ upd_same, tkP _ _ ht0Q, (atP.tk (tk_same sQ)).tk tkP⟩, trivial⟩
    · rw [List.length_append, hel2]
      rfl
    · rw [List.map_append, hnm, List.take_succ_eq_append_getElem hi, hfn]
      rfl
    · intro e he
      rcases List.mem_append.mp he with z | z
      · exact hgd e z
      · rw [List.mem_singleton.mp z]
        exact ⟨rfl, okP' [], by show pcnt pp ≤ 31; omega⟩
  · rintro σ H5 ⟨o5, o6, o7, o8, vs, es, rfl, sA, tA, elA, hfA, kA, hel2, hnm, hgd⟩
    rw [hnl] at hel2 hnm
    rw [List.take_length] at hnm
    refine ⟨_, rfl, fl, _, rfl, .inl ⟨SqL.of hfA, fun p hp9 => ?_⟩⟩
    have sK := same_new hp9 (.tup vs)
    refine q p es vs _ (fun f => if f ∈ fs then some 0 else none) (sA.trans sK) ⟨upd_same, kA.imp fun _ _ z => z.tk (tk_same sK)⟩ ⟨fun e he => ?_, fun f n hf => ?_, by rw [hnm]; exact hnd3, by omega, by omega, fun e he => okP_kP home_ok (hgd e he).2.1, fun e he => (hgd e he).2.2, fun e he => by rw [(hgd e he).1]; exact Nat.zero_le _⟩
    · obtain ⟨h1, h2, h3⟩ := hgd e he
      have hin : e.1 ∈ fs := by rw [← hnm]; exact List.mem_map.mpr ⟨e, he, rfl⟩
      refine ⟨w3.2 _ hin, (by rw [h1]; exact fun _ z => nomatch z), (by rw [h1]; exact Nat.zero_le _), (by rw [h1]; exact rP_of h2), by omega, ?_, (by rw [h1]; exact List.nodup_nil)⟩
      rw [h1]
      exact if_pos hin
    · rw [hnm]
      by_cases c : f ∈ fs
      · exact c
      · have hf' : (if f ∈ fs then some 0 else none) = some n := hf
        rw [if_neg c] at hf'
        cases hf'
/-! ### _law_waits_book -/
def spWaits (K : PySem.W.Frag) : Sp := fun vs H Q _ => ∃ (sc tp : Addr) (ns : List Int) (H0 : Hp), vs = [.ref sc, .ref tp] ∧ SqL K H0 sc (ns.map V.int) ∧ H0 tp = none ∧ Same H0 H ∧ Tp H tp ∧
  ∀ (p : Addr) (es : List TEr) (us : List V) (H' : Hp) (hd : Str → Option Nat), Same H0 H' → TBkAt H' es us p → Tp H' tp → WB hd es → Q (.ref p) H'
abbrev s_law_waits_book : Stmt := top 54
theorem scLwaits_book : FnScope ["script", "tape", "way"] ["script", "tape"] (defScope s_law_waits_book) := ⟨rfl, rfl, rfl, by decide +kernel, rfl, by decide +kernel, by decide +kernel⟩
theorem ok_waits {f fg ft fw : Addr} {fd gd td wd : FuncData} (F : Fun K "_law_waits_book" "_law_waits_book" s_law_waits_book f fd) (G_law_digit : FnOk P w K mg base CX0 1 fg gd ["tape", "many"] spDig) (R_law_digit : Ref K mg "_law_digit" fg gd ["tape", "many"])
    (G_law_turned_book : FnOk P w K mg base CX0 17 ft td ["script", "start", "straight"] (spTBook K)) (R_law_turned_book : Ref K mg "_law_turned_book" ft td ["script", "start", "straight"])
    (G_law_web : FnOk P w K mg base CX0 7 fw wd ["script", "start"] (spWeb K)) (R_law_web : Ref K mg "_law_web" fw wd ["script", "start"]) : FnOk P w K mg base CX0 18 f fd ["script", "tape"] (spWaits K) := by
  refine F.ok scLwaits_book (fun vs H Q E h => ?_) (fun cdv A outer s H vs Q E hr h => ?_)
  · obtain ⟨sc, tp, ns, H0, rfl, _⟩ := h
    rfl
  obtain ⟨sc, tp, ns, H0, rfl, hS, h0, s0, ht, q⟩ := h
  refine ⟨_, (pss_cons (ps_set (i := 2) scLwaits_book.nd rfl (Or.inl rfl) (pe_call G_law_digit (hr.mono (by omega)) rfl R_law_digit.m R_law_digit.k R_law_digit.b .nil pass0 (pa_cons (pv 1) (pa_cons pe_int pa_nil))))
    (pss_cons (ps_if (pt_cmpR op_lt (pv 2) pe_int (nomark _)) (pss_one (ps_ret (pe_call G_law_turned_book (hr.mono (by omega)) rfl R_law_turned_book.m R_law_turned_book.k R_law_turned_book.b .nil pass0 (pa_cons (pv 0) (pa_cons pe_int (pa_cons (pe_cmpR op_eq (pv 2) pe_int (nomark _)) pa_nil)))))) pss_nil)
    (pss_one (ps_ret (pe_call G_law_web (hr.mono (by omega)) rfl R_law_web.m R_law_web.k R_law_web.b .nil pass0 (pa_cons (pv 0) (pa_cons pe_int pa_nil))))))), ?_⟩
  refine ⟨_, rfl, tp, 5, rfl, ht, by decide, by decide, fun r H1 r0 r1 b1 t1 => ?_⟩
  have s01 : Same H0 H1 := fun b o hb => b1 _ _ (ne_of_none hb h0) (s0 _ _ hb)
  have hS1 : SqL K H1 sc (ns.map V.int) := s01.seq hS
  refine ⟨_, rfl, _, _, rfl, rfl, _, rfl, ?_⟩
  refine ite2 (fun c => ?_) (fun c => ?_)
  · refine ⟨_, rfl, _, rfl, rfl, sc, ns, 1, _, rfl, hS1, by decide, by decide, fun p es us H3 s3 hB hG => ?_⟩
    obtain ⟨hd, hw⟩ := hG.wb
    exact q p es us H3 hd (s01.trans s3) hB (t1.same s3) hw
  · exact ⟨_, rfl, sc, ns, 1, rfl, hS1, by decide, by decide, fun p es us H3 hd s3 hB hw => q p es us H3 hd (s01.trans s3) hB (t1.same s3) hw⟩
end
end KB

set_option pp.maxSteps 400
namespace KB
open PySem L2 HT LamX NdefX

/-! ### asks as the law keeps them -/
def AtV (H : Hp) (a : Ak) (v : V) : Prop := ∃ t q, v = .ref t ∧ H t = some (.tup [.ref q, .str a.2.1, .int (a.2.2 : Int)]) ∧ PlAt H a.1 q
theorem AtV.tk {H H' : Hp} (k : TK H H') {a : Ak} {v : V} (h : AtV H a v) : AtV H' a v := let ⟨t, q, e, h1, h2⟩ := h; ⟨t, q, e, k _ _ h1, k _ _ h2⟩
def LaE (H : Hp) (e : TEr) (kv : L2.Key × V) : Prop := kv.1 = .inr e.1 ∧ ∃ l vs, kv.2 = .ref l ∧ H l = some (.lst vs) ∧ All2 (AtV H) (asksE e) vs
def LaL (H : Hp) : List TEr → List (L2.Key × V) → Prop
  | [], [] => True
  | x :: xs, kv :: kvs => LaE H x kv ∧ LaL H xs kvs
  | _, _ => False
theorem LaL.mono {H H' : Hp} (k : ∀ l vs, H l = some (.lst vs) → H' l = some (.lst vs)) (t : TK H H') : ∀ {es : List TEr} {kvs : List (L2.Key × V)}, LaL H es kvs → LaL H' es kvs
  | [], [], _ => trivial
  | _ :: _, _ :: _, ⟨⟨e, l, vs, h1, h2, h3⟩, r⟩ => ⟨⟨e, l, vs, h1, k _ _ h2, h3.imp fun _ _ z => z.tk t⟩, r.mono k t⟩
  | [], _ :: _, h => h.elim
  | _ :: _, [], h => h.elim
theorem LaL.app {H : Hp} {e : TEr} {kv : L2.Key × V} (s : LaE H e kv) : ∀ {es : List TEr} {kvs : List (L2.Key × V)}, LaL H es kvs → LaL H (es ++ [e]) (kvs ++ [kv])
  | [], [], _ => ⟨s, trivial⟩
  | _ :: _, _ :: _, ⟨y, r⟩ => ⟨y, r.app s⟩
  | [], _ :: _, h => h.elim
  | _ :: _, [], h => h.elim
theorem LaL.keys {H : Hp} : ∀ {es : List TEr} {kvs : List (L2.Key × V)}, LaL H es kvs → kvs.map (·.1) = es.map fun x => (.inr x.1 : L2.Key)
  | [], [], _ => rfl
  | _ :: _, _ :: _, ⟨y, r⟩ => by rw [List.map_cons, List.map_cons, y.1, r.keys]
  | [], _ :: _, h => h.elim
  | _ :: _, [], h => h.elim
theorem LaL.len {H : Hp} {es : List TEr} {kvs : List (L2.Key × V)} (h : LaL H es kvs) : kvs.length = es.length := by
  have := congrArg List.length h.keys
  rwa [List.length_map, List.length_map] at this
theorem LaL.there {H : Hp} : ∀ {es : List TEr} {kvs : List (L2.Key × V)}, LaL H es kvs → ∀ {e : TEr}, (es.map (·.1)).Nodup → e ∈ es → ∃ kv, valV kvs (.inr e.1) = some kv.2 ∧ LaE H e kv
  | [], [], _, _, _, h => nomatch h
  | x :: es, kv :: kvs, ⟨y, r⟩, e, nd, h => by
    obtain ⟨n1, n2⟩ := List.nodup_cons.mp nd
    rcases List.mem_cons.mp h with z | z
    · refine ⟨kv, ?_, by rw [z]; exact y⟩
      unfold valV
      rw [List.find?_cons_of_pos (by exact decide_eq_true (by rw [y.1, z]))]
      rfl
    · obtain ⟨kv', a, b⟩ := r.there n2 z
      refine ⟨kv', ?_, b⟩
      unfold valV at a ⊢
      rw [List.find?_cons_of_neg]
      · exact a
      · intro c
        have e1 : kv.1 = .inr e.1 := of_decide_eq_true c
        rw [y.1] at e1
        exact n1 (List.mem_map.mpr ⟨e, z, (Sum.inr.inj e1).symm⟩)
  | [], _ :: _, h, _, _, _ => h.elim
  | _ :: _, [], h, _, _, _ => h.elim
theorem valV_snoc {kvs : List (L2.Key × V)} {k : L2.Key} {v : V} (h : k ∉ kvs.map (·.1)) : valV (kvs ++ [(k, v)]) k = some v := by
  unfold valV
  rw [List.find?_append, List.find?_eq_none.mpr fun x hx => ?_]
  · rw [Option.none_or, List.find?_cons_of_pos (by exact decide_eq_true rfl)]
    rfl
  · intro e
    exact h (List.mem_map.mpr ⟨x, hx, of_decide_eq_true e⟩)
def pdPl (p : Pl) : PyData := .tuple (.str p.1 :: p.2.map PyData.int)
theorem dp_intsW {K : PySem.W.Frag} {H : Hp} : ∀ ks : List Int, DpAll K H (ks.map V.int) (ks.map PyData.int)
  | [] => .nil
  | k :: ks => .cons (.int k) (dp_intsW ks)
theorem dp_pl {K : PySem.W.Frag} {H : Hp} {p : Pl} {q : Addr} (h : PlAt H p q) : Dp K H (.ref q) (pdPl p) := .tup (SqT.of h) (.cons (.str _) (dp_intsW _))
theorem lay_ints : ∀ ks : List Int, PySem.PyData.canLayAll0 (ks.map PyData.int) = true
  | [] => rfl
  | k :: ks => by
    show (true && PySem.PyData.canLayAll0 (ks.map PyData.int)) = true
    rw [lay_ints ks]
    rfl
theorem depth_ints : ∀ ks : List Int, PySem.PyData.depthAll (ks.map PyData.int) = 0
  | [] => rfl
  | x :: r => by
    show max (PySem.PyData.depth (.int x)) (PySem.PyData.depthAll (r.map PyData.int)) = 0
    rw [depth_ints r]
    rfl
theorem lay_pl {p : Pl} (h : isW p.1 = true) : (pdPl p).canLay0 = true := by
  show (PySem.PyData.strOk p.1 && PySem.PyData.canLayAll0 (p.2.map PyData.int)) = true
  rw [isW_ok h, lay_ints]
  rfl
theorem depth_pl (p : Pl) : (pdPl p).depth = 1 := by
  show max (PySem.PyData.depth (.str p.1)) (PySem.PyData.depthAll (p.2.map PyData.int)) + 1 = 1
  rw [depth_ints]
  rfl
theorem shaped_pl {p : Pl} (h : isW p.1 = true) : SeqAt.shaped (pdPl p) = true := shaped_of (lay_pl h) (by rw [depth_pl]; decide)
theorem eqv_ints : ∀ a b : List Int, PySem.PyData.eqvAll (a.map PyData.int) (b.map PyData.int) = decide (a = b)
  | [], [] => rfl
  | [], _ :: _ => rfl
  | _ :: _, [] => rfl
  | x :: a, y :: b => by
    show (PyData.eqv (.int x) (.int y) && PySem.PyData.eqvAll (a.map PyData.int) (b.map PyData.int)) = _
    rw [eqv_ints a b]
    show (decide (x = y) && decide (a = b)) = _
    by_cases c : x = y
    · by_cases d : a = b
      · rw [decide_eq_true c, decide_eq_true d, decide_eq_true (by rw [c, d])]; rfl
      · rw [decide_eq_true c, decide_eq_false d, decide_eq_false (fun z => d (List.cons.inj z).2)]; rfl
    · rw [decide_eq_false c, decide_eq_false (fun z => c (List.cons.inj z).1)]; rfl
theorem eqv_pl (p q : Pl) : PyData.eqv (pdPl p) (pdPl q) = decide (p = q) := by
  show (PyData.eqv (.str p.1) (.str q.1) && PySem.PyData.eqvAll (p.2.map PyData.int) (q.2.map PyData.int)) = _
  rw [eqv_ints]
  show (decide (p.1 = q.1) && decide (p.2 = q.2)) = _
  by_cases c : p.1 = q.1
  · by_cases d : p.2 = q.2
    · rw [decide_eq_true c, decide_eq_true d, decide_eq_true (Prod.ext c d)]; rfl
    · rw [decide_eq_true c, decide_eq_false d, decide_eq_false (fun z => d (by rw [z]))]; rfl
  · rw [decide_eq_false c, decide_eq_false (fun z : p = q => c (congrArg Prod.fst z)), Bool.false_and]
theorem filter_one : ∀ {as : List Ak} {a : Ak}, (as.map (·.1)).Nodup → a ∈ as → as.filter (fun x => decide (x.1 = a.1)) = [a]
  | [], _, _, h => nomatch h
  | x :: as, a, nd, h => by
    obtain ⟨n1, n2⟩ := List.nodup_cons.mp nd
    rcases List.mem_cons.mp h with z | z
    · subst z
      rw [List.filter_cons_of_pos (by exact decide_eq_true rfl), List.filter_eq_nil_iff.mpr]
      intro y hy c
      exact n1 (List.mem_map.mpr ⟨y, hy, of_decide_eq_true c⟩)
    · rw [List.filter_cons_of_neg, filter_one n2 z]
      intro c
      have e : x.1 = a.1 := of_decide_eq_true c
      exact n1 (List.mem_map.mpr ⟨a, z, e.symm⟩)
theorem Row.head {A : List Ak} {f g : Str} {a : Ak} {r : List Ak} (h : Row A f (a :: r) g) : a.1.1 = f ∧ a ∈ A ∧ Row A a.2.1 r g := by
  cases h with
  | cons m k => exact ⟨rfl, m, k⟩
theorem asksB_er {es : List TEr} {a : Ak} (h : a ∈ asksB es) : ∃ e ∈ es, a ∈ asksE e ∧ e.1 = a.1.1 := by
  obtain ⟨l, hl, hb2⟩ := List.mem_flatten.mp h
  obtain ⟨e2, he2, rfl⟩ := List.mem_map.mp hl
  exact ⟨e2, he2, hb2, (asksE_nm hb2).1.symm⟩
section
variable {P : Program} {w : World} {K : PySem.W.Frag} {mg : Str → Option Value} {base : Heap}
/-! ### _law_asks -/
def spLAsks : Sp := fun vs H Q _ => ∃ (p : Addr) (es : List TEr) (us : List V), vs = [.ref p] ∧ TBkAt H es us p ∧ es.length ≤ 6 ∧ (es.map (·.1)).Nodup ∧ (∀ e ∈ es, pcnt e.2.2 ≤ 90) ∧
  ∀ D H' kvs, H D = none → Same H H' → H' D = some (.dK kvs) → LaL H' es kvs → Q (.ref D) H'
abbrev s_law_asks : Stmt := top 49
theorem scLasks : FnScope ["turned", "found", "name", "names", "body", "place", "part"] ["turned"] (defScope s_law_asks) := ⟨rfl, rfl, rfl, by decide +kernel, rfl, by decide +kernel, by decide +kernel⟩
theorem ok_lasks (T : Txt K mg) {f f1 : Addr} {fd d1 : FuncData} (F : Fun K "_law_asks" "_law_asks" s_law_asks f fd)
    (G_law_all : FnOk P w K mg base CX0 91 f1 d1 ["part", "place"] (spLAll 90)) (R_law_all : Ref K mg "_law_all" f1 d1 ["part", "place"]) : FnOk P w K mg base CX0 92 f fd ["turned"] spLAsks := by
  refine F.ok scLasks (fun vs H Q E h => ?_) (fun cdv A outer s H vs Q E hr h => ?_)
  · obtain ⟨p, es, us, rfl, _⟩ := h
    rfl
  obtain ⟨p, es, us, rfl, hB, hl6, hnd, hcn, q⟩ := h
  refine ⟨_, (pss_cons (ps_set (i := 1) scLasks.nd rfl (Or.inl rfl) pe_dnewK)
    (pss_cons (ps_for PassesOwn.never rfl (pi_tup (pv 0)) (pg_tup rfl (pgs_cons (pg_name (i := 2) scLasks.nd rfl (Or.inl rfl)) (pgs_cons (pg_name (i := 3) scLasks.nd rfl (Or.inl rfl)) (pgs_cons (pg_name (i := 4) scLasks.nd rfl (Or.inl rfl)) pgs_nil)))) (pss_cons (ps_dput (hu_of hr) (pv 1) (pv 2) (pe_lst pa_nil) rfl)
    (pss_one (ps_for PassesOwn.never rfl (pi_list (pe_call G_law_all (hr.mono (by omega)) rfl R_law_all.m R_law_all.k R_law_all.b .nil pass0 (pa_cons (pv 4) (pa_cons (pe_tup (pa_cons (pv 2) pa_nil)) pa_nil)))) (pg_tup rfl (pgs_cons (pg_name (i := 5) scLasks.nd rfl (Or.inl rfl)) (pgs_cons (pg_name (i := 6) scLasks.nd rfl (Or.inl rfl)) pgs_nil))) (pss_one (ps_if (pt_cmpR op_eq (pe_ix ix_tup (pv 6) pe_int (fun _ _ => rfl)) pe_str (nomark _)) (pss_one (ps_expr (pe_bm PySem.F.plainAttrs_list PySem.F.slot_list_append PySem.F.type_list_append mt_append (pe_dget (hu_of hr) (pv 1) (pv 2) (fun _ _ => rfl)) (pa_cons (pe_tup (pa_cons (pv 5) (pa_cons (pe_ix ix_tup (pv 6) pe_int (fun _ _ => rfl)) (pa_cons (pe_callTy call_int1 (by rfl) T.m_int (by decide +kernel) (pa_cons (pe_cmpR op_ne (pe_ix ix_tup (pv 6) pe_int (fun _ _ => rfl)) pe_str (nomark _)) pa_nil)) pa_nil)))) pa_nil)))) pss_nil))))))
    (pss_one (ps_ret (pv 1))))), ?_⟩
  refine fun D hD => ?_
  have s0 := same_new hD (.dK [])
  refine ⟨_, rfl, p, rfl, ⟨_, SqT.of (s0 _ _ hB.1)⟩, for_tup (xs := us) (fun i σ H' => ∃ (o2 o3 o4 o5 o6 : Option V) (kvs : List (L2.Key × V)), σ = [some (.ref p), some (.ref D), o2, o3, o4, o5, o6] ∧ Same H H' ∧ H' D = some (.dK kvs) ∧ LaL H' (es.take i) kvs) ⟨_, _, _, _, _, [], rfl, s0, upd_same, by rw [List.take_zero]; exact trivial⟩ ?_ ?_ ?_⟩
  · rintro i σ H' _ ⟨o2, o3, o4, o5, o6, kvs, rfl, s1, _⟩
    exact SqT.of (s1 _ _ hB.1)
  · rintro i x σ H1 hx ⟨o2, o3, o4, o5, o6, kvs, rfl, s1, h1, k1⟩
    obtain ⟨e, he, qa, r, b, rfl, g1, g2, g3⟩ := hB.2.get hx
    have hem := mem_of_get he
    obtain ⟨hi, hei⟩ := List.getElem?_eq_some_iff.mp he
    refine ⟨qa, _, rfl, SqT.of (s1 _ _ g1), rfl, _, _, rfl, _, _, rfl, _, _, rfl, rfl, ?_⟩
    refine ⟨sz (by show 0 ≤ 100000; decide), fun nl hnl => ?_⟩
    have sN := same_new hnl (.lst [])
    have hk6 := k1.len
    rw [List.length_take] at hk6
    have nD : nl ≠ D := fun z => by rw [z, h1] at hnl; cases hnl
    have hnew : (.inr e.1 : L2.Key) ∉ kvs.map (·.1) := by
      rw [k1.keys]
      intro z
      obtain ⟨y, hy, ey⟩ := List.mem_map.mp z
      have ey' : y.1 = e.1 := Sum.inr.inj ey
      obtain ⟨k, hk, e3⟩ := List.getElem_of_mem hy
      rw [List.getElem_take] at e3
      rw [List.length_take] at hk
      refine List.pairwise_iff_getElem.mp hnd k i (by rw [List.length_map]; omega) (by rw [List.length_map]; exact hi) (by omega) ?_
      rw [List.getElem_map, List.getElem_map, e3, hei, ey']
    refine ⟨_, rfl, _, rfl, D, _, rfl, DPut.k (k := .inr e.1) (sN _ _ h1) (Nat.lt_of_le_of_lt (m := 6) (by omega) (by decide)), ?_⟩
    rw [putK_new hnew]
    have hN2 : (upd (upd H1 nl (.lst [])) D (.dK (kvs ++ [((.inr e.1 : L2.Key), .ref nl)]))) nl = some (.lst []) := by rw [upd_ne nD]; exact upd_same
    have hD2 : (upd (upd H1 nl (.lst [])) D (.dK (kvs ++ [((.inr e.1 : L2.Key), .ref nl)]))) D = some (.dK (kvs ++ [((.inr e.1 : L2.Key), .ref nl)])) := upd_same
    have f2 : ∀ y o, y ≠ D → H1 y = some o → (upd (upd H1 nl (.lst [])) D (.dK (kvs ++ [((.inr e.1 : L2.Key), .ref nl)]))) y = some o := fun y o n h => by rw [upd_ne n]; exact sN _ _ h
    generalize upd (upd H1 nl (.lst [])) D (.dK (kvs ++ [((.inr e.1 : L2.Key), .ref nl)])) = H2 at hN2 hD2 f2
    have tk12 : TK H1 H2 := fun y xs h => f2 y _ (fun z => by rw [z, h1] at h; cases h) h
    refine ⟨_, rfl, _, rfl, sz (by show 1 ≤ 100000; decide), fun pl hpl => ?_⟩
    have s3 := same_new hpl (.tup [.str e.1])
    refine ⟨b, pl, e.2.2, [.str e.1], rfl, ((g3.tk (tk_same s1)).tk tk12).tk (tk_same s3), hcn e hem, Nat.le_trans (hcn e hem) (by decide), upd_same, by show 1 + 89 ≤ 2000; decide, fun L H4 its hL s4 h4 k4 => ?_⟩
    have s34 := s3.trans s4
    have hN4 := s34 _ _ hN2
    have hD4 := s34 _ _ hD2
    have nLn : L ≠ nl := fun z => by rw [z, s3 _ _ hN2] at hL; cases hL
    have hal : its.length = pcnt e.2.2 := k4.len.trans (allP_len _)
    have hpc := hcn e hem
    refine ⟨L, rfl, ⟨_, SqL.of h4⟩, for_list (K := K) (a := L) (xs := its) (fun j σ H' => ∃ (o5 o6 : Option V) (vs : List V), σ = [some (.ref p), some (.ref D), some (.str e.1), some (.ref r), some (.ref b), o5, o6] ∧ (∀ y o, y ≠ nl → H4 y = some o → H' y = some o) ∧ H' nl = some (.lst vs) ∧ All2 (AtV H') (((allP e.2.2).take j).filterMap (akP e.1)) vs ∧ vs.length ≤ j) ⟨_, _, [], rfl, fun _ _ _ h => h, hN4, by rw [List.take_zero]; exact trivial, Nat.le_refl _⟩ ?_ ?_ ?_⟩
    · rintro j σ H' _ ⟨o5, o6, vs, rfl, b5, _⟩
      exact SqL.of (b5 _ _ nLn h4)
    · rintro j x σ H5 hx ⟨o5, o6, vs, rfl, b5, h5, k5, l5⟩
      obtain ⟨en, hen, q2, r2, b2, rfl, e1, e2, e3⟩ := k4.get hx
      obtain ⟨hj, hj2⟩ := List.getElem?_eq_some_iff.mp hen
      rw [allP_len] at hj
      have tk5 : TK H4 H5 := fun y xs h => b5 y _ (fun z => by rw [z, hN4] at h; cases h) h
      have e1' := tk5 _ _ e1
      have e2' : H5 r2 = some (.tup (.str e.1 :: en.1.map V.int)) := tk5 _ _ e2
      have e3' := PAt.tk tk5 e3
      refine ⟨q2, _, rfl, SqT.of e1', rfl, _, _, rfl, _, _, rfl, rfl, ?_⟩
      have step : ((allP e.2.2).take (j + 1)).filterMap (akP e.1) = ((allP e.2.2).take j).filterMap (akP e.1) ++ [en].filterMap (akP e.1) := by
        rw [List.take_succ_eq_append_getElem (by rw [allP_len]; exact hj), hj2, List.filterMap_append]
      obtain ⟨rr, hh⟩ := e3'.head
      refine ⟨_, rfl, b2, _, _, _, rfl, rfl, SqT.of hh, at0, rfl, _, rfl, ?_⟩
      refine ite2 (fun c => ?_) (fun c => ?_)
      · obtain ⟨g, ts, jj, hn⟩ := hsP_ask (V.str.inj (of_decide_eq_true c))
        obtain ⟨ks, nd⟩ := en
        dsimp only at hn e2' e3'
        subst hn
        obtain ⟨tb, tvs, t1, t2, t3⟩ : PAt H5 (.ask g ts jj) b2 := e3'
        have hak : [((ks, Pt.ask g ts jj) : List Int × Pt)].filterMap (akP e.1) = [((e.1, ks), g, if jj = "home" then 0 else 1)] := rfl
        rw [hak] at step
        have hD5 := b5 _ _ nD.symm hD4
        refine ⟨_, rfl, _, rfl, D, .ref nl, rfl, by rw [← valV_snoc (v := .ref nl) hnew]; exact DGet.k (k := .inr e.1) hD5, .inl ⟨rfl, _, SqL.of h5⟩, _, rfl, _, rfl, b2, _, _, _, rfl, rfl, SqT.of t1, at1, _, rfl, b2, _, _, _, rfl, rfl, SqT.of t1, at3, rfl, .inr ⟨_, rfl, ?_⟩⟩
        refine ⟨sz (by show 3 ≤ 100000; decide), fun tt htt => ?_⟩
        have ew : (if (!decide (V.str jj = V.str "home")) = true then (1 : Int) else 0) = ((if jj = "home" then 0 else 1 : Nat) : Int) := by
          by_cases z : jj = "home"
          · rw [if_pos z, decide_eq_true (by rw [z])]; rfl
          · rw [if_neg z, decide_eq_false (fun y => z (V.str.inj y))]; rfl
        have s6 := same_new htt (.tup [.ref r2, .str g, .int (if (!decide (V.str jj = V.str "home")) = true then (1 : Int) else 0)])
        have h6 := s6 _ _ h5
        refine ⟨nl, _, _, rfl, rfl, h6, Nat.lt_of_le_of_lt (m := 100) (by omega) (by decide), _, _, vs ++ [.ref tt], rfl, fun y o n h => ?_, upd_same, ?_, by rw [List.length_append, List.length_singleton]; omega⟩
        · rw [upd_ne n]
          exact s6 _ _ (b5 y o n h)
        · rw [step]
          refine (k5.imp fun _ _ z => (z.tk (tk_same s6)).tk (tk_put h6)).app ⟨⟨tt, r2, rfl, ?_, tk_put h6 _ _ (s6 _ _ e2')⟩, trivial⟩
          refine (tk_put h6 _ _ upd_same).trans ?_
          rw [ew]
      · refine ⟨_, _, vs, rfl, b5, h5, ?_, by omega⟩
        rw [step]
        have : akP e.1 en = none := by
          obtain ⟨ks, nd⟩ := en
          cases nd with
          | ask g ts jj =>
            obtain ⟨tb, tvs, t1, _⟩ : PAt H5 (.ask g ts jj) b2 := e3'
            rw [t1] at hh
            cases hh
            exact absurd (decide_eq_true rfl) c
          | _ => rfl
        rw [show [en].filterMap (akP e.1) = [] by rw [List.filterMap_cons, this]; rfl, List.append_nil]
        exact k5
    · rintro σ H5 ⟨o5, o6, vs, rfl, b5, h5, k5, l5⟩
      rw [hal, ← allP_len, List.take_length, ← asksE_same] at k5
      have l15 : ∀ l vs', H1 l = some (.lst vs') → H5 l = some (.lst vs') := fun l vs' h => b5 _ _ (fun z => by rw [z, hnl] at h; cases h) (s34 _ _ (f2 _ _ (fun z => by rw [z, h1] at h; cases h) h))
      have t15 : TK H1 H5 := fun l vs' h => b5 _ _ (fun z => by rw [z, hnl] at h; cases h) (s34 _ _ (f2 _ _ (fun z => by rw [z, h1] at h; cases h) h))
      have hnlH : H nl = none := by
        cases ee : H nl with
        | none => rfl
        | some o => rw [s1 _ _ ee] at hnl; cases hnl
      refine ⟨_, _, _, _, _, kvs ++ [((.inr e.1 : L2.Key), .ref nl)], rfl, fun y o hy => b5 _ _ (ne_of_none hy hnlH) (s34 _ _ (f2 _ _ (ne_of_none hy hD) (s1 _ _ hy))), b5 _ _ nD.symm hD4, ?_⟩
      rw [List.take_succ_eq_append_getElem hi, hei]
      exact (k1.mono l15 t15).app ⟨rfl, nl, vs, rfl, h5, k5⟩
  · rintro σ H1 ⟨o2, o3, o4, o5, o6, kvs, rfl, s1, h1, k1⟩
    rw [hB.2.len, List.take_length] at k1
    exact ⟨_, rfl, q D H1 kvs hD s1 h1 k1⟩
/-! ### _law_row_end -/
abbrev s_law_row_end : Stmt := top 51
theorem scLrow_end : FnScope ["asks", "f", "row", "weight", "place", "some", "ask"] ["asks", "f", "row"] (defScope s_law_row_end) := ⟨rfl, rfl, rfl, by decide +kernel, rfl, by decide +kernel, by decide +kernel⟩
theorem rd_same {H H' : Hp} (s : Same H H') {a : Addr} {u : HO} (h : Rd H a u) : Rd H' a u := h.elim (fun x => .inl (s _ _ x)) fun ⟨o, x⟩ => .inr ⟨o, s _ _ x⟩
theorem DGet.rk {H : Hp} {a : Addr} {kvs : List (L2.Key × V)} {k : L2.Key} (e : Rd H a (.dK kvs)) : DGet H a (kV k) (valV kvs k) := .inl ⟨kvs, k, e, rfl, rfl⟩
def spRowEnd : Sp := fun vs H Q _ => ∃ (D L : Addr) (es : List TEr) (kvs : List (L2.Key × V)) (f g : Str) (r : List Ak) (vs' : List V), vs = [.ref D, .str f, .ref L] ∧ Rd H D (.dK kvs) ∧ LaL H es kvs ∧ (es.map (·.1)).Nodup ∧ (∀ e ∈ es, isW e.1 = true ∧ (asksE e).length ≤ 300) ∧ (∀ a ∈ asksB es, isW a.2.1 = true) ∧ H L = some (.lst vs') ∧ All2 (PlcV H) (r.map (·.1)) vs' ∧ Row (asksB es) f r g ∧
  ∀ t H', Same H H' → H' t = some (.tup [.str g, .int (wtR r : Int)]) → Q (.ref t) H'
theorem ok_rowend {f : Addr} {fd : FuncData} (F : Fun K "_law_row_end" "_law_row_end" s_law_row_end f fd) : FnOk P w K mg base CX0 1 f fd ["asks", "f", "row"] spRowEnd := by
  refine F.ok scLrow_end (fun vs H Q E h => ?_) (fun cdv A outer s H vs Q E hr h => ?_)
  · obtain ⟨D, L, es, kvs, f, g, r, vs', rfl, _⟩ := h
    rfl
  obtain ⟨D, L, es, kvs, f, g, r, vs', rfl, hD, hk, hnd, hw, hwa, hL, hv, hrow, q⟩ := h
  refine ⟨_, (pss_cons (ps_set (i := 3) scLrow_end.nd rfl (Or.inl rfl) pe_int)
    (pss_cons (ps_for PassesOwn.never rfl (pi_list (pv 2)) (pg_name (i := 4) scLrow_end.nd rfl (Or.inr rfl)) (pss_cons (ps_setLc (i := 5) (own := [("ask", 6)]) (g := gName 6) (tt := tTest (tOp (rEqD K) (tOp (rIxT K) (tVar 6) (tC (.int 0))) (tVar 4))) (te := tVar 6) (by rfl) scLrow_end.nd rfl rfl (sw_true rfl rfl rfl (by decide +kernel)) (pi_list (pe_dget (hu_of hr) (pv 0) (pv 1) (fun _ _ => rfl))) (blkOk_by (own := [("ask", 6)]) (N := ["asks", "f", "row", "weight", "place", "some", "ask"]) (sc := defScope s_law_row_end) (by decide +kernel)) (fun _ _ _ _ _ => (pg_name (i := 6) scLrow_end.nd rfl (Or.inl rfl))) (fun _ _ _ _ _ => (pts_one (pt_cmpR (op_eqD hr.units) (pe_ix ix_tup (pv 6) pe_int (fun _ _ => rfl)) (pv 4) (nomark _)))) (fun _ _ _ _ _ => (pv 6)))
    (pss_cons (ps_if (pt_cmpR (op_eqD hr.units) (pv 5) (pe_lst pa_nil) (nomark _)) (pss_one (ps_ret (pe_tup (pa_cons pe_non (pa_cons pe_int pa_nil))))) pss_nil)
    (pss_cons (ps_set (i := 1) scLrow_end.nd rfl (Or.inl rfl) (pe_ix ix_tup (pe_ix ix_list (pv 5) pe_int (fun _ _ => rfl)) pe_int (fun _ _ => rfl)))
    (pss_one (ps_set (i := 3) scLrow_end.nd rfl (Or.inl rfl) (pe_op op_add (pv 3) (pe_ix ix_tup (pe_ix ix_list (pv 5) pe_int (fun _ _ => rfl)) pe_int (fun _ _ => rfl)))))))))
    (pss_one (ps_ret (pe_tup (pa_cons (pv 1) (pa_cons (pv 3) pa_nil))))))), ?_⟩
  refine ⟨_, rfl, L, rfl, ⟨_, SqL.of hL⟩, for_list (K := K) (a := L) (xs := vs') (fun i σ H' => ∃ (f' : Str) (o4 o5 o6 : Option V), σ = [some (.ref D), some (.str f'), some (.ref L), some (.int (wtR (r.take i) : Int)), o4, o5, o6] ∧ Same H H' ∧ Row (asksB es) f' (r.drop i) g) ⟨f, _, _, _, rfl, Same.refl _, hrow⟩ ?_ ?_ ?_⟩
  · rintro i σ H' _ ⟨f', o4, o5, o6, rfl, s1, _⟩
    exact SqL.of (s1 _ _ hL)
  · rintro i x σ H1 hx ⟨f', o4, o5, o6, rfl, s1, hrow1⟩
    obtain ⟨pl, hpl, qb, rfl, hq⟩ := hv.get hx
    rw [List.getElem?_map] at hpl
    obtain ⟨a, ha, rfl⟩ := Option.map_eq_some_iff.mp hpl
    obtain ⟨hi, hai⟩ := List.getElem?_eq_some_iff.mp ha
    rw [List.drop_eq_getElem_cons hi, hai] at hrow1
    obtain ⟨ef, ham, hrow2⟩ := hrow1.head
    obtain ⟨e, he, hae, hen⟩ := asksB_er ham
    obtain ⟨kv, hval, hk1, l, vl, hkv2, hl, hla⟩ := (hk.mono (fun l vs h => s1 _ _ h) (tk_same s1)).there hnd he
    have hen' : e.1 = f' := hen.trans ef
    rw [hen', hkv2] at hval
    have hD1 := rd_same s1 hD
    obtain ⟨hwe, hle⟩ := hw e he
    have hvll := hla.len
    refine ⟨_, rfl, _, rfl, D, .ref l, rfl, by rw [← hval]; exact DGet.rk (k := .inr f') hD1, l, rfl, ⟨_, SqL.of hl⟩, fun D2 hD2 => lc_list (K := K) (a := l) (xs := vl) (fun j H' => ∃ vs2, Same H1 H' ∧ H' D2 = some (.lst vs2) ∧ All2 (AtV H') (((asksE e).take j).filter fun x => decide (x.1 = a.1)) vs2 ∧ vs2.length ≤ j) ⟨[], same_new hD2 _, upd_same, by rw [List.take_zero]; exact trivial, Nat.le_refl _⟩ ?_ ?_ ?_⟩
    · rintro j H' _ ⟨vs2, s2, _⟩
      exact SqL.of (s2 _ _ hl)
    · rintro j x H2 hx2 ⟨vs2, s2, h2, k2, l2⟩
      obtain ⟨b, hb, hbv⟩ := hla.get hx2
      obtain ⟨hj, hbj⟩ := List.getElem?_eq_some_iff.mp hb
      obtain ⟨tb, qc, rfl, hb1, hb2⟩ := hbv.tk (tk_same s2)
      have hbw : isW b.1.1 = true := by rw [(asksE_nm (mem_of_get hb)).1]; exact hwe
      have haw : isW a.1.1 = true := by rw [← hen]; exact hwe
      refine ⟨rfl, ?_⟩
      refine ⟨_, rfl, tb, _, _, _, rfl, rfl, SqT.of hb1, at0, _, rfl, pdPl b.1, pdPl a.1, dp_pl hb2, dp_pl (s2 _ _ (s1 _ _ hq)), shaped_pl hbw, shaped_pl haw, _, rfl, ?_⟩
      rw [eqv_pl, List.take_succ_eq_append_getElem hj, hbj, List.filter_append]
      by_cases c : b.1 = a.1
      · refine itT (decide_eq_true c) ⟨_, rfl, vs2, h2, Nat.lt_of_le_of_lt (m := 300) (by omega) (by decide), vs2 ++ [.ref tb], same_mut s2 hD2, upd_same, ?_, by rw [List.length_append, List.length_singleton]; omega⟩
        rw [show [b].filter (fun x => decide (x.1 = a.1)) = [b] from List.filter_cons_of_pos (by exact decide_eq_true c)]
        exact (k2.imp fun _ _ z => z.tk (tk_put h2)).app ⟨⟨tb, qc, rfl, tk_put h2 _ _ hb1, tk_put h2 _ _ hb2⟩, trivial⟩
      · refine itF (decide_eq_false c) ⟨vs2, s2, h2, ?_, by omega⟩
        rw [show [b].filter (fun x => decide (x.1 = a.1)) = [] from List.filter_cons_of_neg (by show ¬ decide _ = true; rw [decide_eq_false c]; exact Bool.false_ne_true), List.append_nil]
        exact k2
    · rintro H2 ⟨vs2, s2, h2, k2, _⟩
      rw [hvll, List.take_length, filter_one (asksE_nd e) hae] at k2
      obtain ⟨v2, vr, rfl⟩ : ∃ v vr, vs2 = v :: vr := by
        cases vs2 with
        | nil => exact k2.elim
        | cons v vr => exact ⟨v, vr, rfl⟩
      obtain ⟨⟨tt, qd, rfl, ht1, ht2⟩, hvr⟩ := k2
      cases vr with
      | cons _ _ => exact hvr.elim
      | nil =>
      have haw : isW a.1.1 = true := by rw [← hen]; exact hwe
      refine ⟨_, rfl, sz (by show 0 ≤ 100000; decide), fun p0 hp0 => ?_⟩
      have s3 := same_new hp0 (.lst [])
      have dpt : Dp K (upd H2 p0 (.lst [])) (.ref D2) (.list [.tuple [pdPl a.1, .str a.2.1, .int (a.2.2 : Int)]]) := .lst (SqL.of (s3 _ _ h2)) (.cons (.tup (SqT.of (s3 _ _ ht1)) (.cons (dp_pl (s3 _ _ ht2)) (.cons (.str _) (.cons (.int _) .nil)))) .nil)
      have shp : SeqAt.shaped (.list [.tuple [pdPl a.1, .str a.2.1, .int (a.2.2 : Int)]]) = true := by
        refine shaped_of ?_ ?_
        · show (((pdPl a.1).canLay0 && (PySem.PyData.strOk a.2.1 && true)) && true) = true
          rw [lay_pl haw, isW_ok (hwa a ham)]
          rfl
        · show max (max (pdPl a.1).depth 0 + 1) 0 + 1 ≤ 64
          rw [depth_pl]
          decide
      refine ⟨_, _, dpt, .lst (SqL.of upd_same) .nil, shp, rfl, _, rfl, itF rfl ?_⟩
      have h3 := s3 _ _ h2
      have ht3 := s3 _ _ ht1
      refine ⟨_, rfl, D2, _, _, _, rfl, rfl, SqL.of h3, at0, tt, _, _, _, rfl, rfl, SqT.of ht3, at1, ?_⟩
      refine ⟨_, rfl, _, rfl, D2, _, _, _, rfl, rfl, SqL.of h3, at0, tt, _, _, _, rfl, rfl, SqT.of ht3, at2, _, _, rfl, rfl, ?_⟩
      have ew : ((wtR (r.take (i + 1)) : Nat) : Int) = (wtR (r.take i) : Int) + (a.2.2 : Int) := by
        rw [List.take_succ_eq_append_getElem hi, hai, wtR_app]
        show (((wtR (r.take i) + (a.2.2 + 0) : Nat)) : Int) = _
        omega
      refine ⟨a.2.1, some (.ref qb), some (.ref D2), o6, ?_, (s1.trans s2).trans s3, hrow2⟩
      rw [ew]
      rfl
  · rintro σ H1 ⟨f', o4, o5, o6, rfl, s1, hrow1⟩
    have hlen := hv.len
    rw [List.length_map] at hlen
    rw [hlen, List.drop_length] at hrow1
    rw [hlen, List.take_length]
    have efg : f' = g := by
      cases hrow1
      rfl
    refine ⟨_, rfl, _, rfl, sz (by show 2 ≤ 100000; decide), fun t ht => ?_⟩
    have s2 := same_new ht (.tup [.str f', .int (wtR r : Int)])
    exact q t _ (s1.trans s2) (by rw [upd_same, efg])
end
end KB

set_option pp.maxSteps 400
namespace KB
open PySem L2 HT LamX NdefX

theorem rP_asks {hd : Str → Option Nat} : ∀ {p : Pt} {xs js : List Str}, rP hd p xs js → ∀ x ∈ allP p, ∀ g ts j, x.2 = .ask g ts j → isW g = true
  | .give _ _, _, _, _, x, hx, g, ts, j, e => by
    rw [List.mem_singleton.mp hx] at e
    cases e
  | .ask f ts0 j0, _, _, h, x, hx, g, ts, j, e => by
    rw [List.mem_singleton.mp hx] at e
    cases e
    exact h.2.1
  | .tell _ _ p, _, _, h, x, hx, g, ts, j, e => by
    rcases List.mem_cons.mp hx with z | z
    · rw [z] at e; cases e
    · rw [List.append_nil] at z
      obtain ⟨y, hy, rfl⟩ := List.mem_map.mp z
      exact rP_asks (p := p) h.2.2 y hy g ts j e
  | .lett _ _ p, _, _, h, x, hx, g, ts, j, e => by
    rcases List.mem_cons.mp hx with z | z
    · rw [z] at e; cases e
    · rw [List.append_nil] at z
      obtain ⟨y, hy, rfl⟩ := List.mem_map.mp z
      exact rP_asks (p := p) h.2.2 y hy g ts j e
  | .iff _ p q, _, _, h, x, hx, g, ts, j, e => by
    rcases List.mem_cons.mp hx with z | z
    · rw [z] at e; cases e
    · rw [List.append_nil] at z
      rcases List.mem_append.mp z with z | z
      · obtain ⟨y, hy, rfl⟩ := List.mem_map.mp z
        exact rP_asks (p := p) h.2.1 y hy g ts j e
      · obtain ⟨y, hy, rfl⟩ := List.mem_map.mp z
        exact rP_asks (p := q) h.2.2 y hy g ts j e
  | .post _ _ p q, _, _, h, x, hx, g, ts, j, e => by
    rcases List.mem_cons.mp hx with z | z
    · rw [z] at e; cases e
    · rw [List.append_nil] at z
      rcases List.mem_append.mp z with z | z
      · obtain ⟨y, hy, rfl⟩ := List.mem_map.mp z
        exact rP_asks (p := p) h.2.2.1 y hy g ts j e
      · obtain ⟨y, hy, rfl⟩ := List.mem_map.mp z
        exact rP_asks (p := q) h.2.2.2 y hy g ts j e
theorem WB.as {hd : Str → Option Nat} {es : List TEr} (w : WB hd es) : ∀ a ∈ asksB es, isW a.2.1 = true := fun a ha => by
  obtain ⟨e, he, hae, _⟩ := asksB_er ha
  rw [asksE_same] at hae
  obtain ⟨x, hx, hh⟩ := List.mem_filterMap.mp hae
  obtain ⟨ks, p⟩ := x
  cases p with
  | ask g ts j =>
    have : some (((e.1, ks), g, if j = "home" then 0 else 1) : Ak) = some a := hh
    cases this
    exact rP_asks (w.rt e he).ok _ hx g ts j rfl
  | _ => cases hh
theorem WB.ws {hd : Str → Option Nat} {es : List TEr} (w : WB hd es) : ∀ e ∈ es, isW e.1 = true ∧ (asksE e).length ≤ 300 := fun e he => ⟨(w.rt e he).w, by
  have h3 : (asksE e).length ≤ pcnt e.2.2 := by
    rw [asksE_same, ← allP_len]
    exact List.length_filterMap_le _ _
  have := w.cn e he
  omega⟩
theorem LaL.ix {CR : Addr} {H H' : Hp} (s : Ix CR H H') {es : List TEr} {kvs : List (L2.Key × V)} (h : LaL H es kvs) : LaL H' es kvs := h.mono (fun _ _ z => s.l z) s.tk
section
variable {P : Program} {w : World} {K : PySem.W.Frag} {mg : Str → Option Value} {base : Heap} {CR : Addr}
end
end KB

namespace KB
open PySem L2 HT

/-! ### what can be come to, rings, and the most -/
def Rch (A : List Ak) (f g : Str) : Prop := ∃ r, Row A f r g
def RingA (A : List Ak) (f : Str) : Prop := ∃ a ∈ A, 0 < a.2.2 ∧ Rch A f a.1.1 ∧ Rch A a.2.1 a.1.1
def IsMax (A : List Ak) (f : Str) (m : Nat) : Prop := (∃ r g, Row A f r g ∧ wtR r = m) ∧ ∀ r g, Row A f r g → wtR r ≤ m
theorem IsMax.one {A : List Ak} {f : Str} {m n : Nat} (h : IsMax A f m) (k : IsMax A f n) : m = n := by
  obtain ⟨⟨r, g, h1, h2⟩, h3⟩ := h
  obtain ⟨⟨s, t, k1, k2⟩, k3⟩ := k
  have := k3 r g h1
  have := h3 s t k1
  omega
theorem Row.split {A : List Ak} : ∀ {p q : List Ak} {f g : Str}, Row A f (p ++ q) g → ∃ m, Row A f p m ∧ Row A m q g
  | [], q, f, g, h => ⟨f, .nil, h⟩
  | a :: p, q, f, g, h => by
    obtain ⟨e, m, k⟩ := Row.head h
    obtain ⟨x, h1, h2⟩ := Row.split k
    exact ⟨x, .cons' m e h1, h2⟩
theorem dup_src : ∀ r : List Ak, ¬ (r.map (·.1.1)).Nodup → ∃ p a q b s, r = p ++ a :: (q ++ b :: s) ∧ a.1.1 = b.1.1
  | [], h => absurd List.nodup_nil h
  | x :: r, h => by
    by_cases c : x.1.1 ∈ r.map (·.1.1)
    · obtain ⟨b, hb, e⟩ := List.mem_map.mp c
      obtain ⟨q, s, rfl⟩ := List.append_of_mem hb
      exact ⟨[], x, q, b, s, rfl, e.symm⟩
    · obtain ⟨p, a, q, b, s, e1, e2⟩ := dup_src r (fun z => h (by rw [List.map_cons]; exact List.nodup_cons.mpr ⟨c, z⟩))
      exact ⟨x :: p, a, q, b, s, by rw [e1]; rfl, e2⟩
theorem ring_zero {A : List Ak} {N : List Str} (c : Cl A N) (nr : NR A N) {x : Str} {r : List Ak} (h : Row A x r x) (hx : x ∈ N) : wtR r = 0 := by
  by_cases z : 0 < wtR r
  · obtain ⟨p, a, q, _, _, hw, ha, h1, h2⟩ := first_w h z
    exact absurd (h2.app h1) (nr a ha hw (h1.cl c hx).1 _)
  · omega
theorem row_short {A : List Ak} {N : List Str} (c : Cl A N) (nr : NR A N) : ∀ (n : Nat) {r : List Ak} {f g : Str}, r.length ≤ n → Row A f r g → f ∈ N → ∃ r', Row A f r' g ∧ wtR r' = wtR r ∧ r'.length ≤ N.length
  | 0, r, f, g, hl, h, hf => ⟨r, h, rfl, by omega⟩
  | n + 1, r, f, g, hl, h, hf => by
    by_cases z : r.length ≤ N.length
    · exact ⟨r, h, rfl, z⟩
    have nd : ¬ (r.map (·.1.1)).Nodup := fun nd => z (by
      have := nodup_le nd (ys := N) fun x hx => by
        obtain ⟨a, ha, e⟩ := List.mem_map.mp hx
        rw [← e]
        exact (h.cl c hf).2 a ha
      rwa [List.length_map] at this)
    obtain ⟨p, a, q, b, s, rfl, e⟩ := dup_src r nd
    obtain ⟨m1, h1, h2⟩ := Row.split h
    have h2' : Row A m1 ((a :: q) ++ (b :: s)) g := h2
    obtain ⟨m2, h3, h4⟩ := Row.split h2'
    have em1 := (Row.head h3).1
    have em2 := (Row.head h4).1
    have em : m1 = m2 := by rw [← em1, ← em2, e]
    subst em
    have hm := (h1.cl c hf).1
    have hz := ring_zero c nr h3 hm
    obtain ⟨r', k1, k2, k3⟩ := row_short c nr n (r := p ++ b :: s) (by
      simp only [List.length_append, List.length_cons] at hl ⊢
      omega) (h1.app h4) hf
    refine ⟨r', k1, ?_, k3⟩
    rw [k2, wtR_app, wtR_app, show a :: (q ++ b :: s) = (a :: q) ++ (b :: s) from rfl, wtR_app, hz]
    omega
/-! ### levels by rounds -/
structure Rnd (A : List Ak) (N : List Str) (k : Nat) (lv : Str → Nat) : Prop where
  re : Re A N lv
  ge : ∀ n ∈ N, ∀ r g, Row A n r g → r.length ≤ k → wtR r ≤ lv n
  dn : ∀ n ∈ N, lv n = 0 ∨ ∃ a ∈ A, a.1.1 = n ∧ lv n ≤ lv a.2.1 + a.2.2
theorem Rnd.zero (A : List Ak) (N : List Str) : Rnd A N 0 (fun _ => 0) := ⟨fun n _ => ⟨[], n, .nil, rfl⟩, fun n _ r g _ hl => by
  have : r = [] := List.length_eq_zero_iff.mp (by omega)
  rw [this]
  exact Nat.le_refl _, fun n _ => .inl rfl⟩
structure Mid (A : List Ak) (N : List Str) (k i : Nat) (lv : Str → Nat) : Prop extends Rnd A N k lv where
  gi : ∀ (j : Nat) n, j < i → N[j]? = some n → ∀ r g, Row A n r g → r.length ≤ k + 1 → wtR r ≤ lv n
theorem Rnd.mid {A : List Ak} {N : List Str} {k : Nat} {lv : Str → Nat} (h : Rnd A N k lv) : Mid A N k 0 lv := ⟨h, fun j n hj => absurd hj (Nat.not_lt_zero j)⟩
theorem Mid.fin {A : List Ak} {N : List Str} {k : Nat} {lv : Str → Nat} (h : Mid A N k N.length lv) : Rnd A N (k + 1) lv := ⟨h.re, fun n hn r g hr hl => by
  obtain ⟨j, hj, e⟩ := List.getElem_of_mem hn
  exact h.gi j n hj (by rw [List.getElem?_eq_getElem hj, e]) r g hr hl, h.dn⟩
theorem Mid.step {A : List Ak} {N : List Str} {k i : Nat} {lv : Str → Nat} (c : Cl A N) (h : Mid A N k i lv) {x : Str} (hx : N[i]? = some x) {v : Nat} (v1 : v = 0 ∨ ∃ a ∈ A, a.1.1 = x ∧ v = lv a.2.1 + a.2.2)
    (v2 : ∀ a ∈ A, a.1.1 = x → lv a.2.1 + a.2.2 ≤ v) : Mid A N k (i + 1) (setL lv x v) := by
  have hxN := mem_of_get hx
  have hlx : lv x ≤ v := by
    rcases h.dn x hxN with z | ⟨a, ha, e, z⟩
    · omega
    · have := v2 a ha e
      omega
  have mono : ∀ y, lv y ≤ setL lv x v y := fun y => by
    unfold setL
    split
    · rename_i e
      rw [e]
      exact hlx
    · exact Nat.le_refl _
  have hv : setL lv x v x = v := if_pos rfl
  have hxk : ∀ r g, Row A x r g → r.length ≤ k + 1 → wtR r ≤ setL lv x v x := fun r g hr hl => by
    rw [hv]
    cases r with
    | nil => exact Nat.zero_le _
    | cons a r =>
      obtain ⟨e, m, hr'⟩ := Row.head hr
      have := h.ge a.2.1 (c a m (by rw [e]; exact hxN)) r g hr' (by rw [List.length_cons] at hl; omega)
      have := v2 a m e
      rw [wtR_cons]
      omega
  refine ⟨⟨?_, fun n hn r g hr hl => ?_, fun n hn => ?_⟩, fun j n hj hjn r g hr hl => ?_⟩
  · rcases v1 with z | ⟨a, ha, e, z⟩
    · intro n hn
      by_cases en : n = x
      · exact ⟨[], n, .nil, by rw [en, hv, z]; rfl⟩
      · obtain ⟨r, g, h1, h2⟩ := h.re n hn
        exact ⟨r, g, h1, by rw [show setL lv x v n = lv n from if_neg en]; exact h2⟩
    · have := h.re.set c ha (by rw [e]; exact hxN)
      rw [e, ← z] at this
      exact this
  · exact Nat.le_trans (h.ge n hn r g hr hl) (mono n)
  · by_cases en : n = x
    · subst en
      rw [hv]
      rcases v1 with z | ⟨a, ha, e, z⟩
      · exact .inl z
      · refine .inr ⟨a, ha, e, ?_⟩
        have := mono a.2.1
        omega
    · rw [show setL lv x v n = lv n from if_neg en]
      rcases h.dn n hn with z | ⟨a, ha, e, z⟩
      · exact .inl z
      · refine .inr ⟨a, ha, e, ?_⟩
        have := mono a.2.1
        omega
  · by_cases c2 : j = i
    · rw [c2, hx] at hjn
      cases hjn
      exact hxk r g hr hl
    · exact Nat.le_trans (h.gi j n (by omega) hjn r g hr hl) (mono n)
theorem Rnd.max {A : List Ak} {N : List Str} {lv : Str → Nat} (h : Rnd A N N.length lv) (c : Cl A N) (nr : NR A N) {f : Str} (hf : f ∈ N) : IsMax A f (lv f) := by
  obtain ⟨r, g, h1, h2⟩ := h.re f hf
  refine ⟨⟨r, g, h1, h2⟩, fun r g hr => ?_⟩
  obtain ⟨r', k1, k2, k3⟩ := row_short c nr r.length (Nat.le_refl _) hr hf
  rw [← k2]
  exact h.ge f hf r' g k1 k3
theorem Rnd.le {A : List Ak} {N : List Str} {k : Nat} {lv : Str → Nat} (h : Rnd A N k lv) (c : Cl A N) (nr : NR A N) (w1 : ∀ a ∈ A, a.2.2 ≤ 1) : ∀ n ∈ N, lv n ≤ N.length := h.re.le c nr w1
/-! ### what is come to, by rounds -/
/-- at the start of a round -/
structure Cm (A : List Ak) (M : List Str) (f : Str) (k : Nat) (F : List Str) : Prop where
  nd : F.Nodup
  so : ∀ x ∈ F, Rch A f x
  st : f ∈ F
  inn : ∀ x ∈ F, x ∈ M
  ex : k + 1 ≤ F.length ∨ Cl A F
theorem Cm.start {A : List Ak} {M : List Str} {f : Str} (h : f ∈ M) : Cm A M f 0 [f] := ⟨by simp, fun x hx => by rw [List.mem_singleton.mp hx]; exact ⟨[], .nil⟩, List.mem_cons_self, fun x hx => by rw [List.mem_singleton.mp hx]; exact h, .inl (Nat.le_refl _)⟩
/-- within a round that began with S: targets of the first i of S, and of the first j asks of the next one -/
structure Cn (A : List Ak) (M : List Str) (f : Str) (S : List Str) (i : Nat) (F : List Str) : Prop where
  nd : F.Nodup
  so : ∀ x ∈ F, Rch A f x
  inn : ∀ x ∈ F, x ∈ M
  ex : ∃ E, F = S ++ E ∧ (Cl A S → E = [])
  tg : ∀ (j : Nat) n, j < i → S[j]? = some n → ∀ a ∈ A, a.1.1 = n → a.2.1 ∈ F
theorem Cm.in_ {A : List Ak} {M : List Str} {f : Str} {k : Nat} {F : List Str} (h : Cm A M f k F) : Cn A M f F 0 F := ⟨h.nd, h.so, h.inn, ⟨[], (List.append_nil _).symm, fun _ => rfl⟩, fun j n hj => absurd hj (Nat.not_lt_zero j)⟩
theorem Cn.out {A : List Ak} {M : List Str} {f : Str} {k : Nat} {S F : List Str} (s : Cm A M f k S) (h : Cn A M f S S.length F) : Cm A M f (k + 1) F := by
  obtain ⟨nd, so, inn, ⟨E, rfl, hE⟩, tg⟩ := h
  refine ⟨nd, so, List.mem_append_left _ s.st, inn, ?_⟩
  cases E with
  | nil =>
    refine .inr fun a ha hs => ?_
    rw [List.append_nil] at hs ⊢
    obtain ⟨j, hj, e⟩ := List.getElem_of_mem hs
    have := tg j a.1.1 hj (by rw [List.getElem?_eq_getElem hj, e]) a ha rfl
    rwa [List.append_nil] at this
  | cons x E =>
    rcases s.ex with z | z
    · left
      rw [List.length_append, List.length_cons]
      omega
    · exact absurd (hE z) (fun y => nomatch y)
/-- one ask -/
theorem Cn.ask {A : List Ak} {M : List Str} {f : Str} {S : List Str} {i : Nat} {F : List Str} (h : Cn A M f S i F) {a : Ak} (ha : a ∈ A) (hs : a.1.1 ∈ S) (hm : a.2.1 ∈ M) (hn : a.2.1 ∉ F) : Cn A M f S i (F ++ [a.2.1]) := by
  obtain ⟨nd, so, inn, ⟨E, rfl, hE⟩, tg⟩ := h
  refine ⟨List.nodup_append.mpr ⟨nd, by simp, fun x hx y hy e => hn (by rw [← List.mem_singleton.mp hy, ← e]; exact hx)⟩, fun x hx => ?_, fun x hx => ?_, ⟨E ++ [a.2.1], List.append_assoc _ _ _, fun c => ?_⟩, fun j n hj hjn b hb e => List.mem_append_left _ (tg j n hj hjn b hb e)⟩
  · rcases List.mem_append.mp hx with z | z
    · exact so x z
    · rw [List.mem_singleton.mp z]
      obtain ⟨r, hr⟩ := so a.1.1 (List.mem_append_left _ hs)
      exact ⟨r ++ [a], hr.snoc ha rfl⟩
  · rcases List.mem_append.mp hx with z | z
    · exact inn x z
    · rw [List.mem_singleton.mp z]; exact hm
  · exact absurd (List.mem_append_left E (c a ha hs)) hn
theorem Cn.next {A : List Ak} {M : List Str} {f : Str} {S : List Str} {i : Nat} {F : List Str} (h : Cn A M f S i F) {x : Str} (hx : S[i]? = some x) (ht : ∀ a ∈ A, a.1.1 = x → a.2.1 ∈ F) : Cn A M f S (i + 1) F :=
  ⟨h.nd, h.so, h.inn, h.ex, fun j n hj hjn a ha e => by
    by_cases c : j = i
    · rw [c, hx] at hjn
      cases hjn
      exact ht a ha e
    · exact h.tg j n (by omega) hjn a ha e⟩
theorem Cm.fin {A : List Ak} {M : List Str} {f : Str} {F : List Str} (h : Cm A M f M.length F) : ∀ x, x ∈ F ↔ Rch A f x := by
  have hc : Cl A F := by
    rcases h.ex with z | z
    · have := nodup_le h.nd h.inn
      omega
    · exact z
  exact fun x => ⟨h.so x, fun ⟨r, hr⟩ => (hr.cl hc h.st).1⟩
theorem cl_rch {A : List Ak} {f : Str} {N : List Str} (h : ∀ x, x ∈ N ↔ Rch A f x) : Cl A N := fun a ha hs => by
  obtain ⟨r, hr⟩ := (h _).mp hs
  exact (h _).mpr ⟨r ++ [a], hr.snoc ha rfl⟩
theorem nr_of {A : List Ak} {f : Str} {N : List Str} (h : ∀ x ∈ N, Rch A f x) (n : ¬ RingA A f) : NR A N := fun a ha hw hs r hr => n ⟨a, ha, hw, h _ hs, r, hr⟩
end KB

namespace KB
open PySem L2 HT

/-! ### places as Python's data -/
/-! ### rising lists of words -/
theorem rising_pw : ∀ (l : List Str) (p : Str), PyProof.Rows.risingS p l = true → (p :: l).Pairwise (fun a b => a.cps.toList ≤ b.cps.toList)
  | [], p, _ => List.pairwise_singleton ..
  | x :: r, p, h => by
    have h' : (!PySem.Spec.ltCps x.cps.toList p.cps.toList && PyProof.Rows.risingS x r) = true := h
    obtain ⟨h1, h2⟩ := Bool.and_eq_true_iff.mp h'
    have ih := rising_pw r x h2
    rw [PyProof.Rows.ltCps_eq] at h1
    have h3 : p.cps.toList ≤ x.cps.toList := by
      have : ¬ (x.cps.toList < p.cps.toList) := by simpa using h1
      exact List.not_lt.mp this
    refine List.pairwise_cons.mpr ⟨fun b hb => ?_, ih⟩
    rcases List.mem_cons.mp hb with z | z
    · rw [z]
      exact h3
    · exact List.le_trans h3 ((List.pairwise_cons.mp ih).1 b z)
theorem sorted_one {a b : List Str} (ha : PyProof.Rows.sortedS a = true) (hb : PyProof.Rows.sortedS b = true) (p : a.Perm b) : a = b := by
  have pw : ∀ l : List Str, PyProof.Rows.sortedS l = true → l.Pairwise (fun a b => a.cps.toList ≤ b.cps.toList) := fun l h => by
    cases l with
    | nil => exact List.Pairwise.nil
    | cons x r => exact rising_pw r x h
  refine List.Perm.eq_of_pairwise (fun x y _ _ h1 h2 => ?_) (pw a ha) (pw b hb) p
  have e : x.cps.toList = y.cps.toList := List.le_antisymm h1 h2
  cases x
  cases y
  congr
  exact Array.toList_inj.mp e
/-! ### marks and counts -/
end KB

namespace KB
open PySem L2 HT LamX NdefX

theorem eqV_str (x y : Str) : eqV (.str x) (.str y) = decide (V.str x = V.str y) := by
  unfold eqV
  first | rfl | (by_cases c : x = y <;> simp [c])
theorem inV_mem {x : Str} {xs : List Str} (h : x ∈ xs) : inV (.str x) (xs.map V.str) = true := by
  unfold inV
  rw [List.any_eq_true]
  exact ⟨_, List.mem_map.mpr ⟨x, h, rfl⟩, by rw [eqV_str]; exact decide_eq_true rfl⟩
theorem inV_not {x : Str} {xs : List Str} (h : x ∉ xs) : inV (.str x) (xs.map V.str) = false := by
  cases e : inV (.str x) (xs.map V.str) with
  | false => rfl
  | true =>
    exfalso
    unfold inV at e
    rw [List.any_eq_true] at e
    obtain ⟨v, hv, e2⟩ := e
    obtain ⟨y, hy, rfl⟩ := List.mem_map.mp hv
    rw [eqV_str] at e2
    have e3 := V.str.inj (of_decide_eq_true e2)
    exact h (e3 ▸ hy)
section
variable {P : Program} {w : World} {K : PySem.W.Frag} {mg : Str → Option Value} {base : Heap}
/-! ### _law_is_word -/
/-! ### _law_whole -/
/-! ### _law_good_term -/
end
end KB

set_option pp.maxSteps 400
namespace KB
open PySem L2 HT LamX NdefX

/-! ### a statement that reads a dict, which may be locked already -/
def tLockR (t : TS) : TS := fun D σ H => ∃ d u, Rd H d u ∧ Mut (some u) ∧ ∀ od H1, H1 d = some (.frz od u) → (∀ b, b ≠ d → H1 b = H b) →
  t ⟨fun σ' H' => H' d = some (.frz od u) ∧ ∀ H2, (∀ b, b ≠ d → H2 b = H' b) → H2 d = H d → D.nx σ' H2, fun v H' => H' d = some (.frz od u) ∧ ∀ H2, (∀ b, b ≠ d → H2 b = H' b) → H2 d = H d → D.rt v H2,
    fun σ' H' => H' d = some (.frz od u) ∧ ∀ H2, (∀ b, b ≠ d → H2 b = H' b) → H2 d = H d → D.bk σ' H2, fun σ' H' => H' d = some (.frz od u) ∧ ∀ H2, (∀ b, b ≠ d → H2 b = H' b) → H2 d = H d → D.ct σ' H2⟩ σ H1
section
variable {X : Cx}
theorem ps_lockR {st : Stmt} {t : TS} (h : PS X st t) : PS X st (tLockR t) := by
  refine ⟨fun pins s σ H D I hw => ?_⟩
  obtain ⟨d, u, hd | ⟨od, hd⟩, mu, hw⟩ := hw
  · obtain ⟨od, I1⟩ := I.lock hd mu
    refine thn (h.run pins s σ _ _ I1 (hw od _ upd_same fun b n => upd_ne n)) fun f s1 q => ?_
    cases f with
    | next => obtain ⟨σ', H', I2, e, q⟩ := q; exact ⟨σ', _, I2.unlock e (I.nofrz hd mu), q _ (fun b n => upd_ne n) (by rw [upd_same, hd])⟩
    | brk => obtain ⟨σ', H', I2, e, q⟩ := q; exact ⟨σ', _, I2.unlock e (I.nofrz hd mu), q _ (fun b n => upd_ne n) (by rw [upd_same, hd])⟩
    | cont => obtain ⟨σ', H', I2, e, q⟩ := q; exact ⟨σ', _, I2.unlock e (I.nofrz hd mu), q _ (fun b n => upd_ne n) (by rw [upd_same, hd])⟩
    | ret v => obtain ⟨x, σ', H', I2, r, e, q⟩ := q; exact ⟨x, σ', _, I2.unlock e (I.nofrz hd mu), r, q _ (fun b n => upd_ne n) (by rw [upd_same, hd])⟩
  · refine thn (h.run pins s σ _ _ I (hw od H hd fun b n => rfl)) fun f s1 q => ?_
    cases f with
    | next => obtain ⟨σ', H', I2, e, q⟩ := q; exact ⟨σ', H', I2, q _ (fun b n => rfl) (by rw [e, hd])⟩
    | brk => obtain ⟨σ', H', I2, e, q⟩ := q; exact ⟨σ', H', I2, q _ (fun b n => rfl) (by rw [e, hd])⟩
    | cont => obtain ⟨σ', H', I2, e, q⟩ := q; exact ⟨σ', H', I2, q _ (fun b n => rfl) (by rw [e, hd])⟩
    | ret v => obtain ⟨x, σ', H', I2, r, e, q⟩ := q; exact ⟨x, σ', H', I2, r, q _ (fun b n => rfl) (by rw [e, hd])⟩
end
/-! ### all but one place stays -/
def Off (d : Addr) (H H' : Hp) : Prop := ∀ b o, b ≠ d → H b = some o → H' b = some o
theorem Off.refl (d : Addr) (H : Hp) : Off d H H := fun _ _ _ h => h
theorem Off.same {d : Addr} {H H1 H2 : Hp} (a : Off d H H1) (s : Same H1 H2) : Off d H H2 := fun b o n h => s _ _ (a b o n h)
theorem Off.lst {d : Addr} {kvs : List (L2.Key × V)} {H H' : Hp} (r : Rd H d (.dK kvs)) (a : Off d H H') {l : Addr} {vs : List V} (h : H l = some (.lst vs)) : H' l = some (.lst vs) := a _ _ (fun z => by
  rcases r with r | ⟨o, r⟩ <;> · rw [z, r] at h; cases h) h
theorem Off.tk {d : Addr} {kvs : List (L2.Key × V)} {H H' : Hp} (r : Rd H d (.dK kvs)) (a : Off d H H') : TK H H' := fun l xs h => a _ _ (fun z => by
  rcases r with r | ⟨o, r⟩ <;> · rw [z, r] at h; cases h) h
theorem Off.back {d : Addr} {H H' H2 : Hp} (a : Off d H H') (f : ∀ b, b ≠ d → H2 b = H' b) (e : H2 d = H d) : Same H H2 := fun b o h => by
  by_cases c : b = d
  · rw [c] at h ⊢
    rw [e]
    exact h
  · rw [f b c]
    exact a b o c h
theorem Off.of {d : Addr} {H H1 : Hp} (f : ∀ b, b ≠ d → H1 b = H b) : Off d H H1 := fun b o n h => by rw [f b n]; exact h
theorem Off.mut {d l : Addr} {H H' : Hp} {u : HO} (a : Off d H H') (h : H l = none) : Off d H (upd H' l u) := fun b o n e => by
  rw [upd_ne (fun z => by rw [z, h] at e; cases e)]
  exact a b o n e
theorem Off.none {d l : Addr} {H H' : Hp} (a : Off d H H') (n : l ≠ d) (h : H' l = none) : H l = none := by
  cases e : H l with
  | none => rfl
  | some o => rw [a _ _ n e] at h; cases h
theorem rd_some {H : Hp} {d : Addr} {u : HO} (r : Rd H d u) : ∃ o, H d = some o := by
  rcases r with r | ⟨o, r⟩
  · exact ⟨_, r⟩
  · exact ⟨_, r⟩
theorem flat_strs (xs : List Str) : (xs.map V.str).all flatV = true := by
  rw [List.all_eq_true]
  intro v hv
  obtain ⟨x, _, rfl⟩ := List.mem_map.mp hv
  rfl
/-! ### the law's asks -/
structure LB (H : Hp) (D : Addr) (es : List TEr) (kvs : List (L2.Key × V)) : Prop where
  rd : Rd H D (.dK kvs)
  la : LaL H es kvs
  nd : (es.map (·.1)).Nodup
  l6 : es.length ≤ 6
  ws : ∀ e ∈ es, isW e.1 = true ∧ (asksE e).length ≤ 300
  as : ∀ a ∈ asksB es, isW a.2.1 = true
  tg : ∀ a ∈ asksB es, a.2.1 ∈ es.map (·.1)
theorem LB.same {H H' : Hp} {D : Addr} {es : List TEr} {kvs : List (L2.Key × V)} (h : LB H D es kvs) (s : Same H H') : LB H' D es kvs :=
  ⟨rd_same s h.rd, h.la.mono (fun _ _ z => s _ _ z) (tk_same s), h.nd, h.l6, h.ws, h.as, h.tg⟩
theorem LB.frz {H H' : Hp} {D : Addr} {es : List TEr} {kvs : List (L2.Key × V)} {od : Obj} (h : LB H D es kvs) (a : Off D H H') (e : H' D = some (.frz od (.dK kvs))) : LB H' D es kvs :=
  ⟨.inr ⟨od, e⟩, h.la.mono (fun _ _ z => a.lst h.rd z) (a.tk h.rd), h.nd, h.l6, h.ws, h.as, h.tg⟩
theorem asks_of {es : List TEr} (nd : (es.map (·.1)).Nodup) {e : TEr} (he : e ∈ es) {a : Ak} (ha : a ∈ asksB es) (h : a.1.1 = e.1) : a ∈ asksE e := by
  obtain ⟨e2, he2, h2, h3⟩ := asksB_er ha
  have : e2 = e := by
    obtain ⟨i, hi, ei⟩ := List.getElem_of_mem he
    obtain ⟨j, hj, ej⟩ := List.getElem_of_mem he2
    by_cases c : i = j
    · subst c
      rw [← ei, ← ej]
    · exfalso
      have hn : (es.map (·.1))[i]'(by rw [List.length_map]; exact hi) = (es.map (·.1))[j]'(by rw [List.length_map]; exact hj) := by
        rw [List.getElem_map, List.getElem_map, ei, ej, h3, h]
      exact c ((List.getElem_inj nd).mp hn)
  rw [← this]
  exact h2
theorem asks_in {es : List TEr} {e : TEr} (he : e ∈ es) {a : Ak} (ha : a ∈ asksE e) : a ∈ asksB es := List.mem_flatten.mpr ⟨_, List.mem_map.mpr ⟨e, he, rfl⟩, ha⟩
theorem LB.at {H : Hp} {D : Addr} {es : List TEr} {kvs : List (L2.Key × V)} (h : LB H D es kvs) {n : Str} (hn : n ∈ es.map (·.1)) : ∃ (e : TEr) (l : Addr) (vl : List V), e ∈ es ∧ e.1 = n ∧ valV kvs (.inr n) = some (.ref l) ∧ H l = some (.lst vl) ∧ All2 (AtV H) (asksE e) vl := by
  obtain ⟨e, he, rfl⟩ := List.mem_map.mp hn
  obtain ⟨kv, hval, hk1, l, vl, hkv2, hl, hla⟩ := h.la.there h.nd he
  exact ⟨e, l, vl, he, rfl, by rw [← hkv2]; exact hval, hl, hla⟩
theorem DGet.at {H : Hp} {D : Addr} {kvs : List (L2.Key × V)} {n : Str} {v : V} (r : Rd H D (.dK kvs)) (h : valV kvs (.inr n) = some v) : DGet H D (.str n) (some v) := by
  rw [← h]
  exact DGet.rk (k := .inr n) r
section
variable {P : Program} {w : World} {K : PySem.W.Frag} {mg : Str → Option Value} {base : Heap}
/-! ### _law_come_to -/
def spCome : Sp := fun vs H Q _ => ∃ (D : Addr) (es : List TEr) (kvs : List (L2.Key × V)) (f : Str), vs = [.ref D, .str f] ∧ LB H D es kvs ∧ f ∈ es.map (·.1) ∧
  ∀ L H' N, H L = none → Same H H' → H' L = some (.lst (N.map V.str)) → N.Nodup → PyProof.Rows.sortedS N = true → (∀ x, x ∈ N ↔ Rch (asksB es) f x) → N.length ≤ 6 → Q (.ref L) H'
abbrev s_law_come_to : Stmt := top 50
theorem scLcome_to : FnScope ["asks", "f", "found", "name", "one", "ask"] ["asks", "f"] (defScope s_law_come_to) := ⟨rfl, rfl, rfl, by decide +kernel, rfl, by decide +kernel, by decide +kernel⟩
theorem ok_come (T : Txt K mg) (mso : mg "sorted" = none) {f : Addr} {fd : FuncData} (F : Fun K "_law_come_to" "_law_come_to" s_law_come_to f fd) : FnOk P w K mg base CX0 1 f fd ["asks", "f"] spCome := by
  refine F.ok scLcome_to (fun vs H Q E h => ?_) (fun cdv A outer s H vs Q E hr h => ?_)
  · obtain ⟨D, es, kvs, nm, rfl, _⟩ := h
    rfl
  obtain ⟨D, es, kvs, nm, rfl, hB, hf, q⟩ := h
  refine ⟨_, (pss_cons (ps_set (i := 2) scLcome_to.nd rfl (Or.inl rfl) (pe_lst (pa_cons (pv 1) pa_nil)))
    (pss_cons (ps_lockR (ps_for PassesOwn.never rfl (pi_keys (pv 0)) (pg_name (i := 3) scLcome_to.nd rfl (Or.inl rfl)) (pss_one (ps_for PassesOwn.never rfl (pi_list (pe_callTy call_list_of (by rfl) T.m_list (by decide +kernel) (pa_cons (pv 2) pa_nil))) (pg_name (i := 4) scLcome_to.nd rfl (Or.inl rfl)) (pss_one (ps_for PassesOwn.never rfl (pi_list (pe_dget (hu_of hr) (pv 0) (pv 4) (fun _ _ => rfl))) (pg_name (i := 5) scLcome_to.nd rfl (Or.inl rfl)) (pss_one (ps_if (pt_cmpR op_notIn_seq (pe_ix ix_tup (pv 5) pe_int (fun _ _ => rfl)) (pv 2) rfl) (pss_one (ps_expr (pe_bm PySem.F.plainAttrs_list PySem.F.slot_list_append PySem.F.type_list_append mt_append (pv 2) (pa_cons (pe_ix ix_tup (pv 5) pe_int (fun _ _ => rfl)) pa_nil)))) pss_nil))))))))
    (pss_one (ps_ret (pe_callB cr_sortedS (by rfl) mso (by decide +kernel) (pa_cons (pv 2) pa_nil)))))), ?_⟩
  have hml : (es.map (·.1)).length = es.length := List.length_map ..
  refine ⟨_, rfl, sz (by show 1 ≤ 100000; decide), fun Lf hLf => ?_⟩
  have s0 := same_new hLf (.lst [.str nm])
  have hL0 : (upd H Lf (.lst [.str nm])) Lf = some (.lst [.str nm]) := upd_same
  obtain ⟨oD, hoD⟩ := rd_some hB.rd
  have nLD : Lf ≠ D := fun z => by rw [z, hoD] at hLf; cases hLf
  have hB0 := hB.same s0
  have e0 : (upd H Lf (.lst [.str nm])) D = H D := upd_ne nLD.symm
  generalize upd H Lf (.lst [.str nm]) = H0 at s0 hL0 hB0 e0
  refine ⟨D, .dK kvs, hB0.rd, trivial, fun od H1 h1 f1 => ?_⟩
  have o1 : Off D H H1 := fun b o n h => by rw [f1 b n]; exact s0 _ _ h
  have hL1 : H1 Lf = some (.lst ([nm].map V.str)) := by rw [f1 _ nLD]; exact hL0
  refine ⟨_, rfl, D, od, rfl, .inl ⟨kvs, h1, for_it walk_keys (fun i σ H' => ∃ (o3 o4 o5 : Option V) (G : List Str), σ = [some (.ref D), some (.str nm), some (.ref Lf), o3, o4, o5] ∧ Off D H H' ∧ H' D = some (.frz od (.dK kvs)) ∧ H' Lf = some (.lst (G.map V.str)) ∧ Cm (asksB es) (es.map (·.1)) nm i G) ?_ ?_ ?_ ?_⟩⟩
  · exact ⟨_, _, _, [nm], rfl, o1, h1, hL1, Cm.start hf⟩
  · rintro i σ H' _ ⟨o3, o4, o5, G, rfl, _, h, _⟩
    exact h
  · rintro i x σ H2 H3 hi ⟨o3, o4, o5, S, rfl, o2, d2, l2, cm⟩ ⟨rfl, k, v, hkv, rfl⟩
    refine ⟨_, rfl, Lf, S.map V.str, rfl, .inl (SqL.of l2), fun l hl => ?_⟩
    have nlD : l ≠ D := fun z => by rw [z, d2] at hl; cases hl
    have nll : l ≠ Lf := fun z => by rw [z, l2] at hl; cases hl
    have hlH : H l = none := o2.none nlD hl
    have s3 := same_new hl (.lst (S.map V.str))
    refine ⟨l, rfl, ⟨_, SqL.of upd_same⟩, for_list (K := K) (a := l) (xs := S.map V.str) (fun j σ H' => ∃ (o4 o5 : Option V) (G : List Str), σ = [some (.ref D), some (.str nm), some (.ref Lf), some (kV k), o4, o5] ∧ Off D H H' ∧ H' D = some (.frz od (.dK kvs)) ∧ H' Lf = some (.lst (G.map V.str)) ∧ H' l = some (.lst (S.map V.str)) ∧ Cn (asksB es) (es.map (·.1)) nm S j G) ⟨_, _, S, rfl, o2.same s3, s3 _ _ d2, s3 _ _ l2, upd_same, cm.in_⟩ ?_ ?_ ?_⟩
    · rintro j σ H' _ ⟨o4, o5, G, rfl, _, _, _, h, _⟩
      exact SqL.of h
    · rintro j x σ H4 hx ⟨o4, o5, G, rfl, o4', d4, l4, m4, cn⟩
      obtain ⟨n, hn, rfl⟩ := Option.map_eq_some_iff.mp (by rw [List.getElem?_map] at hx; exact hx)
      have hnS := mem_of_get hn
      obtain ⟨e, la, vl, he, hen, hg, hla, hal⟩ := hB.at (cm.inn n hnS)
      have hvl := hal.len
      refine ⟨_, rfl, _, rfl, D, .ref la, rfl, DGet.at (.inr ⟨od, d4⟩) hg, la, rfl, ⟨_, SqL.of (o4'.lst hB.rd hla)⟩, for_list (K := K) (a := la) (xs := vl) (fun m σ H' => ∃ (o5 : Option V) (G : List Str), σ = [some (.ref D), some (.str nm), some (.ref Lf), some (kV k), some (.str n), o5] ∧ Off D H H' ∧ H' D = some (.frz od (.dK kvs)) ∧ H' Lf = some (.lst (G.map V.str)) ∧ H' l = some (.lst (S.map V.str)) ∧ Cn (asksB es) (es.map (·.1)) nm S j G ∧ ∀ a ∈ (asksE e).take m, a.2.1 ∈ G) ⟨_, G, rfl, o4', d4, l4, m4, cn, fun a h => by rw [List.take_zero] at h; cases h⟩ ?_ ?_ ?_⟩
      · rintro m σ H' _ ⟨o5, G, rfl, o5', _⟩
        exact SqL.of (o5'.lst hB.rd hla)
      · rintro m x σ H5 hx5 ⟨o5, G5, rfl, o5', d5, l5, m5, cn5, hall⟩
        obtain ⟨a, ha, tb, qc, rfl, hb1, hb2⟩ := hal.get hx5
        have hb1' := o5'.tk hB.rd _ _ hb1
        have haE := mem_of_get ha
        have haA := asks_in he haE
        have han : a.1.1 = n := (asksE_nm haE).1.trans hen
        have hst : (asksE e).take (m + 1) = (asksE e).take m ++ [a] := by
          obtain ⟨hm, ham⟩ := List.getElem?_eq_some_iff.mp ha
          rw [List.take_succ_eq_append_getElem hm, ham]
        refine ⟨_, rfl, tb, _, _, _, rfl, rfl, SqT.of hb1', at1, _, rfl, Lf, G5.map V.str, rfl, .inl (SqL.of l5), rfl, flat_strs _, _, rfl, ?_⟩
        by_cases c : a.2.1 ∈ G5
        · refine itF (by show (!inV _ _) = false; rw [inV_mem c]; rfl) ⟨_, G5, rfl, o5', d5, l5, m5, cn5, fun b hb => ?_⟩
          rw [hst] at hb
          rcases List.mem_append.mp hb with z | z
          · exact hall b z
          · rw [List.mem_singleton.mp z]; exact c
        · refine itT (by show (!inV _ _) = true; rw [inV_not c]; rfl) ?_
          have hlen := nodup_le cn5.nd cn5.inn
          have hml' := hB.l6
          refine ⟨_, rfl, .inl ⟨rfl, _, SqL.of l5⟩, _, rfl, tb, _, _, _, rfl, rfl, SqT.of hb1', at1, Lf, _, _, rfl, rfl, l5, Nat.lt_of_le_of_lt (m := 6) (by rw [List.length_map]; omega) (by decide), ?_⟩
          refine ⟨_, G5 ++ [a.2.1], rfl, o5'.mut hLf, by rw [upd_ne nLD.symm]; exact d5, by rw [upd_same, List.map_append]; rfl, by rw [upd_ne nll]; exact m5, cn5.ask haA (by rw [han]; exact hnS) (hB.tg a haA) c, fun b hb => ?_⟩
          rw [hst] at hb
          rcases List.mem_append.mp hb with z | z
          · exact List.mem_append_left _ (hall b z)
          · rw [List.mem_singleton.mp z]; exact List.mem_append_right _ List.mem_cons_self
      · rintro σ H5 ⟨o5, G5, rfl, o5', d5, l5, m5, cn5, hall⟩
        rw [hvl, List.take_length] at hall
        exact ⟨_, _, G5, rfl, o5', d5, l5, m5, cn5.next hn fun a ha e1 => hall a (asks_of hB.nd he ha (e1.trans hen.symm))⟩
    · rintro σ H4 ⟨o4, o5, G, rfl, o4', d4, l4, m4, cn⟩
      rw [List.length_map] at cn
      exact ⟨_, _, _, G, rfl, o4', d4, l4, cn.out cm⟩
  · rintro σ H2 ⟨o3, o4, o5, G, rfl, o2, d2, l2, cm⟩
    rw [hB.la.len, ← hml] at cm
    have hlen := nodup_le cm.nd cm.inn
    have hl6 := hB.l6
    refine ⟨d2, fun H3 f3 e3 => ?_⟩
    have s3 : Same H H3 := o2.back f3 (e3.trans e0)
    have l3 : H3 Lf = some (.lst (G.map V.str)) := by rw [f3 _ nLD]; exact l2
    refine ⟨_, rfl, Lf, G, rfl, SqL.of l3, by omega, fun ys p hp hs hpn => ?_⟩
    have := hp.length_eq
    exact q p _ ys (none_back s3 hpn) (s3.trans (same_new hpn _)) upd_same (hp.nodup_iff.mpr cm.nd) hs (fun x => (hp.mem_iff).trans (cm.fin x)) (by omega)
end
end KB

namespace KB
open PySem L2 HT

/-! ### the law's own walks -/
section
variable {P : Program} {w : World} {K : PySem.W.Frag} {mg : Str → Option Value} {base : Heap}
/-! ### _law_kids -/
/-! ### _law_all -/
/-! ### _law_ends -/
/-! ### _law_is_idle -/
/-! ### _law_all_of -/
def EnS (H : Hp) (x : Str × List Int × Pt) (v : V) : Prop := EntV PAt H [.str x.1] x.2 v
def allOf (es : List TEr) : List (Str × List Int × Pt) := (es.map fun e => (allP e.2.2).map fun x => (e.1, x)).flatten
theorem allOf_take {es : List TEr} {i : Nat} {e : TEr} (h : es[i]? = some e) : allOf (es.take (i + 1)) = allOf (es.take i) ++ (allP e.2.2).map fun x => (e.1, x) := by
  obtain ⟨hi, he⟩ := List.getElem?_eq_some_iff.mp h
  unfold allOf
  rw [List.take_succ_eq_append_getElem hi, List.map_append, List.flatten_append, he]
  simp
theorem allOf_len {es : List TEr} (hc : ∀ e ∈ es, pcnt e.2.2 ≤ 31) : (allOf es).length ≤ 31 * es.length := by
  induction es with
  | nil => exact Nat.zero_le _
  | cons e r ih =>
    have h1 := ih fun x hx => hc x (List.mem_cons_of_mem _ hx)
    have h2 := hc e List.mem_cons_self
    have h3 : allOf (e :: r) = (allP e.2.2).map (fun x => (e.1, x)) ++ allOf r := rfl
    rw [h3, List.length_append, List.length_cons, List.length_map, allP_len]
    omega
def spLAllOf : Sp := fun vs H Q _ => ∃ (p : Addr) (es : List TEr) (us : List V), vs = [.ref p] ∧ TBkAt H es us p ∧ es.length ≤ 6 ∧ (∀ e ∈ es, pcnt e.2.2 ≤ 31) ∧
  ∀ r H' its, H r = none → Same H H' → H' r = some (.lst its) → All2 (EnS H') (allOf es) its → Q (.ref r) H'
abbrev s_law_all_of : Stmt := top 55
theorem scLall_of : FnScope ["turned", "found", "name", "names", "body"] ["turned"] (defScope s_law_all_of) := ⟨rfl, rfl, rfl, by decide +kernel, rfl, by decide +kernel, by decide +kernel⟩
theorem ok_lallof {f f1 : Addr} {fd d1 : FuncData} (F : Fun K "_law_all_of" "_law_all_of" s_law_all_of f fd) (G_law_all : FnOk P w K mg base CX0 91 f1 d1 ["part", "place"] (spLAll 90)) (R_law_all : Ref K mg "_law_all" f1 d1 ["part", "place"]) : FnOk P w K mg base CX0 92 f fd ["turned"] spLAllOf := by
  refine F.ok scLall_of (fun vs H Q E h => ?_) (fun cdv A outer s H vs Q E hr h => ?_)
  · obtain ⟨p, es, us, rfl, _⟩ := h
    rfl
  obtain ⟨p, es, us, rfl, hB, hl6, hc, q⟩ := h
  refine ⟨_, (pss_cons (ps_set (i := 1) scLall_of.nd rfl (Or.inl rfl) (pe_lst pa_nil))
    (pss_cons (ps_for PassesOwn.never rfl (pi_tup (pv 0)) (pg_tup rfl (pgs_cons (pg_name (i := 2) scLall_of.nd rfl (Or.inl rfl)) (pgs_cons (pg_name (i := 3) scLall_of.nd rfl (Or.inl rfl)) (pgs_cons (pg_name (i := 4) scLall_of.nd rfl (Or.inl rfl)) pgs_nil)))) (pss_one (ps_set (i := 1) scLall_of.nd rfl (Or.inl rfl) (pe_op op_cat (pv 1) (pe_call G_law_all (hr.mono (by omega)) rfl R_law_all.m R_law_all.k R_law_all.b .nil pass0 (pa_cons (pv 4) (pa_cons (pe_tup (pa_cons (pv 2) pa_nil)) pa_nil)))))))
    (pss_one (ps_ret (pv 1))))), ?_⟩
  refine ⟨sz (by show 0 ≤ 100000; decide), fun fl0 hfl0 => ?_⟩
  have s0 := same_new hfl0 (.lst [])
  refine ⟨_, rfl, p, rfl, ⟨_, SqT.of (s0 _ _ hB.1)⟩, for_tup (xs := us) (fun i σ H' => ∃ fl o1 o2 o3 its, σ = [some (.ref p), some (.ref fl), o1, o2, o3] ∧ H fl = none ∧ Same H H' ∧ H' fl = some (.lst its) ∧ All2 (EnS H') (allOf (es.take i)) its) ?_ ?_ ?_ ?_⟩
  · refine ⟨fl0, _, _, _, [], rfl, hfl0, s0, upd_same, ?_⟩
    rw [List.take_zero]
    exact trivial
  · rintro i σ H' _ ⟨fl, o1, o2, o3, its, rfl, _, s1, h1, k1⟩
    exact SqT.of (s1 _ _ hB.1)
  · rintro i x σ H1 hx ⟨fl, o1, o2, o3, its, rfl, hf0, s1, h1, k1⟩
    obtain ⟨e, he, qa, r, b, rfl, g1, g2, g3⟩ := hB.2.get hx
    have hee := mem_of_get he
    have he2 := hc e hee
    refine ⟨qa, _, rfl, SqT.of (s1 _ _ g1), rfl, _, _, rfl, _, _, rfl, _, _, rfl, rfl, ?_⟩
    refine ⟨_, rfl, _, rfl, _, rfl, sz (by show 1 ≤ 100000; decide), fun t1 ht1 => ?_⟩
    have s2 := same_new ht1 (.tup [.str e.1])
    refine ⟨b, t1, e.2.2, [.str e.1], rfl, (g3.tk (tk_same s1)).tk (tk_same s2), Nat.le_trans he2 (by decide), by omega, upd_same, by show 1 + 89 ≤ 2000; omega, fun r2 H3 ps hr2 s3 h3 k3 => ?_⟩
    have s23 := s2.trans s3
    have e1 := k1.len
    have e2 := k3.len
    have e3 := allOf_len (es := es.take i) fun x hx => hc x (List.mem_of_mem_take hx)
    have e4 : (es.take i).length ≤ es.length := by
      rw [List.length_take]
      omega
    rw [allP_len] at e2
    refine ⟨fl, r2, _, _, rfl, rfl, s23 _ _ h1, h3, sz (by omega), fun p5 hp5 => ?_⟩
    have s5 := same_new hp5 (.lst (its ++ ps))
    refine ⟨p5, _, _, _, its ++ ps, rfl, (s1.trans s23).free hp5, s1.trans (s23.trans s5), upd_same, ?_⟩
    rw [allOf_take he]
    exact (k1.imp fun _ _ z => EntV.tkP (tk_same (s23.trans s5)) z).app (All2.map (f := fun (x : List Int × Pt) => (e.1, x)) (k3.imp fun _ _ z => EntV.tkP (tk_same s5) z))
  · rintro σ H1 ⟨fl, o1, o2, o3, its, rfl, hf0, s1, h1, k1⟩
    refine ⟨_, rfl, ?_⟩
    rw [hB.2.len, List.take_length] at k1
    exact q _ _ _ hf0 s1 h1 k1
end
end KB

namespace KB
open PySem L2 HT

/-- hand-ons' words -/
def Hds (H : Hp) (a : Addr) (hs : List Str) : Prop := H a = some (.lst (hs.map V.str)) ∧ ∀ j ∈ hs, PySem.PyData.strOk j = true
theorem Hds.mono {H H' : Hp} (e : Same H H') {a : Addr} {hs : List Str} (h : Hds H a hs) : Hds H' a hs := ⟨e _ _ h.1, h.2⟩
section
variable {P : Program} {w : World} {K : PySem.W.Frag} {mg : Str → Option Value} {base : Heap}
/-! ### _law_around -/
end
end KB

namespace KB
open PySem L2 HT

/-! ### names that are around -/
def inT (xs : List Str) : Tm → Prop
  | .mk h _ k => (match h with | .nam x => x ∈ xs | _ => True) ∧ ∀ i, inT xs (k i)
theorem inT.mono {xs ys : List Str} (m : ∀ x ∈ xs, x ∈ ys) : ∀ {t : Tm}, inT xs t → inT ys t := by
  intro t
  induction t with
  | mk h n k ih =>
    rintro ⟨a, b⟩
    refine ⟨?_, fun i => ih i (b i)⟩
    cases h with
    | nam x => exact m x a
    | _ => trivial
theorem simple_mk' {h : Hd} {n : Nat} {k : Fin n → Tm} (e : simple (.mk h n k) = true) : flatHd h = true ∧ ∀ i, simple (k i) = true := by
  have hs' : (flatHd h && (List.ofFn fun i => simple (k i)).all id) = true := e
  rw [Bool.and_eq_true, List.all_eq_true] at hs'
  exact ⟨hs'.1, fun i => hs'.2 _ (List.mem_ofFn.mpr ⟨i, rfl⟩)⟩
theorem okS_inT {hd : Str → Option Nat} {xs : List Str} : ∀ {t : Tm}, simple t = true → okS hd t xs → inT xs t := by
  intro t
  induction t with
  | mk h n k ih =>
    intro hs ho
    obtain ⟨f1, f2⟩ := simple_mk' hs
    obtain ⟨o1, o2⟩ := ho
    refine ⟨?_, fun i => ih i (f2 i) ?_⟩
    · cases h with
      | nam x => exact o1
      | _ => trivial
    · have := o2 i
      cases h with
      | lett x => cases f1
      | _ => exact this
structure gT (xs : List Str) (t : Tm) : Prop where
  s : STm t
  i : inT xs t
theorem gT.mono {xs ys : List Str} (m : ∀ x ∈ xs, x ∈ ys) {t : Tm} (h : gT xs t) : gT ys t := ⟨h.s, h.i.mono m⟩
/-- words and hand-ons that are around -/
def scP : Pt → List Str → List Str → Prop
  | .give j t, xs, js => j ∈ js ∧ gT xs t
  | .ask f ts j, xs, js => j ∈ js ∧ isW f = true ∧ ts.length ≤ 4 ∧ ∀ t ∈ ts, gT xs t
  | .tell x t p, xs, js => gT xs t ∧ scP p (xs ++ [x]) js
  | .lett x t p, xs, js => gT xs t ∧ scP p (xs ++ [x]) js
  | .iff t p q, xs, js => gT xs t ∧ scP p xs js ∧ scP q xs js
  | .post j x p q, xs, js => scP p (xs ++ [x]) js ∧ scP q xs (js ++ [j])
theorem app_mono {xs ys : List Str} {x : Str} (m : ∀ z ∈ xs, z ∈ ys) : ∀ z ∈ xs ++ [x], z ∈ ys ++ [x] := fun z hz => by
  rcases List.mem_append.mp hz with q | q
  · exact List.mem_append_left _ (m z q)
  · exact List.mem_append_right _ q
theorem scP.mono : ∀ {p : Pt} {xs ys js ks : List Str}, (∀ x ∈ xs, x ∈ ys) → (∀ j ∈ js, j ∈ ks) → scP p xs js → scP p ys ks
  | .give j t, _, _, _, _, m, n, h => ⟨n _ h.1, h.2.mono m⟩
  | .ask f ts j, _, _, _, _, m, n, h => ⟨n _ h.1, h.2.1, h.2.2.1, fun t ht => (h.2.2.2 t ht).mono m⟩
  | .tell x t p, _, _, _, _, m, n, h => ⟨h.1.mono m, scP.mono (app_mono m) n h.2⟩
  | .lett x t p, _, _, _, _, m, n, h => ⟨h.1.mono m, scP.mono (app_mono m) n h.2⟩
  | .iff t p q, _, _, _, _, m, n, h => ⟨h.1.mono m, scP.mono m n h.2.1, scP.mono m n h.2.2⟩
  | .post j x p q, _, _, _, _, m, n, h => ⟨scP.mono (app_mono m) n h.1, scP.mono m (app_mono n) h.2⟩
theorem SmT.g {hd : Str → Option Nat} {xs : List Str} {t : Tm} (h : SmT hd xs t) : gT xs t := ⟨h.st, okS_inT h.si h.sc⟩
/-! ### how heavy -/
section
variable {P : Program} {w : World} {K : PySem.W.Frag} {mg : Str → Option Value} {base : Heap}
/-! ### _law_terms -/
def spTerms : Sp := fun vs H Q _ => ∃ (a : Addr) (p : Pt), vs = [.ref a] ∧ PAt H p a ∧ ∀ H' q vs, Same H H' → H' q = some (.tup vs) → All2 (RefV H') (termsP p) vs → Q (.ref q) H'
abbrev s_law_terms : Stmt := top 56
theorem scLterms : FnScope ["part"] ["part"] (defScope s_law_terms) := ⟨rfl, rfl, rfl, by decide +kernel, rfl, by decide +kernel, by decide +kernel⟩
theorem ok_lterms (T : Txt K mg) {f : Addr} {fd : FuncData} (F : Fun K "_law_terms" "_law_terms" s_law_terms f fd) : FnOk P w K mg base CX0 1 f fd ["part"] spTerms := by
  refine F.ok scLterms (fun vs H Q E h => ?_) (fun cdv A outer s H vs Q E hr h => ?_)
  · obtain ⟨a, p, rfl, _⟩ := h
    rfl
  obtain ⟨a, p, rfl, hA, q⟩ := h
  refine ⟨_, (pss_cons (ps_if (pt_cmpR op_eq (pe_ix ix_tup (pv 0) pe_int (fun _ _ => rfl)) pe_str (nomark _)) (pss_one (ps_ret (pe_ix ix_tup (pv 0) pe_int (fun _ _ => rfl)))) pss_nil)
    (pss_cons (ps_if (pt_cmpR op_eq (pe_ix ix_tup (pv 0) pe_int (fun _ _ => rfl)) pe_str (nomark _)) (pss_one (ps_ret (pe_tup pa_nil))) pss_nil)
    (pss_one (ps_ret (pe_tup (pa_cons (pe_ix ix_tup (pv 0) (pe_ix ix_list (pe_lst (pa_cons pe_int (pa_cons pe_int pa_nil))) (pe_callTy call_int1 (by rfl) T.m_int (by decide +kernel) (pa_cons (pe_cmpR op_eq (pe_ix ix_tup (pv 0) pe_int (fun _ _ => rfl)) pe_str (nomark _)) pa_nil)) (fun _ _ => rfl)) (fun _ _ => rfl)) pa_nil)))))), ?_⟩
  have at2' : ∀ {x y z : V} {r : List V}, atI (x :: y :: z :: r) 2 = some z := at2
  cases p with
  | ask g ts j =>
    obtain ⟨b, vs, h1, h2, h3⟩ := hA
    exact ⟨_, rfl, a, _, _, _, rfl, rfl, SqT.of h1, at0, rfl, _, rfl, itT rfl ⟨_, rfl, a, _, _, _, rfl, rfl, SqT.of h1, at2, q _ b vs (Same.refl _) h2 h3⟩⟩
  | post j x p p2 =>
    obtain ⟨c, d, h1, h2, h3⟩ := hA
    exact ⟨_, rfl, a, _, _, _, rfl, rfl, SqT.of h1, at0, rfl, _, rfl, itF rfl ⟨_, rfl, a, _, _, _, rfl, rfl, SqT.of h1, at0, rfl, _, rfl, itT rfl ⟨sz (by show 0 ≤ 100000; decide), fun r hr => q _ r [] (same_new hr _) upd_same trivial⟩⟩⟩
  | give j t =>
    obtain ⟨b, h1, h2⟩ := hA
    refine ⟨_, rfl, a, _, _, _, rfl, rfl, SqT.of h1, at0, rfl, _, rfl, itF rfl ⟨_, rfl, a, _, _, _, rfl, rfl, SqT.of h1, at0, rfl, _, rfl, itF rfl ⟨_, rfl, sz (by show 2 ≤ 100000; decide), fun r hr1 => ?_⟩⟩⟩
    have s1 := same_new hr1 (.lst [V.int 2, .int 1])
    refine ⟨_, rfl, a, _, _, _, rfl, rfl, SqT.of (s1 _ _ h1), at0, rfl, .inr ⟨_, rfl, r, _, _, _, rfl, rfl, SqL.of upd_same, at0, a, _, _, _, rfl, rfl, SqT.of (s1 _ _ h1), at2, sz (by show 1 ≤ 100000; decide), fun r2 hr2 => ?_⟩⟩
    have s2 := s1.trans (same_new hr2 (.tup [.ref b]))
    exact q _ r2 _ s2 upd_same ⟨⟨b, rfl, h2.mono s2⟩, trivial⟩
  | tell x t p =>
    obtain ⟨b, c, h1, h2, h3⟩ := hA
    refine ⟨_, rfl, a, _, _, _, rfl, rfl, SqT.of h1, at0, rfl, _, rfl, itF rfl ⟨_, rfl, a, _, _, _, rfl, rfl, SqT.of h1, at0, rfl, _, rfl, itF rfl ⟨_, rfl, sz (by show 2 ≤ 100000; decide), fun r hr1 => ?_⟩⟩⟩
    have s1 := same_new hr1 (.lst [V.int 2, .int 1])
    refine ⟨_, rfl, a, _, _, _, rfl, rfl, SqT.of (s1 _ _ h1), at0, rfl, .inr ⟨_, rfl, r, _, _, _, rfl, rfl, SqL.of upd_same, at0, a, _, _, _, rfl, rfl, SqT.of (s1 _ _ h1), at2, sz (by show 1 ≤ 100000; decide), fun r2 hr2 => ?_⟩⟩
    have s2 := s1.trans (same_new hr2 (.tup [.ref b]))
    exact q _ r2 _ s2 upd_same ⟨⟨b, rfl, h2.mono s2⟩, trivial⟩
  | lett x t p =>
    obtain ⟨b, c, h1, h2, h3⟩ := hA
    refine ⟨_, rfl, a, _, _, _, rfl, rfl, SqT.of h1, at0, rfl, _, rfl, itF rfl ⟨_, rfl, a, _, _, _, rfl, rfl, SqT.of h1, at0, rfl, _, rfl, itF rfl ⟨_, rfl, sz (by show 2 ≤ 100000; decide), fun r hr1 => ?_⟩⟩⟩
    have s1 := same_new hr1 (.lst [V.int 2, .int 1])
    refine ⟨_, rfl, a, _, _, _, rfl, rfl, SqT.of (s1 _ _ h1), at0, rfl, .inr ⟨_, rfl, r, _, _, _, rfl, rfl, SqL.of upd_same, at0, a, _, _, _, rfl, rfl, SqT.of (s1 _ _ h1), at2, sz (by show 1 ≤ 100000; decide), fun r2 hr2 => ?_⟩⟩
    have s2 := s1.trans (same_new hr2 (.tup [.ref b]))
    exact q _ r2 _ s2 upd_same ⟨⟨b, rfl, h2.mono s2⟩, trivial⟩
  | iff t p p2 =>
    obtain ⟨b, c, d, h1, h2, h3, h4⟩ := hA
    refine ⟨_, rfl, a, _, _, _, rfl, rfl, SqT.of h1, at0, rfl, _, rfl, itF rfl ⟨_, rfl, a, _, _, _, rfl, rfl, SqT.of h1, at0, rfl, _, rfl, itF rfl ⟨_, rfl, sz (by show 2 ≤ 100000; decide), fun r hr1 => ?_⟩⟩⟩
    have s1 := same_new hr1 (.lst [V.int 2, .int 1])
    refine ⟨_, rfl, a, _, _, _, rfl, rfl, SqT.of (s1 _ _ h1), at0, rfl, .inr ⟨_, rfl, r, _, _, _, rfl, rfl, SqL.of upd_same, at1, a, _, _, _, rfl, rfl, SqT.of (s1 _ _ h1), at1, sz (by show 1 ≤ 100000; decide), fun r2 hr2 => ?_⟩⟩
    have s2 := s1.trans (same_new hr2 (.tup [.ref b]))
    exact q _ r2 _ s2 upd_same ⟨⟨b, rfl, h2.mono s2⟩, trivial⟩
/-! ### _law_size -/
end
end KB

set_option pp.maxSteps 400
namespace KB
open PySem L2 HT LamX NdefX

/-! ### rows of any places -/
def stepR (A : List Ak) (x : Str × Nat) (p : Pl) : Option (Str × Nat) := match A.find? (fun a => decide (a.1 = p)) with
  | some a => if p.1 = x.1 then some (a.2.1, x.2 + a.2.2) else none
  | none => none
def endR (A : List Ak) (f : Str) (ps : List Pl) : Option (Str × Nat) := ps.foldlM (stepR A) (f, 0)
theorem endR_take {A : List Ak} {f : Str} {ps : List Pl} {i : Nat} {p : Pl} (h : ps[i]? = some p) : endR A f (ps.take (i + 1)) = (endR A f (ps.take i)).bind fun x => stepR A x p := by
  obtain ⟨hi, e⟩ := List.getElem?_eq_some_iff.mp h
  unfold endR
  rw [List.take_succ_eq_append_getElem hi, e, List.foldlM_append]
  cases List.foldlM (stepR A) (f, 0) (List.take i ps) with
  | none => rfl
  | some x =>
    show List.foldlM (stepR A) x [p] = stepR A x p
    cases e3 : stepR A x p <;> simp [List.foldlM, e3]
theorem endR_none {A : List Ak} {f : Str} {ps : List Pl} {i : Nat} {p : Pl} {x : Str × Nat} (h : ps[i]? = some p) (h1 : endR A f (ps.take i) = some x) (h2 : stepR A x p = none) : endR A f ps = none := by
  obtain ⟨hi, e⟩ := List.getElem?_eq_some_iff.mp h
  have e2 : ps = ps.take i ++ p :: ps.drop (i + 1) := by
    rw [← e, ← List.drop_eq_getElem_cons hi, List.take_append_drop]
  have h1' : List.foldlM (stepR A) (f, 0) (ps.take i) = some x := h1
  unfold endR
  rw [e2, List.foldlM_append, h1']
  show (do let y ← stepR A x p; List.foldlM (stepR A) y (ps.drop (i + 1))) = none
  rw [h2]
  rfl
theorem find_ak {A : List Ak} (nd : (A.map (·.1)).Nodup) {a : Ak} (h : a ∈ A) : A.find? (fun x => decide (x.1 = a.1)) = some a := by
  induction A with
  | nil => cases h
  | cons x A ih =>
    rw [List.map_cons] at nd
    obtain ⟨n1, n2⟩ := List.nodup_cons.mp nd
    rcases List.mem_cons.mp h with z | z
    · rw [← z, List.find?_cons_of_pos (by exact decide_eq_true rfl)]
    · rw [List.find?_cons_of_neg]
      · exact ih n2 z
      · intro c
        have e : x.1 = a.1 := of_decide_eq_true c
        exact n1 (List.mem_map.mpr ⟨a, z, e.symm⟩)
theorem stepR_some {A : List Ak} (nd : (A.map (·.1)).Nodup) {a : Ak} (h : a ∈ A) {x : Str × Nat} (e : a.1.1 = x.1) : stepR A x a.1 = some (a.2.1, x.2 + a.2.2) := by
  unfold stepR
  rw [find_ak nd h]
  exact if_pos e
theorem stepR_inv {A : List Ak} {x y : Str × Nat} {p : Pl} (h : stepR A x p = some y) : ∃ a ∈ A, a.1 = p ∧ p.1 = x.1 ∧ y = (a.2.1, x.2 + a.2.2) := by
  unfold stepR at h
  cases e : A.find? (fun a => decide (a.1 = p)) with
  | none => rw [e] at h; cases h
  | some a =>
    rw [e] at h
    dsimp only at h
    by_cases c : p.1 = x.1
    · rw [if_pos c] at h
      cases h
      have e4 := List.find?_some e
      exact ⟨a, List.mem_of_find?_eq_some e, of_decide_eq_true e4, c, rfl⟩
    · rw [if_neg c] at h
      cases h
theorem row_filter {es : List TEr} (nd : (es.map (·.1)).Nodup) {e : TEr} (he : e ∈ es) (p : Pl) (wt : Nat) : (∃ a ∈ asksE e, a.1 = p ∧ (asksE e).filter (fun x => decide (x.1 = p)) = [a] ∧ stepR (asksB es) (e.1, wt) p = some (a.2.1, wt + a.2.2)) ∨ ((asksE e).filter (fun x => decide (x.1 = p)) = [] ∧ stepR (asksB es) (e.1, wt) p = none) := by
  by_cases c : ∃ a ∈ asksE e, a.1 = p
  · obtain ⟨a, ha, rfl⟩ := c
    exact .inl ⟨a, ha, rfl, filter_one (asksE_nd e) ha, stepR_some (asksB_nd nd) (asks_in he ha) (asksE_nm ha).1⟩
  · refine .inr ⟨List.filter_eq_nil_iff.mpr fun a ha z => c ⟨a, ha, of_decide_eq_true z⟩, ?_⟩
    cases e1 : stepR (asksB es) (e.1, wt) p with
    | none => rfl
    | some y =>
      obtain ⟨a, ha, h1, h2, _⟩ := stepR_inv e1
      exact absurd ⟨a, asks_of nd he ha (by rw [h1]; exact h2), h1⟩ c
theorem lay_plk {p : Pl} (h : PySem.PyData.strOk p.1 = true) : (pdPl p).canLay0 = true := by
  show (PySem.PyData.strOk p.1 && PySem.PyData.canLayAll0 (p.2.map PyData.int)) = true
  rw [h, lay_ints]
  rfl
theorem shaped_plk {p : Pl} (h : PySem.PyData.strOk p.1 = true) : SeqAt.shaped (pdPl p) = true := shaped_of (lay_plk h) (by rw [depth_pl]; decide)
section
variable {P : Program} {w : World} {K : PySem.W.Frag} {mg : Str → Option Value} {base : Heap}
/-! ### _law_row_end, any row -/
def spRowE : Sp := fun vs H Q _ => ∃ (D L : Addr) (es : List TEr) (kvs : List (L2.Key × V)) (f : Str) (ps : List Pl) (us : List V), vs = [.ref D, .str f, .ref L] ∧ LB H D es kvs ∧ f ∈ es.map (·.1) ∧ H L = some (.lst us) ∧ All2 (PlcV H) ps us ∧ (∀ p ∈ ps, PySem.PyData.strOk p.1 = true) ∧
  (∀ g wt, endR (asksB es) f ps = some (g, wt) → g ∈ es.map (·.1) → ∀ t H', Same H H' → H' t = some (.tup [.str g, .int (wt : Int)]) → Q (.ref t) H') ∧ (endR (asksB es) f ps = none → ∀ t H', Same H H' → H' t = some (.tup [.non, .int 0]) → Q (.ref t) H')
theorem ok_rowe {f : Addr} {fd : FuncData} (F : Fun K "_law_row_end" "_law_row_end" s_law_row_end f fd) : FnOk P w K mg base CX0 1 f fd ["asks", "f", "row"] spRowE := by
  refine F.ok scLrow_end (fun vs H Q E h => ?_) (fun cdv A outer s H vs Q E hr h => ?_)
  · obtain ⟨D, L, es, kvs, f, ps, us, rfl, _⟩ := h
    rfl
  obtain ⟨D, L, es, kvs, f, ps, us, rfl, hB, hf, hL, hv, hpo, q1, q2⟩ := h
  refine ⟨_, (pss_cons (ps_set (i := 3) scLrow_end.nd rfl (Or.inl rfl) pe_int)
    (pss_cons (ps_for PassesOwn.never rfl (pi_list (pv 2)) (pg_name (i := 4) scLrow_end.nd rfl (Or.inr rfl)) (pss_cons (ps_setLc (i := 5) (own := [("ask", 6)]) (g := gName 6) (tt := tTest (tOp (rEqD K) (tOp (rIxT K) (tVar 6) (tC (.int 0))) (tVar 4))) (te := tVar 6) (by rfl) scLrow_end.nd rfl rfl (sw_true rfl rfl rfl (by decide +kernel)) (pi_list (pe_dget (hu_of hr) (pv 0) (pv 1) (fun _ _ => rfl))) (blkOk_by (own := [("ask", 6)]) (N := ["asks", "f", "row", "weight", "place", "some", "ask"]) (sc := defScope s_law_row_end) (by decide +kernel)) (fun _ _ _ _ _ => (pg_name (i := 6) scLrow_end.nd rfl (Or.inl rfl))) (fun _ _ _ _ _ => (pts_one (pt_cmpR (op_eqD hr.units) (pe_ix ix_tup (pv 6) pe_int (fun _ _ => rfl)) (pv 4) (nomark _)))) (fun _ _ _ _ _ => (pv 6)))
    (pss_cons (ps_if (pt_cmpR (op_eqD hr.units) (pv 5) (pe_lst pa_nil) (nomark _)) (pss_one (ps_ret (pe_tup (pa_cons pe_non (pa_cons pe_int pa_nil))))) pss_nil)
    (pss_cons (ps_set (i := 1) scLrow_end.nd rfl (Or.inl rfl) (pe_ix ix_tup (pe_ix ix_list (pv 5) pe_int (fun _ _ => rfl)) pe_int (fun _ _ => rfl)))
    (pss_one (ps_set (i := 3) scLrow_end.nd rfl (Or.inl rfl) (pe_op op_add (pv 3) (pe_ix ix_tup (pe_ix ix_list (pv 5) pe_int (fun _ _ => rfl)) pe_int (fun _ _ => rfl)))))))))
    (pss_one (ps_ret (pe_tup (pa_cons (pv 1) (pa_cons (pv 3) pa_nil))))))), ?_⟩
  refine ⟨_, rfl, L, rfl, ⟨_, SqL.of hL⟩, for_list (K := K) (a := L) (xs := us) (fun i σ H' => ∃ (f' : Str) (wt : Nat) (o4 o5 o6 : Option V), σ = [some (.ref D), some (.str f'), some (.ref L), some (.int (wt : Int)), o4, o5, o6] ∧ Same H H' ∧ endR (asksB es) f (ps.take i) = some (f', wt) ∧ f' ∈ es.map (·.1)) ⟨f, 0, _, _, _, rfl, Same.refl _, rfl, hf⟩ ?_ ?_ ?_⟩
  · rintro i σ H' _ ⟨f', wt, o4, o5, o6, rfl, s1, _⟩
    exact SqL.of (s1 _ _ hL)
  · rintro i x σ H1 hx ⟨f', wt, o4, o5, o6, rfl, s1, hend, hf'⟩
    obtain ⟨p, hp, qb, rfl, hq⟩ := hv.get hx
    have hpo1 := hpo p (mem_of_get hp)
    have hB1 := hB.same s1
    obtain ⟨e, l, vl, he, hen, hval, hl, hla⟩ := hB1.at hf'
    obtain ⟨hwe, hle⟩ := hB.ws e he
    have hvll := hla.len
    refine ⟨_, rfl, _, rfl, D, .ref l, rfl, DGet.at hB1.rd hval, l, rfl, ⟨_, SqL.of hl⟩, fun D2 hD2 => lc_list (K := K) (a := l) (xs := vl) (fun j H' => ∃ vs2, Same H1 H' ∧ H' D2 = some (.lst vs2) ∧ All2 (AtV H') (((asksE e).take j).filter fun x => decide (x.1 = p)) vs2 ∧ vs2.length ≤ j) ⟨[], same_new hD2 _, upd_same, by rw [List.take_zero]; exact trivial, Nat.le_refl _⟩ ?_ ?_ ?_⟩
    · rintro j H' _ ⟨vs2, s2, _⟩
      exact SqL.of (s2 _ _ hl)
    · rintro j x H2 hx2 ⟨vs2, s2, h2, k2, l2⟩
      obtain ⟨b, hb, hbv⟩ := hla.get hx2
      obtain ⟨hj, hbj⟩ := List.getElem?_eq_some_iff.mp hb
      obtain ⟨tb, qc, rfl, hb1, hb2⟩ := hbv.tk (tk_same s2)
      have hbw : isW b.1.1 = true := by rw [(asksE_nm (mem_of_get hb)).1]; exact hwe
      refine ⟨rfl, ?_⟩
      refine ⟨_, rfl, tb, _, _, _, rfl, rfl, SqT.of hb1, at0, _, rfl, pdPl b.1, pdPl p, dp_pl hb2, dp_pl (s2 _ _ (s1 _ _ hq)), shaped_pl hbw, shaped_plk hpo1, _, rfl, ?_⟩
      rw [eqv_pl, List.take_succ_eq_append_getElem hj, hbj, List.filter_append]
      by_cases c : b.1 = p
      · refine itT (decide_eq_true c) ⟨_, rfl, vs2, h2, Nat.lt_of_le_of_lt (m := 300) (by omega) (by decide), vs2 ++ [.ref tb], same_mut s2 hD2, upd_same, ?_, by rw [List.length_append, List.length_singleton]; omega⟩
        rw [show [b].filter (fun x => decide (x.1 = p)) = [b] from List.filter_cons_of_pos (by exact decide_eq_true c)]
        exact (k2.imp fun _ _ z => z.tk (tk_put h2)).app ⟨⟨tb, qc, rfl, tk_put h2 _ _ hb1, tk_put h2 _ _ hb2⟩, trivial⟩
      · refine itF (decide_eq_false c) ⟨vs2, s2, h2, ?_, by omega⟩
        rw [show [b].filter (fun x => decide (x.1 = p)) = [] from List.filter_cons_of_neg (by show ¬ decide _ = true; rw [decide_eq_false c]; exact Bool.false_ne_true), List.append_nil]
        exact k2
    · rintro H2 ⟨vs2, s2, h2, k2, _⟩
      rw [hvll, List.take_length] at k2
      rcases row_filter hB.nd he p wt with ⟨a, ha, hap, hfil, hst⟩ | ⟨hfil, hst⟩
      · rw [hfil] at k2
        obtain ⟨v2, vr, rfl⟩ : ∃ v vr, vs2 = v :: vr := by
          cases vs2 with
          | nil => exact k2.elim
          | cons v vr => exact ⟨v, vr, rfl⟩
        obtain ⟨⟨tt, qd, rfl, ht1, ht2⟩, hvr⟩ := k2
        cases vr with
        | cons _ _ => exact hvr.elim
        | nil =>
        have haA := asks_in he ha
        have haw : isW a.1.1 = true := by rw [(asksE_nm ha).1]; exact hwe
        refine ⟨_, rfl, sz (by show 0 ≤ 100000; decide), fun p0 hp0 => ?_⟩
        have s3 := same_new hp0 (.lst [])
        have dpt : Dp K (upd H2 p0 (.lst [])) (.ref D2) (.list [.tuple [pdPl a.1, .str a.2.1, .int (a.2.2 : Int)]]) := .lst (SqL.of (s3 _ _ h2)) (.cons (.tup (SqT.of (s3 _ _ ht1)) (.cons (dp_pl (s3 _ _ ht2)) (.cons (.str _) (.cons (.int _) .nil)))) .nil)
        have shp : SeqAt.shaped (.list [.tuple [pdPl a.1, .str a.2.1, .int (a.2.2 : Int)]]) = true := by
          refine shaped_of ?_ ?_
          · show (((pdPl a.1).canLay0 && (PySem.PyData.strOk a.2.1 && true)) && true) = true
            rw [lay_pl haw, isW_ok (hB.as a haA)]
            rfl
          · show max (max (pdPl a.1).depth 0 + 1) 0 + 1 ≤ 64
            rw [depth_pl]
            decide
        refine ⟨_, _, dpt, .lst (SqL.of upd_same) .nil, shp, rfl, _, rfl, itF rfl ?_⟩
        have h3 := s3 _ _ h2
        have ht3 := s3 _ _ ht1
        refine ⟨_, rfl, D2, _, _, _, rfl, rfl, SqL.of h3, at0, tt, _, _, _, rfl, rfl, SqT.of ht3, at1, ?_⟩
        refine ⟨_, rfl, _, rfl, D2, _, _, _, rfl, rfl, SqL.of h3, at0, tt, _, _, _, rfl, rfl, SqT.of ht3, at2, _, _, rfl, rfl, ?_⟩
        have ew : ((wt + a.2.2 : Nat) : Int) = (wt : Int) + (a.2.2 : Int) := by omega
        refine ⟨a.2.1, wt + a.2.2, some (.ref qb), some (.ref D2), o6, by rw [ew]; rfl, (s1.trans s2).trans s3, ?_, hB.tg a haA⟩
        rw [endR_take hp, hend]
        show stepR (asksB es) (f', wt) p = _
        rw [← hen]
        exact hst
      · rw [hfil] at k2
        cases vs2 with
        | cons _ _ => exact k2.elim
        | nil =>
        refine ⟨_, rfl, sz (by show 0 ≤ 100000; decide), fun p0 hp0 => ?_⟩
        have s3 := same_new hp0 (.lst [])
        refine ⟨.list [], .list [], .lst (SqL.of (s3 _ _ h2)) .nil, .lst (SqL.of upd_same) .nil, rfl, rfl, _, rfl, itT rfl ?_⟩
        refine ⟨sz (by show 2 ≤ 100000; decide), fun t ht => ?_⟩
        refine q2 (endR_none hp hend (by rw [← hen]; exact hst)) t _ (((s1.trans s2).trans s3).trans (same_new ht _)) upd_same
  · rintro σ H1 ⟨f', wt, o4, o5, o6, rfl, s1, hend, hf'⟩
    have hlen := hv.len
    rw [hlen, List.take_length] at hend
    refine ⟨_, rfl, _, rfl, sz (by show 2 ≤ 100000; decide), fun t ht => ?_⟩
    exact q1 f' wt hend hf' t _ (s1.trans (same_new ht _)) upd_same
end
end KB

set_option pp.maxSteps 400
namespace KB
open PySem L2 HT LamX NdefX

theorem AkL.no {H : Hp} {as : List Ak} {kvs : List (List L2.Key × V)} (h : AkL H as kvs) {p : Pl} (n : ∀ a ∈ as, a.1 ≠ p) : valV kvs (keyA p) = none := valV_no (by
  rw [h.keys]
  intro z
  obtain ⟨a, ha, e⟩ := List.mem_map.mp z
  exact n a ha (keyA_inj e))
theorem stepR_no {A : List Ak} {x : Str × Nat} {p : Pl} (n : ∀ a ∈ A, a.1 ≠ p) : stepR A x p = none := by
  cases e : stepR A x p with
  | none => rfl
  | some y =>
    obtain ⟨a, ha, h1, _⟩ := stepR_inv e
    exact absurd h1 (n a ha)
theorem stepR_else {A : List Ak} {x : Str × Nat} {p : Pl} (n : p.1 ≠ x.1) : stepR A x p = none := by
  cases e : stepR A x p with
  | none => rfl
  | some y =>
    obtain ⟨a, ha, h1, h2, _⟩ := stepR_inv e
    exact absurd h2 n
theorem endR_row {A : List Ak} : ∀ {ps : List Pl} {x y : Str × Nat}, ps.foldlM (stepR A) x = some y → ∃ r : List Ak, r.map (·.1) = ps ∧ (∀ a ∈ r, a ∈ A) ∧ y.2 = x.2 + wtR r
  | [], x, y, h => by
    cases h
    exact ⟨[], rfl, (fun _ z => nomatch z), rfl⟩
  | p :: ps, x, y, h => by
    rw [List.foldlM_cons] at h
    cases e : stepR A x p with
    | none => rw [e] at h; cases h
    | some z =>
      rw [e] at h
      obtain ⟨a, ha, h1, _, h3⟩ := stepR_inv e
      obtain ⟨r, k1, k2, k3⟩ := endR_row (ps := ps) (x := z) (y := y) h
      refine ⟨a :: r, by rw [List.map_cons, h1, k1], fun b hb => ?_, ?_⟩
      · rcases List.mem_cons.mp hb with q | q
        · rw [q]; exact ha
        · exact k2 b q
      · rw [wtR_cons, k3, h3]
        show x.2 + a.2.2 + wtR r = _
        omega
theorem sum_wt (r : List Ak) : (r.map fun a => (a.2.2 : Int)).sum = (wtR r : Int) := by
  induction r with
  | nil => rfl
  | cons a r ih =>
    rw [List.map_cons, List.sum_cons, ih, wtR_cons]
    omega
theorem all_true : ∀ n : Nat, (List.replicate n true).all id = true
  | 0 => rfl
  | n + 1 => by
    rw [List.replicate_succ, List.all_cons, all_true n]
    rfl
theorem sIx_one (x : V) (r : List V) : HT.sIx (x :: r).length 0 (some 1) = 1 := by
  show min 1 (r.length + 1) = 1
  omega
theorem cut_one (x : V) (r : List V) : cutV (x :: r) (some 1) none = r := by
  unfold cutV
  rw [sIx_one]
  show List.take (r.length + 1 - 1) r = r
  rw [Nat.add_sub_cancel, List.take_length]
section
variable {P : Program} {w : World} {K : PySem.W.Frag} {mg : Str → Option Value} {base : Heap}
/-! ### is_whole -/
def spWhI : Sp := fun vs H Q _ => ∃ i : Int, vs = [.int i] ∧ Q (.bl true) H
abbrev sis_whole : Stmt := top 7
theorem scis_whole : FnScope ["thing"] ["thing"] (defScope sis_whole) := ⟨rfl, rfl, rfl, by decide +kernel, rfl, by decide +kernel, by decide +kernel⟩
theorem ok_whP (T : Txt K mg) {f : Addr} {fd : FuncData} (F : Fun K "is_whole" "is_whole" sis_whole f fd) : FnOk P w K mg base CX0 1 f fd ["thing"] spWhI := by
  refine F.ok scis_whole (fun vs H Q E h => ?_) (fun cdv A outer s H vs Q E hr h => ?_)
  · obtain ⟨i, rfl, _⟩ := h
    rfl
  obtain ⟨i, rfl, q⟩ := h
  refine ⟨_, (pss_one (ps_ret (pe_and (pe_callB call_isi (by rfl) T.m_isinstance (by decide +kernel) (pa_cons (pv 0) (pa_cons (pe_bltn (v := .ty "int") rfl T.m_int (by decide +kernel) rfl) pa_nil))) (pe_one (pe_not (pe_callB call_isi (by rfl) T.m_isinstance (by decide +kernel) (pa_cons (pv 0) (pa_cons (pe_bltn (v := .ty "bool") rfl T.m_bool (by decide +kernel) rfl) pa_nil)))))))), ?_⟩
  refine ⟨_, rfl, .int i, .ty "int", .type "int", .type "int", true, rfl, .ty "int", .base (.int i), kit_ty (by decide +kernel), _, rfl, ?_⟩
  refine iteT ⟨_, rfl, .int i, .ty "bool", .type "int", .type "bool", false, rfl, .ty "bool", .base (.int i), kit_ty (by decide +kernel), _, rfl, ?_⟩
  exact q
/-! ### led_to -/
def spLed : Sp := fun vs H Q _ => ∃ (f : Str) (L aD : Addr) (A : List Ak) (akvs : List (List L2.Key × V)) (ps : List Pl) (us : List V), vs = [.str f, .ref L, .ref aD] ∧ H L = some (.lst us) ∧ All2 (PlcV H) ps us ∧ (∀ p ∈ ps, p.2.length ≤ 1000) ∧ H aD = some (.dT akvs) ∧ AkL H A akvs ∧ (A.map (·.1)).Nodup ∧
  (∀ g wt, endR A f ps = some (g, wt) → ∀ H', Same H H' → Q (.str g) H') ∧ (endR A f ps = none → ∀ H', Same H H' → Q .non H')
abbrev sled_to : Stmt := top 27
theorem scled_to : FnScope ["f", "row", "asks", "name", "place", "k"] ["f", "row", "asks"] (defScope sled_to) := ⟨rfl, rfl, rfl, by decide +kernel, rfl, by decide +kernel, by decide +kernel⟩
theorem ok_led (T : Txt K mg) {f f1 : Addr} {fd d1 : FuncData} (F : Fun K "led_to" "led_to" sled_to f fd) (Gis_whole : FnOk P w K mg base CX0 1 f1 d1 ["thing"] spWhI) (Ris_whole : Ref K mg "is_whole" f1 d1 ["thing"]) : FnOk P w K mg base CX0 2 f fd ["f", "row", "asks"] spLed := by
  refine F.ok scled_to (fun vs H Q E h => ?_) (fun cdv A outer s H vs Q E hr h => ?_)
  · obtain ⟨f, L, aD, A, akvs, ps, us, rfl, _⟩ := h
    rfl
  obtain ⟨f, L, aD, A, akvs, ps, us, rfl, hL, hv, hpl, hA, hk, hnd, q1, q2⟩ := h
  refine ⟨_, (pss_cons (ps_set (i := 3) scled_to.nd rfl (Or.inl rfl) (pv 0))
    (pss_cons (ps_for PassesOwn.never rfl (pi_list (pv 1)) (pg_name (i := 4) scled_to.nd rfl (Or.inl rfl)) (pss_cons (ps_if (PW.pt (pw_or (pt_cmp (pc_dnotin (hu_of hr) (pv 4) (pv 2))) (pw_or (pt_cmpR op_ne (pe_ix ix_tup (pv 4) pe_int (fun _ _ => rfl)) (pv 3) (nomark _)) (pw_or1 (pt_not (pt_val (pe_callB (cr_all rfl) (by rfl) T.m_all (by decide +kernel) (pa_cons (pe_lc (own := [("k", 5)]) (g := gName 5) (by rfl) scled_to.nd (pi_tup (pe_slice sl_tupA (pv 4) (po_some pe_int) po_none)) (blkOk_by (own := [("k", 5)]) (N := ["f", "row", "asks", "name", "place", "k"]) (sc := defScope sled_to) (by decide +kernel)) (fun _ _ _ _ _ => (pg_name (i := 5) scled_to.nd rfl (Or.inl rfl))) (fun _ _ _ _ _ => pts_nil) (fun _ _ _ _ _ => (pe_call Gis_whole (hr.mono (by omega)) rfl Ris_whole.m Ris_whole.k Ris_whole.b .nil pass0 (pa_cons (pv 5) pa_nil)))) pa_nil)))))))) (pss_one (ps_ret pe_non)) pss_nil)
    (pss_one (ps_set (i := 3) scled_to.nd rfl (Or.inl rfl) (pe_ix ix_tup (pe_dget (hu_of hr) (pv 2) (pv 4) (fun _ _ => rfl)) pe_int (fun _ _ => rfl))))))
    (pss_one (ps_ret (pv 3))))), ?_⟩
  refine ⟨_, rfl, _, rfl, L, rfl, ⟨_, SqL.of hL⟩, for_list (K := K) (a := L) (xs := us) (fun i σ H' => ∃ (g : Str) (wt : Nat) (o4 : Option V), σ = [some (.str f), some (.ref L), some (.ref aD), some (.str g), o4, none] ∧ Same H H' ∧ endR A f (ps.take i) = some (g, wt)) ⟨f, 0, _, rfl, Same.refl _, rfl⟩ ?_ ?_ ?_⟩
  · rintro i σ H' _ ⟨g, wt, o4, rfl, s1, _⟩
    exact SqL.of (s1 _ _ hL)
  · rintro i x σ H1 hx ⟨g, wt, o4, rfl, s1, hend⟩
    obtain ⟨p, hp, qb, rfl, hq⟩ := hv.get hx
    have hq1 : H1 qb = some (.tup (.str p.1 :: p.2.map V.int)) := s1 _ _ hq
    have hA1 := s1 _ _ hA
    have hk1 := hk.tk (tk_same s1)
    refine ⟨_, rfl, _, rfl, aD, _, rfl, DGet.t (k := keyA p) hA1 (by rw [keyA_V]; exact hq1), _, rfl, ?_⟩
    by_cases c : ∃ a ∈ A, a.1 = p
    · obtain ⟨a, ha, rfl⟩ := c
      obtain ⟨bv, hval, hb⟩ := hk1.has hnd ha
      refine itF (by rw [hval]; rfl) ?_
      refine ⟨_, rfl, qb, _, _, _, rfl, rfl, SqT.of hq1, at0, _, rfl, rfl, _, rfl, ?_⟩
      by_cases cn : a.1.1 = g
      · refine itF (by show (!decide (V.str a.1.1 = V.str g)) = false; rw [decide_eq_true (by rw [cn])]; rfl) ?_
        refine ⟨_, rfl, _, rfl, qb, _, rfl, SqT.of hq1, fun z => absurd z.1 (by rw [sIx_one]; exact Nat.one_ne_zero), fun _ p2 hp2 => ?_⟩
        rw [cut_one]
        have s2 := same_new hp2 (.tup (a.1.2.map V.int))
        have hp3 : (upd H1 p2 (.tup (a.1.2.map V.int))) p2 = some (.tup (a.1.2.map V.int)) := upd_same
        generalize upd H1 p2 (.tup (a.1.2.map V.int)) = H2 at s2 hp3
        refine ⟨p2, rfl, ⟨_, SqT.of hp3⟩, fun D2 hD2 => lc_tup (K := K) (a := p2) (xs := a.1.2.map V.int) (fun j H' => Same H2 H' ∧ H' D2 = some (.lst ((List.replicate j true).map V.bl))) ⟨same_new hD2 _, upd_same⟩ ?_ ?_ ?_⟩
        · rintro j H' _ ⟨s3, _⟩
          exact SqT.of (s3 _ _ hp3)
        · rintro j x H3 hx3 ⟨s3, h3⟩
          obtain ⟨n, hn, rfl⟩ := Option.map_eq_some_iff.mp (by rw [List.getElem?_map] at hx3; exact hx3)
          obtain ⟨hj, hji⟩ := List.getElem?_eq_some_iff.mp hn
          refine ⟨rfl, ?_⟩
          dsimp only [tYes]
          refine iteT ?_
          refine ⟨_, rfl, n, rfl, _, h3, ?_, same_mut s3 hD2, ?_⟩
          · rw [List.length_map, List.length_replicate]
            have := hpl _ (mem_of_get hp)
            exact Nat.lt_of_le_of_lt (m := 1000) (by omega) (by decide)
          · rw [upd_same, List.replicate_succ', List.map_append]
            rfl
        · rintro H3 ⟨s3, h3⟩
          refine ⟨D2, _, rfl, SqL.of h3, _, rfl, itF (by rw [all_true]; rfl) ?_⟩
          have s13 := s2.trans s3
          refine ⟨_, rfl, _, rfl, aD, .ref bv, rfl, by rw [← hval]; exact DGet.t (k := keyA a.1) (s13 _ _ hA1) (by rw [keyA_V]; exact s13 _ _ hq1), bv, _, _, _, rfl, rfl, SqT.of (s13 _ _ hb), at0, ?_⟩
          refine ⟨a.2.1, wt + a.2.2, _, rfl, s1.trans s13, ?_⟩
          rw [endR_take hp, hend]
          exact stepR_some hnd ha cn
      · refine itT (by show (!decide (V.str a.1.1 = V.str g)) = true; rw [decide_eq_false (fun z => cn (V.str.inj z))]; rfl) ?_
        exact q2 (endR_none hp hend (stepR_else cn)) H1 s1
    · have hno : ∀ a ∈ A, a.1 ≠ p := fun a ha e => c ⟨a, ha, e⟩
      refine itT (by rw [hk1.no hno]; rfl) ?_
      exact q2 (endR_none hp hend (stepR_no hno)) H1 s1
  · rintro σ H1 ⟨g, wt, o4, rfl, s1, hend⟩
    have hlen := hv.len
    rw [hlen, List.take_length] at hend
    exact ⟨_, rfl, q1 g wt hend H1 s1⟩
/-! ### weight_of -/
def spWeight : Sp := fun vs H Q _ => ∃ (L aD : Addr) (A : List Ak) (akvs : List (List L2.Key × V)) (r : List Ak) (us : List V), vs = [.ref L, .ref aD] ∧ H L = some (.lst us) ∧ All2 (PlcV H) (r.map (·.1)) us ∧ us.length ≤ 1000000 ∧ H aD = some (.dT akvs) ∧ AkL H A akvs ∧ (A.map (·.1)).Nodup ∧ (∀ a ∈ r, a ∈ A) ∧
  ∀ H', Same H H' → Q (.int (wtR r : Int)) H'
abbrev sweight_of : Stmt := top 28
theorem scweight_of : FnScope ["row", "asks", "place"] ["row", "asks"] (defScope sweight_of) := ⟨rfl, rfl, rfl, by decide +kernel, rfl, by decide +kernel, by decide +kernel⟩
theorem ok_weight (T : Txt K mg) (msum : mg "sum" = none) {f : Addr} {fd : FuncData} (F : Fun K "weight_of" "weight_of" sweight_of f fd) : FnOk P w K mg base CX0 1 f fd ["row", "asks"] spWeight := by
  refine F.ok scweight_of (fun vs H Q E h => ?_) (fun cdv A outer s H vs Q E hr h => ?_)
  · obtain ⟨L, aD, A, akvs, r, us, rfl, _⟩ := h
    rfl
  obtain ⟨L, aD, A, akvs, r, us, rfl, hL, hv, hul, hA, hk, hnd, hra, q⟩ := h
  refine ⟨_, (pss_one (ps_ret (pe_callB (cr_sum rfl) (by rfl) msum (by decide +kernel) (pa_cons (pe_lc (own := [("place", 2)]) (g := gName 2) (by rfl) scweight_of.nd (pi_list (pv 0)) (blkOk_by (own := [("place", 2)]) (N := ["row", "asks", "place"]) (sc := defScope sweight_of) (by decide +kernel)) (fun _ _ _ _ _ => (pg_name (i := 2) scweight_of.nd rfl (Or.inl rfl))) (fun _ _ _ _ _ => pts_nil) (fun _ _ _ _ _ => (pe_ix (show IxR _ (rIxT K) from ix_tup) (pe_dget (hu_of hr) (pv 1) (pv 2) (fun _ _ => rfl)) pe_int (fun _ _ => rfl)))) pa_nil)))), ?_⟩
  have hlen := hv.len
  rw [List.length_map] at hlen
  refine ⟨_, rfl, L, rfl, ⟨_, SqL.of hL⟩, fun D2 hD2 => lc_list (K := K) (a := L) (xs := us) (fun j H' => Same H H' ∧ H' D2 = some (.lst (((r.take j).map fun a => (a.2.2 : Int)).map V.int))) ⟨same_new hD2 _, upd_same⟩ ?_ ?_ ?_⟩
  · rintro j H' _ ⟨s1, _⟩
    exact SqL.of (s1 _ _ hL)
  · rintro j x H1 hx ⟨s1, h1⟩
    obtain ⟨p, hp, qb, rfl, hq⟩ := hv.get hx
    rw [List.getElem?_map] at hp
    obtain ⟨a, ha, rfl⟩ := Option.map_eq_some_iff.mp hp
    obtain ⟨hj, haj⟩ := List.getElem?_eq_some_iff.mp ha
    obtain ⟨bv, hval, hb⟩ := hk.has hnd (hra a (mem_of_get ha))
    refine ⟨rfl, ?_⟩
    dsimp only [tYes]
    refine iteT ?_
    refine ⟨_, rfl, _, rfl, aD, .ref bv, rfl, by rw [← hval]; exact DGet.t (k := keyA a.1) (s1 _ _ hA) (by rw [keyA_V]; exact s1 _ _ hq), bv, _, _, _, rfl, rfl, SqT.of (s1 _ _ hb), at1, _, h1, ?_, same_mut s1 hD2, ?_⟩
    · rw [List.length_map, List.length_map, List.length_take]
      exact Nat.lt_of_le_of_lt (m := 1000000) (by omega) (by decide)
    · rw [upd_same, List.take_succ_eq_append_getElem hj, haj, List.map_append, List.map_append]
      rfl
  · rintro H1 ⟨s1, h1⟩
    rw [hlen, List.take_length] at h1
    refine ⟨D2, _, rfl, SqL.of h1, ?_⟩
    rw [sum_wt]
    exact q H1 s1
end
end KB

set_option pp.maxSteps 400
namespace KB
open PySem L2 HT LamX NdefX

theorem LvK_I (N : List Str) (lv : Str → Nat) : True := trivial
def LvI (N : List Str) (li : Str → Int) : List (L2.Key × V) := N.map fun n => (.inr n, .int (li n))
theorem LvI.keys (N : List Str) (li : Str → Int) : (LvI N li).map (·.1) = N.map fun n => (.inr n : L2.Key) := by unfold LvI; rw [List.map_map]; rfl
theorem LvI.vals (N : List Str) (li : Str → Int) : (LvI N li).map (·.2) = (N.map li).map V.int := by unfold LvI; rw [List.map_map, List.map_map]; rfl
theorem lvI_val {N : List Str} {li : Str → Int} {n : Str} (h : n ∈ N) : valV (LvI N li) (.inr n) = some (.int (li n)) := by
  induction N with
  | nil => cases h
  | cons x N ih =>
    by_cases c : x = n
    · subst c
      unfold valV LvI
      rw [List.map_cons, List.find?_cons_of_pos (by exact decide_eq_true rfl)]
      rfl
    · rcases List.mem_cons.mp h with z | z
      · exact absurd z.symm c
      · have i := ih z
        unfold valV LvI at i ⊢
        rw [List.map_cons, List.find?_cons_of_neg]
        · exact i
        · intro e
          exact c (Sum.inr.inj (of_decide_eq_true e))
theorem lvI_no {N : List Str} {li : Str → Int} {n : Str} (h : n ∉ N) : valV (LvI N li) (.inr n) = none := valV_no (by
  rw [LvI.keys]
  intro z
  obtain ⟨y, hy, e⟩ := List.mem_map.mp z
  exact h (by rw [← Sum.inr.inj e]; exact hy))
def LevOk (A : List Ak) (N : List Str) (li : Str → Int) : Prop := (∀ n ∈ N, 0 ≤ li n) ∧ ∀ a ∈ A, a.1.1 ∈ N → li a.2.1 + (a.2.2 : Int) ≤ li a.1.1
def MostB (A : List Ak) (f : Str) (ps : List Pl) (N : List Str) (li : Str → Int) : Prop := (∃ g wt, endR A f ps = some (g, wt) ∧ li f = (wt : Int)) ∧ (∀ x, x ∈ N ↔ Rch A f x) ∧ LevOk A N li
def RingB (A : List Ak) (f : Str) (ps qs : List Pl) : Prop := ∃ g w1 w2, endR A f ps = some (g, w1) ∧ endR A g qs = some (g, w2) ∧ 0 < w2
theorem eqv_strs : ∀ a b : List Str, PySem.PyData.eqvAll (a.map PyData.str) (b.map PyData.str) = decide (a = b)
  | [], [] => rfl
  | [], _ :: _ => rfl
  | _ :: _, [] => rfl
  | x :: a, y :: b => by
    show (PyData.eqv (.str x) (.str y) && PySem.PyData.eqvAll (a.map PyData.str) (b.map PyData.str)) = _
    rw [eqv_strs a b]
    show (decide (x = y) && decide (a = b)) = _
    by_cases c : x = y
    · by_cases d : a = b
      · rw [decide_eq_true c, decide_eq_true d, decide_eq_true (by rw [c, d])]; rfl
      · rw [decide_eq_true c, decide_eq_false d, decide_eq_false (fun z => d (List.cons.inj z).2)]; rfl
    · rw [decide_eq_false c, decide_eq_false (fun z => c (List.cons.inj z).1)]; rfl
theorem shaped_strsK {xs : List Str} (h : ∀ x ∈ xs, PySem.PyData.strOk x = true) : SeqAt.shaped (.list (xs.map PyData.str)) = true := by
  refine shaped_of (lay_strs h) ?_
  show PySem.PyData.depthAll (xs.map PyData.str) + 1 ≤ 64
  rw [depth_strs]
  decide
/-- d.values() -/
def rDValues : V → List V → Hp → VK → Prop := fun x vs H Q => ∃ (a : Addr) (kvs : List (Key × V)), x = .ref a ∧ vs = [] ∧ H a = some (.dK kvs) ∧ ∀ p, H p = none → Q (.ref p) (upd H p (viewO "dict_values" p a))
open PySem.Spec PyProof.Rows in
theorem mtd_values {X : Cx} : MtR X "dict.values" rDValues := by
  intro pins s σ H x vs v us Q I rx rv h
  obtain ⟨a, kvs, ex, ev, e, q⟩ := h
  subst ex
  subst ev
  obtain rfl : v = Value.ref a := rx
  have hus := rv.zero
  subst hus
  obtain ⟨_, hsys, vs, rel, dof⟩ := dk_of I.hok e
  have dof' := dof
  obtain ⟨ep, dat⟩ := dof'.dictAt
  obtain ⟨ob, es, ho, ex, hdat, hko, hpr, hnd⟩ := dat
  refine call_meetsIn F.slot_dict_values ⟨ob, ho, ex.1⟩ F.entry_dict_values (F.args_dict_values_1 _) (meets_dict_values (mixKind X.prog X.w) a hsys) ⟨⟨vs, dof⟩, ?_⟩
  exact ⟨.ref s.heap.objs.size, _, I.laid (t' := s.toks) (fun b o q => Heap.get?_push_of_some _ q) (Nat.le_refl _) (viewO_ok (Heap.get?_push_size _ rfl)), rfl, q _ (I.hok.fresh (Nat.le_refl _))⟩
/-- list(d.values()) -/
def rListV : List V → Hp → VK → Prop := fun xs H Q => ∃ p a kvs, xs = [.ref p] ∧ H p = some (viewO "dict_values" p a) ∧ H a = some (.dK kvs) ∧ ∀ q, H q = none → Q (.ref q) (upd H q (.lst (kvs.map (·.2))))
theorem call_list_view {X : Cx} (hc : X.calm = true) : CallR X (.type "list") rListV := by
  intro pins s σ H xs us Q I r h
  obtain ⟨p, a, kvs, e, hp, hk, q⟩ := h
  subst e
  obtain ⟨u, eu, rx⟩ := vals1 r
  subst eu
  obtain rfl : u = Value.ref p := rx
  obtain ⟨z, lo, vs, rk, hd⟩ := (show ObjOk X.prog X.w H s.heap a (.dK kvs) from I.hok a _ hk)
  obtain ⟨ep, hat⟩ := hd.dictAt
  have hl : kvs.length = vs.length := Paired.length rk
  have hv : s.heap.get? p = some (DSub.viewOb "dict_values" a) := (show ObjOk X.prog X.w H s.heap p (viewO "dict_values" p a) from I.hok p _ hp).1
  refine PySem.W.kdl_call (PySem.W.kdl_values (knd := mixKind X.prog X.w) (r := p) (d := a) (kvs := vs) (ep := ep)) (I.ok.hd hc) ⟨⟨_, hv, rfl, rfl⟩, hat⟩ (by rw [← hl]; exact z) fun h' tk acc' c' hkeep hS hacc => ?_
  refine ⟨.ref s.heap.objs.size, upd H s.heap.objs.size (.lst (kvs.map (·.2))), I.laid hkeep (Nat.le_refl _) (show ObjOk X.prog X.w _ _ _ (.lst (kvs.map (·.2))) from ⟨?_, acc'.toList, c', ?_, ?_⟩), rfl, q _ (I.hok.fresh (Nat.le_refl _))⟩
  · rw [List.length_map]; exact z
  · have el : acc'.toList.length = acc'.size := by simp
    refine vals_of_at (by rw [List.length_map, el, hacc.1, hl]) fun j x w h1 h2 => ?_
    obtain ⟨k, hky⟩ := hacc.2 j w (by rw [← Array.getElem?_toList]; exact h2)
    obtain ⟨y, hy, hr⟩ := KV.at' rk hky
    rw [List.getElem?_map, hy] at h1
    cases h1
    exact hr
  · rw [Array.toArray_toList]; exact hS
section
variable {P : Program} {w : World} {K : PySem.W.Frag} {mg : Str → Option Value} {base : Heap}
/-! ### are_levels -/
def spAre : Sp := fun vs H Q _ => ∃ (Dl aD : Addr) (A : List Ak) (akvs : List (List L2.Key × V)) (N : List Str) (li : Str → Int), vs = [.ref Dl, .ref aD] ∧ H Dl = some (.dK (LvI N li)) ∧ N.length ≤ 10 ∧ H aD = some (.dT akvs) ∧ AkL H A akvs ∧ Cl A N ∧ (LevOk A N li → ∀ H', Same H H' → Q (.bl true) H') ∧ (¬ LevOk A N li → ∀ H', Same H H' → Q (.bl false) H')
abbrev sare_levels : Stmt := top 29
theorem scare_levels : FnScope ["levels", "asks", "level", "place", "asked", "weight"] ["levels", "asks"] (defScope sare_levels) := ⟨rfl, rfl, rfl, by decide +kernel, rfl, by decide +kernel, by decide +kernel⟩
theorem ok_are (T : Txt K mg) {f f1 : Addr} {fd d1 : FuncData} (F : Fun K "are_levels" "are_levels" sare_levels f fd) (Gis_whole : FnOk P w K mg base CX0 1 f1 d1 ["thing"] spWhI) (Ris_whole : Ref K mg "is_whole" f1 d1 ["thing"]) : FnOk P w K mg base CX0 2 f fd ["levels", "asks"] spAre := by
  refine F.ok scare_levels (fun vs H Q E h => ?_) (fun cdv A outer s H vs Q E hr h => ?_)
  · obtain ⟨Dl, aD, A, akvs, N, li, rfl, _⟩ := h
    rfl
  obtain ⟨Dl, aD, A, akvs, N, li, rfl, hD, hNl, hA, hk, hcl, q1, q2⟩ := h
  refine ⟨_, (pss_cons (ps_if (pt_not (pt_val (pe_callB (cr_all rfl) (by rfl) T.m_all (by decide +kernel) (pa_cons (pe_lc (own := [("level", 2)]) (g := gName 2) (by rfl) scare_levels.nd (pi_list (pe_callTy (call_list_view rfl) (by rfl) T.m_list (by decide +kernel) (pa_cons (pe_bm0 PySem.F.plainAttrs_dict PySem.F.slot_dict_values PySem.F.type_dict_values mtd_values (pv 0)) pa_nil))) (blkOk_by (own := [("level", 2)]) (N := ["levels", "asks", "level", "place", "asked", "weight"]) (sc := defScope sare_levels) (by decide +kernel)) (fun _ _ _ _ _ => (pg_name (i := 2) scare_levels.nd rfl (Or.inl rfl))) (fun _ _ _ _ _ => pts_nil) (fun _ _ _ _ _ => (pe_and (pe_call Gis_whole (hr.mono (by omega)) rfl Ris_whole.m Ris_whole.k Ris_whole.b .nil pass0 (pa_cons (pv 2) pa_nil)) (pe_one (pe_cmpR op_ge (pv 2) pe_int (nomark _)))))) pa_nil)))) (pss_one (ps_ret pe_bl)) pss_nil)
    (pss_cons (ps_lock (ps_for PassesOwn.never rfl (pi_tupItems (pv 1)) (pg_tup rfl (pgs_cons (pg_name (i := 3) scare_levels.nd rfl (Or.inl rfl)) (pgs_cons (pg_tup rfl (pgs_cons (pg_name (i := 4) scare_levels.nd rfl (Or.inl rfl)) (pgs_cons (pg_name (i := 5) scare_levels.nd rfl (Or.inl rfl)) pgs_nil))) pgs_nil))) (pss_one (ps_if (PW.pt (pw_and (pt_cmp (pc_din (hu_of hr) (pe_ix ix_tup (pv 3) pe_int (fun _ _ => rfl)) (pv 0))) (pw_and1 (pt_cmpR op_lt (pe_dget (hu_of hr) (pv 0) (pe_ix ix_tup (pv 3) pe_int (fun _ _ => rfl)) (fun _ _ => rfl)) (pe_op op_add (pe_dget (hu_of hr) (pv 0) (pv 4) (fun _ _ => rfl)) (pv 5)) (nomark _))))) (pss_one (ps_ret pe_bl)) pss_nil))))
    (pss_one (ps_ret pe_bl)))), ?_⟩
  refine ⟨_, rfl, .inr (.inr (.inl ⟨rfl, .inl ⟨_, hD⟩⟩)), Dl, _, rfl, rfl, hD, fun pv hpv => ?_⟩
  have s1 := same_new hpv (viewO "dict_values" pv Dl)
  refine ⟨pv, Dl, _, rfl, upd_same, s1 _ _ hD, fun l2 hl2 => ?_⟩
  have s2 := s1.trans (same_new hl2 (.lst ((LvI N li).map (·.2))))
  have h2 : (upd (upd H pv (viewO "dict_values" pv Dl)) l2 (.lst ((LvI N li).map (·.2)))) l2 = some (.lst ((N.map li).map V.int)) := by rw [upd_same, LvI.vals]
  generalize upd (upd H pv (viewO "dict_values" pv Dl)) l2 (.lst ((LvI N li).map (·.2))) = H2 at s2 h2
  refine ⟨l2, rfl, ⟨_, SqL.of h2⟩, fun D2 hD2 => lc_list (K := K) (a := l2) (xs := (N.map li).map V.int) (fun j H' => Same H2 H' ∧ H' D2 = some (.lst ((((N.map li).take j).map fun i => decide (0 ≤ i)).map V.bl))) ⟨same_new hD2 _, upd_same⟩ ?_ ?_ ?_⟩
  · rintro j H' _ ⟨s3, _⟩
    exact SqL.of (s3 _ _ h2)
  · rintro j x H3 hx ⟨s3, h3⟩
    obtain ⟨i, hi, rfl⟩ := Option.map_eq_some_iff.mp (by rw [List.getElem?_map] at hx; exact hx)
    obtain ⟨hj, hji⟩ := List.getElem?_eq_some_iff.mp hi
    refine ⟨rfl, ?_⟩
    dsimp only [tYes]
    refine iteT ?_
    refine ⟨_, rfl, i, rfl, _, rfl, ?_⟩
    refine iteT ⟨_, rfl, _, _, rfl, rfl, _, h3, ?_, same_mut s3 hD2, ?_⟩
    · rw [List.length_map, List.length_map, List.length_take, List.length_map]
      exact Nat.lt_of_le_of_lt (m := 10) (by omega) (by decide)
    · rw [upd_same, List.take_succ_eq_append_getElem hj, hji, List.map_append, List.map_append]
      rfl
  · rintro H3 ⟨s3, h3⟩
    rw [List.length_map, List.take_length] at h3
    refine ⟨D2, _, rfl, SqL.of h3, _, rfl, ?_⟩
    have hall : ((N.map li).map fun i => decide (0 ≤ i)).all id = true ↔ ∀ n ∈ N, 0 ≤ li n := by
      rw [List.all_eq_true]
      constructor
      · intro h n hn
        exact of_decide_eq_true (h _ (List.mem_map.mpr ⟨li n, List.mem_map.mpr ⟨n, hn, rfl⟩, rfl⟩))
      · intro h b hb
        obtain ⟨i, hi, rfl⟩ := List.mem_map.mp hb
        obtain ⟨n, hn, rfl⟩ := List.mem_map.mp hi
        exact decide_eq_true (h n hn)
    have s03 := s2.trans s3
    by_cases c0 : ∀ n ∈ N, 0 ≤ li n
    · refine itF (by rw [hall.mpr c0]; rfl) ?_
      have hA3 := s03 _ _ hA
      refine ⟨aD, .dT akvs, hA3, trivial, fun od => ?_⟩
      have hA4 : (upd H3 aD (.frz od (.dT akvs))) aD = some (.frz od (.dT akvs)) := upd_same
      have o4 : Off aD H3 (upd H3 aD (.frz od (.dT akvs))) := fun b o n h => by rw [upd_ne n]; exact h
      have back : ∀ H', Off aD H3 H' → Same H (upd H' aD (.dT akvs)) := fun H' o => s03.trans (o.back (fun b n => upd_ne n) (by rw [upd_same, hA3]))
      have ntk : ∀ {H'}, Off aD H3 H' → TK H3 H' := fun o b xs h => o _ _ (fun z => by rw [z, hA3] at h; cases h) h
      have nDA : Dl ≠ aD := fun z => by rw [z, hA] at hD; cases hD
      generalize upd H3 aD (.frz od (.dT akvs)) = H4 at hA4 o4
      refine ⟨_, rfl, aD, od, akvs, rfl, hA4, for_it walk_tupItems (fun i σ H' => ∃ (o3 o4 o5 : Option V), σ = [some (.ref Dl), some (.ref aD), none, o3, o4, o5] ∧ Off aD H3 H' ∧ H' aD = some (.frz od (.dT akvs)) ∧ ∀ k a, k < i → A[k]? = some a → a.1.1 ∈ N → li a.2.1 + (a.2.2 : Int) ≤ li a.1.1) ?_ ?_ ?_ ?_⟩
      · exact ⟨_, _, _, rfl, o4, hA4, fun k a h => absurd h (Nat.not_lt_zero k)⟩
      · rintro i σ H5 _ ⟨o3, o4', o5, rfl, _, h, _⟩
        exact h
      · rintro i x σ H5 H6 hi ⟨o3, o4', o5, rfl, o5', a5, hp5⟩ ⟨T', k, v, qk, hkv, hq, rfl, hT, rfl⟩
        have hk5 := (hk.tk (tk_same s03)).tk (ntk o5')
        obtain ⟨a, ha, hk1, bv, hv, hb⟩ := hk5.get hkv
        dsimp only at hk1 hv
        subst hk1 hv
        have sT := same_new hT (.tup [.ref qk, .ref bv])
        have ham := mem_of_get ha
        rw [keyA_V] at hq
        refine ⟨T', _, rfl, SqT.of upd_same, rfl, _, _, rfl, _, _, rfl, ⟨bv, _, rfl, SqT.of (sT _ _ hb), rfl, _, _, rfl, _, _, rfl, rfl, rfl, ?_⟩⟩
        have o6 := o5'.same sT
        have a6 := sT _ _ a5
        have hq6 := sT _ _ hq
        have hD6 : (upd H5 T' (.tup [.ref qk, .ref bv])) Dl = some (.dK (LvI N li)) := o6 _ _ nDA (s03 _ _ hD)
        generalize upd H5 T' (.tup [.ref qk, .ref bv]) = H6 at o6 a6 hq6 hD6
        have done : (a.1.1 ∈ N → li a.2.1 + (a.2.2 : Int) ≤ li a.1.1) → ∀ k a', k < i + 1 → A[k]? = some a' → a'.1.1 ∈ N → li a'.2.1 + (a'.2.2 : Int) ≤ li a'.1.1 := fun hd k a' hk' ha' hn => by
          by_cases c : k = i
          · rw [c, ha] at ha'
            cases ha'
            exact hd hn
          · exact hp5 k a' (by omega) ha' hn
        refine ⟨_, rfl, qk, _, _, _, rfl, rfl, SqT.of hq6, at0, _, rfl, Dl, _, rfl, DGet.k (k := .inr a.1.1) hD6, _, rfl, ?_⟩
        by_cases hin : a.1.1 ∈ N
        · refine itT (by rw [lvI_val hin]; rfl) ?_
          have hin2 := hcl a ham hin
          refine ⟨_, rfl, _, rfl, qk, _, _, _, rfl, rfl, SqT.of hq6, at0, Dl, _, rfl, by rw [← lvI_val hin]; exact DGet.k (k := .inr a.1.1) hD6, ?_⟩
          refine ⟨_, rfl, _, rfl, Dl, _, rfl, by rw [← lvI_val hin2]; exact DGet.k (k := .inr a.2.1) hD6, _, rfl, _, _, rfl, rfl, _, _, rfl, rfl, _, rfl, ?_⟩
          refine ite2 (fun c => ?_) (fun c => ?_)
          · have c' : li a.1.1 < li a.2.1 + (a.2.2 : Int) := of_decide_eq_true c
            refine ⟨a6, q2 (fun z => ?_) _ (back H6 o6)⟩
            have := z.2 a ham hin
            omega
          · have c' : ¬ li a.1.1 < li a.2.1 + (a.2.2 : Int) := fun z => c (decide_eq_true z)
            exact ⟨_, _, _, rfl, o6, a6, done fun _ => by omega⟩
        · exact itF (by rw [lvI_no hin]; rfl) (itF rfl ⟨_, _, _, rfl, o6, a6, done fun z => absurd z hin⟩)
      · rintro σ H5 ⟨o3, o4', o5, rfl, o5', a5, hp5⟩
        rw [hk.len] at hp5
        refine ⟨a5, q1 ⟨c0, fun a ha hn => ?_⟩ _ (back H5 o5')⟩
        obtain ⟨k, hk', e⟩ := List.getElem_of_mem ha
        exact hp5 k a hk' (by rw [List.getElem?_eq_getElem hk', e]) hn
    · refine itT (by cases e : (((N.map li).map fun i => decide (0 ≤ i)).all id) with | false => rfl | true => exact absurd (hall.mp e) c0) ?_
      exact q2 (fun z => c0 z.1) H3 s03
end
end KB

set_option pp.maxSteps 400
namespace KB
open PySem L2 HT LamX NdefX

theorem at_first {es : List TEr} {f : Str} (h : f ∈ es.map (·.1)) : ∃ (i : Nat) (e : TEr), es[i]? = some e ∧ e.1 = f ∧ ∀ (j : Nat) e', j < i → es[j]? = some e' → e'.1 ≠ f := by
  induction es with
  | nil => cases h
  | cons x es ih =>
    by_cases c : x.1 = f
    · exact ⟨0, x, rfl, c, fun j e' hj => absurd hj (Nat.not_lt_zero j)⟩
    · have h' : f ∈ es.map (·.1) := by
        rw [List.map_cons] at h
        rcases List.mem_cons.mp h with z | z
        · exact absurd z.symm c
        · exact z
      obtain ⟨i, e, h1, h2, h3⟩ := ih h'
      refine ⟨i + 1, e, h1, h2, fun j e' hj he' => ?_⟩
      cases j with
      | zero =>
        cases he'
        exact c
      | succ j => exact h3 j e' (by omega) he'
theorem sorted_iff {N M ys zs : List Str} (nN : N.Nodup) (nM : M.Nodup) (h1 : ys.Perm N) (h2 : PyProof.Rows.sortedS ys = true) (k1 : zs.Perm M) (k2 : PyProof.Rows.sortedS zs = true) : ys = zs ↔ ∀ x, x ∈ N ↔ x ∈ M := by
  constructor
  · intro e x
    rw [← h1.mem_iff, e, k1.mem_iff]
  · intro h
    refine sorted_one h2 k2 (h1.trans ((List.perm_iff_count.mpr fun x => ?_).trans k1.symm))
    rw [nN.count, nM.count]
    by_cases z : x ∈ N
    · rw [if_pos z, if_pos ((h x).mp z)]
    · rw [if_neg z, if_neg (fun y => z ((h x).mpr y))]
/-- what a book must be here -/
structure BkE (es : List TEr) : Prop where
  nd : (es.map (·.1)).Nodup
  l6 : es.length ≤ 6
  nc : ∀ e ∈ es, kP e.2.2 ∧ ncnt e.2.2 ≤ 1000
  al : (asksB es).length ≤ 300
  ws : ∀ e ∈ es, isW e.1 = true ∧ (asksE e).length ≤ 300
  as : ∀ a ∈ asksB es, isW a.2.1 = true
  tg : ∀ a ∈ asksB es, a.2.1 ∈ es.map (·.1)
theorem rch_in {A : List Ak} {M : List Str} {f n : Str} (hf : f ∈ M) (tg : ∀ a ∈ A, a.2.1 ∈ M) (h : Rch A f n) : n ∈ M := by
  obtain ⟨r, hr⟩ := h
  exact (hr.cl (N := M) (fun a ha _ => tg a ha) hf).1
section
variable {P : Program} {w : World} {K : PySem.W.Frag} {mg : Str → Option Value} {base : Heap}
/-! ### shows_most -/
def spSMost : Sp := fun vs H Q _ => ∃ (p L Dl : Addr) (es : List TEr) (us rs : List V) (f : Str) (ps : List Pl) (N : List Str) (li : Str → Int), vs = [.ref p, .str f, .ref L, .ref Dl] ∧ TBkAt H es us p ∧ BkE es ∧ f ∈ es.map (·.1) ∧ H L = some (.lst rs) ∧ All2 (PlcV H) ps rs ∧ (∀ p ∈ ps, p.2.length ≤ 1000) ∧ rs.length ≤ 1000000 ∧
  H Dl = some (.dK (LvI N li)) ∧ N.Nodup ∧ N.length ≤ 10 ∧ (∀ n ∈ N, PySem.PyData.strOk n = true) ∧ (MostB (asksB es) f ps N li → ∀ H', Same H H' → Q (.bl true) H') ∧ (¬ MostB (asksB es) f ps N li → ∀ H', Same H H' → Q (.bl false) H')
abbrev sshows_most : Stmt := top 25
theorem scshows_most : FnScope ["turned", "f", "row", "levels", "asks"] ["turned", "f", "row", "levels"] (defScope sshows_most) := ⟨rfl, rfl, rfl, by decide +kernel, rfl, by decide +kernel, by decide +kernel⟩
theorem ok_smost (T : Txt K mg) (mso : mg "sorted" = none) {f f1 f2 f3 f4 f5 f6 : Addr} {fd d1 d2 d3 d4 d5 d6 : FuncData} (F : Fun K "shows_most" "shows_most" sshows_most f fd) (Gasks_placed : FnOk P w K mg base CX0 4 f1 d1 ["turned"] spAsks) (Rasks_placed : Ref K mg "asks_placed" f1 d1 ["turned"]) (Gerrand_named : FnOk P w K mg base CX0 1 f2 d2 ["book", "f"] spNamT) (Rerrand_named : Ref K mg "errand_named" f2 d2 ["book", "f"]) (Gled_to : FnOk P w K mg base CX0 2 f3 d3 ["f", "row", "asks"] spLed) (Rled_to : Ref K mg "led_to" f3 d3 ["f", "row", "asks"]) (Grows_from : FnOk P w K mg base CX0 1 f4 d4 ["f", "asks"] spRows) (Rrows_from : Ref K mg "rows_from" f4 d4 ["f", "asks"]) (Gare_levels : FnOk P w K mg base CX0 2 f5 d5 ["levels", "asks"] spAre) (Rare_levels : Ref K mg "are_levels" f5 d5 ["levels", "asks"]) (Gweight_of : FnOk P w K mg base CX0 1 f6 d6 ["row", "asks"] spWeight) (Rweight_of : Ref K mg "weight_of" f6 d6 ["row", "asks"]) : FnOk P w K mg base CX0 5 f fd ["turned", "f", "row", "levels"] spSMost := by
  refine F.ok scshows_most (fun vs H Q E h => ?_) (fun cdv A outer s H vs Q E hr h => ?_)
  · obtain ⟨p, L, Dl, es, us, rs, f, ps, N, li, rfl, _⟩ := h
    rfl
  obtain ⟨p, L, Dl, es, us, rs, f, ps, N, li, rfl, hB, hK, hf, hL, hv, hpl, hul, hD, hnN, hNl, hNo, q1, q2⟩ := h
  refine ⟨_, (pss_cons (ps_set (i := 4) scshows_most.nd rfl (Or.inl rfl) (pe_call Gasks_placed (hr.mono (by omega)) rfl Rasks_placed.m Rasks_placed.k Rasks_placed.b .nil pass0 (pa_cons (pv 0) pa_nil)))
    (pss_cons (ps_if (PW.pt (pw_or (pt_cmpR op_isN (pe_call Gerrand_named (hr.mono (by omega)) rfl Rerrand_named.m Rerrand_named.k Rerrand_named.b .nil pass0 (pa_cons (pv 0) (pa_cons (pv 1) pa_nil))) pe_non (nomark _)) (pw_or1 (pt_cmpR op_isN (pe_call Gled_to (hr.mono (by omega)) rfl Rled_to.m Rled_to.k Rled_to.b .nil pass0 (pa_cons (pv 1) (pa_cons (pv 2) (pa_cons (pv 4) pa_nil)))) pe_non (nomark _))))) (pss_one (ps_ret pe_bl)) pss_nil)
    (pss_cons (ps_if (PW.pt (pw_or (pt_cmpR (op_neD hr.units) (pe_callB (call_sortedD rfl) (by rfl) mso (by decide +kernel) (pa_cons (pv 3) pa_nil)) (pe_callB (call_sortedD rfl) (by rfl) mso (by decide +kernel) (pa_cons (pe_call Grows_from (hr.mono (by omega)) rfl Rrows_from.m Rrows_from.k Rrows_from.b .nil pass0 (pa_cons (pv 1) (pa_cons (pv 4) pa_nil))) pa_nil)) (nomark _)) (pw_or1 (pt_not (pt_val (pe_call Gare_levels (hr.mono (by omega)) rfl Rare_levels.m Rare_levels.k Rare_levels.b .nil pass0 (pa_cons (pv 3) (pa_cons (pv 4) pa_nil)))))))) (pss_one (ps_ret pe_bl)) pss_nil)
    (pss_one (ps_ret (pe_cmpR op_eq (pe_dget (hu_of hr) (pv 3) (pv 1) (fun _ _ => rfl)) (pe_call Gweight_of (hr.mono (by omega)) rfl Rweight_of.m Rweight_of.k Rweight_of.b .nil pass0 (pa_cons (pv 2) (pa_cons (pv 4) pa_nil))) (nomark _))))))), ?_⟩
  refine ⟨_, rfl, p, es, us, rfl, hB, hK.l6, hK.nc, hK.nd, fun aD H1 akvs hA0 s1 hA hk => ?_⟩
  have hnd := asksB_nd hK.nd
  have hB1 : TBkAt H1 es us p := ⟨s1 _ _ hB.1, hB.2.imp fun _ _ z => TErV.tk (tk_same s1) z⟩
  obtain ⟨i0, e0, hi0, he0, hfi⟩ := at_first hf
  refine ⟨_, rfl, _, rfl, p, es, us, f, rfl, hB1, fun i e hi he _ v hv' => ?_, fun hno => absurd he0 (hno e0 (mem_of_get hi0))⟩
  obtain ⟨qa, ra, ba, rfl, _⟩ := hv'
  refine ⟨rfl, _, rfl, itF rfl ?_⟩
  refine ⟨_, rfl, _, rfl, _, rfl, f, L, aD, asksB es, akvs, ps, rs, rfl, s1 _ _ hL, hv.imp fun _ _ z => z.tk (tk_same s1), hpl, hA, hk, hnd, fun g wt hend H2 s2 => ?_, fun hend H2 s2 => ?_⟩
  rotate_left
  · refine ⟨rfl, _, rfl, itT rfl ?_⟩
    exact q2 (fun ⟨⟨g, wt, z, _⟩, _⟩ => by rw [hend] at z; cases z) H2 (s1.trans s2)
  refine ⟨rfl, _, rfl, itF rfl ?_⟩
  have s12 := s1.trans s2
  refine ⟨_, rfl, Dl, LvI N li, N, rfl, .inl (s12 _ _ hD), LvI.keys N li, by omega, fun ys p3 hys hss hpn3 => ?_⟩
  have s3 := same_new hpn3 (.lst (ys.map V.str))
  have h3 : (upd H2 p3 (.lst (ys.map V.str))) p3 = some (.lst (ys.map V.str)) := upd_same
  have s23 := s2.trans s3
  generalize upd H2 p3 (.lst (ys.map V.str)) = H3 at s3 h3 s23
  refine ⟨_, rfl, _, rfl, f, aD, asksB es, akvs, rfl, s23 _ _ hA, hk.tk (tk_same s23), Nat.le_trans hK.al (by decide), fun D4 H4 R kvs W hD4 s4 hW4 h4 hR ok hRl hRn => ?_⟩
  have hRM : ∀ n ∈ R.map (·.1), n ∈ es.map (·.1) := fun n hn => by
    obtain ⟨x, hx, e⟩ := List.mem_map.mp hn
    rw [← e]
    exact rch_in hf hK.tg ⟨x.2, ok.so x hx⟩
  have hR6 : (R.map (·.1)).length ≤ 6 := by
    have := nodup_le ok.nd hRM
    rw [List.length_map (as := es)] at this
    have := hK.l6
    omega
  have hRr : ∀ x, x ∈ R.map (·.1) ↔ Rch (asksB es) f x := fun x => ⟨fun hx => by
    obtain ⟨y, hy, e⟩ := List.mem_map.mp hx
    exact ⟨y.2, by rw [← e]; exact ok.so y hy⟩, fun ⟨r, hr⟩ => ok.all hr⟩
  refine ⟨D4, kvs, R.map (·.1), rfl, .inl h4, by rw [hR.keys, List.map_map]; rfl, by omega, fun zs p5 hzs hzz hpn5 => ?_⟩
  have s5 := same_new hpn5 (.lst (zs.map V.str))
  have h5 : (upd H4 p5 (.lst (zs.map V.str))) p5 = some (.lst (zs.map V.str)) := upd_same
  have s45 := s4.trans s5
  generalize upd H4 p5 (.lst (zs.map V.str)) = H5 at s5 h5 s45
  have hyo : SeqAt.shaped (.list (ys.map PyData.str)) = true := shaped_strsK fun x hx => hNo x (hys.mem_iff.mp hx)
  have hzo : SeqAt.shaped (.list (zs.map PyData.str)) = true := shaped_strsK fun x hx => by
    obtain ⟨e, he, e1⟩ := List.mem_map.mp (hRM x (hzs.mem_iff.mp hx))
    rw [← e1]
    exact isW_ok (hK.ws e he).1
  refine ⟨.list (ys.map .str), .list (zs.map .str), .lst (SqL.of (s45 _ _ h3)) (dp_strs ys), .lst (SqL.of h5) (dp_strs zs), hyo, hzo, _, rfl, ?_⟩
  have heq : PyData.eqv (.list (ys.map PyData.str)) (.list (zs.map PyData.str)) = decide (ys = zs) := eqv_strs ys zs
  have hyz := sorted_iff hnN ok.nd hys hss hzs hzz
  have s15 := s23.trans s45
  have s05 := s1.trans s15
  rw [heq]
  by_cases c : ys = zs
  · have hNR : ∀ x, x ∈ N ↔ Rch (asksB es) f x := fun x => (hyz.mp c x).trans (hRr x)
    refine itF (by rw [decide_eq_true c]; rfl) ?_
    have hcl : Cl (asksB es) N := cl_rch hNR
    refine ⟨_, rfl, _, rfl, Dl, aD, asksB es, akvs, N, li, rfl, s05 _ _ hD, hNl, s15 _ _ hA, hk.tk (tk_same s15), hcl, fun hlev H6 s6 => ?_, fun hlev H6 s6 => ?_⟩
    · refine ⟨_, rfl, itF rfl ?_⟩
      have s06 := s05.trans s6
      have hfN : f ∈ N := (hNR f).mpr ⟨[], .nil⟩
      obtain ⟨r, hr1, hr2, hr3⟩ := endR_row hend
      refine ⟨_, rfl, _, rfl, Dl, _, rfl, by rw [← lvI_val hfN]; exact DGet.k (k := .inr f) (s06 _ _ hD), ?_⟩
      have s16 := s15.trans s6
      refine ⟨_, rfl, _, rfl, L, aD, asksB es, akvs, r, rs, rfl, s06 _ _ hL, by rw [hr1]; exact hv.imp fun _ _ z => z.tk (tk_same s06), hul, s16 _ _ hA, hk.tk (tk_same s16), hnd, hr2, fun H7 s7 => ?_⟩
      refine ⟨rfl, ?_⟩
      have hwr : wtR r = wt := by
        have : wt = 0 + wtR r := hr3
        omega
      show Q (.bl (decide (V.int (li f) = V.int (wtR r : Int)))) H7
      by_cases c2 : li f = (wt : Int)
      · rw [hwr, decide_eq_true (by rw [c2])]
        exact q1 ⟨⟨g, wt, hend, c2⟩, hNR, hlev⟩ H7 (s06.trans s7)
      · rw [hwr, decide_eq_false (fun z => c2 (V.int.inj z))]
        exact q2 (fun ⟨⟨g', wt', z1, z2⟩, _⟩ => by
          rw [hend] at z1
          cases z1
          exact c2 z2) H7 (s06.trans s7)
    · refine ⟨_, rfl, itT rfl ?_⟩
      exact q2 (fun z => hlev z.2.2) H6 (s05.trans s6)
  · refine itT (by rw [decide_eq_false c]; rfl) ?_
    exact q2 (fun z => c (hyz.mpr fun x => (z.2.1 x).trans (hRr x).symm)) H5 s05
/-! ### shows_ring -/
def spSRing : Sp := fun vs H Q _ => ∃ (p L1 L2 : Addr) (es : List TEr) (us rs ss : List V) (f : Str) (ps qs : List Pl), vs = [.ref p, .str f, .ref L1, .ref L2] ∧ TBkAt H es us p ∧ BkE es ∧ f ∈ es.map (·.1) ∧ H L1 = some (.lst rs) ∧ All2 (PlcV H) ps rs ∧ (∀ p ∈ ps, p.2.length ≤ 1000) ∧ H L2 = some (.lst ss) ∧ All2 (PlcV H) qs ss ∧ (∀ p ∈ qs, p.2.length ≤ 1000) ∧ ss.length ≤ 1000000 ∧
  (RingB (asksB es) f ps qs → ∀ H', Same H H' → Q (.bl true) H') ∧ (¬ RingB (asksB es) f ps qs → ∀ H', Same H H' → Q (.bl false) H')
abbrev sshows_ring : Stmt := top 26
theorem scshows_ring : FnScope ["turned", "f", "lead", "ring", "asks", "first"] ["turned", "f", "lead", "ring"] (defScope sshows_ring) := ⟨rfl, rfl, rfl, by decide +kernel, rfl, by decide +kernel, by decide +kernel⟩
theorem ok_sring (T : Txt K mg) {f f1 f3 f6 : Addr} {fd d1 d3 d6 : FuncData} (F : Fun K "shows_ring" "shows_ring" sshows_ring f fd) (Gasks_placed : FnOk P w K mg base CX0 4 f1 d1 ["turned"] spAsks) (Rasks_placed : Ref K mg "asks_placed" f1 d1 ["turned"]) (Gled_to : FnOk P w K mg base CX0 2 f3 d3 ["f", "row", "asks"] spLed) (Rled_to : Ref K mg "led_to" f3 d3 ["f", "row", "asks"]) (Gweight_of : FnOk P w K mg base CX0 1 f6 d6 ["row", "asks"] spWeight) (Rweight_of : Ref K mg "weight_of" f6 d6 ["row", "asks"]) : FnOk P w K mg base CX0 5 f fd ["turned", "f", "lead", "ring"] spSRing := by
  refine F.ok scshows_ring (fun vs H Q E h => ?_) (fun cdv A outer s H vs Q E hr h => ?_)
  · obtain ⟨p, L1, L2, es, us, rs, ss, f, ps, qs, rfl, _⟩ := h
    rfl
  obtain ⟨p, L1, L2, es, us, rs, ss, f, ps, qs, rfl, hB, hK, hf, hL1, hv1, hpl1, hL2, hv2, hpl2, hul, q1, q2⟩ := h
  refine ⟨_, (pss_cons (ps_set (i := 4) scshows_ring.nd rfl (Or.inl rfl) (pe_call Gasks_placed (hr.mono (by omega)) rfl Rasks_placed.m Rasks_placed.k Rasks_placed.b .nil pass0 (pa_cons (pv 0) pa_nil)))
    (pss_cons (ps_set (i := 5) scshows_ring.nd rfl (Or.inl rfl) (pe_call Gled_to (hr.mono (by omega)) rfl Rled_to.m Rled_to.k Rled_to.b .nil pass0 (pa_cons (pv 1) (pa_cons (pv 2) (pa_cons (pv 4) pa_nil)))))
    (pss_cons (ps_if (PW.pt (pw_or (pt_cmpR op_isN (pv 5) pe_non (nomark _)) (pw_or1 (pt_cmpR op_ne (pe_call Gled_to (hr.mono (by omega)) rfl Rled_to.m Rled_to.k Rled_to.b .nil pass0 (pa_cons (pv 5) (pa_cons (pv 3) (pa_cons (pv 4) pa_nil)))) (pv 5) (nomark _))))) (pss_one (ps_ret pe_bl)) pss_nil)
    (pss_one (ps_ret (pe_cmpR op_gt (pe_call Gweight_of (hr.mono (by omega)) rfl Rweight_of.m Rweight_of.k Rweight_of.b .nil pass0 (pa_cons (pv 3) (pa_cons (pv 4) pa_nil))) pe_int (nomark _))))))), ?_⟩
  refine ⟨_, rfl, p, es, us, rfl, hB, hK.l6, hK.nc, hK.nd, fun aD H1 akvs hA0 s1 hA hk => ?_⟩
  have hnd := asksB_nd hK.nd
  refine ⟨_, rfl, _, rfl, _, rfl, f, L1, aD, asksB es, akvs, ps, rs, rfl, s1 _ _ hL1, hv1.imp fun _ _ z => z.tk (tk_same s1), hpl1, hA, hk, hnd, fun g wt hend H2 s2 => ?_, fun hend H2 s2 => ?_⟩
  rotate_left
  · refine ⟨_, rfl, rfl, _, rfl, itT rfl ?_⟩
    exact q2 (fun ⟨g, w1, w2, z, _⟩ => by rw [hend] at z; cases z) H2 (s1.trans s2)
  refine ⟨_, rfl, rfl, _, rfl, itF rfl ?_⟩
  have s12 := s1.trans s2
  refine ⟨_, rfl, _, rfl, _, rfl, g, L2, aD, asksB es, akvs, qs, ss, rfl, s12 _ _ hL2, hv2.imp fun _ _ z => z.tk (tk_same s12), hpl2, s2 _ _ hA, hk.tk (tk_same s2), hnd, fun g2 w2 hend2 H3 s3 => ?_, fun hend2 H3 s3 => ?_⟩
  · have s13 := s12.trans s3
    refine ⟨_, rfl, rfl, _, rfl, ?_⟩
    by_cases c : g2 = g
    · subst c
      refine itF (by rw [decide_eq_true rfl]; rfl) ?_
      obtain ⟨r, hr1, hr2, hr3⟩ := endR_row hend2
      have hwr : wtR r = w2 := by
        have : w2 = 0 + wtR r := hr3
        omega
      have s23 := s2.trans s3
      refine ⟨_, rfl, _, rfl, L2, aD, asksB es, akvs, r, ss, rfl, s13 _ _ hL2, by rw [hr1]; exact hv2.imp fun _ _ z => z.tk (tk_same s13), hul, s23 _ _ hA, hk.tk (tk_same s23), hnd, hr2, fun H4 s4 => ?_⟩
      refine ⟨_, _, rfl, rfl, ?_⟩
      show Q (.bl (decide ((0 : Int) < (wtR r : Int)))) H4
      by_cases c2 : 0 < w2
      · rw [hwr, decide_eq_true (by omega)]
        exact q1 ⟨g2, wt, w2, hend, hend2, c2⟩ H4 (s13.trans s4)
      · rw [hwr, decide_eq_false (by omega)]
        exact q2 (fun ⟨g', w1', w2', z1, z2, z3⟩ => by
          rw [hend] at z1
          cases z1
          rw [hend2] at z2
          cases z2
          exact c2 z3) H4 (s13.trans s4)
    · refine itT (by show (!decide (V.str g2 = V.str g)) = true; rw [decide_eq_false (fun z => c (V.str.inj z))]; rfl) ?_
      exact q2 (fun ⟨g', w1', w2', z1, z2, z3⟩ => by
        rw [hend] at z1
        cases z1
        rw [hend2] at z2
        cases z2
        exact c rfl) H3 s13
  · refine ⟨_, rfl, rfl, _, rfl, itT rfl ?_⟩
    exact q2 (fun ⟨g', w1', w2', z1, z2, z3⟩ => by
      rw [hend] at z1
      cases z1
      rw [hend2] at z2
      cases z2) H3 (s12.trans s3)
end
end KB

set_option pp.maxSteps 400
namespace KB
open PySem L2 HT LamX NdefX

section
variable {P : Program} {w : World} {K : PySem.W.Frag} {mg : Str → Option Value} {base : Heap}
/-! ### _law_is_ring, any rows -/
def spLRing : Sp := fun vs H Q _ => ∃ (D Lp Lq : Addr) (es : List TEr) (kvs : List (L2.Key × V)) (f : Str) (ps qs : List Pl) (rs ss : List V), vs = [.ref D, .str f, .ref Lp, .ref Lq] ∧ LB H D es kvs ∧ f ∈ es.map (·.1) ∧ H Lp = some (.lst rs) ∧ All2 (PlcV H) ps rs ∧ (∀ p ∈ ps, PySem.PyData.strOk p.1 = true) ∧ H Lq = some (.lst ss) ∧ All2 (PlcV H) qs ss ∧ (∀ p ∈ qs, PySem.PyData.strOk p.1 = true) ∧
  (RingB (asksB es) f ps qs → ∀ H', Same H H' → Q (.bl true) H') ∧ (¬ RingB (asksB es) f ps qs → ∀ H', Same H H' → Q (.bl false) H')
abbrev s_law_is_ring : Stmt := top 53
theorem scLis_ring : FnScope ["asks", "f", "lead", "ring", "g"] ["asks", "f", "lead", "ring"] (defScope s_law_is_ring) := ⟨rfl, rfl, rfl, by decide +kernel, rfl, by decide +kernel, by decide +kernel⟩
theorem ok_lring (T : Txt K mg) {f f1 : Addr} {fd d1 : FuncData} (F : Fun K "_law_is_ring" "_law_is_ring" s_law_is_ring f fd) (G_law_row_end : FnOk P w K mg base CX0 1 f1 d1 ["asks", "f", "row"] spRowE) (R_law_row_end : Ref K mg "_law_row_end" f1 d1 ["asks", "f", "row"]) : FnOk P w K mg base CX0 2 f fd ["asks", "f", "lead", "ring"] spLRing := by
  refine F.ok scLis_ring (fun vs H Q E h => ?_) (fun cdv A outer s H vs Q E hr h => ?_)
  · obtain ⟨D, Lp, Lq, es, kvs, f, ps, qs, rs, ss, rfl, _⟩ := h
    rfl
  obtain ⟨D, Lp, Lq, es, kvs, f, ps, qs, rs, ss, rfl, hB, hf, hL1, hv1, ho1, hL2, hv2, ho2, q1, q2⟩ := h
  refine ⟨_, (pss_cons (ps_set (i := 4) scLis_ring.nd rfl (Or.inl rfl) (pe_ix ix_tup (pe_call G_law_row_end (hr.mono (by omega)) rfl R_law_row_end.m R_law_row_end.k R_law_row_end.b .nil pass0 (pa_cons (pv 0) (pa_cons (pv 1) (pa_cons (pv 2) pa_nil)))) pe_int (fun _ _ => rfl)))
    (pss_cons (ps_if (pt_cmpR op_isN (pv 4) pe_non (nomark _)) (pss_one (ps_ret pe_bl)) pss_nil)
    (pss_one (ps_ret (pe_and (pe_cmpR op_eq (pe_ix ix_tup (pe_call G_law_row_end (hr.mono (by omega)) rfl R_law_row_end.m R_law_row_end.k R_law_row_end.b .nil pass0 (pa_cons (pv 0) (pa_cons (pv 4) (pa_cons (pv 3) pa_nil)))) pe_int (fun _ _ => rfl)) (pv 4) (nomark _)) (pe_one (pe_cmpR op_gt (pe_ix ix_tup (pe_call G_law_row_end (hr.mono (by omega)) rfl R_law_row_end.m R_law_row_end.k R_law_row_end.b .nil pass0 (pa_cons (pv 0) (pa_cons (pv 4) (pa_cons (pv 3) pa_nil)))) pe_int (fun _ _ => rfl)) pe_int (nomark _)))))))), ?_⟩
  refine ⟨_, rfl, _, rfl, _, rfl, D, Lp, es, kvs, f, ps, rs, rfl, hB, hf, hL1, hv1, ho1, fun g wt hend hg t3 H3 s3 h3 => ⟨t3, _, _, _, rfl, rfl, SqT.of h3, at0, ?_⟩, fun hend t3 H3 s3 h3 => ⟨t3, _, _, _, rfl, rfl, SqT.of h3, at0, ?_⟩⟩
  rotate_left
  · refine ⟨_, rfl, rfl, _, rfl, itT rfl ?_⟩
    exact q2 (fun ⟨g, w1, w2, z, _⟩ => by rw [hend] at z; cases z) H3 s3
  refine ⟨_, rfl, rfl, _, rfl, itF rfl ?_⟩
  have hB3 := hB.same s3
  refine ⟨_, rfl, _, rfl, _, rfl, D, Lq, es, kvs, g, qs, ss, rfl, hB3, hg, s3 _ _ hL2, hv2.imp fun _ _ z => z.tk (tk_same s3), ho2, fun g2 w2 hend2 hg2 t4 H4 s4 h4 => ⟨t4, _, _, _, rfl, rfl, SqT.of h4, at0, ?_⟩, fun hend2 t4 H4 s4 h4 => ⟨t4, _, _, _, rfl, rfl, SqT.of h4, at0, ?_⟩⟩
  · have s34 := s3.trans s4
    have hB4 := hB.same s34
    refine ⟨_, rfl, rfl, _, rfl, ?_⟩
    by_cases c : g2 = g
    · subst c
      refine itT (decide_eq_true rfl) ?_
      refine ⟨_, rfl, _, rfl, _, rfl, D, Lq, es, kvs, g2, qs, ss, rfl, hB4, hg, s34 _ _ hL2, hv2.imp fun _ _ z => z.tk (tk_same s34), ho2, fun g3 w3 hend3 hg3 t5 H5 s5 h5 => ⟨t5, _, _, _, rfl, rfl, SqT.of h5, at1, ?_⟩, fun hend3 => by rw [hend2] at hend3; cases hend3⟩
      rw [hend2] at hend3
      cases hend3
      refine ⟨_, _, rfl, rfl, ?_⟩
      show Q (.bl (decide ((0 : Int) < (w2 : Int)))) H5
      by_cases c2 : 0 < w2
      · rw [decide_eq_true (by omega)]
        exact q1 ⟨g2, wt, w2, hend, hend2, c2⟩ H5 (s34.trans s5)
      · rw [decide_eq_false (by omega)]
        exact q2 (fun ⟨g', w1', w2', z1, z2, z3⟩ => by
          rw [hend] at z1
          cases z1
          rw [hend2] at z2
          cases z2
          exact c2 z3) H5 (s34.trans s5)
    · refine itF (decide_eq_false (fun z => c (V.str.inj z))) ?_
      exact q2 (fun ⟨g', w1', w2', z1, z2, z3⟩ => by
        rw [hend] at z1
        cases z1
        rw [hend2] at z2
        cases z2
        exact c rfl) H4 s34
  · refine ⟨_, rfl, rfl, _, rfl, itF rfl ?_⟩
    exact q2 (fun ⟨g', w1', w2', z1, z2, z3⟩ => by
      rw [hend] at z1
      cases z1
      rw [hend2] at z2
      cases z2) H4 (s3.trans s4)
/-! ### _law_is_most, any row and levels -/
def spLMost : Sp := fun vs H Q _ => ∃ (D L Dl : Addr) (es : List TEr) (kvs : List (L2.Key × V)) (f : Str) (ps : List Pl) (rs : List V) (N : List Str) (li : Str → Int), vs = [.ref D, .str f, .ref L, .ref Dl] ∧ LB H D es kvs ∧ f ∈ es.map (·.1) ∧ H L = some (.lst rs) ∧ All2 (PlcV H) ps rs ∧ (∀ p ∈ ps, PySem.PyData.strOk p.1 = true) ∧
  H Dl = some (.dK (LvI N li)) ∧ N.Nodup ∧ N.length ≤ 10 ∧ (∀ n ∈ N, PySem.PyData.strOk n = true) ∧ (MostB (asksB es) f ps N li → ∀ H', Same H H' → Q (.bl true) H') ∧ (¬ MostB (asksB es) f ps N li → ∀ H', Same H H' → Q (.bl false) H')
abbrev s_law_is_most : Stmt := top 52
theorem scLis_most : FnScope ["asks", "f", "row", "levels", "some", "name", "place", "g", "weight"] ["asks", "f", "row", "levels"] (defScope s_law_is_most) := ⟨rfl, rfl, rfl, by decide +kernel, rfl, by decide +kernel, by decide +kernel⟩
theorem ok_lmost (T : Txt K mg) (mso : mg "sorted" = none) (mmin : mg "min" = none) {f f1 f2 : Addr} {fd d1 d2 : FuncData} (F : Fun K "_law_is_most" "_law_is_most" s_law_is_most f fd) (G_law_come_to : FnOk P w K mg base CX0 1 f1 d1 ["asks", "f"] spCome) (R_law_come_to : Ref K mg "_law_come_to" f1 d1 ["asks", "f"]) (G_law_row_end : FnOk P w K mg base CX0 1 f2 d2 ["asks", "f", "row"] spRowE) (R_law_row_end : Ref K mg "_law_row_end" f2 d2 ["asks", "f", "row"]) : FnOk P w K mg base CX0 2 f fd ["asks", "f", "row", "levels"] spLMost := by
  refine F.ok scLis_most (fun vs H Q E h => ?_) (fun cdv A outer s H vs Q E hr h => ?_)
  · obtain ⟨D, L, Dl, es, kvs, f, ps, rs, N, li, rfl, _⟩ := h
    rfl
  obtain ⟨D, L, Dl, es, kvs, f, ps, rs, N, li, rfl, hB, hf, hL, hv, hpo, hD, hnN, hNl, hNo, q1, q2⟩ := h
  refine ⟨_, (pss_cons (ps_set (i := 4) scLis_most.nd rfl (Or.inl rfl) (pe_call G_law_come_to (hr.mono (by omega)) rfl R_law_come_to.m R_law_come_to.k R_law_come_to.b .nil pass0 (pa_cons (pv 0) (pa_cons (pv 1) pa_nil))))
    (pss_cons (ps_if (PW.pt (pw_or (pt_cmpR op_isN (pe_ix ix_tup (pe_call G_law_row_end (hr.mono (by omega)) rfl R_law_row_end.m R_law_row_end.k R_law_row_end.b .nil pass0 (pa_cons (pv 0) (pa_cons (pv 1) (pa_cons (pv 2) pa_nil)))) pe_int (fun _ _ => rfl)) pe_non (nomark _)) (pw_or1 (pt_cmpR (op_neD hr.units) (pe_callB (call_sortedD rfl) (by rfl) mso (by decide +kernel) (pa_cons (pv 3) pa_nil)) (pv 4) (nomark _))))) (pss_one (ps_ret pe_bl)) pss_nil)
    (pss_cons (ps_if (PW.pt (pw_or (pt_cmpR op_ne (pe_dget (hu_of hr) (pv 3) (pv 1) (fun _ _ => rfl)) (pe_ix ix_tup (pe_call G_law_row_end (hr.mono (by omega)) rfl R_law_row_end.m R_law_row_end.k R_law_row_end.b .nil pass0 (pa_cons (pv 0) (pa_cons (pv 1) (pa_cons (pv 2) pa_nil)))) pe_int (fun _ _ => rfl)) (nomark _)) (pw_or1 (pt_cmpR op_lt (pe_callB (cr_min rfl) (by rfl) mmin (by decide +kernel) (pa_cons (pe_lc (own := [("name", 5)]) (g := gName 5) (by rfl) scLis_most.nd (pi_list (pv 4)) (blkOk_by (own := [("name", 5)]) (N := ["asks", "f", "row", "levels", "some", "name", "place", "g", "weight"]) (sc := defScope s_law_is_most) (by decide +kernel)) (fun _ _ _ _ _ => (pg_name (i := 5) scLis_most.nd rfl (Or.inl rfl))) (fun _ _ _ _ _ => pts_nil) (fun _ _ _ _ _ => (pe_dget (hu_of hr) (pv 3) (pv 5) (fun _ _ => rfl)))) pa_nil)) pe_int (nomark _))))) (pss_one (ps_ret pe_bl)) pss_nil)
    (pss_cons (ps_for PassesOwn.never rfl (pi_list (pv 4)) (pg_name (i := 5) scLis_most.nd rfl (Or.inr rfl)) (pss_one (ps_if (pt_not (pt_val (pe_callB (cr_all rfl) (by rfl) T.m_all (by decide +kernel) (pa_cons (pe_lc (own := [("place", 6), ("g", 7), ("weight", 8)]) (g := gTup K 3 (gCons (gName 6) (gCons (gName 7) (gCons (gName 8) gNil)))) (by rfl) scLis_most.nd (pi_list (pe_dget (hu_of hr) (pv 0) (pv 5) (fun _ _ => rfl))) (blkOk_by (own := [("place", 6), ("g", 7), ("weight", 8)]) (N := ["asks", "f", "row", "levels", "some", "name", "place", "g", "weight"]) (sc := defScope s_law_is_most) (by decide +kernel)) (fun _ _ _ _ _ => (pg_tup rfl (pgs_cons (pg_name (i := 6) scLis_most.nd rfl (Or.inl rfl)) (pgs_cons (pg_name (i := 7) scLis_most.nd rfl (Or.inl rfl)) (pgs_cons (pg_name (i := 8) scLis_most.nd rfl (Or.inl rfl)) pgs_nil))))) (fun _ _ _ _ _ => pts_nil) (fun _ _ _ _ _ => (pe_cmpR op_ge (pe_dget (hu_of hr) (pv 3) (pv 5) (fun _ _ => rfl)) (pe_op op_add (pe_dget (hu_of hr) (pv 3) (pv 7) (fun _ _ => rfl)) (pv 8)) (nomark _)))) pa_nil)))) (pss_one (ps_ret pe_bl)) pss_nil)))
    (pss_one (ps_ret pe_bl)))))), ?_⟩
  refine ⟨_, rfl, _, rfl, D, es, kvs, f, rfl, hB, hf, fun Ls H1 N1 hLs s1 h1 hnd1 hso1 hmem1 hl61 => ?_⟩
  have hB1 := hB.same s1
  have hNM : ∀ n ∈ N1, n ∈ es.map (·.1) := fun n hn => rch_in hf hB.tg ((hmem1 n).mp hn)
  refine ⟨_, rfl, _, rfl, _, rfl, D, L, es, kvs, f, ps, rs, rfl, hB1, hf, s1 _ _ hL, hv.imp fun _ _ z => z.tk (tk_same s1), hpo, fun g wt hend hg t2 H2 s2 h2 => ⟨t2, _, _, _, rfl, rfl, SqT.of h2, at0, ?_⟩, fun hend t2 H2 s2 h2 => ⟨t2, _, _, _, rfl, rfl, SqT.of h2, at0, ?_⟩⟩
  rotate_left
  · refine ⟨rfl, _, rfl, itT rfl ?_⟩
    exact q2 (fun ⟨⟨g, wt, z, _⟩, _⟩ => by rw [hend] at z; cases z) H2 (s1.trans s2)
  have s12 := s1.trans s2
  refine ⟨rfl, _, rfl, itF rfl ?_⟩
  refine ⟨_, rfl, Dl, LvI N li, N, rfl, .inl (s12 _ _ hD), LvI.keys N li, by omega, fun ys p hys hss hpn => ?_⟩
  have s3 := same_new hpn (.lst (ys.map V.str))
  have h3 : (upd H2 p (.lst (ys.map V.str))) p = some (.lst (ys.map V.str)) := upd_same
  have s13 := s12.trans s3
  have h13 := s2.trans s3
  generalize upd H2 p (.lst (ys.map V.str)) = H3 at s3 h3 s13 h13
  have hLs3 := h13 _ _ h1
  have hyo : SeqAt.shaped (.list (ys.map PyData.str)) = true := shaped_strsK fun x hx => hNo x (hys.mem_iff.mp hx)
  have hzo : SeqAt.shaped (.list (N1.map PyData.str)) = true := shaped_strsK fun x hx => by
    obtain ⟨e, he, e1⟩ := List.mem_map.mp (hNM x hx)
    rw [← e1]
    exact isW_ok (hB.ws e he).1
  refine ⟨_, rfl, .list (ys.map .str), .list (N1.map .str), .lst (SqL.of h3) (dp_strs ys), .lst (SqL.of hLs3) (dp_strs N1), hyo, hzo, _, rfl, ?_⟩
  have heq : PyData.eqv (.list (ys.map PyData.str)) (.list (N1.map PyData.str)) = decide (ys = N1) := eqv_strs ys N1
  have hyz := sorted_iff hnN hnd1 hys hss (List.Perm.refl N1) hso1
  rw [heq]
  by_cases c : ys = N1
  rotate_left
  · refine itT (by rw [decide_eq_false c]; rfl) ?_
    exact q2 (fun z => c (hyz.mpr fun x => (z.2.1 x).trans (hmem1 x).symm)) H3 s13
  refine itF (by rw [decide_eq_true c]; rfl) ?_
  have hNR : ∀ x, x ∈ N ↔ Rch (asksB es) f x := fun x => (hyz.mp c x).trans (hmem1 x)
  have hNN : ∀ n ∈ N1, n ∈ N := fun n hn => (hyz.mp c n).mpr hn
  have hfN : f ∈ N := (hNR f).mpr ⟨[], .nil⟩
  have hcl : Cl (asksB es) N := cl_rch hNR
  have hB3 := hB.same s13
  refine ⟨_, rfl, _, rfl, Dl, _, rfl, by rw [← lvI_val hfN]; exact DGet.k (k := .inr f) (s13 _ _ hD), ?_⟩
  refine ⟨_, rfl, _, rfl, _, rfl, D, L, es, kvs, f, ps, rs, rfl, hB3, hf, s13 _ _ hL, hv.imp fun _ _ z => z.tk (tk_same s13), hpo, fun g' wt' hend' hg' t4 H4 s4 h4 => ⟨t4, _, _, _, rfl, rfl, SqT.of h4, at1, ?_⟩, fun hend' => by rw [hend] at hend'; cases hend'⟩
  rw [hend] at hend'
  cases hend'
  have s14 := s13.trans s4
  refine ⟨rfl, _, rfl, ?_⟩
  by_cases c2 : li f = (wt : Int)
  rotate_left
  · refine itT (by show (!decide (V.int (li f) = V.int (wt : Int))) = true; rw [decide_eq_false (fun z => c2 (V.int.inj z))]; rfl) ?_
    exact q2 (fun ⟨⟨g', wt', z1, z2⟩, _⟩ => by
      rw [hend] at z1
      cases z1
      exact c2 z2) H4 s14
  refine itF (by show (!decide (V.int (li f) = V.int (wt : Int))) = false; rw [decide_eq_true (by rw [c2])]; rfl) ?_
  have hLs4 := s4 _ _ hLs3
  refine ⟨_, rfl, Ls, rfl, ⟨_, SqL.of hLs4⟩, fun D2 hD2 => lc_list (K := K) (a := Ls) (xs := N1.map V.str) (fun j H' => Same H4 H' ∧ H' D2 = some (.lst (((N1.take j).map li).map V.int))) ⟨same_new hD2 _, upd_same⟩ ?_ ?_ ?_⟩
  · rintro j H' _ ⟨s5, _⟩
    exact SqL.of (s5 _ _ hLs4)
  · rintro j x H5 hx ⟨s5, h5⟩
    obtain ⟨n, hn, rfl⟩ := Option.map_eq_some_iff.mp (by rw [List.getElem?_map] at hx; exact hx)
    obtain ⟨hj, hjn⟩ := List.getElem?_eq_some_iff.mp hn
    have hnN := hNN n (mem_of_get hn)
    refine ⟨rfl, ?_⟩
    dsimp only [tYes]
    refine iteT ?_
    refine ⟨_, rfl, _, rfl, Dl, _, rfl, by rw [← lvI_val hnN]; exact DGet.k (k := .inr n) ((s14.trans s5) _ _ hD), _, h5, Nat.lt_of_le_of_lt (m := 6) (by rw [List.length_map, List.length_map, List.length_take]; omega) (by decide), same_mut s5 hD2, ?_⟩
    rw [upd_same, List.take_succ_eq_append_getElem hj, hjn, List.map_append, List.map_append]
    rfl
  · rintro H5 ⟨s5, h5⟩
    rw [List.length_map, List.take_length] at h5
    have hpos : 0 < N1.length := List.length_pos_of_mem ((hmem1 f).mpr ⟨[], .nil⟩)
    refine ⟨D2, _, rfl, SqL.of h5, by rw [List.length_map]; exact hpos, fun m hm hmin => ?_⟩
    refine ⟨_, _, rfl, rfl, _, rfl, ?_⟩
    have s15 := s14.trans s5
    by_cases c3 : m < 0
    · refine itT (decide_eq_true c3) ?_
      obtain ⟨n, hn, rfl⟩ := List.mem_map.mp hm
      exact q2 (fun z => by
        have := z.2.2.1 n (hNN n hn)
        omega) H5 s15
    refine itF (decide_eq_false c3) ?_
    have hge : ∀ n ∈ N, 0 ≤ li n := fun n hn => by
      have := hmin _ (List.mem_map.mpr ⟨n, (hyz.mp c n).mp hn, rfl⟩)
      omega
    have hLs5 := s5 _ _ hLs4
    refine ⟨_, rfl, Ls, rfl, ⟨_, SqL.of hLs5⟩, for_list (K := K) (a := Ls) (xs := N1.map V.str) (fun i σ H' => ∃ (o5 o6 o7 o8 : Option V), σ = [some (.ref D), some (.str f), some (.ref L), some (.ref Dl), some (.ref Ls), o5, o6, o7, o8] ∧ Same H5 H' ∧ ∀ (j : Nat) n, j < i → N1[j]? = some n → ∀ a ∈ asksB es, a.1.1 = n → li a.2.1 + (a.2.2 : Int) ≤ li n) ⟨_, _, _, _, rfl, Same.refl _, fun j n hj => absurd hj (Nat.not_lt_zero j)⟩ ?_ ?_ ?_⟩
    · rintro i σ H' _ ⟨o5, o6, o7, o8, rfl, s6, _⟩
      exact SqL.of (s6 _ _ hLs5)
    · rintro i x σ H6 hx ⟨o5, o6, o7, o8, rfl, s6, hp6⟩
      obtain ⟨n, hn, rfl⟩ := Option.map_eq_some_iff.mp (by rw [List.getElem?_map] at hx; exact hx)
      have hnN := hNN n (mem_of_get hn)
      have s16 := s15.trans s6
      have hB6 := hB.same s16
      obtain ⟨e, la, vl, he, hen, hg1, hla, hal⟩ := hB6.at (hNM n (mem_of_get hn))
      have hvl := hal.len
      refine ⟨_, rfl, _, rfl, D, .ref la, rfl, DGet.at hB6.rd hg1, la, rfl, ⟨_, SqL.of hla⟩, fun D3 hD3 => lc_list (K := K) (a := la) (xs := vl) (fun j H' => Same H6 H' ∧ H' D3 = some (.lst ((((asksE e).take j).map fun a => decide (li a.2.1 + (a.2.2 : Int) ≤ li n)).map V.bl))) ⟨same_new hD3 _, upd_same⟩ ?_ ?_ ?_⟩
      · rintro j H' _ ⟨s7, _⟩
        exact SqL.of (s7 _ _ hla)
      · rintro j x H7 hx7 ⟨s7, h7⟩
        obtain ⟨a, ha, tb, qc, rfl, hb1, hb2⟩ := hal.get hx7
        obtain ⟨hj, haj⟩ := List.getElem?_eq_some_iff.mp ha
        have haE := mem_of_get ha
        have haA := asks_in he haE
        have han : a.1.1 = n := (asksE_nm haE).1.trans hen
        have hgN : a.2.1 ∈ N := hcl a haA (by rw [han]; exact hnN)
        have hD7 := (s16.trans s7) _ _ hD
        refine ⟨tb, _, rfl, SqT.of (s7 _ _ hb1), rfl, _, _, rfl, _, _, rfl, _, _, rfl, rfl, rfl, ?_⟩
        dsimp only [tYes]
        refine iteT ?_
        refine ⟨_, rfl, _, rfl, Dl, _, rfl, by rw [← lvI_val hnN]; exact DGet.k (k := .inr n) hD7, ?_⟩
        refine ⟨_, rfl, _, rfl, Dl, _, rfl, by rw [← lvI_val hgN]; exact DGet.k (k := .inr a.2.1) hD7, _, rfl, _, _, rfl, rfl, ?_⟩
        refine ⟨_, _, rfl, rfl, _, h7, ?_, same_mut s7 hD3, ?_⟩
        · rw [List.length_map, List.length_map, List.length_take]
          have := (hB.ws e he).2
          exact Nat.lt_of_le_of_lt (m := 300) (by omega) (by decide)
        · rw [upd_same, List.take_succ_eq_append_getElem hj, haj, List.map_append, List.map_append]
          rfl
      · rintro H7 ⟨s7, h7⟩
        rw [hvl, List.take_length] at h7
        refine ⟨D3, _, rfl, SqL.of h7, _, rfl, ?_⟩
        have hall : ((asksE e).map fun a => decide (li a.2.1 + (a.2.2 : Int) ≤ li n)).all id = true ↔ ∀ a ∈ asksE e, li a.2.1 + (a.2.2 : Int) ≤ li n := by
          rw [List.all_eq_true]
          constructor
          · intro h a ha
            exact of_decide_eq_true (h _ (List.mem_map.mpr ⟨a, ha, rfl⟩))
          · intro h b hb
            obtain ⟨a, ha, rfl⟩ := List.mem_map.mp hb
            exact decide_eq_true (h a ha)
        by_cases c4 : ∀ a ∈ asksE e, li a.2.1 + (a.2.2 : Int) ≤ li n
        · refine itF (by rw [hall.mpr c4]; rfl) ?_
          refine ⟨_, _, _, _, rfl, s6.trans s7, fun j n' hj hn' a ha han => ?_⟩
          by_cases e1 : j = i
          · rw [e1, hn] at hn'
            cases hn'
            exact c4 a (asks_of hB.nd he ha (han.trans hen.symm))
          · exact hp6 j n' (by omega) hn' a ha han
        · refine itT (by cases z : (((asksE e).map fun a => decide (li a.2.1 + (a.2.2 : Int) ≤ li n)).all id) with | false => rfl | true => exact absurd (hall.mp z) c4) ?_
          exact q2 (fun z => c4 fun a ha => by
            have han : a.1.1 = n := (asksE_nm ha).1.trans hen
            have := z.2.2.2 a (asks_in he ha) (by rw [han]; exact hnN)
            rw [han] at this
            exact this) H7 (s16.trans s7)
    · rintro σ H6 ⟨o5, o6, o7, o8, rfl, s6, hp6⟩
      rw [List.length_map] at hp6
      refine q1 ⟨⟨g, wt, hend, c2⟩, hNR, hge, fun a ha hn => ?_⟩ H6 (s15.trans s6)
      obtain ⟨j, hj, e⟩ := List.getElem_of_mem ((hyz.mp c _).mp hn)
      exact hp6 j _ hj (by rw [List.getElem?_eq_getElem hj, e]) a ha rfl
end
end KB

set_option pp.maxSteps 400
namespace KB
open PySem L2 HT LamX NdefX

/-! ### good places, lists of them -/
def PO (q : Pl) : Prop := PySem.PyData.strOk q.1 = true ∧ q.2.length ≤ 1000
def GVv (H : Hp) (v : V) : Prop := ∃ q, PlcV H q v ∧ PO q
def GLv (H : Hp) (us : List V) : Prop := ∀ u ∈ us, GVv H u
structure Gov (H : Hp) (a : Addr) (n : Nat) : Prop where
  ex : ∃ us, H a = some (.lst us) ∧ GLv H us ∧ us.length ≤ n
theorem GVv.tk {H H' : Hp} (t : TK H H') {v : V} (h : GVv H v) : GVv H' v := let ⟨q, a, b⟩ := h; ⟨q, a.tk t, b⟩
theorem GVv.same {H H' : Hp} {v : V} (h : GVv H v) (s : Same H H') : GVv H' v := h.tk (tk_same s)
theorem GLv.tk {H H' : Hp} (t : TK H H') {us : List V} (h : GLv H us) : GLv H' us := fun u hu => (h u hu).tk t
theorem GLv.same {H H' : Hp} {us : List V} (h : GLv H us) (s : Same H H') : GLv H' us := h.tk (tk_same s)
theorem Gov.same {H H' : Hp} {a : Addr} {n : Nat} (h : Gov H a n) (s : Same H H') : Gov H' a n := let ⟨us, h1, h2, h3⟩ := h.ex; ⟨⟨us, s _ _ h1, h2.same s, h3⟩⟩
theorem Gov.le {H : Hp} {a : Addr} {n m : Nat} (h : Gov H a n) (e : n ≤ m) : Gov H a m := let ⟨us, h1, h2, h3⟩ := h.ex; ⟨⟨us, h1, h2, Nat.le_trans h3 e⟩⟩
theorem GLv.all2 {H : Hp} : ∀ {us : List V}, GLv H us → ∃ qs : List Pl, All2 (PlcV H) qs us ∧ ∀ q ∈ qs, PO q
  | [], _ => ⟨[], trivial, fun _ z => nomatch z⟩
  | u :: us, h => by
    obtain ⟨q, h1, h2⟩ := h u List.mem_cons_self
    obtain ⟨qs, k1, k2⟩ := GLv.all2 (us := us) fun x hx => h x (List.mem_cons_of_mem _ hx)
    refine ⟨q :: qs, ⟨h1, k1⟩, fun x hx => ?_⟩
    rcases List.mem_cons.mp hx with z | z
    · rw [z]; exact h2
    · exact k2 x z
theorem GLv.of {H : Hp} {qs : List Pl} {us : List V} (h : All2 (PlcV H) qs us) (p : ∀ q ∈ qs, PO q) : GLv H us := fun u hu => by
  obtain ⟨i, hi, e⟩ := List.getElem_of_mem hu
  obtain ⟨q, hq, hv⟩ := h.get (List.getElem?_eq_getElem hi)
  rw [e] at hv
  exact ⟨q, hv, p q (mem_of_get hq)⟩
theorem GLv.nt {H : Hp} {tp a : Addr} {us : List V} (t : Tp H tp) (h : H a = some (.lst us)) (g : GLv H us) : a ≠ tp := fun z => by
  obtain ⟨y, hy⟩ := t
  rw [z, hy] at h
  cases h
  obtain ⟨q, ⟨b, e, _⟩, _⟩ := g _ List.mem_cons_self
  cases e
theorem litG {H : Hp} {a : Addr} {us : List V} (h : H a = none) (g : GLv H us) : Same H (upd H a (.lst us)) ∧ Gov (upd H a (.lst us)) a us.length := ⟨same_new h _, ⟨⟨us, upd_same, g.same (same_new h _), Nat.le_refl _⟩⟩⟩
theorem cut_sub {xs : List V} {lo hi : Option Int} : ∀ u ∈ cutV xs lo hi, u ∈ xs := fun u hu => by
  unfold cutV at hu
  exact List.mem_of_mem_drop (List.mem_of_mem_take hu)
theorem slG {K : PySem.W.Frag} {H : Hp} {L : Addr} {rs : List V} (h : H L = some (.lst rs)) (g : GLv H rs) (l : rs.length ≤ 100001) (lo hi : Option Int) (Q : V → Hp → Prop) (q : ∀ a H', Same H H' → Gov H' a 100001 → Q (.ref a) H') : rSlL K (.ref L) lo hi H Q :=
  ⟨L, rs, rfl, SqL.of h, fun p hp => q p _ (same_new hp _) ⟨⟨_, upd_same, GLv.same (fun u hu => g u (cut_sub u hu)) (same_new hp _), Nat.le_trans (cutV_length _ _ _) l⟩⟩⟩
theorem revG {K : PySem.W.Frag} {H : Hp} {L : Addr} {rs : List V} (h : H L = some (.lst rs)) (g : GLv H rs) (l : rs.length ≤ 100001) (Q : V → Hp → Prop) (q : ∀ a H', Same H H' → Gov H' a 100001 → Q (.ref a) H') : ∃ a xs, V.ref L = .ref a ∧ SqL K H a xs ∧ ∀ p, H p = none → Q (.ref p) (upd H p (.lst xs.reverse)) :=
  ⟨L, rs, rfl, SqL.of h, fun p hp => q p _ (same_new hp _) ⟨⟨_, upd_same, GLv.same (fun u hu => g u (List.mem_reverse.mp hu)) (same_new hp _), by rw [List.length_reverse]; exact l⟩⟩⟩
theorem catG {H : Hp} {a b : Addr} {n m : Nat} (ga : Gov H a n) (gb : Gov H b m) (l : n + m ≤ 1000000) {Q : V → Hp → Prop} (q : ∀ c H', Same H H' → Gov H' c (n + m) → Q (.ref c) H') : rCat (.ref a) (.ref b) H Q := by
  obtain ⟨xs, h1, h2, h3⟩ := ga.ex
  obtain ⟨ys, k1, k2, k3⟩ := gb.ex
  refine ⟨a, b, xs, ys, rfl, rfl, h1, k1, Nat.le_trans (m := 1000000) (by omega) (by decide), fun p hp => q p _ (same_new hp _) ⟨⟨_, upd_same, GLv.same (fun u hu => ?_) (same_new hp _), by rw [List.length_append]; omega⟩⟩⟩
  rcases List.mem_append.mp hu with z | z
  · exact h2 u z
  · exact k2 u z
section
variable {P : Program} {w : World} {K : PySem.W.Frag} {mg : Str → Option Value} {base : Heap}
/-! ### _law_bent_row -/
def spBRow : Sp := fun vs H Q _ => ∃ (tp pl L : Addr) (vp rs : List V), vs = [.ref tp, .ref pl, .ref L] ∧ Tp H tp ∧ H pl = some (.lst vp) ∧ GLv H vp ∧ vp ≠ [] ∧ vp.length ≤ 100000 ∧ H L = some (.lst rs) ∧ GLv H rs ∧ rs.length ≤ 100001 ∧
  ∀ R H', But1 tp H H' → Tp H' tp → Gov H' R 400000 → Q (.ref R) H'
abbrev s_law_bent_row : Stmt := top 58
theorem scLbent_row : FnScope ["tape", "places", "row", "at", "place", "some"] ["tape", "places", "row"] (defScope s_law_bent_row) := ⟨rfl, rfl, rfl, by decide +kernel, rfl, by decide +kernel, by decide +kernel⟩
theorem ok_brow (T : Txt K mg) {f f1 : Addr} {fd d1 : FuncData} (F : Fun K "_law_bent_row" "_law_bent_row" s_law_bent_row f fd) (G_law_digit : FnOk P w K mg base CX0 1 f1 d1 ["tape", "many"] spDig) (R_law_digit : Ref K mg "_law_digit" f1 d1 ["tape", "many"]) : FnOk P w K mg base CX0 2 f fd ["tape", "places", "row"] spBRow := by
  refine F.ok scLbent_row (fun vs H Q E h => ?_) (fun cdv A outer s H vs Q E hr h => ?_)
  · obtain ⟨tp, pl, L, vps, rs, rfl, _⟩ := h
    rfl
  obtain ⟨tp, pl, L, vps, rs, rfl, ht, hpl, hgp, hpne, hpn, hL, hgr, hRl, q⟩ := h
  refine ⟨_, (pss_cons (ps_set (i := 3) scLbent_row.nd rfl (Or.inl rfl) (pe_call G_law_digit (hr.mono (by omega)) rfl R_law_digit.m R_law_digit.k R_law_digit.b .nil pass0 (pa_cons (pv 0) (pa_cons (pe_op op_add (pe_callB call_len_seq (by rfl) T.m_len PySem.boot_len (pa_cons (pv 2) pa_nil)) pe_int) pa_nil))))
    (pss_cons (ps_set (i := 4) scLbent_row.nd rfl (Or.inl rfl) (pe_ix ix_list (pv 1) (pe_call G_law_digit (hr.mono (by omega)) rfl R_law_digit.m R_law_digit.k R_law_digit.b .nil pass0 (pa_cons (pv 0) (pa_cons (pe_callB call_len_seq (by rfl) T.m_len PySem.boot_len (pa_cons (pv 1) pa_nil)) pa_nil))) (fun _ _ => rfl)))
    (pss_cons (ps_set (i := 5) scLbent_row.nd rfl (Or.inl rfl) (pe_lst (pa_cons (pv 2) (pa_cons (pe_op op_cat (pe_slice sl_list (pv 2) po_none (po_some (pv 3))) (pe_slice sl_list (pv 2) (po_some (pe_op op_add (pv 3) pe_int)) po_none)) (pa_cons (pe_op op_cat (pe_op op_cat (pe_slice sl_list (pv 2) po_none (po_some (pv 3))) (pe_slice sl_list (pv 2) (po_some (pv 3)) (po_some (pe_op op_add (pv 3) pe_int)))) (pe_slice sl_list (pv 2) (po_some (pv 3)) po_none)) pa_nil)))))
    (pss_cons (ps_set (i := 5) scLbent_row.nd rfl (Or.inl rfl) (pe_op op_cat (pv 5) (pe_lst (pa_cons (pe_op op_cat (pe_op op_cat (pe_slice sl_list (pv 2) po_none (po_some (pv 3))) (pe_lst (pa_cons (pv 4) pa_nil))) (pe_slice sl_list (pv 2) (po_some (pe_op op_add (pv 3) pe_int)) po_none)) (pa_cons (pe_op op_cat (pe_op op_cat (pe_slice sl_list (pv 2) po_none (po_some (pv 3))) (pe_lst (pa_cons (pv 4) pa_nil))) (pe_slice sl_list (pv 2) (po_some (pv 3)) po_none)) (pa_cons (pe_lst pa_nil) (pa_cons (pe_revL (pv 2)) pa_nil)))))))
    (pss_cons (ps_set (i := 5) scLbent_row.nd rfl (Or.inl rfl) (pe_op op_cat (pv 5) (pe_lst (pa_cons (pe_op op_cat (pe_op op_cat (pe_slice sl_list (pv 2) po_none (po_some (pv 3))) (pe_lst (pa_cons (pv 4) pa_nil))) (pe_slice sl_list (pv 2) (po_some (pv 3)) po_none)) (pa_cons (pe_op op_cat (pe_op op_cat (pe_slice sl_list (pv 2) po_none (po_some (pv 3))) (pe_lst (pa_cons (pv 4) (pa_cons (pv 4) pa_nil)))) (pe_slice sl_list (pv 2) (po_some (pv 3)) po_none)) (pa_cons (pe_lst (pa_cons (pv 4) pa_nil)) pa_nil))))))
    (pss_one (ps_ret (pe_callTy call_list_of (by rfl) T.m_list (by decide +kernel) (pa_cons (pe_ix ix_list (pv 5) (pe_call G_law_digit (hr.mono (by omega)) rfl R_law_digit.m R_law_digit.k R_law_digit.b .nil pass0 (pa_cons (pv 0) (pa_cons pe_int pa_nil))) (fun _ _ => rfl)) pa_nil))))))))), ?_⟩
  have nLt := hgr.nt ht hL
  have npt := hgp.nt ht hpl
  refine ⟨_, rfl, _, rfl, L, _, rfl, .inl (SqL.of hL), _, _, rfl, rfl, tp, _, rfl, ht, by omega, by omega, fun r1 H1 r10 r11 b1 t1 => ?_⟩
  have hpp : 0 < vps.length := List.length_pos_iff.mpr hpne
  refine ⟨_, rfl, _, rfl, _, rfl, pl, _, rfl, .inl (SqL.of (b1 _ _ npt hpl)), tp, _, rfl, t1, by omega, by omega, fun r2 H2 r20 r21 b2 t2 => ?_⟩
  obtain ⟨vp, hvp, hvpm⟩ := at_some (xs := vps) r20 r21
  have b12 := b1.trans b2
  have tk2 := But1.tk ht b12
  have hL2 := b12 _ _ nLt hL
  refine ⟨pl, _, _, _, rfl, rfl, SqL.of (b12 _ _ npt hpl), hvp, ?_⟩
  have hG := hgr.tk tk2
  have hP := (hgp vp hvpm).tk tk2
  have S : Same H2 H2 := Same.refl _
  refine ⟨_, rfl, ?_⟩
  refine ⟨_, rfl, _, rfl, _, rfl, ?_⟩
  refine slG (S _ _ hL2) (hG.same S) hRl _ _ _ fun a1 K1 s1 ga1 => ?_
  have S := S.trans s1
  refine ⟨_, rfl, _, rfl, _, _, rfl, rfl, _, rfl, ?_⟩
  dsimp only [tNoPart]
  refine slG (S _ _ hL2) (hG.same S) hRl _ _ _ fun a2 K2 s2 ga2 => ?_
  have ga1 := ga1.same s2
  have S := S.trans s2
  refine catG ga1 ga2 (by omega) fun a3 K3 s3 ga3 => ?_
  have S := S.trans s3
  refine ⟨_, rfl, _, rfl, _, rfl, ?_⟩
  refine slG (S _ _ hL2) (hG.same S) hRl _ _ _ fun a4 K4 s4 ga4 => ?_
  have ga3 := ga3.same s4
  have S := S.trans s4
  refine ⟨_, rfl, _, rfl, _, rfl, _, rfl, _, _, rfl, rfl, _, rfl, ?_⟩
  refine slG (S _ _ hL2) (hG.same S) hRl _ _ _ fun a5 K5 s5 ga5 => ?_
  have ga3 := ga3.same s5
  have ga4 := ga4.same s5
  have S := S.trans s5
  refine catG ga4 ga5 (by omega) fun a6 K6 s6 ga6 => ?_
  have ga3 := ga3.same s6
  have S := S.trans s6
  refine ⟨_, rfl, _, rfl, _, rfl, ?_⟩
  dsimp only [tNoPart]
  refine slG (S _ _ hL2) (hG.same S) hRl _ _ _ fun a7 K7 s7 ga7 => ?_
  have ga3 := ga3.same s7
  have ga6 := ga6.same s7
  have S := S.trans s7
  refine catG ga6 ga7 (by omega) fun a8 K8 s8 ga8 => ?_
  have ga3 := ga3.same s8
  have S := S.trans s8
  refine ⟨sz (by show 3 ≤ 100000; decide), fun l9 h9 => ?_⟩
  have s9 := same_new h9 (.lst [.ref L, .ref a3, .ref a8])
  have hl9 : (upd K8 l9 (.lst [.ref L, .ref a3, .ref a8])) l9 = some (.lst [.ref L, .ref a3, .ref a8]) := upd_same
  generalize upd K8 l9 (.lst [.ref L, .ref a3, .ref a8]) = K9 at s9 hl9
  have ga3 := ga3.same s9
  have ga8 := ga8.same s9
  have S := S.trans s9
  refine ⟨_, rfl, ?_⟩
  refine ⟨_, rfl, _, rfl, _, rfl, ?_⟩
  refine slG (S _ _ hL2) (hG.same S) hRl _ _ _ fun a10 K10 s10 ga10 => ?_
  have ga3 := ga3.same s10
  have ga8 := ga8.same s10
  have S := S.trans s10
  have hl9 := s10 _ _ hl9
  refine ⟨_, rfl, sz (by show 1 ≤ 100000; decide), fun a11 h11 => ?_⟩
  obtain ⟨s11, ga11⟩ := litG (us := [vp]) h11 (fun u hu => by simp only [List.mem_cons, List.not_mem_nil, or_false, or_self] at hu; rw [hu]; exact hP.same S)
  have ga11 : Gov (upd K10 a11 (.lst [vp])) a11 1 := ga11
  generalize upd K10 a11 (.lst [vp]) = K11 at s11 ga11
  have ga3 := ga3.same s11
  have ga8 := ga8.same s11
  have ga10 := ga10.same s11
  have S := S.trans s11
  have hl9 := s11 _ _ hl9
  refine catG ga10 ga11 (by omega) fun a12 K12 s12 ga12 => ?_
  have ga3 := ga3.same s12
  have ga8 := ga8.same s12
  have S := S.trans s12
  have hl9 := s12 _ _ hl9
  refine ⟨_, rfl, _, rfl, _, _, rfl, rfl, _, rfl, ?_⟩
  dsimp only [tNoPart]
  refine slG (S _ _ hL2) (hG.same S) hRl _ _ _ fun a13 K13 s13 ga13 => ?_
  have ga3 := ga3.same s13
  have ga8 := ga8.same s13
  have ga12 := ga12.same s13
  have S := S.trans s13
  have hl9 := s13 _ _ hl9
  refine catG ga12 ga13 (by omega) fun a14 K14 s14 ga14 => ?_
  have ga3 := ga3.same s14
  have ga8 := ga8.same s14
  have S := S.trans s14
  have hl9 := s14 _ _ hl9
  refine ⟨_, rfl, _, rfl, _, rfl, ?_⟩
  refine slG (S _ _ hL2) (hG.same S) hRl _ _ _ fun a15 K15 s15 ga15 => ?_
  have ga3 := ga3.same s15
  have ga8 := ga8.same s15
  have ga14 := ga14.same s15
  have S := S.trans s15
  have hl9 := s15 _ _ hl9
  refine ⟨_, rfl, sz (by show 1 ≤ 100000; decide), fun a16 h16 => ?_⟩
  obtain ⟨s16, ga16⟩ := litG (us := [vp]) h16 (fun u hu => by simp only [List.mem_cons, List.not_mem_nil, or_false, or_self] at hu; rw [hu]; exact hP.same S)
  have ga16 : Gov (upd K15 a16 (.lst [vp])) a16 1 := ga16
  generalize upd K15 a16 (.lst [vp]) = K16 at s16 ga16
  have ga3 := ga3.same s16
  have ga8 := ga8.same s16
  have ga14 := ga14.same s16
  have ga15 := ga15.same s16
  have S := S.trans s16
  have hl9 := s16 _ _ hl9
  refine catG ga15 ga16 (by omega) fun a17 K17 s17 ga17 => ?_
  have ga3 := ga3.same s17
  have ga8 := ga8.same s17
  have ga14 := ga14.same s17
  have S := S.trans s17
  have hl9 := s17 _ _ hl9
  refine ⟨_, rfl, _, rfl, _, rfl, ?_⟩
  dsimp only [tNoPart]
  refine slG (S _ _ hL2) (hG.same S) hRl _ _ _ fun a18 K18 s18 ga18 => ?_
  have ga3 := ga3.same s18
  have ga8 := ga8.same s18
  have ga14 := ga14.same s18
  have ga17 := ga17.same s18
  have S := S.trans s18
  have hl9 := s18 _ _ hl9
  refine catG ga17 ga18 (by omega) fun a19 K19 s19 ga19 => ?_
  have ga3 := ga3.same s19
  have ga8 := ga8.same s19
  have ga14 := ga14.same s19
  have S := S.trans s19
  have hl9 := s19 _ _ hl9
  refine ⟨sz (by show 0 ≤ 100000; decide), fun a20 h20 => ?_⟩
  obtain ⟨s20, ga20⟩ := litG (us := []) h20 (fun u hu => nomatch hu)
  have ga20 : Gov (upd K19 a20 (.lst [])) a20 0 := ga20
  generalize upd K19 a20 (.lst []) = K20 at s20 ga20
  have ga3 := ga3.same s20
  have ga8 := ga8.same s20
  have ga14 := ga14.same s20
  have ga19 := ga19.same s20
  have S := S.trans s20
  have hl9 := s20 _ _ hl9
  refine ⟨_, rfl, L, rs, rfl, SqL.of (S _ _ hL2), fun a21 h21 => ?_⟩
  have s21 := same_new h21 (.lst rs.reverse)
  have ga21 : Gov (upd K20 a21 (.lst rs.reverse)) a21 100001 := ⟨⟨_, upd_same, GLv.same (fun u hu => hG.same S u (List.mem_reverse.mp hu)) s21, by rw [List.length_reverse]; exact hRl⟩⟩
  generalize upd K20 a21 (.lst rs.reverse) = K21 at s21 ga21
  have ga3 := ga3.same s21
  have ga8 := ga8.same s21
  have ga14 := ga14.same s21
  have ga19 := ga19.same s21
  have ga20 := ga20.same s21
  have S := S.trans s21
  have hl9 := s21 _ _ hl9
  refine ⟨sz (by show 4 ≤ 100000; decide), fun l22 h22 => ?_⟩
  have s22 := same_new h22 (.lst [.ref a14, .ref a19, .ref a20, .ref a21])
  have hl22 : (upd K21 l22 (.lst [.ref a14, .ref a19, .ref a20, .ref a21])) l22 = some (.lst [.ref a14, .ref a19, .ref a20, .ref a21]) := upd_same
  generalize upd K21 l22 (.lst [.ref a14, .ref a19, .ref a20, .ref a21]) = K22 at s22 hl22
  have ga3 := ga3.same s22
  have ga8 := ga8.same s22
  have ga14 := ga14.same s22
  have ga19 := ga19.same s22
  have ga20 := ga20.same s22
  have ga21 := ga21.same s22
  have S := S.trans s22
  have hl9 := s22 _ _ hl9
  refine ⟨l9, l22, _, _, rfl, rfl, hl9, hl22, Nat.le_trans (m := 10) (by show 7 ≤ 10; decide) (by decide), fun l23 h23 => ?_⟩
  have s23 := same_new h23 (.lst ([.ref L, .ref a3, .ref a8] ++ [.ref a14, .ref a19, .ref a20, .ref a21]))
  have hl23 : (upd K22 l23 (.lst ([.ref L, .ref a3, .ref a8] ++ [.ref a14, .ref a19, .ref a20, .ref a21]))) l23 = some (.lst [.ref L, .ref a3, .ref a8, .ref a14, .ref a19, .ref a20, .ref a21]) := upd_same
  generalize upd K22 l23 (.lst ([.ref L, .ref a3, .ref a8] ++ [.ref a14, .ref a19, .ref a20, .ref a21])) = K23 at s23 hl23
  have ga3 := ga3.same s23
  have ga8 := ga8.same s23
  have ga14 := ga14.same s23
  have ga19 := ga19.same s23
  have ga20 := ga20.same s23
  have ga21 := ga21.same s23
  have S := S.trans s23
  refine ⟨_, rfl, ?_⟩
  refine ⟨_, rfl, _, rfl, _, rfl, ?_⟩
  refine slG (S _ _ hL2) (hG.same S) hRl _ _ _ fun a24 K24 s24 ga24 => ?_
  have ga3 := ga3.same s24
  have ga8 := ga8.same s24
  have ga14 := ga14.same s24
  have ga19 := ga19.same s24
  have ga20 := ga20.same s24
  have ga21 := ga21.same s24
  have S := S.trans s24
  have hl23 := s24 _ _ hl23
  refine ⟨_, rfl, sz (by show 1 ≤ 100000; decide), fun a25 h25 => ?_⟩
  obtain ⟨s25, ga25⟩ := litG (us := [vp]) h25 (fun u hu => by simp only [List.mem_cons, List.not_mem_nil, or_false, or_self] at hu; rw [hu]; exact hP.same S)
  have ga25 : Gov (upd K24 a25 (.lst [vp])) a25 1 := ga25
  generalize upd K24 a25 (.lst [vp]) = K25 at s25 ga25
  have ga3 := ga3.same s25
  have ga8 := ga8.same s25
  have ga14 := ga14.same s25
  have ga19 := ga19.same s25
  have ga20 := ga20.same s25
  have ga21 := ga21.same s25
  have ga24 := ga24.same s25
  have S := S.trans s25
  have hl23 := s25 _ _ hl23
  refine catG ga24 ga25 (by omega) fun a26 K26 s26 ga26 => ?_
  have ga3 := ga3.same s26
  have ga8 := ga8.same s26
  have ga14 := ga14.same s26
  have ga19 := ga19.same s26
  have ga20 := ga20.same s26
  have ga21 := ga21.same s26
  have S := S.trans s26
  have hl23 := s26 _ _ hl23
  refine ⟨_, rfl, _, rfl, _, rfl, ?_⟩
  dsimp only [tNoPart]
  refine slG (S _ _ hL2) (hG.same S) hRl _ _ _ fun a27 K27 s27 ga27 => ?_
  have ga3 := ga3.same s27
  have ga8 := ga8.same s27
  have ga14 := ga14.same s27
  have ga19 := ga19.same s27
  have ga20 := ga20.same s27
  have ga21 := ga21.same s27
  have ga26 := ga26.same s27
  have S := S.trans s27
  have hl23 := s27 _ _ hl23
  refine catG ga26 ga27 (by omega) fun a28 K28 s28 ga28 => ?_
  have ga3 := ga3.same s28
  have ga8 := ga8.same s28
  have ga14 := ga14.same s28
  have ga19 := ga19.same s28
  have ga20 := ga20.same s28
  have ga21 := ga21.same s28
  have S := S.trans s28
  have hl23 := s28 _ _ hl23
  refine ⟨_, rfl, _, rfl, _, rfl, ?_⟩
  refine slG (S _ _ hL2) (hG.same S) hRl _ _ _ fun a29 K29 s29 ga29 => ?_
  have ga3 := ga3.same s29
  have ga8 := ga8.same s29
  have ga14 := ga14.same s29
  have ga19 := ga19.same s29
  have ga20 := ga20.same s29
  have ga21 := ga21.same s29
  have ga28 := ga28.same s29
  have S := S.trans s29
  have hl23 := s29 _ _ hl23
  refine ⟨_, rfl, _, rfl, sz (by show 2 ≤ 100000; decide), fun a30 h30 => ?_⟩
  obtain ⟨s30, ga30⟩ := litG (us := [vp, vp]) h30 (fun u hu => by simp only [List.mem_cons, List.not_mem_nil, or_false, or_self] at hu; rw [hu]; exact hP.same S)
  have ga30 : Gov (upd K29 a30 (.lst [vp, vp])) a30 2 := ga30
  generalize upd K29 a30 (.lst [vp, vp]) = K30 at s30 ga30
  have ga3 := ga3.same s30
  have ga8 := ga8.same s30
  have ga14 := ga14.same s30
  have ga19 := ga19.same s30
  have ga20 := ga20.same s30
  have ga21 := ga21.same s30
  have ga28 := ga28.same s30
  have ga29 := ga29.same s30
  have S := S.trans s30
  have hl23 := s30 _ _ hl23
  refine catG ga29 ga30 (by omega) fun a31 K31 s31 ga31 => ?_
  have ga3 := ga3.same s31
  have ga8 := ga8.same s31
  have ga14 := ga14.same s31
  have ga19 := ga19.same s31
  have ga20 := ga20.same s31
  have ga21 := ga21.same s31
  have ga28 := ga28.same s31
  have S := S.trans s31
  have hl23 := s31 _ _ hl23
  refine ⟨_, rfl, _, rfl, _, rfl, ?_⟩
  dsimp only [tNoPart]
  refine slG (S _ _ hL2) (hG.same S) hRl _ _ _ fun a32 K32 s32 ga32 => ?_
  have ga3 := ga3.same s32
  have ga8 := ga8.same s32
  have ga14 := ga14.same s32
  have ga19 := ga19.same s32
  have ga20 := ga20.same s32
  have ga21 := ga21.same s32
  have ga28 := ga28.same s32
  have ga31 := ga31.same s32
  have S := S.trans s32
  have hl23 := s32 _ _ hl23
  refine catG ga31 ga32 (by omega) fun a33 K33 s33 ga33 => ?_
  have ga3 := ga3.same s33
  have ga8 := ga8.same s33
  have ga14 := ga14.same s33
  have ga19 := ga19.same s33
  have ga20 := ga20.same s33
  have ga21 := ga21.same s33
  have ga28 := ga28.same s33
  have S := S.trans s33
  have hl23 := s33 _ _ hl23
  refine ⟨_, rfl, sz (by show 1 ≤ 100000; decide), fun a34 h34 => ?_⟩
  obtain ⟨s34, ga34⟩ := litG (us := [vp]) h34 (fun u hu => by simp only [List.mem_cons, List.not_mem_nil, or_false, or_self] at hu; rw [hu]; exact hP.same S)
  have ga34 : Gov (upd K33 a34 (.lst [vp])) a34 1 := ga34
  generalize upd K33 a34 (.lst [vp]) = K34 at s34 ga34
  have ga3 := ga3.same s34
  have ga8 := ga8.same s34
  have ga14 := ga14.same s34
  have ga19 := ga19.same s34
  have ga20 := ga20.same s34
  have ga21 := ga21.same s34
  have ga28 := ga28.same s34
  have ga33 := ga33.same s34
  have S := S.trans s34
  have hl23 := s34 _ _ hl23
  refine ⟨sz (by show 3 ≤ 100000; decide), fun l35 h35 => ?_⟩
  have s35 := same_new h35 (.lst [.ref a28, .ref a33, .ref a34])
  have hl35 : (upd K34 l35 (.lst [.ref a28, .ref a33, .ref a34])) l35 = some (.lst [.ref a28, .ref a33, .ref a34]) := upd_same
  generalize upd K34 l35 (.lst [.ref a28, .ref a33, .ref a34]) = K35 at s35 hl35
  have ga3 := ga3.same s35
  have ga8 := ga8.same s35
  have ga14 := ga14.same s35
  have ga19 := ga19.same s35
  have ga20 := ga20.same s35
  have ga21 := ga21.same s35
  have ga28 := ga28.same s35
  have ga33 := ga33.same s35
  have ga34 := ga34.same s35
  have S := S.trans s35
  have hl23 := s35 _ _ hl23
  refine ⟨l23, l35, _, _, rfl, rfl, hl23, hl35, Nat.le_trans (m := 10) (by show 10 ≤ 10; decide) (by decide), fun l36 h36 => ?_⟩
  have s36 := same_new h36 (.lst ([.ref L, .ref a3, .ref a8, .ref a14, .ref a19, .ref a20, .ref a21] ++ [.ref a28, .ref a33, .ref a34]))
  have hl36 : (upd K35 l36 (.lst ([.ref L, .ref a3, .ref a8, .ref a14, .ref a19, .ref a20, .ref a21] ++ [.ref a28, .ref a33, .ref a34]))) l36 = some (.lst [.ref L, .ref a3, .ref a8, .ref a14, .ref a19, .ref a20, .ref a21, .ref a28, .ref a33, .ref a34]) := upd_same
  generalize upd K35 l36 (.lst ([.ref L, .ref a3, .ref a8, .ref a14, .ref a19, .ref a20, .ref a21] ++ [.ref a28, .ref a33, .ref a34])) = K36 at s36 hl36
  have ga3 := ga3.same s36
  have ga8 := ga8.same s36
  have ga14 := ga14.same s36
  have ga19 := ga19.same s36
  have ga20 := ga20.same s36
  have ga21 := ga21.same s36
  have ga28 := ga28.same s36
  have ga33 := ga33.same s36
  have ga34 := ga34.same s36
  have S := S.trans s36
  have hten : ∀ v ∈ ([.ref L, .ref a3, .ref a8, .ref a14, .ref a19, .ref a20, .ref a21, .ref a28, .ref a33, .ref a34] : List V), ∃ a, v = .ref a ∧ Gov K36 a 400000 := by
    intro v hv
    simp only [List.mem_cons, List.not_mem_nil, or_false] at hv
    rcases hv with z | z | z | z | z | z | z | z | z | z <;> subst z
    · exact ⟨L, rfl, ⟨⟨rs, S _ _ hL2, hG.same S, by omega⟩⟩⟩
    · exact ⟨a3, rfl, ga3.le (by omega)⟩
    · exact ⟨a8, rfl, ga8.le (by omega)⟩
    · exact ⟨a14, rfl, ga14.le (by omega)⟩
    · exact ⟨a19, rfl, ga19.le (by omega)⟩
    · exact ⟨a20, rfl, ga20.le (by omega)⟩
    · exact ⟨a21, rfl, ga21.le (by omega)⟩
    · exact ⟨a28, rfl, ga28.le (by omega)⟩
    · exact ⟨a33, rfl, ga33.le (by omega)⟩
    · exact ⟨a34, rfl, ga34.le (by omega)⟩
  have tL := t2.same S
  refine ⟨_, rfl, _, rfl, tp, 10, rfl, tL, by decide, by decide, fun r3 H3 r30 r31 b3 t3 => ?_⟩
  obtain ⟨v, hv, hvm⟩ := at_some (xs := [.ref L, .ref a3, .ref a8, .ref a14, .ref a19, .ref a20, .ref a21, .ref a28, .ref a33, .ref a34]) r30 r31
  obtain ⟨a, rfl, ga⟩ := hten v hvm
  obtain ⟨us, hu1, hu2, hu3⟩ := ga.ex
  have nat := hu2.nt tL hu1
  have hll : l36 ≠ tp := fun z => by
    obtain ⟨y, hy⟩ := tL
    rw [z, hy] at hl36
    cases hl36
  have tk3 := But1.tk tL b3
  refine ⟨l36, _, _, _, rfl, rfl, SqL.of (b3 _ _ hll hl36), hv, ?_⟩
  refine ⟨a, us, rfl, .inl (SqL.of (b3 _ _ nat hu1)), fun R hR => ?_⟩
  have sR := same_new hR (.lst us)
  exact q R _ ((b12.trans (but_same S)).trans (b3.trans (but_same sR))) (t3.same sR) ⟨⟨us, upd_same, (hu2.tk tk3).same sR, hu3⟩⟩
end
end KB

set_option pp.maxSteps 400
namespace KB
open PySem L2 HT LamX NdefX

def setI (li : Str → Int) (x : Str) (v : Int) : Str → Int := fun y => if y = x then v else li y
theorem lvI_putI {N : List Str} {li : Str → Int} {x : Str} {v : Int} (h : x ∈ N) : putK (LvI N li) (.inr x) (.int v) = LvI N (setI li x v) := by
  unfold putK
  rw [if_pos (show (LvI N li).any (fun kv => decide (kv.1 = Sum.inr x)) = true from List.any_eq_true.mpr ⟨(.inr x, .int (li x)), List.mem_map.mpr ⟨x, h, rfl⟩, decide_eq_true rfl⟩)]
  unfold LvI
  rw [List.map_map]
  refine List.map_congr_left fun n hn => ?_
  show (if (Sum.inr n : L2.Key) = .inr x then ((Sum.inr n : L2.Key), V.int v) else (.inr n, .int (li n))) = (.inr n, .int (setI li x v n))
  unfold setI
  by_cases c : n = x
  · rw [if_pos (by rw [c]), if_pos c]
  · rw [if_neg (fun z => c (Sum.inr.inj z)), if_neg c]
theorem lvI_put {N : List Str} {li : Str → Int} (nd : N.Nodup) (x : Str) (v : Int) : ∃ (N' : List Str) (li' : Str → Int), putK (LvI N li) (.inr x) (.int v) = LvI N' li' ∧ N'.Nodup ∧ N'.length ≤ N.length + 1 ∧ ∀ n ∈ N', n ∈ N ∨ n = x := by
  by_cases c : x ∈ N
  · exact ⟨N, _, lvI_putI c, nd, Nat.le_succ _, fun n h => .inl h⟩
  · refine ⟨N ++ [x], setI li x v, ?_, ?_, by rw [List.length_append, List.length_singleton]; exact Nat.le_refl _, fun n hn => ?_⟩
    · rw [putK_new (by
        rw [LvI.keys]
        intro z
        obtain ⟨y, hy, e⟩ := List.mem_map.mp z
        exact c (by rw [← Sum.inr.inj e]; exact hy))]
      unfold LvI
      rw [List.map_append]
      congr 1
      · refine List.map_congr_left fun n hn => ?_
        show ((Sum.inr n : L2.Key), V.int (li n)) = (.inr n, .int (setI li x v n))
        unfold setI
        rw [if_neg (fun z => c (by rw [← z]; exact hn))]
      · show [((Sum.inr x : L2.Key), V.int v)] = [(.inr x, .int (setI li x v x))]
        unfold setI
        rw [if_pos rfl]
    · exact List.nodup_append.mpr ⟨nd, by simp, fun a ha b hb e => c (by rw [← List.mem_singleton.mp hb, ← e]; exact ha)⟩
    · rcases List.mem_append.mp hn with z | z
      · exact .inl z
      · exact .inr (List.mem_singleton.mp z)
theorem lvI_drop {N : List Str} {li : Str → Int} (x : Str) : dropK (LvI N li) (.inr x) = LvI (N.filter fun n => decide (n ≠ x)) li := by
  unfold dropK LvI
  rw [List.filter_map]
  congr 1
  refine List.filter_congr fun n _ => ?_
  show decide ((Sum.inr n : L2.Key) ≠ Sum.inr x) = decide (n ≠ x)
  exact decide_eq_decide.mpr ⟨fun h e => h (by rw [e]), fun h e => h (Sum.inr.inj e)⟩
/-- a dict of levels at a -/
structure LvD (H : Hp) (a : Addr) (n : Nat) : Prop where
  ex : ∃ (N : List Str) (li : Str → Int), H a = some (.dK (LvI N li)) ∧ N.Nodup ∧ N.length ≤ n ∧ ∀ x ∈ N, PySem.PyData.strOk x = true
theorem LvD.same {H H' : Hp} {a : Addr} {n : Nat} (h : LvD H a n) (s : Same H H') : LvD H' a n := let ⟨N, li, h1, h2⟩ := h.ex; ⟨⟨N, li, s _ _ h1, h2⟩⟩
section
variable {P : Program} {w : World} {K : PySem.W.Frag} {mg : Str → Option Value} {base : Heap}
/-! ### _law_bent_levels -/
def spBLev : Sp := fun vs H Q _ => ∃ (tp nl Dl : Addr) (ns : List Str) (N : List Str) (li : Str → Int), vs = [.ref tp, .ref nl, .ref Dl] ∧ Tp H tp ∧ H nl = some (.lst (ns.map V.str)) ∧ ns ≠ [] ∧ ns.length ≤ 7 ∧ (∀ n ∈ ns, PySem.PyData.strOk n = true) ∧ H Dl = some (.dK (LvI N li)) ∧ N.Nodup ∧ N.length ≤ 6 ∧ (∀ n ∈ N, PySem.PyData.strOk n = true) ∧
  ∀ R H', But1 tp H H' → Tp H' tp → LvD H' R 7 → Q (.ref R) H'
abbrev s_law_bent_levels : Stmt := top 59
theorem scLbent_levels : FnScope ["tape", "names", "levels", "found", "name", "way", "one"] ["tape", "names", "levels"] (defScope s_law_bent_levels) := ⟨rfl, rfl, rfl, by decide +kernel, rfl, by decide +kernel, by decide +kernel⟩
theorem ok_blev (T : Txt K mg) {f f1 : Addr} {fd d1 : FuncData} (F : Fun K "_law_bent_levels" "_law_bent_levels" s_law_bent_levels f fd) (G_law_digit : FnOk P w K mg base CX0 1 f1 d1 ["tape", "many"] spDig) (R_law_digit : Ref K mg "_law_digit" f1 d1 ["tape", "many"]) : FnOk P w K mg base CX0 2 f fd ["tape", "names", "levels"] spBLev := by
  refine F.ok scLbent_levels (fun vs H Q E h => ?_) (fun cdv A outer s H vs Q E hr h => ?_)
  · obtain ⟨tp, nl, Dl, ns, N, li, rfl, _⟩ := h
    rfl
  obtain ⟨tp, nl, Dl, ns, N, li, rfl, ht, hn, hne, hnl, hno, hD, hN, hNl, hNo, q⟩ := h
  refine ⟨_, (pss_cons (ps_set (i := 3) scLbent_levels.nd rfl (Or.inl rfl) (pe_callTy call_dictD (by rfl) T.m_dict (by decide +kernel) (pa_cons (pv 2) pa_nil)))
    (pss_cons (ps_set (i := 4) scLbent_levels.nd rfl (Or.inl rfl) (pe_ix ix_list (pv 1) (pe_call G_law_digit (hr.mono (by omega)) rfl R_law_digit.m R_law_digit.k R_law_digit.b .nil pass0 (pa_cons (pv 0) (pa_cons (pe_callB call_len_seq (by rfl) T.m_len PySem.boot_len (pa_cons (pv 1) pa_nil)) pa_nil))) (fun _ _ => rfl)))
    (pss_cons (ps_set (i := 5) scLbent_levels.nd rfl (Or.inl rfl) (pe_call G_law_digit (hr.mono (by omega)) rfl R_law_digit.m R_law_digit.k R_law_digit.b .nil pass0 (pa_cons (pv 0) (pa_cons pe_int pa_nil))))
    (pss_cons (ps_if (pt_cmpR op_lt (pv 5) pe_int (nomark _)) (pss_one (ps_dput (hu_of hr) (pv 3) (pv 4) (pe_op op_add (pe_dget2 (hu_of hr) (pv 3) (pv 4) pe_int ⟨rfl, rfl, rfl, rfl⟩) (pe_ix ix_list (pe_lst (pa_cons pe_int (pa_cons (pe_un un_neg pe_int) (pa_cons pe_int pa_nil)))) (pv 5) (fun _ _ => rfl))) rfl)) (pss_one (ps_if (pt_cmpR op_eq (pv 5) pe_int (nomark _)) (pss_one (ps_dput (hu_of hr) (pv 3) (pv 4) pe_int rfl)) (pss_one (ps_if (pt_cmpR op_eq (pv 5) pe_int (nomark _)) (pss_one (ps_expr (pe_dpop2 (pv 3) (pv 4) pe_non ⟨rfl, rfl, rfl, rfl⟩))) (pss_one (ps_if (pt_cmpR op_eq (pv 5) pe_int (nomark _)) (pss_one (ps_lockR (ps_for PassesOwn.never rfl (pi_keys (pv 2)) (pg_name (i := 6) scLbent_levels.nd rfl (Or.inl rfl)) (pss_one (ps_dput (hu_of hr) (pv 3) (pv 6) (pe_op op_add (pe_dget (hu_of hr) (pv 3) (pv 6) (fun _ _ => rfl)) pe_int) rfl))))) pss_nil)))))))
    (pss_one (ps_ret (pv 3))))))), ?_⟩
  have nnt : nl ≠ tp := fun z => by
    obtain ⟨y, hy⟩ := ht
    rw [z, hy] at hn
    have : ns.map V.str = [.int y] := (HO.lst.inj (Option.some.inj hn)).symm
    cases ns with
    | nil => cases this
    | cons a r => cases (List.cons.inj this).1
  have nDt : Dl ≠ tp := fun z => by
    obtain ⟨y, hy⟩ := ht
    rw [z, hy] at hD
    cases hD
  refine ⟨_, rfl, Dl, _, rfl, .inl hD, fun F hF => ?_⟩
  have s1 := same_new hF (.dK (LvI N li))
  have h1 : (upd H F (.dK (LvI N li))) F = some (.dK (LvI N li)) := upd_same
  have t1 := ht.same s1
  have hn1 := s1 _ _ hn
  have hD1 := s1 _ _ hD
  have nFD : F ≠ Dl := fun z => by rw [z, hD] at hF; cases hF
  have nFt : F ≠ tp := by
    obtain ⟨y, hy⟩ := ht
    exact (ne_of_none hy hF).symm
  generalize upd H F (.dK (LvI N li)) = H1 at s1 h1 t1 hn1 hD1
  have hpos : 0 < ns.length := List.length_pos_iff.mpr hne
  have hml : (ns.map V.str).length = ns.length := List.length_map ..
  refine ⟨_, rfl, _, rfl, _, rfl, nl, _, rfl, .inl (SqL.of hn1), tp, _, rfl, t1, by omega, by omega, fun r2 H2 r20 r21 b2 t2 => ?_⟩
  obtain ⟨v, hv, hvm⟩ := at_some (xs := ns.map V.str) r20 r21
  obtain ⟨x, hx, rfl⟩ := List.mem_map.mp hvm
  refine ⟨nl, _, _, _, rfl, rfl, SqL.of (b2 _ _ nnt hn1), hv, ?_⟩
  refine ⟨_, rfl, tp, 7, rfl, t2, by decide, by decide, fun r3 H3 r30 r31 b3 t3 => ?_⟩
  have b13 := b2.trans b3
  have h3 := b13 _ _ nFt h1
  have hD3 := b13 _ _ nDt hD1
  have b03 : But1 tp H H3 := (but_same s1).trans b13
  have hxo := hno x hx
  -- the end, whatever stands in F
  have fin : ∀ (H4 : Hp) (N' : List Str) (li' : Str → Int), (∀ b o, b ≠ F → b ≠ Dl → H3 b = some o → H4 b = some o) → H4 Dl = some (.dK (LvI N li)) → H4 F = some (.dK (LvI N' li')) → N'.Nodup → N'.length ≤ 7 → (∀ n ∈ N', PySem.PyData.strOk n = true) → Q (.ref F) H4 := fun H4 N' li' f4 d4 h4 nd nl7 no =>
    q F H4 (fun b o n hb => by
      by_cases c : b = Dl
      · rw [c, hD] at hb
        rw [c, d4]
        exact hb
      · exact f4 b o (fun z => by rw [z, hF] at hb; cases hb) c (b03 b o n hb)) (by
      obtain ⟨y, hy⟩ := t3
      exact ⟨y, f4 tp _ nFt.symm nDt.symm hy⟩) ⟨⟨N', li', h4, nd, nl7, no⟩⟩
  have hout : ∀ (N' : List Str), (∀ n ∈ N', n ∈ N ∨ n = x) → ∀ n ∈ N', PySem.PyData.strOk n = true := fun N' h n hn => by
    rcases h n hn with z | z
    · exact hNo n z
    · rw [z]; exact hxo
  have hlen : (LvI N li).length ≤ 6 := by
    unfold LvI
    rw [List.length_map]
    exact hNl
  refine ⟨_, rfl, _, _, rfl, rfl, _, rfl, ?_⟩
  refine ite2 (fun c => ?_) (fun c => ?_)
  · have hr3 : r3 < 3 := of_decide_eq_true c
    obtain ⟨w, hw⟩ : ∃ w : Int, (valV (LvI N li) (.inr x)).getD (.int 0) = .int w := by
      by_cases z : x ∈ N
      · exact ⟨li x, by rw [lvI_val z]; rfl⟩
      · exact ⟨0, by rw [lvI_no z]; rfl⟩
    obtain ⟨u, hu⟩ : ∃ u : Int, atI [V.int 1, .int (-1), .int 0] r3 = some (.int u) := by
      have : r3 = 0 ∨ r3 = 1 ∨ r3 = 2 := by omega
      rcases this with z | z | z <;> subst z
      · exact ⟨1, rfl⟩
      · exact ⟨-1, rfl⟩
      · exact ⟨0, rfl⟩
    refine ⟨_, rfl, F, rfl, .inl ⟨_, .inl h3⟩, _, rfl, _, DGet.k (k := .inr x) h3, ?_⟩
    rw [hw]
    refine ⟨_, rfl, sz (by show 3 ≤ 100000; decide), fun l4 hl4 => ⟨_, rfl, l4, _, _, _, rfl, rfl, SqL.of upd_same, hu, _, _, rfl, rfl, ?_⟩⟩
    have s4 := same_new hl4 (.lst [V.int 1, .int (-1), .int 0])
    obtain ⟨N', li', e1, e2, e3, e4⟩ := lvI_put (li := li) hN x (w + u)
    refine ⟨_, rfl, _, rfl, F, _, rfl, DPut.k (k := .inr x) (s4 _ _ h3) (Nat.lt_of_le_of_lt hlen (by decide)), ?_⟩
    rw [e1]
    refine ⟨_, rfl, fin _ N' li' (fun b o n1 n2 hb => ?_) ?_ upd_same e2 (by omega) (hout N' e4)⟩
    · rw [upd_ne n1]
      exact s4 _ _ hb
    · rw [upd_ne nFD.symm]
      exact s4 _ _ hD3
  refine ⟨_, rfl, rfl, _, rfl, ?_⟩
  refine ite2 (fun c3 => ?_) (fun c3 => ?_)
  · obtain ⟨N', li', e1, e2, e3, e4⟩ := lvI_put (li := li) hN x 0
    refine ⟨_, rfl, _, rfl, F, _, rfl, DPut.k (k := .inr x) h3 (Nat.lt_of_le_of_lt hlen (by decide)), ?_⟩
    rw [e1]
    refine ⟨_, rfl, fin _ N' li' (fun b o n1 n2 hb => ?_) ?_ upd_same e2 (by omega) (hout N' e4)⟩
    · rw [upd_ne n1]
      exact hb
    · rw [upd_ne nFD.symm]
      exact hD3
  refine ⟨_, rfl, rfl, _, rfl, ?_⟩
  refine ite2 (fun c4 => ?_) (fun c4 => ?_)
  · refine ⟨_, rfl, F, rfl, .inl ⟨_, .inl h3⟩, _, rfl, _, .inr x, h3, rfl, fun v hv => ?_, fun hv => ?_⟩
    · rw [lvI_drop]
      refine ⟨_, rfl, fin _ _ li (fun b o n1 n2 hb => ?_) ?_ upd_same (hN.filter _) (Nat.le_trans (List.length_filter_le _ _) (by omega)) fun n hn => hNo n (List.mem_filter.mp hn).1⟩
      · rw [upd_ne n1]
        exact hb
      · rw [upd_ne nFD.symm]
        exact hD3
    · exact ⟨_, rfl, fin _ N li (fun b o _ _ hb => hb) hD3 h3 hN (by omega) hNo⟩
  refine ⟨_, rfl, rfl, _, rfl, ?_⟩
  refine ite2 (fun c5 => ?_) (fun c5 => ?_)
  · refine ⟨Dl, .dK (LvI N li), .inl hD3, trivial, fun od H4 h4 f4 => ?_⟩
    have hF4 : H4 F = some (.dK (LvI N li)) := by rw [f4 _ nFD]; exact h3
    refine ⟨_, rfl, Dl, od, rfl, .inl ⟨LvI N li, h4, for_it walk_keys (fun i σ H' => ∃ (o6 : Option V) (li' : Str → Int), σ = [some (.ref tp), some (.ref nl), some (.ref Dl), some (.ref F), some (.str x), some (.int r3), o6] ∧ (∀ b o, b ≠ F → b ≠ Dl → H3 b = some o → H' b = some o) ∧ H' Dl = some (.frz od (.dK (LvI N li))) ∧ H' F = some (.dK (LvI N li'))) ?_ ?_ ?_ ?_⟩⟩
    · exact ⟨_, li, rfl, fun b o n1 n2 hb => by rw [f4 b n2]; exact hb, h4, hF4⟩
    · rintro i σ H' _ ⟨o6, li', rfl, _, h, _⟩
      exact h
    · rintro i y σ H5 H6 hi ⟨o6, li', rfl, f5, d5, h5⟩ ⟨e', k, v, hkv, rfl⟩
      subst e'
      obtain ⟨n, hn2, hkv2⟩ := Option.map_eq_some_iff.mp (by unfold LvI at hkv; rw [List.getElem?_map] at hkv; exact hkv)
      cases hkv2
      have hnN := mem_of_get hn2
      have hl5 : (LvI N li').length ≤ 6 := by
        unfold LvI
        rw [List.length_map]
        exact hNl
      refine ⟨_, rfl, _, rfl, F, _, rfl, by rw [← lvI_val hnN]; exact DGet.k (k := .inr n) h5, _, _, rfl, rfl, ?_⟩
      refine ⟨_, rfl, _, rfl, F, _, rfl, DPut.k (k := .inr n) h5 (Nat.lt_of_le_of_lt hl5 (by decide)), ?_⟩
      rw [lvI_putI hnN]
      refine ⟨_, _, rfl, fun b o n1 n2 hb => ?_, ?_, upd_same⟩
      · rw [upd_ne n1]
        exact f5 b o n1 n2 hb
      · rw [upd_ne nFD.symm]
        exact d5
    · rintro σ H5 ⟨o6, li', rfl, f5, d5, h5⟩
      refine ⟨d5, fun H6 f6 e6 => ?_⟩
      refine ⟨_, rfl, fin H6 N li' (fun b o n1 n2 hb => ?_) (e6.trans hD3) ?_ hN (by omega) hNo⟩
      · rw [f6 b n2]
        exact f5 b o n1 n2 hb
      · rw [f6 F nFD]
        exact h5
  · exact ⟨_, rfl, fin _ N li (fun b o _ _ hb => hb) hD3 h3 hN (by omega) hNo⟩
end
end KB

set_option pp.maxSteps 400
namespace KB
open PySem L2 HT LamX NdefX

theorem kP_all : ∀ (p : Pt), kP p → ∀ x ∈ allP p, kP x.2
  | .give _ _, h, x, hx => by
    rw [List.mem_singleton.mp hx]
    exact h
  | .ask _ _ _, h, x, hx => by
    rw [List.mem_singleton.mp hx]
    exact h
  | .tell _ _ p, h, x, hx => by
    rcases List.mem_cons.mp hx with z | z
    · rw [z]; exact h
    · rw [List.append_nil] at z
      obtain ⟨y, hy, rfl⟩ := List.mem_map.mp z
      exact kP_all p h.2.2 y hy
  | .lett _ _ p, h, x, hx => by
    rcases List.mem_cons.mp hx with z | z
    · rw [z]; exact h
    · rw [List.append_nil] at z
      obtain ⟨y, hy, rfl⟩ := List.mem_map.mp z
      exact kP_all p h.2.2 y hy
  | .iff _ p q, h, x, hx => by
    rcases List.mem_cons.mp hx with z | z
    · rw [z]; exact h
    · rw [List.append_nil] at z
      rcases List.mem_append.mp z with z | z
      · obtain ⟨y, hy, rfl⟩ := List.mem_map.mp z
        exact kP_all p h.2.1 y hy
      · obtain ⟨y, hy, rfl⟩ := List.mem_map.mp z
        exact kP_all q h.2.2 y hy
  | .post _ _ p q, h, x, hx => by
    rcases List.mem_cons.mp hx with z | z
    · rw [z]; exact h
    · rw [List.append_nil] at z
      rcases List.mem_append.mp z with z | z
      · obtain ⟨y, hy, rfl⟩ := List.mem_map.mp z
        exact kP_all p h.2.2.1 y hy
      · obtain ⟨y, hy, rfl⟩ := List.mem_map.mp z
        exact kP_all q h.2.2.2 y hy
theorem terms_le {p : Pt} (h : kP p) : (termsP p).length ≤ 4 := by
  cases p with
  | ask g ts j => exact h.2.2.1
  | give j t => exact (by decide : 1 ≤ 4)
  | tell x t p => exact (by decide : 1 ≤ 4)
  | lett x t p => exact (by decide : 1 ≤ 4)
  | iff t p q => exact (by decide : 1 ≤ 4)
  | post j x p q => exact (by decide : 0 ≤ 4)
theorem pl_len : ∀ (p : Pt) (x : List Int × Pt), x ∈ allP p → x.1.length + 1 ≤ pcnt p
  | .give _ _, x, hx => by
    rw [List.mem_singleton.mp hx]
    exact Nat.le_refl _
  | .ask _ _ _, x, hx => by
    rw [List.mem_singleton.mp hx]
    exact Nat.le_refl _
  | .tell _ _ p, x, hx => by
    show _ ≤ 1 + pcnt p
    rcases List.mem_cons.mp hx with z | z
    · rw [z]; show 0 + 1 ≤ _; omega
    · rw [List.append_nil] at z
      obtain ⟨y, hy, rfl⟩ := List.mem_map.mp z
      have := pl_len p y hy
      show y.1.length + 1 + 1 ≤ _
      omega
  | .lett _ _ p, x, hx => by
    show _ ≤ 1 + pcnt p
    rcases List.mem_cons.mp hx with z | z
    · rw [z]; show 0 + 1 ≤ _; omega
    · rw [List.append_nil] at z
      obtain ⟨y, hy, rfl⟩ := List.mem_map.mp z
      have := pl_len p y hy
      show y.1.length + 1 + 1 ≤ _
      omega
  | .iff _ p q, x, hx => by
    show _ ≤ 1 + pcnt p + pcnt q
    rcases List.mem_cons.mp hx with z | z
    · rw [z]; show 0 + 1 ≤ _; omega
    · rw [List.append_nil] at z
      rcases List.mem_append.mp z with z | z
      · obtain ⟨y, hy, rfl⟩ := List.mem_map.mp z
        have := pl_len p y hy
        show y.1.length + 1 + 1 ≤ _
        omega
      · obtain ⟨y, hy, rfl⟩ := List.mem_map.mp z
        have := pl_len q y hy
        show y.1.length + 1 + 1 ≤ _
        omega
  | .post _ _ p q, x, hx => by
    show _ ≤ 1 + pcnt p + pcnt q
    rcases List.mem_cons.mp hx with z | z
    · rw [z]; show 0 + 1 ≤ _; omega
    · rw [List.append_nil] at z
      rcases List.mem_append.mp z with z | z
      · obtain ⟨y, hy, rfl⟩ := List.mem_map.mp z
        have := pl_len p y hy
        show y.1.length + 1 + 1 ≤ _
        omega
      · obtain ⟨y, hy, rfl⟩ := List.mem_map.mp z
        have := pl_len q y hy
        show y.1.length + 1 + 1 ≤ _
        omega
theorem allOf_in {es : List TEr} {x : Str × List Int × Pt} (h : x ∈ allOf es) : ∃ e ∈ es, x.1 = e.1 ∧ x.2 ∈ allP e.2.2 := by
  obtain ⟨l, hl, hx⟩ := List.mem_flatten.mp h
  obtain ⟨e, he, rfl⟩ := List.mem_map.mp hl
  obtain ⟨y, hy, rfl⟩ := List.mem_map.mp hx
  exact ⟨e, he, rfl, hy⟩
theorem ask_pl {es : List TEr} (hc : ∀ e ∈ es, pcnt e.2.2 ≤ 31) {a : Ak} (ha : a ∈ asksB es) : a.1.2.length ≤ 31 := by
  obtain ⟨e, he, hae, _⟩ := asksB_er ha
  rw [asksE_same] at hae
  obtain ⟨x, hx, hh⟩ := List.mem_filterMap.mp hae
  have h1 := pl_len _ x hx
  have h2 := hc e he
  obtain ⟨ks, p⟩ := x
  cases p with
  | ask g ts j =>
    have : some (((e.1, ks), g, if j = "home" then 0 else 1) : Ak) = some a := hh
    cases this
    show ks.length ≤ 31
    have h3 : ks.length + 1 ≤ pcnt e.2.2 := h1
    omega
  | _ => cases hh
theorem gv_new {H : Hp} {b : Addr} {n : Str} {ks : List Int} (h : H b = some (.tup (.str n :: ks.map V.int))) (hn : PySem.PyData.strOk n = true) (hk : ks.length ≤ 1000) : GVv H (.ref b) := ⟨(n, ks), ⟨b, rfl, h⟩, hn, hk⟩
theorem GLv.app {H : Hp} {us ws : List V} (a : GLv H us) (b : GLv H ws) : GLv H (us ++ ws) := fun u hu => (List.mem_append.mp hu).elim (a u) (b u)
theorem sIx_m1 (n : Nat) : HT.sIx (n + 1) (n + 1) (some (-1)) = n := by
  show ((-1 : Int) + ((n + 1 : Nat) : Int)).toNat = n
  omega
theorem cut_m1 (x : V) (r : List V) : cutV (x :: r) none (some (-1)) = (x :: r).take r.length := by
  unfold cutV
  rw [show (x :: r).length = r.length + 1 from rfl, sIx_m1]
  rfl
theorem cut_m1s (n : Str) (ks : List Int) (h : 0 < ks.length) : cutV (V.str n :: ks.map V.int) none (some (-1)) = V.str n :: ks.dropLast.map V.int := by
  rw [cut_m1, List.length_map, List.dropLast_eq_take, List.map_take]
  obtain ⟨m, hm⟩ : ∃ m, ks.length = m + 1 := ⟨ks.length - 1, by omega⟩
  rw [hm, List.take_succ_cons]
  rfl
theorem sIx_p1 (n : Nat) : HT.sIx (n + 1) (n + 1) (some 1) = 1 := by
  show min 1 (n + 1) = 1
  omega
theorem cut_p1 (x : V) (r : List V) : cutV (x :: r) none (some 1) = [x] := by
  unfold cutV
  rw [show (x :: r).length = r.length + 1 from rfl, sIx_p1]
  rfl
theorem at_lastI (n : Str) (ks : List Int) (h : 0 < ks.length) : ∃ k : Int, atI (V.str n :: ks.map V.int) (((V.str n :: ks.map V.int).length : Nat) - 1 : Int) = some (.int k) := by
  obtain ⟨m, hm⟩ : ∃ m, ks.length = m + 1 := ⟨ks.length - 1, by omega⟩
  refine ⟨ks[m]'(by omega), ?_⟩
  have e : (((V.str n :: ks.map V.int).length : Nat) - 1 : Int) = ((m + 1 : Nat) : Int) := by
    rw [List.length_cons, List.length_map, hm]
    omega
  rw [e]
  refine atI_nat ?_
  rw [List.getElem?_cons_succ, List.getElem?_map, List.getElem?_eq_getElem (by omega)]
  rfl
theorem catA1 {K : PySem.W.Frag} {H : Hp} {q t : Addr} {n : Str} {ks : List Int} {k : Int} (h : H q = some (.tup (.str n :: ks.map V.int))) (ht : H t = some (.tup [.int k])) (l : ks.length ≤ 1000) {Q : V → Hp → Prop} (c : ∀ p H', Same H H' → H' p = some (.tup (.str n :: (ks ++ [k]).map V.int)) → Q (.ref p) H') : rCatA K (.ref q) (.ref t) H Q :=
  ⟨q, t, _, _, rfl, rfl, SqT.of h, SqT.of ht, Nat.le_trans (m := 1100) (by rw [List.length_cons, List.length_map]; show _ + 1 + 1 ≤ 1100; omega) (by decide), (fun z => nomatch z), (fun _ z => nomatch z), fun _ _ p hp => c p _ (same_new hp _) (by
    rw [upd_same, List.map_append]
    rfl)⟩
theorem slA1 {K : PySem.W.Frag} {H : Hp} {q : Addr} {n : Str} {ks : List Int} (h : H q = some (.tup (.str n :: ks.map V.int))) (hn : PySem.PyData.strOk n = true) (l : ks.length ≤ 1000) {Q : V → Hp → Prop} (c : ∀ v H', Same H H' → GVv H' v → Q v H') : rSlA K (.ref q) none (some 1) H Q :=
  ⟨q, _, rfl, SqT.of h, fun _ => c _ H (Same.refl _) (gv_new h hn l), fun _ p hp => c _ _ (same_new hp _) (by
    rw [cut_p1]
    exact gv_new (n := n) (ks := []) upd_same hn (Nat.zero_le _))⟩
theorem slM1 {K : PySem.W.Frag} {H : Hp} {q : Addr} {n : Str} {ks : List Int} (h : H q = some (.tup (.str n :: ks.map V.int))) (l : 0 < ks.length) {Q : V → Hp → Prop} (c : ∀ p H', Same H H' → H' p = some (.tup (.str n :: ks.dropLast.map V.int)) → Q (.ref p) H') : rSlA K (.ref q) none (some (-1)) H Q :=
  ⟨q, _, rfl, SqT.of h, fun z => absurd z.2 (by
    rw [List.length_cons, sIx_m1]
    omega), fun _ p hp => c p _ (same_new hp _) (by
    rw [cut_m1s n ks l]
    exact upd_same)⟩
section
variable {P : Program} {w : World} {K : PySem.W.Frag} {mg : Str → Option Value} {base : Heap}
/-! ### _law_places -/
def spPlc : Sp := fun vs H Q _ => ∃ (p D : Addr) (es : List TEr) (us : List V) (kvs : List (L2.Key × V)), vs = [.ref p, .ref D] ∧ TBkAt H es us p ∧ BkE es ∧ (∀ e ∈ es, pcnt e.2.2 ≤ 31) ∧ LB H D es kvs ∧
  ∀ R H' vp, Same H H' → H' R = some (.lst vp) → GLv H' vp → vp ≠ [] → vp.length ≤ 100000 → Q (.ref R) H'
abbrev s_law_places : Stmt := top 57
theorem scLplaces : FnScope ["turned", "asks", "found", "place", "part", "k", "name", "g", "weight", "last", "more"] ["turned", "asks"] (defScope s_law_places) := ⟨rfl, rfl, rfl, by decide +kernel, rfl, by decide +kernel, by decide +kernel⟩
theorem ok_plc (T : Txt K mg) {f f1 f2 : Addr} {fd d1 d2 : FuncData} (F : Fun K "_law_places" "_law_places" s_law_places f fd) (G_law_all_of : FnOk P w K mg base CX0 92 f1 d1 ["turned"] spLAllOf) (R_law_all_of : Ref K mg "_law_all_of" f1 d1 ["turned"]) (G_law_terms : FnOk P w K mg base CX0 1 f2 d2 ["part"] spTerms) (R_law_terms : Ref K mg "_law_terms" f2 d2 ["part"]) : FnOk P w K mg base CX0 93 f fd ["turned", "asks"] spPlc := by
  refine F.ok scLplaces (fun vs H Q E h => ?_) (fun cdv A outer s H vs Q E hr h => ?_)
  · obtain ⟨p, D, es, us, kvs, rfl, _⟩ := h
    rfl
  obtain ⟨p, D, es, us, kvs, rfl, hB, hK, hcn, hL, q⟩ := h
  refine ⟨_, (pss_cons (ps_set (i := 2) scLplaces.nd rfl (Or.inl rfl) (pe_lst (pa_cons (pe_tup (pa_cons pe_str (pa_cons pe_int pa_nil))) (pa_cons (pe_tup (pa_cons pe_str pa_nil)) pa_nil))))
    (pss_cons (ps_for PassesOwn.never rfl (pi_list (pe_call G_law_all_of (hr.mono (by omega)) rfl R_law_all_of.m R_law_all_of.k R_law_all_of.b .nil pass0 (pa_cons (pv 0) pa_nil))) (pg_tup rfl (pgs_cons (pg_name (i := 3) scLplaces.nd rfl (Or.inr rfl)) (pgs_cons (pg_name (i := 4) scLplaces.nd rfl (Or.inl rfl)) pgs_nil))) (pss_cons (ps_expr (pe_bm PySem.F.plainAttrs_list PySem.F.slot_list_append PySem.F.type_list_append mt_append (pv 2) (pa_cons (pv 3) pa_nil)))
    (pss_one (ps_set (i := 2) scLplaces.nd rfl (Or.inl rfl) (pe_op op_cat (pv 2) (pe_lc (own := [("k", 5)]) (g := gName 5) (by rfl) scLplaces.nd (pi_range1 rfl T.m_range (pa_cons (pe_callB call_len_seq (by rfl) T.m_len PySem.boot_len (pa_cons (pe_call G_law_terms (hr.mono (by omega)) rfl R_law_terms.m R_law_terms.k R_law_terms.b .nil pass0 (pa_cons (pv 4) pa_nil)) pa_nil)) pa_nil)) (blkOk_by (own := [("k", 5)]) (N := ["turned", "asks", "found", "place", "part", "k", "name", "g", "weight", "last", "more"]) (sc := defScope s_law_places) (by decide +kernel)) (fun _ _ _ _ _ => (pg_name (i := 5) scLplaces.nd rfl (Or.inl rfl))) (fun _ _ _ _ _ => pts_nil) (fun _ _ _ _ _ => (pe_op (show OpR _ (binaryOp .Add) (rCatA K) from op_catA) (pv 3) (pe_tup (pa_cons (pv 5) pa_nil))))))))))
    (pss_cons (ps_lockR (ps_for PassesOwn.never rfl (pi_keys (pv 1)) (pg_name (i := 6) scLplaces.nd rfl (Or.inl rfl)) (pss_one (ps_for PassesOwn.never rfl (pi_list (pe_dget (hu_of hr) (pv 1) (pv 6) (fun _ _ => rfl))) (pg_tup rfl (pgs_cons (pg_name (i := 3) scLplaces.nd rfl (Or.inr rfl)) (pgs_cons (pg_name (i := 7) scLplaces.nd rfl (Or.inl rfl)) (pgs_cons (pg_name (i := 8) scLplaces.nd rfl (Or.inl rfl)) pgs_nil)))) (pss_cons (ps_set (i := 2) scLplaces.nd rfl (Or.inl rfl) (pe_op op_cat (pv 2) (pe_lst (pa_cons (pv 3) (pa_cons (pv 3) (pa_cons (pe_op op_catA (pv 3) (pe_tup (pa_cons pe_int pa_nil))) (pa_cons (pe_slice sl_tupA (pv 3) po_none (po_some pe_int)) pa_nil)))))))
    (pss_one (ps_if (pt_cmpR op_gt (pe_callB call_len_seq (by rfl) T.m_len PySem.boot_len (pa_cons (pv 3) pa_nil)) pe_int (nomark _)) (pss_cons (ps_set (i := 9) scLplaces.nd rfl (Or.inr rfl) (pe_ix ix_tup (pv 3) (pe_op op_sub (pe_callB call_len_seq (by rfl) T.m_len PySem.boot_len (pa_cons (pv 3) pa_nil)) pe_int) (fun _ _ => rfl)))
    (pss_one (ps_set (i := 2) scLplaces.nd rfl (Or.inl rfl) (pe_op op_cat (pe_op op_cat (pv 2) (pe_lst (pa_cons (pe_slice sl_tupA (pv 3) po_none (po_some (pe_un un_neg pe_int))) pa_nil))) (pe_lc (own := [("more", 10)]) (g := gName 10) (by rfl) scLplaces.nd (pi_tup (pe_tup (pa_cons pe_int (pa_cons (pe_un un_neg pe_int) (pa_cons (pe_un un_neg pe_int) (pa_cons (pe_un un_neg pe_int) (pa_cons (pe_un un_neg pe_int) (pa_cons (pe_un un_neg pe_int) pa_nil)))))))) (blkOk_by (own := [("more", 10)]) (N := ["turned", "asks", "found", "place", "part", "k", "name", "g", "weight", "last", "more"]) (sc := defScope s_law_places) (by decide +kernel)) (fun _ _ _ _ _ => (pg_name (i := 10) scLplaces.nd rfl (Or.inl rfl))) (fun _ _ _ _ _ => pts_nil) (fun _ _ _ _ _ => (pe_op (show OpR _ (binaryOp .Add) (rCatA K) from op_catA) (pe_slice (show SlR _ (rSlA K) from sl_tupA) (pv 3) po_none (po_some (pe_un un_neg pe_int))) (pe_tup (pa_cons (pe_op op_add (pv 9) (pv 10)) pa_nil))))))))) pss_nil)))))))
    (pss_one (ps_ret (pv 2)))))), ?_⟩
  refine ⟨sz (by show 2 ≤ 100000; decide), fun z1 hz1 => ⟨sz (by show 1 ≤ 100000; decide), fun z2 hz2 => ⟨sz (by show 2 ≤ 100000; decide), fun f0 hf0 => ?_⟩⟩⟩
  have s1 := ((same_new hz1 (.tup [V.str "zz", .int 0])).trans (same_new hz2 (.tup [V.str "zz"]))).trans (same_new hf0 (.lst [.ref z1, .ref z2]))
  have h1 : (upd (upd (upd H z1 (.tup [V.str "zz", .int 0])) z2 (.tup [V.str "zz"])) f0 (.lst [.ref z1, .ref z2])) f0 = some (.lst [.ref z1, .ref z2]) := upd_same
  have g1 : GLv (upd (upd (upd H z1 (.tup [V.str "zz", .int 0])) z2 (.tup [V.str "zz"])) f0 (.lst [.ref z1, .ref z2])) [.ref z1, .ref z2] := fun u hu => by
    simp only [List.mem_cons, List.not_mem_nil, or_false] at hu
    rcases hu with z | z <;> subst z
    · exact gv_new (n := "zz") (ks := [0]) (((same_new hz2 _).trans (same_new hf0 _)) _ _ upd_same) (by decide +kernel) (by decide)
    · exact gv_new (n := "zz") (ks := []) ((same_new hf0 _) _ _ upd_same) (by decide +kernel) (by decide)
  have n1 : H f0 = none := none_back ((same_new hz1 (.tup [V.str "zz", .int 0])).trans (same_new hz2 (.tup [V.str "zz"]))) hf0
  generalize upd (upd (upd H z1 (.tup [V.str "zz", .int 0])) z2 (.tup [V.str "zz"])) f0 (.lst [.ref z1, .ref z2]) = H1 at s1 h1 g1
  have hB1 : TBkAt H1 es us p := ⟨s1 _ _ hB.1, hB.2.imp fun _ _ z => TErV.tk (tk_same s1) z⟩
  refine ⟨_, rfl, p, es, us, rfl, hB1, hK.l6, hcn, fun pl H2 its hpl s2 h2 k2 => ?_⟩
  have hal := allOf_len hcn
  have hl6 := hK.l6
  have hil := k2.len
  have s12 := s1.trans s2
  have hf0p : f0 ≠ pl := fun z => by rw [← z, h1] at hpl; cases hpl
  have nes : ∀ e ∈ es, PySem.PyData.strOk e.1 = true := fun e he => isW_ok (hK.ws e he).1
  refine ⟨pl, rfl, ⟨_, SqL.of h2⟩, for_list (K := K) (a := pl) (xs := its) (fun i σ H' => ∃ (o3 o4 : Option V) (fl : Addr) (vp : List V), σ = [some (.ref p), some (.ref D), some (.ref fl), o3, o4, none, none, none, none, none, none] ∧ Same H H' ∧ TK H2 H' ∧ H' pl = some (.lst its) ∧ fl ≠ pl ∧ H fl = none ∧ H' fl = some (.lst vp) ∧ GLv H' vp ∧ vp ≠ [] ∧ vp.length ≤ 2 + 5 * i) ⟨_, _, f0, _, rfl, s12, fun _ _ h => h, h2, hf0p, n1, s2 _ _ h1, g1.same s2, (fun z => by cases z), (by show 2 ≤ 2 + 5 * 0; decide)⟩ ?_ ?_ ?_⟩
  · rintro i σ H' _ ⟨o3, o4, fl, vp, rfl, _, _, h, _⟩
    exact SqL.of h
  · rintro i x σ H3 hx ⟨o3, o4, fl, vp, rfl, s3, t3, p3, nfp, nfl, h3, g3, ne3, l3⟩
    obtain ⟨en, hen, qe, re, be, rfl, e1, e2, e3⟩ := k2.get hx
    obtain ⟨hi, _⟩ := List.getElem?_eq_some_iff.mp hx
    have hem := mem_of_get hen
    obtain ⟨e, he, en1, en2⟩ := allOf_in hem
    have hk := kP_all _ (hK.nc e he).1 _ en2
    have hpl2 := pl_len _ _ en2
    have hcne := hcn e he
    have hil' : i < 186 := by omega
    have hno : PySem.PyData.strOk en.1 = true := by rw [en1]; exact nes e he
    have e1' := t3 _ _ e1
    have e2' : H3 re = some (.tup (.str en.1 :: en.2.1.map V.int)) := t3 _ _ e2
    refine ⟨qe, _, rfl, SqT.of e1', rfl, _, _, rfl, _, _, rfl, rfl, ?_⟩
    refine ⟨_, rfl, .inl ⟨rfl, _, SqL.of h3⟩, _, rfl, fl, _, _, rfl, rfl, h3, Nat.lt_of_le_of_lt (m := 1000) (by omega) (by decide), ?_⟩
    have tk4 : TK H3 (upd H3 fl (.lst (vp ++ [.ref re]))) := tk_put h3
    have s4 : Same H (upd H3 fl (.lst (vp ++ [.ref re]))) := same_mut s3 nfl
    have p4 : (upd H3 fl (.lst (vp ++ [.ref re]))) pl = some (.lst its) := by rw [upd_ne nfp.symm]; exact p3
    have h4 : (upd H3 fl (.lst (vp ++ [.ref re]))) fl = some (.lst (vp ++ [.ref re])) := upd_same
    have g4 : GLv (upd H3 fl (.lst (vp ++ [.ref re]))) (vp ++ [.ref re]) := GLv.app (g3.tk tk4) fun u hu => by
      rw [List.mem_singleton.mp hu]
      exact gv_new (tk4 _ _ e2') hno (by omega)
    generalize upd H3 fl (.lst (vp ++ [.ref re])) = H4 at tk4 s4 p4 h4 g4
    have t4 : TK H2 H4 := t3.trans tk4
    refine ⟨_, rfl, _, rfl, be, en.2.2, rfl, PAt.tk t4 e3, fun H5 q5 vs5 s5 h5 k5 => ?_⟩
    have hv5 : vs5.length ≤ 4 := by
      rw [k5.len]
      exact terms_le hk
    refine ⟨q5, _, rfl, .inr (SqT.of h5), _, rfl, by omega, by omega, fun D2 hD2 => lc_range (lo := 0) (n := ((vs5.length : Nat) : Int).toNat) (fun j H' => ∃ acc, Same H5 H' ∧ H' D2 = some (.lst acc) ∧ GLv H' acc ∧ acc.length = j) ⟨[], same_new hD2 _, upd_same, (fun u hu => nomatch hu), rfl⟩ ?_ ?_⟩
    · rintro j H6 hj ⟨acc, s6, h6, g6, l6⟩
      have hr6 := s6 _ _ (s5 _ _ (tk4 _ _ e2'))
      refine ⟨rfl, ?_⟩
      dsimp only [tYes]
      refine iteT ?_
      refine ⟨_, rfl, _, rfl, sz (by show 1 ≤ 100000; decide), fun t1 ht1 => ?_⟩
      have s7 := same_new ht1 (.tup [V.int (0 + (j : Nat))])
      refine ⟨re, t1, _, _, rfl, rfl, SqT.of (s7 _ _ hr6), SqT.of upd_same, Nat.le_trans (m := 100) (by rw [List.length_cons, List.length_map]; show _ + 1 + 1 ≤ 100; omega) (by decide), (fun z => nomatch z), (fun _ z => nomatch z), fun _ _ p8 hp8 => ?_⟩
      have s8 := same_new hp8 (.tup ((.str en.1 :: en.2.1.map V.int) ++ [V.int (0 + (j : Nat))]))
      have s68 := s7.trans s8
      have hp8' : (upd (upd H6 t1 (.tup [V.int (0 + (j : Nat))])) p8 (.tup ((.str en.1 :: en.2.1.map V.int) ++ [V.int (0 + (j : Nat))]))) p8 = some (.tup (.str en.1 :: (en.2.1 ++ [(0 + (j : Nat) : Int)]).map V.int)) := by
        rw [upd_same, List.map_append]
        rfl
      generalize upd (upd H6 t1 (.tup [V.int (0 + (j : Nat))])) p8 (.tup ((.str en.1 :: en.2.1.map V.int) ++ [V.int (0 + (j : Nat))])) = H8 at s68 hp8'
      have tk9 : TK H8 (upd H8 D2 (.lst (acc ++ [.ref p8]))) := tk_put (s68 _ _ h6)
      refine ⟨acc, s68 _ _ h6, Nat.lt_of_le_of_lt (m := 10) (by omega) (by decide), acc ++ [.ref p8], same_mut (s6.trans s68) hD2, upd_same, GLv.app ((g6.same s68).tk tk9) fun u hu => ?_, by rw [List.length_append, List.length_singleton, l6]⟩
      rw [List.mem_singleton.mp hu]
      exact gv_new (tk9 _ _ hp8') hno (by rw [List.length_append, List.length_singleton]; omega)
    · rintro H6 ⟨acc, s6, h6, g6, l6⟩
      have s46 := s5.trans s6
      refine ⟨fl, D2, _, _, rfl, rfl, s46 _ _ h4, h6, Nat.le_trans (m := 2000) (by rw [List.length_append, List.length_singleton]; omega) (by decide), fun p7 hp7 => ?_⟩
      have s7 := same_new hp7 (.lst ((vp ++ [.ref re]) ++ acc))
      have s47 := s46.trans s7
      refine ⟨_, _, p7, _, rfl, s4.trans s47, t4.trans (tk_same s47), s47 _ _ p4, (fun z => by rw [z, s46 _ _ p4] at hp7; cases hp7), none_back (s4.trans s46) hp7, upd_same, GLv.app (g4.same s47) (g6.same s7), (fun z => by simp at z), by rw [List.length_append, List.length_append, List.length_singleton]; omega⟩
  · rintro σ H3 ⟨o3, o4, fl, vp, rfl, s3, t3, p3, nfp, nfl, h3, g3, ne3, l3⟩
    have hL3 := hL.same s3
    refine ⟨D, .dK kvs, hL3.rd, trivial, fun od H4 h4 f4 => ?_⟩
    obtain ⟨oD, hoD⟩ := rd_some hL.rd
    have nfD : fl ≠ D := fun z => by rw [z, hoD] at nfl; cases nfl
    have o4' : Off D H3 H4 := Off.of f4
    have hfl4 : H4 fl = some (.lst vp) := by rw [f4 _ nfD]; exact h3
    have kl := hL.la.len
    refine ⟨_, rfl, D, od, rfl, .inl ⟨kvs, h4, for_it walk_keys (fun i σ H' => ∃ (o3 o4 o6 o7 o8 o9 : Option V) (fl : Addr) (vp : List V), σ = [some (.ref p), some (.ref D), some (.ref fl), o3, o4, none, o6, o7, o8, o9, none] ∧ Off D H3 H' ∧ H' D = some (.frz od (.dK kvs)) ∧ H' fl = some (.lst vp) ∧ fl ≠ D ∧ GLv H' vp ∧ vp ≠ [] ∧ vp.length ≤ 1000 + 3300 * i) ?_ ?_ ?_ ?_⟩⟩
    · exact ⟨_, _, _, _, _, _, fl, vp, rfl, o4', h4, hfl4, nfD, g3.tk (o4'.tk hL3.rd), ne3, by omega⟩
    · rintro i σ H' _ ⟨_, _, _, _, _, _, _, _, rfl, _, h, _⟩
      exact h
    · rintro i x σ H5 H6 hi ⟨o3, o4, o6, o7, o8, o9, fl, vp, rfl, o5, d5, h5, nf5, g5, ne5, l5⟩ ⟨e', k, v, hkv, rfl⟩
      subst e'
      rw [kl] at hi
      obtain ⟨e, he, rfl⟩ : ∃ e ∈ es, k = .inr e.1 := by
        have hk : (kvs.map (·.1))[i]? = some k := by rw [List.getElem?_map, hkv]; rfl
        rw [hL.la.keys, List.getElem?_map] at hk
        obtain ⟨e, he, e1⟩ := Option.map_eq_some_iff.mp hk
        exact ⟨e, mem_of_get he, e1.symm⟩
      obtain ⟨e2, la, vl, he2, hen, hval, hla, hal2⟩ := hL3.at (List.mem_map.mpr ⟨e, he, rfl⟩ : e.1 ∈ es.map (·.1))
      have hvl := hal2.len
      have hae := (hK.ws e2 he2).2
      refine ⟨_, rfl, _, rfl, D, .ref la, rfl, DGet.at (.inr ⟨od, d5⟩) hval, la, rfl, ⟨_, SqL.of (o5.lst hL3.rd hla)⟩, for_list (K := K) (a := la) (xs := vl) (fun j σ H' => ∃ (o3 o4 o7 o8 o9 : Option V) (fl : Addr) (vp : List V), σ = [some (.ref p), some (.ref D), some (.ref fl), o3, o4, none, some (.str e.1), o7, o8, o9, none] ∧ Off D H3 H' ∧ H' D = some (.frz od (.dK kvs)) ∧ H' fl = some (.lst vp) ∧ fl ≠ D ∧ GLv H' vp ∧ vp ≠ [] ∧ vp.length ≤ 1000 + 3300 * i + 11 * j) ⟨_, _, _, _, _, fl, vp, rfl, o5, d5, h5, nf5, g5, ne5, by omega⟩ ?_ ?_ ?_⟩
      · rintro j σ H' _ ⟨_, _, _, _, _, _, _, rfl, o, _⟩
        exact SqL.of (o.lst hL3.rd hla)
      · rintro j x σ H7 hx ⟨o3, o4, o7, o8, o9, fl, vp, rfl, o7', d7, h7, nf7, g7, ne7, l7⟩
        obtain ⟨a, ha, tb, q, rfl, hb1, hb2⟩ := hal2.get hx
        obtain ⟨hj, _⟩ := List.getElem?_eq_some_iff.mp hx
        have haE := mem_of_get ha
        have haA := asks_in he2 haE
        have hap := ask_pl hcn haA
        have hao : PySem.PyData.strOk a.1.1 = true := by rw [(asksE_nm haE).1]; exact nes e2 he2
        have hb1' := o7'.tk hL3.rd _ _ hb1
        have hq : H7 q = some (.tup (.str a.1.1 :: a.1.2.map V.int)) := o7'.tk hL3.rd _ _ hb2
        refine ⟨tb, _, rfl, SqT.of hb1', rfl, _, _, rfl, _, _, rfl, _, _, rfl, rfl, ?_⟩
        refine ⟨_, rfl, _, rfl, _, rfl, _, rfl, sz (by show 1 ≤ 100000; decide), fun t1 ht1 => ?_⟩
        have s8 := same_new ht1 (.tup [V.int 0])
        have h8t : (upd H7 t1 (.tup [V.int 0])) t1 = some (.tup [V.int 0]) := upd_same
        have h8q := s8 _ _ hq
        generalize upd H7 t1 (.tup [V.int 0]) = H8 at s8 h8t h8q
        refine catA1 h8q h8t (by omega) fun p9 H9 s9 h9 => ?_
        refine ⟨_, rfl, ?_⟩
        dsimp only [tNoPart]
        refine ⟨_, rfl, ?_⟩
        have s79 := s8.trans s9
        refine slA1 (s9 _ _ h8q) hao (by omega) fun v HA sA gA => ?_
        refine ⟨sz (by show 4 ≤ 100000; decide), fun lB hlB => ?_⟩
        have sB := same_new hlB (.lst [.ref q, .ref q, .ref p9, v])
        have hB' : (upd HA lB (.lst [.ref q, .ref q, .ref p9, v])) lB = some (.lst [.ref q, .ref q, .ref p9, v]) := upd_same
        have s7B := (s79.trans sA).trans sB
        have gB : GLv (upd HA lB (.lst [.ref q, .ref q, .ref p9, v])) [.ref q, .ref q, .ref p9, v] := fun u hu => by
          simp only [List.mem_cons, List.not_mem_nil, or_false] at hu
          rcases hu with z | z | z | z <;> subst z
          · exact gv_new (s7B _ _ hq) hao (by omega)
          · exact gv_new (s7B _ _ hq) hao (by omega)
          · exact gv_new ((sA.trans sB) _ _ h9) hao (by rw [List.length_append, List.length_singleton]; omega)
          · exact gA.same sB
        generalize upd HA lB (.lst [.ref q, .ref q, .ref p9, v]) = HB at sB hB' s7B gB
        refine ⟨fl, lB, _, _, rfl, rfl, s7B _ _ h7, hB', Nat.le_trans (m := 100000) (by show vp.length + 4 ≤ 100000; omega) (by decide), fun lC hlC => ?_⟩
        have sC := same_new hlC (.lst (vp ++ [.ref q, .ref q, .ref p9, v]))
        have hC : (upd HB lC (.lst (vp ++ [.ref q, .ref q, .ref p9, v]))) lC = some (.lst (vp ++ [.ref q, .ref q, .ref p9, v])) := upd_same
        have s7C := s7B.trans sC
        have gC : GLv (upd HB lC (.lst (vp ++ [.ref q, .ref q, .ref p9, v]))) (vp ++ [.ref q, .ref q, .ref p9, v]) := GLv.app (g7.same s7C) (gB.same sC)
        have nC : lC ≠ D := fun z => by rw [z, s7B _ _ d7] at hlC; cases hlC
        generalize upd HB lC (.lst (vp ++ [.ref q, .ref q, .ref p9, v])) = HC at sC hC s7C gC
        have hqC := s7C _ _ hq
        have lvC : (vp ++ [V.ref q, .ref q, .ref p9, v]).length = vp.length + 4 := List.length_append ..
        refine ⟨_, rfl, q, _, rfl, .inr (SqT.of hqC), _, _, rfl, rfl, _, rfl, ?_⟩
        refine ite2 (fun c => ?_) (fun c => ⟨_, _, _, _, _, lC, _, rfl, o7'.same s7C, s7C _ _ d7, hC, nC, gC, (fun z => by simp at z), by omega⟩)
        have hpos : 0 < a.1.2.length := by
          have c' : (1 : Int) < ((V.str a.1.1 :: a.1.2.map V.int).length : Nat) := of_decide_eq_true c
          rw [List.length_cons, List.length_map] at c'
          omega
        obtain ⟨kl2, hkl2⟩ := at_lastI a.1.1 a.1.2 hpos
        refine ⟨_, rfl, _, rfl, q, _, rfl, .inr (SqT.of hqC), _, _, rfl, rfl, q, _, _, _, rfl, rfl, SqT.of hqC, hkl2, ?_⟩
        refine ⟨_, rfl, _, rfl, ?_⟩
        dsimp only [tNoPart]
        refine ⟨_, rfl, _, rfl, ?_⟩
        refine slM1 hqC hpos fun pD HD sD hD => ?_
        refine ⟨sz (by show 1 ≤ 100000; decide), fun lE hlE => ?_⟩
        have sE := same_new hlE (.lst [.ref pD])
        have hE : (upd HD lE (.lst [.ref pD])) lE = some (.lst [.ref pD]) := upd_same
        have sCE := sD.trans sE
        have gE : GLv (upd HD lE (.lst [.ref pD])) [.ref pD] := fun u hu => by
          rw [List.mem_singleton.mp hu]
          exact gv_new (sE _ _ hD) hao (by rw [List.length_dropLast]; omega)
        generalize upd HD lE (.lst [.ref pD]) = HE at sE hE sCE gE
        refine ⟨lC, lE, _, _, rfl, rfl, sCE _ _ hC, hE, Nat.le_trans (m := 100000) (by rw [lvC]; show _ + 1 ≤ 100000; omega) (by decide), fun lF hlF => ?_⟩
        have sF := same_new hlF (.lst ((vp ++ [.ref q, .ref q, .ref p9, v]) ++ [.ref pD]))
        have hF : (upd HE lF (.lst ((vp ++ [.ref q, .ref q, .ref p9, v]) ++ [.ref pD]))) lF = some (.lst ((vp ++ [.ref q, .ref q, .ref p9, v]) ++ [.ref pD])) := upd_same
        have sCF := sCE.trans sF
        have gF : GLv (upd HE lF (.lst ((vp ++ [.ref q, .ref q, .ref p9, v]) ++ [.ref pD]))) ((vp ++ [.ref q, .ref q, .ref p9, v]) ++ [.ref pD]) := GLv.app (gC.same sCF) (gE.same sF)
        generalize upd HE lF (.lst ((vp ++ [.ref q, .ref q, .ref p9, v]) ++ [.ref pD])) = HF at sF hF sCF gF
        refine ⟨_, rfl, _, rfl, _, rfl, _, rfl, _, rfl, sz (by show 6 ≤ 100000; decide), fun tt htt => ?_⟩
        have sG := same_new htt (.tup [V.int 1, .int (-1), .int (-2), .int (-2), .int (-3), .int (-3)])
        have hG : (upd HF tt (.tup [V.int 1, .int (-1), .int (-2), .int (-2), .int (-3), .int (-3)])) tt = some (.tup (([1, -1, -2, -2, -3, -3] : List Int).map V.int)) := upd_same
        have sCG := sCF.trans sG
        have hFG := sG _ _ hF
        have gFG := gF.same sG
        show _
        generalize upd HF tt (.tup [V.int 1, .int (-1), .int (-2), .int (-2), .int (-3), .int (-3)]) = HG at sG hG sCG hFG gFG
        refine ⟨tt, rfl, ⟨_, SqT.of hG⟩, fun D2 hD2 => lc_tup (K := K) (a := tt) (xs := ([1, -1, -2, -2, -3, -3] : List Int).map V.int) (fun j H' => ∃ acc, Same HG H' ∧ H' D2 = some (.lst acc) ∧ GLv H' acc ∧ acc.length = j) ⟨[], same_new hD2 _, upd_same, (fun u hu => nomatch hu), rfl⟩ ?_ ?_ ?_⟩
        · rintro j H' _ ⟨acc, sH, _⟩
          exact SqT.of (sH _ _ hG)
        · rintro j x HH hxj ⟨acc, sH, hH, gH, lH⟩
          obtain ⟨m, hm, rfl⟩ := Option.map_eq_some_iff.mp (by rw [List.getElem?_map] at hxj; exact hxj)
          have hj6 : j < 6 := (List.getElem?_eq_some_iff.mp hm).1
          refine ⟨rfl, ?_⟩
          dsimp only [tYes]
          refine iteT ?_
          refine ⟨_, rfl, ?_⟩
          dsimp only [tNoPart]
          refine ⟨_, rfl, _, rfl, ?_⟩
          refine slM1 (sH _ _ (sCG _ _ hqC)) hpos fun pI HI sI hI => ?_
          refine ⟨_, rfl, _, rfl, _, _, rfl, rfl, sz (by show 1 ≤ 100000; decide), fun tJ htJ => ?_⟩
          have sJ := same_new htJ (.tup [V.int (kl2 + m)])
          have hJt : (upd HI tJ (.tup [V.int (kl2 + m)])) tJ = some (.tup [V.int (kl2 + m)]) := upd_same
          have hJi := sJ _ _ hI
          generalize upd HI tJ (.tup [V.int (kl2 + m)]) = HJ at sJ hJt hJi
          refine catA1 hJi hJt (by rw [List.length_dropLast]; omega) fun pK HK sK hK' => ?_
          have sHK := (sI.trans sJ).trans sK
          have tkL : TK HK (upd HK D2 (.lst (acc ++ [.ref pK]))) := tk_put (sHK _ _ hH)
          refine ⟨acc, sHK _ _ hH, Nat.lt_of_le_of_lt (m := 10) (by omega) (by decide), acc ++ [.ref pK], same_mut (sH.trans sHK) hD2, upd_same, GLv.app ((gH.same sHK).tk tkL) fun u hu => ?_, by rw [List.length_append, List.length_singleton, lH]⟩
          rw [List.mem_singleton.mp hu]
          exact gv_new (tkL _ _ hK') hao (by rw [List.length_append, List.length_singleton, List.length_dropLast]; omega)
        · rintro HH ⟨acc, sH, hH, gH, lH⟩
          have l6 : acc.length = 6 := lH
          refine ⟨lF, D2, _, _, rfl, rfl, sH _ _ hFG, hH, Nat.le_trans (m := 100000) (by rw [List.length_append, lvC]; show _ + 1 + _ ≤ 100000; omega) (by decide), fun lM hlM => ?_⟩
          have sM := same_new hlM (.lst (((vp ++ [.ref q, .ref q, .ref p9, v]) ++ [.ref pD]) ++ acc))
          have s7M := ((s7C.trans sCG).trans sH).trans sM
          refine ⟨_, _, _, _, _, lM, _, rfl, o7'.same s7M, s7M _ _ d7, upd_same, (fun z => by rw [z, ((s7C.trans sCG).trans sH) _ _ d7] at hlM; cases hlM), GLv.app ((gFG.same sH).same sM) (gH.same sM), (fun z => by simp at z), ?_⟩
          rw [List.length_append, List.length_append, lvC]
          show _ + 1 + _ ≤ _
          omega
      · rintro σ H7 ⟨o3, o4, o7, o8, o9, fl, vp, rfl, o7', d7, h7, nf7, g7, ne7, l7⟩
        exact ⟨_, _, _, _, _, _, fl, vp, rfl, o7', d7, h7, nf7, g7, ne7, by omega⟩
    · rintro σ H5 ⟨o3, o4, o6, o7, o8, o9, fl, vp, rfl, o5, d5, h5, nf5, g5, ne5, l5⟩
      rw [kl] at l5
      refine ⟨d5, fun H6 f6 e6 => ?_⟩
      have s36 : Same H3 H6 := o5.back f6 e6
      refine ⟨_, rfl, q fl H6 vp (s3.trans s36) (by rw [f6 _ nf5]; exact h5) (g5.tk fun b xs hb => ?_) ne5 (by omega)⟩
      rw [f6 b (fun z => by rw [z, d5] at hb; cases hb)]
      exact hb
end
end KB

set_option pp.maxSteps 400

namespace KB
open PySem PySem.SeqAt PySem.MeetsSeq PySem.MeetsSeq2 PySem.MeetsSeq3
open PySem.AutoSeq1 (wpAny_loadPart')
/-- two tuples whose items are equal, one by one -/
theorem tup_ne_same {prog : Program} {w : World} (l b : Addr) (xs ys : Array Value) (n m : Nat) (d1 d2 : Option Addr) (t1 t2 : Array (Option Value)) :
    MeetsIn prog w (Builtin.«tuple.__ne__» ⟨[.ref l, .ref b], []⟩) (fun A R s => s.heap.get? l = some ⟨.type "tuple", d1, .seq xs n, t1⟩ ∧ s.heap.get? b = some ⟨.type "tuple", d2, .seq ys m, t2⟩ ∧ xs.size = ys.size ∧
      (∀ z ∈ xs.toList.zip ys.toList, EqP prog w A.in1 s z.1 z.2 true) ∧ R (.ok (.ret (.bool false))) s) :=
  .of_wp fun A R s hyp => by
    obtain ⟨heap, gl, dr, tok, ost⟩ := s
    obtain ⟨ha, hb, hs, hall, hR⟩ := hyp
    have sub := AutoSeq1.sub_tuple_tuple
    wp_walk using wpAny_loadPart' ha, wpAny_loadPart' hb, wpAny_forIn_list _ (fun rest acc s' => acc.1 = none ∧ s' = ⟨heap, gl, dr, tok, ost⟩ ∧ ∀ z ∈ rest, EqP prog w A.in1 ⟨heap, gl, dr, tok, ost⟩ z.1 z.2 true) _

    case turn =>
      rintro ⟨p, q⟩ rest acc s' ⟨hacc, rfl, hz⟩
      refine wpAny_bind (hz (p, q) List.mem_cons_self _ _ ?_)
      wp_walk
      exact ⟨rfl, rfl, fun z hm => hz z (List.mem_cons_of_mem _ hm)⟩
    case fin =>
      rintro ⟨acc1, acc2⟩ s' ⟨hacc, rfl, hz⟩
      obtain rfl : acc1 = none := hacc
      wp_walk
      exact ⟨_, rfl, by simpa [Builtin.Tuple.tupleCompareSizes, bne, hs] using hR⟩
    case h => exact ⟨rfl, rfl, hall⟩
end KB
namespace KB
open PySem L2 HT LamX NdefX
/-- a != b of two tuples of equal items: False -/
def rNeT (K : PySem.W.Frag) : R2 := fun x y H Q => ∃ n a b xs ys, n ≤ 50 ∧ x = .ref a ∧ y = .ref b ∧ SqT K H a xs ∧ SqT K H b ys ∧ Paired (EqV K H n) xs ys ∧ Q (.bl false) H
open PySem.Spec PyProof.Rows in
theorem op_neT {X : Cx} (hu : X.A.units + 64 < cLine) : OpR X (compareOp .NotEq) (rNeT X.K) := by
  intro pins s σ H x y v u Q I rx ry h
  obtain ⟨n, a, b, xs, ys, hn, rfl, rfl, ha, hb, hp, q⟩ := h
  cases (show v = Value.ref a from rx)
  cases (show u = Value.ref b from ry)
  obtain ⟨us, r1, ⟨⟨c1, d1, da1, t1⟩, ho1, hc1, m1, hd1⟩, _⟩ := I.tuple ha
  obtain ⟨ws, r2, ⟨⟨c2, d2, da2, t2⟩, ho2, hc2, m2, hd2⟩, _⟩ := I.tuple hb
  simp only at hc1 hd1 hc2 hd2
  subst hc1 hd1 hc2 hd2
  have hlen : us.length = ws.length := by
    rw [← r1.length, ← r2.length]
    exact Paired.length hp
  have hrun := items_run (s := s) (A := X.A.in1) (eqV_run I n X.A.in1 (by show X.A.units + 1 + n < cLine; omega)) hp r1 r2
  refine wpAny_richCompare_same_room (op := .NotEq) ⟨_, ho1, rfl⟩ ⟨_, ho2, rfl⟩ F.slot_tuple_ne (call_meetsIn F.slot_tuple_ne ⟨_, ho1, rfl⟩ F.entry_tuple_ne (F.args_tuple_ne_2 _ _) (tup_ne_same a b us.toArray ws.toArray m1 m2 d1 d2 t1 t2)
    ⟨ho1, ho2, by rw [List.size_toArray, List.size_toArray]; exact hlen, fun z hz => ?_, show Value.bool false ≠ Value.notImplemented ∧ _ from ⟨(fun z => nomatch z), .bl false, H, I, rfl, q⟩⟩) (by omega)
  obtain ⟨j, hj, e⟩ := List.getElem_of_mem hz
  have hj1 : j < us.length := by
    have := hj
    rw [List.length_zip] at this
    simp at this
    omega
  have hj2 : j < ws.length := by omega
  have k := hrun j hj1 hj2
  rw [← e]
  simpa using k
def spSMostB : Sp := fun vs H Q _ => ∃ (p L Dl : Addr) (es : List TEr) (us rs : List V) (f : Str) (ps : List Pl) (N : List Str) (li : Str → Int) (b : Bool), vs = [.ref p, .str f, .ref L, .ref Dl] ∧ TBkAt H es us p ∧ BkE es ∧ f ∈ es.map (·.1) ∧ H L = some (.lst rs) ∧ All2 (PlcV H) ps rs ∧ (∀ p ∈ ps, p.2.length ≤ 1000) ∧ rs.length ≤ 1000000 ∧ H Dl = some (.dK (LvI N li)) ∧ N.Nodup ∧ N.length ≤ 10 ∧ (∀ n ∈ N, PySem.PyData.strOk n = true) ∧ (b = true ↔ MostB (asksB es) f ps N li) ∧ ∀ H', Same H H' → Q (.bl b) H'
theorem spSMostB.imp {vs : List V} {H : Hp} {Q : VK} {E : XK} (h : spSMostB vs H Q E) : spSMost vs H Q E := by
  obtain ⟨p, L, Dl, es, us, rs, f, ps, N, li, b, e, h0, h1, h2, h3, h4, h5, h6, h7, h8, h9, h10, hb, q⟩ := h
  exact ⟨p, L, Dl, es, us, rs, f, ps, N, li, e, h0, h1, h2, h3, h4, h5, h6, h7, h8, h9, h10, fun z H' s => by
    have : b = true := hb.mpr z
    rw [← this]
    exact q H' s, fun z H' s => by
    have : b = false := by cases b with | false => rfl | true => exact absurd (hb.mp rfl) z
    rw [← this]
    exact q H' s⟩
def spSRingB : Sp := fun vs H Q _ => ∃ (p L1 L2 : Addr) (es : List TEr) (us rs ss : List V) (f : Str) (ps qs : List Pl) (b : Bool), vs = [.ref p, .str f, .ref L1, .ref L2] ∧ TBkAt H es us p ∧ BkE es ∧ f ∈ es.map (·.1) ∧ H L1 = some (.lst rs) ∧ All2 (PlcV H) ps rs ∧ (∀ p ∈ ps, p.2.length ≤ 1000) ∧ H L2 = some (.lst ss) ∧ All2 (PlcV H) qs ss ∧ (∀ p ∈ qs, p.2.length ≤ 1000) ∧ ss.length ≤ 1000000 ∧ (b = true ↔ RingB (asksB es) f ps qs) ∧ ∀ H', Same H H' → Q (.bl b) H'
theorem spSRingB.imp {vs : List V} {H : Hp} {Q : VK} {E : XK} (h : spSRingB vs H Q E) : spSRing vs H Q E := by
  obtain ⟨p, L1, L2, es, us, rs, ss, f, ps, qs, b, e, h0, h1, h2, h3, h4, h5, h6, h7, h8, h9, hb, q⟩ := h
  exact ⟨p, L1, L2, es, us, rs, ss, f, ps, qs, e, h0, h1, h2, h3, h4, h5, h6, h7, h8, h9, fun z H' s => by
    have : b = true := hb.mpr z
    rw [← this]
    exact q H' s, fun z H' s => by
    have : b = false := by cases b with | false => rfl | true => exact absurd (hb.mp rfl) z
    rw [← this]
    exact q H' s⟩
def spLMostB : Sp := fun vs H Q _ => ∃ (D L Dl : Addr) (es : List TEr) (kvs : List (L2.Key × V)) (f : Str) (ps : List Pl) (rs : List V) (N : List Str) (li : Str → Int) (b : Bool), vs = [.ref D, .str f, .ref L, .ref Dl] ∧ LB H D es kvs ∧ f ∈ es.map (·.1) ∧ H L = some (.lst rs) ∧ All2 (PlcV H) ps rs ∧ (∀ p ∈ ps, PySem.PyData.strOk p.1 = true) ∧ H Dl = some (.dK (LvI N li)) ∧ N.Nodup ∧ N.length ≤ 10 ∧ (∀ n ∈ N, PySem.PyData.strOk n = true) ∧ (b = true ↔ MostB (asksB es) f ps N li) ∧ ∀ H', Same H H' → Q (.bl b) H'
theorem spLMostB.imp {vs : List V} {H : Hp} {Q : VK} {E : XK} (h : spLMostB vs H Q E) : spLMost vs H Q E := by
  obtain ⟨D, L, Dl, es, kvs, f, ps, rs, N, li, b, e, h0, h1, h2, h3, h4, h5, h6, h7, h8, hb, q⟩ := h
  exact ⟨D, L, Dl, es, kvs, f, ps, rs, N, li, e, h0, h1, h2, h3, h4, h5, h6, h7, h8, fun z H' s => by
    have : b = true := hb.mpr z
    rw [← this]
    exact q H' s, fun z H' s => by
    have : b = false := by cases b with | false => rfl | true => exact absurd (hb.mp rfl) z
    rw [← this]
    exact q H' s⟩
def spLRingB : Sp := fun vs H Q _ => ∃ (D Lp Lq : Addr) (es : List TEr) (kvs : List (L2.Key × V)) (f : Str) (ps qs : List Pl) (rs ss : List V) (b : Bool), vs = [.ref D, .str f, .ref Lp, .ref Lq] ∧ LB H D es kvs ∧ f ∈ es.map (·.1) ∧ H Lp = some (.lst rs) ∧ All2 (PlcV H) ps rs ∧ (∀ p ∈ ps, PySem.PyData.strOk p.1 = true) ∧ H Lq = some (.lst ss) ∧ All2 (PlcV H) qs ss ∧ (∀ p ∈ qs, PySem.PyData.strOk p.1 = true) ∧ (b = true ↔ RingB (asksB es) f ps qs) ∧ ∀ H', Same H H' → Q (.bl b) H'
theorem spLRingB.imp {vs : List V} {H : Hp} {Q : VK} {E : XK} (h : spLRingB vs H Q E) : spLRing vs H Q E := by
  obtain ⟨D, Lp, Lq, es, kvs, f, ps, qs, rs, ss, b, e, h0, h1, h2, h3, h4, h5, h6, h7, hb, q⟩ := h
  exact ⟨D, Lp, Lq, es, kvs, f, ps, qs, rs, ss, e, h0, h1, h2, h3, h4, h5, h6, h7, fun z H' s => by
    have : b = true := hb.mpr z
    rw [← this]
    exact q H' s, fun z H' s => by
    have : b = false := by cases b with | false => rfl | true => exact absurd (hb.mp rfl) z
    rw [← this]
    exact q H' s⟩
theorem paired_refs {K : PySem.W.Frag} {H : Hp} : ∀ {us : List V}, GLv H us → Paired (EqV K H 1) us us
  | [], _ => .nil
  | u :: us, h => by
    obtain ⟨q, ⟨b, rfl, _⟩, _⟩ := h u List.mem_cons_self
    exact .cons (.inr (.inl ⟨b, rfl, rfl⟩)) (paired_refs fun x hx => h x (List.mem_cons_of_mem _ hx))
section
variable {P : Program} {w : World} {K : PySem.W.Frag} {mg : Str → Option Value} {base : Heap}
/-! ### _law_looked_at -/
def spLook : Sp := fun vs H Q _ => ∃ (p D L Dl Lo : Addr) (es : List TEr) (us : List V) (kvs : List (L2.Key × V)) (f : Str), vs = [.ref p, .ref D, .str f, .ref L, .ref Dl, .ref Lo] ∧ TBkAt H es us p ∧ BkE es ∧ LB H D es kvs ∧ f ∈ es.map (·.1) ∧ Gov H L 1000000 ∧ LvD H Dl 10 ∧ Gov H Lo 1000000 ∧ ∀ H', Same H H' → Q (.bl true) H'
abbrev s_law_looked_at : Stmt := top 60
theorem scLlooked_at : FnScope ["turned", "asks", "f", "row", "levels", "other", "handed", "found", "one"] ["turned", "asks", "f", "row", "levels", "other"] (defScope s_law_looked_at) := ⟨rfl, rfl, rfl, by decide +kernel, rfl, by decide +kernel, by decide +kernel⟩
theorem ok_look (T : Txt K mg) {f f1 f2 f3 f4 : Addr} {fd d1 d2 d3 d4 : FuncData} (F : Fun K "_law_looked_at" "_law_looked_at" s_law_looked_at f fd) (Gshows_most : FnOk P w K mg base CX0 5 f1 d1 ["turned", "f", "row", "levels"] spSMost) (Rshows_most : Ref K mg "shows_most" f1 d1 ["turned", "f", "row", "levels"]) (Gshows_ring : FnOk P w K mg base CX0 5 f2 d2 ["turned", "f", "lead", "ring"] spSRing) (Rshows_ring : Ref K mg "shows_ring" f2 d2 ["turned", "f", "lead", "ring"]) (G_law_is_most : FnOk P w K mg base CX0 2 f3 d3 ["asks", "f", "row", "levels"] spLMost) (R_law_is_most : Ref K mg "_law_is_most" f3 d3 ["asks", "f", "row", "levels"]) (G_law_is_ring : FnOk P w K mg base CX0 2 f4 d4 ["asks", "f", "lead", "ring"] spLRing) (R_law_is_ring : Ref K mg "_law_is_ring" f4 d4 ["asks", "f", "lead", "ring"]) : FnOk P w K mg base CX0 6 f fd ["turned", "asks", "f", "row", "levels", "other"] spLook := by
  refine F.ok scLlooked_at (fun vs H Q E h => ?_) (fun cdv A outer s H vs Q E hr h => ?_)
  · obtain ⟨p, D, L, Dl, Lo, es, us, kvs, f, rfl, _⟩ := h
    rfl
  obtain ⟨p, D, L, Dl, Lo, es, us, kvs, f, rfl, hB, hK, hL, hf, gL, gD, gO, q⟩ := h
  have Gsm := Gshows_most.imp (fun _ _ _ _ => spSMostB.imp)
  have Gsr := Gshows_ring.imp (fun _ _ _ _ => spSRingB.imp)
  have Glm := G_law_is_most.imp (fun _ _ _ _ => spLMostB.imp)
  have Glr := G_law_is_ring.imp (fun _ _ _ _ => spLRingB.imp)
  obtain ⟨rs, hrs, hgr, hrl⟩ := gL.ex
  obtain ⟨ss, ho, hgo, hol⟩ := gO.ex
  obtain ⟨N, li, hD, hN, hNl, hNo⟩ := gD.ex
  obtain ⟨ps, hps, hpo⟩ := hgr.all2
  obtain ⟨qs, hqs, hqo⟩ := hgo.all2
  refine ⟨_, (pss_cons (ps_set (i := 6) scLlooked_at.nd rfl (Or.inl rfl) (pe_tup (pa_cons (pe_callTy call_list_of (by rfl) T.m_list (by decide +kernel) (pa_cons (pv 3) pa_nil)) (pa_cons (pe_callTy call_dictD (by rfl) T.m_dict (by decide +kernel) (pa_cons (pv 4) pa_nil)) (pa_cons (pe_callTy call_list_of (by rfl) T.m_list (by decide +kernel) (pa_cons (pv 5) pa_nil)) pa_nil)))))
    (pss_cons (ps_set (i := 7) scLlooked_at.nd rfl (Or.inl rfl) (pe_lst (pa_cons (pe_call Gsm (hr.mono (by omega)) rfl Rshows_most.m Rshows_most.k Rshows_most.b .nil pass0 (pa_cons (pv 0) (pa_cons (pv 2) (pa_cons (pv 3) (pa_cons (pv 4) pa_nil))))) (pa_cons (pe_call Gsr (hr.mono (by omega)) rfl Rshows_ring.m Rshows_ring.k Rshows_ring.b .nil pass0 (pa_cons (pv 0) (pa_cons (pv 2) (pa_cons (pv 3) (pa_cons (pv 5) pa_nil))))) pa_nil))))
    (pss_cons (ps_if (PW.pt (pw_or (pt_not (pt_val (pe_callB (cr_all rfl) (by rfl) T.m_all (by decide +kernel) (pa_cons (pe_lc (own := [("one", 8)]) (g := gName 8) (by rfl) scLlooked_at.nd (pi_list (pv 7)) (blkOk_by (own := [("one", 8)]) (N := ["turned", "asks", "f", "row", "levels", "other", "handed", "found", "one"]) (sc := defScope s_law_looked_at) (by decide +kernel)) (fun _ _ _ _ _ => (pg_name (i := 8) scLlooked_at.nd rfl (Or.inl rfl))) (fun _ _ _ _ _ => pts_nil) (fun _ _ _ _ _ => (pe_callB (show CallR _ (.builtin "isinstance") (rIsi K) from call_isi) (by rfl) T.m_isinstance (by decide +kernel) (pa_cons (pv 8) (pa_cons (pe_bltn (v := .ty "bool") rfl T.m_bool (by decide +kernel) rfl) pa_nil))))) pa_nil)))) (pw_or1 (pt_cmpR (op_neT hr.units) (pe_tup (pa_cons (pv 3) (pa_cons (pv 4) (pa_cons (pv 5) pa_nil)))) (pv 6) (nomark _))))) (pss_one (ps_ret pe_bl)) pss_nil)
    (pss_one (ps_ret (pe_cmpR (op_eqD hr.units) (pv 7) (pe_lst (pa_cons (pe_call Glm (hr.mono (by omega)) rfl R_law_is_most.m R_law_is_most.k R_law_is_most.b .nil pass0 (pa_cons (pv 1) (pa_cons (pv 2) (pa_cons (pv 3) (pa_cons (pv 4) pa_nil))))) (pa_cons (pe_call Glr (hr.mono (by omega)) rfl R_law_is_ring.m R_law_is_ring.k R_law_is_ring.b .nil pass0 (pa_cons (pv 1) (pa_cons (pv 2) (pa_cons (pv 3) (pa_cons (pv 5) pa_nil))))) pa_nil))) (nomark _))))))), ?_⟩
  refine ⟨_, rfl, L, rs, rfl, .inl (SqL.of hrs), fun l1 hl1 => ?_⟩
  have s1 := same_new hl1 (.lst rs)
  refine ⟨_, rfl, Dl, _, rfl, .inl (s1 _ _ hD), fun d2 hd2 => ?_⟩
  have s2 := s1.trans (same_new hd2 (.dK (LvI N li)))
  refine ⟨_, rfl, Lo, ss, rfl, .inl (SqL.of (s2 _ _ ho)), fun l3 hl3 => ?_⟩
  have s3 := s2.trans (same_new hl3 (.lst ss))
  refine ⟨sz (by show 3 ≤ 100000; decide), fun t4 ht4 => ?_⟩
  have x4 := same_new ht4 (.tup [.ref l1, .ref d2, .ref l3])
  have s4 := s3.trans x4
  have e4 : (upd (upd (upd (upd H l1 (.lst rs)) d2 (.dK (LvI N li))) l3 (.lst ss)) t4 (.tup [.ref l1, .ref d2, .ref l3])) t4 = some (.tup [.ref l1, .ref d2, .ref l3]) := upd_same
  have c1 := x4 _ _ ((same_new hl3 _) _ _ ((same_new hd2 _) _ _ (upd_same (H := H) (a := l1) (o := .lst rs))))
  have c2 := x4 _ _ ((same_new hl3 _) _ _ (upd_same (H := upd H l1 (.lst rs)) (a := d2) (o := .dK (LvI N li))))
  have c3 := x4 _ _ (upd_same (H := upd (upd H l1 (.lst rs)) d2 (.dK (LvI N li))) (a := l3) (o := .lst ss))
  generalize upd (upd (upd (upd H l1 (.lst rs)) d2 (.dK (LvI N li))) l3 (.lst ss)) t4 (.tup [.ref l1, .ref d2, .ref l3]) = H4 at s4 e4 c1 c2 c3
  obtain ⟨b1, hb1⟩ : ∃ b1 : Bool, b1 = true ↔ MostB (asksB es) f ps N li := ⟨@decide _ (Classical.propDecidable _), @decide_eq_true_iff _ (Classical.propDecidable _)⟩
  obtain ⟨b2, hb2⟩ : ∃ b2 : Bool, b2 = true ↔ RingB (asksB es) f ps qs := ⟨@decide _ (Classical.propDecidable _), @decide_eq_true_iff _ (Classical.propDecidable _)⟩
  have tkB : ∀ {Hn : Hp}, Same H Hn → TBkAt Hn es us p := fun s => ⟨s _ _ hB.1, hB.2.imp fun _ _ z => TErV.tk (tk_same s) z⟩
  have ap : ∀ {Hn : Hp}, Same H Hn → All2 (PlcV Hn) ps rs := fun s => hps.imp fun _ _ z => z.tk (tk_same s)
  have aq : ∀ {Hn : Hp}, Same H Hn → All2 (PlcV Hn) qs ss := fun s => hqs.imp fun _ _ z => z.tk (tk_same s)
  refine ⟨_, rfl, _, rfl, _, rfl, _, rfl, p, L, Dl, es, us, rs, f, ps, N, li, b1, rfl, tkB s4, hK, hf, s4 _ _ hrs, ap s4, fun z hz => (hpo z hz).2, hrl, s4 _ _ hD, hN, hNl, hNo, hb1, fun H5 s5 => ?_⟩
  have s05 := s4.trans s5
  refine ⟨_, rfl, _, rfl, _, rfl, _, rfl, p, L, Lo, es, us, rs, ss, f, ps, qs, b2, rfl, tkB s05, hK, hf, s05 _ _ hrs, ap s05, (fun z hz => (hpo z hz).2), s05 _ _ ho, aq s05, (fun z hz => (hqo z hz).2), hol, hb2, fun H6 s6 => ?_⟩
  refine ⟨sz (by show 2 ≤ 100000; decide), fun l7 hl7 => ?_⟩
  have x7 := same_new hl7 (.lst [.bl b1, .bl b2])
  have h7 : (upd H6 l7 (.lst [.bl b1, .bl b2])) l7 = some (.lst (([b1, b2] : List Bool).map V.bl)) := upd_same
  have s47 := (s5.trans s6).trans x7
  have s07 := s4.trans s47
  generalize upd H6 l7 (.lst [.bl b1, .bl b2]) = H7 at x7 h7 s47 s07
  refine ⟨_, rfl, l7, rfl, ⟨_, SqL.of h7⟩, fun D2 hD2 => lc_list (K := K) (a := l7) (xs := ([b1, b2] : List Bool).map V.bl) (fun j H' => Same H7 H' ∧ H' D2 = some (.lst ((List.replicate j true).map V.bl))) ⟨same_new hD2 _, upd_same⟩ ?_ ?_ ?_⟩
  · rintro j H' _ ⟨s8, _⟩
    exact SqL.of (s8 _ _ h7)
  · rintro j x H8 hx ⟨s8, h8⟩
    obtain ⟨b, hb, rfl⟩ := Option.map_eq_some_iff.mp (by rw [List.getElem?_map] at hx; exact hx)
    have hj : j < 2 := (List.getElem?_eq_some_iff.mp hb).1
    refine ⟨rfl, ?_⟩
    dsimp only [tYes]
    refine iteT ?_
    refine ⟨_, rfl, .bl b, .ty "bool", .type "bool", .type "bool", true, rfl, .ty "bool", .base (.bl b), kit_ty (by decide +kernel), _, h8, Nat.lt_of_le_of_lt (m := 2) (by rw [List.length_map, List.length_replicate]; omega) (by decide), same_mut s8 hD2, ?_⟩
    rw [upd_same, List.replicate_succ', List.map_append]
    rfl
  · rintro H8 ⟨s8, h8⟩
    refine ⟨D2, _, rfl, SqL.of h8, _, rfl, itF (by rw [all_true]; rfl) ?_⟩
    have s48 := s47.trans s8
    have s08 := s07.trans s8
    refine ⟨_, rfl, _, rfl, _, rfl, sz (by show 3 ≤ 100000; decide), fun t9 ht9 => ?_⟩
    have x9 := same_new ht9 (.tup [.ref L, .ref Dl, .ref Lo])
    have e9 : (upd H8 t9 (.tup [.ref L, .ref Dl, .ref Lo])) t9 = some (.tup [.ref L, .ref Dl, .ref Lo]) := upd_same
    have s49 := s48.trans x9
    have s09 := s08.trans x9
    have h79 := (s8.trans x9) _ _ h7
    generalize upd H8 t9 (.tup [.ref L, .ref Dl, .ref Lo]) = H9 at x9 e9 s49 s09 h79
    refine ⟨_, rfl, 2, t9, t4, _, _, by decide, rfl, rfl, SqT.of e9, SqT.of (s49 _ _ e4), .cons (.inr (.inr (.inl ⟨L, l1, rs, rs, rfl, rfl, SqL.of (s09 _ _ hrs), SqL.of (s49 _ _ c1), paired_refs (hgr.same s09)⟩)))
      (.cons (.inr (.inr (.inr ⟨Dl, d2, LvI N li, LvI N li, rfl, rfl, s09 _ _ hD, s49 _ _ c2, rfl, fun z hz => ?_⟩))) (.cons (.inr (.inr (.inl ⟨Lo, l3, ss, ss, rfl, rfl, SqL.of (s09 _ _ ho), SqL.of (s49 _ _ c3), paired_refs (hgo.same s09)⟩))) .nil)), _, rfl, itF rfl ?_⟩
    · obtain ⟨n, hn, rfl⟩ := List.mem_map.mp hz
      exact ⟨.int (li n), lvI_val hn, .inl ⟨rfl, rfl⟩⟩
    have hL9 := hL.same s09
    refine ⟨_, rfl, _, rfl, _, rfl, _, rfl, _, rfl, D, L, Dl, es, kvs, f, ps, rs, N, li, b1, rfl, hL9, hf, s09 _ _ hrs, ap s09, (fun z hz => (hpo z hz).1), s09 _ _ hD, hN, hNl, hNo, hb1, fun HA sA => ?_⟩
    have s0A := s09.trans sA
    refine ⟨_, rfl, _, rfl, _, rfl, _, rfl, D, L, Lo, es, kvs, f, ps, qs, rs, ss, b2, rfl, hL.same s0A, hf, s0A _ _ hrs, ap s0A, (fun z hz => (hpo z hz).1), s0A _ _ ho, aq s0A, (fun z hz => (hqo z hz).1), hb2, fun HB sB => ?_⟩
    refine ⟨sz (by show 2 ≤ 100000; decide), fun lC hlC => ?_⟩
    have xC := same_new hlC (.lst [.bl b1, .bl b2])
    have s0C := (s0A.trans sB).trans xC
    have h7C := ((sA.trans sB).trans xC) _ _ h79
    have shp : SeqAt.shaped (.list [.bool b1, .bool b2]) = true := by cases b1 <;> cases b2 <;> decide
    refine ⟨.list [.bool b1, .bool b2], .list [.bool b1, .bool b2], .lst (SqL.of h7C) (.cons (.bl b1) (.cons (.bl b2) .nil)), .lst (SqL.of upd_same) (.cons (.bl b1) (.cons (.bl b2) .nil)), shp, shp, ?_⟩
    rw [SeqAt.eqv_refl _ (SeqAt.canLay_of_shaped shp)]
    exact q _ s0C
end
end KB

set_option pp.maxSteps 400
namespace KB
open PySem L2 HT LamX NdefX

theorem LaL.monoR {H H' : Hp} (k : ∀ l vs, (∀ v ∈ vs, ∃ t, v = V.ref t) → H l = some (.lst vs) → H' l = some (.lst vs)) (t : TK H H') : ∀ {es : List TEr} {kvs : List (L2.Key × V)}, LaL H es kvs → LaL H' es kvs
  | [], [], _ => trivial
  | _ :: _, _ :: _, ⟨⟨e, l, vs, h1, h2, h3⟩, r⟩ => ⟨⟨e, l, vs, h1, k _ _ (fun v hv => by
      obtain ⟨i, hi, e1⟩ := List.getElem_of_mem hv
      obtain ⟨a, _, t, q, e2, _⟩ := h3.get (List.getElem?_eq_getElem hi)
      exact ⟨t, by rw [← e1]; exact e2⟩) h2, h3.imp fun _ _ z => z.tk t⟩, r.monoR k t⟩
  | [], _ :: _, h => h.elim
  | _ :: _, [], h => h.elim
theorem Gov.but {H H' : Hp} {tp a : Addr} {n : Nat} (h : Gov H a n) (b : But1 tp H H') (t : Tp H tp) : Gov H' a n := let ⟨us, h1, h2, h3⟩ := h.ex; ⟨⟨us, b _ _ (h2.nt t h1) h1, h2.tk (But1.tk t b), h3⟩⟩
theorem LvD.but {H H' : Hp} {tp a : Addr} {n : Nat} (h : LvD H a n) (b : But1 tp H H') (t : Tp H tp) : LvD H' a n := let ⟨N, li, h1, h2⟩ := h.ex; ⟨⟨N, li, b _ _ (fun z => by
  obtain ⟨y, hy⟩ := t
  rw [z, hy] at h1
  cases h1) h1, h2⟩⟩
theorem LvD.le {H : Hp} {a : Addr} {n m : Nat} (h : LvD H a n) (e : n ≤ m) : LvD H a m := let ⟨N, li, h1, h2, h3, h4⟩ := h.ex; ⟨⟨N, li, h1, h2, Nat.le_trans h3 e, h4⟩⟩
/-- all stays but the tape and the locked asks -/
structure FrK (tp D : Addr) (od : Obj) (kvs : List (L2.Key × V)) (Hb H : Hp) : Prop where
  b : ButK tp D Hb H
  d : H D = some (.frz od (.dK kvs))
  t : Tp H tp
section
variable {tp D : Addr} {od : Obj} {kvs : List (L2.Key × V)} {Hb H H' : Hp}
theorem FrK.same (h : FrK tp D od kvs Hb H) (s : Same H H') : FrK tp D od kvs Hb H' := ⟨h.b.trans (butK_same s), s _ _ h.d, h.t.same s⟩
theorem FrK.but (h : FrK tp D od kvs Hb H) (b : But1 tp H H') (t : Tp H' tp) : FrK tp D od kvs Hb H' := ⟨h.b.trans b.two, b _ _ (fun z => by
  obtain ⟨y, hy⟩ := h.t
  have hd := h.d
  rw [z, hy] at hd
  cases hd) h.d, t⟩
theorem FrK.tk (h : FrK tp D od kvs Hb H) (t : Tp Hb tp) (e : Hb D = some (.dK kvs)) : TK Hb H := fun a ys hx => h.b a _ (fun z => by
  obtain ⟨y, hy⟩ := t
  rw [z, hy] at hx
  cases hx) (fun z => by rw [z, e] at hx; cases hx) hx
theorem FrK.bk (h : FrK tp D od kvs Hb H) {es : List TEr} {us : List V} {p : Addr} (hB : TBkAt Hb es us p) (t : Tp Hb tp) (e : Hb D = some (.dK kvs)) : TBkAt H es us p := ⟨h.tk t e _ _ hB.1, hB.2.imp fun _ _ z => TErV.tk (h.tk t e) z⟩
theorem FrK.lb (h : FrK tp D od kvs Hb H) {es : List TEr} (hL : LB Hb D es kvs) (t : Tp Hb tp) (e : Hb D = some (.dK kvs)) : LB H D es kvs :=
  ⟨.inr ⟨od, h.d⟩, hL.la.monoR (fun l vs hv hl => h.b _ _ (fun z => by
    obtain ⟨y, hy⟩ := t
    rw [z, hy] at hl
    cases hl
    obtain ⟨t2, e2⟩ := hv _ List.mem_cons_self
    cases e2) (fun z => by rw [z, e] at hl; cases hl) hl) (h.tk t e), hL.nd, hL.l6, hL.ws, hL.as, hL.tg⟩
theorem FrK.lst (h : FrK tp D od kvs Hb H) (t : Tp Hb tp) (e : Hb D = some (.dK kvs)) {l : Addr} {vs : List V} (g : GLv Hb vs) (hl : Hb l = some (.lst vs)) : H l = some (.lst vs) := by
  by_cases c : l = D
  · rw [c, e] at hl
    cases hl
  · exact h.b _ _ (g.nt t hl) c hl
theorem FrK.nls (h : FrK tp D od kvs Hb H) (t : Tp Hb tp) (e : Hb D = some (.dK kvs)) {l : Addr} {xs : List Str} (hl : Hb l = some (.lst (xs.map V.str))) : H l = some (.lst (xs.map V.str)) := by
  by_cases c : l = D
  · rw [c, e] at hl
    cases hl
  · refine h.b _ _ (fun z => ?_) c hl
    obtain ⟨y, hy⟩ := t
    rw [z, hy] at hl
    have : xs.map V.str = [.int y] := (HO.lst.inj (Option.some.inj hl)).symm
    cases xs with
    | nil => cases this
    | cons a r => cases (List.cons.inj this).1
end
section
variable {P : Program} {w : World} {K : PySem.W.Frag} {mg : Str → Option Value} {base : Heap}
/-! ### law -/
theorem rP_hd {hd : Str → Option Nat} : ∀ {p : Pt} {xs js : List Str}, rP hd p xs js → ∀ x ∈ allP p, ∀ g ts j, x.2 = .ask g ts j → ∃ n, hd g = some n
  | .give _ _, _, _, _, x, hx, g, ts, j, e => by
    rw [List.mem_singleton.mp hx] at e
    cases e
  | .ask f ts0 j0, _, _, h, x, hx, g, ts, j, e => by
    rw [List.mem_singleton.mp hx] at e
    cases e
    exact ⟨_, h.2.2.1⟩
  | .tell _ _ p, _, _, h, x, hx, g, ts, j, e => by
    rcases List.mem_cons.mp hx with z | z
    · rw [z] at e; cases e
    · rw [List.append_nil] at z
      obtain ⟨y, hy, rfl⟩ := List.mem_map.mp z
      exact rP_hd (p := p) h.2.2 y hy g ts j e
  | .lett _ _ p, _, _, h, x, hx, g, ts, j, e => by
    rcases List.mem_cons.mp hx with z | z
    · rw [z] at e; cases e
    · rw [List.append_nil] at z
      obtain ⟨y, hy, rfl⟩ := List.mem_map.mp z
      exact rP_hd (p := p) h.2.2 y hy g ts j e
  | .iff _ p q, _, _, h, x, hx, g, ts, j, e => by
    rcases List.mem_cons.mp hx with z | z
    · rw [z] at e; cases e
    · rw [List.append_nil] at z
      rcases List.mem_append.mp z with z | z
      · obtain ⟨y, hy, rfl⟩ := List.mem_map.mp z
        exact rP_hd (p := p) h.2.1 y hy g ts j e
      · obtain ⟨y, hy, rfl⟩ := List.mem_map.mp z
        exact rP_hd (p := q) h.2.2 y hy g ts j e
  | .post _ _ p q, _, _, h, x, hx, g, ts, j, e => by
    rcases List.mem_cons.mp hx with z | z
    · rw [z] at e; cases e
    · rw [List.append_nil] at z
      rcases List.mem_append.mp z with z | z
      · obtain ⟨y, hy, rfl⟩ := List.mem_map.mp z
        exact rP_hd (p := p) h.2.2.1 y hy g ts j e
      · obtain ⟨y, hy, rfl⟩ := List.mem_map.mp z
        exact rP_hd (p := q) h.2.2.2 y hy g ts j e
def spLaw (K : PySem.W.Frag) : Sp := fun vs H Q _ => ∃ (a : Addr) (ns : List Int), vs = [.ref a] ∧ SqL K H a (ns.map V.int) ∧ ns.length ≤ 63 ∧ ∀ H', Q (.bl true) H'
abbrev slaw : Stmt := top 61
theorem sclaw : FnScope ["script", "tape", "turned", "asks", "places", "names", "f", "word", "row", "more", "levels", "ring", "name", "turn", "one", "two", "other"] ["script"] (defScope slaw) := ⟨rfl, rfl, rfl, by decide +kernel, rfl, by decide +kernel, by decide +kernel⟩
theorem ok_law (T : Txt K mg) {f f1 f2 f3 f4 f5 f6 f7 f8 f9 : Addr} {fd d1 d2 d3 d4 d5 d6 d7 d8 d9 : FuncData} (F : Fun K "law" "law" slaw f fd)
    (G_law_waits_book : FnOk P w K mg base CX0 18 f1 d1 ["script", "tape"] (spWaits K)) (R_law_waits_book : Ref K mg "_law_waits_book" f1 d1 ["script", "tape"]) (G_law_tape : FnOk P w K mg base CX0 2 f2 d2 ["script", "k"] (spTape K)) (R_law_tape : Ref K mg "_law_tape" f2 d2 ["script", "k"])
    (G_law_asks : FnOk P w K mg base CX0 92 f3 d3 ["turned"] spLAsks) (R_law_asks : Ref K mg "_law_asks" f3 d3 ["turned"]) (Gmost_waiting : FnOk P w K mg base CX0 5 f4 d4 ["turned", "f"] spMW) (Rmost_waiting : Ref K mg "most_waiting" f4 d4 ["turned", "f"])
    (G_law_places : FnOk P w K mg base CX0 93 f5 d5 ["turned", "asks"] spPlc) (R_law_places : Ref K mg "_law_places" f5 d5 ["turned", "asks"]) (G_law_come_to : FnOk P w K mg base CX0 1 f6 d6 ["asks", "f"] spCome) (R_law_come_to : Ref K mg "_law_come_to" f6 d6 ["asks", "f"])
    (G_law_bent_row : FnOk P w K mg base CX0 2 f7 d7 ["tape", "places", "row"] spBRow) (R_law_bent_row : Ref K mg "_law_bent_row" f7 d7 ["tape", "places", "row"]) (G_law_bent_levels : FnOk P w K mg base CX0 2 f8 d8 ["tape", "names", "levels"] spBLev) (R_law_bent_levels : Ref K mg "_law_bent_levels" f8 d8 ["tape", "names", "levels"]) (G_law_looked_at : FnOk P w K mg base CX0 6 f9 d9 ["turned", "asks", "f", "row", "levels", "other"] spLook) (R_law_looked_at : Ref K mg "_law_looked_at" f9 d9 ["turned", "asks", "f", "row", "levels", "other"]) : FnOk P w K mg base CX0 94 f fd ["script"] (spLaw K) := by
  refine F.ok sclaw (fun vs H Q E h => ?_) (fun cdv A outer s H vs Q E hr h => ?_)
  · obtain ⟨sc, ns, rfl, _⟩ := h
    rfl
  obtain ⟨sc, ns, rfl, hS, hn63, q⟩ := h
  refine ⟨_, (pss_cons (ps_set (i := 1) sclaw.nd rfl (Or.inl rfl) (pe_call G_law_tape (hr.mono (by omega)) rfl R_law_tape.m R_law_tape.k R_law_tape.b .nil pass0 (pa_cons (pv 0) (pa_cons pe_int pa_nil))))
    (pss_cons (ps_set (i := 2) sclaw.nd rfl (Or.inl rfl) (pe_call G_law_waits_book (hr.mono (by omega)) rfl R_law_waits_book.m R_law_waits_book.k R_law_waits_book.b .nil pass0 (pa_cons (pv 0) (pa_cons (pv 1) pa_nil))))
    (pss_cons (ps_set (i := 3) sclaw.nd rfl (Or.inl rfl) (pe_call G_law_asks (hr.mono (by omega)) rfl R_law_asks.m R_law_asks.k R_law_asks.b .nil pass0 (pa_cons (pv 2) pa_nil)))
    (pss_cons (ps_set (i := 4) sclaw.nd rfl (Or.inl rfl) (pe_call G_law_places (hr.mono (by omega)) rfl R_law_places.m R_law_places.k R_law_places.b .nil pass0 (pa_cons (pv 2) (pa_cons (pv 3) pa_nil))))
    (pss_cons (ps_set (i := 5) sclaw.nd rfl (Or.inl rfl) (pe_op op_cat (pe_callTy (call_list_dK rfl) (by rfl) T.m_list (by decide +kernel) (pa_cons (pv 3) pa_nil)) (pe_lst (pa_cons pe_str pa_nil))))
    (pss_cons (ps_lockR (ps_for PassesOwn.never rfl (pi_keys (pv 3)) (pg_name (i := 6) sclaw.nd rfl (Or.inl rfl)) (pss_cons (ps_asg (pe_call Gmost_waiting (hr.mono (by omega)) rfl Rmost_waiting.m Rmost_waiting.k Rmost_waiting.b .nil pass0 (pa_cons (pv 2) (pa_cons (pv 6) pa_nil))) (pg_tup rfl (pgs_cons (pg_name (i := 7) sclaw.nd rfl (Or.inl rfl)) (pgs_cons (pg_name (i := 8) sclaw.nd rfl (Or.inl rfl)) (pgs_cons (pg_name (i := 9) sclaw.nd rfl (Or.inl rfl)) pgs_nil)))))
    (pss_cons (ps_par (i := 10) (j := 11) rfl sclaw.nd rfl rfl (by decide) rfl rfl (pa_cons pe_dnewK (pa_cons (pe_lst pa_nil) pa_nil)) (by rfl))
    (pss_cons (ps_if (pt_cmpR op_eq (pv 7) pe_str (nomark _)) (pss_one (ps_set (i := 10) sclaw.nd rfl (Or.inl rfl) (pv 9))) (pss_cons (ps_set (i := 11) sclaw.nd rfl (Or.inl rfl) (pv 9))
    (pss_one (ps_for PassesOwn.never rfl (pi_list (pe_call G_law_come_to (hr.mono (by omega)) rfl R_law_come_to.m R_law_come_to.k R_law_come_to.b .nil pass0 (pa_cons (pv 3) (pa_cons (pv 6) pa_nil)))) (pg_name (i := 12) sclaw.nd rfl (Or.inl rfl)) (pss_one (ps_dput (hu_of hr) (pv 10) (pv 12) (pe_callB call_len_seq (by rfl) T.m_len PySem.boot_len (pa_cons (pv 8) pa_nil)) rfl))))))
    (pss_cons (ps_if (pt_not (pt_val (pe_call G_law_looked_at (hr.mono (by omega)) rfl R_law_looked_at.m R_law_looked_at.k R_law_looked_at.b .nil pass0 (pa_cons (pv 2) (pa_cons (pv 3) (pa_cons (pv 6) (pa_cons (pv 8) (pa_cons (pv 10) (pa_cons (pv 11) pa_nil))))))))) (pss_one (ps_ret pe_bl)) pss_nil)
    (pss_one (ps_for PassesOwn.never rfl (pi_range1 rfl T.m_range (pa_cons pe_int pa_nil)) (pg_name (i := 13) sclaw.nd rfl (Or.inl rfl)) (pss_cons (ps_set (i := 14) sclaw.nd rfl (Or.inl rfl) (pe_call G_law_bent_row (hr.mono (by omega)) rfl R_law_bent_row.m R_law_bent_row.k R_law_bent_row.b .nil pass0 (pa_cons (pv 1) (pa_cons (pv 4) (pa_cons (pv 8) pa_nil)))))
    (pss_cons (ps_set (i := 15) sclaw.nd rfl (Or.inl rfl) (pe_call G_law_bent_levels (hr.mono (by omega)) rfl R_law_bent_levels.m R_law_bent_levels.k R_law_bent_levels.b .nil pass0 (pa_cons (pv 1) (pa_cons (pv 5) (pa_cons (pv 10) pa_nil)))))
    (pss_cons (ps_set (i := 16) sclaw.nd rfl (Or.inl rfl) (pe_call G_law_bent_row (hr.mono (by omega)) rfl R_law_bent_row.m R_law_bent_row.k R_law_bent_row.b .nil pass0 (pa_cons (pv 1) (pa_cons (pv 4) (pa_cons (pv 11) pa_nil)))))
    (pss_cons (ps_if (pt_not (pt_val (pe_call G_law_looked_at (hr.mono (by omega)) rfl R_law_looked_at.m R_law_looked_at.k R_law_looked_at.b .nil pass0 (pa_cons (pv 2) (pa_cons (pv 3) (pa_cons (pv 6) (pa_cons (pv 14) (pa_cons (pv 10) (pa_cons (pv 11) pa_nil))))))))) (pss_one (ps_ret pe_bl)) pss_nil)
    (pss_cons (ps_if (pt_not (pt_val (pe_call G_law_looked_at (hr.mono (by omega)) rfl R_law_looked_at.m R_law_looked_at.k R_law_looked_at.b .nil pass0 (pa_cons (pv 2) (pa_cons (pv 3) (pa_cons (pv 6) (pa_cons (pv 8) (pa_cons (pv 15) (pa_cons (pv 16) pa_nil))))))))) (pss_one (ps_ret pe_bl)) pss_nil)
    (pss_one (ps_if (pt_not (pt_val (pe_call G_law_looked_at (hr.mono (by omega)) rfl R_law_looked_at.m R_law_looked_at.k R_law_looked_at.b .nil pass0 (pa_cons (pv 2) (pa_cons (pv 3) (pa_cons (pv 6) (pa_cons (pv 14) (pa_cons (pv 15) (pa_cons (pe_lst pa_nil) pa_nil))))))))) (pss_one (ps_ret pe_bl)) pss_nil)))))))))))))))
    (pss_one (ps_ret pe_bl)))))))), ?_⟩
  refine ⟨_, rfl, sc, ns, 0, rfl, hS, by decide, by decide, fun tp z0 htp => ?_⟩
  refine ⟨_, rfl, _, rfl, sc, tp, ns, H, rfl, hS, htp, same_new htp _, ⟨z0, upd_same⟩, fun p es us H1 hd s1 hB hT1 hW => ?_⟩
  have hK : BkE es := ⟨hW.nd, hW.l6, hW.nc, hW.al, hW.ws, hW.as, fun a ha => by
    obtain ⟨e, he, hae, _⟩ := asksB_er ha
    rw [asksE_same] at hae
    obtain ⟨x, hx, hh⟩ := List.mem_filterMap.mp hae
    obtain ⟨ks, pt⟩ := x
    cases pt with
    | ask g ts j =>
      have : some (((e.1, ks), g, if j = "home" then 0 else 1) : Ak) = some a := hh
      cases this
      obtain ⟨n, hn⟩ := rP_hd (hW.rt e he).ok _ hx g ts j rfl
      exact hW.dom _ _ hn
    | _ => cases hh⟩
  refine ⟨_, rfl, p, es, us, rfl, hB, hK.l6, hK.nd, fun e he => Nat.le_trans (hW.cn e he) (by decide), fun D H2 kvs hD s2 h2 k2 => ?_⟩
  have hB2 : TBkAt H2 es us p := ⟨s2 _ _ hB.1, hB.2.imp fun _ _ z => TErV.tk (tk_same s2) z⟩
  have hL2 : LB H2 D es kvs := ⟨.inl h2, k2, hK.nd, hK.l6, hK.ws, hK.as, hK.tg⟩
  refine ⟨_, rfl, _, rfl, p, D, es, us, kvs, rfl, hB2, hK, hW.cn, hL2, fun pl H3 vp s3 hpl3 hgp3 hpne hpl5 => ?_⟩
  refine ⟨_, rfl, D, kvs, rfl, s3 _ _ h2, fun l4 hl4 => ?_⟩
  have s4 := same_new hl4 (.lst (kvs.map fun kv => kV kv.1))
  refine ⟨sz (by show 1 ≤ 100000; decide), fun l5 hl5 => ?_⟩
  have s5 := same_new hl5 (.lst [V.str "zz"])
  have hkk : (kvs.map fun kv => kV kv.1) = (es.map (·.1)).map V.str := by
    rw [show (kvs.map fun kv => kV kv.1) = (kvs.map (·.1)).map kV by rw [List.map_map]; rfl, k2.keys, List.map_map, List.map_map]
    rfl
  have hl45 := s5 _ _ (upd_same (H := H3) (a := l4) (o := .lst (kvs.map fun kv => kV kv.1)))
  refine ⟨l4, l5, _, _, rfl, rfl, hl45, upd_same, Nat.le_trans (m := 7) (by rw [hkk, List.length_map, List.length_map]; have := hK.l6; show _ + 1 ≤ 7; omega) (by decide), fun nl hnl0 => ?_⟩
  have s6 := same_new hnl0 (.lst ((kvs.map fun kv => kV kv.1) ++ [V.str "zz"]))
  have hnl : (upd (upd (upd H3 l4 (.lst (kvs.map fun kv => kV kv.1))) l5 (.lst [V.str "zz"])) nl (.lst ((kvs.map fun kv => kV kv.1) ++ [V.str "zz"]))) nl = some (.lst ((es.map (·.1) ++ [("zz" : Str)]).map V.str)) := by
    rw [upd_same, hkk, List.map_append]
    rfl
  have s36 := (s4.trans s5).trans s6
  generalize upd (upd (upd H3 l4 (.lst (kvs.map fun kv => kV kv.1))) l5 (.lst [V.str "zz"])) nl (.lst ((kvs.map fun kv => kV kv.1) ++ [V.str "zz"])) = Hb at s36 hnl
  have s2b := s3.trans s36
  have hTb : Tp Hb tp := (hT1.same s2).same s2b
  have hDb := s2b _ _ h2
  have hLb := hL2.same s2b
  have hBk : TBkAt Hb es us p := ⟨s2b _ _ hB2.1, hB2.2.imp fun _ _ z => TErV.tk (tk_same s2b) z⟩
  have hpl := s36 _ _ hpl3
  have hgp := hgp3.same s36
  have hnl7 : (es.map (·.1) ++ [("zz" : Str)]).length ≤ 7 := by
    rw [List.length_append, List.length_map]
    have := hK.l6
    show _ + 1 ≤ 7
    omega
  have hnlo : ∀ n ∈ es.map (·.1) ++ [("zz" : Str)], PySem.PyData.strOk n = true := fun n hn => by
    rcases List.mem_append.mp hn with z | z
    · obtain ⟨e, he, rfl⟩ := List.mem_map.mp z
      exact isW_ok (hK.ws e he).1
    · rw [List.mem_singleton.mp z]
      decide +kernel
  have hPOa : ∀ a ∈ asksB es, PO a.1 := fun a ha => by
    obtain ⟨e, he, hae, hen⟩ := asksB_er ha
    exact ⟨by rw [← hen]; exact isW_ok (hK.ws e he).1, Nat.le_trans (ask_pl hW.cn ha) (by decide)⟩
  have hPOr : ∀ {g h : Str} {r : List Ak}, Row (asksB es) g r h → ∀ q ∈ r.map (·.1), PO q := fun hr q hq => by
    obtain ⟨a, ha, rfl⟩ := List.mem_map.mp hq
    exact hPOa a (hr.mem a ha)
  refine ⟨D, .dK kvs, .inl hDb, trivial, fun od H4 h4 f4 => ?_⟩
  have F4 : FrK tp D od kvs Hb H4 := ⟨fun b o n1 n2 hb => by rw [f4 b n2]; exact hb, h4, by
    obtain ⟨y, hy⟩ := hTb
    exact ⟨y, by rw [f4 tp (fun z => by rw [z, hDb] at hy; cases hy)]; exact hy⟩⟩
  refine ⟨_, rfl, D, od, rfl, .inl ⟨kvs, h4, for_it walk_keys (fun i σ H' => ∃ (o6 o7 o8 o9 o10 o11 o12 o13 o14 o15 o16 : Option V), σ = [some (.ref sc), some (.ref tp), some (.ref p), some (.ref D), some (.ref pl), some (.ref nl), o6, o7, o8, o9, o10, o11, o12, o13, o14, o15, o16] ∧ FrK tp D od kvs Hb H') ?_ ?_ ?_ ?_⟩⟩
  · exact ⟨_, _, _, _, _, _, _, _, _, _, _, rfl, F4⟩
  · rintro i σ H' _ ⟨_, _, _, _, _, _, _, _, _, _, _, rfl, FF⟩
    exact FF.d
  · rintro i x σ H5 H6 hi ⟨o6, o7, o8, o9, o10, o11, o12, o13, o14, o15, o16, rfl, F5⟩ ⟨e', k, v, hkv, rfl⟩
    subst e'
    obtain ⟨e, he, rfl⟩ : ∃ e ∈ es, k = .inr e.1 := by
      have hk : (kvs.map (·.1))[i]? = some k := by rw [List.getElem?_map, hkv]; rfl
      rw [k2.keys, List.getElem?_map] at hk
      obtain ⟨e, he, e1⟩ := Option.map_eq_some_iff.mp hk
      exact ⟨e, mem_of_get he, e1.symm⟩
    have hfn : e.1 ∈ es.map (·.1) := List.mem_map.mpr ⟨e, he, rfl⟩
    show _
    generalize hfe : e.1 = f at hfn
    have hfk : kV (.inr f) = V.str f := rfl
    rw [hfk]
    refine ⟨_, rfl, _, rfl, p, es, us, f, rfl, F5.bk hBk hTb hDb, hK.l6, hK.nc, hK.nd, ⟨e, he, hfe⟩, hK.al, fun H7 t l1 l2 r1 r2 v1 v2 g s7 ht hR => ?_, fun H7 t L Dl N lv r vs g s7 ht hM => ?_⟩
    · refine ⟨t, _, rfl, SqT.of ht, rfl, _, _, rfl, _, _, rfl, _, _, rfl, rfl, ?_⟩
      refine fun dn hdn => ⟨sz (by show 0 ≤ 100000; decide), fun ln hln => ⟨_, _, rfl, ?_⟩⟩
      have y1 := same_new hdn (.dK [])
      have y2 := same_new hln (.lst [])
      have y13 := y1.trans y2
      have hdn3 := y2 _ _ (upd_same (H := H7) (a := dn) (o := .dK []))
      have hdn7 : H7 dn = none := hdn
      generalize upd (upd H7 dn (.dK [])) ln (.lst []) = H8 at y13 hdn3
      refine ⟨_, rfl, rfl, _, rfl, itF rfl ?_⟩
      refine ⟨_, rfl, ?_⟩
      have F7 := F5.same s7
      have F8 := F7.same y13
      refine ⟨_, rfl, _, rfl, D, es, kvs, f, rfl, F8.lb hLb hTb hDb, hfn, fun cl H9 N hcl s9 h9 hndN hsoN hmemN hN6 => ?_⟩
      have F9 := F8.same s9
      have hdn9 : H9 dn = some (.dK (LvI [] fun _ => (v1.length : Int))) := s9 _ _ hdn3
      have hL9 : H9 l1 = some (.lst v1) := s9 _ _ (y13 _ _ hR.h1)
      have s79 := y13.trans s9
      refine ⟨cl, rfl, ⟨_, SqL.of h9⟩, for_list (K := K) (a := cl) (xs := N.map V.str) (fun j σ H' => ∃ (o12 : Option V), σ = [some (.ref sc), some (.ref tp), some (.ref p), some (.ref D), some (.ref pl), some (.ref nl), some (.str f), some (.str "ring"), some (.ref l1), some (.ref l2), some (.ref dn), some (.ref l2), o12, o13, o14, o15, o16] ∧ Same H7 H' ∧ H' cl = some (.lst (N.map V.str)) ∧ H' dn = some (.dK (LvI (N.take j) fun _ => (v1.length : Int)))) ⟨_, rfl, s79, h9, by rw [List.take_zero]; exact hdn9⟩ ?_ ?_ ?_⟩
      · rintro j σ H' _ ⟨o12, rfl, _, h, _⟩
        exact SqL.of h
      · rintro j x σ HA hx ⟨o12, rfl, sA, hA, dA⟩
        obtain ⟨n, hn, rfl⟩ := Option.map_eq_some_iff.mp (by rw [List.getElem?_map] at hx; exact hx)
        obtain ⟨hj, hnj⟩ := List.getElem?_eq_some_iff.mp hn
        have hlA : (LvI (N.take j) fun _ => (v1.length : Int)).length ≤ 6 := by
          unfold LvI
          rw [List.length_map, List.length_take]
          omega
        refine ⟨_, rfl, l1, _, rfl, .inl (SqL.of (sA _ _ hR.h1)), _, rfl, _, rfl, dn, _, rfl, DPut.k (k := .inr n) dA (Nat.lt_of_le_of_lt hlA (by decide)), ?_⟩
        refine ⟨_, rfl, same_mut sA hdn7, ?_, ?_⟩
        · rw [upd_ne (fun z => by rw [z, dA] at hA; cases hA)]
          exact hA
        · rw [upd_same, putK_new, List.take_succ_eq_append_getElem hj, hnj]
          · unfold LvI
            rw [List.map_append]
            rfl
          · rw [LvI.keys]
            intro z
            obtain ⟨y, hy, e2⟩ := List.mem_map.mp z
            have e3 : y = n := Sum.inr.inj e2
            obtain ⟨m, hm, e4⟩ := List.getElem_of_mem hy
            rw [List.getElem_take] at e4
            rw [List.length_take] at hm
            have hm' : m < N.length := by omega
            have : N[m]'hm' = N[j]'hj := by rw [e4, hnj, e3]
            have := (List.getElem_inj hndN).mp this
            omega
      · rintro σ HA ⟨o12, rfl, sA, hA, dA⟩
        rw [List.length_map, List.take_length] at dA
        have hFr := F7.same sA
        have gL : Gov HA l1 100001 := ⟨⟨v1, sA _ _ hR.h1, GLv.same (GLv.of hR.p1 (hPOr hR.w1)) sA, Nat.le_trans hR.b1 (by decide)⟩⟩
        have gR : Gov HA l2 100001 := ⟨⟨v2, sA _ _ hR.h2, GLv.same (GLv.of hR.p2 (hPOr hR.w2)) sA, Nat.le_trans hR.b2 (by decide)⟩⟩
        have gD : LvD HA dn 6 := ⟨⟨N, _, dA, hndN, hN6, fun n hn => hnlo n (List.mem_append_left _ (rch_in hfn hK.tg ((hmemN n).mp hn)))⟩⟩
        -- what was told, looked at
        refine ⟨_, rfl, _, rfl, _, rfl, _, rfl, _, rfl, _, rfl, p, D, l1, dn, l2, es, us, kvs, f, rfl, hFr.bk hBk hTb hDb, hK, hFr.lb hLb hTb hDb, hfn, gL.le (by decide), gD.le (by decide), gR.le (by decide), fun HA sA => ⟨_, rfl, itF rfl ?_⟩⟩
        have FA := hFr.same sA
        refine ⟨4, rfl, by decide, by decide, for_range (lo := 0) (n := 4) (fun m σ H' => ∃ (o13 o14 o15 o16 : Option V), σ = [some (.ref sc), some (.ref tp), some (.ref p), some (.ref D), some (.ref pl), some (.ref nl), some (.str f), some (.str "ring"), some (.ref l1), some (.ref l2), some (.ref dn), some (.ref l2), o12, o13, o14, o15, o16] ∧ FrK tp D od kvs Hb H' ∧ Gov H' l1 100001 ∧ LvD H' dn 6 ∧ Gov H' l2 100001) ?_ ?_ ?_⟩
        · exact ⟨_, _, _, _, rfl, FA, gL.same sA, gD.same sA, gR.same sA⟩
        · rintro m σ HB hm ⟨o13, o14, o15, o16, rfl, FB, gLB, gDB, gRB⟩
          obtain ⟨rs, hr1, hr2, hr3⟩ := gLB.ex
          refine ⟨_, rfl, _, rfl, _, rfl, tp, pl, l1, vp, rs, rfl, FB.t, FB.lst hTb hDb hgp hpl, hgp.tk (FB.tk hTb hDb), hpne, hpl5, hr1, hr2, hr3, fun R1 HC bC tC gC => ?_⟩
          have FC := FB.but bC tC
          have gLC := gLB.but bC FB.t
          have gDC := gDB.but bC FB.t
          have gRC := gRB.but bC FB.t
          obtain ⟨N, li, hd1, hd2, hd3, hd4⟩ := gDC.ex
          refine ⟨_, rfl, _, rfl, _, rfl, tp, nl, dn, es.map (·.1) ++ [("zz" : Str)], N, li, rfl, FC.t, FC.nls hTb hDb hnl, (fun z => by simp at z), hnl7, hnlo, hd1, hd2, hd3, hd4, fun R2 HD bD tD gD2 => ?_⟩
          have FD := FC.but bD tD
          have gLD := gLC.but bD FC.t
          have gDD := gDC.but bD FC.t
          have gRD := gRC.but bD FC.t
          have g1D := gC.but bD FC.t
          obtain ⟨ws, hw1, hw2, hw3⟩ := gRD.ex
          refine ⟨_, rfl, _, rfl, _, rfl, tp, pl, l2, vp, ws, rfl, FD.t, FD.lst hTb hDb hgp hpl, hgp.tk (FD.tk hTb hDb), hpne, hpl5, hw1, hw2, hw3, fun R3 HE bE tE gE => ?_⟩
          have FE := FD.but bE tE
          have gLE := gLD.but bE FD.t
          have gDE := gDD.but bE FD.t
          have gRE := gRD.but bE FD.t
          have g1E := g1D.but bE FD.t
          have g2E := gD2.but bE FD.t
          refine ⟨_, rfl, _, rfl, _, rfl, _, rfl, _, rfl, _, rfl, p, D, R1, dn, l2, es, us, kvs, f, rfl, FE.bk hBk hTb hDb, hK, FE.lb hLb hTb hDb, hfn, g1E.le (by decide), gDE.le (by decide), gRE.le (by decide), fun HF sF => ⟨_, rfl, itF rfl ?_⟩⟩
          have FF := FE.same sF
          refine ⟨_, rfl, _, rfl, _, rfl, _, rfl, _, rfl, _, rfl, p, D, l1, R2, R3, es, us, kvs, f, rfl, FF.bk hBk hTb hDb, hK, FF.lb hLb hTb hDb, hfn, (gLE.same sF).le (by decide), (g2E.same sF).le (by decide), (gE.same sF).le (by decide), fun HG sG => ⟨_, rfl, itF rfl ?_⟩⟩
          have FG := FF.same sG
          have sEG := sF.trans sG
          refine ⟨_, rfl, _, rfl, _, rfl, _, rfl, _, rfl, sz (by show 0 ≤ 100000; decide), fun lz hlz => ?_⟩
          have sz1 := same_new hlz (.lst [])
          have gz : Gov (upd HG lz (.lst [])) lz 1000000 := ⟨⟨[], upd_same, (fun u hu => nomatch hu), Nat.zero_le _⟩⟩
          generalize upd HG lz (.lst []) = HH at sz1 gz
          have FH := FG.same sz1
          have sEH := sEG.trans sz1
          refine ⟨p, D, R1, R2, lz, es, us, kvs, f, rfl, FH.bk hBk hTb hDb, hK, FH.lb hLb hTb hDb, hfn, (g1E.same sEH).le (by decide), (g2E.same sEH).le (by decide), gz, fun HI sI => ⟨_, rfl, itF rfl ?_⟩⟩
          have sEI := sEH.trans sI
          exact ⟨_, _, _, _, rfl, FH.same sI, gLE.same sEI, gDE.same sEI, gRE.same sEI⟩
        · rintro σ HB ⟨o13, o14, o15, o16, rfl, FB, _, _, _⟩
          exact ⟨_, _, _, _, _, _, _, _, _, _, _, rfl, FB⟩

    · refine ⟨t, _, rfl, SqT.of ht, rfl, _, _, rfl, _, _, rfl, _, _, rfl, rfl, ?_⟩
      refine fun dn hdn => ⟨sz (by show 0 ≤ 100000; decide), fun ln hln => ⟨_, _, rfl, ?_⟩⟩
      have y1 := same_new hdn (.dK [])
      have y2 := same_new hln (.lst [])
      have y13 := y1.trans y2
      have hln3 : (upd (upd H7 dn (.dK [])) ln (.lst [])) ln = some (.lst []) := upd_same
      generalize upd (upd H7 dn (.dK [])) ln (.lst []) = H8 at y13 hln3
      refine ⟨_, rfl, rfl, _, rfl, itT rfl ?_⟩
      refine ⟨_, rfl, ?_⟩
      have hFr := (F5.same s7).same y13
      have gL : Gov H8 L 100001 := ⟨⟨vs, y13 _ _ hM.hL, GLv.same (GLv.of hM.pv (hPOr hM.row)) y13, Nat.le_trans hM.b1 (by decide)⟩⟩
      have gR : Gov H8 ln 100001 := ⟨⟨[], hln3, (fun u hu => nomatch hu), Nat.zero_le _⟩⟩
      have hNn : ∀ n ∈ N, n ∈ es.map (·.1) := fun n hn => rch_in hfn hK.tg (hM.so n hn)
      have gD : LvD H8 Dl 6 := ⟨⟨N, fun n => (lv n : Int), y13 _ _ hM.hD, hM.nd, by
        have := nodup_le hM.nd hNn
        rw [List.length_map] at this
        have := hK.l6
        omega, fun n hn => hnlo n (List.mem_append_left _ (hNn n hn))⟩⟩
      -- what was told, looked at
      refine ⟨_, rfl, _, rfl, _, rfl, _, rfl, _, rfl, _, rfl, p, D, L, Dl, ln, es, us, kvs, f, rfl, hFr.bk hBk hTb hDb, hK, hFr.lb hLb hTb hDb, hfn, gL.le (by decide), gD.le (by decide), gR.le (by decide), fun HA sA => ⟨_, rfl, itF rfl ?_⟩⟩
      have FA := hFr.same sA
      refine ⟨4, rfl, by decide, by decide, for_range (lo := 0) (n := 4) (fun m σ H' => ∃ (o13 o14 o15 o16 : Option V), σ = [some (.ref sc), some (.ref tp), some (.ref p), some (.ref D), some (.ref pl), some (.ref nl), some (.str f), some (.str "most"), some (.ref L), some (.ref Dl), some (.ref Dl), some (.ref ln), o12, o13, o14, o15, o16] ∧ FrK tp D od kvs Hb H' ∧ Gov H' L 100001 ∧ LvD H' Dl 6 ∧ Gov H' ln 100001) ?_ ?_ ?_⟩
      · exact ⟨_, _, _, _, rfl, FA, gL.same sA, gD.same sA, gR.same sA⟩
      · rintro m σ HB hm ⟨o13, o14, o15, o16, rfl, FB, gLB, gDB, gRB⟩
        obtain ⟨rs, hr1, hr2, hr3⟩ := gLB.ex
        refine ⟨_, rfl, _, rfl, _, rfl, tp, pl, L, vp, rs, rfl, FB.t, FB.lst hTb hDb hgp hpl, hgp.tk (FB.tk hTb hDb), hpne, hpl5, hr1, hr2, hr3, fun R1 HC bC tC gC => ?_⟩
        have FC := FB.but bC tC
        have gLC := gLB.but bC FB.t
        have gDC := gDB.but bC FB.t
        have gRC := gRB.but bC FB.t
        obtain ⟨N, li, hd1, hd2, hd3, hd4⟩ := gDC.ex
        refine ⟨_, rfl, _, rfl, _, rfl, tp, nl, Dl, es.map (·.1) ++ [("zz" : Str)], N, li, rfl, FC.t, FC.nls hTb hDb hnl, (fun z => by simp at z), hnl7, hnlo, hd1, hd2, hd3, hd4, fun R2 HD bD tD gD2 => ?_⟩
        have FD := FC.but bD tD
        have gLD := gLC.but bD FC.t
        have gDD := gDC.but bD FC.t
        have gRD := gRC.but bD FC.t
        have g1D := gC.but bD FC.t
        obtain ⟨ws, hw1, hw2, hw3⟩ := gRD.ex
        refine ⟨_, rfl, _, rfl, _, rfl, tp, pl, ln, vp, ws, rfl, FD.t, FD.lst hTb hDb hgp hpl, hgp.tk (FD.tk hTb hDb), hpne, hpl5, hw1, hw2, hw3, fun R3 HE bE tE gE => ?_⟩
        have FE := FD.but bE tE
        have gLE := gLD.but bE FD.t
        have gDE := gDD.but bE FD.t
        have gRE := gRD.but bE FD.t
        have g1E := g1D.but bE FD.t
        have g2E := gD2.but bE FD.t
        refine ⟨_, rfl, _, rfl, _, rfl, _, rfl, _, rfl, _, rfl, p, D, R1, Dl, ln, es, us, kvs, f, rfl, FE.bk hBk hTb hDb, hK, FE.lb hLb hTb hDb, hfn, g1E.le (by decide), gDE.le (by decide), gRE.le (by decide), fun HF sF => ⟨_, rfl, itF rfl ?_⟩⟩
        have FF := FE.same sF
        refine ⟨_, rfl, _, rfl, _, rfl, _, rfl, _, rfl, _, rfl, p, D, L, R2, R3, es, us, kvs, f, rfl, FF.bk hBk hTb hDb, hK, FF.lb hLb hTb hDb, hfn, (gLE.same sF).le (by decide), (g2E.same sF).le (by decide), (gE.same sF).le (by decide), fun HG sG => ⟨_, rfl, itF rfl ?_⟩⟩
        have FG := FF.same sG
        have sEG := sF.trans sG
        refine ⟨_, rfl, _, rfl, _, rfl, _, rfl, _, rfl, sz (by show 0 ≤ 100000; decide), fun lz hlz => ?_⟩
        have sz1 := same_new hlz (.lst [])
        have gz : Gov (upd HG lz (.lst [])) lz 1000000 := ⟨⟨[], upd_same, (fun u hu => nomatch hu), Nat.zero_le _⟩⟩
        generalize upd HG lz (.lst []) = HH at sz1 gz
        have FH := FG.same sz1
        have sEH := sEG.trans sz1
        refine ⟨p, D, R1, R2, lz, es, us, kvs, f, rfl, FH.bk hBk hTb hDb, hK, FH.lb hLb hTb hDb, hfn, (g1E.same sEH).le (by decide), (g2E.same sEH).le (by decide), gz, fun HI sI => ⟨_, rfl, itF rfl ?_⟩⟩
        have sEI := sEH.trans sI
        exact ⟨_, _, _, _, rfl, FH.same sI, gLE.same sEI, gDE.same sEI, gRE.same sEI⟩
      · rintro σ HB ⟨o13, o14, o15, o16, rfl, FB, _, _, _⟩
        exact ⟨_, _, _, _, _, _, _, _, _, _, _, rfl, FB⟩

  · rintro σ H5 ⟨_, _, _, _, _, _, _, _, _, _, _, rfl, F5⟩
    exact ⟨F5.d, fun H6 _ _ => q H6⟩
end
end KB

namespace KB
open PySem L2
theorem all_mk {l : PySem.W.OpenLaw} {w : World} {K : PySem.W.Frag} {h : Heap} {mg : Str → Option Value} {fa : Addr} (X : K.In h) (G : h.Ns mainGlobals mg) (hfa : mg "law" = some (.ref fa))
    {f1 f2 f3 f4 f5 f6 f7 f8 f9 f10 f11 f12 f13 f14 f15 f16 f17 f18 f19 f20 f21 f22 f23 f24 f25 f26 f27 f28 f29 f30 f31 f32 f33 f34 f35 f36 f37 f38 f39 f40 f41 f42 f43 f44 f45 f46 f47 f48 f49 f50 f51 CN tuSIMPLE_HEADS : Addr}
    {od1 an1 od2 an2 od3 an3 od4 an4 od5 an5 od6 an6 od7 an7 od8 an8 od9 an9 od10 an10 od11 an11 od12 an12 od13 an13 od14 an14 od15 an15 od16 an16 od17 an17 od18 an18 od19 an19 od20 an20 od21 an21 od22 an22 od23 an23 od24 an24 od25 an25 od26 an26 od27 an27 od28 an28 od29 an29 od30 an30 od31 an31 od32 an32 od33 an33 od34 an34 od35 an35 od36 an36 od37 an37 od38 an38 od39 an39 od40 an40 od41 an41 od42 an42 od43 an43 od44 an44 od45 an45 od46 an46 od47 an47 od48 an48 od49 an49 od50 an50 od51 an51  : Option Addr}
    {sl1 sl2 sl3 sl4 sl5 sl6 sl7 sl8 sl9 sl10 sl11 sl12 sl13 sl14 sl15 sl16 sl17 sl18 sl19 sl20 sl21 sl22 sl23 sl24 sl25 sl26 sl27 sl28 sl29 sl30 sl31 sl32 sl33 sl34 sl35 sl36 sl37 sl38 sl39 sl40 sl41 sl42 sl43 sl44 sl45 sl46 sl47 sl48 sl49 sl50 sl51  : Array (Option Value)}
    {oc1 kV1 dc1 pm1 cd1 ct1 oc2 kV2 dc2 pm2 cd2 ct2 oc3 kV3 dc3 pm3 cd3 ct3 oc4 kV4 dc4 pm4 cd4 ct4 oc5 kV5 dc5 pm5 cd5 ct5 oc6 kV6 dc6 pm6 cd6 ct6 oc7 kV7 dc7 pm7 cd7 ct7 oc8 kV8 dc8 pm8 cd8 ct8 oc9 kV9 dc9 pm9 cd9 ct9 oc10 kV10 dc10 pm10 cd10 ct10 oc11 kV11 dc11 pm11 cd11 ct11 oc12 kV12 dc12 pm12 cd12 ct12 oc13 kV13 dc13 pm13 cd13 ct13 oc14 kV14 dc14 pm14 cd14 ct14 oc15 kV15 dc15 pm15 cd15 ct15 oc16 kV16 dc16 pm16 cd16 ct16 oc17 kV17 dc17 pm17 cd17 ct17 oc18 kV18 dc18 pm18 cd18 ct18 oc19 kV19 dc19 pm19 cd19 ct19 oc20 kV20 dc20 pm20 cd20 ct20 oc21 kV21 dc21 pm21 cd21 ct21 oc22 kV22 dc22 pm22 cd22 ct22 oc23 kV23 dc23 pm23 cd23 ct23 oc24 kV24 dc24 pm24 cd24 ct24 oc25 kV25 dc25 pm25 cd25 ct25 oc26 kV26 dc26 pm26 cd26 ct26 oc27 kV27 dc27 pm27 cd27 ct27 oc28 kV28 dc28 pm28 cd28 ct28 oc29 kV29 dc29 pm29 cd29 ct29 oc30 kV30 dc30 pm30 cd30 ct30 oc31 kV31 dc31 pm31 cd31 ct31 oc32 kV32 dc32 pm32 cd32 ct32 oc33 kV33 dc33 pm33 cd33 ct33 oc34 kV34 dc34 pm34 cd34 ct34 oc35 kV35 dc35 pm35 cd35 ct35 oc36 kV36 dc36 pm36 cd36 ct36 oc37 kV37 dc37 pm37 cd37 ct37 oc38 kV38 dc38 pm38 cd38 ct38 oc39 kV39 dc39 pm39 cd39 ct39 oc40 kV40 dc40 pm40 cd40 ct40 oc41 kV41 dc41 pm41 cd41 ct41 oc42 kV42 dc42 pm42 cd42 ct42 oc43 kV43 dc43 pm43 cd43 ct43 oc44 kV44 dc44 pm44 cd44 ct44 oc45 kV45 dc45 pm45 cd45 ct45 oc46 kV46 dc46 pm46 cd46 ct46 oc47 kV47 dc47 pm47 cd47 ct47 oc48 kV48 dc48 pm48 cd48 ct48 oc49 kV49 dc49 pm49 cd49 ct49 oc50 kV50 dc50 pm50 cd50 ct50 oc51 kV51 dc51 pm51 cd51 ct51  : Value}
    (a1 : PySem.W.nsIn K mainGlobals "placed" = some (some (.ref f1)))
    (l1 : K.lookup f1 = some ⟨oc1, od1, .func (PySem.W.fnOf "placed" "placed" (defArgs splaced) (defBody splaced) (defScope splaced) .none kV1 dc1 pm1 an1 cd1 ct1), sl1⟩)
    (c1 : PySem.W.codeIn K cd1 "placed" = true)
    (k1 : PySem.W.keepIn K (.ref f1) = true)
    (a2 : PySem.W.nsIn K mainGlobals "is_whole" = some (some (.ref f2)))
    (l2 : K.lookup f2 = some ⟨oc2, od2, .func (PySem.W.fnOf "is_whole" "is_whole" (defArgs sis_whole) (defBody sis_whole) (defScope sis_whole) .none kV2 dc2 pm2 an2 cd2 ct2), sl2⟩)
    (c2 : PySem.W.codeIn K cd2 "is_whole" = true)
    (k2 : PySem.W.keepIn K (.ref f2) = true)
    (a3 : PySem.W.nsIn K mainGlobals "parts_of" = some (some (.ref f3)))
    (l3 : K.lookup f3 = some ⟨oc3, od3, .func (PySem.W.fnOf "parts_of" "parts_of" (defArgs sparts_of) (defBody sparts_of) (defScope sparts_of) .none kV3 dc3 pm3 an3 cd3 ct3), sl3⟩)
    (c3 : PySem.W.codeIn K cd3 "parts_of" = true)
    (k3 : PySem.W.keepIn K (.ref f3) = true)
    (a4 : PySem.W.nsIn K mainGlobals "errand_named" = some (some (.ref f4)))
    (l4 : K.lookup f4 = some ⟨oc4, od4, .func (PySem.W.fnOf "errand_named" "errand_named" (defArgs serrand_named) (defBody serrand_named) (defScope serrand_named) .none kV4 dc4 pm4 an4 cd4 ct4), sl4⟩)
    (c4 : PySem.W.codeIn K cd4 "errand_named" = true)
    (k4 : PySem.W.keepIn K (.ref f4) = true)
    (a5 : PySem.W.nsIn K mainGlobals "need_errand" = some (some (.ref f5)))
    (l5 : K.lookup f5 = some ⟨oc5, od5, .func (PySem.W.fnOf "need_errand" "need_errand" (defArgs sneed_errand) (defBody sneed_errand) (defScope sneed_errand) .none kV5 dc5 pm5 an5 cd5 ct5), sl5⟩)
    (c5 : PySem.W.codeIn K cd5 "need_errand" = true)
    (k5 : PySem.W.keepIn K (.ref f5) = true)
    (a6 : PySem.W.nsIn K mainGlobals "terms_in" = some (some (.ref f6)))
    (l6 : K.lookup f6 = some ⟨oc6, od6, .func (PySem.W.fnOf "terms_in" "terms_in" (defArgs sterms_in) (defBody sterms_in) (defScope sterms_in) .none kV6 dc6 pm6 an6 cd6 ct6), sl6⟩)
    (c6 : PySem.W.codeIn K cd6 "terms_in" = true)
    (k6 : PySem.W.keepIn K (.ref f6) = true)
    (a7 : PySem.W.nsIn K mainGlobals "rest_of" = some (some (.ref f7)))
    (l7 : K.lookup f7 = some ⟨oc7, od7, .func (PySem.W.fnOf "rest_of" "rest_of" (defArgs srest_of) (defBody srest_of) (defScope srest_of) .none kV7 dc7 pm7 an7 cd7 ct7), sl7⟩)
    (c7 : PySem.W.codeIn K cd7 "rest_of" = true)
    (k7 : PySem.W.keepIn K (.ref f7) = true)
    (a8 : PySem.W.nsIn K mainGlobals "turned_parts" = some (some (.ref f8)))
    (l8 : K.lookup f8 = some ⟨oc8, od8, .func (PySem.W.fnOf "turned_parts" "turned_parts" (defArgs sturned_parts) (defBody sturned_parts) (defScope sturned_parts) .none kV8 dc8 pm8 an8 cd8 ct8), sl8⟩)
    (c8 : PySem.W.codeIn K cd8 "turned_parts" = true)
    (k8 : PySem.W.keepIn K (.ref f8) = true)
    (a9 : PySem.W.nsIn K mainGlobals "most_waiting" = some (some (.ref f9)))
    (l9 : K.lookup f9 = some ⟨oc9, od9, .func (PySem.W.fnOf "most_waiting" "most_waiting" (defArgs smost_waiting) (defBody smost_waiting) (defScope smost_waiting) .none kV9 dc9 pm9 an9 cd9 ct9), sl9⟩)
    (c9 : PySem.W.codeIn K cd9 "most_waiting" = true)
    (k9 : PySem.W.keepIn K (.ref f9) = true)
    (a10 : PySem.W.nsIn K mainGlobals "asks_placed" = some (some (.ref f10)))
    (l10 : K.lookup f10 = some ⟨oc10, od10, .func (PySem.W.fnOf "asks_placed" "asks_placed" (defArgs sasks_placed) (defBody sasks_placed) (defScope sasks_placed) .none kV10 dc10 pm10 an10 cd10 ct10), sl10⟩)
    (c10 : PySem.W.codeIn K cd10 "asks_placed" = true)
    (k10 : PySem.W.keepIn K (.ref f10) = true)
    (a11 : PySem.W.nsIn K mainGlobals "rows_from" = some (some (.ref f11)))
    (l11 : K.lookup f11 = some ⟨oc11, od11, .func (PySem.W.fnOf "rows_from" "rows_from" (defArgs srows_from) (defBody srows_from) (defScope srows_from) .none kV11 dc11 pm11 an11 cd11 ct11), sl11⟩)
    (c11 : PySem.W.codeIn K cd11 "rows_from" = true)
    (k11 : PySem.W.keepIn K (.ref f11) = true)
    (a12 : PySem.W.nsIn K mainGlobals "least_levels" = some (some (.ref f12)))
    (l12 : K.lookup f12 = some ⟨oc12, od12, .func (PySem.W.fnOf "least_levels" "least_levels" (defArgs sleast_levels) (defBody sleast_levels) (defScope sleast_levels) .none kV12 dc12 pm12 an12 cd12 ct12), sl12⟩)
    (c12 : PySem.W.codeIn K cd12 "least_levels" = true)
    (k12 : PySem.W.keepIn K (.ref f12) = true)
    (a13 : PySem.W.nsIn K mainGlobals "greatest_row" = some (some (.ref f13)))
    (l13 : K.lookup f13 = some ⟨oc13, od13, .func (PySem.W.fnOf "greatest_row" "greatest_row" (defArgs sgreatest_row) (defBody sgreatest_row) (defScope sgreatest_row) .none kV13 dc13 pm13 an13 cd13 ct13), sl13⟩)
    (c13 : PySem.W.codeIn K cd13 "greatest_row" = true)
    (k13 : PySem.W.keepIn K (.ref f13) = true)
    (a14 : PySem.W.nsIn K mainGlobals "step_down" = some (some (.ref f14)))
    (l14 : K.lookup f14 = some ⟨oc14, od14, .func (PySem.W.fnOf "step_down" "step_down" (defArgs sstep_down) (defBody sstep_down) (defScope sstep_down) .none kV14 dc14 pm14 an14 cd14 ct14), sl14⟩)
    (c14 : PySem.W.codeIn K cd14 "step_down" = true)
    (k14 : PySem.W.keepIn K (.ref f14) = true)
    (a15 : PySem.W.nsIn K mainGlobals "is_step_to" = some (some (.ref f15)))
    (l15 : K.lookup f15 = some ⟨oc15, od15, .func (PySem.W.fnOf "is_step_to" "is_step_to" (defArgs sis_step_to) (defBody sis_step_to) (defScope sis_step_to) .none kV15 dc15 pm15 an15 cd15 ct15), sl15⟩)
    (c15 : PySem.W.codeIn K cd15 "is_step_to" = true)
    (k15 : PySem.W.keepIn K (.ref f15) = true)
    (a16 : PySem.W.nsIn K mainGlobals "shows_most" = some (some (.ref f16)))
    (l16 : K.lookup f16 = some ⟨oc16, od16, .func (PySem.W.fnOf "shows_most" "shows_most" (defArgs sshows_most) (defBody sshows_most) (defScope sshows_most) .none kV16 dc16 pm16 an16 cd16 ct16), sl16⟩)
    (c16 : PySem.W.codeIn K cd16 "shows_most" = true)
    (k16 : PySem.W.keepIn K (.ref f16) = true)
    (a17 : PySem.W.nsIn K mainGlobals "shows_ring" = some (some (.ref f17)))
    (l17 : K.lookup f17 = some ⟨oc17, od17, .func (PySem.W.fnOf "shows_ring" "shows_ring" (defArgs sshows_ring) (defBody sshows_ring) (defScope sshows_ring) .none kV17 dc17 pm17 an17 cd17 ct17), sl17⟩)
    (c17 : PySem.W.codeIn K cd17 "shows_ring" = true)
    (k17 : PySem.W.keepIn K (.ref f17) = true)
    (a18 : PySem.W.nsIn K mainGlobals "led_to" = some (some (.ref f18)))
    (l18 : K.lookup f18 = some ⟨oc18, od18, .func (PySem.W.fnOf "led_to" "led_to" (defArgs sled_to) (defBody sled_to) (defScope sled_to) .none kV18 dc18 pm18 an18 cd18 ct18), sl18⟩)
    (c18 : PySem.W.codeIn K cd18 "led_to" = true)
    (k18 : PySem.W.keepIn K (.ref f18) = true)
    (a19 : PySem.W.nsIn K mainGlobals "weight_of" = some (some (.ref f19)))
    (l19 : K.lookup f19 = some ⟨oc19, od19, .func (PySem.W.fnOf "weight_of" "weight_of" (defArgs sweight_of) (defBody sweight_of) (defScope sweight_of) .none kV19 dc19 pm19 an19 cd19 ct19), sl19⟩)
    (c19 : PySem.W.codeIn K cd19 "weight_of" = true)
    (k19 : PySem.W.keepIn K (.ref f19) = true)
    (a20 : PySem.W.nsIn K mainGlobals "are_levels" = some (some (.ref f20)))
    (l20 : K.lookup f20 = some ⟨oc20, od20, .func (PySem.W.fnOf "are_levels" "are_levels" (defArgs sare_levels) (defBody sare_levels) (defScope sare_levels) .none kV20 dc20 pm20 an20 cd20 ct20), sl20⟩)
    (c20 : PySem.W.codeIn K cd20 "are_levels" = true)
    (k20 : PySem.W.keepIn K (.ref f20) = true)
    (a21 : PySem.W.nsIn K mainGlobals "_law_cell_at" = some (some (.ref f21)))
    (l21 : K.lookup f21 = some ⟨oc21, od21, .func (PySem.W.fnOf "_law_cell_at" "_law_cell_at" (defArgs s_law_cell_at) (defBody s_law_cell_at) (defScope s_law_cell_at) .none kV21 dc21 pm21 an21 cd21 ct21), sl21⟩)
    (c21 : PySem.W.codeIn K cd21 "_law_cell_at" = true)
    (k21 : PySem.W.keepIn K (.ref f21) = true)
    (a22 : PySem.W.nsIn K mainGlobals "_law_tape" = some (some (.ref f22)))
    (l22 : K.lookup f22 = some ⟨oc22, od22, .func (PySem.W.fnOf "_law_tape" "_law_tape" (defArgs s_law_tape) (defBody s_law_tape) (defScope s_law_tape) .none kV22 dc22 pm22 an22 cd22 ct22), sl22⟩)
    (c22 : PySem.W.codeIn K cd22 "_law_tape" = true)
    (k22 : PySem.W.keepIn K (.ref f22) = true)
    (a23 : PySem.W.nsIn K mainGlobals "_law_digit" = some (some (.ref f23)))
    (l23 : K.lookup f23 = some ⟨oc23, od23, .func (PySem.W.fnOf "_law_digit" "_law_digit" (defArgs s_law_digit) (defBody s_law_digit) (defScope s_law_digit) .none kV23 dc23 pm23 an23 cd23 ct23), sl23⟩)
    (c23 : PySem.W.codeIn K cd23 "_law_digit" = true)
    (k23 : PySem.W.keepIn K (.ref f23) = true)
    (a24 : PySem.W.nsIn K mainGlobals "_law_words" = some (some (.ref f24)))
    (l24 : K.lookup f24 = some ⟨oc24, od24, .func (PySem.W.fnOf "_law_words" "_law_words" (defArgs s_law_words) (defBody s_law_words) (defScope s_law_words) .none kV24 dc24 pm24 an24 cd24 ct24), sl24⟩)
    (c24 : PySem.W.codeIn K cd24 "_law_words" = true)
    (k24 : PySem.W.keepIn K (.ref f24) = true)
    (a25 : PySem.W.nsIn K mainGlobals "_law_number" = some (some (.ref f25)))
    (l25 : K.lookup f25 = some ⟨oc25, od25, .func (PySem.W.fnOf "_law_number" "_law_number" (defArgs s_law_number) (defBody s_law_number) (defScope s_law_number) .none kV25 dc25 pm25 an25 cd25 ct25), sl25⟩)
    (c25 : PySem.W.codeIn K cd25 "_law_number" = true)
    (k25 : PySem.W.keepIn K (.ref f25) = true)
    (a26 : PySem.W.nsIn K mainGlobals "_law_leaf" = some (some (.ref f26)))
    (l26 : K.lookup f26 = some ⟨oc26, od26, .func (PySem.W.fnOf "_law_leaf" "_law_leaf" (defArgs s_law_leaf) (defBody s_law_leaf) (defScope s_law_leaf) .none kV26 dc26 pm26 an26 cd26 ct26), sl26⟩)
    (c26 : PySem.W.codeIn K cd26 "_law_leaf" = true)
    (k26 : PySem.W.keepIn K (.ref f26) = true)
    (a27 : PySem.W.nsIn K mainGlobals "_law_shares" = some (some (.ref f27)))
    (l27 : K.lookup f27 = some ⟨oc27, od27, .func (PySem.W.fnOf "_law_shares" "_law_shares" (defArgs s_law_shares) (defBody s_law_shares) (defScope s_law_shares) .none kV27 dc27 pm27 an27 cd27 ct27), sl27⟩)
    (c27 : PySem.W.codeIn K cd27 "_law_shares" = true)
    (k27 : PySem.W.keepIn K (.ref f27) = true)
    (a28 : PySem.W.nsIn K mainGlobals "_law_less_one" = some (some (.ref f28)))
    (l28 : K.lookup f28 = some ⟨oc28, od28, .func (PySem.W.fnOf "_law_less_one" "_law_less_one" (defArgs s_law_less_one) (defBody s_law_less_one) (defScope s_law_less_one) .none kV28 dc28 pm28 an28 cd28 ct28), sl28⟩)
    (c28 : PySem.W.codeIn K cd28 "_law_less_one" = true)
    (k28 : PySem.W.keepIn K (.ref f28) = true)
    (a29 : PySem.W.nsIn K mainGlobals "_law_simple" = some (some (.ref f29)))
    (l29 : K.lookup f29 = some ⟨oc29, od29, .func (PySem.W.fnOf "_law_simple" "_law_simple" (defArgs s_law_simple) (defBody s_law_simple) (defScope s_law_simple) .none kV29 dc29 pm29 an29 cd29 ct29), sl29⟩)
    (c29 : PySem.W.codeIn K cd29 "_law_simple" = true)
    (k29 : PySem.W.keepIn K (.ref f29) = true)
    (a30 : PySem.W.nsIn K mainGlobals "_law_some_hand" = some (some (.ref f30)))
    (l30 : K.lookup f30 = some ⟨oc30, od30, .func (PySem.W.fnOf "_law_some_hand" "_law_some_hand" (defArgs s_law_some_hand) (defBody s_law_some_hand) (defScope s_law_some_hand) .none kV30 dc30 pm30 an30 cd30 ct30), sl30⟩)
    (c30 : PySem.W.codeIn K cd30 "_law_some_hand" = true)
    (k30 : PySem.W.keepIn K (.ref f30) = true)
    (a31 : PySem.W.nsIn K mainGlobals "_law_end" = some (some (.ref f31)))
    (l31 : K.lookup f31 = some ⟨oc31, od31, .func (PySem.W.fnOf "_law_end" "_law_end" (defArgs s_law_end) (defBody s_law_end) (defScope s_law_end) .none kV31 dc31 pm31 an31 cd31 ct31), sl31⟩)
    (c31 : PySem.W.codeIn K cd31 "_law_end" = true)
    (k31 : PySem.W.keepIn K (.ref f31) = true)
    (a32 : PySem.W.nsIn K mainGlobals "_law_part" = some (some (.ref f32)))
    (l32 : K.lookup f32 = some ⟨oc32, od32, .func (PySem.W.fnOf "_law_part" "_law_part" (defArgs s_law_part) (defBody s_law_part) (defScope s_law_part) .none kV32 dc32 pm32 an32 cd32 ct32), sl32⟩)
    (c32 : PySem.W.codeIn K cd32 "_law_part" = true)
    (k32 : PySem.W.keepIn K (.ref f32) = true)
    (a33 : PySem.W.nsIn K mainGlobals "_law_turned_body" = some (some (.ref f33)))
    (l33 : K.lookup f33 = some ⟨oc33, od33, .func (PySem.W.fnOf "_law_turned_body" "_law_turned_body" (defArgs s_law_turned_body) (defBody s_law_turned_body) (defScope s_law_turned_body) .none kV33 dc33 pm33 an33 cd33 ct33), sl33⟩)
    (c33 : PySem.W.codeIn K cd33 "_law_turned_body" = true)
    (k33 : PySem.W.keepIn K (.ref f33) = true)
    (a34 : PySem.W.nsIn K mainGlobals "_law_turned_book" = some (some (.ref f34)))
    (l34 : K.lookup f34 = some ⟨oc34, od34, .func (PySem.W.fnOf "_law_turned_book" "_law_turned_book" (defArgs s_law_turned_book) (defBody s_law_turned_book) (defScope s_law_turned_book) .none kV34 dc34 pm34 an34 cd34 ct34), sl34⟩)
    (c34 : PySem.W.codeIn K cd34 "_law_turned_book" = true)
    (k34 : PySem.W.keepIn K (.ref f34) = true)
    (a35 : PySem.W.nsIn K mainGlobals "_law_kids" = some (some (.ref f35)))
    (l35 : K.lookup f35 = some ⟨oc35, od35, .func (PySem.W.fnOf "_law_kids" "_law_kids" (defArgs s_law_kids) (defBody s_law_kids) (defScope s_law_kids) .none kV35 dc35 pm35 an35 cd35 ct35), sl35⟩)
    (c35 : PySem.W.codeIn K cd35 "_law_kids" = true)
    (k35 : PySem.W.keepIn K (.ref f35) = true)
    (a36 : PySem.W.nsIn K mainGlobals "_law_all" = some (some (.ref f36)))
    (l36 : K.lookup f36 = some ⟨oc36, od36, .func (PySem.W.fnOf "_law_all" "_law_all" (defArgs s_law_all) (defBody s_law_all) (defScope s_law_all) .none kV36 dc36 pm36 an36 cd36 ct36), sl36⟩)
    (c36 : PySem.W.codeIn K cd36 "_law_all" = true)
    (k36 : PySem.W.keepIn K (.ref f36) = true)
    (a37 : PySem.W.nsIn K mainGlobals "_law_web_part" = some (some (.ref f37)))
    (l37 : K.lookup f37 = some ⟨oc37, od37, .func (PySem.W.fnOf "_law_web_part" "_law_web_part" (defArgs s_law_web_part) (defBody s_law_web_part) (defScope s_law_web_part) .none kV37 dc37 pm37 an37 cd37 ct37), sl37⟩)
    (c37 : PySem.W.codeIn K cd37 "_law_web_part" = true)
    (k37 : PySem.W.keepIn K (.ref f37) = true)
    (a38 : PySem.W.nsIn K mainGlobals "_law_web" = some (some (.ref f38)))
    (l38 : K.lookup f38 = some ⟨oc38, od38, .func (PySem.W.fnOf "_law_web" "_law_web" (defArgs s_law_web) (defBody s_law_web) (defScope s_law_web) .none kV38 dc38 pm38 an38 cd38 ct38), sl38⟩)
    (c38 : PySem.W.codeIn K cd38 "_law_web" = true)
    (k38 : PySem.W.keepIn K (.ref f38) = true)
    (a39 : PySem.W.nsIn K mainGlobals "_law_asks" = some (some (.ref f39)))
    (l39 : K.lookup f39 = some ⟨oc39, od39, .func (PySem.W.fnOf "_law_asks" "_law_asks" (defArgs s_law_asks) (defBody s_law_asks) (defScope s_law_asks) .none kV39 dc39 pm39 an39 cd39 ct39), sl39⟩)
    (c39 : PySem.W.codeIn K cd39 "_law_asks" = true)
    (k39 : PySem.W.keepIn K (.ref f39) = true)
    (a40 : PySem.W.nsIn K mainGlobals "_law_come_to" = some (some (.ref f40)))
    (l40 : K.lookup f40 = some ⟨oc40, od40, .func (PySem.W.fnOf "_law_come_to" "_law_come_to" (defArgs s_law_come_to) (defBody s_law_come_to) (defScope s_law_come_to) .none kV40 dc40 pm40 an40 cd40 ct40), sl40⟩)
    (c40 : PySem.W.codeIn K cd40 "_law_come_to" = true)
    (k40 : PySem.W.keepIn K (.ref f40) = true)
    (a41 : PySem.W.nsIn K mainGlobals "_law_row_end" = some (some (.ref f41)))
    (l41 : K.lookup f41 = some ⟨oc41, od41, .func (PySem.W.fnOf "_law_row_end" "_law_row_end" (defArgs s_law_row_end) (defBody s_law_row_end) (defScope s_law_row_end) .none kV41 dc41 pm41 an41 cd41 ct41), sl41⟩)
    (c41 : PySem.W.codeIn K cd41 "_law_row_end" = true)
    (k41 : PySem.W.keepIn K (.ref f41) = true)
    (a42 : PySem.W.nsIn K mainGlobals "_law_is_most" = some (some (.ref f42)))
    (l42 : K.lookup f42 = some ⟨oc42, od42, .func (PySem.W.fnOf "_law_is_most" "_law_is_most" (defArgs s_law_is_most) (defBody s_law_is_most) (defScope s_law_is_most) .none kV42 dc42 pm42 an42 cd42 ct42), sl42⟩)
    (c42 : PySem.W.codeIn K cd42 "_law_is_most" = true)
    (k42 : PySem.W.keepIn K (.ref f42) = true)
    (a43 : PySem.W.nsIn K mainGlobals "_law_is_ring" = some (some (.ref f43)))
    (l43 : K.lookup f43 = some ⟨oc43, od43, .func (PySem.W.fnOf "_law_is_ring" "_law_is_ring" (defArgs s_law_is_ring) (defBody s_law_is_ring) (defScope s_law_is_ring) .none kV43 dc43 pm43 an43 cd43 ct43), sl43⟩)
    (c43 : PySem.W.codeIn K cd43 "_law_is_ring" = true)
    (k43 : PySem.W.keepIn K (.ref f43) = true)
    (a44 : PySem.W.nsIn K mainGlobals "_law_waits_book" = some (some (.ref f44)))
    (l44 : K.lookup f44 = some ⟨oc44, od44, .func (PySem.W.fnOf "_law_waits_book" "_law_waits_book" (defArgs s_law_waits_book) (defBody s_law_waits_book) (defScope s_law_waits_book) .none kV44 dc44 pm44 an44 cd44 ct44), sl44⟩)
    (c44 : PySem.W.codeIn K cd44 "_law_waits_book" = true)
    (k44 : PySem.W.keepIn K (.ref f44) = true)
    (a45 : PySem.W.nsIn K mainGlobals "_law_all_of" = some (some (.ref f45)))
    (l45 : K.lookup f45 = some ⟨oc45, od45, .func (PySem.W.fnOf "_law_all_of" "_law_all_of" (defArgs s_law_all_of) (defBody s_law_all_of) (defScope s_law_all_of) .none kV45 dc45 pm45 an45 cd45 ct45), sl45⟩)
    (c45 : PySem.W.codeIn K cd45 "_law_all_of" = true)
    (k45 : PySem.W.keepIn K (.ref f45) = true)
    (a46 : PySem.W.nsIn K mainGlobals "_law_terms" = some (some (.ref f46)))
    (l46 : K.lookup f46 = some ⟨oc46, od46, .func (PySem.W.fnOf "_law_terms" "_law_terms" (defArgs s_law_terms) (defBody s_law_terms) (defScope s_law_terms) .none kV46 dc46 pm46 an46 cd46 ct46), sl46⟩)
    (c46 : PySem.W.codeIn K cd46 "_law_terms" = true)
    (k46 : PySem.W.keepIn K (.ref f46) = true)
    (a47 : PySem.W.nsIn K mainGlobals "_law_places" = some (some (.ref f47)))
    (l47 : K.lookup f47 = some ⟨oc47, od47, .func (PySem.W.fnOf "_law_places" "_law_places" (defArgs s_law_places) (defBody s_law_places) (defScope s_law_places) .none kV47 dc47 pm47 an47 cd47 ct47), sl47⟩)
    (c47 : PySem.W.codeIn K cd47 "_law_places" = true)
    (k47 : PySem.W.keepIn K (.ref f47) = true)
    (a48 : PySem.W.nsIn K mainGlobals "_law_bent_row" = some (some (.ref f48)))
    (l48 : K.lookup f48 = some ⟨oc48, od48, .func (PySem.W.fnOf "_law_bent_row" "_law_bent_row" (defArgs s_law_bent_row) (defBody s_law_bent_row) (defScope s_law_bent_row) .none kV48 dc48 pm48 an48 cd48 ct48), sl48⟩)
    (c48 : PySem.W.codeIn K cd48 "_law_bent_row" = true)
    (k48 : PySem.W.keepIn K (.ref f48) = true)
    (a49 : PySem.W.nsIn K mainGlobals "_law_bent_levels" = some (some (.ref f49)))
    (l49 : K.lookup f49 = some ⟨oc49, od49, .func (PySem.W.fnOf "_law_bent_levels" "_law_bent_levels" (defArgs s_law_bent_levels) (defBody s_law_bent_levels) (defScope s_law_bent_levels) .none kV49 dc49 pm49 an49 cd49 ct49), sl49⟩)
    (c49 : PySem.W.codeIn K cd49 "_law_bent_levels" = true)
    (k49 : PySem.W.keepIn K (.ref f49) = true)
    (a50 : PySem.W.nsIn K mainGlobals "_law_looked_at" = some (some (.ref f50)))
    (l50 : K.lookup f50 = some ⟨oc50, od50, .func (PySem.W.fnOf "_law_looked_at" "_law_looked_at" (defArgs s_law_looked_at) (defBody s_law_looked_at) (defScope s_law_looked_at) .none kV50 dc50 pm50 an50 cd50 ct50), sl50⟩)
    (c50 : PySem.W.codeIn K cd50 "_law_looked_at" = true)
    (k50 : PySem.W.keepIn K (.ref f50) = true)
    (a51 : PySem.W.nsIn K mainGlobals "law" = some (some (.ref f51)))
    (l51 : K.lookup f51 = some ⟨oc51, od51, .func (PySem.W.fnOf "law" "law" (defArgs slaw) (defBody slaw) (defScope slaw) .none kV51 dc51 pm51 an51 cd51 ct51), sl51⟩)
    (c51 : PySem.W.codeIn K cd51 "law" = true)
    (k51 : PySem.W.keepIn K (.ref f51) = true)
    (gCN : PySem.W.nsIn K mainGlobals "NoAsking" = some (some (.ref CN)))
    (xCN : PySem.W.excIn K CN [.type "ValueError", .type "Exception", .type "BaseException", .type "object"] "ValueError.__new__" = true)
    (kCN : PySem.W.keepIn K (.ref CN) = true)
    (bCN : PySem.W.subIn K (.ref CN) (.type "BaseException") = some true)
    (tCN : PySem.W.typeIn K (.ref CN) = some (.type "type"))
    (z_len : PySem.W.nsIn K mainGlobals "len" = some none)
    (z_isinstance : PySem.W.nsIn K mainGlobals "isinstance" = some none)
    (z_int : PySem.W.nsIn K mainGlobals "int" = some none)
    (z_tuple : PySem.W.nsIn K mainGlobals "tuple" = some none)
    (z_list : PySem.W.nsIn K mainGlobals "list" = some none)
    (z_str : PySem.W.nsIn K mainGlobals "str" = some none)
    (z_bool : PySem.W.nsIn K mainGlobals "bool" = some none)
    (z_max : PySem.W.nsIn K mainGlobals "max" = some none)
    (z_all : PySem.W.nsIn K mainGlobals "all" = some none)
    (z_dict : PySem.W.nsIn K mainGlobals "dict" = some none)
    (z_range : PySem.W.nsIn K mainGlobals "range" = some none)
    (z_enumerate : PySem.W.nsIn K mainGlobals "enumerate" = some none)
    (z_reversed : PySem.W.nsIn K mainGlobals "reversed" = some none)
    (z_min : PySem.W.nsIn K mainGlobals "min" = some none)
    (z_sorted : PySem.W.nsIn K mainGlobals "sorted" = some none)
    (z_sum : PySem.W.nsIn K mainGlobals "sum" = some none)
    {tHOME : Tok}
    (qHOME : PySem.W.nsIn K mainGlobals "HOME" = some (some (.str "home" tHOME)))
    (taSIMPLE_HEADS : PySem.W.nsIn K mainGlobals "SIMPLE_HEADS" = some (some (.ref tuSIMPLE_HEADS)))
    {tdSIMPLE_HEADS : Option Addr} {tnSIMPLE_HEADS : Nat} {tsSIMPLE_HEADS : Array (Option Value)} {tvSIMPLE_HEADS : Array Value}
    (tlSIMPLE_HEADS : K.lookup tuSIMPLE_HEADS = some ⟨.type "tuple", tdSIMPLE_HEADS, .seq tvSIMPLE_HEADS tnSIMPLE_HEADS, tsSIMPLE_HEADS⟩)
    (twSIMPLE_HEADS : Vals heads tvSIMPLE_HEADS.toList)
    : ∃ fd : FuncData, (∀ (s : Shared) (v : Value), BindsTo s fd ⟨[v], []⟩ [("script", v)]) ∧ ∀ base : Heap, K.In base → base.Ns mainGlobals mg → FnOk l.prog w K mg base CX0 94 fa fd ["script"] (spLaw K) := by
  have e := hfa.symm.trans (PySem.W.mg_of X G a51)
  cases e
  have T : Txt K mg := ⟨PySem.W.mg_none_of X G z_len, PySem.W.mg_none_of X G z_isinstance, PySem.W.mg_none_of X G z_int, PySem.W.mg_none_of X G z_tuple, PySem.W.mg_none_of X G z_list, PySem.W.mg_none_of X G z_str, PySem.W.mg_none_of X G z_bool, PySem.W.mg_none_of X G z_max, PySem.W.mg_none_of X G z_all, PySem.W.mg_none_of X G z_dict, PySem.W.mg_none_of X G z_range, PySem.W.mg_none_of X G z_enumerate, PySem.W.mg_none_of X G z_reversed⟩
  have hSIMPLE_HEADS : ∃ a, mg "SIMPLE_HEADS" = some (.ref a) ∧ ∀ H, SqT K H a heads := ⟨tuSIMPLE_HEADS, PySem.W.mg_of X G taSIMPLE_HEADS, fun H => .inr ⟨_, tvSIMPLE_HEADS, tnSIMPLE_HEADS, tlSIMPLE_HEADS, rfl, rfl, by
    have e9 := twSIMPLE_HEADS.length
    have e10 : heads.length = 4 := rfl
    rw [e10] at e9
    have e8 : tvSIMPLE_HEADS.size = 4 := by
      rw [← Array.length_toList]
      exact e9.symm
    rw [e8]
    decide, twSIMPLE_HEADS⟩⟩
  have XCN : XcT K mg "NoAsking" CN := ⟨PySem.W.mg_of X G gCN, xCN, kCN, bCN, tCN⟩
  have F1 := fun_mk (st := splaced) l1 c1 k1
  have R1 : Ref K mg "placed" f1 _ ["name", "body", "parts"] := ⟨PySem.W.mg_of X G a1, k1, F1.binds (ps := ["name", "body", "parts"]) fun _ _ _ _ _ _ us hl => match us, hl with | [_, _, _], _ => rfl⟩
  have F2 := fun_mk (st := sis_whole) l2 c2 k2
  have R2 : Ref K mg "is_whole" f2 _ ["thing"] := ⟨PySem.W.mg_of X G a2, k2, F2.binds (ps := ["thing"]) fun _ _ _ _ _ _ us hl => match us, hl with | [_], _ => rfl⟩
  have F3 := fun_mk (st := sparts_of) l3 c3 k3
  have R3 : Ref K mg "parts_of" f3 _ ["term"] := ⟨PySem.W.mg_of X G a3, k3, F3.binds (ps := ["term"]) fun _ _ _ _ _ _ us hl => match us, hl with | [_], _ => rfl⟩
  have F4 := fun_mk (st := serrand_named) l4 c4 k4
  have R4 : Ref K mg "errand_named" f4 _ ["book", "f"] := ⟨PySem.W.mg_of X G a4, k4, F4.binds (ps := ["book", "f"]) fun _ _ _ _ _ _ us hl => match us, hl with | [_, _], _ => rfl⟩
  have F5 := fun_mk (st := sneed_errand) l5 c5 k5
  have R5 : Ref K mg "need_errand" f5 _ ["book", "f"] := ⟨PySem.W.mg_of X G a5, k5, F5.binds (ps := ["book", "f"]) fun _ _ _ _ _ _ us hl => match us, hl with | [_, _], _ => rfl⟩
  have F6 := fun_mk (st := sterms_in) l6 c6 k6
  have R6 : Ref K mg "terms_in" f6 _ ["part"] := ⟨PySem.W.mg_of X G a6, k6, F6.binds (ps := ["part"]) fun _ _ _ _ _ _ us hl => match us, hl with | [_], _ => rfl⟩
  have F7 := fun_mk (st := srest_of) l7 c7 k7
  have R7 : Ref K mg "rest_of" f7 _ ["part"] := ⟨PySem.W.mg_of X G a7, k7, F7.binds (ps := ["part"]) fun _ _ _ _ _ _ us hl => match us, hl with | [_], _ => rfl⟩
  have F8 := fun_mk (st := sturned_parts) l8 c8 k8
  have R8 : Ref K mg "turned_parts" f8 _ ["part"] := ⟨PySem.W.mg_of X G a8, k8, F8.binds (ps := ["part"]) fun _ _ _ _ _ _ us hl => match us, hl with | [_], _ => rfl⟩
  have F9 := fun_mk (st := smost_waiting) l9 c9 k9
  have R9 : Ref K mg "most_waiting" f9 _ ["turned", "f"] := ⟨PySem.W.mg_of X G a9, k9, F9.binds (ps := ["turned", "f"]) fun _ _ _ _ _ _ us hl => match us, hl with | [_, _], _ => rfl⟩
  have F10 := fun_mk (st := sasks_placed) l10 c10 k10
  have R10 : Ref K mg "asks_placed" f10 _ ["turned"] := ⟨PySem.W.mg_of X G a10, k10, F10.binds (ps := ["turned"]) fun _ _ _ _ _ _ us hl => match us, hl with | [_], _ => rfl⟩
  have F11 := fun_mk (st := srows_from) l11 c11 k11
  have R11 : Ref K mg "rows_from" f11 _ ["f", "asks"] := ⟨PySem.W.mg_of X G a11, k11, F11.binds (ps := ["f", "asks"]) fun _ _ _ _ _ _ us hl => match us, hl with | [_, _], _ => rfl⟩
  have F12 := fun_mk (st := sleast_levels) l12 c12 k12
  have R12 : Ref K mg "least_levels" f12 _ ["asks", "names"] := ⟨PySem.W.mg_of X G a12, k12, F12.binds (ps := ["asks", "names"]) fun _ _ _ _ _ _ us hl => match us, hl with | [_, _], _ => rfl⟩
  have F13 := fun_mk (st := sgreatest_row) l13 c13 k13
  have R13 : Ref K mg "greatest_row" f13 _ ["f", "asks", "levels"] := ⟨PySem.W.mg_of X G a13, k13, F13.binds (ps := ["f", "asks", "levels"]) fun _ _ _ _ _ _ us hl => match us, hl with | [_, _, _], _ => rfl⟩
  have F14 := fun_mk (st := sstep_down) l14 c14 k14
  have R14 : Ref K mg "step_down" f14 _ ["f", "asks", "levels"] := ⟨PySem.W.mg_of X G a14, k14, F14.binds (ps := ["f", "asks", "levels"]) fun _ _ _ _ _ _ us hl => match us, hl with | [_, _, _], _ => rfl⟩
  have F15 := fun_mk (st := sis_step_to) l15 c15 k15
  have R15 : Ref K mg "is_step_to" f15 _ ["level", "ask", "levels"] := ⟨PySem.W.mg_of X G a15, k15, F15.binds (ps := ["level", "ask", "levels"]) fun _ _ _ _ _ _ us hl => match us, hl with | [_, _, _], _ => rfl⟩
  have F16 := fun_mk (st := sshows_most) l16 c16 k16
  have R16 : Ref K mg "shows_most" f16 _ ["turned", "f", "row", "levels"] := ⟨PySem.W.mg_of X G a16, k16, F16.binds (ps := ["turned", "f", "row", "levels"]) fun _ _ _ _ _ _ us hl => match us, hl with | [_, _, _, _], _ => rfl⟩
  have F17 := fun_mk (st := sshows_ring) l17 c17 k17
  have R17 : Ref K mg "shows_ring" f17 _ ["turned", "f", "lead", "ring"] := ⟨PySem.W.mg_of X G a17, k17, F17.binds (ps := ["turned", "f", "lead", "ring"]) fun _ _ _ _ _ _ us hl => match us, hl with | [_, _, _, _], _ => rfl⟩
  have F18 := fun_mk (st := sled_to) l18 c18 k18
  have R18 : Ref K mg "led_to" f18 _ ["f", "row", "asks"] := ⟨PySem.W.mg_of X G a18, k18, F18.binds (ps := ["f", "row", "asks"]) fun _ _ _ _ _ _ us hl => match us, hl with | [_, _, _], _ => rfl⟩
  have F19 := fun_mk (st := sweight_of) l19 c19 k19
  have R19 : Ref K mg "weight_of" f19 _ ["row", "asks"] := ⟨PySem.W.mg_of X G a19, k19, F19.binds (ps := ["row", "asks"]) fun _ _ _ _ _ _ us hl => match us, hl with | [_, _], _ => rfl⟩
  have F20 := fun_mk (st := sare_levels) l20 c20 k20
  have R20 : Ref K mg "are_levels" f20 _ ["levels", "asks"] := ⟨PySem.W.mg_of X G a20, k20, F20.binds (ps := ["levels", "asks"]) fun _ _ _ _ _ _ us hl => match us, hl with | [_, _], _ => rfl⟩
  have F21 := fun_mk (st := s_law_cell_at) l21 c21 k21
  have R21 : Ref K mg "_law_cell_at" f21 _ ["script", "k"] := ⟨PySem.W.mg_of X G a21, k21, F21.binds (ps := ["script", "k"]) fun _ _ _ _ _ _ us hl => match us, hl with | [_, _], _ => rfl⟩
  have F22 := fun_mk (st := s_law_tape) l22 c22 k22
  have R22 : Ref K mg "_law_tape" f22 _ ["script", "k"] := ⟨PySem.W.mg_of X G a22, k22, F22.binds (ps := ["script", "k"]) fun _ _ _ _ _ _ us hl => match us, hl with | [_, _], _ => rfl⟩
  have F23 := fun_mk (st := s_law_digit) l23 c23 k23
  have R23 : Ref K mg "_law_digit" f23 _ ["tape", "many"] := ⟨PySem.W.mg_of X G a23, k23, F23.binds (ps := ["tape", "many"]) fun _ _ _ _ _ _ us hl => match us, hl with | [_, _], _ => rfl⟩
  have F24 := fun_mk (st := s_law_words) l24 c24 k24
  have R24 : Ref K mg "_law_words" f24 _ ["tape", "many"] := ⟨PySem.W.mg_of X G a24, k24, F24.binds (ps := ["tape", "many"]) fun _ _ _ _ _ _ us hl => match us, hl with | [_, _], _ => rfl⟩
  have F25 := fun_mk (st := s_law_number) l25 c25 k25
  have R25 : Ref K mg "_law_number" f25 _ ["tape"] := ⟨PySem.W.mg_of X G a25, k25, F25.binds (ps := ["tape"]) fun _ _ _ _ _ _ us hl => match us, hl with | [_], _ => rfl⟩
  have F26 := fun_mk (st := s_law_leaf) l26 c26 k26
  have R26 : Ref K mg "_law_leaf" f26 _ ["tape", "known", "around"] := ⟨PySem.W.mg_of X G a26, k26, F26.binds (ps := ["tape", "known", "around"]) fun _ _ _ _ _ _ us hl => match us, hl with | [_, _, _], _ => rfl⟩
  have F27 := fun_mk (st := s_law_shares) l27 c27 k27
  have R27 : Ref K mg "_law_shares" f27 _ ["tape", "room", "many"] := ⟨PySem.W.mg_of X G a27, k27, F27.binds (ps := ["tape", "room", "many"]) fun _ _ _ _ _ _ us hl => match us, hl with | [_, _, _], _ => rfl⟩
  have F28 := fun_mk (st := s_law_less_one) l28 c28 k28
  have R28 : Ref K mg "_law_less_one" f28 _ ["around"] := ⟨PySem.W.mg_of X G a28, k28, F28.binds (ps := ["around"]) fun _ _ _ _ _ _ us hl => match us, hl with | [_], _ => rfl⟩
  have F29 := fun_mk (st := s_law_simple) l29 c29 k29
  have R29 : Ref K mg "_law_simple" f29 _ ["tape", "around", "deep"] := ⟨PySem.W.mg_of X G a29, k29, F29.binds (ps := ["tape", "around", "deep"]) fun _ _ _ _ _ _ us hl => match us, hl with | [_, _, _], _ => rfl⟩
  have F30 := fun_mk (st := s_law_some_hand) l30 c30 k30
  have R30 : Ref K mg "_law_some_hand" f30 _ ["tape", "known", "hands"] := ⟨PySem.W.mg_of X G a30, k30, F30.binds (ps := ["tape", "known", "hands"]) fun _ _ _ _ _ _ us hl => match us, hl with | [_, _, _], _ => rfl⟩
  have F31 := fun_mk (st := s_law_end) l31 c31 k31
  have R31 : Ref K mg "_law_end" f31 _ ["tape", "known", "around", "hands"] := ⟨PySem.W.mg_of X G a31, k31, F31.binds (ps := ["tape", "known", "around", "hands"]) fun _ _ _ _ _ _ us hl => match us, hl with | [_, _, _, _], _ => rfl⟩
  have F32 := fun_mk (st := s_law_part) l32 c32 k32
  have R32 : Ref K mg "_law_part" f32 _ ["tape", "known", "around", "hands", "room", "deep"] := ⟨PySem.W.mg_of X G a32, k32, F32.binds (ps := ["tape", "known", "around", "hands", "room", "deep"]) fun _ _ _ _ _ _ us hl => match us, hl with | [_, _, _, _, _, _], _ => rfl⟩
  have F33 := fun_mk (st := s_law_turned_body) l33 c33 k33
  have R33 : Ref K mg "_law_turned_body" f33 _ ["tape", "known", "names"] := ⟨PySem.W.mg_of X G a33, k33, F33.binds (ps := ["tape", "known", "names"]) fun _ _ _ _ _ _ us hl => match us, hl with | [_, _, _], _ => rfl⟩
  have F34 := fun_mk (st := s_law_turned_book) l34 c34 k34
  have R34 : Ref K mg "_law_turned_book" f34 _ ["script", "start", "straight"] := ⟨PySem.W.mg_of X G a34, k34, F34.binds (ps := ["script", "start", "straight"]) fun _ _ _ _ _ _ us hl => match us, hl with | [_, _, _], _ => rfl⟩
  have F35 := fun_mk (st := s_law_kids) l35 c35 k35
  have R35 : Ref K mg "_law_kids" f35 _ ["part"] := ⟨PySem.W.mg_of X G a35, k35, F35.binds (ps := ["part"]) fun _ _ _ _ _ _ us hl => match us, hl with | [_], _ => rfl⟩
  have F36 := fun_mk (st := s_law_all) l36 c36 k36
  have R36 : Ref K mg "_law_all" f36 _ ["part", "place"] := ⟨PySem.W.mg_of X G a36, k36, F36.binds (ps := ["part", "place"]) fun _ _ _ _ _ _ us hl => match us, hl with | [_, _], _ => rfl⟩
  have F37 := fun_mk (st := s_law_web_part) l37 c37 k37
  have R37 : Ref K mg "_law_web_part" f37 _ ["tape", "known", "hands", "room"] := ⟨PySem.W.mg_of X G a37, k37, F37.binds (ps := ["tape", "known", "hands", "room"]) fun _ _ _ _ _ _ us hl => match us, hl with | [_, _, _, _], _ => rfl⟩
  have F38 := fun_mk (st := s_law_web) l38 c38 k38
  have R38 : Ref K mg "_law_web" f38 _ ["script", "start"] := ⟨PySem.W.mg_of X G a38, k38, F38.binds (ps := ["script", "start"]) fun _ _ _ _ _ _ us hl => match us, hl with | [_, _], _ => rfl⟩
  have F39 := fun_mk (st := s_law_asks) l39 c39 k39
  have R39 : Ref K mg "_law_asks" f39 _ ["turned"] := ⟨PySem.W.mg_of X G a39, k39, F39.binds (ps := ["turned"]) fun _ _ _ _ _ _ us hl => match us, hl with | [_], _ => rfl⟩
  have F40 := fun_mk (st := s_law_come_to) l40 c40 k40
  have R40 : Ref K mg "_law_come_to" f40 _ ["asks", "f"] := ⟨PySem.W.mg_of X G a40, k40, F40.binds (ps := ["asks", "f"]) fun _ _ _ _ _ _ us hl => match us, hl with | [_, _], _ => rfl⟩
  have F41 := fun_mk (st := s_law_row_end) l41 c41 k41
  have R41 : Ref K mg "_law_row_end" f41 _ ["asks", "f", "row"] := ⟨PySem.W.mg_of X G a41, k41, F41.binds (ps := ["asks", "f", "row"]) fun _ _ _ _ _ _ us hl => match us, hl with | [_, _, _], _ => rfl⟩
  have F42 := fun_mk (st := s_law_is_most) l42 c42 k42
  have R42 : Ref K mg "_law_is_most" f42 _ ["asks", "f", "row", "levels"] := ⟨PySem.W.mg_of X G a42, k42, F42.binds (ps := ["asks", "f", "row", "levels"]) fun _ _ _ _ _ _ us hl => match us, hl with | [_, _, _, _], _ => rfl⟩
  have F43 := fun_mk (st := s_law_is_ring) l43 c43 k43
  have R43 : Ref K mg "_law_is_ring" f43 _ ["asks", "f", "lead", "ring"] := ⟨PySem.W.mg_of X G a43, k43, F43.binds (ps := ["asks", "f", "lead", "ring"]) fun _ _ _ _ _ _ us hl => match us, hl with | [_, _, _, _], _ => rfl⟩
  have F44 := fun_mk (st := s_law_waits_book) l44 c44 k44
  have R44 : Ref K mg "_law_waits_book" f44 _ ["script", "tape"] := ⟨PySem.W.mg_of X G a44, k44, F44.binds (ps := ["script", "tape"]) fun _ _ _ _ _ _ us hl => match us, hl with | [_, _], _ => rfl⟩
  have F45 := fun_mk (st := s_law_all_of) l45 c45 k45
  have R45 : Ref K mg "_law_all_of" f45 _ ["turned"] := ⟨PySem.W.mg_of X G a45, k45, F45.binds (ps := ["turned"]) fun _ _ _ _ _ _ us hl => match us, hl with | [_], _ => rfl⟩
  have F46 := fun_mk (st := s_law_terms) l46 c46 k46
  have R46 : Ref K mg "_law_terms" f46 _ ["part"] := ⟨PySem.W.mg_of X G a46, k46, F46.binds (ps := ["part"]) fun _ _ _ _ _ _ us hl => match us, hl with | [_], _ => rfl⟩
  have F47 := fun_mk (st := s_law_places) l47 c47 k47
  have R47 : Ref K mg "_law_places" f47 _ ["turned", "asks"] := ⟨PySem.W.mg_of X G a47, k47, F47.binds (ps := ["turned", "asks"]) fun _ _ _ _ _ _ us hl => match us, hl with | [_, _], _ => rfl⟩
  have F48 := fun_mk (st := s_law_bent_row) l48 c48 k48
  have R48 : Ref K mg "_law_bent_row" f48 _ ["tape", "places", "row"] := ⟨PySem.W.mg_of X G a48, k48, F48.binds (ps := ["tape", "places", "row"]) fun _ _ _ _ _ _ us hl => match us, hl with | [_, _, _], _ => rfl⟩
  have F49 := fun_mk (st := s_law_bent_levels) l49 c49 k49
  have R49 : Ref K mg "_law_bent_levels" f49 _ ["tape", "names", "levels"] := ⟨PySem.W.mg_of X G a49, k49, F49.binds (ps := ["tape", "names", "levels"]) fun _ _ _ _ _ _ us hl => match us, hl with | [_, _, _], _ => rfl⟩
  have F50 := fun_mk (st := s_law_looked_at) l50 c50 k50
  have R50 : Ref K mg "_law_looked_at" f50 _ ["turned", "asks", "f", "row", "levels", "other"] := ⟨PySem.W.mg_of X G a50, k50, F50.binds (ps := ["turned", "asks", "f", "row", "levels", "other"]) fun _ _ _ _ _ _ us hl => match us, hl with | [_, _, _, _, _, _], _ => rfl⟩
  have F51 := fun_mk (st := slaw) l51 c51 k51
  refine ⟨PySem.W.fnOf "law" "law" (defArgs slaw) (defBody slaw) (defScope slaw) .none kV51 dc51 pm51 an51 cd51 ct51, fun s v => .of_eq rfl, fun base _ _ => ?_⟩
  have G_law_cell_at := ok_cell (P := l.prog) (w := w) (mg := mg) (base := base) T F21
  have G_law_tape := ok_tape (P := l.prog) (w := w) (mg := mg) (base := base) T F22 G_law_cell_at R21
  have G_law_digit := ok_dig (P := l.prog) (w := w) (mg := mg) (base := base) F23
  have G_law_words := ok_words (P := l.prog) (w := w) (mg := mg) (base := base) T F24 G_law_digit R23
  have G_law_number := ok_num (P := l.prog) (w := w) (mg := mg) (base := base) F25 G_law_digit R23
  have G_law_leaf := ok_leaf (P := l.prog) (w := w) (mg := mg) (base := base) T F26 G_law_digit R23 G_law_number R25
  have G_law_shares := ok_shares (P := l.prog) (w := w) (mg := mg) (base := base) T F27 G_law_digit R23
  have G_law_less_one := ok_less (P := l.prog) (w := w) (mg := mg) (base := base) F28
  have G_law_simple := all_simple (P := l.prog) (w := w) (mg := mg) (base := base) T F29 G_law_digit R23 G_law_leaf R26 R29
  have G_law_some_hand := ok_hand (P := l.prog) (w := w) (mg := mg) (base := base) T F30 G_law_digit R23
  have G_law_end := ok_end (P := l.prog) (w := w) (mg := mg) (base := base) T F31 G_law_digit R23 G_law_some_hand R30 G_law_less_one R28 G_law_simple R29
  have G_law_part := all_part (P := l.prog) (w := w) (mg := mg) (base := base) T F32 G_law_digit R23 G_law_some_hand R30 G_law_end R31 G_law_simple R29 G_law_shares R27 R32 8
  have G_law_turned_body := ok_tbody (P := l.prog) (w := w) (mg := mg) (base := base) T F33 G_law_digit R23 G_law_part R32
  have G_law_turned_book := ok_tbook (P := l.prog) (w := w) (mg := mg) (base := base) T F34 G_law_digit R23 G_law_tape R22 G_law_words R24 G_law_turned_body R33
  have Gparts_of := ok_parts (P := l.prog) (w := w) (mg := mg) (base := base) F3
  have Gterms_in := ok_tin (P := l.prog) (w := w) (mg := mg) (base := base) F6
  have Grest_of := ok_rest (P := l.prog) (w := w) (mg := mg) (base := base) F7
  have Gturned_parts := ok_tparts (P := l.prog) (w := w) (mg := mg) (base := base) hSIMPLE_HEADS F8 Gparts_of R3 Gterms_in R6 Grest_of R7
  have Gplaced := ok_placed (P := l.prog) (w := w) (mg := mg) (base := base) TrN T F1 Gturned_parts R8.k R8.b
  have Gerrand_named := ok_nam (P := l.prog) (w := w) (mg := mg) (base := base) F4
  have Gneed_errand := ok_needE (P := l.prog) (w := w) (mg := mg) (base := base) XCN F5 Gerrand_named R4
  have Gasks_placed := ok_asks (P := l.prog) (w := w) (mg := mg) (base := base) (PySem.W.mg_of X G qHOME) ⟨_, rfl⟩ F10 Gplaced R1 R8
  have Grows_from := ok_rows (P := l.prog) (w := w) (mg := mg) (base := base) F11
  have GrowsZ := ok_rowsZ (P := l.prog) (w := w) (mg := mg) (base := base) F11
  have Gleast_levels := ok_least (P := l.prog) (w := w) (mg := mg) (base := base) F12
  have Gis_step_to := ok_step (P := l.prog) (w := w) (mg := mg) (base := base) F15
  have Gstep_down := ok_down (P := l.prog) (w := w) (mg := mg) (base := base) F14 Grows_from R11 Gis_step_to R15
  have Ggreatest_row := ok_great (P := l.prog) (w := w) (mg := mg) (base := base) F13 Gstep_down R14
  have Gmost_waiting := ok_mw (P := l.prog) (w := w) (mg := mg) (base := base) F9 Gneed_errand R5 Gasks_placed R10 Grows_from GrowsZ R11 Gleast_levels R12 Ggreatest_row R13 T
  have Gis_whole := ok_whP (P := l.prog) (w := w) (mg := mg) (base := base) T F2
  have Gled_to := ok_led (P := l.prog) (w := w) (mg := mg) (base := base) T F18 Gis_whole R2
  have Gweight_of := ok_weight (P := l.prog) (w := w) (mg := mg) (base := base) T (PySem.W.mg_none_of X G z_sum) F19
  have Gare_levels := ok_are (P := l.prog) (w := w) (mg := mg) (base := base) T F20 Gis_whole R2
  have Gshows_most := ok_smost (P := l.prog) (w := w) (mg := mg) (base := base) T (PySem.W.mg_none_of X G z_sorted) F16 Gasks_placed R10 Gerrand_named R4 Gled_to R18 Grows_from R11 Gare_levels R20 Gweight_of R19
  have Gshows_ring := ok_sring (P := l.prog) (w := w) (mg := mg) (base := base) T F17 Gasks_placed R10 Gled_to R18 Gweight_of R19
  have G_law_web_part := all_webp (P := l.prog) (w := w) (mg := mg) (base := base) T F37 G_law_digit R23 R37 5
  have G_law_web := ok_web (P := l.prog) (w := w) (mg := mg) (base := base) T F38 G_law_digit R23 G_law_tape R22 G_law_words R24 G_law_web_part R37
  have G_law_waits_book := ok_waits (P := l.prog) (w := w) (mg := mg) (base := base) F44 G_law_digit R23 G_law_turned_book R34 G_law_web R38
  have G_law_kids := ok_lkids (P := l.prog) (w := w) (mg := mg) (base := base) F35
  have G_law_all := all_lall (P := l.prog) (w := w) (mg := mg) (base := base) F36 G_law_kids R35 R36 90
  have G_law_asks := ok_lasks (P := l.prog) (w := w) (mg := mg) (base := base) T F39 G_law_all R36
  have G_law_row_end := ok_rowe (P := l.prog) (w := w) (mg := mg) (base := base) F41
  have G_law_come_to := ok_come (P := l.prog) (w := w) (mg := mg) (base := base) T (PySem.W.mg_none_of X G z_sorted) F40
  have G_law_is_ring := ok_lring (P := l.prog) (w := w) (mg := mg) (base := base) T F43 G_law_row_end R41
  have G_law_is_most := ok_lmost (P := l.prog) (w := w) (mg := mg) (base := base) T (PySem.W.mg_none_of X G z_sorted) (PySem.W.mg_none_of X G z_min) F42 G_law_come_to R40 G_law_row_end R41
  have G_law_all_of := ok_lallof (P := l.prog) (w := w) (mg := mg) (base := base) F45 G_law_all R36
  have G_law_terms := ok_lterms (P := l.prog) (w := w) (mg := mg) (base := base) T F46
  have G_law_bent_row := ok_brow (P := l.prog) (w := w) (mg := mg) (base := base) T F48 G_law_digit R23
  have G_law_bent_levels := ok_blev (P := l.prog) (w := w) (mg := mg) (base := base) T F49 G_law_digit R23
  have G_law_places := ok_plc (P := l.prog) (w := w) (mg := mg) (base := base) T F47 G_law_all_of R45 G_law_terms R46
  have G_law_looked_at := ok_look (P := l.prog) (w := w) (mg := mg) (base := base) T F50 Gshows_most R16 Gshows_ring R17 G_law_is_most R42 G_law_is_ring R43
  exact ok_law T F51 G_law_waits_book R44 G_law_tape R22 G_law_asks R39 Gmost_waiting R9 G_law_places R47 G_law_come_to R40 G_law_bent_row R48 G_law_bent_levels R49 G_law_looked_at R50
theorem walk {l : PySem.W.OpenLaw} {q : Program} {loose : List Str} {XP : (Str → Option Value) → Heap → Prop} {YP : World → Heap → Prop} {d : DefRec} {K : Params → PySem.W.Frag} (hn : l.most = some 63) (hdf : d.params.defaults = [])
    (hY : ∀ (w : World) (h : Heap), YP w h → (K w.params).In h)
    (F : ∀ (w : World) (mg : Str → Option Value) (fa : Addr) (h : Heap), (K w.params).In h → h.Ns mainGlobals mg → mg d.name = some (.ref fa) →
      ∃ fd : FuncData, (∀ (s : Shared) (u : Value), BindsTo s fd ⟨[u], []⟩ [("script", u)]) ∧ ∀ base : Heap, (K w.params).In base → base.Ns mainGlobals mg → FnOk l.prog w (K w.params) mg base CX0 94 fa fd ["script"] (spLaw (K w.params))) :
    PySem.W.WalkO q loose XP YP l.row.toRowW d [] (fun f vs => PySem.call f vs) :=
  L2.walk_of (n := 63) (k := 94) (x := "script") (CX := fun _ => CX0) (sp := fun w => spLaw (K w.params)) hn (by decide) hdf ⟨rfl, by decide, by decide⟩ hY F (fun _ _ a ns hl _ hS => ⟨a, ns, rfl, hS, hl, fun _ => rfl⟩) fun _ _ _ _ _ z => z
end KB

open PySem PySem.W PyProof.Rows in
set_option maxRecDepth 100000 in
set_option maxHeartbeats 0 in
theorem PySem.Challenge.cw_whatnext_k56_papers_of_waits_looked_at_holds : PySem.Challenge.rw_whatnext_k56_papers_of_waits_looked_at.Holds := by
  w_on; o_law; k_head; (case hw => w_witness2)
  k_fill
  refine KB.walk (l := PySem.Challenge.rw_whatnext_k56_papers_of_waits_looked_at) rfl rfl (fun w h Y => PySem.W.kIn_of Y) ?F
  case F =>
    intro w mg fa h KX G hmg
    refine' KB.all_mk KX G hmg ?a1 ?l1 ?c1 ?k1 ?a2 ?l2 ?c2 ?k2 ?a3 ?l3 ?c3 ?k3 ?a4 ?l4 ?c4 ?k4 ?a5 ?l5 ?c5 ?k5 ?a6 ?l6 ?c6 ?k6 ?a7 ?l7 ?c7 ?k7 ?a8 ?l8 ?c8 ?k8 ?a9 ?l9 ?c9 ?k9 ?a10 ?l10 ?c10 ?k10 ?a11 ?l11 ?c11 ?k11 ?a12 ?l12 ?c12 ?k12 ?a13 ?l13 ?c13 ?k13 ?a14 ?l14 ?c14 ?k14 ?a15 ?l15 ?c15 ?k15 ?a16 ?l16 ?c16 ?k16 ?a17 ?l17 ?c17 ?k17 ?a18 ?l18 ?c18 ?k18 ?a19 ?l19 ?c19 ?k19 ?a20 ?l20 ?c20 ?k20 ?a21 ?l21 ?c21 ?k21 ?a22 ?l22 ?c22 ?k22 ?a23 ?l23 ?c23 ?k23 ?a24 ?l24 ?c24 ?k24 ?a25 ?l25 ?c25 ?k25 ?a26 ?l26 ?c26 ?k26 ?a27 ?l27 ?c27 ?k27 ?a28 ?l28 ?c28 ?k28 ?a29 ?l29 ?c29 ?k29 ?a30 ?l30 ?c30 ?k30 ?a31 ?l31 ?c31 ?k31 ?a32 ?l32 ?c32 ?k32 ?a33 ?l33 ?c33 ?k33 ?a34 ?l34 ?c34 ?k34 ?a35 ?l35 ?c35 ?k35 ?a36 ?l36 ?c36 ?k36 ?a37 ?l37 ?c37 ?k37 ?a38 ?l38 ?c38 ?k38 ?a39 ?l39 ?c39 ?k39 ?a40 ?l40 ?c40 ?k40 ?a41 ?l41 ?c41 ?k41 ?a42 ?l42 ?c42 ?k42 ?a43 ?l43 ?c43 ?k43 ?a44 ?l44 ?c44 ?k44 ?a45 ?l45 ?c45 ?k45 ?a46 ?l46 ?c46 ?k46 ?a47 ?l47 ?c47 ?k47 ?a48 ?l48 ?c48 ?k48 ?a49 ?l49 ?c49 ?k49 ?a50 ?l50 ?c50 ?k50 ?a51 ?l51 ?c51 ?k51 ?gCN ?xCN ?kCN ?bCN ?tCN ?z_len ?z_isinstance ?z_int ?z_tuple ?z_list ?z_str ?z_bool ?z_max ?z_all ?z_dict ?z_range ?z_enumerate ?z_reversed ?z_min ?z_sorted ?z_sum ?qHOME ?taSIMPLE_HEADS ?tlSIMPLE_HEADS ?twSIMPLE_HEADS
    (case a1 => k_is)
    (case l1 => k_is)
    (case c1 => k_is)
    (case k1 => k_is)
    (case a2 => k_is)
    (case l2 => k_is)
    (case c2 => k_is)
    (case k2 => k_is)
    (case a3 => k_is)
    (case l3 => k_is)
    (case c3 => k_is)
    (case k3 => k_is)
    (case a4 => k_is)
    (case l4 => k_is)
    (case c4 => k_is)
    (case k4 => k_is)
    (case a5 => k_is)
    (case l5 => k_is)
    (case c5 => k_is)
    (case k5 => k_is)
    (case a6 => k_is)
    (case l6 => k_is)
    (case c6 => k_is)
    (case k6 => k_is)
    (case a7 => k_is)
    (case l7 => k_is)
    (case c7 => k_is)
    (case k7 => k_is)
    (case a8 => k_is)
    (case l8 => k_is)
    (case c8 => k_is)
    (case k8 => k_is)
    (case a9 => k_is)
    (case l9 => k_is)
    (case c9 => k_is)
    (case k9 => k_is)
    (case a10 => k_is)
    (case l10 => k_is)
    (case c10 => k_is)
    (case k10 => k_is)
    (case a11 => k_is)
    (case l11 => k_is)
    (case c11 => k_is)
    (case k11 => k_is)
    (case a12 => k_is)
    (case l12 => k_is)
    (case c12 => k_is)
    (case k12 => k_is)
    (case a13 => k_is)
    (case l13 => k_is)
    (case c13 => k_is)
    (case k13 => k_is)
    (case a14 => k_is)
    (case l14 => k_is)
    (case c14 => k_is)
    (case k14 => k_is)
    (case a15 => k_is)
    (case l15 => k_is)
    (case c15 => k_is)
    (case k15 => k_is)
    (case a16 => k_is)
    (case l16 => k_is)
    (case c16 => k_is)
    (case k16 => k_is)
    (case a17 => k_is)
    (case l17 => k_is)
    (case c17 => k_is)
    (case k17 => k_is)
    (case a18 => k_is)
    (case l18 => k_is)
    (case c18 => k_is)
    (case k18 => k_is)
    (case a19 => k_is)
    (case l19 => k_is)
    (case c19 => k_is)
    (case k19 => k_is)
    (case a20 => k_is)
    (case l20 => k_is)
    (case c20 => k_is)
    (case k20 => k_is)
    (case a21 => k_is)
    (case l21 => k_is)
    (case c21 => k_is)
    (case k21 => k_is)
    (case a22 => k_is)
    (case l22 => k_is)
    (case c22 => k_is)
    (case k22 => k_is)
    (case a23 => k_is)
    (case l23 => k_is)
    (case c23 => k_is)
    (case k23 => k_is)
    (case a24 => k_is)
    (case l24 => k_is)
    (case c24 => k_is)
    (case k24 => k_is)
    (case a25 => k_is)
    (case l25 => k_is)
    (case c25 => k_is)
    (case k25 => k_is)
    (case a26 => k_is)
    (case l26 => k_is)
    (case c26 => k_is)
    (case k26 => k_is)
    (case a27 => k_is)
    (case l27 => k_is)
    (case c27 => k_is)
    (case k27 => k_is)
    (case a28 => k_is)
    (case l28 => k_is)
    (case c28 => k_is)
    (case k28 => k_is)
    (case a29 => k_is)
    (case l29 => k_is)
    (case c29 => k_is)
    (case k29 => k_is)
    (case a30 => k_is)
    (case l30 => k_is)
    (case c30 => k_is)
    (case k30 => k_is)
    (case a31 => k_is)
    (case l31 => k_is)
    (case c31 => k_is)
    (case k31 => k_is)
    (case a32 => k_is)
    (case l32 => k_is)
    (case c32 => k_is)
    (case k32 => k_is)
    (case a33 => k_is)
    (case l33 => k_is)
    (case c33 => k_is)
    (case k33 => k_is)
    (case a34 => k_is)
    (case l34 => k_is)
    (case c34 => k_is)
    (case k34 => k_is)
    (case a35 => k_is)
    (case l35 => k_is)
    (case c35 => k_is)
    (case k35 => k_is)
    (case a36 => k_is)
    (case l36 => k_is)
    (case c36 => k_is)
    (case k36 => k_is)
    (case a37 => k_is)
    (case l37 => k_is)
    (case c37 => k_is)
    (case k37 => k_is)
    (case a38 => k_is)
    (case l38 => k_is)
    (case c38 => k_is)
    (case k38 => k_is)
    (case a39 => k_is)
    (case l39 => k_is)
    (case c39 => k_is)
    (case k39 => k_is)
    (case a40 => k_is)
    (case l40 => k_is)
    (case c40 => k_is)
    (case k40 => k_is)
    (case a41 => k_is)
    (case l41 => k_is)
    (case c41 => k_is)
    (case k41 => k_is)
    (case a42 => k_is)
    (case l42 => k_is)
    (case c42 => k_is)
    (case k42 => k_is)
    (case a43 => k_is)
    (case l43 => k_is)
    (case c43 => k_is)
    (case k43 => k_is)
    (case a44 => k_is)
    (case l44 => k_is)
    (case c44 => k_is)
    (case k44 => k_is)
    (case a45 => k_is)
    (case l45 => k_is)
    (case c45 => k_is)
    (case k45 => k_is)
    (case a46 => k_is)
    (case l46 => k_is)
    (case c46 => k_is)
    (case k46 => k_is)
    (case a47 => k_is)
    (case l47 => k_is)
    (case c47 => k_is)
    (case k47 => k_is)
    (case a48 => k_is)
    (case l48 => k_is)
    (case c48 => k_is)
    (case k48 => k_is)
    (case a49 => k_is)
    (case l49 => k_is)
    (case c49 => k_is)
    (case k49 => k_is)
    (case a50 => k_is)
    (case l50 => k_is)
    (case c50 => k_is)
    (case k50 => k_is)
    (case a51 => k_is)
    (case l51 => k_is)
    (case c51 => k_is)
    (case k51 => k_is)
    (case gCN => k_is)
    (case xCN => k_exc)
    (case kCN => k_is)
    (case bCN => k_is)
    (case tCN => k_is)
    (case z_len => k_is)
    (case z_isinstance => k_is)
    (case z_int => k_is)
    (case z_tuple => k_is)
    (case z_list => k_is)
    (case z_str => k_is)
    (case z_bool => k_is)
    (case z_max => k_is)
    (case z_all => k_is)
    (case z_dict => k_is)
    (case z_range => k_is)
    (case z_enumerate => k_is)
    (case z_reversed => k_is)
    (case z_min => k_is)
    (case z_sorted => k_is)
    (case z_sum => k_is)
    (case qHOME => k_is)
    (case taSIMPLE_HEADS => k_is)
    (case tlSIMPLE_HEADS => k_is)
    (case twSIMPLE_HEADS => exact .cons ⟨_, rfl⟩ (.cons ⟨_, rfl⟩ (.cons ⟨_, rfl⟩ (.cons ⟨_, rfl⟩ (.nil)))))
#print axioms PySem.Challenge.cw_whatnext_k56_papers_of_waits_looked_at_holds
