import PyProof.Rows.All
import Wide.All
import OpenK.AllK
import Wide.FinOn
import PySem.Challenge.RW_looseshelf_k10_asked_again
import HandS.ForMost
import HandS.More
import HandS.Flow
import HandS.IsInst
import HandS.NoneIn
import HandS.Flt
import HandS.Walk
import HandS.Style
import HandS.ListItems
import HandS.DictComp
import HandS.Deep
import HandS.TupLe
import HandS.Nested
import HandS.SortKw
import HandS.EndTab
import KE.DataMinKey
import KE.KDictList
import PyProof.Draws
import PyProof.AssignAttr
import PyProof.StrBlock2
set_option Elab.async false
set_option linter.all false
set_option maxRecDepth 100000
set_option maxHeartbeats 4000000
/-! CK: a def's body as a function of plain data (slots and a small heap of its own), and that the hand layer's readings follow from its run. -/
namespace CK
open PySem L2

/-- a plain value: a reference is a number into the plain heap; a key is an int of which only the order is known -/
inductive CV where
  | non | bl (b : Bool) | int (i : Int) | str (x : List Nat) | ref (n : Nat) | ty (n : String) | key (k : Nat) | off (i : Int) | opq
/-- a plain object -/
inductive CO where
  | lst (xs : List CV) | tup (xs : List CV) | ins (c : Nat) (fs : List (List Nat × CV))
/-- the plain heap: how many, the newest first -/
structure CH where
  n : Nat
  l : List CO
def CH.length (h : CH) : Nat := h.n
def CH.get (h : CH) (i : Nat) : Option CO := match Nat.blt i h.n with
  | true => h.l[h.n - 1 - i]?
  | false => none
def CH.new (h : CH) (o : CO) : CH := ⟨h.n + 1, o :: h.l⟩
def CH.set (h : CH) (i : Nat) (o : CO) : CH := ⟨h.n, h.l.set (h.n - 1 - i) o⟩
/-- objects, the oldest first -/
def CH.of (l : List CO) : CH := ⟨l.length, l.reverse⟩
theorem CH.get_eq (h : CH) (i : Nat) : h.get i = if i < h.n then h.l[h.n - 1 - i]? else none := by
  unfold CH.get
  by_cases c : i < h.n
  · rw [if_pos c]
    have e : Nat.blt i h.n = true := Nat.ble_eq_true_of_le (show i + 1 ≤ h.n from c)
    rw [e]
  · rw [if_neg c]
    have e : Nat.blt i h.n = false := by
      cases q : Nat.blt i h.n with
      | false => rfl
      | true => exact absurd (show i < h.n from Nat.le_of_ble_eq_true (show Nat.ble (i + 1) h.n = true from q)) c
    rw [e]
theorem CH.get_lt {h : CH} {i : Nat} {o : CO} (e : h.get i = some o) : i < h.length := by
  rw [CH.get_eq] at e
  split at e
  · assumption
  · cases e
abbrev CS := List (Option CV)
/-- where the plain data lies: the keys' ints, the classes' and the objects' addresses -/
structure Em where
  k : Nat → Int
  c : Nat → Addr
  as : List Addr
  t : Int
def Tx (l : List Nat) : Str := ⟨l.toArray⟩
def RV (η : Em) : CV → V → Prop
  | .non, y => y = .non
  | .bl b, y => y = .bl b
  | .int i, y => y = .int i
  | .str x, y => y = .str (Tx x)
  | .ref n, y => ∃ a, η.as[n]? = some a ∧ y = .ref a
  | .ty n, y => y = .ty n
  | .key k, y => y = .int (η.k k)
  | .off i, y => y = .int (η.t + i)
  | .opq, y => y = .ref (η.k 0).toNat
abbrev RVs (η : Em) : List CV → List V → Prop := Paired (RV η)
abbrev RF (η : Em) : List (List Nat × CV) → List (Str × V) → Prop := Paired fun p q => q.1 = Tx p.1 ∧ RV η p.2 q.2
def RO (η : Em) : CO → HO → Prop
  | .lst xs, O => ∃ ys, O = .lst ys ∧ RVs η xs ys
  | .tup xs, O => ∃ ys, O = .tup ys ∧ RVs η xs ys
  | .ins c fs, O => ∃ dx ys, O = .ins (η.c c) dx ys ∧ RF η fs ys
/-- later: the same and more objects -/
structure Le (η η' : Em) : Prop where
  k : η'.k = η.k
  c : η'.c = η.c
  as : ∃ l, η'.as = η.as ++ l
  t : η'.t = η.t
theorem Le.refl (η : Em) : Le η η := ⟨rfl, rfl, ⟨[], by simp⟩, rfl⟩
theorem Le.trans {a b c : Em} (x : Le a b) (y : Le b c) : Le a c := by
  obtain ⟨l, e⟩ := x.as
  obtain ⟨m, f⟩ := y.as
  exact ⟨y.k.trans x.k, y.c.trans x.c, ⟨l ++ m, by rw [f, e, List.append_assoc]⟩, y.t.trans x.t⟩
theorem Le.get {a b : Em} (x : Le a b) {n : Nat} {p : Addr} (h : a.as[n]? = some p) : b.as[n]? = some p := by
  obtain ⟨l, e⟩ := x.as
  rw [e, List.getElem?_append_left (List.getElem?_eq_some_iff.mp h).1]
  exact h
theorem Le.mem {a b : Em} (x : Le a b) {p : Addr} (h : p ∈ a.as) : p ∈ b.as := by
  obtain ⟨l, e⟩ := x.as
  rw [e]
  exact List.mem_append_left _ h
theorem Le.len {a b : Em} (x : Le a b) : a.as.length ≤ b.as.length := by
  obtain ⟨l, e⟩ := x.as
  rw [e, List.length_append]
  omega
theorem RV.mono {η η' : Em} (x : Le η η') {v : CV} {y : V} (h : RV η v y) : RV η' v y := by
  cases v with
  | ref n => obtain ⟨a, e, q⟩ := h; exact ⟨a, x.get e, q⟩
  | key k => show y = V.int (η'.k k); rw [x.k]; exact h
  | off k => show y = V.int (η'.t + k); rw [x.t]; exact h
  | opq => show y = V.ref (η'.k 0).toNat; rw [x.k]; exact h
  | _ => exact h
theorem RVs.mono {η η' : Em} (x : Le η η') {v : List CV} {y : List V} (h : RVs η v y) : RVs η' v y := Paired.mapP h fun _ _ q => RV.mono x q
theorem RF.mono {η η' : Em} (x : Le η η') {v : List (List Nat × CV)} {y : List (Str × V)} (h : RF η v y) : RF η' v y := Paired.mapP h fun _ _ q => ⟨q.1, RV.mono x q.2⟩
theorem RO.mono {η η' : Em} (x : Le η η') {v : CO} {y : HO} (h : RO η v y) : RO η' v y := by
  cases v with
  | lst xs => obtain ⟨ys, e, q⟩ := h; exact ⟨ys, e, RVs.mono x q⟩
  | tup xs => obtain ⟨ys, e, q⟩ := h; exact ⟨ys, e, RVs.mono x q⟩
  | ins c fs =>
    obtain ⟨dx, ys, e, q⟩ := h
    exact ⟨dx, ys, by rw [x.c]; exact e, RF.mono x q⟩
/-- the plain heap stands in the abstract one -/
structure HR (cc : Nat → Addr) (η : Em) (h : CH) (H : Hp) : Prop where
  cl : η.c = cc
  nd : η.as.Nodup
  wf : h.l.length = h.n
  len : η.as.length = h.length
  mo : ∀ i j, i < j → η.k i < η.k j
  ob : ∀ (n : Nat) (a : Addr) (o : CO), η.as[n]? = some a → h.get n = some o → ∃ O, H a = some O ∧ RO η o O
theorem CH.get_some {h : CH} (wf : h.l.length = h.n) {i : Nat} (c : i < h.length) : ∃ o, h.get i = some o := by
  have c : i < h.n := c
  rw [CH.get_eq, if_pos c]
  exact ⟨_, List.getElem?_eq_getElem (by omega)⟩
theorem CH.get_old {h : CH} {o : CO} {i : Nat} (c : i < h.length) : (h.new o).get i = h.get i := by
  have c : i < h.n := c
  rw [CH.get_eq h, if_pos c, CH.get_eq]
  show (if i < h.n + 1 then (o :: h.l)[h.n + 1 - 1 - i]? else none) = _
  rw [if_pos (show i < h.n + 1 by omega)]
  have e : h.n + 1 - 1 - i = (h.n - 1 - i) + 1 := by omega
  rw [e, List.getElem?_cons_succ]
theorem CH.get_new {h : CH} {o : CO} : (h.new o).get h.length = some o := by
  rw [CH.get_eq]
  show (if h.n < h.n + 1 then (o :: h.l)[h.n + 1 - 1 - h.n]? else none) = _
  rw [if_pos (show h.n < h.n + 1 by omega)]
  have e : h.n + 1 - 1 - h.n = 0 := by omega
  rw [e]
  rfl
theorem CH.get_set {h : CH} (wf : h.l.length = h.n) {o : CO} {i : Nat} (c : i < h.length) : (h.set i o).get i = some o := by
  have c : i < h.n := c
  rw [CH.get_eq]
  show (if i < h.n then (h.l.set (h.n - 1 - i) o)[h.n - 1 - i]? else none) = _
  rw [if_pos c, List.getElem?_set_self (by omega)]
theorem CH.get_set_ne {h : CH} {o : CO} {i j : Nat} (ci : i < h.length) (n : j ≠ i) : (h.set i o).get j = h.get j := by
  have ci : i < h.n := ci
  rw [CH.get_eq, CH.get_eq]
  show (if j < h.n then (h.l.set (h.n - 1 - i) o)[h.n - 1 - j]? else none) = _
  by_cases c : j < h.n
  · rw [if_pos c, if_pos c, List.getElem?_set_ne (by omega)]
  · rw [if_neg c, if_neg c]
/-- a step: more objects, all new; what is none of ours stays -/
structure Stp (η : Em) (H : Hp) (η' : Em) (H' : Hp) : Prop where
  le : Le η η'
  nw : ∀ b, b ∈ η'.as → b ∉ η.as → H b = none
  fr : ∀ b o, b ∉ η.as → H b = some o → H' b = some o
theorem Stp.refl (η : Em) (H : Hp) : Stp η H η H := ⟨Le.refl _, fun _ h n => absurd h n, fun _ _ _ h => h⟩
theorem HR.at {cc : Nat → Addr} {η : Em} {h : CH} {H : Hp} (r : HR cc η h H) {n : Nat} {o : CO} (e : h.get n = some o) : ∃ a O, η.as[n]? = some a ∧ H a = some O ∧ RO η o O := by
  have hl : n < η.as.length := by rw [r.len]; exact CH.get_lt e
  obtain ⟨O, q⟩ := r.ob n η.as[n] o (List.getElem?_eq_getElem hl) e
  exact ⟨_, O, List.getElem?_eq_getElem hl, q⟩
theorem HR.mem {cc : Nat → Addr} {η : Em} {h : CH} {H : Hp} (r : HR cc η h H) {b : Addr} (e : b ∈ η.as) : ∃ O, H b = some O := by
  obtain ⟨n, hn⟩ := List.getElem?_of_mem e
  have hl : n < h.length := by rw [← r.len]; exact (List.getElem?_eq_some_iff.mp hn).1
  obtain ⟨o, eo⟩ := CH.get_some r.wf hl
  obtain ⟨O, q, _⟩ := r.ob n b o hn eo
  exact ⟨O, q⟩
theorem HR.notIn {cc : Nat → Addr} {η : Em} {h : CH} {H : Hp} (r : HR cc η h H) {b : Addr} (e : H b = none) : b ∉ η.as := fun m => by
  obtain ⟨O, q⟩ := r.mem m
  rw [e] at q; cases q
theorem Stp.trans {cc : Nat → Addr} {η η1 η2 : Em} {H H1 H2 : Hp} {h1 : CH} (a : Stp η H η1 H1) (r : HR cc η1 h1 H1) (b : Stp η1 H1 η2 H2) : Stp η H η2 H2 := by
  refine ⟨a.le.trans b.le, fun x hx hn => ?_, fun x o hn e => ?_⟩
  · by_cases m : x ∈ η1.as
    · exact a.nw x m hn
    · have z := b.nw x hx m
      cases q : H x with
      | none => rfl
      | some o => rw [a.fr x o hn q] at z; cases z
  · have m : x ∉ η1.as := fun m => by have z := a.nw x m hn; rw [e] at z; cases z
    exact b.fr x o m (a.fr x o hn e)
def Em.push (η : Em) (p : Addr) : Em := ⟨η.k, η.c, η.as ++ [p], η.t⟩
theorem Le.push (η : Em) (p : Addr) : Le η (η.push p) := ⟨rfl, rfl, ⟨[p], rfl⟩, rfl⟩
theorem Em.push_new (η : Em) (p : Addr) {h : CH} (e : η.as.length = h.length) : (η.push p).as[h.length]? = some p := by
  show (η.as ++ [p])[h.length]? = some p
  rw [← e, List.getElem?_append_right (Nat.le_refl _), Nat.sub_self]
  rfl
theorem nodup_snoc {l : List Addr} {p : Addr} (h : l.Nodup) (n : p ∉ l) : (l ++ [p]).Nodup := by
  refine List.nodup_append.mpr ⟨h, by simp, fun a ha b hb => ?_⟩
  have e : b = p := by simpa using hb
  subst e
  exact fun q => n (by rw [← q]; exact ha)
/-- a new object -/
theorem HR.new {cc : Nat → Addr} {η : Em} {h : CH} {H : Hp} (r : HR cc η h H) {o : CO} {O : HO} (ro : RO η o O) {p : Addr} (hp : H p = none) : HR cc (η.push p) (h.new o) (upd H p O) ∧ Stp η H (η.push p) (upd H p O) := by
  have hn := r.notIn hp
  refine ⟨⟨r.cl, nodup_snoc r.nd hn, by show (o :: h.l).length = h.n + 1; rw [List.length_cons, r.wf], ?_, r.mo, fun n a o' e1 e2 => ?_⟩, ⟨Le.push η p, fun b hb nb => ?_, fun b u nb e => ?_⟩⟩
  · show (η.as ++ [p]).length = h.n + 1
    rw [List.length_append, r.len]
    rfl
  · have e1 : (η.as ++ [p])[n]? = some a := e1
    by_cases hl : n < h.length
    · rw [List.getElem?_append_left (by rw [r.len]; exact hl)] at e1
      rw [CH.get_old hl] at e2
      obtain ⟨O', q1, q2⟩ := r.ob n a o' e1 e2
      refine ⟨O', ?_, RO.mono (Le.push η p) q2⟩
      rw [upd_ne (ne_of_none q1 hp)]
      exact q1
    · have hl2 : n < h.length + 1 := CH.get_lt e2
      have en : n = h.length := by omega
      subst en
      have z := Em.push_new η p r.len
      have z : (η.as ++ [p])[h.length]? = some p := z
      rw [z] at e1
      cases e1
      rw [CH.get_new] at e2
      cases e2
      exact ⟨O, upd_same, RO.mono (Le.push η p) ro⟩
  · have hb : b ∈ η.as ++ [p] := hb
    rcases List.mem_append.mp hb with m | m
    · exact absurd m nb
    · have e : b = p := by simpa using m
      rw [e]; exact hp
  · rw [upd_ne (ne_of_none e hp)]
    exact e
/-- an object is changed -/
theorem HR.put {cc : Nat → Addr} {η : Em} {h : CH} {H : Hp} (r : HR cc η h H) {n : Nat} {a : Addr} {o : CO} {O : HO} (e : η.as[n]? = some a) (ro : RO η o O) : HR cc η (h.set n o) (upd H a O) ∧ Stp η H η (upd H a O) := by
  have hl : n < h.length := by rw [← r.len]; exact (List.getElem?_eq_some_iff.mp e).1
  refine ⟨⟨r.cl, r.nd, by show (h.l.set _ o).length = h.n; rw [List.length_set]; exact r.wf, r.len, r.mo, fun m b o' e1 e2 => ?_⟩, ⟨Le.refl _, fun b hb nb => absurd hb nb, fun b u nb q => ?_⟩⟩
  · by_cases hm : m = n
    · subst hm
      rw [e] at e1
      cases e1
      rw [CH.get_set r.wf hl] at e2
      cases e2
      exact ⟨O, upd_same, ro⟩
    · rw [CH.get_set_ne hl hm] at e2
      obtain ⟨O', q1, q2⟩ := r.ob m b o' e1 e2
      refine ⟨O', ?_, q2⟩
      rw [upd_ne (fun q => hm (nd_ix r.nd e1 (by rw [q]; exact e)))]
      exact q1
  · rw [upd_ne (fun z => nb (by rw [z]; exact List.mem_of_getElem? e))]
    exact q
theorem HR.lst {cc : Nat → Addr} {η : Em} {h : CH} {H : Hp} (r : HR cc η h H) {n : Nat} {xs : List CV} {a : Addr} (e : h.get n = some (.lst xs)) (ea : η.as[n]? = some a) : ∃ ys, H a = some (.lst ys) ∧ RVs η xs ys := by
  obtain ⟨O, q, ys, e2, rv⟩ := r.ob n a _ ea e
  exact ⟨ys, by rw [q, e2], rv⟩
theorem HR.tup {cc : Nat → Addr} {η : Em} {h : CH} {H : Hp} (r : HR cc η h H) {n : Nat} {xs : List CV} {a : Addr} (e : h.get n = some (.tup xs)) (ea : η.as[n]? = some a) : ∃ ys, H a = some (.tup ys) ∧ RVs η xs ys := by
  obtain ⟨O, q, ys, e2, rv⟩ := r.ob n a _ ea e
  exact ⟨ys, by rw [q, e2], rv⟩

/-- the slots -/
structure RS (η : Em) (s : CS) (σ : L2.St) : Prop where
  len : s.length = σ.length
  at_ : ∀ (i : Nat) (v : CV), s[i]? = some (some v) → ∃ y, σ[i]? = some (some y) ∧ RV η v y
theorem RS.mono {η η' : Em} (x : Le η η') {s : CS} {σ : L2.St} (r : RS η s σ) : RS η' s σ := ⟨r.len, fun i v e => let ⟨y, a, b⟩ := r.at_ i v e; ⟨y, a, RV.mono x b⟩⟩
theorem RS.set {η : Em} {s : CS} {σ : L2.St} (r : RS η s σ) (i : Nat) {v : CV} {y : V} (rv : RV η v y) : RS η (s.set i (some v)) (σ.set i (some y)) := by
  refine ⟨by rw [List.length_set, List.length_set]; exact r.len, fun j u e => ?_⟩
  by_cases hj : j = i
  · subst hj
    have hl : j < s.length := by have := (List.getElem?_eq_some_iff.mp e).1; rwa [List.length_set] at this
    rw [List.getElem?_set_self hl] at e
    cases e
    exact ⟨y, List.getElem?_set_self (by rw [← r.len]; exact hl), rv⟩
  · rw [List.getElem?_set_ne (fun q => hj q.symm)] at e ⊢
    exact r.at_ j u e

theorem pe_imp {X : Cx} {e : Expr} {t t' : TE} (h : PE X e t) (i : ∀ σ H Q, t' σ H Q → t σ H Q) : PE X e t' := ⟨fun pins s σ H Q I q => h.run pins s σ H Q I (i _ _ _ q)⟩
theorem pt_imp {X : Cx} {e : Expr} {t t' : TT} (h : PT X e t) (i : ∀ σ H Q, t' σ H Q → t σ H Q) : PT X e t' := ⟨fun pins s σ H Q I q => h.run pins s σ H Q I (i _ _ _ q)⟩
theorem pw_imp {X : Cx} {e : Expr} {t t' : TT} (h : PW X e t) (i : ∀ σ H Q, t' σ H Q → t σ H Q) : PW X e t' := ⟨fun wh pins s σ H Q I q => h.run wh pins s σ H Q I (i _ _ _ q)⟩
theorem pa_imp {X : Cx} {e : List Expr} {t t' : TA} (h : PA X e t) (i : ∀ σ H Q, t' σ H Q → t σ H Q) : PA X e t' := ⟨fun pos pins s σ H Q I q => h.run pos pins s σ H Q I (i _ _ _ q)⟩
theorem ps_imp {X : Cx} {e : Stmt} {t t' : TS} (h : PS X e t) (i : ∀ D σ H, t' D σ H → t D σ H) : PS X e t' := ⟨fun pins s σ H D I q => h.run pins s σ H D I (i _ _ _ q)⟩
theorem pss_imp {X : Cx} {e : List Stmt} {t t' : TS} (h : PSs X e t) (i : ∀ D σ H, t' D σ H → t D σ H) : PSs X e t' := ⟨fun pins s σ H D I q => h.run pins s σ H D I (i _ _ _ q)⟩
theorem pg_imp {X : Cx} {e : Expr} {t t' : TG} (h : PG X e t) (i : ∀ v σ H Q, t' v σ H Q → t v σ H Q) : PG X e t' := ⟨fun pins s σ H v u Q I r q => h.run pins s σ H v u Q I r (i _ _ _ _ q)⟩
theorem pi_imp {X : Cx} {tg e : Expr} {t t' : TI} (h : PI X tg e t) (i : ∀ σ H Q, t' σ H Q → t σ H Q) : PI X tg e t' := ⟨fun pins s σ H Q I q => h.run pins s σ H Q I (i _ _ _ q)⟩

abbrev CE := CS → CH → Option (CV × CH)
abbrev CT := CS → CH → Option (Bool × CH)
abbrev CA := CS → CH → Option (List CV × CH)
inductive Fl where
  | nx | rt (v : CV) | bk | ct
abbrev CP := CS → CH → Option (Fl × CS × CH)
/-- the readings of plain functions -/
def eOf (cc : Nat → Addr) (c : CE) : TE := fun σ H Q => ∃ η h s, RS η s σ ∧ HR cc η h H ∧ ∃ v h', c s h = some (v, h') ∧ ∀ η' H' v', Stp η H η' H' → HR cc η' h' H' → RV η' v v' → Q v' H'
def bOf (cc : Nat → Addr) (c : CT) : TT := fun σ H Q => ∃ η h s, RS η s σ ∧ HR cc η h H ∧ ∃ v h', c s h = some (v, h') ∧ ∀ η' H', Stp η H η' H' → HR cc η' h' H' → Q v H'
def aOf (cc : Nat → Addr) (c : CA) : TA := fun σ H Q => ∃ η h s, RS η s σ ∧ HR cc η h H ∧ ∃ v h', c s h = some (v, h') ∧ ∀ η' H' v', Stp η H η' H' → HR cc η' h' H' → RVs η' v v' → Q v' H'
def Post (D : Ends) (η' : Em) (fl : Fl) (σ' : L2.St) (H' : Hp) : Prop := match fl with
  | .nx => D.nx σ' H'
  | .rt v => ∀ v', RV η' v v' → D.rt v' H'
  | .bk => D.bk σ' H'
  | .ct => D.ct σ' H'
def sOf (cc : Nat → Addr) (c : CP) : TS := fun D σ H => ∃ η h s, RS η s σ ∧ HR cc η h H ∧ ∃ fl s' h', c s h = some (fl, s', h') ∧ ∀ η' H' σ', Stp η H η' H' → HR cc η' h' H' → RS η' s' σ' → Post D η' fl σ' H'
def spOf (cc : Nat → Addr) (c : List CV → CH → Option (CV × CH)) : Sp := fun vs H Q _ => ∃ η h xs, RVs η xs vs ∧ HR cc η h H ∧ ∃ v h', c xs h = some (v, h') ∧ ∀ η' H' v', Stp η H η' H' → HR cc η' h' H' → RV η' v v' → Q v' H'
end CK

/-! CK: expressions. -/
namespace CK
open PySem L2
variable {X : Cx} {cc : Nat → Addr}

/-! ### names, constants -/
def cVar (i : Nat) : CE := fun s h => match s[i]? with | some (some v) => some (v, h) | _ => none
def cC (v : CV) : CE := fun _ h => some (v, h)
theorem var_of {i : Nat} {σ : L2.St} {H : Hp} {Q : VK} (q : eOf cc (cVar i) σ H Q) : tVar i σ H Q := by
  obtain ⟨η, h, s, rs, hr, v, h', e, k⟩ := q
  unfold cVar at e
  split at e
  · rename_i u eu
    cases e
    obtain ⟨y, ey, rv⟩ := rs.at_ i _ eu
    exact ⟨y, ey, k η H y (Stp.refl _ _) hr rv⟩
  · cases e
theorem c_of {v : CV} {y : V} (r : ∀ η, RV η v y) {σ : L2.St} {H : Hp} {Q : VK} (q : eOf cc (cC v) σ H Q) : tC y σ H Q := by
  obtain ⟨η, h, s, rs, hr, v', h', e, k⟩ := q
  cases e
  exact k η H y (Stp.refl _ _) hr (r η)
theorem kv (i : Nat) {x : Str} {pos : Pos} (hN : X.N[i]? = some x := by rfl) (hv : Vis X.env.scope x := by first | exact Or.inl rfl | exact Or.inr (Or.inl rfl) | exact Or.inr (Or.inr rfl)) (hd : (x == ("__debug__" : Str)) = false := by decide)
    (hcd : (x == ("__classdict__" : Str)) = false := by decide) : PE X (.Name x pos) (eOf cc (cVar i)) := pe_imp (pe_var hN hv hd hcd) fun _ _ _ q => var_of q
theorem ke_int {i j pos} : PE X (.Constant (.int i) j pos) (eOf cc (cC (.int i))) := pe_imp pe_int fun _ _ _ q => c_of (v := .int i) (y := .int i) (fun _ => rfl) q
theorem ke_bl {b j pos} : PE X (.Constant (.bool b) j pos) (eOf cc (cC (.bl b))) := pe_imp pe_bl fun _ _ _ q => c_of (v := .bl b) (y := .bl b) (fun _ => rfl) q
theorem ke_non {j pos} : PE X (.Constant .none j pos) (eOf cc (cC .non)) := pe_imp pe_non fun _ _ _ q => c_of (v := .non) (y := .non) (fun _ => rfl) q
theorem ke_str (l : List Nat) {x j pos} (hx : x = Tx l := by rfl) : PE X (.Constant (.str x) j pos) (eOf cc (cC (.str l))) := pe_imp pe_str fun _ _ _ q => c_of (v := .str l) (y := .str x) (fun _ => by rw [hx]; rfl) q
/-- a constant of the module -/
theorem ke_glob {x : Str} {v : CV} {y : V} {u : Value} {pos : Pos} (r : ∀ η, RV η v y) (hg : Gl X x) (hm : X.mg x = some u) (rv : RelV y u) (hd : (x == ("__debug__" : Str)) = false := by decide) : PE X (.Name x pos) (eOf cc (cC v)) :=
  pe_imp (pe_glob hg hm rv hd) fun _ _ _ q => c_of r q
/-- a built-in type as a value -/
theorem ke_ty {x : Str} {n : String} {pos : Pos} (hg : Gl X x) (hm : X.mg x = none) (hv : bootBuiltins x = some (.type n)) (hn : x ≠ "__name__" := by decide) (hd : (x == ("__debug__" : Str)) = false := by decide) : PE X (.Name x pos) (eOf cc (cC (.ty n))) :=
  pe_imp (pe_bltn (v := .ty n) hg hm hv rfl hn hd) fun _ _ _ q => c_of (v := .ty n) (y := .ty n) (fun _ => rfl) q

/-! ### one after another -/
def cBin (f : CV → CV → CH → Option (CV × CH)) (a b : CE) : CE := fun s h =>
  match a s h with
  | none => none
  | some (v, h1) => match b s h1 with
    | none => none
    | some (u, h2) => f v u h2
def cUn (f : CV → CH → Option (CV × CH)) (a : CE) : CE := fun s h =>
  match a s h with
  | none => none
  | some (v, h1) => f v h1
/-- the end that is wanted behind a plain step -/
def Kn (cc : Nat → Addr) (η : Em) (H : Hp) (w : CV) (h' : CH) (Q : VK) : Prop := ∀ η' H' z, Stp η H η' H' → HR cc η' h' H' → RV η' w z → Q z H'
def VOp (cc : Nat → Addr) (f : CV → CV → CH → Option (CV × CH)) (r : R2) : Prop :=
  ∀ {η : Em} {h : CH} {H : Hp} {v u : CV} {x y : V} {w : CV} {h' : CH} {Q : VK}, HR cc η h H → RV η v x → RV η u y → f v u h = some (w, h') → Kn cc η H w h' Q → r x y H Q
def VUn (cc : Nat → Addr) (f : CV → CH → Option (CV × CH)) (r : V → Hp → VK → Prop) : Prop :=
  ∀ {η : Em} {h : CH} {H : Hp} {v : CV} {x : V} {w : CV} {h' : CH} {Q : VK}, HR cc η h H → RV η v x → f v h = some (w, h') → Kn cc η H w h' Q → r x H Q
theorem cBin_some {f : CV → CV → CH → Option (CV × CH)} {a b : CE} {s : CS} {h : CH} {w : CV × CH} (e : cBin f a b s h = some w) : ∃ v h1 u h2, a s h = some (v, h1) ∧ b s h1 = some (u, h2) ∧ f v u h2 = some w := by
  unfold cBin at e
  split at e
  · cases e
  · rename_i v h1 e1
    split at e
    · cases e
    · rename_i u h2 e2
      exact ⟨v, h1, u, h2, e1, e2, e⟩
theorem cUn_some {f : CV → CH → Option (CV × CH)} {a : CE} {s : CS} {h : CH} {w : CV × CH} (e : cUn f a s h = some w) : ∃ v h1, a s h = some (v, h1) ∧ f v h1 = some w := by
  unfold cUn at e
  split at e
  · cases e
  · rename_i v h1 e1
    exact ⟨v, h1, e1, e⟩
theorem op_of {f : CV → CV → CH → Option (CV × CH)} {r : R2} (hf : VOp cc f r) {a b : CE} {σ : L2.St} {H : Hp} {Q : VK} (q : eOf cc (cBin f a b) σ H Q) : tOp r (eOf cc a) (eOf cc b) σ H Q := by
  obtain ⟨η, h, s, rs, hr, w, h', e, k⟩ := q
  obtain ⟨v, h1, u, h2, e1, e2, e3⟩ := cBin_some e
  refine ⟨η, h, s, rs, hr, v, h1, e1, fun η1 H1 x S1 R1 rx => ⟨η1, h1, s, RS.mono S1.le rs, R1, u, h2, e2, fun η2 H2 y S2 R2 ry => ?_⟩⟩
  exact hf R2 (RV.mono S2.le rx) ry e3 fun η3 H3 z S3 R3 rz => k η3 H3 z (Stp.trans (Stp.trans S1 R1 S2) R2 S3) R3 rz
theorem un_of {f : CV → CH → Option (CV × CH)} {r : V → Hp → VK → Prop} (hf : VUn cc f r) {a : CE} {σ : L2.St} {H : Hp} {Q : VK} (q : eOf cc (cUn f a) σ H Q) : tUn r (eOf cc a) σ H Q := by
  obtain ⟨η, h, s, rs, hr, w, h', e, k⟩ := q
  obtain ⟨v, h1, e1, e3⟩ := cUn_some e
  refine ⟨η, h, s, rs, hr, v, h1, e1, fun η1 H1 x S1 R1 rx => ?_⟩
  exact hf R1 rx e3 fun η3 H3 z S3 R3 rz => k η3 H3 z (Stp.trans S1 R1 S3) R3 rz

/-! ### values -/
theorem kn_same {η : Em} {h : CH} {H : Hp} {w : CV} {Q : VK} {y : V} (hr : HR cc η h H) (k : Kn cc η H w h Q) (r : RV η w y) : Q y H := k η H y (Stp.refl _ _) hr r
theorem kn_new {η : Em} {h : CH} {H : Hp} {o : CO} {O : HO} {Q : VK} (hr : HR cc η h H) (ro : RO η o O) (k : Kn cc η H (.ref h.length) (h.new (o)) Q) {p : Addr} (hp : H p = none) : Q (.ref p) (upd H p O) := by
  obtain ⟨a, b⟩ := hr.new ro hp
  exact k (η.push p) _ _ b a ⟨p, Em.push_new η p hr.len, rfl⟩
theorem kn_lst {η : Em} {h : CH} {H : Hp} {xs : List CV} {ys : List V} {Q : VK} (hr : HR cc η h H) (r : RVs η xs ys) (k : Kn cc η H (.ref h.length) (h.new (.lst xs)) Q) {p : Addr} (hp : H p = none) : Q (.ref p) (upd H p (.lst ys)) := kn_new hr (o := .lst xs) (O := .lst ys) ⟨ys, rfl, r⟩ k hp
theorem kn_tup {η : Em} {h : CH} {H : Hp} {xs : List CV} {ys : List V} {Q : VK} (hr : HR cc η h H) (r : RVs η xs ys) (k : Kn cc η H (.ref h.length) (h.new (.tup xs)) Q) {p : Addr} (hp : H p = none) : Q (.ref p) (upd H p (.tup ys)) := kn_new hr (o := .tup xs) (O := .tup ys) ⟨ys, rfl, r⟩ k hp
/-- equality of flat values, where their kinds are told apart -/
def ceq : CV → CV → Option Bool
  | .non, .non => some true
  | .bl a, .bl b => some (a == b)
  | .int a, .int b => some (a == b)
  | .str a, .str b => some (a == b)
  | .key a, .key b => some (a == b)
  | .non, .int _ => some false | .int _, .non => some false
  | .non, .bl _ => some false | .bl _, .non => some false
  | .non, .str _ => some false | .str _, .non => some false
  | .non, .key _ => some false | .key _, .non => some false
  | .int _, .str _ => some false | .str _, .int _ => some false
  | .bl _, .str _ => some false | .str _, .bl _ => some false
  | _, _ => none
theorem Tx_inj {a b : List Nat} : Tx a = Tx b ↔ a = b := by
  constructor
  · intro e
    have : a.toArray = b.toArray := congrArg Str.cps e
    simpa using this
  · intro e; rw [e]
theorem HR.key {η : Em} {h : CH} {H : Hp} (r : HR cc η h H) {i j : Nat} : η.k i = η.k j ↔ i = j := by
  constructor
  · intro e
    rcases Nat.lt_trichotomy i j with q | q | q
    · have := r.mo i j q; omega
    · exact q
    · have := r.mo j i q; omega
  · intro e; rw [e]
theorem HR.klt {η : Em} {h : CH} {H : Hp} (r : HR cc η h H) {i j : Nat} : η.k i < η.k j ↔ i < j := by
  constructor
  · intro e
    rcases Nat.lt_trichotomy i j with q | q | q
    · exact q
    · subst q; omega
    · have := r.mo j i q; omega
  · exact r.mo i j
theorem beq_comm' {α : Type} [BEq α] [LawfulBEq α] (p q : α) : (q == p) = (p == q) := by
  by_cases h : p = q
  · subst h; rfl
  · rw [beq_eq_false_iff_ne.mpr h, beq_eq_false_iff_ne.mpr (fun z => h z.symm)]
theorem Tx_beq (a b : List Nat) : (Tx a == Tx b) = (a == b) := by
  by_cases h : a = b
  · subst h; rw [beq_self_eq_true, beq_self_eq_true]
  · rw [beq_eq_false_iff_ne.mpr h, beq_eq_false_iff_ne.mpr (fun z => h (Tx_inj.mp z))]
theorem HR.kbeq {η : Em} {h : CH} {H : Hp} (r : HR cc η h H) {i j : Nat} : (η.k i == η.k j) = (i == j) := by
  by_cases h : i = j
  · subst h; rw [beq_self_eq_true, beq_self_eq_true]
  · rw [beq_eq_false_iff_ne.mpr h, beq_eq_false_iff_ne.mpr (fun z => h (r.key.mp z))]
/-- what ceq is worth -/
structure Ceq (x y : V) (b : Bool) : Prop where
  sc : scal x y = true
  de : decide (x = y) = b
  fx : flatV x = true
  fy : flatV y = true
  e1 : eqV x y = b
  e2 : eqV y x = b
theorem Ceq.int (a b : Int) : Ceq (.int a) (.int b) (a == b) := ⟨rfl, dec_int, rfl, rfl, rfl, beq_comm' a b⟩
theorem Ceq.bl (a b : Bool) : Ceq (.bl a) (.bl b) (a == b) := ⟨rfl, dec_bl, rfl, rfl, rfl, beq_comm' a b⟩
theorem Ceq.str (a b : Str) : Ceq (.str a) (.str b) (a == b) := ⟨rfl, dec_str, rfl, rfl, rfl, beq_comm' a b⟩
theorem ceq_of {η : Em} {h : CH} {H : Hp} (hr : HR cc η h H) {v u : CV} {x y : V} {b : Bool} (r1 : RV η v x) (r2 : RV η u y) (e : ceq v u = some b) : Ceq x y b := by
  cases v with
  | non =>
    cases (show x = .non from r1)
    cases u with
    | non => cases (show y = .non from r2); cases e; exact ⟨rfl, decide_eq_true rfl, rfl, rfl, rfl, rfl⟩
    | int j => cases (show y = .int j from r2); cases e; exact ⟨rfl, decide_eq_false (fun q => nomatch q), rfl, rfl, rfl, rfl⟩
    | bl j => cases (show y = .bl j from r2); cases e; exact ⟨rfl, decide_eq_false (fun q => nomatch q), rfl, rfl, rfl, rfl⟩
    | str j => cases (show y = .str (Tx j) from r2); cases e; exact ⟨rfl, decide_eq_false (fun q => nomatch q), rfl, rfl, rfl, rfl⟩
    | key j => cases (show y = .int (η.k j) from r2); cases e; exact ⟨rfl, decide_eq_false (fun q => nomatch q), rfl, rfl, rfl, rfl⟩
    | ref j => cases e
    | ty j => cases e
    | off j => cases e
    | opq => cases e
  | int i =>
    cases (show x = .int i from r1)
    cases u with
    | non => cases (show y = .non from r2); cases e; exact ⟨rfl, decide_eq_false (fun q => nomatch q), rfl, rfl, rfl, rfl⟩
    | int j => cases (show y = .int j from r2); cases e; exact Ceq.int i j
    | str j => cases (show y = .str (Tx j) from r2); cases e; exact ⟨rfl, decide_eq_false (fun q => nomatch q), rfl, rfl, rfl, rfl⟩
    | bl j => cases e
    | key j => cases e
    | ref j => cases e
    | ty j => cases e
    | off j => cases e
    | opq => cases e
  | bl i =>
    cases (show x = .bl i from r1)
    cases u with
    | non => cases (show y = .non from r2); cases e; exact ⟨rfl, decide_eq_false (fun q => nomatch q), rfl, rfl, rfl, rfl⟩
    | bl j => cases (show y = .bl j from r2); cases e; exact Ceq.bl i j
    | str j => cases (show y = .str (Tx j) from r2); cases e; exact ⟨rfl, decide_eq_false (fun q => nomatch q), rfl, rfl, rfl, rfl⟩
    | int j => cases e
    | key j => cases e
    | ref j => cases e
    | ty j => cases e
    | off j => cases e
    | opq => cases e
  | str i =>
    cases (show x = .str (Tx i) from r1)
    cases u with
    | non => cases (show y = .non from r2); cases e; exact ⟨rfl, decide_eq_false (fun q => nomatch q), rfl, rfl, rfl, rfl⟩
    | bl j => cases (show y = .bl j from r2); cases e; exact ⟨rfl, decide_eq_false (fun q => nomatch q), rfl, rfl, rfl, rfl⟩
    | int j => cases (show y = .int j from r2); cases e; exact ⟨rfl, decide_eq_false (fun q => nomatch q), rfl, rfl, rfl, rfl⟩
    | str j => cases (show y = .str (Tx j) from r2); cases e; rw [← Tx_beq]; exact Ceq.str _ _
    | key j => cases e
    | ref j => cases e
    | ty j => cases e
    | off j => cases e
    | opq => cases e
  | key i =>
    cases (show x = .int (η.k i) from r1)
    cases u with
    | non => cases (show y = .non from r2); cases e; exact ⟨rfl, decide_eq_false (fun q => nomatch q), rfl, rfl, rfl, rfl⟩
    | key j => cases (show y = .int (η.k j) from r2); cases e; rw [← hr.kbeq]; exact Ceq.int _ _
    | bl j => cases e
    | int j => cases e
    | str j => cases e
    | ref j => cases e
    | ty j => cases e
    | off j => cases e
    | opq => cases e
  | ref i => cases u <;> cases e
  | ty i => cases u <;> cases e
  | off i => cases u <;> cases e
  | opq => cases u <;> cases e
end CK

/-! CK: operators. -/
namespace CK
open PySem L2
variable {X : Cx} {cc : Nat → Addr}

/-! ### lists in step -/
section
variable {α β : Type} {F : α → β → Prop}
theorem Pd.app : ∀ {a c : List α} {b d : List β}, Paired F a b → Paired F c d → Paired F (a ++ c) (b ++ d)
  | _, _, _, _, .nil, s => s
  | _, _, _, _, .cons r t, s => .cons r (Pd.app t s)
theorem Pd.get : ∀ {a : List α} {b : List β} {i : Nat} {x : α}, Paired F a b → a[i]? = some x → ∃ y, b[i]? = some y ∧ F x y
  | _, _, _, _, .nil, e => by simp at e
  | _, _, 0, _, .cons r _, e => by simp at e; subst e; exact ⟨_, rfl, r⟩
  | _, _, i + 1, x, .cons _ t, e => by
    obtain ⟨u, h1, h2⟩ := Pd.get (i := i) (x := x) t (by simpa using e)
    exact ⟨u, by simpa using h1, h2⟩
theorem Pd.take : ∀ {a : List α} {b : List β} (n : Nat), Paired F a b → Paired F (a.take n) (b.take n)
  | _, _, 0, _ => .nil
  | _, _, _ + 1, .nil => .nil
  | _, _, n + 1, .cons r t => .cons r (Pd.take n t)
theorem Pd.drop : ∀ {a : List α} {b : List β} (n : Nat), Paired F a b → Paired F (a.drop n) (b.drop n)
  | _, _, 0, r => r
  | _, _, _ + 1, .nil => .nil
  | _, _, n + 1, .cons _ t => Pd.drop n t
theorem Pd.set {x : α} {y : β} (r : F x y) : ∀ {a : List α} {b : List β} (i : Nat), Paired F a b → Paired F (a.set i x) (b.set i y)
  | _, _, _, .nil => .nil
  | _, _, 0, .cons _ t => .cons r t
  | _, _, i + 1, .cons q t => .cons q (Pd.set r i t)
theorem Pd.erase : ∀ {a : List α} {b : List β} (i : Nat), Paired F a b → Paired F (a.eraseIdx i) (b.eraseIdx i)
  | _, _, _, .nil => .nil
  | _, _, 0, .cons _ t => t
  | _, _, i + 1, .cons q t => .cons q (Pd.erase i t)
theorem Pd.dropLast {a : List α} {b : List β} (h : Paired F a b) : Paired F a.dropLast b.dropLast := by
  rw [List.dropLast_eq_take, List.dropLast_eq_take, ← h.length]
  exact Pd.take _ h
theorem Pd.rep {a : List α} {b : List β} (h : Paired F a b) : ∀ k : Nat, Paired F (List.replicate k a).flatten (List.replicate k b).flatten
  | 0 => .nil
  | k + 1 => by
    rw [List.replicate_succ, List.replicate_succ, List.flatten_cons, List.flatten_cons]
    exact Pd.app h (Pd.rep h k)
end
theorem Tx_len (l : List Nat) : (Tx l).length = l.length := by simp [Tx, Str.length]
theorem Tx_app (a b : List Nat) : Tx a ++ Tx b = Tx (a ++ b) := by
  show Str.mk (a.toArray ++ b.toArray) = Str.mk (a ++ b).toArray
  simp
theorem Tx_cps (l : List Nat) : (Tx l).cps.toList = l := by simp [Tx]
theorem Tx_one (c : Nat) : Tx [c] = ⟨#[c]⟩ := rfl
theorem small {n : Nat} (h : n ≤ 4000) : n ≤ sizeLine := by rw [sizeLine_eq]; omega

/-! ### arithmetic -/
def fAdd : CV → CV → CH → Option (CV × CH)
  | .int i, .int j, h => some (.int (i + j), h)
  | .str x, .str y, h => if x.length + y.length ≤ 4000 then some (.str (x ++ y), h) else none
  | .ref a, .ref b, h => match h.get a, h.get b with
    | some (.lst xs), some (.lst ys) => if xs.length + ys.length ≤ 4000 then some (.ref h.length, h.new (.lst (xs ++ ys))) else none
    | _, _ => none
  | _, _, _ => none
theorem vAdd : VOp cc fAdd (fun x y H Q => rI0 (fun i j => .int (i + j)) x y H Q ∨ ((∃ i j, x = .str i ∧ y = .str j ∧ i.length + j.length ≤ sizeLine ∧ Q (.str (i ++ j)) H) ∨ rCat x y H Q)) := by
  intro η h H v u x y w h' Q hr r1 r2 e k
  unfold fAdd at e
  split at e
  · cases e
    exact .inl ⟨_, _, r1, r2, kn_same hr k rfl⟩
  · split at e
    · rename_i hz
      cases e
      refine .inr (.inl ⟨_, _, r1, r2, by rw [Tx_len, Tx_len]; exact small hz, ?_⟩)
      rw [Tx_app]
      exact kn_same hr k rfl
    · cases e
  · obtain ⟨a, ea, rfl⟩ := r1
    obtain ⟨b, eb, rfl⟩ := r2
    split at e
    · rename_i xs ys e1 e2
      split at e
      · rename_i hz
        cases e
        obtain ⟨xs', q1, p1⟩ := hr.lst e1 ea
        obtain ⟨ys', q2, p2⟩ := hr.lst e2 eb
        refine .inr (.inr ⟨a, b, xs', ys', rfl, rfl, q1, q2, by rw [← p1.length, ← p2.length]; exact small hz, fun p hp => ?_⟩)
        exact kn_lst hr (Pd.app p1 p2) k hp
      · cases e
    · cases e
  · cases e
def fInt2 (g : Int → Int → Int) : CV → CV → CH → Option (CV × CH)
  | .int i, .int j, h => some (.int (g i j), h)
  | _, _, _ => none
theorem vInt2 (g : Int → Int → Int) : VOp cc (fInt2 g) (rI0 fun i j => .int (g i j)) := by
  intro η h H v u x y w h' Q hr r1 r2 e k
  unfold fInt2 at e
  split at e
  · cases e
    exact ⟨_, _, r1, r2, kn_same hr k rfl⟩
  · cases e
def fIntC (C : Int → Int → Bool) (g : Int → Int → Int) : CV → CV → CH → Option (CV × CH)
  | .int i, .int j, h => if C i j then some (.int (g i j), h) else none
  | _, _, _ => none
theorem vIntC {C : Int → Int → Bool} {g : Int → Int → Int} {D : Int → Int → Prop} (hD : ∀ i j, C i j = true → D i j) : VOp cc (fIntC C g) (rI D fun i j => .int (g i j)) := by
  intro η h H v u x y w h' Q hr r1 r2 e k
  unfold fIntC at e
  split at e
  · split at e
    · rename_i hc
      cases e
      exact ⟨_, _, r1, r2, hD _ _ hc, kn_same hr k rfl⟩
    · cases e
  · cases e
def cDivOk (i j : Int) : Bool := decide (0 < j) && decide (j < 1073741824)
def cModOk (i j : Int) : Bool := decide (0 < j)
def cMulOk (i j : Int) : Bool := (decide (-1000000000000 < i) && decide (i < 1000000000000)) || (decide (-1000000000000 < j) && decide (j < 1000000000000))
def cPowOk (i j : Int) : Bool := decide (0 ≤ j) && decide (j ≤ 1000) && decide (i.natAbs < 1000000)
theorem divOk (i j : Int) (h : cDivOk i j = true) : CDiv i j := by
  simp only [cDivOk, Bool.and_eq_true, decide_eq_true_eq] at h; exact h
theorem modOk (i j : Int) (h : cModOk i j = true) : 0 < j := of_decide_eq_true h
theorem mulOk (i j : Int) (h : cMulOk i j = true) : CMul i j := by
  simp only [cMulOk, Bool.and_eq_true, Bool.or_eq_true, decide_eq_true_eq] at h
  unfold CMul
  rcases h with h | h
  · exact .inl ⟨by omega, by omega⟩
  · exact .inr ⟨by omega, by omega⟩
theorem powOk (i j : Int) (h : cPowOk i j = true) : CPow i j := by
  simp only [cPowOk, Bool.and_eq_true, decide_eq_true_eq] at h
  unfold CPow
  omega
def fMul : CV → CV → CH → Option (CV × CH)
  | .int i, .int j, h => if cMulOk i j then some (.int (i * j), h) else none
  | .ref a, .int k, h => match h.get a with
    | some (.lst xs) => if decide (0 ≤ k) && decide (k ≤ 1000) && decide (xs.length * k.toNat ≤ 4000) then some (.ref h.length, h.new (.lst (List.replicate k.toNat xs).flatten)) else none
    | _ => none
  | _, _, _ => none
theorem vMul : VOp cc fMul (fun x y H Q => rI CMul (fun i j => .int (i * j)) x y H Q ∨ rRep x y H Q) := by
  intro η h H v u x y w h' Q hr r1 r2 e k
  unfold fMul at e
  split at e
  · split at e
    · rename_i hc
      cases e
      exact .inl ⟨_, _, r1, r2, mulOk _ _ hc, kn_same hr k rfl⟩
    · cases e
  · obtain ⟨a, ea, rfl⟩ := r1
    split at e
    · rename_i kk _ xs e1
      split at e
      · rename_i hc
        simp only [Bool.and_eq_true, decide_eq_true_eq] at hc
        cases e
        obtain ⟨xs', q1, p1⟩ := hr.lst e1 ea
        refine .inr ⟨a, kk, xs', rfl, r2, q1, by omega, by omega, by rw [← p1.length]; exact small hc.2, fun p hp => ?_⟩
        exact kn_lst hr (Pd.rep p1 _) k hp
      · cases e
    · cases e
  · cases e
def fNeg : CV → CH → Option (CV × CH)
  | .int i, h => some (.int (-i), h)
  | _, _ => none
theorem vNeg : VUn cc fNeg (rU fun i => .int (-i)) := by
  intro η h H v x w h' Q hr r1 e k
  unfold fNeg at e
  split at e
  · cases e; exact ⟨_, r1, kn_same hr k rfl⟩
  · cases e
section
variable {a b : Expr} {ca cb : CE} {pos : Pos}
theorem ke_add (ha : PE X a (eOf cc ca)) (hb : PE X b (eOf cc cb)) : PE X (.BinOp a .Add b pos) (eOf cc (cBin fAdd ca cb)) := pe_imp (pe_op (op_add.or (op_add_str.or op_cat)) ha hb) fun _ _ _ q => op_of vAdd q
theorem ke_sub (ha : PE X a (eOf cc ca)) (hb : PE X b (eOf cc cb)) : PE X (.BinOp a .Sub b pos) (eOf cc (cBin (fInt2 fun i j => i - j) ca cb)) := pe_imp (pe_op op_sub ha hb) fun _ _ _ q => op_of (vInt2 _) q
theorem ke_mul (ha : PE X a (eOf cc ca)) (hb : PE X b (eOf cc cb)) : PE X (.BinOp a .Mult b pos) (eOf cc (cBin fMul ca cb)) := pe_imp (pe_op (op_mul.or op_rep) ha hb) fun _ _ _ q => op_of vMul q
theorem ke_div (ha : PE X a (eOf cc ca)) (hb : PE X b (eOf cc cb)) : PE X (.BinOp a .FloorDiv b pos) (eOf cc (cBin (fIntC cDivOk fun i j => i / j) ca cb)) := pe_imp (pe_op op_fdiv ha hb) fun _ _ _ q => op_of (vIntC divOk) q
theorem ke_mod (ha : PE X a (eOf cc ca)) (hb : PE X b (eOf cc cb)) : PE X (.BinOp a .Mod b pos) (eOf cc (cBin (fIntC cModOk fun i j => i % j) ca cb)) := pe_imp (pe_op op_mod ha hb) fun _ _ _ q => op_of (vIntC modOk) q
theorem ke_pow (ha : PE X a (eOf cc ca)) (hb : PE X b (eOf cc cb)) : PE X (.BinOp a .Pow b pos) (eOf cc (cBin (fIntC cPowOk fun i j => i ^ j.toNat) ca cb)) := pe_imp (pe_op op_pow ha hb) fun _ _ _ q => op_of (vIntC powOk) q
theorem ke_neg (ha : PE X a (eOf cc ca)) : PE X (.UnaryOp .USub a pos) (eOf cc (cUn fNeg ca)) := pe_imp (pe_un un_neg ha) fun _ _ _ q => un_of vNeg q
end

/-! ### comparisons -/
/-- the order of ints, of keys -/
def fOrd (p : Int → Int → Bool) (q : Nat → Nat → Bool) : CV → CV → CH → Option (CV × CH)
  | .int i, .int j, h => some (.bl (p i j), h)
  | .key i, .key j, h => some (.bl (q i j), h)
  | _, _, _ => none
theorem vOrd {p : Int → Int → Bool} {q : Nat → Nat → Bool} (hq : ∀ (κ : Nat → Int), (∀ i j, κ i < κ j ↔ i < j) → ∀ i j, p (κ i) (κ j) = q i j) : VOp cc (fOrd p q) (rI0 fun i j => .bl (p i j)) := by
  intro η h H v u x y w h' Q hr r1 r2 e k
  unfold fOrd at e
  split at e
  · cases e; exact ⟨_, _, r1, r2, kn_same hr k rfl⟩
  · cases e
    refine ⟨_, _, r1, r2, ?_⟩
    show Q (V.bl (p _ _)) H
    rw [hq η.k (fun i j => hr.klt)]
    exact kn_same hr k rfl
  · cases e
abbrev fLt := fOrd (fun i j => decide (i < j)) (fun i j => decide (i < j))
abbrev fLe := fOrd (fun i j => decide (i ≤ j)) (fun i j => decide (i ≤ j))
abbrev fGt := fOrd (fun i j => decide (j < i)) (fun i j => decide (j < i))
abbrev fGe := fOrd (fun i j => decide (j ≤ i)) (fun i j => decide (j ≤ i))
theorem dec_iff {p q : Prop} [Decidable p] [Decidable q] (h : p ↔ q) : decide p = decide q := by
  by_cases c : p
  · rw [decide_eq_true c, decide_eq_true (h.mp c)]
  · rw [decide_eq_false c, decide_eq_false fun z => c (h.mpr z)]
theorem vLt : VOp cc fLt (rI0 fun i j => .bl (decide (i < j))) := vOrd fun κ m i j => dec_iff (m i j)
theorem vLe : VOp cc fLe (rI0 fun i j => .bl (decide (i ≤ j))) := vOrd fun κ m i j => dec_iff (by have := m j i; omega)
theorem vGt : VOp cc fGt (rI0 fun i j => .bl (decide (j < i))) := vOrd fun κ m i j => dec_iff (m j i)
theorem vGe : VOp cc fGe (rI0 fun i j => .bl (decide (j ≤ i))) := vOrd fun κ m i j => dec_iff (by have := m i j; omega)
def isNon : CV → Bool
  | .non => true
  | _ => false
def fIsN : CV → CV → CH → Option (CV × CH)
  | v, .non, h => some (.bl (isNon v), h)
  | _, _, _ => none
def fNotN : CV → CV → CH → Option (CV × CH)
  | v, .non, h => some (.bl (!isNon v), h)
  | _, _, _ => none
theorem non_iff {η : Em} {v : CV} {x : V} (r : RV η v x) : decide (x = .non) = isNon v := by
  cases v with
  | non => cases (show x = .non from r); rfl
  | bl b => cases (show x = .bl b from r); rfl
  | int b => cases (show x = .int b from r); rfl
  | str b => cases (show x = .str (Tx b) from r); rfl
  | ref b => obtain ⟨a, _, rfl⟩ := r; rfl
  | ty b => cases (show x = .ty b from r); rfl
  | off b => cases (show x = .int (η.t + b) from r); rfl
  | opq => cases (show x = .ref (η.k 0).toNat from r); rfl
  | key b => cases (show x = .int (η.k b) from r); rfl
theorem vIsN : VOp cc fIsN (fun x y H Q => y = .non ∧ Q (.bl (decide (x = .non))) H) := by
  intro η h H v u x y w h' Q hr r1 r2 e k
  unfold fIsN at e
  split at e
  · cases e
    refine ⟨r2, ?_⟩
    rw [non_iff r1]
    exact kn_same hr k rfl
  · cases e
theorem vNotN : VOp cc fNotN (fun x y H Q => y = .non ∧ Q (.bl (!decide (x = .non))) H) := by
  intro η h H v u x y w h' Q hr r1 r2 e k
  unfold fNotN at e
  split at e
  · cases e
    refine ⟨r2, ?_⟩
    rw [non_iff r1]
    exact kn_same hr k rfl
  · cases e
def fEq : CV → CV → CH → Option (CV × CH) := fun v u h => match ceq v u with | some b => some (.bl b, h) | none => none
def fNe : CV → CV → CH → Option (CV × CH) := fun v u h => match ceq v u with | some b => some (.bl (!b), h) | none => none
theorem vEq : VOp cc fEq rEq := by
  intro η h H v u x y w h' Q hr r1 r2 e k
  unfold fEq at e
  split at e
  · rename_i b eb
    cases e
    have q := ceq_of hr r1 r2 eb
    exact ⟨q.sc, by rw [q.de]; exact kn_same hr k rfl⟩
  · cases e
theorem vNe : VOp cc fNe rNe := by
  intro η h H v u x y w h' Q hr r1 r2 e k
  unfold fNe at e
  split at e
  · rename_i b eb
    cases e
    have q := ceq_of hr r1 r2 eb
    exact ⟨q.sc, by rw [q.de]; exact kn_same hr k rfl⟩
  · cases e
/-- x in xs, kinds told apart at each item -/
def cIn (x : CV) : List CV → Option Bool
  | [] => some false
  | y :: ys => match ceq x y with
    | none => none
    | some b => match cIn x ys with
      | none => none
      | some c => some (b || c)
theorem cIn_of {η : Em} {h : CH} {H : Hp} (hr : HR cc η h H) {v : CV} {x : V} (r : RV η v x) : ∀ {xs : List CV} {ys : List V} {b : Bool}, RVs η xs ys → cIn v xs = some b → inV x ys = b ∧ ys.all flatV = true ∧ (xs ≠ [] → flatV x = true)
  | _, _, b, .nil, e => by
    cases e
    exact ⟨rfl, rfl, fun z => absurd rfl z⟩
  | a :: as, y :: ys, b, .cons r1 rs, e => by
    unfold cIn at e
    split at e
    · cases e
    · rename_i c ec
      split at e
      · cases e
      · rename_i d ed
        cases e
        have q := ceq_of hr r r1 ec
        obtain ⟨h1, h2, _⟩ := cIn_of hr r rs ed
        refine ⟨?_, ?_, fun _ => q.fx⟩
        · show (eqV y x || inV x ys) = _
          rw [q.e2, h1]
        · rw [List.all_cons, q.fy, h2]; rfl
def isFlat : CV → Bool
  | .non => true | .bl _ => true | .int _ => true | .str _ => true | .key _ => true
  | _ => false
theorem flat_of {η : Em} {v : CV} {x : V} (r : RV η v x) (f : isFlat v = true) : flatV x = true := by
  cases v with
  | non => cases (show x = .non from r); rfl
  | bl b => cases (show x = .bl b from r); rfl
  | int b => cases (show x = .int b from r); rfl
  | str b => cases (show x = .str (Tx b) from r); rfl
  | ref b => cases f
  | ty b => cases f
  | off b => cases f
  | opq => cases f
  | key b => cases (show x = .int (η.k b) from r); rfl
def fIn (neg : Bool) : CV → CV → CH → Option (CV × CH)
  | v, .ref a, h => if isFlat v then (match h.get a with
    | some (.lst xs) => (match cIn v xs with | some b => some (.bl (if neg then !b else b), h) | none => none)
    | some (.tup xs) => (match cIn v xs with | some b => some (.bl (if neg then !b else b), h) | none => none)
    | _ => none) else none
  | _, _, _ => none
theorem vIn {K : PySem.W.Frag} (neg : Bool) : VOp cc (fIn neg) (rIn K neg) := by
  intro η h H v u x y w h' Q hr r1 r2 e k
  unfold fIn at e
  split at e
  · obtain ⟨a, ea, rfl⟩ := r2
    split at e
    · rename_i hf
      split at e
      · rename_i xs e1
        split at e
        · rename_i b eb
          cases e
          obtain ⟨ys, q1, p1⟩ := hr.lst e1 ea
          obtain ⟨h1, h2, _⟩ := cIn_of hr r1 p1 eb
          refine ⟨a, ys, rfl, .inl (SqL.of q1), flat_of r1 hf, h2, ?_⟩
          rw [h1]
          exact kn_same hr k rfl
        · cases e
      · rename_i xs e1
        split at e
        · rename_i b eb
          cases e
          obtain ⟨ys, q1, p1⟩ := hr.tup e1 ea
          obtain ⟨h1, h2, _⟩ := cIn_of hr r1 p1 eb
          refine ⟨a, ys, rfl, .inr (SqT.of q1), flat_of r1 hf, h2, ?_⟩
          rw [h1]
          exact kn_same hr k rfl
        · cases e
      · cases e
    · cases e
  · cases e
section
variable {a b : Expr} {ca cb : CE} {pos : Pos}
theorem ke_eq (ha : PE X a (eOf cc ca)) (hb : PE X b (eOf cc cb)) : PE X (.Compare a [.Eq] [b] pos) (eOf cc (cBin fEq ca cb)) := pe_imp (pe_cmpR op_eq ha hb (nomark _)) fun _ _ _ q => op_of vEq q
theorem ke_ne (ha : PE X a (eOf cc ca)) (hb : PE X b (eOf cc cb)) : PE X (.Compare a [.NotEq] [b] pos) (eOf cc (cBin fNe ca cb)) := pe_imp (pe_cmpR op_ne ha hb (nomark _)) fun _ _ _ q => op_of vNe q
theorem ke_lt (ha : PE X a (eOf cc ca)) (hb : PE X b (eOf cc cb)) : PE X (.Compare a [.Lt] [b] pos) (eOf cc (cBin fLt ca cb)) := pe_imp (pe_cmpR op_lt ha hb (nomark _)) fun _ _ _ q => op_of vLt q
theorem ke_le (ha : PE X a (eOf cc ca)) (hb : PE X b (eOf cc cb)) : PE X (.Compare a [.LtE] [b] pos) (eOf cc (cBin fLe ca cb)) := pe_imp (pe_cmpR op_le ha hb (nomark _)) fun _ _ _ q => op_of vLe q
theorem ke_gt (ha : PE X a (eOf cc ca)) (hb : PE X b (eOf cc cb)) : PE X (.Compare a [.Gt] [b] pos) (eOf cc (cBin fGt ca cb)) := pe_imp (pe_cmpR op_gt ha hb (nomark _)) fun _ _ _ q => op_of vGt q
theorem ke_ge (ha : PE X a (eOf cc ca)) (hb : PE X b (eOf cc cb)) : PE X (.Compare a [.GtE] [b] pos) (eOf cc (cBin fGe ca cb)) := pe_imp (pe_cmpR op_ge ha hb (nomark _)) fun _ _ _ q => op_of vGe q
theorem ke_isN (ha : PE X a (eOf cc ca)) (hb : PE X b (eOf cc cb)) : PE X (.Compare a [.Is] [b] pos) (eOf cc (cBin fIsN ca cb)) := pe_imp (pe_cmpR op_isN ha hb (nomark _)) fun _ _ _ q => op_of vIsN q
theorem ke_notN (ha : PE X a (eOf cc ca)) (hb : PE X b (eOf cc cb)) : PE X (.Compare a [.IsNot] [b] pos) (eOf cc (cBin fNotN ca cb)) := pe_imp (pe_cmpR op_notN ha hb (nomark _)) fun _ _ _ q => op_of vNotN q
theorem ke_in (ha : PE X a (eOf cc ca)) (hb : PE X b (eOf cc cb)) (hm : behindInMarks .In b = false := by with_unfolding_all rfl) : PE X (.Compare a [.In] [b] pos) (eOf cc (cBin (fIn false) ca cb)) := pe_imp (pe_cmpR op_in_seq ha hb hm) fun _ _ _ q => op_of (vIn false) q
theorem ke_notIn (ha : PE X a (eOf cc ca)) (hb : PE X b (eOf cc cb)) (hm : behindInMarks .NotIn b = false := by with_unfolding_all rfl) : PE X (.Compare a [.NotIn] [b] pos) (eOf cc (cBin (fIn true) ca cb)) := pe_imp (pe_cmpR op_notIn_seq ha hb hm) fun _ _ _ q => op_of (vIn true) q
end
/-- x not in a tuple that the module has written -/
def fNotInC (xs : List CV) : CV → CH → Option (CV × CH) := fun v h => if isFlat v then (match cIn v xs with | some b => some (.bl (!b), h) | none => none) else none
theorem ke_notInK {e : Expr} {ce : CE} {x : Str} {xs : List CV} {ys : List V} {u : Value} {aT : Addr} {p pos : Pos} (he : PE X e (eOf cc ce)) (hg : Gl X x) (hm : X.mg x = some (.ref aT)) (hT : ∀ H, SqT X.K H aT ys) (r : ∀ η, RVs η xs ys)
    (hd : (x == ("__debug__" : Str)) = false := by decide) (hmk : behindInMarks .NotIn (.Name x p) = false := by with_unfolding_all rfl) : PE X (.Compare e [.NotIn] [.Name x p] pos) (eOf cc (cUn (fNotInC xs) ce)) := by
  refine pe_imp (pe_cmpR op_notIn_seq he (pe_glob (v := .ref aT) hg hm rfl hd) hmk) fun σ H Q q => ?_
  refine un_of (r := fun x H1 Q' => rIn X.K true x (.ref aT) H1 Q') (f := fNotInC xs) ?_ q
  intro η h H v x w h' Q' hr r1 e k
  unfold fNotInC at e
  split at e
  · rename_i hf
    split at e
    · rename_i b eb
      cases e
      obtain ⟨h1, h2, _⟩ := cIn_of hr r1 (r η) eb
      refine ⟨aT, ys, rfl, .inr (hT _), flat_of r1 hf, h2, ?_⟩
      rw [h1]
      exact kn_same hr k rfl
    · cases e
  · cases e
end CK

/-! CK: subscripts, displays, tests, calls. -/
namespace CK
open PySem L2
variable {X : Cx} {cc : Nat → Addr}

/-! ### subscripts -/
def fIx : CV → CV → CH → Option (CV × CH)
  | .ref a, .int i, h => match h.get a with
    | some (.lst xs) => (match atI xs i with | some v => some (v, h) | none => none)
    | some (.tup xs) => (match atI xs i with | some v => some (v, h) | none => none)
    | _ => none
  | .str x, .int i, h => if x.length ≤ 4000 then (match atI x i with | some c => some (.str [c], h) | none => none) else none
  | _, _, _ => none
theorem atI_pd {α β : Type} {F : α → β → Prop} {xs : List α} {ys : List β} (p : Paired F xs ys) {i : Int} {v : α} (e : atI xs i = some v) : ∃ y, atI ys i = some y ∧ F v y := by
  unfold atI at e ⊢
  rw [← p.length]
  cases q : ixN xs.length i with
  | none => rw [q] at e; cases e
  | some j =>
    rw [q] at e
    exact Pd.get p e
theorem vIx {K : PySem.W.Frag} : VOp cc fIx (rIx K) := by
  intro η h H v u x y w h' Q hr r1 r2 e k
  unfold fIx at e
  split at e
  · obtain ⟨a, ea, rfl⟩ := r1
    split at e
    · rename_i i _ xs e1
      split at e
      · rename_i v ev
        cases e
        obtain ⟨ys, q1, p1⟩ := hr.lst e1 ea
        obtain ⟨z, ez, rz⟩ := atI_pd p1 ev
        exact .inl ⟨a, ys, i, z, rfl, r2, SqL.of q1, ez, kn_same hr k rz⟩
      · cases e
    · rename_i i _ xs e1
      split at e
      · rename_i v ev
        cases e
        obtain ⟨ys, q1, p1⟩ := hr.tup e1 ea
        obtain ⟨z, ez, rz⟩ := atI_pd p1 ev
        exact .inr (.inl ⟨a, ys, i, z, rfl, r2, SqT.of q1, ez, kn_same hr k rz⟩)
      · cases e
    · cases e
  · split at e
    · rename_i hz
      split at e
      · rename_i c ec
        cases e
        refine .inr (.inr ⟨_, _, c, r1, r2, by rw [Tx_len]; exact small hz, by rw [Tx_cps]; exact ec, ?_⟩)
        rw [← Tx_one]
        exact kn_same hr k rfl
      · cases e
    · cases e
  · cases e
/-- the parts of a slice -/
abbrev CPt := CS → CH → Option (Option Int × CH)
def pOf (cc : Nat → Addr) (c : CPt) : TO := fun σ H Q => ∃ η h s, RS η s σ ∧ HR cc η h H ∧ ∃ v h', c s h = some (v, h') ∧ ∀ η' H', Stp η H η' H' → HR cc η' h' H' → Q v H'
def pNo : CPt := fun _ h => some (none, h)
def pYes (c : CE) : CPt := fun s h => match c s h with | some (.int i, h1) => some (some i, h1) | _ => none
theorem po_imp {o : Option Expr} {t t' : TO} (h : PO X o t) (i : ∀ σ H Q, t' σ H Q → t σ H Q) : PO X o t' := ⟨fun pins s σ H Q I q => h.run pins s σ H Q I (i _ _ _ q)⟩
theorem kp_no : PO X none (pOf cc pNo) := po_imp po_none fun σ H Q q => by
  obtain ⟨η, h, s, rs, hr, v, h', e, k⟩ := q
  cases e
  exact k η H (Stp.refl _ _) hr
theorem kp_yes {e : Expr} {c : CE} (he : PE X e (eOf cc c)) : PO X (some e) (pOf cc (pYes c)) := po_imp (po_some he) fun σ H Q q => by
  obtain ⟨η, h, s, rs, hr, v, h', e, k⟩ := q
  unfold pYes at e
  split at e
  · rename_i i h1 e1
    cases e
    exact ⟨η, h, s, rs, hr, _, _, e1, fun η' H' x S1 R1 rx => ⟨i, rx, k η' H' S1 R1⟩⟩
  · cases e
def cutC (xs : List CV) (lo hi : Option Int) : List CV := (xs.drop (HT.sIx xs.length 0 lo)).take (HT.sIx xs.length xs.length hi - HT.sIx xs.length 0 lo)
theorem cut_pd {η : Em} {xs : List CV} {ys : List V} (p : RVs η xs ys) (lo hi : Option Int) : RVs η (cutC xs lo hi) (cutV ys lo hi) := by
  unfold cutC cutV
  rw [← p.length]
  exact Pd.take _ (Pd.drop _ p)
def cSl (a : CE) (lo hi : CPt) : CE := fun s h =>
  match a s h with
  | some (.ref n, h1) => (match lo s h1 with
    | some (l, h2) => (match hi s h2 with
      | some (u, h3) => (match h3.get n with
        | some (.lst xs) => some (.ref h3.length, h3.new (.lst (cutC xs l u)))
        | _ => none)
      | none => none)
    | none => none)
  | _ => none
theorem ke_slice {e : Expr} {lo hi : Option Expr} {ca : CE} {cl cu : CPt} {p2 pos : Pos} (he : PE X e (eOf cc ca)) (hl : PO X lo (pOf cc cl)) (hu : PO X hi (pOf cc cu)) : PE X (.Subscript e (.Slice lo hi none p2) pos) (eOf cc (cSl ca cl cu)) := by
  refine pe_imp (pe_slice sl_list he hl hu) fun σ H Q q => ?_
  obtain ⟨η, h, s, rs, hr, w, h', e, k⟩ := q
  unfold cSl at e
  split at e
  · rename_i n h1 e1
    split at e
    · rename_i l h2 e2
      split at e
      · rename_i u h3 e3
        split at e
        · rename_i xs e4
          cases e
          refine ⟨η, h, s, rs, hr, _, _, e1, fun η1 H1 x S1 R1 rx => ⟨η1, h1, s, RS.mono S1.le rs, R1, _, _, e2, fun η2 H2 S2 R2 => ⟨η2, h2, s, RS.mono S2.le (RS.mono S1.le rs), R2, _, _, e3, fun η3 H3 S3 R3 => ?_⟩⟩⟩
          obtain ⟨a, ea, rfl⟩ := RV.mono S3.le (RV.mono S2.le rx)
          obtain ⟨ys, q1, p1⟩ := R3.lst e4 ea
          refine ⟨a, ys, rfl, SqL.of q1, fun p hp => ?_⟩
          exact kn_lst R3 (cut_pd p1 l u) (fun η4 H4 z S4 R4 rz => k η4 H4 z (Stp.trans (Stp.trans (Stp.trans S1 R1 S2) R2 S3) R3 S4) R4 rz) hp
        · cases e
      · cases e
    · cases e
  · cases e

/-! ### arguments, displays -/
def cNil : CA := fun _ h => some ([], h)
def cCons (a : CE) (r : CA) : CA := fun s h => match a s h with
  | none => none
  | some (v, h1) => match r s h1 with
    | none => none
    | some (vs, h2) => some (v :: vs, h2)
theorem ka_nil : PA X [] (aOf cc cNil) := pa_imp pa_nil fun σ H Q q => by
  obtain ⟨η, h, s, rs, hr, v, h', e, k⟩ := q
  cases e
  exact k η H [] (Stp.refl _ _) hr .nil
theorem ka_cons {e : Expr} {es : List Expr} {ce : CE} {cr : CA} (he : PE X e (eOf cc ce)) (hr : PA X es (aOf cc cr)) (hs : starEach (e :: es) X.env = (false, eval e X.env) :: starEach es X.env := by rfl) : PA X (e :: es) (aOf cc (cCons ce cr)) :=
  pa_imp (pa_cons he hr hs) fun σ H Q q => by
    obtain ⟨η, h, s, rs, hr, v, h', e, k⟩ := q
    unfold cCons at e
    split at e
    · cases e
    · rename_i v1 h1 e1
      split at e
      · cases e
      · rename_i vs h2 e2
        cases e
        exact ⟨η, h, s, rs, hr, _, _, e1, fun η1 H1 x S1 R1 rx => ⟨η1, h1, s, RS.mono S1.le rs, R1, _, _, e2, fun η2 H2 xs S2 R2 rxs => k η2 H2 _ (Stp.trans S1 R1 S2) R2 (.cons (RV.mono S2.le rx) rxs)⟩⟩
def cLst (a : CA) : CE := fun s h => match a s h with
  | some (vs, h1) => if vs.length ≤ 4000 then some (.ref h1.length, h1.new (.lst vs)) else none
  | none => none
def cTup (a : CA) : CE := fun s h => match a s h with
  | some (vs, h1) => if vs.length ≤ 4000 then some (.ref h1.length, h1.new (.tup vs)) else none
  | none => none
theorem ke_lst {es : List Expr} {c : CA} {pos : Pos} (ha : PA X es (aOf cc c)) : PE X (.List es pos) (eOf cc (cLst c)) := pe_imp (pe_lst ha) fun σ H Q q => by
  obtain ⟨η, h, s, rs, hr, v, h', e, k⟩ := q
  unfold cLst at e
  split at e
  · rename_i vs h1 e1
    split at e
    · rename_i hz
      cases e
      refine ⟨η, h, s, rs, hr, _, _, e1, fun η1 H1 xs S1 R1 rx => ⟨by rw [← rx.length]; exact small hz, fun p hp => ?_⟩⟩
      exact kn_lst R1 rx (fun η4 H4 z S4 R4 rz => k η4 H4 z (Stp.trans S1 R1 S4) R4 rz) hp
    · cases e
  · cases e
theorem ke_tup {es : List Expr} {c : CA} {x1} {pos : Pos} (ha : PA X es (aOf cc c)) : PE X (.Tuple es x1 pos) (eOf cc (cTup c)) := pe_imp (pe_tup ha) fun σ H Q q => by
  obtain ⟨η, h, s, rs, hr, v, h', e, k⟩ := q
  unfold cTup at e
  split at e
  · rename_i vs h1 e1
    split at e
    · rename_i hz
      cases e
      refine ⟨η, h, s, rs, hr, _, _, e1, fun η1 H1 xs S1 R1 rx => ⟨by rw [← rx.length]; exact small hz, fun p hp => ?_⟩⟩
      exact kn_tup R1 rx (fun η4 H4 z S4 R4 rz => k η4 H4 z (Stp.trans S1 R1 S4) R4 rz) hp
    · cases e
  · cases e
theorem ke_ix {a b : Expr} {ca cb : CE} {pos : Pos} (ha : PE X a (eOf cc ca)) (hb : PE X b (eOf cc cb)) (hs : PlainIx b := by exact fun _ _ => rfl) : PE X (.Subscript a b pos) (eOf cc (cBin fIx ca cb)) := pe_imp (pe_ix ix_seq ha hb hs) fun _ _ _ q => op_of vIx q

/-! ### tests -/
/-- a value's truth -/
def tru : CV → CH → Option Bool
  | .non, _ => some false
  | .bl b, _ => some b
  | .int i, _ => some (i != 0)
  | .ref a, h => match h.get a with
    | some (.lst xs) => some (!xs.isEmpty)
    | some (.tup xs) => some (!xs.isEmpty)
    | _ => none
  | _, _ => none
def cTru (c : CE) : CT := fun s h => match c s h with
  | none => none
  | some (v, h1) => match tru v h1 with
    | none => none
    | some b => some (b, h1)
theorem isEmpty_pd {α β : Type} {F : α → β → Prop} {xs : List α} {ys : List β} (p : Paired F xs ys) : (!xs.isEmpty) = !ys.isEmpty := by
  cases p <;> rfl
theorem tru_of {K : PySem.W.Frag} {η : Em} {h : CH} {H : Hp} (hr : HR cc η h H) {v : CV} {x : V} {b : Bool} (r : RV η v x) (e : tru v h = some b) : TruV K x H b := by
  cases v with
  | non => cases (show x = .non from r); cases e; rfl
  | bl i => cases (show x = .bl i from r); cases e; rfl
  | int i => cases (show x = .int i from r); cases e; rfl
  | str i => cases e
  | ty i => cases e
  | key i => cases e
  | off i => cases e
  | opq => cases e
  | ref n =>
    obtain ⟨a, ea, rfl⟩ := r
    change (match h.get n with | some (.lst xs) => some (!xs.isEmpty) | some (.tup xs) => some (!xs.isEmpty) | _ => none) = some b at e
    split at e
    · rename_i xs e1
      cases e
      obtain ⟨ys, q1, p1⟩ := hr.lst e1 ea
      exact .inl ⟨ys, SqL.of q1, isEmpty_pd p1⟩
    · rename_i xs e1
      cases e
      obtain ⟨ys, q1, p1⟩ := hr.tup e1 ea
      exact .inr (.inl ⟨ys, SqT.of q1, isEmpty_pd p1⟩)
    · cases e
/-- a name, a call, a subscript, a field as a test -/
theorem kt_tru {a : Expr} {c : CE} (ha : PE X a (eOf cc c)) (he : ∀ whole, isTrue a X.env whole = (do let v ← whole; standAt a.pos; holding [v] (truthy v)) := by exact fun _ => rfl) : PT X a (bOf cc (cTru c)) := by
  refine pt_imp (pt_truth ha he) fun σ H Q q => ?_
  obtain ⟨η, h, s, rs, hr, v, h', e, k⟩ := q
  unfold cTru at e
  split at e
  · cases e
  · rename_i v1 h1 e1
    split at e
    · cases e
    · rename_i b eb
      cases e
      exact ⟨η, h, s, rs, hr, _, _, e1, fun η1 H1 x S1 R1 rx => ⟨_, tru_of R1 rx eb, k η1 H1 S1 R1⟩⟩
/-- a bool's value as a test -/
def cTst (c : CE) : CT := fun s h => match c s h with
  | some (.bl b, h1) => some (b, h1)
  | _ => none
theorem tst_of {c : CE} {t : TE} (i : ∀ σ H Q, eOf cc c σ H Q → t σ H Q) {σ : L2.St} {H : Hp} {Q : Bool → Hp → Prop} (q : bOf cc (cTst c) σ H Q) : tTest t σ H Q := by
  obtain ⟨η, h, s, rs, hr, v, h', e, k⟩ := q
  unfold cTst at e
  split at e
  · rename_i b h1 e1
    cases e
    exact i σ H _ ⟨η, h, s, rs, hr, _, _, e1, fun η1 H1 x S1 R1 rx => ⟨_, rx, k η1 H1 S1 R1⟩⟩
  · cases e
section
variable {a b : Expr} {ca cb : CE} {pos : Pos}
theorem kt_eq (ha : PE X a (eOf cc ca)) (hb : PE X b (eOf cc cb)) : PT X (.Compare a [.Eq] [b] pos) (bOf cc (cTst (cBin fEq ca cb))) := pt_imp (pt_cmpR op_eq ha hb (nomark _)) fun _ _ _ q => tst_of (fun _ _ _ z => op_of vEq z) q
theorem kt_ne (ha : PE X a (eOf cc ca)) (hb : PE X b (eOf cc cb)) : PT X (.Compare a [.NotEq] [b] pos) (bOf cc (cTst (cBin fNe ca cb))) := pt_imp (pt_cmpR op_ne ha hb (nomark _)) fun _ _ _ q => tst_of (fun _ _ _ z => op_of vNe z) q
theorem kt_lt (ha : PE X a (eOf cc ca)) (hb : PE X b (eOf cc cb)) : PT X (.Compare a [.Lt] [b] pos) (bOf cc (cTst (cBin fLt ca cb))) := pt_imp (pt_cmpR op_lt ha hb (nomark _)) fun _ _ _ q => tst_of (fun _ _ _ z => op_of vLt z) q
theorem kt_le (ha : PE X a (eOf cc ca)) (hb : PE X b (eOf cc cb)) : PT X (.Compare a [.LtE] [b] pos) (bOf cc (cTst (cBin fLe ca cb))) := pt_imp (pt_cmpR op_le ha hb (nomark _)) fun _ _ _ q => tst_of (fun _ _ _ z => op_of vLe z) q
theorem kt_gt (ha : PE X a (eOf cc ca)) (hb : PE X b (eOf cc cb)) : PT X (.Compare a [.Gt] [b] pos) (bOf cc (cTst (cBin fGt ca cb))) := pt_imp (pt_cmpR op_gt ha hb (nomark _)) fun _ _ _ q => tst_of (fun _ _ _ z => op_of vGt z) q
theorem kt_ge (ha : PE X a (eOf cc ca)) (hb : PE X b (eOf cc cb)) : PT X (.Compare a [.GtE] [b] pos) (bOf cc (cTst (cBin fGe ca cb))) := pt_imp (pt_cmpR op_ge ha hb (nomark _)) fun _ _ _ q => tst_of (fun _ _ _ z => op_of vGe z) q
theorem kt_isN (ha : PE X a (eOf cc ca)) (hb : PE X b (eOf cc cb)) : PT X (.Compare a [.Is] [b] pos) (bOf cc (cTst (cBin fIsN ca cb))) := pt_imp (pt_cmpR op_isN ha hb (nomark _)) fun _ _ _ q => tst_of (fun _ _ _ z => op_of vIsN z) q
theorem kt_notN (ha : PE X a (eOf cc ca)) (hb : PE X b (eOf cc cb)) : PT X (.Compare a [.IsNot] [b] pos) (bOf cc (cTst (cBin fNotN ca cb))) := pt_imp (pt_cmpR op_notN ha hb (nomark _)) fun _ _ _ q => tst_of (fun _ _ _ z => op_of vNotN z) q
theorem kt_in (ha : PE X a (eOf cc ca)) (hb : PE X b (eOf cc cb)) (hm : behindInMarks .In b = false := by with_unfolding_all rfl) : PT X (.Compare a [.In] [b] pos) (bOf cc (cTst (cBin (fIn false) ca cb))) := pt_imp (pt_cmpR op_in_seq ha hb hm) fun _ _ _ q => tst_of (fun _ _ _ z => op_of (vIn false) z) q
theorem kt_notIn (ha : PE X a (eOf cc ca)) (hb : PE X b (eOf cc cb)) (hm : behindInMarks .NotIn b = false := by with_unfolding_all rfl) : PT X (.Compare a [.NotIn] [b] pos) (bOf cc (cTst (cBin (fIn true) ca cb))) := pt_imp (pt_cmpR op_notIn_seq ha hb hm) fun _ _ _ q => tst_of (fun _ _ _ z => op_of (vIn true) z) q
end
end CK

/-! CK: chains, and, or, not, if-expressions; calls. -/
namespace CK
open PySem L2
variable {X : Cx} {cc : Nat → Addr}

def cChain (f g : CV → CV → CH → Option (CV × CH)) (a b c : CE) : CE := fun s h =>
  match a s h with
  | none => none
  | some (v, h1) => match b s h1 with
    | none => none
    | some (u, h2) => match f v u h2 with
      | some (.bl true, h3) => (match c s h3 with
        | none => none
        | some (w, h4) => g u w h4)
      | some (.bl false, h3) => some (.bl false, h3)
      | _ => none
theorem chain_of {f g : CV → CV → CH → Option (CV × CH)} {r r' : R2} (hf : VOp cc f r) (hg : VOp cc g r') {a b c : CE} {σ : L2.St} {H : Hp} {Q : VK} (q : eOf cc (cChain f g a b c) σ H Q) : tChain r r' (eOf cc a) (eOf cc b) (eOf cc c) σ H Q := by
  obtain ⟨η, h, s, rs, hr, w, h', e, k⟩ := q
  unfold cChain at e
  split at e
  · cases e
  · rename_i v h1 e1
    split at e
    · cases e
    · rename_i u h2 e2
      refine ⟨η, h, s, rs, hr, v, h1, e1, fun η1 H1 x S1 R1 rx => ⟨η1, h1, s, RS.mono S1.le rs, R1, u, h2, e2, fun η2 H2 y S2 R2 ry => ?_⟩⟩
      split at e
      · rename_i h3 e3
        split at e
        · cases e
        · rename_i z h4 e4
          refine hf R2 (RV.mono S2.le rx) ry e3 fun η3 H3 z3 S3 R3 rz => ⟨true, rz, ?_⟩
          refine iteT ?_
          refine ⟨η3, h3, s, RS.mono S3.le (RS.mono S2.le (RS.mono S1.le rs)), R3, _, _, e4, fun η4 H4 z4 S4 R4 rz4 => ?_⟩
          exact hg R4 (RV.mono S4.le (RV.mono S3.le ry)) rz4 e fun η5 H5 z5 S5 R5 rz5 => k η5 H5 z5 (Stp.trans (Stp.trans (Stp.trans (Stp.trans S1 R1 S2) R2 S3) R3 S4) R4 S5) R5 rz5
      · rename_i h3 e3
        cases e
        refine hf R2 (RV.mono S2.le rx) ry e3 fun η3 H3 z3 S3 R3 rz => ⟨false, rz, ?_⟩
        refine iteF ?_
        exact k η3 H3 _ (Stp.trans (Stp.trans S1 R1 S2) R2 S3) R3 rfl
      · cases e
section
variable {a b c : Expr} {ca cb c3 : CE} {pos : Pos} {op op' : CmpOp}
/-- the comparisons that a chain may hold -/
structure Cmp (cc : Nat → Addr) (X : Cx) (op : CmpOp) (f : CV → CV → CH → Option (CV × CH)) : Prop where
  ex : ∃ r, OpR X (compareOp op) r ∧ VOp cc f r
theorem m_lt : Cmp cc X .Lt fLt := ⟨_, op_lt, vLt⟩
theorem m_le : Cmp cc X .LtE fLe := ⟨_, op_le, vLe⟩
theorem m_gt : Cmp cc X .Gt fGt := ⟨_, op_gt, vGt⟩
theorem m_ge : Cmp cc X .GtE fGe := ⟨_, op_ge, vGe⟩
theorem m_eq : Cmp cc X .Eq fEq := ⟨_, op_eq, vEq⟩
theorem m_ne : Cmp cc X .NotEq fNe := ⟨_, op_ne, vNe⟩
theorem ke_chain {f g : CV → CV → CH → Option (CV × CH)} (m : Cmp cc X op f) (m' : Cmp cc X op' g) (ha : PE X a (eOf cc ca)) (hb : PE X b (eOf cc cb)) (h3 : PE X c (eOf cc c3)) (hm : lastMarks [op, op'] [b, c] = false := by with_unfolding_all rfl) :
    PE X (.Compare a [op, op'] [b, c] pos) (eOf cc (cChain f g ca cb c3)) := by
  obtain ⟨r, o, v⟩ := m.ex
  obtain ⟨r', o', v'⟩ := m'.ex
  exact pe_imp (pe_chain o o' ha hb h3 hm) fun _ _ _ q => chain_of v v' q
theorem kt_chain {f g : CV → CV → CH → Option (CV × CH)} (m : Cmp cc X op f) (m' : Cmp cc X op' g) (ha : PE X a (eOf cc ca)) (hb : PE X b (eOf cc cb)) (h3 : PE X c (eOf cc c3)) (hm : lastMarks [op, op'] [b, c] = false := by with_unfolding_all rfl) :
    PT X (.Compare a [op, op'] [b, c] pos) (bOf cc (cTst (cChain f g ca cb c3))) := by
  obtain ⟨r, o, v⟩ := m.ex
  obtain ⟨r', o', v'⟩ := m'.ex
  exact pt_imp (pt_chain o o' ha hb h3 hm) fun _ _ _ q => tst_of (fun _ _ _ z => chain_of v v' z) q
end

/-! ### and, or, not -/
def cAnd (a b : CT) : CT := fun s h => match a s h with
  | some (true, h1) => b s h1
  | some (false, h1) => some (false, h1)
  | none => none
def cOr (a b : CT) : CT := fun s h => match a s h with
  | some (true, h1) => some (true, h1)
  | some (false, h1) => b s h1
  | none => none
def cNot (a : CT) : CT := fun s h => match a s h with
  | some (b, h1) => some (!b, h1)
  | none => none
def cAndV (a b : CE) : CE := fun s h => match a s h with
  | some (.bl true, h1) => b s h1
  | some (.bl false, h1) => some (.bl false, h1)
  | _ => none
def cOrV (a b : CE) : CE := fun s h => match a s h with
  | some (.bl true, h1) => some (.bl true, h1)
  | some (.bl false, h1) => b s h1
  | _ => none
def cNotV (a : CE) : CE := fun s h => match a s h with
  | some (.bl b, h1) => some (.bl (!b), h1)
  | _ => none
def cIfE (t : CT) (a b : CE) : CE := fun s h => match t s h with
  | some (true, h1) => a s h1
  | some (false, h1) => b s h1
  | none => none
section
variable {a b c : Expr} {rest : List Expr} {pos : Pos} {ta tb : CT} {ca cb : CE}
theorem kw_and1 (ha : PT X a (bOf cc ta)) : PW X (.BoolOp .And [a] pos) (bOf cc ta) := pw_and1 ha
theorem kw_or1 (ha : PT X a (bOf cc ta)) : PW X (.BoolOp .Or [a] pos) (bOf cc ta) := pw_or1 ha
theorem kw_and (ha : PT X a (bOf cc ta)) (hb : PW X (.BoolOp .And (b :: rest) pos) (bOf cc tb)) : PW X (.BoolOp .And (a :: b :: rest) pos) (bOf cc (cAnd ta tb)) := pw_imp (pw_and ha hb) fun σ H Q q => by
  obtain ⟨η, h, s, rs, hr, v, h', e, k⟩ := q
  unfold cAnd at e
  split at e
  · rename_i h1 e1
    refine ⟨η, h, s, rs, hr, _, _, e1, fun η1 H1 S1 R1 => ?_⟩
    refine iteT ?_
    exact ⟨η1, h1, s, RS.mono S1.le rs, R1, _, _, e, fun η2 H2 S2 R2 => k η2 H2 (Stp.trans S1 R1 S2) R2⟩
  · rename_i h1 e1
    cases e
    refine ⟨η, h, s, rs, hr, _, _, e1, fun η1 H1 S1 R1 => ?_⟩
    refine iteF ?_
    exact k η1 H1 S1 R1
  · cases e
theorem kw_or (ha : PT X a (bOf cc ta)) (hb : PW X (.BoolOp .Or (b :: rest) pos) (bOf cc tb)) : PW X (.BoolOp .Or (a :: b :: rest) pos) (bOf cc (cOr ta tb)) := pw_imp (pw_or ha hb) fun σ H Q q => by
  obtain ⟨η, h, s, rs, hr, v, h', e, k⟩ := q
  unfold cOr at e
  split at e
  · rename_i h1 e1
    cases e
    refine ⟨η, h, s, rs, hr, _, _, e1, fun η1 H1 S1 R1 => ?_⟩
    refine iteT ?_
    exact k η1 H1 S1 R1
  · rename_i h1 e1
    refine ⟨η, h, s, rs, hr, _, _, e1, fun η1 H1 S1 R1 => ?_⟩
    refine iteF ?_
    exact ⟨η1, h1, s, RS.mono S1.le rs, R1, _, _, e, fun η2 H2 S2 R2 => k η2 H2 (Stp.trans S1 R1 S2) R2⟩
  · cases e
theorem kt_not (ha : PT X a (bOf cc ta)) : PT X (.UnaryOp .Not a pos) (bOf cc (cNot ta)) := pt_imp (pt_not ha) fun σ H Q q => by
  obtain ⟨η, h, s, rs, hr, v, h', e, k⟩ := q
  unfold cNot at e
  split at e
  · rename_i b h1 e1
    cases e
    exact ⟨η, h, s, rs, hr, _, _, e1, fun η1 H1 S1 R1 => k η1 H1 S1 R1⟩
  · cases e
theorem ke_one {op} (ha : PE X a (eOf cc ca)) : PE X (.BoolOp op [a] pos) (eOf cc ca) := pe_one ha
theorem ke_and (ha : PE X a (eOf cc ca)) (hb : PE X (.BoolOp .And (b :: rest) pos) (eOf cc cb)) : PE X (.BoolOp .And (a :: b :: rest) pos) (eOf cc (cAndV ca cb)) := pe_imp (pe_and ha hb) fun σ H Q q => by
  obtain ⟨η, h, s, rs, hr, v, h', e, k⟩ := q
  unfold cAndV at e
  split at e
  · rename_i h1 e1
    refine ⟨η, h, s, rs, hr, _, _, e1, fun η1 H1 x S1 R1 rx => ⟨true, rx, ?_⟩⟩
    refine iteT ?_
    exact ⟨η1, h1, s, RS.mono S1.le rs, R1, _, _, e, fun η2 H2 z S2 R2 rz => k η2 H2 z (Stp.trans S1 R1 S2) R2 rz⟩
  · rename_i h1 e1
    cases e
    refine ⟨η, h, s, rs, hr, _, _, e1, fun η1 H1 x S1 R1 rx => ⟨false, rx, ?_⟩⟩
    refine iteF ?_
    exact k η1 H1 _ S1 R1 rfl
  · cases e
theorem ke_or (ha : PE X a (eOf cc ca)) (hb : PE X (.BoolOp .Or (b :: rest) pos) (eOf cc cb)) : PE X (.BoolOp .Or (a :: b :: rest) pos) (eOf cc (cOrV ca cb)) := pe_imp (pe_or ha hb) fun σ H Q q => by
  obtain ⟨η, h, s, rs, hr, v, h', e, k⟩ := q
  unfold cOrV at e
  split at e
  · rename_i h1 e1
    cases e
    refine ⟨η, h, s, rs, hr, _, _, e1, fun η1 H1 x S1 R1 rx => ⟨true, rx, ?_⟩⟩
    refine iteT ?_
    exact k η1 H1 _ S1 R1 rfl
  · rename_i h1 e1
    refine ⟨η, h, s, rs, hr, _, _, e1, fun η1 H1 x S1 R1 rx => ⟨false, rx, ?_⟩⟩
    refine iteF ?_
    exact ⟨η1, h1, s, RS.mono S1.le rs, R1, _, _, e, fun η2 H2 z S2 R2 rz => k η2 H2 z (Stp.trans S1 R1 S2) R2 rz⟩
  · cases e
theorem ke_not (ha : PE X a (eOf cc ca)) : PE X (.UnaryOp .Not a pos) (eOf cc (cNotV ca)) := pe_imp (pe_not ha) fun σ H Q q => by
  obtain ⟨η, h, s, rs, hr, v, h', e, k⟩ := q
  unfold cNotV at e
  split at e
  · rename_i b h1 e1
    cases e
    exact ⟨η, h, s, rs, hr, _, _, e1, fun η1 H1 x S1 R1 rx => ⟨b, rx, k η1 H1 _ S1 R1 rfl⟩⟩
  · cases e
theorem ke_if {ct : CT} (hc : PT X c (bOf cc ct)) (ha : PE X a (eOf cc ca)) (hb : PE X b (eOf cc cb)) : PE X (.IfExp c a b pos) (eOf cc (cIfE ct ca cb)) := pe_imp (pe_ifExp hc ha hb) fun σ H Q q => by
  obtain ⟨η, h, s, rs, hr, v, h', e, k⟩ := q
  unfold cIfE at e
  split at e
  · rename_i h1 e1
    refine ⟨η, h, s, rs, hr, _, _, e1, fun η1 H1 S1 R1 => ?_⟩
    refine iteT ?_
    exact ⟨η1, h1, s, RS.mono S1.le rs, R1, _, _, e, fun η2 H2 z S2 R2 rz => k η2 H2 z (Stp.trans S1 R1 S2) R2 rz⟩
  · rename_i h1 e1
    refine ⟨η, h, s, rs, hr, _, _, e1, fun η1 H1 S1 R1 => ?_⟩
    refine iteF ?_
    exact ⟨η1, h1, s, RS.mono S1.le rs, R1, _, _, e, fun η2 H2 z S2 R2 rz => k η2 H2 z (Stp.trans S1 R1 S2) R2 rz⟩
  · cases e
end

/-! ### calls -/
def cCb (f : List CV → CH → Option (CV × CH)) (a : CA) : CE := fun s h => match a s h with
  | none => none
  | some (vs, h1) => f vs h1
def VCall (cc : Nat → Addr) (f : List CV → CH → Option (CV × CH)) (r : List V → Hp → VK → Prop) : Prop :=
  ∀ {η : Em} {h : CH} {H : Hp} {vs : List CV} {xs : List V} {w : CV} {h' : CH} {Q : VK}, HR cc η h H → RVs η vs xs → f vs h = some (w, h') → Kn cc η H w h' Q → r xs H Q
theorem cb_of {f : List CV → CH → Option (CV × CH)} {r : List V → Hp → VK → Prop} (hf : VCall cc f r) {a : CA} {σ : L2.St} {H : Hp} {Q : VK} (q : eOf cc (cCb f a) σ H Q) : tCB r (aOf cc a) σ H Q := by
  obtain ⟨η, h, s, rs, hr, w, h', e, k⟩ := q
  unfold cCb at e
  split at e
  · cases e
  · rename_i vs h1 e1
    exact ⟨η, h, s, rs, hr, _, _, e1, fun η1 H1 xs S1 R1 rx => hf R1 rx e fun η2 H2 z S2 R2 rz => k η2 H2 z (Stp.trans S1 R1 S2) R2 rz⟩
theorem pd1 {α β : Type} {F : α → β → Prop} {x : α} {ys : List β} (p : Paired F [x] ys) : ∃ y, ys = [y] ∧ F x y := by
  cases p with
  | cons r t => cases t; exact ⟨_, rfl, r⟩
theorem pd2 {α β : Type} {F : α → β → Prop} {x x2 : α} {ys : List β} (p : Paired F [x, x2] ys) : ∃ y y2, ys = [y, y2] ∧ F x y ∧ F x2 y2 := by
  cases p with
  | cons r t =>
    obtain ⟨z, rfl, q⟩ := pd1 t
    exact ⟨_, _, rfl, r, q⟩
def fLen : List CV → CH → Option (CV × CH)
  | [.ref a], h => match h.get a with
    | some (.lst xs) => some (.int xs.length, h)
    | some (.tup xs) => some (.int xs.length, h)
    | _ => none
  | [.str x], h => if x.length ≤ 4000 then some (.int x.length, h) else none
  | _, _ => none
theorem vLen {K : PySem.W.Frag} : VCall cc fLen (fun xs H Q => ∃ x n, xs = [x] ∧ LenV K x H n ∧ Q (.int n) H) := by
  intro η h H vs xs w h' Q hr r e k
  unfold fLen at e
  split at e
  · obtain ⟨y, rfl, a, ea, rfl⟩ := pd1 r
    split at e
    · rename_i ys e1
      cases e
      obtain ⟨zs, q1, p1⟩ := hr.lst e1 ea
      exact ⟨_, zs.length, rfl, .inl ⟨zs, SqL.of q1, rfl⟩, by rw [← p1.length]; exact kn_same hr k rfl⟩
    · rename_i ys e1
      cases e
      obtain ⟨zs, q1, p1⟩ := hr.tup e1 ea
      exact ⟨_, zs.length, rfl, .inr ⟨zs, SqT.of q1, rfl⟩, by rw [← p1.length]; exact kn_same hr k rfl⟩
    · cases e
  · split at e
    · rename_i x hz
      cases e
      obtain ⟨y, rfl, q⟩ := pd1 r
      cases (show y = .str (Tx x) from q)
      exact ⟨_, x.length, rfl, ⟨by rw [Tx_len]; exact small hz, (Tx_len _).symm⟩, kn_same hr k rfl⟩
    · cases e
  · cases e
def fAbs : List CV → CH → Option (CV × CH)
  | [.int i], h => some (.int (if i < 0 then -i else i), h)
  | _, _ => none
theorem vAbs : VCall cc fAbs (fun xs H Q => ∃ i, xs = [.int i] ∧ Q (.int (if i < 0 then -i else i)) H) := by
  intro η h H vs xs w h' Q hr r e k
  unfold fAbs at e
  split at e
  · obtain ⟨y, rfl, q⟩ := pd1 r
    cases e
    exact ⟨_, by rw [show y = _ from q], kn_same hr k rfl⟩
  · cases e
def fIntOf : List CV → CH → Option (CV × CH)
  | [.int i], h => some (.int i, h)
  | [.bl b], h => some (.int (if b then 1 else 0), h)
  | _, _ => none
theorem vIntOf : VCall cc fIntOf (fun xs H Q => (∃ i, xs = [.int i] ∧ Q (.int i) H) ∨ ∃ k, xs = [.bl k] ∧ Q (.int (if k then 1 else 0)) H) := by
  intro η h H vs xs w h' Q hr r e k
  unfold fIntOf at e
  split at e
  · obtain ⟨y, rfl, q⟩ := pd1 r
    cases e
    exact .inl ⟨_, by rw [show y = _ from q], kn_same hr k rfl⟩
  · obtain ⟨y, rfl, q⟩ := pd1 r
    cases e
    exact .inr ⟨_, by rw [show y = _ from q], kn_same hr k rfl⟩
  · cases e
def fListOf : List CV → CH → Option (CV × CH)
  | [.ref a], h => match h.get a with
    | some (.lst xs) => some (.ref h.length, h.new (.lst xs))
    | some (.tup xs) => some (.ref h.length, h.new (.lst xs))
    | _ => none
  | _, _ => none
theorem vListOf {K : PySem.W.Frag} : VCall cc fListOf (fun xs H Q => ∃ p ys, xs = [.ref p] ∧ (SqL K H p ys ∨ SqT K H p ys) ∧ ∀ l, H l = none → Q (.ref l) (upd H l (.lst ys))) := by
  intro η h H vs xs w h' Q hr r e k
  unfold fListOf at e
  split at e
  · obtain ⟨y, rfl, a, ea, rfl⟩ := pd1 r
    split at e
    · rename_i ys e1
      cases e
      obtain ⟨zs, q1, p1⟩ := hr.lst e1 ea
      exact ⟨a, zs, rfl, .inl (SqL.of q1), fun l hl => kn_lst hr p1 k hl⟩
    · rename_i ys e1
      cases e
      obtain ⟨zs, q1, p1⟩ := hr.tup e1 ea
      exact ⟨a, zs, rfl, .inr (SqT.of q1), fun l hl => kn_lst hr p1 k hl⟩
    · cases e
  · cases e
section
variable {x : Str} {p pos : Pos} {e : Expr} {es : List Expr} {ca : CA} {id T : String}
theorem ke_len (hg : Gl X "len") (hm : X.mg "len" = none) (ha : PA X [e] (aOf cc ca)) (he : starEach [e] X.env = (false, eval e X.env) :: starEach [] X.env := by rfl) : PE X (.Call (.Name "len" p) [e] [] pos) (eOf cc (cCb fLen ca)) :=
  pe_imp (pe_callB call_len hg hm boot_len ha (he := he)) fun _ _ _ q => cb_of vLen q
theorem ke_abs (hg : Gl X "abs") (hm : X.mg "abs" = none) (ha : PA X [e] (aOf cc ca)) (he : starEach [e] X.env = (false, eval e X.env) :: starEach [] X.env := by rfl) : PE X (.Call (.Name "abs" p) [e] [] pos) (eOf cc (cCb fAbs ca)) :=
  pe_imp (pe_callB call_abs hg hm (by decide +kernel) ha (he := he)) fun _ _ _ q => cb_of vAbs q
theorem ke_intOf (hg : Gl X "int") (hm : X.mg "int" = none) (ha : PA X [e] (aOf cc ca)) (he : starEach [e] X.env = (false, eval e X.env) :: starEach [] X.env := by rfl) : PE X (.Call (.Name "int" p) [e] [] pos) (eOf cc (cCb fIntOf ca)) :=
  pe_imp (pe_callTy call_int1 hg hm (by decide +kernel) ha (he := he)) fun _ _ _ q => cb_of vIntOf q
theorem ke_listOf (hg : Gl X "list") (hm : X.mg "list" = none) (ha : PA X [e] (aOf cc ca)) (he : starEach [e] X.env = (false, eval e X.env) :: starEach [] X.env := by rfl) : PE X (.Call (.Name "list" p) [e] [] pos) (eOf cc (cCb fListOf ca)) :=
  pe_imp (pe_callTy call_list_of hg hm (by decide +kernel) ha (he := he)) fun _ _ _ q => cb_of vListOf q
/-- an own def that keeps a plain promise -/
theorem ke_call {k : Nat} {f : Addr} {fd : FuncData} {ps : List Str} {g : List CV → CH → Option (CV × CH)} (F : FnOk X.prog X.w X.K X.mg X.base CX0 k f fd ps (spOf cc g)) (hr : Room k X.A) (hg : Gl X x) (hm : X.mg x = some (.ref f)) (hk : PySem.W.keepIn X.K (.ref f) = true) (hb : Binds X.K fd ps [])
    (ha : PA X (e :: es) (aOf cc ca)) (hdb : (x == ("__debug__" : Str)) = false := by decide) (he : starEach (e :: es) X.env = (false, eval e X.env) :: starEach es X.env := by rfl) (hpl : (backTo pos (starEach es X.env)).any (·.1) = false := by rfl) :
    PE X (.Call (.Name x p) (e :: es) [] pos) (eOf cc (cCb g ca)) := by
  refine pe_imp (pe_call F hr hg hm hk hb .nil pass0 ha hdb he hpl) fun σ H Q q => ?_
  obtain ⟨η, h, s, rs, hr, w, h', e, k⟩ := q
  unfold cCb at e
  split at e
  · cases e
  · rename_i vs h1 e1
    refine ⟨η, h, s, rs, hr, _, _, e1, fun η1 H1 xs S1 R1 rx => ?_⟩
    show spOf cc g (xs ++ []) H1 Q E0
    rw [List.append_nil]
    exact ⟨η1, h1, vs, rx, R1, _, _, e, fun η2 H2 z S2 R2 rz => k η2 H2 z (Stp.trans S1 R1 S2) R2 rz⟩
end
end CK

/-! CK: enumerate of a text: the walk, by the library's Draws. -/
namespace CK
open PySem L2 PyProof.Rows

/-- the signs of a text, each in a new pair with its number -/
def Ites (x : Str) : It :=
  ⟨fun i _ => i < x.cps.size, fun i H v H' => ∃ T c, v = .ref T ∧ H T = none ∧ H' = upd H T (.tup [.int (i : Nat), .str ⟨#[c]⟩]) ∧ x.cps[i]? = some c, fun i _ => x.cps.size ≤ i⟩
theorem draws_str {prog : Program} {w : World} {A : Around} (hh : A.handled = none) (it : Addr) (x : Str) (t : Tok) :
    Draws prog w A it [it] x.cps.size (fun i v => ∃ c u, x.cps[i]? = some c ∧ v = .str ⟨#[c]⟩ u) (fun i h => h.IsStrIter it (strIterType x) x t i) := by
  unfold strIterType
  cases x.cps.all (· < 128)
  · exact Draws.strWide hh it x t
  · exact Draws.strAscii hh it x t
theorem turn_enumS {P : Program} {w : World} {K : PySem.W.Frag} {elts : List Expr} {kk : Nat} {tpos : Pos} (x : Str) (t : Tok) (e it : Addr) :
    Turn P w K (.Tuple elts kk tpos) (Ites x) [e, it] e (fun i h => (∃ old, IsEnum h e it ((i : Nat) : Int) old) ∧ h.IsStrIter it (strIterType x) x t i ∧ e ≠ it) where
  mem := by simp
  obj := fun i h st b hb => by
    obtain ⟨⟨old, he⟩, ⟨o, ho, hc, hd⟩, _⟩ := st
    have e' : b = e ∨ b = it := by simpa using hb
    rcases e' with z | z
    · rw [z]; exact ⟨_, he, fun v q => nomatch q⟩
    · rw [z]; exact ⟨o, ho, fun v q => by rw [hd] at q; cases q⟩
  keep := fun i h h' st k => by
    obtain ⟨⟨old, he⟩, ⟨o, ho, r⟩, hne⟩ := st
    exact ⟨⟨old, k e (by simp) _ he⟩, ⟨o, k it (by simp) o ho, r⟩, hne⟩
  item := by
    intro X hP hw hK hc i pins s σ H E I hf st hg
    subst hP hw hK
    obtain ⟨⟨old, he⟩, hit, hne⟩ := st
    have hg : i < x.cps.size := hg
    have hel : e < s.heap.objs.size := Heap.lt_size he
    have hil : it < s.heap.objs.size := by obtain ⟨_, q, _⟩ := hit; exact Heap.lt_size q
    have hh : X.A.in1.handled = none := I.ok.hd hc
    refine wpAny_pyNext_enum_itemD (draws_str hh it x t) he hit hg hne (by simpa using hne) fun y h' tk hy ho hit' hT hsz hk => ?_
    obtain ⟨c, u, hcx, rfl⟩ := hy
    refine ⟨_, rfl, wpAny_letOwnedTupleGo_enum (s := { s with heap := h', toks := tk + 1 }) ho fun h'' he' sb => ?_⟩
    have hT2 : h''.get? s.heap.objs.size = some { cls := .type "tuple", data := .seq #[.int i tk, .str ⟨#[c]⟩ u] } := (sb.2 _ (Nat.ne_of_gt hel)).trans hT
    have new : ObjOk X.prog X.w (upd H s.heap.objs.size (.tup [.int (i : Nat), .str ⟨#[c]⟩])) h'' s.heap.objs.size (.tup [.int (i : Nat), .str ⟨#[c]⟩]) :=
      ⟨by show 2 ≤ sizeLine; decide, [.int i tk, .str ⟨#[c]⟩ u], .cons ⟨_, rfl⟩ (.cons ⟨_, rfl⟩ .nil), ⟨_, hT2, rfl, _, rfl⟩⟩
    have I1 : Inv X pins σ (upd H s.heap.objs.size (.tup [.int (i : Nat), .str ⟨#[c]⟩])) { s with heap := h'', toks := tk + 1 } :=
      I.turnedNew (ch := [e, it]) (fun b ob hb q => (sb.2 b (fun z => hb (by simp [z]))).trans (hk b ob (fun z => hb (by simp [z])) (fun z => hb (by simp [z])) q)) hf (Nat.le_refl _) new
    refine ⟨.ref s.heap.objs.size, _, I1, rfl, ⟨_, c, rfl, I.hok.fresh (Nat.le_refl _), rfl, hcx⟩, ⟨⟨.str ⟨#[c]⟩ u, ?_⟩, ?_, hne⟩, fun b hb => ?_⟩
    · have e1 : ((i + 1 : Nat) : Int) = (i : Int) + 1 := by omega
      rw [e1]; exact he'
    · obtain ⟨o, hO, r⟩ := hit'
      exact ⟨o, (sb.2 it (Ne.symm hne)).trans hO, r⟩
    · have hb' : b < s.heap.objs.size := by
        have e' : b = e ∨ b = it := by simpa using hb
        rcases e' with z | z
        · rw [z]; exact hel
        · rw [z]; exact hil
      rw [upd_ne (Nat.ne_of_lt hb')]
      exact (hf b hb).1
  done := by
    intro X hP hw hK hc i pins s σ H E I hf st hg
    subst hP hw hK
    obtain ⟨⟨old, he⟩, hit, hne⟩ := st
    have hg : x.cps.size ≤ i := hg
    obtain ⟨f0, f1, f2, f3, f4, f5⟩ := hf it (by simp)
    have hh : X.A.in1.handled = none := I.ok.hd hc
    -- the walk never comes behind the end
    have hx : x.cps[i]? = none := Array.getElem?_eq_none hg
    have D : ∀ (s' : Shared) (Q : Value → Shared → Prop) (E : Value → Shared → Prop), s'.heap.IsStrIter it (strIterType x) x t i →
        (∀ h' e', Heap.ExtBut it s'.heap h' → (∃ o, h'.get? e' = some o ∧ o.cls = .type "StopIteration") → E (.ref e') { s' with heap := h' }) → wpAny (model X.prog X.w) X.A.in1 (Builtin.SmallTypes.nextOf (.ref it)) Q E s' := by
      intro s' Q E' st' hE
      unfold strIterType at st'
      cases ha : x.cps.all (· < 128)
      · rw [ha] at st'; exact wpAny_nextOf_wide_end hh st' hx hE
      · rw [ha] at st'; exact wpAny_nextOf_ascii_end hh st' hx hE
    have dr := draws_str (prog := X.prog) (w := X.w) hh it x t
    have dr' : Draws X.prog X.w X.A.in1 it [it] i (fun _ _ => False) (fun j h => j = i ∧ h.IsStrIter it (strIterType x) x t i) :=
      ⟨fun _ h st => dr.live _ h st.2, fun _ h h' st k => ⟨st.1, dr.frame _ h h' st.2 k⟩, fun j s' Q E' hj st' _ => absurd st'.1 (Nat.ne_of_lt hj), fun s' Q E' st' hE => D s' Q E' st'.2 hE⟩
    exact wpAny_pyNext_enum_endD dr' he ⟨rfl, hit⟩ fun h' eb => ⟨rfl, I.turned (t' := s.toks) (fun b o hb q => eb b o hb q) f0 f1 f3 f4 f5⟩
  self := fun A i s Q E st h => let ⟨⟨_, he⟩, _⟩ := st; wpAny_pyIter_enum he h
def iEnumS (ta : TA) : TI := fun σ H R => ta σ H fun vs H1 => ∃ x, vs = [.str x] ∧ R (Ites x) H1
theorem pi_enumS {X : Cx} {e : Expr} {ta : TA} {p pos tpos : Pos} {elts : List Expr} {kk : Nat} (hg : Gl X "enumerate") (hm : X.mg "enumerate" = none) (ha : PA X [e] ta) (hs : starEach [e] X.env = [(false, eval e X.env)] := by rfl) :
    PI X (.Tuple elts kk tpos) (.Call (.Name "enumerate" p) [e] [] pos) (iEnumS ta) := by
  refine ⟨fun pins s σ H R I h => ?_⟩
  refine Call_ (ld_blt I hg hm boot_enumerate (PyProof.Rows.callWith_type1 (thn (ha.run pos pins s σ H _ I h) fun us s1 ⟨vs, H1, I1, r1, q1⟩ => ?_) hs rfl))
  obtain ⟨x, ex, q⟩ := q1
  subst ex
  cases r1 with
  | cons r rr =>
    cases rr
    obtain ⟨t, rfl⟩ := r
    refine call_enumerate_str fun h' he hit hsz hk => wpAny_pyIter_enum he ?_
    have I2 : Inv X pins σ H1 { s1 with heap := h' } := I1.kept (t' := s1.toks) hk
    refine ⟨s1.heap.objs.size + 1, [s1.heap.objs.size + 1, s1.heap.objs.size], _, _, H1, rfl, I2, turn_enumS x t (s1.heap.objs.size + 1) s1.heap.objs.size, ⟨⟨.none, he⟩, hit, Nat.succ_ne_self _⟩, fun b hb => ?_, q⟩
    have e' : b = s1.heap.objs.size + 1 ∨ b = s1.heap.objs.size := by simpa using hb
    have hle : s1.heap.objs.size ≤ b := by
      rcases e' with z | z
      · rw [z]; exact Nat.le_add_right _ _
      · rw [z]; exact Nat.le_refl _
    exact I1.fpOk hle (I1.hok.fresh hle)
/-- a list or a text -/
theorem PI.or {X : Cx} {tg e : Expr} {t t' : TI} (h : PI X tg e t) (h' : PI X tg e t') : PI X tg e (fun σ H R => t σ H R ∨ t' σ H R) := ⟨fun pins s σ H R I q => q.elim (h.run pins s σ H R I) (h'.run pins s σ H R I)⟩
end CK

/-! CK: targets, statements. -/
namespace CK
open PySem L2
variable {X : Cx} {cc : Nat → Addr}

/-! ### targets -/
abbrev CG := CV → CS → CH → Option (CS × CH)
abbrev CGs := List CV → CS → CH → Option (CS × CH)
def gOf (cc : Nat → Addr) (c : CG) : TG := fun v σ H Q => ∃ η h s u, RV η u v ∧ RS η s σ ∧ HR cc η h H ∧ ∃ s' h', c u s h = some (s', h') ∧ ∀ η' H' σ', Stp η H η' H' → HR cc η' h' H' → RS η' s' σ' → Q σ' H'
def gsOf (cc : Nat → Addr) (c : CGs) : TGs := fun v σ H Q => ∃ η h s u, RVs η u v ∧ RS η s σ ∧ HR cc η h H ∧ ∃ s' h', c u s h = some (s', h') ∧ ∀ η' H' σ', Stp η H η' H' → HR cc η' h' H' → RS η' s' σ' → Q σ' H'
theorem pgs_imp {e : List Expr} {t t' : TGs} (h : PGs X e t) (i : ∀ v σ H Q, t' v σ H Q → t v σ H Q) : PGs X e t' := ⟨fun pins s σ H v u Q I r q => h.run pins s σ H v u Q I r (i _ _ _ _ q)⟩
def cgN (i : Nat) : CG := fun v s h => some (s.set i (some v), h)
def cgNil : CGs := fun vs s h => match vs with | [] => some (s, h) | _ => none
def cgCons (g : CG) (r : CGs) : CGs := fun vs s h => match vs with
  | v :: vr => (match g v s h with
    | some (s1, h1) => r vr s1 h1
    | none => none)
  | [] => none
def cgTup (n : Nat) (g : CGs) : CG := fun v s h => match v with
  | .ref a => (match h.get a with
    | some (.tup xs) => if xs.length = n then g xs s h else none
    | _ => none)
  | _ => none
def cgIx (o i : CE) : CG := fun v s h => match o s h with
  | some (.ref a, h1) => (match i s h1 with
    | some (.int k, h2) => (match h2.get a with
      | some (.lst xs) => (match ixN xs.length k with
        | some j => some (s, h2.set a (.lst (xs.set j v)))
        | none => none)
      | _ => none)
    | _ => none)
  | _ => none
theorem name_of {i : Nat} {v : V} {σ : L2.St} {H : Hp} {Q : L2.St → Hp → Prop} (q : gOf cc (cgN i) v σ H Q) : gName i v σ H Q := by
  obtain ⟨η, h, s, u, rv, rs, hr, s', h', e, k⟩ := q
  cases e
  exact k η H _ (Stp.refl _ _) hr (rs.set i rv)
section
variable {pos : Pos}
theorem kg_name {i : Nat} {x : Str} (hN : X.N.Nodup) (hi : X.N[i]? = some x) (hx : Loc X.env.scope x) (hf : X.fn x = true ∨ X.env.scope.names.lookup x = some .local := by first | exact .inl rfl | exact .inr rfl | assumption) : PG X (.Name x pos) (gOf cc (cgN i)) :=
  pg_imp (pg_name hN hi hx hf) fun _ _ _ _ q => name_of q
theorem kgs_nil : PGs X [] (gsOf cc cgNil) := pgs_imp pgs_nil fun v σ H Q q => by
  obtain ⟨η, h, s, u, rv, rs, hr, s', h', e, k⟩ := q
  unfold cgNil at e
  split at e
  · cases e
    cases rv
    exact ⟨rfl, k η H σ (Stp.refl _ _) hr rs⟩
  · cases e
theorem kgs_cons {e : Expr} {es : List Expr} {g : CG} {r : CGs} (h1 : PG X e (gOf cc g)) (h2 : PGs X es (gsOf cc r))
    (hs : (assignEach (e :: es) X.env).map (·.2) = assign e X.env :: (assignEach es X.env).map (·.2) := by rfl) : PGs X (e :: es) (gsOf cc (cgCons g r)) := pgs_imp (pgs_cons h1 h2 hs) fun v σ H Q q => by
  obtain ⟨η, h, s, u, rv, rs, hr, s', h', e, k⟩ := q
  unfold cgCons at e
  split at e
  · rename_i v1 vr
    split at e
    · rename_i s1 h1 e1
      cases rv with
      | cons r1 rr =>
        exact ⟨_, _, rfl, η, h, s, _, r1, rs, hr, s1, h1, e1, fun η1 H1 σ1 S1 R1 rs1 => ⟨η1, h1, s1, _, RVs.mono S1.le rr, rs1, R1, s', h', e, fun η2 H2 σ2 S2 R2 rs2 => k η2 H2 σ2 (Stp.trans S1 R1 S2) R2 rs2⟩⟩
    · cases e
  · cases e
theorem kg_tup {es : List Expr} {k : Nat} {g : CGs} {n : Nat} (hc : X.calm = true) (h : PGs X es (gsOf cc g))
    (hn : (assignEach es X.env).length = n := by rfl) (hst : (assignEach es X.env).findIdx? (·.1) = none := by rfl) : PG X (.Tuple es k pos) (gOf cc (cgTup n g)) := pg_imp (pg_tup hc h hn hst) fun v σ H Q q => by
  obtain ⟨η, h, s, u, rv, rs, hr, s', h', e, k⟩ := q
  unfold cgTup at e
  split at e
  · rename_i a
    obtain ⟨b, eb, rfl⟩ := rv
    split at e
    · rename_i xs e1
      split at e
      · rename_i hl
        obtain ⟨ys, q1, p1⟩ := hr.tup e1 eb
        exact ⟨b, ys, rfl, SqT.of q1, by rw [← p1.length]; exact hl, η, h, s, xs, p1, rs, hr, s', h', e, k⟩
      · cases e
    · cases e
  · cases e
theorem ixset_pd {η : Em} {xs : List CV} {ys : List V} (p : RVs η xs ys) {u : CV} {y : V} (r : RV η u y) (j : Nat) : RVs η (xs.set j u) (ys.set j y) := Pd.set r j p
theorem kg_ix {o i : Expr} {co ci : CE} (ho : PE X o (eOf cc co)) (hi : PE X i (eOf cc ci))
    (ha : ∀ v, assign (.Subscript o i pos) X.env v = (do
      let ov ← holding [v] (eval o X.env)
      let iv ← holding [v, ov] (eval i X.env)
      standAt pos
      holding [v, ov, iv] (setItem ov iv v)
      release [v, ov, iv] []) := by intro _; rfl) : PG X (.Subscript o i pos) (gOf cc (cgIx co ci)) := pg_imp (pg_sub ho hi set_list ha) fun v σ H Q q => by
  obtain ⟨η, h, s, u, rv, rs, hr, s', h', e, k⟩ := q
  unfold cgIx at e
  split at e
  · rename_i a h1 e1
    split at e
    · rename_i kk h2 e2
      split at e
      · rename_i xs e3
        split at e
        · rename_i j ej
          cases e
          refine ⟨η, h, s, rs, hr, _, _, e1, fun η1 H1 x S1 R1 rx => ⟨η1, h1, s, RS.mono S1.le rs, R1, _, _, e2, fun η2 H2 y S2 R2 ry => ?_⟩⟩
          obtain ⟨b, eb, rfl⟩ := RV.mono S2.le rx
          obtain ⟨ys, q1, p1⟩ := R2.lst e3 eb
          refine ⟨b, ys, kk, j, rfl, ry, q1, by rw [← p1.length]; exact ej, ?_⟩
          obtain ⟨R3, S3⟩ := R2.put (o := .lst (xs.set j u)) (O := .lst (ys.set j v)) eb ⟨_, rfl, Pd.set (RV.mono (S1.le.trans S2.le) rv) j p1⟩
          exact k η2 _ σ (Stp.trans (Stp.trans S1 R1 S2) R2 S3) R3 (RS.mono (S1.le.trans S2.le) rs)
        · cases e
      · cases e
    · cases e
  · cases e
end

/-! ### statements -/
def cSkip : CP := fun s h => some (.nx, s, h)
def cSeq (a b : CP) : CP := fun s h => match a s h with
  | some (.nx, s1, h1) => b s1 h1
  | r => r
def cNever : CP := fun _ _ => none
def cRet (e : CE) : CP := fun s h => match e s h with
  | some (v, h1) => some (.rt v, s, h1)
  | none => none
def cRetN : CP := fun s h => some (.rt .non, s, h)
def cDrop (e : CE) : CP := fun s h => match e s h with
  | some (_, h1) => some (.nx, s, h1)
  | none => none
def cIf (t : CT) (a b : CP) : CP := fun s h => match t s h with
  | some (true, h1) => a s h1
  | some (false, h1) => b s h1
  | none => none
def cAsg (e : CE) (g : CG) : CP := fun s h => match e s h with
  | some (v, h1) => (match g v s h1 with
    | some (s2, h2) => some (.nx, s2, h2)
    | none => none)
  | none => none
section
variable {pos : Pos}
theorem kss_nil : PSs X [] (sOf cc cSkip) := pss_imp pss_nil fun D σ H q => by
  obtain ⟨η, h, s, rs, hr, fl, s', h', e, k⟩ := q
  cases e
  exact k η H σ (Stp.refl _ _) hr rs
theorem kss_one {st : Stmt} {c : CP} (h1 : PS X st (sOf cc c)) : PSs X [st] (sOf cc c) := pss_one h1
theorem post_nx {D : Ends} {R : L2.St → Hp → Prop} {η : Em} {fl : Fl} {σ : L2.St} {H : Hp} (hn : fl ≠ .nx) (p : Post D η fl σ H) : Post { D with nx := R } η fl σ H := by
  cases fl with
  | nx => exact absurd rfl hn
  | rt v => exact p
  | bk => exact p
  | ct => exact p
theorem seq_of {a b : CP} {D : Ends} {σ : L2.St} {H : Hp} (q : sOf cc (cSeq a b) D σ H) : tSeq (sOf cc a) (sOf cc b) D σ H := by
  obtain ⟨η, h, s, rs, hr, fl, s', h', e, k⟩ := q
  unfold cSeq at e
  split at e
  · rename_i s1 h1 e1
    exact ⟨η, h, s, rs, hr, .nx, s1, h1, e1, fun η1 H1 σ1 S1 R1 rs1 => ⟨η1, h1, s1, rs1, R1, fl, s', h', e, fun η2 H2 σ2 S2 R2 rs2 => k η2 H2 σ2 (Stp.trans S1 R1 S2) R2 rs2⟩⟩
  · rename_i hn
    refine ⟨η, h, s, rs, hr, fl, s', h', e, fun η1 H1 σ1 S1 R1 rs1 => post_nx (fun z => ?_) (k η1 H1 σ1 S1 R1 rs1)⟩
    subst z
    exact hn _ _ e
theorem kss_cons {st : Stmt} {rest : List Stmt} {a b : CP} (h1 : PS X st (sOf cc a)) (h2 : PSs X rest (sOf cc b)) : PSs X (st :: rest) (sOf cc (cSeq a b)) := pss_imp (pss_cons h1 h2) fun _ _ _ q => seq_of q
theorem ks_never {st : Stmt} : PS X st (sOf cc cNever) := ps_imp ps_never fun D σ H q => by
  obtain ⟨η, h, s, rs, hr, fl, s', h', e, k⟩ := q
  cases e
theorem kss_never {sts : List Stmt} : PSs X sts (sOf cc cNever) := pss_imp pss_never fun D σ H q => by
  obtain ⟨η, h, s, rs, hr, fl, s', h', e, k⟩ := q
  cases e
theorem ks_pass : PS X (.Pass pos) (sOf cc cSkip) := ps_imp ps_pass fun D σ H q => by
  obtain ⟨η, h, s, rs, hr, fl, s', h', e, k⟩ := q
  cases e
  exact k η H σ (Stp.refl _ _) hr rs
theorem ks_ret {e : Expr} {c : CE} (he : PE X e (eOf cc c)) : PS X (.Return (some e) pos) (sOf cc (cRet c)) := ps_imp (ps_ret he) fun D σ H q => by
  obtain ⟨η, h, s, rs, hr, fl, s', h', e, k⟩ := q
  unfold cRet at e
  split at e
  · rename_i v h1 e1
    cases e
    exact ⟨η, h, s, rs, hr, _, _, e1, fun η1 H1 x S1 R1 rx => k η1 H1 σ S1 R1 (RS.mono S1.le rs) x rx⟩
  · cases e
theorem ks_retN : PS X (.Return none pos) (sOf cc cRetN) := ps_imp ps_retN fun D σ H q => by
  obtain ⟨η, h, s, rs, hr, fl, s', h', e, k⟩ := q
  cases e
  exact k η H σ (Stp.refl _ _) hr rs _ rfl
theorem ks_expr {e : Expr} {c : CE} (he : PE X e (eOf cc c)) (hs : swapsWith e none pos.line X.env = pure false := by rfl) : PS X (.Expr e pos) (sOf cc (cDrop c)) := ps_imp (ps_expr he hs) fun D σ H q => by
  obtain ⟨η, h, s, rs, hr, fl, s', h', e, k⟩ := q
  unfold cDrop at e
  split at e
  · rename_i v h1 e1
    cases e
    exact ⟨η, h, s, rs, hr, v, h', e1, fun η1 H1 x S1 R1 rx => k η1 H1 σ S1 R1 (RS.mono S1.le rs)⟩
  · cases e
theorem ks_if {c : Expr} {a b : List Stmt} {ct : CT} {ca cb : CP} (hc : PT X c (bOf cc ct)) (ha : PSs X a (sOf cc ca)) (hb : PSs X b (sOf cc cb)) : PS X (.If c a b pos) (sOf cc (cIf ct ca cb)) := ps_imp (ps_if hc ha hb) fun D σ H q => by
  obtain ⟨η, h, s, rs, hr, fl, s', h', e, k⟩ := q
  unfold cIf at e
  split at e
  · rename_i h1 e1
    refine ⟨η, h, s, rs, hr, _, _, e1, fun η1 H1 S1 R1 => iteT ?_⟩
    exact ⟨η1, h1, s, RS.mono S1.le rs, R1, fl, s', h', e, fun η2 H2 σ2 S2 R2 rs2 => k η2 H2 σ2 (Stp.trans S1 R1 S2) R2 rs2⟩
  · rename_i h1 e1
    refine ⟨η, h, s, rs, hr, _, _, e1, fun η1 H1 S1 R1 => iteF ?_⟩
    exact ⟨η1, h1, s, RS.mono S1.le rs, R1, fl, s', h', e, fun η2 H2 σ2 S2 R2 rs2 => k η2 H2 σ2 (Stp.trans S1 R1 S2) R2 rs2⟩
  · cases e
theorem asg_of {c : CE} {g : CG} {D : Ends} {σ : L2.St} {H : Hp} (q : sOf cc (cAsg c g) D σ H) : tAsg (eOf cc c) (gOf cc g) D σ H := by
  obtain ⟨η, h, s, rs, hr, fl, s', h', e, k⟩ := q
  unfold cAsg at e
  split at e
  · rename_i v h1 e1
    split at e
    · rename_i s2 h2 e2
      cases e
      exact ⟨η, h, s, rs, hr, v, h1, e1, fun η1 H1 x S1 R1 rx => ⟨η1, h1, s, v, rx, RS.mono S1.le rs, R1, _, _, e2, fun η2 H2 σ2 S2 R2 rs2 => k η2 H2 σ2 (Stp.trans S1 R1 S2) R2 rs2⟩⟩
    · cases e
  · cases e
theorem ks_asg {tg e : Expr} {c : CE} {g : CG} (he : PE X e (eOf cc c)) (hg : PG X tg (gOf cc g)) (hs : swapsWithSole [tg] e pos.line X.env = pure false := by rfl) (hw : swappedStores [tg] e X.env = pure none := by rfl)
    (h1 : (assignEach [tg] X.env).map (·.2) = [assign tg X.env] := by rfl) : PS X (.Assign [tg] e pos) (sOf cc (cAsg c g)) := ps_imp (ps_asg he hg hs hw h1) fun _ _ _ q => asg_of q
theorem ks_set {i : Nat} {x : Str} {e : Expr} {c : CE} {pos' : Pos} (hN : X.N.Nodup) (hi : X.N[i]? = some x) (hx : Loc X.env.scope x) (he : PE X e (eOf cc c)) (hs : swapsWith e (some (.Name x pos')) pos.line X.env = pure false := by rfl) (hf : X.fn x = true ∨ X.env.scope.names.lookup x = some .local := by first | exact .inl rfl | exact .inr rfl | assumption) :
    PS X (.Assign [.Name x pos'] e pos) (sOf cc (cAsg c (cgN i))) := ps_imp (ps_set hN hi hx he hs hf) fun D σ H q => by
  have q := asg_of q
  obtain ⟨η, h, s, rs, hr, v, h1, e1, k⟩ := q
  exact ⟨η, h, s, rs, hr, v, h1, e1, fun η1 H1 x S1 R1 rx => name_of (k η1 H1 x S1 R1 rx)⟩
end
end CK

/-! CK: loops. -/
namespace CK
open PySem L2
variable {X : Cx} {cc : Nat → Addr}

/-- what a loop walks -/
inductive CIt where
  | rng (lo : Int) (n : Nat) | lst (a : Nat) | tup (a : Nat) | enu (a : Nat) | enuS (x : List Nat) | zip (a b : Nat) | sgn (x : List Nat)
/-- the i-th turn: none (nothing is known), no more, an item -/
def cnext : CIt → Nat → CH → Option (Option (CV × CH))
  | .rng lo n, i, h => if i < n then some (some (.int (lo + i), h)) else some none
  | .lst a, i, h => match h.get a with
    | some (.lst xs) => (match xs[i]? with | some x => some (some (x, h)) | none => some none)
    | _ => none
  | .tup a, i, h => match h.get a with
    | some (.tup xs) => (match xs[i]? with | some x => some (some (x, h)) | none => some none)
    | _ => none
  | .enu a, i, h => match h.get a with
    | some (.lst xs) => (match xs[i]? with | some x => some (some (.ref h.length, h.new (.tup [.int i, x]))) | none => some none)
    | _ => none
  | .enuS x, i, h => match x[i]? with | some c => some (some (.ref h.length, h.new (.tup [.int i, .str [c]]))) | none => some none
  | .zip a b, i, h => match h.get a, h.get b with
    | some (.lst xs), some (.lst ys) => (match xs[i]?, ys[i]? with | some x, some y => some (some (.ref h.length, h.new (.tup [x, y]))) | _, _ => some none)
    | _, _ => none
  | .sgn x, i, h => match x[i]? with | some c => some (some (.str [c], h)) | none => some none
/-- the walk of the hand layer that stands for it -/
inductive JR (K : PySem.W.Frag) (η : Em) : CIt → It → Prop where
  | rng (lo : Int) (n : Nat) : JR K η (.rng lo n) (Itr lo n)
  | lst {a : Nat} {p : Addr} : η.as[a]? = some p → JR K η (.lst a) (Itl K p)
  | tup {a : Nat} {p : Addr} : η.as[a]? = some p → JR K η (.tup a) (Itt K p)
  | enu {a : Nat} {p : Addr} : η.as[a]? = some p → JR K η (.enu a) (Ite K p)
  | enuS (x : List Nat) : JR K η (.enuS x) (Ites (Tx x))
  | zip {a b : Nat} {p q : Addr} : η.as[a]? = some p → η.as[b]? = some q → JR K η (.zip a b) (Itz K p q)
  | sgn (x : List Nat) : JR K η (.sgn x) (Its (Tx x))
theorem JR.mono {K : PySem.W.Frag} {η η' : Em} (l : Le η η') {c : CIt} {J : It} (j : JR K η c J) : JR K η' c J := by
  cases j with
  | rng lo n => exact .rng lo n
  | lst e => exact .lst (l.get e)
  | tup e => exact .tup (l.get e)
  | enu e => exact .enu (l.get e)
  | enuS x => exact .enuS x
  | zip e f => exact .zip (l.get e) (l.get f)
  | sgn x => exact .sgn x
theorem pd_none {α β : Type} {F : α → β → Prop} {xs : List α} {ys : List β} (p : Paired F xs ys) {i : Nat} (e : xs[i]? = none) : ys.length ≤ i := by
  rw [← p.length]
  exact List.getElem?_eq_none_iff.mp e
theorem Tx_get (x : List Nat) (i : Nat) : (Tx x).cps[i]? = x[i]? := by simp [Tx]
theorem Tx_size (x : List Nat) : (Tx x).cps.size = x.length := by simp [Tx]
theorem next_stop {K : PySem.W.Frag} {η : Em} {h : CH} {H : Hp} (hr : HR cc η h H) {c : CIt} {J : It} (j : JR K η c J) {i : Nat} (e : cnext c i h = some none) : J.stop i H := by
  cases j with
  | rng lo n =>
    simp only [cnext] at e
    split at e
    · cases e
    · rename_i hn; exact Nat.le_of_not_lt hn
  | lst ea =>
    simp only [cnext] at e
    split at e
    · rename_i xs e1
      obtain ⟨ys, q1, p1⟩ := hr.lst e1 ea
      split at e
      · cases e
      · rename_i en; exact ⟨ys, SqL.of q1, pd_none p1 en⟩
    · cases e
  | tup ea =>
    simp only [cnext] at e
    split at e
    · rename_i xs e1
      obtain ⟨ys, q1, p1⟩ := hr.tup e1 ea
      split at e
      · cases e
      · rename_i en; exact ⟨ys, SqT.of q1, pd_none p1 en⟩
    · cases e
  | enu ea =>
    simp only [cnext] at e
    split at e
    · rename_i xs e1
      obtain ⟨ys, q1, p1⟩ := hr.lst e1 ea
      split at e
      · cases e
      · rename_i en; exact ⟨ys, SqL.of q1, pd_none p1 en⟩
    · cases e
  | enuS x =>
    simp only [cnext] at e
    split at e
    · cases e
    · rename_i en
      show (Tx x).cps.size ≤ i
      rw [Tx_size]; exact List.getElem?_eq_none_iff.mp en
  | zip ea eb =>
    simp only [cnext] at e
    split at e
    · rename_i xs ys e1 e2
      obtain ⟨xs', q1, p1⟩ := hr.lst e1 ea
      obtain ⟨ys', q2, p2⟩ := hr.lst e2 eb
      split at e
      · cases e
      · rename_i en
        refine ⟨xs', ys', SqL.of q1, SqL.of q2, ?_⟩
        cases z1 : xs[i]? with
        | none => exact .inl (pd_none p1 z1)
        | some x =>
          cases z2 : ys[i]? with
          | none => exact .inr (pd_none p2 z2)
          | some y => exact absurd z2 (en x y z1)
    · cases e
  | sgn x =>
    simp only [cnext] at e
    split at e
    · cases e
    · rename_i en
      show (Tx x).cps.size ≤ i
      rw [Tx_size]; exact List.getElem?_eq_none_iff.mp en
theorem next_item {K : PySem.W.Frag} {η : Em} {h : CH} {H : Hp} (hr : HR cc η h H) {c : CIt} {J : It} (j : JR K η c J) {i : Nat} {x : CV} {h1 : CH} (e : cnext c i h = some (some (x, h1))) : J.go i H ∧
    ∀ v H', J.yld i H v H' → ∃ η', Stp η H η' H' ∧ HR cc η' h1 H' ∧ RV η' x v := by
  cases j with
  | rng lo n =>
    simp only [cnext] at e
    split at e
    · rename_i hn
      cases e
      refine ⟨hn, fun v H' y => ?_⟩
      obtain ⟨rfl, rfl⟩ := y
      exact ⟨η, Stp.refl _ _, hr, rfl⟩
    · cases e
  | lst ea =>
    simp only [cnext] at e
    split at e
    · rename_i xs e1
      obtain ⟨ys, q1, p1⟩ := hr.lst e1 ea
      split at e
      · rename_i z ez
        cases e
        obtain ⟨y, ey, ry⟩ := Pd.get p1 ez
        refine ⟨⟨ys, y, SqL.of q1, ey⟩, fun v H' w => ?_⟩
        obtain ⟨rfl, w⟩ := w
        have := w ys (SqL.of q1)
        rw [ey] at this
        cases this
        exact ⟨η, Stp.refl _ _, hr, ry⟩
      · cases e
    · cases e
  | tup ea =>
    simp only [cnext] at e
    split at e
    · rename_i xs e1
      obtain ⟨ys, q1, p1⟩ := hr.tup e1 ea
      split at e
      · rename_i z ez
        cases e
        obtain ⟨y, ey, ry⟩ := Pd.get p1 ez
        refine ⟨⟨ys, y, SqT.of q1, ey⟩, fun v H' w => ?_⟩
        obtain ⟨rfl, w⟩ := w
        have := w ys (SqT.of q1)
        rw [ey] at this
        cases this
        exact ⟨η, Stp.refl _ _, hr, ry⟩
      · cases e
    · cases e
  | enu ea =>
    simp only [cnext] at e
    split at e
    · rename_i xs e1
      obtain ⟨ys, q1, p1⟩ := hr.lst e1 ea
      split at e
      · rename_i z ez
        cases e
        obtain ⟨y, ey, ry⟩ := Pd.get p1 ez
        refine ⟨⟨ys, y, SqL.of q1, ey⟩, fun v H' w => ?_⟩
        obtain ⟨T, x', rfl, hT, rfl, w⟩ := w
        have := w ys (SqL.of q1)
        rw [ey] at this
        cases this
        obtain ⟨R2, S2⟩ := hr.new (o := .tup [.int i, z]) (O := .tup [.int (i : Nat), y]) ⟨_, rfl, .cons rfl (.cons ry .nil)⟩ hT
        exact ⟨_, S2, R2, T, Em.push_new η T hr.len, rfl⟩
      · cases e
    · cases e
  | enuS l =>
    simp only [cnext] at e
    split at e
    · rename_i z ez
      cases e
      refine ⟨?_, fun v H' w => ?_⟩
      · show i < (Tx l).cps.size
        rw [Tx_size]; exact (List.getElem?_eq_some_iff.mp ez).1
      · obtain ⟨T, c', rfl, hT, rfl, w⟩ := w
        rw [Tx_get, ez] at w
        cases w
        obtain ⟨R2, S2⟩ := hr.new (o := .tup [.int i, .str [z]]) (O := .tup [.int (i : Nat), .str ⟨#[z]⟩]) ⟨_, rfl, .cons rfl (.cons rfl .nil)⟩ hT
        exact ⟨_, S2, R2, T, Em.push_new η T hr.len, rfl⟩
    · cases e
  | zip ea eb =>
    simp only [cnext] at e
    split at e
    · rename_i xs ys e1 e2
      obtain ⟨xs', q1, p1⟩ := hr.lst e1 ea
      obtain ⟨ys', q2, p2⟩ := hr.lst e2 eb
      split at e
      · rename_i z z2 ez ez2
        cases e
        obtain ⟨y, ey, ry⟩ := Pd.get p1 ez
        obtain ⟨y2, ey2, ry2⟩ := Pd.get p2 ez2
        refine ⟨⟨xs', ys', y, y2, SqL.of q1, SqL.of q2, ey, ey2⟩, fun v H' w => ?_⟩
        obtain ⟨T, x', y', rfl, hT, rfl, w1, w2⟩ := w
        have w1 := w1 xs' (SqL.of q1)
        rw [ey] at w1
        cases w1
        have w2 := w2 ys' (SqL.of q2)
        rw [ey2] at w2
        cases w2
        obtain ⟨R2, S2⟩ := hr.new (o := .tup [z, z2]) (O := .tup [y, y2]) ⟨_, rfl, .cons ry (.cons ry2 .nil)⟩ hT
        exact ⟨_, S2, R2, T, Em.push_new η T hr.len, rfl⟩
      · cases e
    · cases e
  | sgn l =>
    simp only [cnext] at e
    split at e
    · rename_i z ez
      cases e
      refine ⟨?_, fun v H' w => ?_⟩
      · show i < (Tx l).cps.size
        rw [Tx_size]; exact (List.getElem?_eq_some_iff.mp ez).1
      · obtain ⟨rfl, c', w, rfl⟩ := w
        rw [Tx_get, ez] at w
        cases w
        exact ⟨η, Stp.refl _ _, hr, rfl⟩
    · cases e

/-! ### what is walked -/
abbrev CI := CS → CH → Option (CIt × CH)
def iOf (cc : Nat → Addr) (K : PySem.W.Frag) (c : CI) : TI := fun σ H R => ∃ η h s, RS η s σ ∧ HR cc η h H ∧ ∃ it h', c s h = some (it, h') ∧ ∀ η' H' J, Stp η H η' H' → HR cc η' h' H' → JR K η' it J → R J H'
def ciR1 (a : CA) : CI := fun s h => match a s h with
  | some ([.int j], h1) => if decide (-1000000 ≤ j) && decide (j ≤ 1000000) then some (.rng 0 j.toNat, h1) else none
  | _ => none
def ciR2 (a : CA) : CI := fun s h => match a s h with
  | some ([.int i, .int j], h1) => if (decide (-1000000 ≤ i) && decide (i ≤ 1000000)) && (decide (-1000000 ≤ j) && decide (j ≤ 1000000)) then some (.rng i (j - i).toNat, h1) else none
  | _ => none
def isLst (h : CH) (a : Nat) : Bool := match h.get a with | some (.lst _) => true | _ => false
def ciL (e : CE) : CI := fun s h => match e s h with
  | some (.ref a, h1) => if isLst h1 a then some (.lst a, h1) else none
  | _ => none
def ciE (a : CA) : CI := fun s h => match a s h with
  | some ([.ref a], h1) => if isLst h1 a then some (.enu a, h1) else none
  | some ([.str x], h1) => some (.enuS x, h1)
  | _ => none
def ciZ (a : CA) : CI := fun s h => match a s h with
  | some ([.ref a, .ref b], h1) => if isLst h1 a && isLst h1 b then some (.zip a b, h1) else none
  | _ => none
def ciS (e : CE) : CI := fun s h => match e s h with
  | some (.str x, h1) => some (.sgn x, h1)
  | _ => none
theorem isLst_of {η : Em} {h : CH} {H : Hp} (hr : HR cc η h H) {a : Nat} {p : Addr} (ea : η.as[a]? = some p) (e : isLst h a = true) : ∃ ys, H p = some (.lst ys) := by
  unfold isLst at e
  split at e
  · rename_i xs e1
    obtain ⟨ys, q, _⟩ := hr.lst e1 ea
    exact ⟨ys, q⟩
  · cases e
section
variable {tg : Expr} {p pos : Pos}
theorem ki_range1 {a : Expr} {ca : CA} (hg : Gl X "range") (hm : X.mg "range" = none) (ha : PA X [a] (aOf cc ca)) (hs : starEach [a] X.env = [(false, eval a X.env)] := by rfl) : PI X tg (.Call (.Name "range" p) [a] [] pos) (iOf cc X.K (ciR1 ca)) := pi_imp (pi_range1 hg hm ha hs) fun σ H R q => by
  obtain ⟨η, h, s, rs, hr, it, h', e, k⟩ := q
  unfold ciR1 at e
  split at e
  · rename_i j h1 e1
    split at e
    · rename_i hc
      simp only [Bool.and_eq_true, decide_eq_true_eq] at hc
      cases e
      refine ⟨η, h, s, rs, hr, _, _, e1, fun η1 H1 xs S1 R1 rx => ?_⟩
      obtain ⟨y, rfl, ry⟩ := pd1 rx
      exact ⟨j, by rw [show y = .int j from ry], by omega, by omega, k η1 H1 _ S1 R1 (.rng _ _)⟩
    · cases e
  · cases e
theorem ki_range2 {a b : Expr} {ca : CA} (hg : Gl X "range") (hm : X.mg "range" = none) (ha : PA X [a, b] (aOf cc ca)) (hs : starEach [a, b] X.env = [(false, eval a X.env), (false, eval b X.env)] := by rfl) (hs2 : starEach [b] X.env = [(false, eval b X.env)] := by rfl) :
    PI X tg (.Call (.Name "range" p) [a, b] [] pos) (iOf cc X.K (ciR2 ca)) := pi_imp (pi_range2 hg hm ha hs hs2) fun σ H R q => by
  obtain ⟨η, h, s, rs, hr, it, h', e, k⟩ := q
  unfold ciR2 at e
  split at e
  · rename_i i j h1 e1
    split at e
    · rename_i hc
      simp only [Bool.and_eq_true, decide_eq_true_eq] at hc
      cases e
      refine ⟨η, h, s, rs, hr, _, _, e1, fun η1 H1 xs S1 R1 rx => ?_⟩
      obtain ⟨y, y2, rfl, ry, ry2⟩ := pd2 rx
      exact ⟨i, j, by rw [show y = .int i from ry, show y2 = .int j from ry2], ⟨by omega, by omega, by omega, by omega⟩, k η1 H1 _ S1 R1 (.rng _ _)⟩
    · cases e
  · cases e
theorem ki_list {e : Expr} {c : CE} (he : PE X e (eOf cc c)) : PI X tg e (iOf cc X.K (ciL c)) := pi_imp (pi_list he) fun σ H R q => by
  obtain ⟨η, h, s, rs, hr, it, h', e, k⟩ := q
  unfold ciL at e
  split at e
  · rename_i a h1 e1
    split at e
    · rename_i hl
      cases e
      refine ⟨η, h, s, rs, hr, _, _, e1, fun η1 H1 x S1 R1 rx => ?_⟩
      obtain ⟨b, eb, rfl⟩ := rx
      obtain ⟨ys, q⟩ := isLst_of R1 eb hl
      exact ⟨b, rfl, ⟨ys, SqL.of q⟩, k η1 H1 _ S1 R1 (.lst eb)⟩
    · cases e
  · cases e
theorem ki_str {e : Expr} {c : CE} (he : PE X e (eOf cc c)) : PI X tg e (iOf cc X.K (ciS c)) := pi_imp (pi_str he) fun σ H R q => by
  obtain ⟨η, h, s, rs, hr, it, h', e, k⟩ := q
  unfold ciS at e
  split at e
  · rename_i x h1 e1
    cases e
    exact ⟨η, h, s, rs, hr, _, _, e1, fun η1 H1 y S1 R1 rx => ⟨Tx x, rx, k η1 H1 _ S1 R1 (.sgn x)⟩⟩
  · cases e
theorem ki_enum {e : Expr} {ca : CA} {tpos : Pos} {elts : List Expr} {kk : Nat} (hg : Gl X "enumerate") (hm : X.mg "enumerate" = none) (ha : PA X [e] (aOf cc ca)) (hs : starEach [e] X.env = [(false, eval e X.env)] := by rfl) :
    PI X (.Tuple elts kk tpos) (.Call (.Name "enumerate" p) [e] [] pos) (iOf cc X.K (ciE ca)) := pi_imp (CK.PI.or (pi_enum hg hm ha hs) (pi_enumS hg hm ha hs)) fun σ H R q => by
  obtain ⟨η, h, s, rs, hr, it, h', e, k⟩ := q
  unfold ciE at e
  split at e
  · rename_i a h1 e1
    split at e
    · rename_i hl
      cases e
      refine .inl ⟨η, h, s, rs, hr, _, _, e1, fun η1 H1 xs S1 R1 rx => ?_⟩
      obtain ⟨y, rfl, b, eb, rfl⟩ := pd1 rx
      obtain ⟨ys, q⟩ := isLst_of R1 eb hl
      exact ⟨b, ys, rfl, SqL.of q, k η1 H1 _ S1 R1 (.enu eb)⟩
    · cases e
  · rename_i x h1 e1
    cases e
    refine .inr ⟨η, h, s, rs, hr, _, _, e1, fun η1 H1 xs S1 R1 rx => ?_⟩
    obtain ⟨y, rfl, ry⟩ := pd1 rx
    exact ⟨Tx x, by rw [show y = .str (Tx x) from ry], k η1 H1 _ S1 R1 (.enuS x)⟩
  · cases e
theorem ki_zip {e e2 : Expr} {ca : CA} {tpos : Pos} {elts : List Expr} {kk : Nat} (hg : Gl X "zip") (hm : X.mg "zip" = none) (ha : PA X [e, e2] (aOf cc ca))
    (hs : starEach [e, e2] X.env = (false, eval e X.env) :: starEach [e2] X.env := by rfl) (hpl : (backTo pos (starEach [e2] X.env)).any (·.1) = false := by rfl) :
    PI X (.Tuple elts kk tpos) (.Call (.Name "zip" p) [e, e2] [] pos) (iOf cc X.K (ciZ ca)) := pi_imp (pi_zip hg hm ha hs hpl) fun σ H R q => by
  obtain ⟨η, h, s, rs, hr, it, h', e, k⟩ := q
  unfold ciZ at e
  split at e
  · rename_i a b h1 e1
    split at e
    · rename_i hl
      simp only [Bool.and_eq_true] at hl
      cases e
      refine ⟨η, h, s, rs, hr, _, _, e1, fun η1 H1 xs S1 R1 rx => ?_⟩
      obtain ⟨y, y2, rfl, ⟨p1, ep, rfl⟩, ⟨p2, eq, rfl⟩⟩ := pd2 rx
      obtain ⟨ys, q⟩ := isLst_of R1 ep hl.1
      obtain ⟨ys2, q2⟩ := isLst_of R1 eq hl.2
      exact ⟨p1, p2, ys, ys2, rfl, SqL.of q, SqL.of q2, k η1 H1 _ S1 R1 (.zip ep eq)⟩
    · cases e
  · cases e
end

/-! ### for, while -/
def forGo (it : CIt) (g : CG) (b : CP) : Nat → Nat → CP
  | 0, _, _, _ => none
  | m + 1, i, s, h => match cnext it i h with
    | none => none
    | some none => some (.nx, s, h)
    | some (some (x, h1)) => match g x s h1 with
      | none => none
      | some (s1, h2) => match b s1 h2 with
        | some (.nx, s2, h3) => forGo it g b m (i + 1) s2 h3
        | some (.ct, s2, h3) => forGo it g b m (i + 1) s2 h3
        | some (.bk, s2, h3) => some (.nx, s2, h3)
        | some (.rt v, s2, h3) => some (.rt v, s2, h3)
        | none => none
def cFor (fuel : Nat) (ci : CI) (g : CG) (b : CP) : CP := fun s h => match ci s h with
  | none => none
  | some (it, h1) => forGo it g b fuel 0 s h1
theorem for_of {K : PySem.W.Frag} {fuel : Nat} {ci : CI} {g : CG} {b : CP} {D : Ends} {σ : L2.St} {H : Hp} (q : sOf cc (cFor fuel ci g b) D σ H) : tFor (iOf cc K ci) (gOf cc g) (sOf cc b) D σ H := by
  obtain ⟨η, h, s, rs, hr, fl, s', h', e, k⟩ := q
  unfold cFor at e
  split at e
  · cases e
  · rename_i it h1 e1
    refine ⟨η, h, s, rs, hr, it, h1, e1, fun η1 H1 J S1 R1 j1 => ?_⟩
    refine ⟨fun i m σ' H' => ∃ η2 h2 s2, Stp η H η2 H' ∧ HR cc η2 h2 H' ∧ RS η2 s2 σ' ∧ JR K η2 it J ∧ forGo it g b m i s2 h2 = some (fl, s', h'), ⟨fuel, η1, h1, s, S1, R1, RS.mono S1.le rs, j1, e⟩, ?_⟩
    rintro i m σ2 H2 ⟨η2, h2, s2, S2, R2, rs2, j2, e2⟩
    cases m with
    | zero => cases e2
    | succ m =>
      unfold forGo at e2
      split at e2
      · cases e2
      · rename_i en
        cases e2
        exact .inl ⟨next_stop R2 j2 en, k η2 H2 σ2 S2 R2 rs2⟩
      · rename_i x h3 en
        obtain ⟨go, yl⟩ := next_item R2 j2 en
        refine .inr ⟨go, fun σ' H' => ∃ η4 h4 s4, Stp η H η4 H' ∧ HR cc η4 h4 H' ∧ RS η4 s4 σ' ∧ JR K η4 it J ∧ forGo it g b m (i + 1) s4 h4 = some (fl, s', h'), fun σ' H' w => ⟨m, Nat.lt_succ_self m, w⟩, fun v H3 y => ?_⟩
        obtain ⟨η3, S3, R3, rv⟩ := yl v H3 y
        split at e2
        · cases e2
        · rename_i s4 h4 eg
          refine ⟨η3, h3, s2, x, rv, RS.mono S3.le rs2, R3, s4, h4, eg, fun η4 H4 σ4 S4 R4 rs4 => ?_⟩
          have S24 := Stp.trans (Stp.trans S2 R2 S3) R3 S4
          have j4 := JR.mono S4.le (JR.mono S3.le j2)
          split at e2
          · rename_i s5 h5 eb
            exact ⟨η4, h4, s4, rs4, R4, .nx, s5, h5, eb, fun η5 H5 σ5 S5 R5 rs5 => ⟨η5, h5, s5, Stp.trans S24 R4 S5, R5, rs5, JR.mono S5.le j4, e2⟩⟩
          · rename_i s5 h5 eb
            exact ⟨η4, h4, s4, rs4, R4, .ct, s5, h5, eb, fun η5 H5 σ5 S5 R5 rs5 => ⟨η5, h5, s5, Stp.trans S24 R4 S5, R5, rs5, JR.mono S5.le j4, e2⟩⟩
          · rename_i s5 h5 eb
            cases e2
            exact ⟨η4, h4, s4, rs4, R4, .bk, _, _, eb, fun η5 H5 σ5 S5 R5 rs5 => k η5 H5 σ5 (Stp.trans S24 R4 S5) R5 rs5⟩
          · rename_i v' s5 h5 eb
            cases e2
            exact ⟨η4, h4, s4, rs4, R4, .rt v', _, _, eb, fun η5 H5 σ5 S5 R5 rs5 => k η5 H5 σ5 (Stp.trans S24 R4 S5) R5 rs5⟩
          · cases e2
theorem ks_for {tg iter : Expr} {body : List Stmt} {ci : CI} {g : CG} {b : CP} {pos : Pos} (fuel : Nat) (hp : PassesOwn (model X.prog X.w) X.A X.env X.xe) (hc : X.calm = true) (hi : PI X tg iter (iOf cc X.K ci)) (hg : PG X tg (gOf cc g)) (hb : PSs X body (sOf cc b))
    (hs : ∀ x, foldedSetIterable iter X.env x = pure x := by intro _; rfl) : PS X (.For tg iter body [] pos) (sOf cc (cFor fuel ci g b)) := ps_imp (ps_for hp hc hi hg hb hs) fun _ _ _ q => for_of q
def whileGo (t : CT) (b : CP) : Nat → CP
  | 0, _, _ => none
  | m + 1, s, h => match t s h with
    | none => none
    | some (false, h1) => some (.nx, s, h1)
    | some (true, h1) => match b s h1 with
      | some (.nx, s2, h3) => whileGo t b m s2 h3
      | some (.ct, s2, h3) => whileGo t b m s2 h3
      | some (.bk, s2, h3) => some (.nx, s2, h3)
      | some (.rt v, s2, h3) => some (.rt v, s2, h3)
      | none => none
theorem while_of {fuel : Nat} {t : CT} {b : CP} {D : Ends} {σ : L2.St} {H : Hp} (q : sOf cc (whileGo t b fuel) D σ H) : tWhile (bOf cc t) (sOf cc b) D σ H := by
  obtain ⟨η, h, s, rs, hr, fl, s', h', e, k⟩ := q
  refine ⟨fun m σ' H' => ∃ η2 h2 s2, Stp η H η2 H' ∧ HR cc η2 h2 H' ∧ RS η2 s2 σ' ∧ whileGo t b m s2 h2 = some (fl, s', h'), ⟨fuel, η, h, s, Stp.refl _ _, hr, rs, e⟩, ?_⟩
  rintro m σ2 H2 ⟨η2, h2, s2, S2, R2, rs2, e2⟩
  cases m with
  | zero => cases e2
  | succ m =>
    unfold whileGo at e2
    split at e2
    · cases e2
    · rename_i h3 et
      cases e2
      refine ⟨η2, h2, _, rs2, R2, _, _, et, fun η3 H3 S3 R3 => iteF ?_⟩
      exact k η3 H3 σ2 (Stp.trans S2 R2 S3) R3 (RS.mono S3.le rs2)
    · rename_i h3 et
      refine ⟨η2, h2, s2, rs2, R2, _, _, et, fun η3 H3 S3 R3 => iteT ?_⟩
      refine ⟨fun σ' H' => ∃ η4 h4 s4, Stp η H η4 H' ∧ HR cc η4 h4 H' ∧ RS η4 s4 σ' ∧ whileGo t b m s4 h4 = some (fl, s', h'), fun σ' H' w => ⟨m, Nat.lt_succ_self m, w⟩, ?_⟩
      have S23 := Stp.trans S2 R2 S3
      split at e2
      · rename_i s5 h5 eb
        exact ⟨η3, h3, s2, RS.mono S3.le rs2, R3, .nx, s5, h5, eb, fun η5 H5 σ5 S5 R5 rs5 => ⟨η5, h5, s5, Stp.trans S23 R3 S5, R5, rs5, e2⟩⟩
      · rename_i s5 h5 eb
        exact ⟨η3, h3, s2, RS.mono S3.le rs2, R3, .ct, s5, h5, eb, fun η5 H5 σ5 S5 R5 rs5 => ⟨η5, h5, s5, Stp.trans S23 R3 S5, R5, rs5, e2⟩⟩
      · rename_i s5 h5 eb
        cases e2
        exact ⟨η3, h3, s2, RS.mono S3.le rs2, R3, .bk, _, _, eb, fun η5 H5 σ5 S5 R5 rs5 => k η5 H5 σ5 (Stp.trans S23 R3 S5) R5 rs5⟩
      · rename_i v' s5 h5 eb
        cases e2
        exact ⟨η3, h3, s2, RS.mono S3.le rs2, R3, .rt v', _, _, eb, fun η5 H5 σ5 S5 R5 rs5 => k η5 H5 σ5 (Stp.trans S23 R3 S5) R5 rs5⟩
      · cases e2
theorem ks_while {c : Expr} {body : List Stmt} {t : CT} {b : CP} {pos : Pos} (fuel : Nat) (hp : PassesOwn (model X.prog X.w) X.A X.env X.xe) (hc : PT X c (bOf cc t)) (hb : PSs X body (sOf cc b)) : PS X (.While c body [] pos) (sOf cc (whileGo t b fuel)) := ps_imp (ps_while hp hc hb) fun _ _ _ q => while_of q
end CK

/-! CK: comprehensions. -/
namespace CK
open PySem L2
variable {X : Cx} {cc : Nat → Addr}

/-- the targets of a comprehension: a name, or names in a tuple -/
inductive CTg where
  | nm (i : Nat) | tp (is : List Nat)
def CTg.ix : CTg → List Nat
  | .nm i => [i]
  | .tp is => is
def namesR : List Nat → TGs
  | [] => gNil
  | i :: r => gCons (gName i) (namesR r)
def tgR (K : PySem.W.Frag) : CTg → TG
  | .nm i => gName i
  | .tp is => gTup K is.length (namesR is)
def namesC : List Nat → List CV → CS → Option CS
  | [], [], s => some s
  | i :: r, v :: vs, s => namesC r vs (s.set i (some v))
  | _, _, _ => none
def tgC : CTg → CV → CS → CH → Option CS
  | .nm i, v, s, _ => some (s.set i (some v))
  | .tp is, .ref a, s, h => (match h.get a with
    | some (.tup xs) => namesC is xs s
    | _ => none)
  | .tp _, _, _, _ => none
structure OutEq (vs : List Nat) (a b : L2.St) : Prop where
  len : a.length = b.length
  at_ : ∀ i : Nat, i ∉ vs → a[i]? = b[i]?
theorem OutEq.set {vs : List Nat} {a b : L2.St} (q : OutEq vs a b) {i : Nat} (hi : i ∈ vs) (v : Option V) : OutEq vs (a.set i v) b := by
  refine ⟨by rw [List.length_set]; exact q.len, fun j hj => ?_⟩
  have : i ≠ j := fun z => hj (by rw [← z]; exact hi)
  rw [List.getElem?_set_ne this]
  exact q.at_ j hj
theorem wipe_in {σ : L2.St} {i : Nat} : ∀ {vs : List Nat}, i ∈ vs → (wipe σ vs)[i]? = if i < σ.length then some none else none
  | v :: vs, h => by
    unfold wipe
    by_cases e : v = i
    · subst e
      rw [List.getElem?_set, if_pos rfl, wipe_length]
    · rw [List.getElem?_set_ne e]
      rcases List.mem_cons.mp h with z | z
      · exact absurd z.symm e
      · exact wipe_in z
theorem wipe_eq {vs : List Nat} {a b : L2.St} (q : OutEq vs a b) : wipe a vs = wipe b vs := by
  refine List.ext_getElem? fun i => ?_
  by_cases h : i ∈ vs
  · rw [wipe_in h, wipe_in h, q.len]
  · rw [wipe_out h, wipe_out h, q.at_ i h]
theorem outEq_wipe (vs : List Nat) (σ : L2.St) : OutEq vs (wipe σ vs) σ := ⟨wipe_length σ vs, fun i h => wipe_out h⟩
theorem names_of {η : Em} {H : Hp} : ∀ {is : List Nat} {us : List CV} {vs : List V} {s s' : CS} {σ : L2.St} {Q : L2.St → Hp → Prop}, RVs η us vs → RS η s σ → namesC is us s = some s' →
    (∀ σ2, RS η s' σ2 → (∀ ws τ, (∀ i ∈ is, i ∈ ws) → OutEq ws σ τ → OutEq ws σ2 τ) → Q σ2 H) → namesR is vs σ H Q
  | [], _, _, _, _, _, _, .nil, rs, e, k => by
    cases e
    exact ⟨rfl, k _ rs fun _ _ _ q => q⟩
  | i :: r, _, _, _, _, _, _, .cons rv rr, rs, e, k => by
    have e : namesC r _ _ = some _ := e
    refine ⟨_, _, rfl, ?_⟩
    show namesR r _ _ H _
    exact names_of rr (rs.set i rv) e fun σ2 rs2 hq => k σ2 rs2 fun ws τ hw q => hq ws τ (fun j hj => hw j (List.mem_cons_of_mem _ hj)) (q.set (hw i List.mem_cons_self) _)
  | [], _, _, _, _, _, _, .cons _ _, _, e, _ => by cases e
  | _ :: _, _, _, _, _, _, _, .nil, _, e, _ => by cases e
theorem namesC_len : ∀ {is : List Nat} {us : List CV} {s s' : CS}, namesC is us s = some s' → us.length = is.length
  | [], [], _, _, _ => rfl
  | _ :: r, _ :: vs, s, s', e => by
    have := namesC_len (is := r) (us := vs) (s' := s') (s := _) (show namesC r vs _ = some s' from e)
    rw [List.length_cons, List.length_cons, this]
  | [], _ :: _, _, _, e => by cases e
  | _ :: _, [], _, _, e => by cases e
theorem tg_of {K : PySem.W.Frag} {η : Em} {h : CH} {H : Hp} (hr : HR cc η h H) {t : CTg} {u : CV} {v : V} {s s' : CS} {σ : L2.St} {Q : L2.St → Hp → Prop} (rv : RV η u v) (rs : RS η s σ) (e : tgC t u s h = some s')
    (k : ∀ σ2, RS η s' σ2 → (∀ ws τ, (∀ i ∈ t.ix, i ∈ ws) → OutEq ws σ τ → OutEq ws σ2 τ) → Q σ2 H) : tgR K t v σ H Q := by
  cases t with
  | nm i =>
    cases e
    exact k _ (rs.set i rv) fun ws τ hw q => q.set (hw i (List.mem_singleton.mpr rfl)) _
  | tp is =>
    unfold tgC at e
    split at e
    · rename_i z; cases z
    · rename_i is' a _ _ z
      cases z
      obtain ⟨b, eb, rfl⟩ := rv
      split at e
      · rename_i xs e1
        obtain ⟨ys, q1, p1⟩ := hr.tup e1 eb
        exact ⟨b, ys, rfl, SqT.of q1, by rw [← p1.length]; exact namesC_len e, names_of p1 rs e k⟩
      · cases e
    · cases e
def cwipe (s : CS) : List Nat → CS
  | [] => s
  | v :: vs => (cwipe s vs).set v none
theorem RS.unset {η : Em} {s : CS} {σ : L2.St} (r : RS η s σ) (i : Nat) : RS η (s.set i none) (σ.set i none) := by
  refine ⟨by rw [List.length_set, List.length_set]; exact r.len, fun j u e => ?_⟩
  by_cases hj : j = i
  · subst hj
    have hl : j < s.length := by have := (List.getElem?_eq_some_iff.mp e).1; rwa [List.length_set] at this
    rw [List.getElem?_set_self hl] at e
    cases e
  · rw [List.getElem?_set_ne (fun q => hj q.symm)] at e ⊢
    exact r.at_ j u e
theorem RS.wipe {η : Em} {s : CS} {σ : L2.St} (r : RS η s σ) : ∀ vs : List Nat, RS η (cwipe s vs) (L2.wipe σ vs)
  | [] => r
  | v :: vs => (RS.wipe r vs).unset v
/-- the tests -/
def cYes : CT := fun _ h => some (true, h)
theorem pts_imp {e : List Expr} {t t' : TT} (h : PTs X e t) (i : ∀ σ H Q, t' σ H Q → t σ H Q) : PTs X e t' := ⟨fun pins s σ H Q I q => h.run pins s σ H Q I (i _ _ _ q)⟩
theorem kts_nil : PTs X [] (bOf cc cYes) := pts_imp pts_nil fun σ H Q q => by
  obtain ⟨η, h, s, rs, hr, v, h', e, k⟩ := q
  cases e
  exact k η H (Stp.refl _ _) hr
theorem kts_one {c : Expr} {t : CT} (h : PT X c (bOf cc t)) : PTs X [c] (bOf cc t) := pts_one h
/-- the turns: the new list stands at D -/
def lcGo (it : CIt) (t : CTg) (ct : CT) (ce : CE) (D : Nat) (s0 : CS) : Nat → Nat → CH → Option CH
  | 0, _, _ => none
  | m + 1, i, h => match cnext it i h with
    | none => none
    | some none => some h
    | some (some (x, h1)) => match tgC t x s0 h1 with
      | none => none
      | some s1 => match ct s1 h1 with
        | none => none
        | some (false, h3) => lcGo it t ct ce D s0 m (i + 1) h3
        | some (true, h3) => match ce s1 h3 with
          | none => none
          | some (y, h4) => match h4.get D with
            | some (.lst acc) => if acc.length ≤ 4000 then lcGo it t ct ce D s0 m (i + 1) (h4.set D (.lst (acc ++ [y]))) else none
            | _ => none
def cLc (fuel : Nat) (ci : CI) (t : CTg) (ct : CT) (ce : CE) (vs : List Nat) : CE := fun s h => match ci s h with
  | none => none
  | some (it, h1) => match lcGo it t ct ce h1.length (cwipe s vs) fuel 0 (h1.new (.lst [])) with
    | none => none
    | some h2 => some (.ref h1.length, h2)
theorem lc_of {K : PySem.W.Frag} {fuel : Nat} {ci : CI} {t : CTg} {ct : CT} {ce : CE} {vs : List Nat} (hsub : ∀ i ∈ t.ix, i ∈ vs) {σ : L2.St} {H : Hp} {Q : VK} (q : eOf cc (cLc fuel ci t ct ce vs) σ H Q) :
    tLc (iOf cc K ci) (tgR K t) (bOf cc ct) (eOf cc ce) vs σ H Q := by
  obtain ⟨η, h, s, rs, hr, w, h', e, k⟩ := q
  unfold cLc at e
  split at e
  · cases e
  · rename_i it h1 e1
    split at e
    · cases e
    · rename_i h2 e2
      cases e
      refine ⟨η, h, s, rs, hr, it, h1, e1, fun η1 H1 J S1 R1 j1 D hD => ?_⟩
      obtain ⟨R2, S2⟩ := R1.new (o := .lst []) (O := .lst []) ⟨[], rfl, .nil⟩ hD
      have hix : (η1.push D).as[h1.length]? = some D := Em.push_new η1 D R1.len
      refine ⟨fun i m H' => ∃ η2 h3, Stp η H η2 H' ∧ HR cc η2 h3 H' ∧ η2.as[h1.length]? = some D ∧ JR K η2 it J ∧ Le η η2 ∧ lcGo it t ct ce h1.length (cwipe s vs) m i h3 = some h',
        ⟨fuel, η1.push D, _, Stp.trans S1 R1 S2, R2, hix, JR.mono S2.le j1, S1.le.trans S2.le, e2⟩, ?_⟩
      rintro i m H2 ⟨η2, h3, S3, R3, x2, j2, l2, e3⟩
      cases m with
      | zero => cases e3
      | succ m =>
        unfold lcGo at e3
        split at e3
        · cases e3
        · rename_i en
          cases e3
          exact .inl ⟨next_stop R3 j2 en, k η2 H2 _ S3 R3 ⟨D, x2, rfl⟩⟩
        · rename_i x h4 en
          obtain ⟨go, yl⟩ := next_item R3 j2 en
          refine .inr ⟨go, fun H' => ∃ η4 h5, Stp η H η4 H' ∧ HR cc η4 h5 H' ∧ η4.as[h1.length]? = some D ∧ JR K η4 it J ∧ Le η η4 ∧ lcGo it t ct ce h1.length (cwipe s vs) m (i + 1) h5 = some h', fun H' z => ⟨m, Nat.lt_succ_self m, z⟩, fun v H3 y => ?_⟩
          obtain ⟨η3, S4, R4, rv⟩ := yl v H3 y
          split at e3
          · cases e3
          · rename_i s1 eg
            have l3 : Le η η3 := l2.trans S4.le
            refine tg_of R4 rv (RS.mono l3 (rs.wipe vs)) eg fun σ2 rs2 hq => ⟨wipe_eq (hq vs σ hsub (outEq_wipe vs σ)), ?_⟩
            have S34 := Stp.trans S3 R3 S4
            split at e3
            · cases e3
            · rename_i h5 et
              refine ⟨η3, h4, s1, rs2, R4, _, _, et, fun η5 H5 S5 R5 => iteF ?_⟩
              exact ⟨η5, h5, Stp.trans S34 R4 S5, R5, S5.le.get (S4.le.get x2), JR.mono S5.le (JR.mono S4.le j2), l3.trans S5.le, e3⟩
            · rename_i h5 et
              refine ⟨η3, h4, s1, rs2, R4, _, _, et, fun η5 H5 S5 R5 => iteT ?_⟩
              split at e3
              · cases e3
              · rename_i y6 h6 ee
                refine ⟨η5, h5, s1, RS.mono S5.le rs2, R5, _, _, ee, fun η6 H6 y' S6 R6 ry => ?_⟩
                split at e3
                · rename_i acc ea
                  split at e3
                  · rename_i hz
                    have x6 := S6.le.get (S5.le.get (S4.le.get x2))
                    obtain ⟨acc', q1, p1⟩ := R6.lst ea x6
                    refine ⟨acc', q1, by rw [← p1.length]; exact Nat.lt_of_le_of_lt hz (by rw [sizeLine_eq]; decide), ?_⟩
                    obtain ⟨R7, S7⟩ := R6.put (o := .lst (acc ++ [y6])) (O := .lst (acc' ++ [y'])) x6 ⟨_, rfl, Pd.app p1 (.cons ry .nil)⟩
                    exact ⟨η6, _, Stp.trans (Stp.trans (Stp.trans S34 R4 S5) R5 S6) R6 S7, R7, x6, JR.mono S6.le (JR.mono S5.le (JR.mono S4.le j2)), (l3.trans S5.le).trans S6.le, e3⟩
                  · cases e3
                · cases e3
section
variable {elt tg iter : Expr} {ifs : List Expr} {scope : Scope} {own : List (Str × Nat)} {pos spos : Pos} {ci : CI} {ct : CT} {ce : CE}
theorem ke_lc (fuel : Nat) (t : CTg) (hc : X.calm = true) (hN : X.N.Nodup) (hi : PI X tg iter (iOf cc X.K ci)) (ok : BlkOk X.N X.env.scope scope own)
    (hg : ∀ (s : Shared) (H : Hp) (C : Addr) (cl : List (Str × Addr)) (fp : List Addr), PG (X.blk s H scope (compEnvC scope cl C X.env) fp) tg (tgR X.K t)) (ht : ∀ (s : Shared) (H : Hp) (C : Addr) (cl : List (Str × Addr)) (fp : List Addr), PTs (X.blk s H scope (compEnvC scope cl C X.env) fp) ifs (bOf cc ct))
    (he : ∀ (s : Shared) (H : Hp) (C : Addr) (cl : List (Str × Addr)) (fp : List Addr), PE (X.blk s H scope (compEnvC scope cl C X.env) fp) elt (eOf cc ce)) (hsub : ∀ i ∈ t.ix, i ∈ own.map (·.2) := by decide) (hs : ∀ x, foldedSetIterable iter X.env x = pure x := by intro _; rfl) :
    PE X (.ListComp elt [⟨tg, iter, ifs, 0⟩] scope pos) (eOf cc (cLc fuel ci t ct ce (own.map (·.2)))) := pe_imp (pe_lc hc hN hi ok hg ht he hs) fun _ _ _ q => lc_of hsub q
theorem ks_setLc (fuel : Nat) (t : CTg) {i : Nat} {y : Str} {py : Pos} (hc : X.calm = true) (hN : X.N.Nodup) (hy : X.N[i]? = some y) (hyl : X.env.scope.names.lookup y = some .local)
    (hsw : swapsWith (.ListComp elt [⟨tg, iter, ifs, 0⟩] scope pos) (some (.Name y py)) spos.line X.env = pure true) (hi : PI X tg iter (iOf cc X.K ci)) (ok : BlkOk X.N X.env.scope scope own)
    (hg : ∀ (s : Shared) (H : Hp) (C : Addr) (cl : List (Str × Addr)) (fp : List Addr), PG (X.blk s H scope (compEnvC scope cl C X.env) fp) tg (tgR X.K t)) (ht : ∀ (s : Shared) (H : Hp) (C : Addr) (cl : List (Str × Addr)) (fp : List Addr), PTs (X.blk s H scope (compEnvC scope cl C X.env) fp) ifs (bOf cc ct))
    (he : ∀ (s : Shared) (H : Hp) (C : Addr) (cl : List (Str × Addr)) (fp : List Addr), PE (X.blk s H scope (compEnvC scope cl C X.env) fp) elt (eOf cc ce)) (hsub : ∀ i ∈ t.ix, i ∈ own.map (·.2) := by decide) (hs : ∀ x, foldedSetIterable iter X.env x = pure x := by intro _; rfl) :
    PS X (.Assign [.Name y py] (.ListComp elt [⟨tg, iter, ifs, 0⟩] scope pos) spos) (sOf cc (cAsg (cLc fuel ci t ct ce (own.map (·.2))) (cgN i))) := ps_imp (ps_setLc hc hN hy hyl hsw hi ok hg ht he hs) fun D σ H q => by
  have q := asg_of q
  refine lc_of (fuel := fuel) hsub ?_
  obtain ⟨η, h, s, rs, hr, v, h1, e1, k⟩ := q
  exact ⟨η, h, s, rs, hr, v, h1, e1, fun η1 H1 x S1 R1 rx => name_of (k η1 H1 x S1 R1 rx)⟩
end
end CK

/-! CK: built-in methods, own objects, a def as a whole. -/
namespace CK
open PySem L2 PyProof.Rows
variable {X : Cx} {cc : Nat → Addr}

/-! ### built-in methods -/
def isL (v : CV) (h : CH) : Bool := match v with | .ref a => isLst h a | _ => false
def isS (v : CV) (_ : CH) : Bool := match v with | .str _ => true | _ => false
def cMt (ck : CV → CH → Bool) (f : CV → List CV → CH → Option (CV × CH)) (o : CE) (a : CA) : CE := fun s h => match o s h with
  | none => none
  | some (v, h1) => if ck v h1 then (match a s h1 with
    | none => none
    | some (vs, h2) => f v vs h2) else none
def VMt (cc : Nat → Addr) (f : CV → List CV → CH → Option (CV × CH)) (r : V → List V → Hp → VK → Prop) : Prop :=
  ∀ {η : Em} {h : CH} {H : Hp} {v : CV} {vs : List CV} {x : V} {xs : List V} {w : CV} {h' : CH} {Q : VK}, HR cc η h H → RV η v x → RVs η vs xs → f v vs h = some (w, h') → Kn cc η H w h' Q → r x xs H Q
def Ck (cc : Nat → Addr) (K : PySem.W.Frag) (T : String) (ck : CV → CH → Bool) : Prop := ∀ {η : Em} {h : CH} {H : Hp} {v : CV} {x : V}, HR cc η h H → RV η v x → ck v h = true → tyV K T x H
theorem ck_list {K : PySem.W.Frag} : Ck cc K "list" isL := by
  intro η h H v x hr r e
  unfold isL at e
  split at e
  · obtain ⟨a, ea, rfl⟩ := r
    obtain ⟨ys, q⟩ := isLst_of hr ea e
    exact .inl ⟨rfl, ys, SqL.of q⟩
  · cases e
theorem ck_str {K : PySem.W.Frag} : Ck cc K "str" isS := by
  intro η h H v x hr r e
  unfold isS at e
  split at e
  · obtain rfl : x = .str (Tx _) := r
    rfl
  · cases e
theorem mt_of {K : PySem.W.Frag} {T : String} {ck : CV → CH → Bool} {f : CV → List CV → CH → Option (CV × CH)} {r : V → List V → Hp → VK → Prop} (hc : Ck cc K T ck) (hf : VMt cc f r) {o : CE} {a : CA} {σ : L2.St} {H : Hp} {Q : VK} (q : eOf cc (cMt ck f o a) σ H Q) :
    tBM K T r (eOf cc o) (aOf cc a) σ H Q := by
  obtain ⟨η, h, s, rs, hr, w, h', e, k⟩ := q
  unfold cMt at e
  split at e
  · cases e
  · rename_i v h1 e1
    split at e
    · rename_i hck
      split at e
      · cases e
      · rename_i vs h2 e2
        refine ⟨η, h, s, rs, hr, _, _, e1, fun η1 H1 x S1 R1 rx => ⟨hc R1 rx hck, η1, h1, s, RS.mono S1.le rs, R1, _, _, e2, fun η2 H2 xs S2 R2 rxs => ?_⟩⟩
        exact hf R2 (RV.mono S2.le rx) rxs e fun η3 H3 z S3 R3 rz => k η3 H3 z (Stp.trans (Stp.trans S1 R1 S2) R2 S3) R3 rz
    · cases e
theorem mt0_of {K : PySem.W.Frag} {T : String} {ck : CV → CH → Bool} {f : CV → List CV → CH → Option (CV × CH)} {r : V → List V → Hp → VK → Prop} (hc : Ck cc K T ck) (hf : VMt cc f r) {o : CE} {σ : L2.St} {H : Hp} {Q : VK} (q : eOf cc (cMt ck f o cNil) σ H Q) :
    tBM0 K T r (eOf cc o) σ H Q := by
  obtain ⟨η, h, s, rs, hr, w, h', e, k⟩ := q
  unfold cMt at e
  split at e
  · cases e
  · rename_i v h1 e1
    split at e
    · rename_i hck
      have e : f v [] h1 = some (w, h') := e
      refine ⟨η, h, s, rs, hr, _, _, e1, fun η1 H1 x S1 R1 rx => ⟨hc R1 rx hck, ?_⟩⟩
      exact hf R1 rx .nil e fun η3 H3 z S3 R3 rz => k η3 H3 z (Stp.trans S1 R1 S3) R3 rz
    · cases e
theorem kn_put {η : Em} {h : CH} {H : Hp} {n : Nat} {a : Addr} {xs : List CV} {ys : List V} {w : CV} {y : V} {Q : VK} (hr : HR cc η h H) (ea : η.as[n]? = some a) (r : RVs η xs ys) (rw' : RV η w y) (k : Kn cc η H w (h.set n (.lst xs)) Q) : Q y (upd H a (.lst ys)) := by
  obtain ⟨R, S⟩ := hr.put (o := .lst xs) (O := .lst ys) ea ⟨ys, rfl, r⟩
  exact k η _ y S R rw'
def mAppend : CV → List CV → CH → Option (CV × CH)
  | .ref a, [y], h => match h.get a with
    | some (.lst xs) => if xs.length ≤ 4000 then some (.non, h.set a (.lst (xs ++ [y]))) else none
    | _ => none
  | _, _, _ => none
theorem vAppend : VMt cc mAppend rAppend := by
  intro η h H v vs x xs w h' Q hr r1 r2 e k
  unfold mAppend at e
  split at e
  · obtain ⟨a, ea, rfl⟩ := r1
    obtain ⟨y, rfl, ry⟩ := pd1 r2
    split at e
    · rename_i zs e1
      split at e
      · rename_i hz
        cases e
        obtain ⟨ys, q1, p1⟩ := hr.lst e1 ea
        exact ⟨a, ys, y, rfl, rfl, q1, by rw [← p1.length]; exact Nat.lt_of_le_of_lt hz (by rw [sizeLine_eq]; decide), kn_put (w := .non) (y := .non) hr ea (Pd.app p1 (.cons ry .nil)) rfl k⟩
      · cases e
    · cases e
  · cases e
def mInsert : CV → List CV → CH → Option (CV × CH)
  | .ref a, [.int i, y], h => match h.get a with
    | some (.lst xs) => if decide (xs.length ≤ 4000) && (decide (0 ≤ i) && decide (i ≤ 1000000)) then some (.non, h.set a (.lst (xs.take i.toNat ++ [y] ++ xs.drop i.toNat))) else none
    | _ => none
  | _, _, _ => none
theorem vInsert : VMt cc mInsert (fun x vs H Q => ∃ (l : Addr) (xs : List V) (i : Int) (y : V), x = .ref l ∧ vs = [.int i, y] ∧ H l = some (.lst xs) ∧ xs.length < sizeLine ∧ 0 ≤ i ∧ i < 2 ^ 63 ∧
    Q .non (upd H l (.lst (xs.take i.toNat ++ [y] ++ xs.drop i.toNat)))) := by
  intro η h H v vs x xs w h' Q hr r1 r2 e k
  unfold mInsert at e
  split at e
  · obtain ⟨a, ea, rfl⟩ := r1
    obtain ⟨yi, y, rfl, ri, ry⟩ := pd2 r2
    obtain rfl : yi = .int _ := ri
    split at e
    · rename_i zs e1
      split at e
      · rename_i hz
        simp only [Bool.and_eq_true, decide_eq_true_eq] at hz
        cases e
        obtain ⟨ys, q1, p1⟩ := hr.lst e1 ea
        exact ⟨a, ys, _, y, rfl, rfl, q1, by rw [← p1.length]; exact Nat.lt_of_le_of_lt hz.1 (by rw [sizeLine_eq]; decide), hz.2.1, by omega, kn_put (w := .non) (y := .non) hr ea (Pd.app (Pd.app (Pd.take _ p1) (.cons ry .nil)) (Pd.drop _ p1)) rfl k⟩
      · cases e
    · cases e
  · cases e
def mPop : CV → List CV → CH → Option (CV × CH)
  | .ref a, [.int i], h => match h.get a with
    | some (.lst xs) => if decide (-1000000 ≤ i) && decide (i ≤ 1000000) then (match seqIndex? i xs.length with
      | some j => (match xs[j]? with
        | some y => some (y, h.set a (.lst (xs.eraseIdx j)))
        | none => none)
      | none => none) else none
    | _ => none
  | _, _, _ => none
theorem vPop : VMt cc mPop rPopAt := by
  intro η h H v vs x xs w h' Q hr r1 r2 e k
  unfold mPop at e
  split at e
  · obtain ⟨a, ea, rfl⟩ := r1
    obtain ⟨yi, rfl, ri⟩ := pd1 r2
    obtain rfl : yi = .int _ := ri
    split at e
    · rename_i zs e1
      split at e
      · rename_i hz
        simp only [Bool.and_eq_true, decide_eq_true_eq] at hz
        split at e
        · rename_i j ej
          split at e
          · rename_i y ey
            cases e
            obtain ⟨ys, q1, p1⟩ := hr.lst e1 ea
            obtain ⟨y', ey', ry⟩ := Pd.get p1 ey
            exact ⟨a, ys, _, j, y', rfl, rfl, q1, by omega, by omega, by rw [← p1.length]; exact ej, ey', kn_put hr ea (Pd.erase j p1) ry k⟩
          · cases e
        · cases e
      · cases e
    · cases e
  · cases e
def mPopEnd : CV → List CV → CH → Option (CV × CH)
  | .ref a, [], h => match h.get a with
    | some (.lst xs) => (match xs[xs.length - 1]? with
      | some y => some (y, h.set a (.lst xs.dropLast))
      | none => none)
    | _ => none
  | _, _, _ => none
theorem vPopEnd : VMt cc mPopEnd rPop := by
  intro η h H v vs x xs w h' Q hr r1 r2 e k
  unfold mPopEnd at e
  split at e
  · obtain ⟨a, ea, rfl⟩ := r1
    cases r2
    split at e
    · rename_i zs e1
      split at e
      · rename_i y ey
        cases e
        obtain ⟨ys, q1, p1⟩ := hr.lst e1 ea
        obtain ⟨y', ey', ry⟩ := Pd.get p1 ey
        exact ⟨a, ys, y', rfl, rfl, q1, by rw [← p1.length]; exact ey', kn_put hr ea (Pd.dropLast p1) ry k⟩
      · cases e
    · cases e
  · cases e
/-- the first place of an equal item, all kinds told apart up to it -/
def cIdx (y : CV) : List CV → Nat → Option Nat
  | [], _ => none
  | z :: zs, j => match ceq z y with
    | some true => some j
    | some false => cIdx y zs (j + 1)
    | none => none
theorem cIdx_of {η : Em} {h : CH} {H : Hp} (hr : HR cc η h H) {y : CV} {y' : V} (ry : RV η y y') : ∀ {zs : List CV} {ys : List V} {j0 j : Nat}, RVs η zs ys → cIdx y zs j0 = some j →
    ∃ m z, j = j0 + m ∧ ys[m]? = some z ∧ eqV z y' = true ∧ ∀ (n : Nat) (z' : V), n < m → ys[n]? = some z' → eqV z' y' = false
  | _, _, _, _, .nil, e => by cases e
  | a :: as, b :: bs, j0, j, .cons r rs, e => by
    unfold cIdx at e
    split at e
    · rename_i ec
      cases e
      have q := ceq_of hr r ry ec
      exact ⟨0, b, rfl, rfl, q.e1, fun n z' hn => absurd hn (Nat.not_lt_zero n)⟩
    · rename_i ec
      have q := ceq_of hr r ry ec
      obtain ⟨m, z, h1, h2, h3, h4⟩ := cIdx_of hr ry rs e
      refine ⟨m + 1, z, by omega, h2, h3, fun n z' hn hz => ?_⟩
      cases n with
      | zero => cases hz; exact q.e1
      | succ n => exact h4 n z' (by omega) hz
    · cases e
theorem allFlat_of {η : Em} : ∀ {zs : List CV} {ys : List V}, RVs η zs ys → zs.all isFlat = true → ys.all flatV = true
  | _, _, .nil, _ => rfl
  | a :: as, b :: bs, .cons r rs, e => by
    rw [List.all_cons, Bool.and_eq_true] at e
    rw [List.all_cons, flat_of r e.1, allFlat_of rs e.2]; rfl
def mIndex : CV → List CV → CH → Option (CV × CH)
  | .ref a, [y], h => match h.get a with
    | some (.lst xs) => if isFlat y && xs.all isFlat then (match cIdx y xs 0 with
      | some j => some (.int j, h)
      | none => none) else none
    | _ => none
  | _, _, _ => none
theorem vIndex {K : PySem.W.Frag} : VMt cc mIndex (rIndex K) := by
  intro η h H v vs x xs w h' Q hr r1 r2 e k
  unfold mIndex at e
  split at e
  · obtain ⟨a, ea, rfl⟩ := r1
    obtain ⟨y', rfl, ry⟩ := pd1 r2
    split at e
    · rename_i zs e1
      split at e
      · rename_i hf
        rw [Bool.and_eq_true] at hf
        split at e
        · rename_i j ej
          cases e
          obtain ⟨ys, q1, p1⟩ := hr.lst e1 ea
          obtain ⟨m, z, h1, h2, h3, h4⟩ := cIdx_of hr ry p1 ej
          have hj : j = m := by omega
          subst hj
          exact ⟨a, ys, y', j, z, rfl, rfl, SqL.of q1, flat_of ry hf.1, allFlat_of p1 hf.2, h2, h3, h4, kn_same hr k rfl⟩
        · cases e
      · cases e
    · cases e
  · cases e
/-- the texts of a list -/
def strsOf : List CV → Option (List (List Nat))
  | [] => some []
  | .str x :: r => (match strsOf r with | some xs => some (x :: xs) | none => none)
  | _ :: _ => none
theorem strsOf_of {η : Em} : ∀ {zs : List CV} {ys : List V} {xs : List (List Nat)}, RVs η zs ys → strsOf zs = some xs → ys = (xs.map Tx).map V.str
  | _, _, xs, .nil, e => by cases e; rfl
  | a :: as, b :: bs, xs, .cons r rs, e => by
    cases a with
    | str x =>
      unfold strsOf at e
      split at e
      · rename_i ys ey
        cases e
        rw [strsOf_of rs ey, show b = .str (Tx x) from r]
        rfl
      · cases e
    | _ => cases e
def mJoin : CV → List CV → CH → Option (CV × CH)
  | .str a, [.ref p], h => match h.get p with
    | some (.lst zs) => (match strsOf zs with
      | some xs => if (xs.map List.length).sum + xs.length * a.length ≤ 4000 then some (.str (TL.joinL a xs), h) else none
      | none => none)
    | _ => none
  | _, _, _ => none
theorem tl_Tx (l : List Nat) : TL.tl (Tx l) = l := by simp [TL.tl, Tx]
theorem Tx_tl (x : Str) : Tx (TL.tl x) = x := by simp [TL.tl, Tx]
theorem join_Tx (a : List Nat) (xs : List (List Nat)) : Txt.join (Tx a) (xs.map Tx) = Tx (TL.joinL a xs) := by
  rw [TL.join_eq, ← Tx_tl (Str.join (Tx a) (xs.map Tx)), TL.tl_join, tl_Tx, List.map_map]
  have e : (TL.tl ∘ Tx) = id := funext fun l => tl_Tx l
  rw [e, List.map_id]
theorem vJoin {K : PySem.W.Frag} : VMt cc mJoin (fun x xs H Q => ∃ a p, ∃ ys : List Str, x = .str a ∧ xs = [.ref p] ∧ (SqL K H p (ys.map V.str) ∨ SqT K H p (ys.map V.str)) ∧
    (ys.map (·.length)).sum + ys.length * a.length ≤ 16777216 ∧ Q (.str (Txt.join a ys)) H) := by
  intro η h H v vs x xs w h' Q hr r1 r2 e k
  unfold mJoin at e
  split at e
  · obtain ⟨y', rfl, p, ep, rfl⟩ := pd1 r2
    split at e
    · rename_i zs e1
      split at e
      · rename_i xs es
        split at e
        · rename_i hz
          cases e
          obtain ⟨ys, q1, p1⟩ := hr.lst e1 ep
          refine ⟨_, p, xs.map Tx, r1, rfl, .inl (SqL.of (by rw [q1, strsOf_of p1 es])), ?_, ?_⟩
          · rw [List.map_map, List.length_map, Tx_len]
            have e3 : ((fun y : Str => y.length) ∘ Tx) = List.length := funext fun l => Tx_len l
            rw [e3]
            omega
          · rw [join_Tx]
            exact kn_same hr k rfl
        · cases e
      · cases e
    · cases e
  · cases e
def mCount : CV → List CV → CH → Option (CV × CH)
  | .str a, [.str b], h => some (.int (Txt.count (Tx a) (Tx b)), h)
  | _, _, _ => none
theorem vCount : VMt cc mCount (fun x xs H Q => ∃ a b, x = .str a ∧ xs = [.str b] ∧ Q (.int (Txt.count a b)) H) := by
  intro η h H v vs x xs w h' Q hr r1 r2 e k
  unfold mCount at e
  split at e
  · obtain ⟨y', rfl, ry⟩ := pd1 r2
    cases e
    exact ⟨_, _, r1, by rw [show y' = _ from ry], kn_same hr k rfl⟩
  · cases e
section
variable {o e e2 : Expr} {co : CE} {ca : CA} {apos cpos : Pos}
theorem ke_append (ho : PE X o (eOf cc co)) (ha : PA X [e] (aOf cc ca)) (hbase : attributeBase o "append" X.env (eval o X.env) = eval o X.env := by rfl)
    (hfew : ((backTo cpos (starEach [e] X.env)).all (fun x => !x.1) && (backToKw cpos (keywordEach [] X.env)).all (fun x => x.1.isSome) && decide (([e] : List Expr).length + ([] : List Keyword).length + (if ([] : List Keyword).isEmpty then 0 else 1) < 30)) = true := by rfl)
    (hline : (apos.endLine == cpos.line) = true := by rfl) (hs : starEach [e] X.env = (false, eval e X.env) :: starEach [] X.env := by rfl) : PE X (.Call (.Attribute o "append" apos) [e] [] cpos) (eOf cc (cMt isL mAppend co ca)) :=
  pe_imp (pe_bm PySem.F.plainAttrs_list PySem.F.slot_list_append PySem.F.type_list_append mt_append ho ha hbase hfew hline hs) fun _ _ _ q => mt_of ck_list vAppend q
theorem ke_popAt (ho : PE X o (eOf cc co)) (ha : PA X [e] (aOf cc ca)) (hbase : attributeBase o "pop" X.env (eval o X.env) = eval o X.env := by rfl)
    (hfew : ((backTo cpos (starEach [e] X.env)).all (fun x => !x.1) && (backToKw cpos (keywordEach [] X.env)).all (fun x => x.1.isSome) && decide (([e] : List Expr).length + ([] : List Keyword).length + (if ([] : List Keyword).isEmpty then 0 else 1) < 30)) = true := by rfl)
    (hline : (apos.endLine == cpos.line) = true := by rfl) (hs : starEach [e] X.env = (false, eval e X.env) :: starEach [] X.env := by rfl) : PE X (.Call (.Attribute o "pop" apos) [e] [] cpos) (eOf cc (cMt isL mPop co ca)) :=
  pe_imp (pe_bm PySem.F.plainAttrs_list PySem.F.slot_list_pop PySem.F.type_list_pop mt_popAt ho ha hbase hfew hline hs) fun _ _ _ q => mt_of ck_list vPop q
theorem ke_pop0 (ho : PE X o (eOf cc co)) (hbase : attributeBase o "pop" X.env (eval o X.env) = eval o X.env := by rfl) (hline : (apos.endLine == cpos.line) = true := by rfl) : PE X (.Call (.Attribute o "pop" apos) [] [] cpos) (eOf cc (cMt isL mPopEnd co cNil)) :=
  pe_imp (pe_bm0 PySem.F.plainAttrs_list PySem.F.slot_list_pop PySem.F.type_list_pop mt_pop ho hbase hline) fun _ _ _ q => mt0_of ck_list vPopEnd q
theorem ke_insert (ho : PE X o (eOf cc co)) (ha : PA X [e, e2] (aOf cc ca)) (hbase : attributeBase o "insert" X.env (eval o X.env) = eval o X.env := by rfl)
    (hfew : ((backTo cpos (starEach [e, e2] X.env)).all (fun x => !x.1) && (backToKw cpos (keywordEach [] X.env)).all (fun x => x.1.isSome) && decide (([e, e2] : List Expr).length + ([] : List Keyword).length + (if ([] : List Keyword).isEmpty then 0 else 1) < 30)) = true := by rfl)
    (hline : (apos.endLine == cpos.line) = true := by rfl) (hs : starEach [e, e2] X.env = (false, eval e X.env) :: starEach [e2] X.env := by rfl) (hplain : (backTo cpos (starEach [e2] X.env)).any (·.1) = false := by rfl) : PE X (.Call (.Attribute o "insert" apos) [e, e2] [] cpos) (eOf cc (cMt isL mInsert co ca)) :=
  pe_imp (pe_bm PySem.F.plainAttrs_list PySem.F.slot_list_insert PySem.F.type_list_insert mt_insert ho ha hbase hfew hline hs hplain) fun _ _ _ q => mt_of ck_list vInsert q
theorem ke_index (ho : PE X o (eOf cc co)) (ha : PA X [e] (aOf cc ca)) (hbase : attributeBase o "index" X.env (eval o X.env) = eval o X.env := by rfl)
    (hfew : ((backTo cpos (starEach [e] X.env)).all (fun x => !x.1) && (backToKw cpos (keywordEach [] X.env)).all (fun x => x.1.isSome) && decide (([e] : List Expr).length + ([] : List Keyword).length + (if ([] : List Keyword).isEmpty then 0 else 1) < 30)) = true := by rfl)
    (hline : (apos.endLine == cpos.line) = true := by rfl) (hs : starEach [e] X.env = (false, eval e X.env) :: starEach [] X.env := by rfl) : PE X (.Call (.Attribute o "index" apos) [e] [] cpos) (eOf cc (cMt isL mIndex co ca)) :=
  pe_imp (pe_bm PySem.F.plainAttrs_list PySem.F.slot_list_index PySem.F.type_list_index mt_index ho ha hbase hfew hline hs) fun _ _ _ q => mt_of ck_list vIndex q
theorem ke_join (ho : PE X o (eOf cc co)) (ha : PA X [e] (aOf cc ca)) (hbase : attributeBase o "join" X.env (eval o X.env) = eval o X.env := by rfl)
    (hfew : ((backTo cpos (starEach [e] X.env)).all (fun x => !x.1) && (backToKw cpos (keywordEach [] X.env)).all (fun x => x.1.isSome) && decide (([e] : List Expr).length + ([] : List Keyword).length + (if ([] : List Keyword).isEmpty then 0 else 1) < 30)) = true := by rfl)
    (hline : (apos.endLine == cpos.line) = true := by rfl) (hs : starEach [e] X.env = (false, eval e X.env) :: starEach [] X.env := by rfl) : PE X (.Call (.Attribute o "join" apos) [e] [] cpos) (eOf cc (cMt isS mJoin co ca)) :=
  pe_imp (pe_bm PySem.F.plainAttrs_str PySem.F.slot_str_join PySem.F.type_str_join mt_join ho ha hbase hfew hline hs) fun _ _ _ q => mt_of ck_str vJoin q
theorem ke_count (ho : PE X o (eOf cc co)) (ha : PA X [e] (aOf cc ca)) (hbase : attributeBase o "count" X.env (eval o X.env) = eval o X.env := by rfl)
    (hfew : ((backTo cpos (starEach [e] X.env)).all (fun x => !x.1) && (backToKw cpos (keywordEach [] X.env)).all (fun x => x.1.isSome) && decide (([e] : List Expr).length + ([] : List Keyword).length + (if ([] : List Keyword).isEmpty then 0 else 1) < 30)) = true := by rfl)
    (hline : (apos.endLine == cpos.line) = true := by rfl) (hs : starEach [e] X.env = (false, eval e X.env) :: starEach [] X.env := by rfl) : PE X (.Call (.Attribute o "count" apos) [e] [] cpos) (eOf cc (cMt isS mCount co ca)) :=
  pe_imp (pe_bm PySem.F.plainAttrs_str PySem.F.slot_str_count PySem.F.type_str_count mt_count ho ha hbase hfew hline hs) fun _ _ _ q => mt_of ck_str vCount q
end

/-! ### a def as a whole -/
def cstart (n : Nat) (xs : List CV) : CS := xs.map some ++ List.replicate (n - xs.length) none
def cDef (k n : Nat) (b : CP) : List CV → CH → Option (CV × CH) := fun xs h => if xs.length = k then (match b (cstart n xs) h with
  | some (.nx, _, h1) => some (.non, h1)
  | some (.rt v, _, h1) => some (v, h1)
  | _ => none) else none
theorem start_rs {η : Em} {N : List Str} {xs : List CV} {vs : List V} (p : RVs η xs vs) : RS η (cstart N.length xs) (L2.start N vs) := by
  unfold cstart L2.start
  refine ⟨by rw [List.length_append, List.length_append, List.length_map, List.length_map, List.length_replicate, List.length_replicate, p.length], fun i v e => ?_⟩
  by_cases hi : i < xs.length
  · rw [List.getElem?_append_left (by rw [List.length_map]; exact hi), List.getElem?_map] at e
    cases q : xs[i]? with
    | none => rw [q] at e; cases e
    | some u =>
      rw [q] at e
      cases e
      obtain ⟨y, ey, ry⟩ := Pd.get p q
      refine ⟨y, ?_, ry⟩
      rw [List.getElem?_append_left (by rw [List.length_map, ← p.length]; exact hi), List.getElem?_map, ey]
      rfl
  · rw [List.getElem?_append_right (by rw [List.length_map]; omega), List.getElem?_replicate] at e
    split at e <;> cases e
theorem spOf_len {k n : Nat} {b : CP} {vs : List V} {H : Hp} {Q : VK} {E : XK} (q : spOf cc (cDef k n b) vs H Q E) : vs.length = k := by
  obtain ⟨η, h, xs, p, hr, v, h', e, _⟩ := q
  unfold cDef at e
  split at e
  · rename_i hl; rw [← p.length]; exact hl
  · cases e
theorem def_of {N : List Str} {k : Nat} {b : CP} {vs : List V} {H : Hp} {Q : VK} {E : XK} (q : spOf cc (cDef k N.length b) vs H Q E) : sOf cc b { nx := fun _ H' => Q .non H', rt := Q } (L2.start N vs) H := by
  obtain ⟨η, h, xs, p, hr, v, h', e, kk⟩ := q
  unfold cDef at e
  split at e
  · split at e
    · rename_i s1 h1 e1
      cases e
      exact ⟨η, h, _, start_rs p, hr, _, _, _, e1, fun η' H' σ' S R rs => kk η' H' _ S R rfl⟩
    · rename_i v1 s1 h1 e1
      cases e
      exact ⟨η, h, _, start_rs p, hr, _, _, _, e1, fun η' H' σ' S R rs v' rv => kk η' H' v' S R rv⟩
    · cases e
  · cases e
/-- a def keeps the promise of its plain function -/
theorem def_ok {P : Program} {w : World} {K : PySem.W.Frag} {mg : Str → Option Value} {base : Heap} {x qual : Str} {st : Stmt} {f : Addr} {fd : FuncData} {N ps : List Str} {k : Nat} {b : CP} (F : Fun K x qual st f fd) (S : FnScope N ps (defScope st))
    (hb : ∀ (cdv : Value) (A : Around) (outer : List Env) (s : Shared) (H : Hp) (E : XK), Room k (A.deeper (envOfC qual (defScope st) s.heap.objs.size f cdv)) → PSs (cxOf CX0 P w K mg base N qual (defScope st) f cdv A outer s H E).nox (defBody st) (sOf cc b)) :
    FnOk P w K mg base CX0 (k + 1) f fd ps (spOf cc (cDef ps.length N.length b)) :=
  F.ok S (fun vs H Q E q => spOf_len q) fun cdv A outer s H vs Q E hr q => ⟨sOf cc b, hb cdv A outer s H E hr, def_of q⟩
end CK

/-! CK: own defs, bundled. -/
namespace CK
open PySem L2 PyProof.Rows
variable {X : Cx} {cc : Nat → Addr}
/-- an own def of the module that keeps the promise sp -/
structure OwnS (P : Program) (w : World) (K : PySem.W.Frag) (mg : Str → Option Value) (base : Heap) (k : Nat) (x : Str) (ps : List Str) (sp : Sp) : Prop where
  ex : ∃ f fd, FnOk P w K mg base CX0 k f fd ps sp ∧ mg x = some (.ref f) ∧ PySem.W.keepIn K (.ref f) = true ∧ Binds K fd ps []
abbrev Own (P : Program) (w : World) (K : PySem.W.Frag) (mg : Str → Option Value) (base : Heap) (cc : Nat → Addr) (k : Nat) (x : Str) (ps : List Str) (g : List CV → CH → Option (CV × CH)) : Prop := OwnS P w K mg base k x ps (spOf cc g)
theorem ke_own {k : Nat} {x : Str} {p pos : Pos} {e : Expr} {es : List Expr} {ca : CA} {ps : List Str} {g : List CV → CH → Option (CV × CH)} (O : Own X.prog X.w X.K X.mg X.base cc k x ps g) (hr : Room k X.A) (ha : PA X (e :: es) (aOf cc ca)) (hg : Gl X x := by rfl)
    (hdb : (x == ("__debug__" : Str)) = false := by decide) (he : starEach (e :: es) X.env = (false, eval e X.env) :: starEach es X.env := by rfl) (hpl : (backTo pos (starEach es X.env)).any (·.1) = false := by rfl) :
    PE X (.Call (.Name x p) (e :: es) [] pos) (eOf cc (cCb g ca)) := by
  obtain ⟨f, fd, F, hm, hk, hb⟩ := O.ex
  exact ke_call F hr hg hm hk hb ha hdb he hpl
def tOwn (sp : Sp) (ta : TA) : TE := fun σ H Q => ta σ H fun vs H1 => sp vs H1 Q E0
/-- the same over readings -/
theorem pe_own {k : Nat} {x : Str} {p pos : Pos} {e : Expr} {es : List Expr} {ta : TA} {ps : List Str} {sp : Sp} (O : OwnS X.prog X.w X.K X.mg X.base k x ps sp) (hr : Room k X.A) (ha : PA X (e :: es) ta) (hg : Gl X x := by rfl)
    (hdb : (x == ("__debug__" : Str)) = false := by decide) (he : starEach (e :: es) X.env = (false, eval e X.env) :: starEach es X.env := by rfl) (hpl : (backTo pos (starEach es X.env)).any (·.1) = false := by rfl) :
    PE X (.Call (.Name x p) (e :: es) [] pos) (tOwn sp ta) := by
  obtain ⟨f, fd, F, hm, hk, hb⟩ := O.ex
  exact pe_imp (pe_call F hr hg hm hk hb .nil pass0 ha hdb he hpl) fun σ H Q q => by
    show ta σ H fun vs H1 => sp (vs ++ []) H1 Q E0
    simp only [List.append_nil]
    exact q
theorem kt_notInK {e : Expr} {ce : CE} {x : Str} {xs : List CV} {ys : List V} {aT : Addr} {p pos : Pos} (he : PE X e (eOf cc ce)) (hg : Gl X x) (hm : X.mg x = some (.ref aT)) (hT : ∀ H, SqT X.K H aT ys) (r : ∀ η, RVs η xs ys)
    (hd : (x == ("__debug__" : Str)) = false := by decide) (hmk : behindInMarks .NotIn (.Name x p) = false := by with_unfolding_all rfl) : PT X (.Compare e [.NotIn] [.Name x p] pos) (bOf cc (cTst (cUn (fNotInC xs) ce))) := by
  refine pt_imp (pt_cmpR op_notIn_seq he (pe_glob (v := .ref aT) hg hm rfl hd) hmk) fun σ H Q q => tst_of (fun σ H Q z => ?_) q
  refine un_of (r := fun x H1 Q' => rIn X.K true x (.ref aT) H1 Q') (f := fNotInC xs) ?_ z
  intro η h H v x w h' Q' hr r1 e k
  unfold fNotInC at e
  split at e
  · rename_i hf
    split at e
    · rename_i b eb
      cases e
      obtain ⟨h1, h2, _⟩ := cIn_of hr r1 (r η) eb
      refine ⟨aT, ys, rfl, .inr (hT _), flat_of r1 hf, h2, ?_⟩
      rw [h1]
      exact kn_same hr k rfl
    · cases e
  · cases e
end CK

/-! CK: a chain of three comparisons. -/
namespace CK
open PySem L2 PyProof.Rows
variable {X : Cx} {cc : Nat → Addr}
/-- a o b o' c o'' d, read -/
def tChain3 (r r' r'' : R2) (ta tb tc td : TE) : TE := fun σ H Q => ta σ H fun x H1 => tb σ H1 fun y H2 => r x y H2 fun z H3 => ∃ k, z = .bl k ∧
  (if k = true then tc σ H3 fun x' H4 => r' y x' H4 fun z' H5 => ∃ k', z' = .bl k' ∧ (if k' = true then td σ H5 fun y' H6 => r'' x' y' H6 Q else Q (.bl false) H5) else Q (.bl false) H3)
section
variable {a b c d : Expr} {pos : Pos}
theorem pe_chain3 {o1 o2 o3 : CmpOp} {r r' r'' : R2} {ta tb tc td : TE} (h1 : OpR X (compareOp o1) r) (h2 : OpR X (compareOp o2) r') (h3 : OpR X (compareOp o3) r'') (ha : PE X a ta) (hb : PE X b tb) (hc : PE X c tc) (hd : PE X d td)
    (hm : lastMarks [o1, o2, o3] [b, c, d] = false) : PE X (.Compare a [o1, o2, o3] [b, c, d] pos) (tChain3 r r' r'' ta tb tc td) := by
  refine ⟨fun pins s σ H Q I h => ?_⟩
  refine Compare_chain (thn (ha.run pins s σ H _ I h) fun v s1 ⟨x, H1, I1, r1, q1⟩ => chain_link (thn (hb.run pins s1 σ H1 _ I1 q1) fun u s2 ⟨y, H2, I2, r2, q2⟩ =>
    thn (h1 pins s2 σ H2 x y v u _ I2 r1 r2 q2) fun e s3 ⟨z, H3, I3, r3, k, e1, q3⟩ => ?_)) hm
  subst e1
  cases r3
  refine wpAny_truthy_bool ?_
  cases k with
  | false => exact ite_ff ⟨.bl false, H3, I3, rfl, q3⟩
  | true =>
    refine ite_tt (chain_link (thn (hc.run pins s3 σ H3 _ I3 q3) fun w1 s4 ⟨x', H4, I4, r4, q4⟩ => thn (h2 pins s4 σ H4 y x' u w1 _ I4 r2 r4 q4) fun e' s5 ⟨z', H5, I5, r5, k', e2, q5⟩ => ?_))
    subst e2
    cases r5
    refine wpAny_truthy_bool ?_
    cases k' with
    | false => exact ite_ff ⟨.bl false, H5, I5, rfl, q5⟩
    | true => exact ite_tt (chain_last (thn (hd.run pins s5 σ H5 _ I5 q5) fun w2 s6 ⟨y', H6, I6, r6, q6⟩ => h3 pins s6 σ H6 x' y' w1 w2 Q I6 r4 r6 q6))
end
def cChain3 (f g k : CV → CV → CH → Option (CV × CH)) (a b c d : CE) : CE := fun s h =>
  match a s h with
  | none => none
  | some (v, h1) => match b s h1 with
    | none => none
    | some (u, h2) => match f v u h2 with
      | some (.bl true, h3) => (match c s h3 with
        | none => none
        | some (w, h4) => match g u w h4 with
          | some (.bl true, h5) => (match d s h5 with
            | none => none
            | some (z, h6) => k w z h6)
          | some (.bl false, h5) => some (.bl false, h5)
          | _ => none)
      | some (.bl false, h3) => some (.bl false, h3)
      | _ => none
theorem chain3_of {f g k : CV → CV → CH → Option (CV × CH)} {r r' r'' : R2} (hf : VOp cc f r) (hg : VOp cc g r') (hk : VOp cc k r'') {a b c d : CE} {σ : L2.St} {H : Hp} {Q : VK}
    (q : eOf cc (cChain3 f g k a b c d) σ H Q) : tChain3 r r' r'' (eOf cc a) (eOf cc b) (eOf cc c) (eOf cc d) σ H Q := by
  obtain ⟨η, h, s, rs, hr, w, h', e, kk⟩ := q
  unfold cChain3 at e
  split at e
  · cases e
  · rename_i v h1 e1
    split at e
    · cases e
    · rename_i u h2 e2
      refine ⟨η, h, s, rs, hr, v, h1, e1, fun η1 H1 x S1 R1 rx => ⟨η1, h1, s, RS.mono S1.le rs, R1, u, h2, e2, fun η2 H2 y S2 R2 ry => ?_⟩⟩
      split at e
      · rename_i h3 e3
        split at e
        · cases e
        · rename_i z h4 e4
          refine hf R2 (RV.mono S2.le rx) ry e3 fun η3 H3 z3 S3 R3 rz => ⟨true, rz, ?_⟩
          refine iteT ?_
          refine ⟨η3, h3, s, RS.mono S3.le (RS.mono S2.le (RS.mono S1.le rs)), R3, _, _, e4, fun η4 H4 z4 S4 R4 rz4 => ?_⟩
          split at e
          · rename_i h5 e5
            split at e
            · cases e
            · rename_i z6 h6 e6
              refine hg R4 (RV.mono S4.le (RV.mono S3.le ry)) rz4 e5 fun η5 H5 z5 S5 R5 rz5 => ⟨true, rz5, ?_⟩
              refine iteT ?_
              refine ⟨η5, h5, s, RS.mono S5.le (RS.mono S4.le (RS.mono S3.le (RS.mono S2.le (RS.mono S1.le rs)))), R5, _, _, e6, fun η6 H6 z7 S6 R6 rz6 => ?_⟩
              exact hk R6 (RV.mono S6.le (RV.mono S5.le rz4)) rz6 e fun η7 H7 z8 S7 R7 rz8 => kk η7 H7 z8 (Stp.trans (Stp.trans (Stp.trans (Stp.trans (Stp.trans (Stp.trans S1 R1 S2) R2 S3) R3 S4) R4 S5) R5 S6) R6 S7) R7 rz8
          · rename_i h5 e5
            cases e
            refine hg R4 (RV.mono S4.le (RV.mono S3.le ry)) rz4 e5 fun η5 H5 z5 S5 R5 rz5 => ⟨false, rz5, ?_⟩
            refine iteF ?_
            exact kk η5 H5 _ (Stp.trans (Stp.trans (Stp.trans (Stp.trans S1 R1 S2) R2 S3) R3 S4) R4 S5) R5 rfl
          · cases e
      · rename_i h3 e3
        cases e
        refine hf R2 (RV.mono S2.le rx) ry e3 fun η3 H3 z3 S3 R3 rz => ⟨false, rz, ?_⟩
        refine iteF ?_
        exact kk η3 H3 _ (Stp.trans (Stp.trans S1 R1 S2) R2 S3) R3 rfl
      · cases e
section
variable {a b c d : Expr} {ca cb c3 c4 : CE} {pos : Pos} {o1 o2 o3 : CmpOp}
theorem ke_chain3 {f g k : CV → CV → CH → Option (CV × CH)} (m : Cmp cc X o1 f) (m' : Cmp cc X o2 g) (m'' : Cmp cc X o3 k) (ha : PE X a (eOf cc ca)) (hb : PE X b (eOf cc cb)) (h3 : PE X c (eOf cc c3)) (h4 : PE X d (eOf cc c4))
    (hm : lastMarks [o1, o2, o3] [b, c, d] = false := by with_unfolding_all rfl) :
    PE X (.Compare a [o1, o2, o3] [b, c, d] pos) (eOf cc (cChain3 f g k ca cb c3 c4)) := by
  obtain ⟨r, o, v⟩ := m.ex
  obtain ⟨r', o', v'⟩ := m'.ex
  obtain ⟨r'', o'', v''⟩ := m''.ex
  exact pe_imp (pe_chain3 o o' o'' ha hb h3 h4 hm) fun _ _ _ q => chain3_of v v' v'' q
end
end CK

/-! CK: the law's own comparison, at any depth. -/
namespace CK
open PySem L2 PyProof.Rows

/-- the same data, n deep -/
def Alk (H : Hp) : Nat → V → V → Prop
  | 0, x, y => x = y ∧ (x = .non ∨ (∃ b, x = .bl b) ∨ (∃ i, x = .int i) ∨ ∃ s, x = .str s)
  | n + 1, x, y => Alk H n x y ∨ ∃ a b xs ys, x = .ref a ∧ y = .ref b ∧ ((H a = some (.lst xs) ∧ H b = some (.lst ys)) ∨ (H a = some (.tup xs) ∧ H b = some (.tup ys))) ∧ Paired (Alk H n) xs ys ∧ xs.length ≤ 4000
theorem Alk.same {H H' : Hp} (s : Same H H') : ∀ {n : Nat} {x y : V}, Alk H n x y → Alk H' n x y
  | 0, _, _, h => h
  | n + 1, x, y, h => by
    rcases h with h | ⟨a, b, xs, ys, ex, ey, ho, p, hl⟩
    · exact .inl (Alk.same s h)
    · refine .inr ⟨a, b, xs, ys, ex, ey, ?_, Paired.mapP p fun _ _ q => Alk.same s q, hl⟩
      rcases ho with ⟨h1, h2⟩ | ⟨h1, h2⟩
      · exact .inl ⟨s _ _ h1, s _ _ h2⟩
      · exact .inr ⟨s _ _ h1, s _ _ h2⟩
def spAlk (n : Nat) : Sp := fun vs H Q _ => ∃ x y, vs = [x, y] ∧ Alk H n x y ∧ ∀ H', Same H H' → Q (.bl true) H'
/-- isinstance of a slot's value -/
theorem isi_rd {K : PySem.W.Frag} {σ : L2.St} {H : Hp} {Q : VK} {i : Nat} {x : V} {n m : String} {b : Bool} (hv : σ[i]? = some (some x)) (ty : TyOf K H x (.type n)) (k : kitB n m = some b) (q : Q (.bl b) H) :
    tCB (rIsi K) (tCons (tVar i) (tCons (tC (.ty m)) tNil)) σ H Q := ⟨x, hv, x, .ty m, .type n, .type m, b, rfl, .ty m, .base ty, kit_ty k, q⟩
theorem yes_rd {σ : L2.St} {H : Hp} {A B : Hp → Prop} (h : A H) : tYes σ H (fun b H3 => if b = true then A H3 else B H3) := by
  show if true = true then A H else B H
  rw [if_pos rfl]
  exact h
theorem kb1 : kitB "bool" "bool" = some true := by decide +kernel
theorem kb2 : kitB "int" "bool" = some false := by decide +kernel
theorem kb3 : kitB "int" "int" = some true := by decide +kernel
theorem kb4 : kitB "str" "bool" = some false := by decide +kernel
theorem kb5 : kitB "str" "int" = some false := by decide +kernel
theorem kb6 : kitB "str" "str" = some true := by decide +kernel
theorem kb7 : kitB "list" "bool" = some false := by decide +kernel
theorem kb8 : kitB "list" "int" = some false := by decide +kernel
theorem kb9 : kitB "list" "str" = some false := by decide +kernel
theorem kb10 : kitB "list" "tuple" = some false := by decide +kernel
theorem kb11 : kitB "list" "list" = some true := by decide +kernel
theorem kb12 : kitB "tuple" "bool" = some false := by decide +kernel
theorem kb13 : kitB "tuple" "int" = some false := by decide +kernel
theorem kb14 : kitB "tuple" "str" = some false := by decide +kernel
theorem kb15 : kitB "tuple" "tuple" = some true := by decide +kernel
theorem kb16 : kitB "tuple" "list" = some false := by decide +kernel
theorem boot_all' : bootBuiltins "all" = some (.builtin "all") := by decide +kernel
theorem boot_isi : bootBuiltins "isinstance" = some (.builtin "isinstance") := by decide +kernel
theorem boot_bool' : bootBuiltins "bool" = some (.type "bool") := by decide +kernel
theorem boot_int' : bootBuiltins "int" = some (.type "int") := by decide +kernel
theorem boot_str' : bootBuiltins "str" = some (.type "str") := by decide +kernel
theorem boot_tuple' : bootBuiltins "tuple" = some (.type "tuple") := by decide +kernel
theorem boot_list' : bootBuiltins "list" = some (.type "list") := by decide +kernel
end CK

/-! CK: calls that leave what was there; reading results. -/
namespace CK
open PySem L2 PyProof.Rows
variable {cc : Nat → Addr}

theorem RV.fn {η : Em} {v : CV} {x y : V} (a : RV η v x) (b : RV η v y) : x = y := by
  cases v with
  | ref n =>
    obtain ⟨p, e, rfl⟩ := a
    obtain ⟨q, f, rfl⟩ := b
    rw [e] at f
    cases f
    rfl
  | non => exact (show x = _ from a).trans (show y = _ from b).symm
  | bl z => exact (show x = _ from a).trans (show y = _ from b).symm
  | int z => exact (show x = _ from a).trans (show y = _ from b).symm
  | str z => exact (show x = _ from a).trans (show y = _ from b).symm
  | ty z => exact (show x = _ from a).trans (show y = _ from b).symm
  | off z => exact (show x = _ from a).trans (show y = _ from b).symm
  | opq => exact (show x = _ from a).trans (show y = _ from b).symm
  | key z => exact (show x = _ from a).trans (show y = _ from b).symm
theorem RVs.fn {η : Em} : ∀ {vs : List CV} {xs ys : List V}, RVs η vs xs → RVs η vs ys → xs = ys
  | _, _, _, .nil, .nil => rfl
  | _, _, _, .cons a s, .cons b t => by rw [RV.fn a b, RVs.fn s t]
def noIns : CO → Bool
  | .ins _ _ => false
  | _ => true
theorem RO.fn {η : Em} {o : CO} {x y : HO} (n : noIns o = true) (a : RO η o x) (b : RO η o y) : x = y := by
  cases o with
  | lst xs =>
    obtain ⟨p, rfl, r⟩ := a
    obtain ⟨q, rfl, s⟩ := b
    rw [RVs.fn r s]
  | tup xs =>
    obtain ⟨p, rfl, r⟩ := a
    obtain ⟨q, rfl, s⟩ := b
    rw [RVs.fn r s]
  | ins _ _ => cases n
/-- every old object is as it was -/
def Keeps (h h' : CH) : Prop := ∀ (i : Nat) (o : CO), h.get i = some o → noIns o = true ∧ h'.get i = some o
theorem keeps_same {η η' : Em} {h h' : CH} {H H' : Hp} (hr : HR cc η h H) (S : Stp η H η' H') (R : HR cc η' h' H') (k : Keeps h h') : Same H H' := fun b O e => by
  by_cases m : b ∈ η.as
  · obtain ⟨n, hn⟩ := List.getElem?_of_mem m
    have hl : n < h.length := by rw [← hr.len]; exact (List.getElem?_eq_some_iff.mp hn).1
    obtain ⟨o, eo⟩ := CH.get_some hr.wf hl
    obtain ⟨O1, q1, r1⟩ := hr.ob n b o hn eo
    rw [e] at q1
    cases q1
    obtain ⟨ni, ek⟩ := k n o eo
    obtain ⟨O2, q2, r2⟩ := R.ob n b o (S.le.get hn) ek
    rw [q2, RO.fn ni (RO.mono S.le r1) r2]
  · exact S.fr b O m e
/-- structural equality, as a test -/
def cveq : CV → CV → Bool
  | .non, .non => true
  | .bl a, .bl b => a == b
  | .int a, .int b => a == b
  | .str a, .str b => a == b
  | .ref a, .ref b => Nat.beq a b
  | .key a, .key b => Nat.beq a b
  | .off a, .off b => a == b
  | _, _ => false
theorem cveq_eq {a b : CV} (h : cveq a b = true) : a = b := by
  cases a <;> cases b <;> first
    | rfl
    | (exact absurd h Bool.false_ne_true)
    | (rw [show _ = _ from eq_of_beq (show (_ == _) = true from h)])
    | (rw [Nat.eq_of_beq_eq_true (show Nat.beq _ _ = true from h)])
def cvseq : List CV → List CV → Bool
  | [], [] => true
  | a :: as, b :: bs => cveq a b && cvseq as bs
  | _, _ => false
theorem cvseq_eq : ∀ {a b : List CV}, cvseq a b = true → a = b
  | [], [], _ => rfl
  | a :: as, b :: bs, h => by
    have h : (cveq a b && cvseq as bs) = true := h
    rw [Bool.and_eq_true] at h
    rw [cveq_eq h.1, cvseq_eq h.2]
  | [], _ :: _, h => absurd h Bool.false_ne_true
  | _ :: _, [], h => absurd h Bool.false_ne_true
def coeq : CO → CO → Bool
  | .lst a, .lst b => cvseq a b
  | .tup a, .tup b => cvseq a b
  | _, _ => false
theorem coeq_eq {a b : CO} (h : coeq a b = true) : a = b ∧ noIns a = true := by
  cases a <;> cases b <;> first
    | (exact absurd h Bool.false_ne_true)
    | (exact ⟨by rw [cvseq_eq (show cvseq _ _ = true from h)], rfl⟩)
/-- the first objects of h' are os -/
def kept (h' : CH) : Nat → List CO → Bool
  | _, [] => true
  | i, o :: os => (match h'.get i with
    | some o' => coeq o o'
    | none => false) && kept h' (i + 1) os
theorem kept_get {h' : CH} : ∀ {os : List CO} {i : Nat}, kept h' i os = true → ∀ (j : Nat) (o : CO), os[j]? = some o → noIns o = true ∧ h'.get (i + j) = some o
  | [], _, _, j, o, e => by simp at e
  | o :: os, i, h, j, o', e => by
    unfold kept at h
    rw [Bool.and_eq_true] at h
    cases j with
    | zero =>
      cases e
      have h1 := h.1
      split at h1
      · rename_i q eq
        obtain ⟨e1, e2⟩ := coeq_eq h1
        rw [e1] at e2 ⊢
        exact ⟨e2, eq⟩
      · cases h1
    | succ j =>
      have q := kept_get h.2 j o' (by simpa using e)
      have e3 : i + 1 + j = i + (j + 1) := by omega
      rw [e3] at q
      exact q
theorem CH.of_get (os : List CO) (i : Nat) : (CH.of os).get i = os[i]? := by
  rw [CH.get_eq]
  show (if i < os.length then os.reverse[os.length - 1 - i]? else none) = _
  by_cases c : i < os.length
  · rw [if_pos c, List.getElem?_reverse (by omega)]
    congr 1
    omega
  · rw [if_neg c, List.getElem?_eq_none (by omega)]
theorem keeps_of {os : List CO} {h' : CH} (k : kept h' 0 os = true) : Keeps (CH.of os) h' := fun i o e => by
  rw [CH.of_get] at e
  have q := kept_get k i o e
  rw [Nat.zero_add] at q
  exact q
/-- some objects that stand in H -/
theorem HR.of {t : Int} {κ : Nat → Int} (hκ : ∀ i j, i < j → κ i < κ j) {as : List Addr} {os : List CO} {H : Hp} (nd : as.Nodup) (ln : as.length = os.length)
    (ob : ∀ (n : Nat) (a : Addr) (o : CO), as[n]? = some a → os[n]? = some o → ∃ O, H a = some O ∧ RO ⟨κ, cc, as, t⟩ o O) : HR cc ⟨κ, cc, as, t⟩ (CH.of os) H :=
  ⟨rfl, nd, by show os.reverse.length = os.length; rw [List.length_reverse], ln, hκ, fun n a o e1 e2 => ob n a o e1 (by rw [← CH.of_get]; exact e2)⟩
def k0 (i : Nat) : Int := i
theorem k0_mo : ∀ i j, i < j → k0 i < k0 j := fun i j h => by unfold k0; omega
theorem ints_rv {η : Em} : ∀ (ns : List Int), RVs η (ns.map CV.int) (ns.map V.int)
  | [] => .nil
  | n :: ns => .cons rfl (ints_rv ns)
theorem rv_ints {η : Em} : ∀ {ns : List Int} {ys : List V}, RVs η (ns.map CV.int) ys → ys = ns.map V.int := fun h => RVs.fn h (ints_rv _)
/-- THE CALL of a plain function that keeps what was there: the answer, more objects -/
theorem sp_keeps {g : List CV → CH → Option (CV × CH)} {η : Em} {os : List CO} {H : Hp} {xs : List CV} {vs : List V} {Q : VK} {E : XK} {v : CV} {h' : CH} (hr : HR cc η (CH.of os) H) (r : RVs η xs vs) (e : g xs (CH.of os) = some (v, h')) (k : kept h' 0 os = true)
    (q : ∀ η' H' v', Same H H' → Stp η H η' H' → HR cc η' h' H' → RV η' v v' → Q v' H') : spOf cc g vs H Q E :=
  ⟨η, CH.of os, xs, r, hr, v, h', e, fun η' H' v' S R rv => q η' H' v' (keeps_same hr S R (keeps_of k)) S R rv⟩
theorem HR.nil {H : Hp} : HR cc ⟨k0, cc, [], 0⟩ (CH.of []) H := HR.of k0_mo List.nodup_nil rfl fun n a o e _ => by simp at e
theorem HR.one {H : Hp} {a : Addr} {o : CO} {O : HO} (ha : H a = some O) (r : RO ⟨k0, cc, [a], 0⟩ o O) : HR cc ⟨k0, cc, [a], 0⟩ (CH.of [o]) H := HR.of k0_mo (by simp) rfl fun n b u e1 e2 => by
  match n, e1, e2 with
  | 0, e1, e2 => cases e1; cases e2; exact ⟨O, ha, r⟩
  | n + 1, e1, _ => simp at e1
theorem HR.two {H : Hp} {a b : Addr} {o u : CO} {O U : HO} (n : a ≠ b) (ha : H a = some O) (hb : H b = some U) (r : RO ⟨k0, cc, [a, b], 0⟩ o O) (s : RO ⟨k0, cc, [a, b], 0⟩ u U) : HR cc ⟨k0, cc, [a, b], 0⟩ (CH.of [o, u]) H := HR.of k0_mo (by simp [n]) rfl fun m c z e1 e2 => by
  match m, e1, e2 with
  | 0, e1, e2 => cases e1; cases e2; exact ⟨O, ha, r⟩
  | 1, e1, e2 => cases e1; cases e2; exact ⟨U, hb, s⟩
  | n + 2, e1, _ => simp at e1
end CK

namespace CK
open PySem L2 PyProof.Rows
theorem rvS {η : Em} (x : List Nat) : RV η (.str x) (.str (Tx x)) := rfl
theorem rvI {η : Em} (i : Int) : RV η (.int i) (.int i) := rfl
theorem rvR {η : Em} {n : Nat} {a : Addr} (h : η.as[n]? = some a) : RV η (.ref n) (.ref a) := ⟨a, h, rfl⟩
/-- for over enumerate of a list that the body leaves as it is -/
theorem for_enum {K : PySem.W.Frag} {a : Addr} {xs : List V} {g : TG} {tb : TS} {D : Ends} {σ : L2.St} {H : Hp} (Pv : Nat → L2.St → Hp → Prop) (h0 : Pv 0 σ H) (hl : ∀ i σ H, i ≤ xs.length → Pv i σ H → SqL K H a xs)
    (hs : ∀ i x σ H T, xs[i]? = some x → Pv i σ H → H T = none → g (.ref T) σ (upd H T (.tup [.int (i : Nat), x])) fun σ2 H2 => tb { D with nx := Pv (i + 1), ct := Pv (i + 1), bk := D.nx } σ2 H2) (hd : ∀ σ H, Pv xs.length σ H → D.nx σ H) :
    ∃ W : Nat → Nat → L2.St → Hp → Prop, (∃ m, W 0 m σ H) ∧ ∀ i m σ H, W i m σ H →
      ((Ite K a).stop i H ∧ D.nx σ H) ∨ ((Ite K a).go i H ∧ ∃ N : L2.St → Hp → Prop, (∀ σ' H', N σ' H' → ∃ m', m' < m ∧ W (i + 1) m' σ' H') ∧ ∀ x H', (Ite K a).yld i H x H' → g x σ H' fun σ2 H2 => tb { D with nx := N, ct := N, bk := D.nx } σ2 H2) := by
  refine ⟨fun i m σ H => m = xs.length - i ∧ i ≤ xs.length ∧ Pv i σ H, ⟨xs.length, by simp, Nat.zero_le _, h0⟩, ?_⟩
  rintro i m σ H ⟨rfl, hi, p⟩
  have q := hl i σ H hi p
  by_cases hlt : i < xs.length
  · refine .inr ⟨⟨xs, xs[i], q, by simp [hlt]⟩, Pv (i + 1), fun σ' H' p' => ⟨xs.length - (i + 1), by omega, rfl, hlt, p'⟩, fun v H' y => ?_⟩
    obtain ⟨T, x, rfl, hT, rfl, y⟩ := y
    exact hs i x σ H T (y xs q) p hT
  · have e : i = xs.length := by omega
    subst e
    exact .inl ⟨⟨xs, q, Nat.le_refl _⟩, hd σ H p⟩
end CK

/-! CK: own objects. -/
namespace CK
open PySem L2 PyProof.Rows
variable {X : Cx} {cc : Nat → Addr}
def clook (k : List Nat) : List (List Nat × CV) → Option CV
  | [] => none
  | (g, v) :: r => match g == k with
    | true => some v
    | false => clook k r
def cput (k : List Nat) (v : CV) : List (List Nat × CV) → List (List Nat × CV)
  | [] => [(k, v)]
  | (g, x) :: r => match g == k with
    | true => (g, v) :: r
    | false => (g, x) :: cput k v r
theorem Tx_beq2 (a b : List Nat) : (Tx b == Tx a) = (a == b) := by rw [Tx_beq, beq_comm']
theorem look_some {η : Em} {k : List Nat} {v : CV} : ∀ {fs : List (List Nat × CV)} {ys : List (Str × V)}, RF η fs ys → clook k fs = some v → ∃ y, ys.lookup (Tx k) = some y ∧ RV η v y
  | _, _, .nil, e => by cases e
  | (g, x) :: r, (g', y) :: ys, .cons q rs, e => by
    obtain ⟨e1, rv⟩ := q
    have e1 : g' = Tx g := e1
    have e : (match g == k with | true => some x | false => clook k r) = some v := e
    show ∃ z, (match Tx k == g' with | true => some y | false => ys.lookup (Tx k)) = some z ∧ RV η v z
    rw [e1, Tx_beq2]
    cases c : g == k with
    | true => rw [c] at e; cases e; exact ⟨y, rfl, rv⟩
    | false => rw [c] at e; exact look_some rs e
theorem look_no {η : Em} {k : List Nat} : ∀ {fs : List (List Nat × CV)} {ys : List (Str × V)}, RF η fs ys → clook k fs = none → ys.lookup (Tx k) = none
  | _, _, .nil, _ => rfl
  | (g, x) :: r, (g', y) :: ys, .cons q rs, e => by
    obtain ⟨e1, rv⟩ := q
    have e1 : g' = Tx g := e1
    have e : (match g == k with | true => some x | false => clook k r) = none := e
    show (match Tx k == g' with | true => some y | false => ys.lookup (Tx k)) = none
    rw [e1, Tx_beq2]
    cases c : g == k with
    | true => rw [c] at e; cases e
    | false => rw [c] at e; exact look_no rs e
theorem put_rf {η : Em} {k : List Nat} {v : CV} {y : V} (rv : RV η v y) : ∀ {fs : List (List Nat × CV)} {ys : List (Str × V)}, RF η fs ys → RF η (cput k v fs) (putF (Tx k) y ys)
  | _, _, .nil => .cons ⟨rfl, rv⟩ .nil
  | (g, x) :: r, (g', z) :: ys, .cons q rs => by
    obtain ⟨e1, rx⟩ := q
    have e1 : g' = Tx g := e1
    subst e1
    show RF η (match g == k with | true => (g, v) :: r | false => (g, x) :: cput k v r) (if Tx g = Tx k then (Tx g, y) :: ys else (Tx g, z) :: putF (Tx k) y ys)
    cases c : g == k with
    | true =>
      rw [if_pos (Tx_inj.mpr (eq_of_beq c))]
      exact .cons ⟨rfl, rv⟩ rs
    | false =>
      rw [if_neg fun q => by rw [Tx_inj.mp q, beq_self_eq_true] at c; cases c]
      exact .cons ⟨rfl, rx⟩ (put_rf rv rs)
theorem HR.ins {η : Em} {h : CH} {H : Hp} (r : HR cc η h H) {n c : Nat} {fs : List (List Nat × CV)} {a : Addr} (e : h.get n = some (.ins c fs)) (ea : η.as[n]? = some a) : ∃ dx ys, H a = some (.ins (cc c) dx ys) ∧ RF η fs ys := by
  obtain ⟨O, q, dx, ys, e2, rv⟩ := r.ob n a _ ea e
  exact ⟨dx, ys, by rw [q, e2, r.cl], rv⟩
def cFld (c : Nat) (k : List Nat) (o : CE) : CE := fun s h => match o s h with
  | some (.ref n, h1) => (match h1.get n with
    | some (.ins c' fs) => (match Nat.beq c' c with
      | true => (match clook k fs with | some v => some (v, h1) | none => none)
      | false => none)
    | _ => none)
  | _ => none
theorem ke_fld {e : Expr} {f : Str} {pos : Pos} {co : CE} {c : Nat} {k : List Nat} (he : PE X e (eOf cc co)) (cl : Cls X.K (cc c)) (na : NoAttr X.K (cc c) f) (hf : f = Tx k := by decide +kernel) (hb : attributeBase e f X.env (eval e X.env) = eval e X.env := by rfl) :
    PE X (.Attribute e f pos) (eOf cc (cFld c k co)) := pe_imp (pe_fld he hb) fun σ H Q q => by
  obtain ⟨η, h, s, rs, hr, w, h', e, kk⟩ := q
  unfold cFld at e
  split at e
  · rename_i n h1 e1
    split at e
    · rename_i c' fs e2
      split at e
      · rename_i ec
        split at e
        · rename_i v ev
          cases e
          have ec := Nat.eq_of_beq_eq_true ec
          subst ec
          refine ⟨η, h, s, rs, hr, _, _, e1, fun η1 H1 x S1 R1 rx => ?_⟩
          obtain ⟨a, ea, rfl⟩ := rx
          obtain ⟨dx, ys, q1, p1⟩ := R1.ins e2 ea
          obtain ⟨y, ey, ry⟩ := look_some p1 ev
          exact ⟨a, _, dx, ys, y, rfl, q1, cl, na, by rw [hf]; exact ey, kk η1 H1 y S1 R1 ry⟩
        · cases e
      · cases e
    · cases e
  · cases e
/-- o.f = v, behind both -/
def setF (c : Nat) (k : List Nat) (v : CV) (n : Nat) (h : CH) : Option CH := match h.get n with
  | some (.ins c' fs) => (match Nat.beq c' c && Nat.ble fs.length 900 with
    | true => some (h.set n (.ins c (cput k v fs)))
    | false => none)
  | _ => none
theorem setF_of {η : Em} {h h' : CH} {H : Hp} (hr : HR cc η h H) {c : Nat} {k : List Nat} {v : CV} {y : V} {n : Nat} {a : Addr} (e : setF c k v n h = some h') (ea : η.as[n]? = some a) (rv : RV η v y) : ∃ dx ys, H a = some (.ins (cc c) dx ys) ∧ ys.length < 1000 ∧
    HR cc η h' (upd H a (.ins (cc c) dx (putF (Tx k) y ys))) ∧ Stp η H η (upd H a (.ins (cc c) dx (putF (Tx k) y ys))) := by
  unfold setF at e
  split at e
  · rename_i c' fs e2
    split at e
    · rename_i ec
      rw [Bool.and_eq_true] at ec
      cases e
      have ec1 := Nat.eq_of_beq_eq_true ec.1
      subst ec1
      obtain ⟨dx, ys, q1, p1⟩ := hr.ins e2 ea
      have hl : fs.length ≤ 900 := Nat.le_of_ble_eq_true ec.2
      refine ⟨dx, ys, q1, by rw [← p1.length]; omega, ?_⟩
      exact hr.put (o := .ins c' (cput k v fs)) (O := .ins (cc c') dx (putF (Tx k) y ys)) ea ⟨dx, _, by rw [hr.cl], put_rf rv p1⟩
    · cases e
  · cases e
def cSetF (c : Nat) (k : List Nat) (o v : CE) : CP := fun s h => match v s h with
  | some (y, h1) => (match o s h1 with
    | some (.ref n, h2) => (match setF c k y n h2 with
      | some h3 => some (.nx, s, h3)
      | none => none)
    | _ => none)
  | none => none
theorem ks_fld {o value : Expr} {f : Str} {pos pos' : Pos} {co cv : CE} {c : Nat} {k : List Nat} (ho : PE X o (eOf cc co)) (hv : PE X value (eOf cc cv)) (cl : Cls X.K (cc c)) (na : NoAttr X.K (cc c) f) (hf : f = Tx k := by decide +kernel) (hs : swapsWith value (some (.Attribute o f pos')) pos.line X.env = pure false := by rfl) :
    PS X (.Assign [.Attribute o f pos'] value pos) (sOf cc (cSetF c k co cv)) := ps_imp (ps_fld ho hv hs) fun D σ H q => by
  obtain ⟨η, h, s, rs, hr, fl, s', h', e, kk⟩ := q
  unfold cSetF at e
  split at e
  · rename_i y h1 e1
    split at e
    · rename_i n h2 e2
      split at e
      · rename_i h3 e3
        cases e
        refine ⟨η, h, s, rs, hr, _, _, e1, fun η1 H1 x S1 R1 rx => ⟨η1, h1, s, RS.mono S1.le rs, R1, _, _, e2, fun η2 H2 z S2 R2 rz => ?_⟩⟩
        obtain ⟨a, ea, rfl⟩ := rz
        obtain ⟨dx, ys, q1, hl, R3, S3⟩ := setF_of R2 e3 ea (RV.mono S2.le rx)
        refine ⟨a, _, dx, ys, rfl, q1, cl, na, hl, ?_⟩
        rw [hf]
        exact kk η2 _ σ (Stp.trans (Stp.trans S1 R1 S2) R2 S3) R3 (RS.mono (S1.le.trans S2.le) rs)
      · cases e
    · cases e
  · cases e
/-- an attribute as a target -/
def gFldR (K : PySem.W.Frag) (to : TE) (f : Str) : TG := fun v σ H Q => to σ H fun x H1 => ∃ a C dx fs, x = .ref a ∧ H1 a = some (.ins C dx fs) ∧ Cls K C ∧ NoAttr K C f ∧ fs.length < 1000 ∧ Q σ (upd H1 a (.ins C dx (putF f v fs)))
theorem pg_attr {o : Expr} {f : Str} {pos : Pos} {to : TE} (ho : PE X o to) : PG X (.Attribute o f pos) (gFldR X.K to f) := by
  refine ⟨fun pins s σ H v u Q I r h => ?_⟩
  rw [assign_Attribute]
  refine wpAny_bind (wpAny_holding (thn (ho.run pins s σ H _ I h) fun ov s1 ⟨x, H1, I1, rx, a, C, dx, fs, ex, ea, c, n, hl, q⟩ => ?_))
  subst ex
  obtain rfl : ov = Value.ref a := rx
  refine wpAny_bind (wpAny_standAt (wpAny_bind (wpAny_holding (setattr_ok I1 ea c n hl r fun s2 I2 => ?_))))
  exact wpAny_release ⟨σ, _, I2, q⟩
def cgFld (c : Nat) (k : List Nat) (o : CE) : CG := fun v s h => match o s h with
  | some (.ref n, h1) => (match setF c k v n h1 with
    | some h2 => some (s, h2)
    | none => none)
  | _ => none
theorem kg_fld {o : Expr} {f : Str} {pos : Pos} {co : CE} {c : Nat} {k : List Nat} (ho : PE X o (eOf cc co)) (cl : Cls X.K (cc c)) (na : NoAttr X.K (cc c) f) (hf : f = Tx k := by decide +kernel) : PG X (.Attribute o f pos) (gOf cc (cgFld c k co)) := pg_imp (pg_attr ho) fun v σ H Q q => by
  obtain ⟨η, h, s, u, rv, rs, hr, s', h', e, kk⟩ := q
  unfold cgFld at e
  split at e
  · rename_i n h1 e1
    split at e
    · rename_i h2 e2
      cases e
      refine ⟨η, h, _, rs, hr, _, _, e1, fun η1 H1 x S1 R1 rx => ?_⟩
      obtain ⟨a, ea, rfl⟩ := rx
      obtain ⟨dx, ys, q1, hl, R3, S3⟩ := setF_of R1 e2 ea (RV.mono S1.le rv)
      refine ⟨a, _, dx, ys, rfl, q1, cl, na, hl, ?_⟩
      rw [hf]
      exact kk η1 _ σ (Stp.trans S1 R1 S3) R3 (RS.mono S1.le rs)
    · cases e
  · cases e
/-- a sum of ints, of one whose base is not known -/
def augI : CV → CV → Option CV
  | .int i, .int j => some (.int (i + j))
  | .off i, .int j => some (.off (i + j))
  | _, _ => none
theorem augI_of {η : Em} {u v w : CV} {x y : V} (e : augI u v = some w) (r : RV η u x) (s : RV η v y) : ∃ i j, x = .int i ∧ y = .int j ∧ RV η w (.int (i + j)) := by
  unfold augI at e
  split at e
  · cases e; exact ⟨_, _, r, s, rfl⟩
  · rename_i i j
    cases e
    refine ⟨_, _, r, s, ?_⟩
    show V.int (η.t + i + j) = V.int (η.t + (i + j))
    rw [Int.add_assoc]
  · cases e
/-- o.f += v, ints -/
def cAugF (c : Nat) (k : List Nat) (o v : CE) : CP := fun s h => match o s h with
  | some (.ref n, h1) => (match h1.get n with
    | some (.ins c' fs) => (match Nat.beq c' c with
      | true => (match clook k fs with
        | some i => (match v s h1 with
          | some (j, h2) => (match augI i j with
            | some m => (match setF c k m n h2 with
              | some h3 => some (.nx, s, h3)
              | none => none)
            | none => none)
          | none => none)
        | none => none)
      | false => none)
    | _ => none)
  | _ => none
theorem ks_augF {o value : Expr} {f : Str} {pos tpos : Pos} {co cv : CE} {c : Nat} {k : List Nat} (ho : PE X o (eOf cc co)) (hv : PE X value (eOf cc cv)) (cl : Cls X.K (cc c)) (na : NoAttr X.K (cc c) f) (hf : f = Tx k := by decide +kernel) :
    PS X (.AugAssign (.Attribute o f tpos) .Add value pos) (sOf cc (cAugF c k co cv)) := ps_imp (ps_fldaug ho hv in_add) fun D σ H q => by
  obtain ⟨η, h, s, rs, hr, fl, s', h', e, kk⟩ := q
  unfold cAugF at e
  split at e
  · rename_i n h1 e1
    split at e
    · rename_i c' fs e2
      split at e
      · rename_i ec
        split at e
        · rename_i i ei
          split at e
          · rename_i j h2 e3
            split at e
            · rename_i m em
              split at e
              · rename_i h3 e4
                cases e
                have ec := Nat.eq_of_beq_eq_true ec
                subst ec
                refine ⟨η, h, _, rs, hr, _, _, e1, fun η1 H1 x S1 R1 rx => ?_⟩
                obtain ⟨a, ea, rfl⟩ := rx
                obtain ⟨dx, ys, q1, p1⟩ := R1.ins e2 ea
                obtain ⟨y, ey, ry⟩ := look_some p1 ei
                refine ⟨a, _, dx, ys, y, rfl, q1, cl, na, by rw [hf]; exact ey, η1, h1, _, RS.mono S1.le rs, R1, _, _, e3, fun η2 H2 z S2 R2 rz => ?_⟩
                obtain ⟨i', j', rfl, rfl, rm⟩ := augI_of em (RV.mono S2.le ry) rz
                obtain ⟨dx', ys', q2, hl, R3, S3⟩ := setF_of R2 e4 (S2.le.get ea) rm
                refine ⟨i', j', rfl, rfl, dx', ys', q2, hl, ?_⟩
                rw [hf]
                exact kk η2 _ σ (Stp.trans (Stp.trans S1 R1 S2) R2 S3) R3 (RS.mono (S1.le.trans S2.le) rs)
              · cases e
            · cases e
          · cases e
        · cases e
      · cases e
    · cases e
  · cases e
/-- del xs[i] -/
def cDel (o i : CE) : CP := fun s h => match o s h with
  | some (.ref n, h1) => (match i s h1 with
    | some (.int j, h2) => (match h2.get n with
      | some (.lst xs) => (match decide (-1000000 ≤ j) && decide (j ≤ 1000000) with
        | true => (match seqIndex? j xs.length with
          | some k => some (.nx, s, h2.set n (.lst (xs.eraseIdx k)))
          | none => none)
        | false => none)
      | _ => none)
    | _ => none)
  | _ => none
theorem ks_del {o i : Expr} {co ci : CE} {pos tpos : Pos} (ho : PE X o (eOf cc co)) (hi : PE X i (eOf cc ci)) : PS X (.Delete [.Subscript o i tpos] pos) (sOf cc (cDel co ci)) := ps_imp (ps_delL ho hi) fun D σ H q => by
  obtain ⟨η, h, s, rs, hr, fl, s', h', e, kk⟩ := q
  unfold cDel at e
  split at e
  · rename_i n h1 e1
    split at e
    · rename_i j h2 e2
      split at e
      · rename_i xs e3
        split at e
        · rename_i hj
          simp only [Bool.and_eq_true, decide_eq_true_eq] at hj
          split at e
          · rename_i k ek
            cases e
            refine ⟨η, h, _, rs, hr, _, _, e1, fun η1 H1 x S1 R1 rx => ⟨η1, h1, _, RS.mono S1.le rs, R1, _, _, e2, fun η2 H2 y S2 R2 ry => ?_⟩⟩
            obtain ⟨a, ea, rfl⟩ := RV.mono S2.le rx
            obtain ⟨ys, q1, p1⟩ := R2.lst e3 ea
            obtain ⟨R3, S3⟩ := R2.put (o := .lst (xs.eraseIdx k)) (O := .lst (ys.eraseIdx k)) ea ⟨_, rfl, Pd.erase k p1⟩
            exact ⟨a, ys, j, k, rfl, ry, q1, by omega, by omega, by rw [← p1.length]; exact ek, kk η2 _ σ (Stp.trans (Stp.trans S1 R1 S2) R2 S3) R3 (RS.mono (S1.le.trans S2.le) rs)⟩
          · cases e
        · cases e
      · cases e
    · cases e
  · cases e
end CK

/-! CK: a list taken apart into names; the greatest of three. -/
namespace CK
open PySem L2 PyProof.Rows
variable {X : Cx} {cc : Nat → Addr}
def cgUnl (n : Nat) (g : CGs) : CG := fun v s h => match v with
  | .ref a => (match h.get a with
    | some (.lst xs) => if xs.length = n then g xs s h else none
    | _ => none)
  | _ => none
theorem kg_unl {pos : Pos} {es : List Expr} {k : Nat} {g : CGs} {n : Nat} (hc : X.calm = true) (h : PGs X es (gsOf cc g))
    (hn : (assignEach es X.env).length = n := by rfl) (hst : (assignEach es X.env).findIdx? (·.1) = none := by rfl) : PG X (.Tuple es k pos) (gOf cc (cgUnl n g)) := pg_imp (pg_unl hc h hn hst) fun v σ H Q q => by
  obtain ⟨η, h, s, u, rv, rs, hr, s', h', e, k⟩ := q
  unfold cgUnl at e
  split at e
  · rename_i a
    obtain ⟨b, eb, rfl⟩ := rv
    split at e
    · rename_i xs e1
      split at e
      · rename_i hl
        obtain ⟨ys, q1, p1⟩ := hr.lst e1 eb
        exact ⟨b, ys, rfl, SqL.of q1, by rw [← p1.length]; exact hl, η, h, s, xs, p1, rs, hr, s', h', e, k⟩
      · cases e
    · cases e
  · cases e
def fMax3 : List CV → CH → Option (CV × CH)
  | [.int i, .int j, .int k], h => some (.int (if (if i < j then j else i) < k then k else (if i < j then j else i)), h)
  | _, _ => none
theorem vMax3 : VCall cc fMax3 (rNuC3 nuMax3) := by
  intro η h H vs xs w h' Q hr r e k
  unfold fMax3 at e
  split at e
  · rename_i a b c
    cases r with
    | cons ra r =>
    cases r with
    | cons rb r =>
    cases r with
    | cons rc r =>
    cases r
    obtain rfl := (show _ = V.int a from ra)
    obtain rfl := (show _ = V.int b from rb)
    obtain rfl := (show _ = V.int c from rc)
    cases e
    refine ⟨.int a, .int b, .int c, .int (if (if a < b then b else a) < c then c else (if a < b then b else a)), rfl, ?_, kn_same hr k rfl⟩
    by_cases h1 : a < b
    · by_cases h2 : b < c
      · simp [nuMax3, nuMax2, nuLt, nuCB, h1, h2]
      · simp [nuMax3, nuMax2, nuLt, nuCB, h1, h2]
    · by_cases h2 : a < c
      · simp [nuMax3, nuMax2, nuLt, nuCB, h1, h2]
      · simp [nuMax3, nuMax2, nuLt, nuCB, h1, h2]
  · cases e
theorem boot_maxQ : bootBuiltins "max" = some (.builtin "max") := by decide +kernel
theorem ke_max3 {p pos : Pos} {e : Expr} {es : List Expr} {ca : CA} (hcm : X.calm = true) (hg : Gl X "max") (hm : X.mg "max" = none) (ha : PA X (e :: es) (aOf cc ca)) (he : starEach (e :: es) X.env = (false, eval e X.env) :: starEach es X.env := by rfl) (hpl : (backTo pos (starEach es X.env)).any (·.1) = false := by rfl) :
    PE X (.Call (.Name "max" p) (e :: es) [] pos) (eOf cc (cCb fMax3 ca)) :=
  pe_imp (pe_callB (call_max3Nu hcm) hg hm boot_maxQ ha (he := he) (hpl := hpl)) fun _ _ _ q => cb_of vMax3 q
end CK

/-! CK: a name for a dict comprehension. -/
namespace CK
open PySem L2 PyProof.Rows
theorem ps_setDc {X : Cx} {n : Nat} {nm : Str} {np : Pos} {kx vx tg src : Expr} {cs : List Expr} {sc : Scope} {own : List (Str × Nat)} {pos spos : Pos} {wi : TI} {g : TG} {tt : TT} {tk tv : TE}
    (calm : X.calm = true) (un : X.N.Nodup) (hn : X.N[n]? = some nm) (loc : X.env.scope.names.lookup nm = some .local)
    (sw : swapsWith (.DictComp kx vx [⟨tg, src, cs, 0⟩] sc pos) (some (.Name nm np)) spos.line X.env = pure true)
    (a1 : PI X tg src wi) (a2 : BlkOk X.N X.env.scope sc own)
    (a3 : ∀ (z : Shared) (H : Hp) (C : Addr) (l : List (Str × Addr)) (q : List Addr), PG (X.blk z H sc (compEnvC sc l C X.env) q) tg g)
    (a4 : ∀ (z : Shared) (H : Hp) (C : Addr) (l : List (Str × Addr)) (q : List Addr), PTs (X.blk z H sc (compEnvC sc l C X.env) q) cs tt)
    (a5 : ∀ (z : Shared) (H : Hp) (C : Addr) (l : List (Str × Addr)) (q : List Addr), PE (X.blk z H sc (compEnvC sc l C X.env) q) kx tk)
    (a6 : ∀ (z : Shared) (H : Hp) (C : Addr) (l : List (Str × Addr)) (q : List Addr), PE (X.blk z H sc (compEnvC sc l C X.env) q) vx tv)
    (a7 : ∀ u, foldedSetIterable src X.env u = pure u := by intro _; rfl) :
    PS X (.Assign [.Name nm np] (.DictComp kx vx [⟨tg, src, cs, 0⟩] sc pos) spos) (tAsg (tDc wi g tt tk tv (own.map (·.2))) (gName n)) := by
  constructor
  intro pins z σ H D I want
  have want : tDc wi g tt tk tv (own.map (·.2)) σ H (fun u H1 => gName n u σ H1 D.nx) := want
  rw [exec_Assign_Name_used _ _ _ _ sw]
  apply wpAny_bind; apply wpAny_standAt; apply wpAny_bind
  show wpAny _ X.A (do let _ ← comprehension (.DictComp kx vx [⟨tg, src, cs, 0⟩] sc pos) sc X.env (firstIterPos [⟨tg, src, cs, 0⟩] pos) newDict false (eval src X.env) (some (assign (.Name nm np) X.env))) _ _ z
  apply wpAny_bind
  apply thn (dc_core (Qf := fun _ z' => SP X pins D .next z') calm un I a1 a2 a3 a4 a5 a6 a7 want ?_)
  · intro _ z' fin
    exact wpAny_pure (wpAny_pure fin)
  · intro L C z' m H' I' fin ns fp
    show wpAny _ _ (assign (.Name nm np) X.env (.ref L)) _ _ _
    apply wpAny_assign_Name
    apply store_ok2 (v := V.ref L) I' un hn (.inl loc) rfl _ (.inr loc)
    intro z2 I2 ⟨b, sb, hb⟩
    obtain ⟨p0, p1, p2, p3, p4, p5⟩ := fp
    have far : C ≠ b := hb.elim (fun e => by rw [e]; exact p1) (fun e q => p4 nm b e q.symm)
    refine ⟨m, ns.sameBut sb far, fun h3 sb3 => ⟨_, H', ?_, fin⟩⟩
    exact I2.turned (t' := z2.toks) (fun c o hc e => (sb3.2 c hc).trans e) p0 p1 p3 p4 p5
theorem sw_dict {kx vx : Expr} {gs : List Comprehension} {sc : Scope} {pos np : Pos} {nm : Str} {l : Nat} {env : Env} (k : env.scope.kind = .function) (loc : env.scope.names.lookup nm = some .local) (row : (np.line == pos.line) = true)
    (out : (sc.names.any fun (n, k) => n == nm && (k == .local || k == .cell)) = false) : swapsWith (.DictComp kx vx gs sc pos) (some (.Name nm np)) l env = pure true := by
  have q1 : env.kindOf nm = some .local := loc
  have q2 : env.blockKind = .function := by simp only [Env.blockKind, k]; rfl
  simp only [swapsWith, q2, q1, out, Expr.pos, row]
  rfl
end CK

/-! CK: a lambda as a value that the abstract heap knows; its call. -/
namespace CK
open PySem L2 PyProof.Rows LamX NdefX
structure LF where
  qual : Str
  params : Arguments
  body : Expr
  scope : Scope
  cl : List (Str × Addr)
  c : Addr
def lamAt (f : Addr) (F : LF) (h : Heap) : Prop := ∃ pm ctv, h.get? f = some (PySem.W.kla_obj "<lambda>" F.qual F.params F.body F.scope F.cl pm F.c ctv)
def LamO (f : Addr) (F : LF) : HO := .ext (lamAt f F)
def LF.nf (F : LF) : NF := ⟨"<lambda>", F.qual, F.params, [], F.scope, F.cl, F.c⟩
section
variable {X : Cx} {pins : List (Addr × Obj)} {σ : L2.St} {H : Hp} {s : Shared}
theorem inv_lam {F : LF} {pm ctv : Value} {tk : Nat} (I : Inv X pins σ H s) :
    Inv X pins σ (upd H s.heap.objs.size (LamO s.heap.objs.size F)) { s with heap := s.heap.push (PySem.W.kla_obj "<lambda>" F.qual F.params F.body F.scope F.cl pm F.c ctv), toks := tk } := by
  have here : (s.heap.push (PySem.W.kla_obj "<lambda>" F.qual F.params F.body F.scope F.cl pm F.c ctv)).get? s.heap.objs.size = some (PySem.W.kla_obj "<lambda>" F.qual F.params F.body F.scope F.cl pm F.c ctv) := Heap.get?_push_size _ rfl
  refine I.laid (fun b u q => Heap.get?_push_of_some _ q) (Nat.le_refl _) ⟨⟨pm, ctv, here⟩, ⟨_, here⟩, ?_⟩
  rintro g1 g2 ⟨p1, p2, z⟩ st
  exact ⟨p1, p2, st _ z⟩
/-- one entry more in the table: all tables tell what they should -/
theorem tabs_grow {T : List NTab} {nm : Nat → Nat → Str} {P c' : Addr} {pos : Pos} {q : Str} {ps : Array Value} (hT : TabsN T H) (hu : ∀ p ∈ T, p.1 = P → p.2 = nm) (hP : H P = some (.tbl ps)) (nc : H c' = none) (hq : nm pos.line pos.col = q) :
    TabsN T (upd (upd H P (.tbl (ps ++ #[rawInt pos.line, rawInt pos.col, .ref c']))) c' (CodeO c' q)) := by
  have nPc : P ≠ c' := ne_of_none hP nc
  have old : ∀ (d : Addr) (r : Str), H d = some (CodeO d r) → (upd (upd H P (.tbl (ps ++ #[rawInt pos.line, rawInt pos.col, .ref c']))) c' (CodeO c' q)) d = some (CodeO d r) := fun d r e => by
    have n1 : d ≠ P := fun z => by rw [z, hP] at e; exact codeO_ne ps (Option.some.inj e).symm
    rw [upd_ne (ne_of_none e nc), upd_ne n1]
    exact e
  rintro ⟨P', nm'⟩ hp
  obtain ⟨ps', e1, e2, e3⟩ := hT _ hp
  by_cases z : P' = P
  · have hn : nm' = nm := hu _ hp z
    subst z
    subst hn
    have e1 : H P' = some (.tbl ps') := e1
    rw [hP] at e1
    cases e1
    refine ⟨ps ++ #[rawInt pos.line, rawInt pos.col, .ref c'], ?_, ?_, fun po cv hcv => ?_⟩
    · show (upd (upd H P' _) c' _) P' = _
      rw [upd_ne nPc, upd_same]
    · show TriplesOk (ps ++ #[rawInt pos.line, rawInt pos.col, .ref c']).toList
      rw [Array.toList_append]
      exact PySem.TriplesOk_snoc _ _ _ _ e2
    · have hcv : codeAmong po (ps.toList ++ [rawInt pos.line, rawInt pos.col, .ref c']) = some cv := by simpa using hcv
      rcases among_app2 _ e2 hcv with y | ⟨y, y1, y2⟩
      · obtain ⟨d, w1, w2⟩ := e3 po cv y
        exact ⟨d, w1, old d _ w2⟩
      · refine ⟨c', y, ?_⟩
        show (upd (upd H P' _) c' _) c' = some (CodeO c' (nm' po.line po.col))
        rw [upd_same, ← y1, ← y2, hq]
  · refine ⟨ps', ?_, e2, fun po cv hcv => ?_⟩
    · have n1 : P' ≠ c' := ne_of_none e1 nc
      show (upd (upd H P _) c' _) P' = _
      rw [upd_ne n1, upd_ne z]
      exact e1
    · obtain ⟨d, w1, w2⟩ := e3 po cv hcv
      exact ⟨d, w1, old d _ w2⟩
/-- the reading of a lambda: a new object that is known -/
def tLm (T : List NTab) (mk : Addr → LF) : TE := fun σ H Q => TabsN T H ∧ ∀ (f c' : Addr) (H1 : Hp), ExtN H H1 → (∀ b, H1 b = none → H b = none) → TabsN T H1 → H f = none → H1 f = some (LamO f (mk c')) → H1 c' = some (CodeO c' (mk c').qual) → Q (.ref f) H1
theorem pe_lm {X : Cx} {T : List NTab} {nm : Nat → Nat → Str} {c P : Addr} {params : Arguments} {body : Expr} {scope : Scope} {pos : Pos} (TB : TabB X.base X.mg c P) (hcode : X.env.code = .ref c) (hm : (P, nm) ∈ T) (hn : nm pos.line pos.col = X.env.qual ++ "<lambda>") (hu : ∀ p ∈ T, p.1 = P → p.2 = nm)
    (hfree : ∀ y ∈ scope.names, y.2 = .free → X.env.scope.names.lookup y.1 = some .cell ∨ X.env.scope.names.lookup y.1 = some .free) (hdef : defaultsOf params X.env = ([], [])) :
    PE X (.Lambda params body scope pos) (tLm T fun c' => ⟨X.env.qual ++ "<lambda>", params, body, scope, cloFrom X.env.cells scope.names [], c'⟩) := by
  refine ⟨fun pins s σ H Q I h => ?_⟩
  obtain ⟨hT, kq⟩ := h
  have has : ∀ y ∈ scope.names, y.2 = .free → ∃ a, X.env.cells.lookup y.1 = some a := fun y hy e => by
    rcases hfree y hy e with z | z
    · exact I.ok.has _ (.inl z)
    · exact I.ok.has _ (.inr z)
  obtain ⟨ps, hP, tri, told⟩ := hT _ hm
  have bt := TB.bm.keeps I.bk
  have there := I.hok P _ hP
  have glob := I.mod.glob.keeps I.bk
  have hd := TB.code.keeps I.bk
  apply PySem.W.kla_eval hdef
  match ec : codeAmong pos ps.toList with
  | none =>
    apply PySem.W.kla_makeFunction (closure_ok has) I.ok.glob glob hcode hd there tri ec TB.gP bt
    intro c' ctv g tk ext low high rec tab
    obtain ⟨c2, oc, vs, t, q1, q2, q3, q4⟩ := rec
    obtain rfl : c' = c2 := Value.ref.inj q1
    have J := inv_table (t' := tk) I hP (fun b o n e => ext b o n e) tab low ⟨oc, vs, t, q2, q3, q4⟩
    have nc : H c' = none := I.hok.fresh low
    have L := inv_lam (F := ⟨X.env.qual ++ "<lambda>", params, body, scope, cloFrom X.env.cells scope.names [], c'⟩) (pm := (X.mg "__name__").getD .none) (ctv := ctv) (tk := tk) J
    have nf := J.hok.fresh (Nat.le_refl g.objs.size)
    have nP : P ≠ c' := ne_of_none hP nc
    refine ⟨.ref g.objs.size, _, L, rfl, kq g.objs.size c' _ (fun b o e no => ?_) (fun b e => upd_none (upd_none (upd_none e))) ?_ (I.hok.fresh (Nat.le_trans low (Nat.le_of_lt high))) upd_same ?_⟩
    · have n1 : b ≠ P := fun z => by rw [z, hP] at e; exact no ps (Option.some.inj e).symm
      have n2 : b ≠ c' := ne_of_none e nc
      have e2 : (upd (upd H P (.tbl (ps ++ #[rawInt pos.line, rawInt pos.col, .ref c']))) c' (CodeO c' (X.env.qual ++ "<lambda>"))) b = some o := by rw [upd_ne n2, upd_ne n1]; exact e
      rw [upd_ne (ne_of_none e2 nf)]
      exact e2
    · exact (tabs_grow hT hu hP nc hn).ext fun b o e => by rw [upd_ne (ne_of_none e nf)]; exact e
    · rw [upd_ne (Nat.ne_of_lt high)]
      exact upd_same
  | some cv =>
    obtain ⟨c', rfl, hco⟩ := told pos cv ec
    have hco : H c' = some (CodeO c' (nm pos.line pos.col)) := hco
    rw [hn] at hco
    apply PySem.W.kla_makeFunctionHit (closure_ok has) I.ok.glob glob hcode hd there tri ec bt
    intro ctv g tk keep low
    have J : Inv X pins σ H { s with heap := g, toks := tk } := I.kept keep
    have nf : H g.objs.size = none := J.hok.fresh (Nat.le_refl _)
    have L := inv_lam (F := ⟨X.env.qual ++ "<lambda>", params, body, scope, cloFrom X.env.cells scope.names [], c'⟩) (pm := (X.mg "__name__").getD .none) (ctv := ctv) (tk := tk) J
    refine ⟨.ref g.objs.size, _, L, rfl, kq g.objs.size c' _ (fun b o e _ => by rw [upd_ne (ne_of_none e nf)]; exact e) (fun b e => upd_none e) (hT.ext fun b o e => by rw [upd_ne (ne_of_none e nf)]; exact e) nf upd_same ?_⟩
    rw [upd_ne (ne_of_none hco nf)]
    exact hco
end
/-- a known lambda called -/
theorem lam_call {CX : CXT} {P : Program} {w : World} {K : PySem.W.Frag} {mg : Str → Option Value} {base : Heap} {N ps fr : List Str} {F : LF} {f : Addr} {A : Around} {outer : List Env} {s : Shared} {H : Hp} {E : XK} {us : List Value} {vs : List V} {ws : List (Option V)} {k : Nat} {tb : TE} {Q : VK}
    (S : NScope N ps fr F.scope) (hr : Room (k + 1) A) (e0 : Env0 P w K mg base A outer s H) (hf : H f = some (LamO f F)) (hc : H F.c = some (CodeO F.c F.qual)) (hbind : ∀ pm ctv, bindArgs (PySem.W.kla_fn "<lambda>" F.qual F.params F.body F.scope F.cl pm (.ref F.c) ctv) ⟨us, []⟩ = pure (ps.zip us))
    (r : Vals vs us) (hl : vs.length = ps.length) (C : CellsAt F.cl fr ws s.heap H) (hbody : PE (ncx CX P w K mg base N F.nf f A outer s H E) F.body tb) (h : tb (startF N vs ws) H Q) :
    codeAny (model P w) A (.call (.ref f) ⟨us, []⟩) (CR CX outer P w H s Q E) s := by
  obtain ⟨⟨pm, ctv, ho⟩, _, _⟩ := e0.hok f _ hf
  apply PySem.W.kla_callFunE hr.depth ho rfl S.co S.gen rfl (codeO_at e0.hok hc)
  rw [hbind]
  have loc : ∀ y ∈ ps.zip us, F.scope.names.lookup y.1 = some .local := fun y hy => S.par _ (List.of_mem_zip (show (y.1, y.2) ∈ ps.zip us from hy)).1
  have lim : s.heap.NoLimit := e0.mod.nolimit.keeps fun b o e => (e0.bs b o e).1
  refine wpAny_pure (wpAny_newFunctionEnv S.nocell loc (fun g hns sb => ⟨lim.fresh _ sb, ?_⟩) S.kind)
  have kp : ∀ b o, s.heap.get? b = some o → g.get? b = some o := fun b o e => sb.extBut b o (Nat.ne_of_lt (Heap.lt_size e)) (Heap.get?_push_of_some _ e)
  have J := inv_startN (CX := CX) (K := K) (mg := mg) (base := base) (F := F.nf) (f := f) (E := E) (tk := s.toks + (ps.zip us).length) S hr.hd e0 hl r C hns kp
  apply PySem.W.kla_codeExpr
  refine wpAny_mono (hbody.run [] _ _ H Q J h) (fun v s' hq => ?_) fun e s' hq => hq
  obtain ⟨w', H', J', rv, q⟩ := hq
  exact ⟨w', H', J'.os, J'.bare, J'.base, J'.hok, rv, q⟩
end CK

/-! CK: min of a list of tuples by their first parts, the key a lambda. -/
namespace CK
open PySem L2 PyProof.Rows LamX NdefX
/-- addresses of a built-in's own, that nothing else knows -/
structure Own2 (X : Cx) (pins : List (Addr × Obj)) (H : Hp) (a : Addr) : Prop where
  s0 : X.s_0.heap.objs.size ≤ a
  lo : a ≠ X.env.locals
  ce : ∀ x c, X.env.cells.lookup x = some c → c ≠ a
  pi : ∀ p ∈ X.pn ++ pins, p.1 ≠ a
  hn : H a = none
  fr : a ∉ frs X.stack
section
variable {X : Cx} {pins : List (Addr × Obj)} {σ : L2.St} {H : Hp} {s s' : Shared}
theorem own2_of (I : Inv X pins σ H s) {a : Addr} (h : s.heap.objs.size ≤ a) : Own2 X pins H a := by
  refine ⟨Nat.le_trans I.sz h, fun z => ?_, fun x c e z => ?_, fun p hp z => ?_, I.hok.fresh h, fun z => ?_⟩
  · have := I.lt
    rw [← z] at this
    exact Nat.lt_irrefl _ (Nat.lt_of_lt_of_le this h)
  · obtain ⟨v, o, ho, _⟩ := I.cell x c e
    have := Heap.lt_size ho
    rw [z] at this
    exact Nat.lt_irrefl _ (Nat.lt_of_lt_of_le this h)
  · have := Heap.lt_size (I.pin p hp).1
    rw [z] at this
    exact Nat.lt_irrefl _ (Nat.lt_of_lt_of_le this h)
  · rcases List.mem_cons.mp (I.stkSub _ z) with e | e
    · have := I.lt
      rw [← e] at this
      exact Nat.lt_irrefl _ (Nat.lt_of_lt_of_le this h)
    · exact I.nofs h e
theorem inv_moved {ch : List Addr} (I : Inv X pins σ H s) (hc : ∀ a ∈ ch, Own2 X pins H a) (mv : Moved ch (fun a b => b = a) s s') : Inv X pins σ H s' := by
  obtain ⟨h', g', d', t', o'⟩ := s'
  obtain ⟨mh, mg, md, mo, mt⟩ := mv
  have mg : g' = s.gens := mg
  have mo : o' = s.os := mo
  subst mg
  subst mo
  have out : ∀ b u, H b = some u → b ∉ ch := fun b u e z => by rw [(hc b z).hn] at e; cases e
  refine I.step (ch := ch) (fun b hb => ⟨.inr (hc b hb).s0, (hc b hb).lo, (hc b hb).ce, (hc b hb).pi⟩) (fun b o _ _ n e _ => mh b o n e) (fun b o _ _ n e _ => ⟨o.slots, mh b o n e⟩) (fun b o _ _ n => n) (fun b o n e => ⟨o, mh b o n e⟩) (fun b xs e => e) (fun b o u e => e)
    (fun b ps e => ⟨#[], by rw [e, Array.append_empty]⟩) (fun m hn => ?_) (fun b u e => ?_) I.bare
  · obtain ⟨ob, es, ep, ho, r⟩ := hn
    exact ⟨ob, es, ep, mh _ ob (fun z => (hc _ z).lo rfl) ho, r⟩
  · refine (I.hok b u e).stay (fun d v hd q => mh d v ?_ q) (fun d q => q) fun d xs q => q
    rcases hd with z | z
    · rw [z]; exact out b u e
    · exact out d _ z
end
/-- the lambda tells a tuple's first part -/
def FirstF (X : Cx) (F : LF) : Prop := ∃ a : Str, NScope [a] [a] [] F.scope ∧ F.cl = [] ∧ (∀ v pm ctv, bindArgs (PySem.W.kla_fn "<lambda>" F.qual F.params F.body F.scope F.cl pm (.ref F.c) ctv) ⟨[v], []⟩ = pure [(a, v)]) ∧
  ∀ (f : Addr) (A : Around) (outer : List Env) (s : Shared) (H : Hp) (E : XK), PE (ncx CX0 X.prog X.w X.K X.mg X.base [a] F.nf f A outer s H E) F.body (tOp (rIxT X.K) (tVar 0) (tC (.int 0)))
def bestIx (ks : List Int) : Nat := argBest (fun i j => decide (ks.getD i 0 < ks.getD j 0)) (ks.length - 1)
def Firsts (H : Hp) (ts : List Addr) (ks : List Int) : Prop := Paired (fun t k => ∃ rest, H t = some (.tup (.int k :: rest))) ts ks
def rMinKey (X : Cx) : List V → List V → Hp → VK → Prop := fun vs zs H Q => ∃ (L f : Addr) (F : LF) (ts : List Addr) (ks : List Int), vs = [.ref L] ∧ zs = [.ref f] ∧ SqL X.K H L (ts.map V.ref) ∧ Firsts H ts ks ∧ 0 < ts.length ∧ H f = some (LamO f F) ∧ H F.c = some (CodeO F.c F.qual) ∧ FirstF X F ∧
  ∀ t, ts[bestIx ks]? = some t → Q (.ref t) H
theorem vals_refs : ∀ {ts : List Addr} {its : List Value}, Vals (ts.map V.ref) its → its = ts.map Value.ref
  | [], _, .nil => rfl
  | t :: ts, _, .cons r rs => by
    rw [vals_refs rs, show _ = Value.ref t from r]
    rfl
/-- the lambda called on a tuple -/
theorem first_call {X : Cx} {pins : List (Addr × Obj)} {σ : L2.St} {H : Hp} {s : Shared} {F : LF} {f t : Addr} {k : Int} {rest : List V} {Q : Value → Shared → Prop} {E : Value → Shared → Prop} (I : Inv X pins σ H s) (hr : Room 1 X.A.in1) (FF : FirstF X F) (hf : H f = some (LamO f F)) (hc : H F.c = some (CodeO F.c F.qual)) (ht : H t = some (.tup (.int k :: rest)))
    (q : ∀ tk s', Inv X pins σ H s' → (∀ b o, s.heap.get? b = some o → H b = none → b ∉ frs X.stack → s'.heap.get? b = some o) → Q (.int k tk) s') : wpAny (model X.prog X.w) X.A.in1 (call (.ref f) [.ref t]) Q E s := by
  obtain ⟨a, S, ecl, hb, hbody⟩ := FF
  have e0 := I.env0
  have rc := lam_call (CX := CX0) (E := E0) (us := [.ref t]) (vs := [.ref t]) (ws := []) (k := 0) (tb := tOp (rIxT X.K) (tVar 0) (tC (.int 0))) (Q := fun v H' => v = .int k ∧ H' = H) S hr ⟨e0.frames, e0.mod, e0.bs, e0.bsz, e0.funs, e0.frf, e0.hok, e0.bare⟩ hf hc (fun pm ctv => hb (.ref t) pm ctv) (.cons rfl .nil) rfl
    (by rw [ecl]; exact ⟨rfl, fun y c e => (by cases e), fun x y c e => (by cases e), fun i y e => by simp at e⟩) (hbody f X.A.in1 X.stack s H E0) ⟨_, rfl, t, _, _, .int k, rfl, rfl, SqT.of ht, at_of (j := 0) rfl rfl, rfl, rfl⟩
  refine wpAny_call (codeAny_mono rc fun r s' hq => ?_)
  cases r with
  | error e => exact (show False from hq).elim
  | ok fl =>
    cases fl with
    | next => exact False.elim hq
    | brk => exact False.elim hq
    | cont => exact False.elim hq
    | ret u =>
      obtain ⟨v, H', os, bare, un, hok, rv, ev, eH⟩ := hq
      subst ev
      subst eH
      obtain ⟨tk, rfl⟩ := rv
      have un' := un
      obtain ⟨hh, g, d, tt, os'⟩ := s'
      obtain rfl : os' = s.os := os
      have J := I.call (h' := hh) (g' := g) (d' := d) (t' := tt) (ch := []) un hok bare (fun b z => absurd z (by simp))
      exact q tk _ J fun b o e n nf => un'.keep b o e n nf (by simp)
theorem cr_minKey {X : Cx} (hcalm : X.calm = true) (hr : Room 2 X.A) : CallRK X (.builtin "min") [Str.ofString "key"] (rMinKey X) := by
  intro pins s σ H vs zs us ws Q I r rz h
  obtain ⟨L, f, F, ts, ks, rfl, rfl, hL, hF, hn, hf, hc, FF, q⟩ := h
  obtain rfl := Vals.ref1 r
  obtain ⟨w1, rfl, e1⟩ := vals1 rz
  obtain rfl : w1 = Value.ref f := e1
  have hkl := hF.length
  obtain ⟨its, rv, hl, hz⟩ := I.list hL
  obtain rfl := vals_refs rv
  show wpAny _ X.A (call (.builtin "min") [.ref L] [(Str.ofString "key", .ref f)]) _ _ s
  have listAt : ∀ s', Inv X pins σ H s' → s'.heap.IsList L (ts.map Value.ref).toArray := fun s' J => by
    obtain ⟨its, rv, hl, _⟩ := J.list hL
    obtain rfl := vals_refs rv
    exact hl.isList
  have hdl : X.A.in1.handled = none := I.ok.hd hcalm
  have Lsz : L < s.heap.objs.size := by
    obtain ⟨o, ho, _⟩ := hl.isList
    exact Heap.lt_size ho
  refine call_min_walkK (wpAny_pyIter_list hl.isList ?_)
  have nLI : L ≠ s.heap.objs.size := Nat.ne_of_lt Lsz
  have oI := own2_of I (Nat.le_refl s.heap.objs.size)
  have szS : (s.heap.push ({ cls := .type "list_iterator", data := .fields #[.ref L, .int 0 0] } : Obj)).objs.size = s.heap.objs.size + 1 := by rw [Heap.size_push]
  have oS := own2_of I (a := (s.heap.push ({ cls := .type "list_iterator", data := .fields #[.ref L, .int 0 0] } : Obj)).objs.size) (by rw [szS]; exact Nat.le_succ _)
  have J0 : Inv X pins σ H { s with heap := s.heap.push ({ cls := .type "list_iterator", data := .fields #[.ref L, .int 0 0] } : Obj) } := I.kept fun b o e => Heap.get?_push_of_some _ e
  have W := (Walks.list (prog := X.prog) (w := X.w) (A := X.A.in1) hdl s.heap.objs.size L nLI (ts.map Value.ref).toArray).toS
  have asz : (ts.map Value.ref).toArray.size = ts.length := by simp
  refine ⟨s.heap.objs.size, _, _, _, (ts.map Value.ref).toArray.size, _, _, fun s' => Inv X pins σ H s', fun i v _ => ∃ tk, v = .int (ks.getD i 0) tk, fun i j => decide (ks.getD i 0 < ks.getD j 0), rfl, W, ⟨⟨_, Heap.get?_push_size _ rfl, rfl, rfl⟩, listAt _ J0⟩, ?_, by rw [asz]; exact hn, ⟨?_, ?_, ?_, ?_⟩, J0, ?_⟩
  · intro b hb
    have hb : b = s.heap.objs.size ∨ b = L := by simpa using hb
    show b < (s.heap.push _).objs.size
    rw [szS]
    rcases hb with z | z
    · rw [z]; exact Nat.lt_succ_self _
    · rw [z]; exact Nat.lt_succ_of_lt Lsz
  · intro s1 s2 J mv
    refine inv_moved J (fun a ha => ?_) mv
    rcases List.mem_cons.mp ha with z | z
    · rw [z]; exact oS
    · rw [show a = s.heap.objs.size by simpa using z]; exact oI
  · intro i k s1 s2 v _
    exact v
  · intro i v s1 o Q' E' hi hv J st hS kq
    rw [asz] at hi
    obtain ⟨t, ht⟩ : ∃ t, ts[i]? = some t := ⟨_, List.getElem?_eq_getElem hi⟩
    have ev : v = .ref t := by
      have hv : (ts.map Value.ref).toArray[i]? = some v := hv
      rw [List.getElem?_toArray, List.getElem?_map, ht] at hv
      exact (Option.some.inj hv).symm
    subst ev
    obtain ⟨k, hk, rest, hrest⟩ := Pd.get hF ht
    refine first_call J hr.in1 FF hf hc hrest fun tk s' J' kp => ?_
    obtain ⟨⟨oi, hoi, c1, c2⟩, _⟩ := st
    refine kq _ s' J' ⟨⟨oi, kp _ _ hoi oI.hn oI.fr, c1, c2⟩, listAt _ J'⟩ (kp _ _ hS oS.hn oS.fr) ⟨tk, ?_⟩ fun j k' z => z
    have e : ks.getD i 0 = k := by rw [List.getD_eq_getElem?_getD, hk]; rfl
    rw [e]
  · rintro i j _ _ s1 Q' E' J ⟨t1, rfl⟩ ⟨t2, rfl⟩ hq
    exact lt_int hq
  · intro v s1 hv J
    have hv : (ts.map Value.ref).toArray[argBest (fun i j => decide (ks.getD i 0 < ks.getD j 0)) ((ts.map Value.ref).toArray.size - 1)]? = some v := hv
    rw [asz, hkl] at hv
    rw [List.getElem?_toArray, List.getElem?_map] at hv
    have hv : ((ts[bestIx ks]?).map Value.ref) = some v := hv
    cases e : ts[bestIx ks]? with
    | none => rw [e] at hv; cases hv
    | some t =>
      rw [e] at hv
      cases hv
      exact ⟨.ref t, H, J, rfl, q t e⟩
/-- the first of the least -/
theorem argBest_le (ks : List Int) : ∀ n : Nat, argBest (fun i j => decide (ks.getD i 0 < ks.getD j 0)) n ≤ n ∧ ∀ j, j ≤ n → ks.getD (argBest (fun i j => decide (ks.getD i 0 < ks.getD j 0)) n) 0 ≤ ks.getD j 0
  | 0 => ⟨Nat.le_refl _, fun j hj => by rw [show j = 0 by omega]; exact Int.le_refl _⟩
  | n + 1 => by
    obtain ⟨a, b⟩ := argBest_le ks n
    show (if decide (ks.getD (n + 1) 0 < ks.getD (argBest _ n) 0) = true then n + 1 else argBest _ n) ≤ n + 1 ∧ ∀ j, j ≤ n + 1 → ks.getD (if decide (ks.getD (n + 1) 0 < ks.getD (argBest _ n) 0) = true then n + 1 else argBest _ n) 0 ≤ ks.getD j 0
    split
    · rename_i h
      have h := of_decide_eq_true h
      refine ⟨Nat.le_refl _, fun j hj => ?_⟩
      by_cases e : j = n + 1
      · rw [e]; exact Int.le_refl _
      · have := b j (by omega)
        omega
    · rename_i h
      have h : ¬ _ := fun z => h (decide_eq_true z)
      refine ⟨by omega, fun j hj => ?_⟩
      by_cases e : j = n + 1
      · rw [e]; omega
      · exact b j (by omega)
theorem bestIx_ok {ks : List Int} (h : 0 < ks.length) : ∃ k, ks[bestIx ks]? = some k ∧ ∀ y ∈ ks, k ≤ y := by
  obtain ⟨a, b⟩ := argBest_le ks (ks.length - 1)
  have lt : bestIx ks < ks.length := by
    have : bestIx ks ≤ ks.length - 1 := a
    omega
  refine ⟨ks[bestIx ks], List.getElem?_eq_getElem lt, fun y hy => ?_⟩
  obtain ⟨j, hj⟩ := List.getElem?_of_mem hy
  have jl := (List.getElem?_eq_some_iff.mp hj).1
  have := b j (by omega)
  have e1 : ks.getD (bestIx ks) 0 = ks[bestIx ks] := by rw [List.getD_eq_getElem?_getD, List.getElem?_eq_getElem lt]; rfl
  have e2 : ks.getD j 0 = y := by rw [List.getD_eq_getElem?_getD, hj]; rfl
  rw [e2] at this
  rw [← e1]
  exact this
end CK

/-! CK: a list of a dict's values. -/
namespace CK
open PySem L2 PyProof.Rows
def tLV (te : TE) : TE := fun σ H Q => te σ H fun x H1 => ∃ (d : Addr) (kvs : List (Key × V)), x = .ref d ∧ H1 d = some (.dK kvs) ∧ ∀ p, H1 p = none → Q (.ref p) (upd H1 p (.lst (kvs.map Prod.snd)))
theorem vals_snd : ∀ {kvs : List (Key × V)} {vs : List (Key × Value)}, KV kvs vs → Vals (kvs.map Prod.snd) (vs.map fun x => x.2)
  | _, _, .nil => .nil
  | _, _, .cons a b => .cons a.2 (vals_snd b)
section
variable {X : Cx} {e : Expr} {te : TE} {apos cpos p q : Pos}
theorem pe_lv (hcalm : X.calm = true) (h1 : PE X e te) (h2 : Gl X "list") (h3 : X.mg "list" = none) (h4 : bootBuiltins "list" = some (.type "list")) (h5 : attributeBase e "values" X.env (eval e X.env) = eval e X.env := by rfl) (h6 : (apos.endLine == cpos.line) = true := by rfl)
    (h7 : starEach [.Call (.Attribute e "values" apos) [] [] cpos] X.env = (false, eval (.Call (.Attribute e "values" apos) [] [] cpos) X.env) :: starEach [] X.env := by rfl) : PE X (.Call (.Name "list" p) [.Call (.Attribute e "values" apos) [] [] cpos] [] q) (tLV te) := ⟨fun pins s σ H Q I w => by
  refine wpAny_Call_Name_kw (ld_blt I h2 h3 h4 (callWith_type1 ?_ h7 rfl))
  rw [h7]
  show wpAny _ _ (spliced ((false, eval (.Call (.Attribute e "values" apos) [] [] cpos) X.env) :: backTo q (starEach [] X.env))) _ _ s
  refine Calls.spliced_cons (wpAny_Call_method (T := "dict") (id := "dict.values") h5 rfl h6 F.plainAttrs_dict F.slot_dict_values F.type_dict_values (thn (h1.run pins s σ H _ I w) fun u s1 ⟨x, H1, J, rx, d, kvs, ex, hd, k⟩ => ?_))
  subst ex
  obtain rfl : u = Value.ref d := rx
  obtain ⟨lim, nsys, vs, kv, od⟩ := J.hok d _ hd
  obtain ⟨ep, dat⟩ := od.dictAt
  have el : kvs.length = vs.length := kv.length
  have J2 : Inv X pins σ H1 { s1 with heap := s1.heap.push { cls := .type "dict_values", data := .fields #[.ref d] } } := J.kept (t' := s1.toks) fun b o e => Heap.get?_push_of_some _ e
  refine ⟨od.typeIs, od.mapOf.noDict, ?_⟩
  show wpAny _ _ (callWith cpos (.builtin "dict.values") [.ref d] [] []) _ X.xe s1
  refine method_meetsIn F.slot_dict_values F.entry_dict_values rfl (PySem.evalArgs_none ⟨rfl, od.typeIs, F.args_dict_values_1 _, _, meets_dict_values (mixKind X.prog X.w) d nsys, ⟨vs, od⟩, Calls.spliced_nil ?_⟩)
  refine PySem.W.kdl_call (PySem.W.kdl_values (knd := mixKind X.prog X.w) (r := s1.heap.objs.size) (d := d) (kvs := vs) (ep := ep)) (J.ok.hd hcalm) ⟨⟨_, Heap.get?_push_size _ rfl, rfl, rfl⟩, dat.push _⟩ (by omega) fun h' tk acc c' hk hD hacc => ?_
  have ea : acc.toList = vs.map fun x => x.2 := PySem.W.kdl_vals_eq _ (by rw [Array.length_toList]; exact hacc.1) fun j v ej => hacc.2 j v (by rw [← Array.getElem?_toList]; exact ej)
  refine ⟨.ref _, _, J2.laid (t' := tk) hk (Nat.le_refl _) (show ObjOk X.prog X.w _ _ _ (.lst (kvs.map Prod.snd)) from ⟨by rw [List.length_map]; omega, acc.toList, c', by rw [ea]; exact vals_snd kv, by rw [Array.toArray_toList]; exact hD⟩), rfl, k _ (J2.hok.fresh (Nat.le_refl _))⟩⟩
end
end CK

namespace CK
open PySem L2 PyProof.Rows
def top (i : Nat) : Stmt := PySem.Challenge.pw_looseshelf_k10_asked_again.main.body.getD i (.Pass ⟨0, 0, 0, 0⟩)
/-- what the top has left -/
structure Txt (K : PySem.W.Frag) (mg : Str → Option Value) : Prop where
  n_abs : mg "abs" = none
  n_all : mg "all" = none
  n_bool : mg "bool" = none
  n_dict : mg "dict" = none
  n_enumerate : mg "enumerate" = none
  n_int : mg "int" = none
  n_isinstance : mg "isinstance" = none
  n_len : mg "len" = none
  n_list : mg "list" = none
  n_min : mg "min" = none
  n_range : mg "range" = none
  n_str : mg "str" = none
  n_sum : mg "sum" = none
  n_tuple : mg "tuple" = none
  n_zip : mg "zip" = none
  x_MOST_PLACES : ∃ t, mg "MOST_PLACES" = some (.int 6 t)
  x_MOST_DEEDS : ∃ t, mg "MOST_DEEDS" = some (.int 12 t)
  x_RULES : ∃ aT, mg "RULES" = some (.ref aT) ∧ ∀ H, SqT K H aT [.str (Tx [110, 101, 97, 114]), .str (Tx [108, 101, 102, 116]), .str (Tx [101, 118, 101, 110])]
section
variable {P : Program} {w : World} {K : PySem.W.Frag} {mg : Str → Option Value} {base : Heap} {cc : Nat → Addr}
abbrev s_inserted : Stmt := top 9
theorem sc_inserted : FnScope ["places", "rank", "at"] ["places", "rank", "at"] (defScope s_inserted) := ⟨rfl, rfl, rfl, by decide +kernel, rfl, by decide +kernel, by decide +kernel⟩
def b_inserted : CP := (cRet (cBin fAdd (cBin fAdd (cSl (cVar 0) pNo (pYes (cVar 1))) (cLst (cCons (cVar 2) cNil))) (cSl (cVar 0) (pYes (cVar 1)) pNo)))
def c_inserted : List CV → CH → Option (CV × CH) := cDef 3 3 b_inserted
theorem ok_inserted {f : Addr} {fd : FuncData} (F : Fun K "inserted" "inserted" s_inserted f fd) (T : Txt K mg) : FnOk P w K mg base CX0 1 f fd ["places", "rank", "at"] (spOf cc c_inserted) := by
  refine def_ok (N := ["places", "rank", "at"]) (ps := ["places", "rank", "at"]) (b := b_inserted) F sc_inserted fun cdv A outer s H E hr => ?_
  exact (kss_one (ks_ret (ke_add (ke_add (ke_slice (kv 0) kp_no (kp_yes (kv 1))) (ke_lst (ka_cons (kv 2) ka_nil))) (ke_slice (kv 0) (kp_yes (kv 1)) kp_no))))

abbrev s_laid_evenly : Stmt := top 10
theorem sc_laid_evenly : FnScope ["wide", "many", "rank"] ["wide", "many"] (defScope s_laid_evenly) := ⟨rfl, rfl, rfl, by decide +kernel, rfl, by decide +kernel, by decide +kernel⟩
def b_laid_evenly : CP := (cRet (cLc 200 (ciR1 (cCons (cVar 1) cNil)) (.nm 2) cYes (cBin (fIntC cDivOk fun i j => i / j) (cBin fMul (cVar 2) (cVar 0)) (cVar 1)) [2]))
def c_laid_evenly : List CV → CH → Option (CV × CH) := cDef 2 3 b_laid_evenly
theorem ok_laid_evenly {f : Addr} {fd : FuncData} (F : Fun K "laid_evenly" "laid_evenly" s_laid_evenly f fd) (T : Txt K mg) : FnOk P w K mg base CX0 1 f fd ["wide", "many"] (spOf cc c_laid_evenly) := by
  refine def_ok (N := ["wide", "many", "rank"]) (ps := ["wide", "many"]) (b := b_laid_evenly) F sc_laid_evenly fun cdv A outer s H E hr => ?_
  exact (kss_one (ks_ret (ke_lc (own := [("rank", 2)]) 200 (.nm 2) rfl sc_laid_evenly.nd (ki_range1 rfl T.n_range (ka_cons (kv 1) ka_nil)) (blkOk_by (N := ["wide", "many", "rank"]) (sc := defScope s_laid_evenly) (by decide +kernel)) (fun _ _ _ _ _ => pg_name (i := 2) sc_laid_evenly.nd rfl (Or.inl rfl)) (fun _ _ _ _ _ => kts_nil) (fun _ _ _ _ _ => (ke_div (ke_mul (kv 2) (kv 0)) (kv 1))))))

abbrev s_free_ahead : Stmt := top 11
theorem sc_free_ahead : FnScope ["places", "low", "free", "at"] ["places", "low"] (defScope s_free_ahead) := ⟨rfl, rfl, rfl, by decide +kernel, rfl, by decide +kernel, by decide +kernel⟩
def b_free_ahead : CP := (cSeq (cAsg (cLc 200 (ciR1 (cCons (cVar 1) cNil)) (.nm 3) (cTst (cBin (fIn true) (cVar 3) (cVar 0))) (cVar 3) [3]) (cgN 2))
    (cRet (cIfE (cTru (cVar 2)) (cBin fIx (cVar 2) (cUn fNeg (cC (.int 1)))) (cC .non))))
def c_free_ahead : List CV → CH → Option (CV × CH) := cDef 2 4 b_free_ahead
theorem ok_free_ahead {f : Addr} {fd : FuncData} (F : Fun K "free_ahead" "free_ahead" s_free_ahead f fd) (T : Txt K mg) : FnOk P w K mg base CX0 1 f fd ["places", "low"] (spOf cc c_free_ahead) := by
  refine def_ok (N := ["places", "low", "free", "at"]) (ps := ["places", "low"]) (b := b_free_ahead) F sc_free_ahead fun cdv A outer s H E hr => ?_
  exact (kss_cons (ks_setLc (i := 2) (own := [("at", 3)]) 200 (.nm 3) rfl sc_free_ahead.nd rfl rfl (sw_true rfl rfl rfl (by decide +kernel)) (ki_range1 rfl T.n_range (ka_cons (kv 1) ka_nil)) (blkOk_by (N := ["places", "low", "free", "at"]) (sc := defScope s_free_ahead) (by decide +kernel)) (fun _ _ _ _ _ => pg_name (i := 3) sc_free_ahead.nd rfl (Or.inl rfl)) (fun _ _ _ _ _ => kts_one (kt_notIn (kv 3) (kv 0))) (fun _ _ _ _ _ => (kv 3)))
    (kss_one (ks_ret (ke_if (kt_tru (kv 2)) (ke_ix (kv 2) (ke_neg ke_int)) ke_non))))

abbrev s_free_behind : Stmt := top 12
theorem sc_free_behind : FnScope ["wide", "places", "high", "free", "at"] ["wide", "places", "high"] (defScope s_free_behind) := ⟨rfl, rfl, rfl, by decide +kernel, rfl, by decide +kernel, by decide +kernel⟩
def b_free_behind : CP := (cSeq (cAsg (cLc 200 (ciR2 (cCons (cBin fAdd (cVar 2) (cC (.int 1))) (cCons (cVar 0) cNil))) (.nm 4) (cTst (cBin (fIn true) (cVar 4) (cVar 1))) (cVar 4) [4]) (cgN 3))
    (cRet (cIfE (cTru (cVar 3)) (cBin fIx (cVar 3) (cC (.int 0))) (cC .non))))
def c_free_behind : List CV → CH → Option (CV × CH) := cDef 3 5 b_free_behind
theorem ok_free_behind {f : Addr} {fd : FuncData} (F : Fun K "free_behind" "free_behind" s_free_behind f fd) (T : Txt K mg) : FnOk P w K mg base CX0 1 f fd ["wide", "places", "high"] (spOf cc c_free_behind) := by
  refine def_ok (N := ["wide", "places", "high", "free", "at"]) (ps := ["wide", "places", "high"]) (b := b_free_behind) F sc_free_behind fun cdv A outer s H E hr => ?_
  exact (kss_cons (ks_setLc (i := 3) (own := [("at", 4)]) 200 (.nm 4) rfl sc_free_behind.nd rfl rfl (sw_true rfl rfl rfl (by decide +kernel)) (ki_range2 rfl T.n_range (ka_cons (ke_add (kv 2) ke_int) (ka_cons (kv 0) ka_nil))) (blkOk_by (N := ["wide", "places", "high", "free", "at"]) (sc := defScope s_free_behind) (by decide +kernel)) (fun _ _ _ _ _ => pg_name (i := 4) sc_free_behind.nd rfl (Or.inl rfl)) (fun _ _ _ _ _ => kts_one (kt_notIn (kv 4) (kv 1))) (fun _ _ _ _ _ => (kv 4)))
    (kss_one (ks_ret (ke_if (kt_tru (kv 3)) (ke_ix (kv 3) ke_int) ke_non))))

abbrev s_is_taken_ahead : Stmt := top 13
theorem sc_is_taken_ahead : FnScope ["rule", "low", "high", "ahead", "behind"] ["rule", "low", "high", "ahead", "behind"] (defScope s_is_taken_ahead) := ⟨rfl, rfl, rfl, by decide +kernel, rfl, by decide +kernel, by decide +kernel⟩
def b_is_taken_ahead : CP := (cSeq (cIf (cTst (cBin fIsN (cVar 3) (cC .non))) (cRet (cC (.bl false))) cSkip)
    (cSeq (cIf (cOr (cTst (cBin fIsN (cVar 4) (cC .non))) (cTst (cBin fEq (cVar 0) (cC (.str [108, 101, 102, 116]))))) (cRet (cC (.bl true))) cSkip)
    (cRet (cBin fLe (cBin (fInt2 fun i j => i - j) (cVar 1) (cVar 3)) (cBin (fInt2 fun i j => i - j) (cVar 4) (cVar 2))))))
def c_is_taken_ahead : List CV → CH → Option (CV × CH) := cDef 5 5 b_is_taken_ahead
theorem ok_is_taken_ahead {f : Addr} {fd : FuncData} (F : Fun K "is_taken_ahead" "is_taken_ahead" s_is_taken_ahead f fd) (T : Txt K mg) : FnOk P w K mg base CX0 1 f fd ["rule", "low", "high", "ahead", "behind"] (spOf cc c_is_taken_ahead) := by
  refine def_ok (N := ["rule", "low", "high", "ahead", "behind"]) (ps := ["rule", "low", "high", "ahead", "behind"]) (b := b_is_taken_ahead) F sc_is_taken_ahead fun cdv A outer s H E hr => ?_
  exact (kss_cons (ks_if (kt_isN (kv 3) ke_non) (kss_one (ks_ret ke_bl)) kss_nil)
    (kss_cons (ks_if (PW.pt (kw_or (kt_isN (kv 4) ke_non) (kw_or1 (kt_eq (kv 0) (ke_str [108, 101, 102, 116] (by decide +kernel)))))) (kss_one (ks_ret ke_bl)) kss_nil)
    (kss_one (ks_ret (ke_le (ke_sub (kv 1) (kv 3)) (ke_sub (kv 4) (kv 2)))))))

abbrev s_count_moved : Stmt := top 14
theorem sc_count_moved : FnScope ["places", "laid", "rank", "others", "was", "now"] ["places", "laid", "rank"] (defScope s_count_moved) := ⟨rfl, rfl, rfl, by decide +kernel, rfl, by decide +kernel, by decide +kernel⟩
def b_count_moved : CP := (cSeq (cAsg (cBin fAdd (cSl (cVar 1) pNo (pYes (cVar 2))) (cSl (cVar 1) (pYes (cBin fAdd (cVar 2) (cC (.int 1)))) pNo)) (cgN 3))
    (cRet (cCb fLen (cCons (cLc 200 (ciZ (cCons (cVar 0) (cCons (cVar 3) cNil))) (.tp [4, 5]) (cTst (cBin fNe (cVar 4) (cVar 5))) (cVar 4) [4, 5]) cNil))))
def c_count_moved : List CV → CH → Option (CV × CH) := cDef 3 6 b_count_moved
theorem ok_count_moved {f : Addr} {fd : FuncData} (F : Fun K "count_moved" "count_moved" s_count_moved f fd) (T : Txt K mg) : FnOk P w K mg base CX0 1 f fd ["places", "laid", "rank"] (spOf cc c_count_moved) := by
  refine def_ok (N := ["places", "laid", "rank", "others", "was", "now"]) (ps := ["places", "laid", "rank"]) (b := b_count_moved) F sc_count_moved fun cdv A outer s H E hr => ?_
  exact (kss_cons (ks_set (i := 3) sc_count_moved.nd rfl (by first | exact Or.inl rfl | exact Or.inr rfl) (ke_add (ke_slice (kv 1) kp_no (kp_yes (kv 2))) (ke_slice (kv 1) (kp_yes (ke_add (kv 2) ke_int)) kp_no)))
    (kss_one (ks_ret (ke_len rfl T.n_len (ka_cons (ke_lc (own := [("was", 4), ("now", 5)]) 200 (.tp [4, 5]) rfl sc_count_moved.nd (ki_zip rfl T.n_zip (ka_cons (kv 0) (ka_cons (kv 3) ka_nil))) (blkOk_by (N := ["places", "laid", "rank", "others", "was", "now"]) (sc := defScope s_count_moved) (by decide +kernel)) (fun _ _ _ _ _ => pg_tup rfl (pgs_cons (pg_name (i := 4) sc_count_moved.nd rfl (Or.inl rfl)) (pgs_cons (pg_name (i := 5) sc_count_moved.nd rfl (Or.inl rfl)) (pgs_nil)))) (fun _ _ _ _ _ => kts_one (kt_ne (kv 4) (kv 5))) (fun _ _ _ _ _ => (kv 4))) ka_nil)))))

abbrev s_with_new_one : Stmt := top 8
theorem sc_with_new_one : FnScope ["rule", "wide", "places", "rank", "low", "high", "ahead", "behind", "at"] ["rule", "wide", "places", "rank"] (defScope s_with_new_one) := ⟨rfl, rfl, rfl, by decide +kernel, rfl, by decide +kernel, by decide +kernel⟩
def b_with_new_one : CP := (cSeq (cAsg (cIfE (cTst (cBin fGt (cVar 3) (cC (.int 0)))) (cBin fIx (cVar 2) (cBin (fInt2 fun i j => i - j) (cVar 3) (cC (.int 1)))) (cUn fNeg (cC (.int 1)))) (cgN 4))
    (cSeq (cAsg (cIfE (cTst (cBin fLt (cVar 3) (cCb fLen (cCons (cVar 2) cNil)))) (cBin fIx (cVar 2) (cVar 3)) (cVar 1)) (cgN 5))
    (cSeq (cIf (cTst (cBin fGt (cBin (fInt2 fun i j => i - j) (cVar 5) (cVar 4)) (cC (.int 1)))) (cRet (cCb c_inserted (cCons (cVar 2) (cCons (cVar 3) (cCons (cBin (fIntC cDivOk fun i j => i / j) (cBin fAdd (cVar 4) (cVar 5)) (cC (.int 2))) cNil))))) cSkip)
    (cSeq (cIf (cTst (cBin fEq (cVar 0) (cC (.str [101, 118, 101, 110])))) (cRet (cCb c_laid_evenly (cCons (cVar 1) (cCons (cBin fAdd (cCb fLen (cCons (cVar 2) cNil)) (cC (.int 1))) cNil)))) cSkip)
    (cSeq (cAsg (cCb c_free_ahead (cCons (cVar 2) (cCons (cVar 4) cNil))) (cgN 6))
    (cSeq (cAsg (cCb c_free_behind (cCons (cVar 1) (cCons (cVar 2) (cCons (cVar 5) cNil)))) (cgN 7))
    (cSeq (cIf (cTru (cCb c_is_taken_ahead (cCons (cVar 0) (cCons (cVar 4) (cCons (cVar 5) (cCons (cVar 6) (cCons (cVar 7) cNil))))))) (cRet (cCb c_inserted (cCons (cLc 200 (ciL (cVar 2)) (.nm 8) cYes (cIfE (cTst (cChain fLt fLe (cVar 6) (cVar 8) (cVar 4))) (cBin (fInt2 fun i j => i - j) (cVar 8) (cC (.int 1))) (cVar 8)) [8]) (cCons (cVar 3) (cCons (cVar 4) cNil))))) cSkip)
    (cRet (cCb c_inserted (cCons (cLc 200 (ciL (cVar 2)) (.nm 8) cYes (cIfE (cTst (cChain fLe fLt (cVar 5) (cVar 8) (cVar 7))) (cBin fAdd (cVar 8) (cC (.int 1))) (cVar 8)) [8]) (cCons (cVar 3) (cCons (cVar 5) cNil))))))))))))
def c_with_new_one : List CV → CH → Option (CV × CH) := cDef 4 9 b_with_new_one
theorem ok_with_new_one {f : Addr} {fd : FuncData} (F : Fun K "with_new_one" "with_new_one" s_with_new_one f fd) (T : Txt K mg) (O_inserted : Own P w K mg base cc 1 "inserted" ["places", "rank", "at"] c_inserted) (O_laid_evenly : Own P w K mg base cc 1 "laid_evenly" ["wide", "many"] c_laid_evenly) (O_free_ahead : Own P w K mg base cc 1 "free_ahead" ["places", "low"] c_free_ahead) (O_free_behind : Own P w K mg base cc 1 "free_behind" ["wide", "places", "high"] c_free_behind) (O_is_taken_ahead : Own P w K mg base cc 1 "is_taken_ahead" ["rule", "low", "high", "ahead", "behind"] c_is_taken_ahead) : FnOk P w K mg base CX0 2 f fd ["rule", "wide", "places", "rank"] (spOf cc c_with_new_one) := by
  refine def_ok (N := ["rule", "wide", "places", "rank", "low", "high", "ahead", "behind", "at"]) (ps := ["rule", "wide", "places", "rank"]) (b := b_with_new_one) F sc_with_new_one fun cdv A outer s H E hr => ?_
  exact (kss_cons (ks_set (i := 4) sc_with_new_one.nd rfl (by first | exact Or.inl rfl | exact Or.inr rfl) (ke_if (kt_gt (kv 3) ke_int) (ke_ix (kv 2) (ke_sub (kv 3) ke_int)) (ke_neg ke_int)))
    (kss_cons (ks_set (i := 5) sc_with_new_one.nd rfl (by first | exact Or.inl rfl | exact Or.inr rfl) (ke_if (kt_lt (kv 3) (ke_len rfl T.n_len (ka_cons (kv 2) ka_nil))) (ke_ix (kv 2) (kv 3)) (kv 1)))
    (kss_cons (ks_if (kt_gt (ke_sub (kv 5) (kv 4)) ke_int) (kss_one (ks_ret (ke_own O_inserted (hr.mono (by decide)) (ka_cons (kv 2) (ka_cons (kv 3) (ka_cons (ke_div (ke_add (kv 4) (kv 5)) ke_int) ka_nil)))))) kss_nil)
    (kss_cons (ks_if (kt_eq (kv 0) (ke_str [101, 118, 101, 110] (by decide +kernel))) (kss_one (ks_ret (ke_own O_laid_evenly (hr.mono (by decide)) (ka_cons (kv 1) (ka_cons (ke_add (ke_len rfl T.n_len (ka_cons (kv 2) ka_nil)) ke_int) ka_nil))))) kss_nil)
    (kss_cons (ks_set (i := 6) sc_with_new_one.nd rfl (by first | exact Or.inl rfl | exact Or.inr rfl) (ke_own O_free_ahead (hr.mono (by decide)) (ka_cons (kv 2) (ka_cons (kv 4) ka_nil))))
    (kss_cons (ks_set (i := 7) sc_with_new_one.nd rfl (by first | exact Or.inl rfl | exact Or.inr rfl) (ke_own O_free_behind (hr.mono (by decide)) (ka_cons (kv 1) (ka_cons (kv 2) (ka_cons (kv 5) ka_nil)))))
    (kss_cons (ks_if (kt_tru (ke_own O_is_taken_ahead (hr.mono (by decide)) (ka_cons (kv 0) (ka_cons (kv 4) (ka_cons (kv 5) (ka_cons (kv 6) (ka_cons (kv 7) ka_nil))))))) (kss_one (ks_ret (ke_own O_inserted (hr.mono (by decide)) (ka_cons (ke_lc (own := [("at", 8)]) 200 (.nm 8) rfl sc_with_new_one.nd (ki_list (kv 2)) (blkOk_by (N := ["rule", "wide", "places", "rank", "low", "high", "ahead", "behind", "at"]) (sc := defScope s_with_new_one) (by decide +kernel)) (fun _ _ _ _ _ => pg_name (i := 8) sc_with_new_one.nd rfl (Or.inl rfl)) (fun _ _ _ _ _ => kts_nil) (fun _ _ _ _ _ => (ke_if (kt_chain m_lt m_le (kv 6) (kv 8) (kv 4)) (ke_sub (kv 8) ke_int) (kv 8)))) (ka_cons (kv 3) (ka_cons (kv 4) ka_nil)))))) kss_nil)
    (kss_one (ks_ret (ke_own O_inserted (hr.mono (by decide)) (ka_cons (ke_lc (own := [("at", 8)]) 200 (.nm 8) rfl sc_with_new_one.nd (ki_list (kv 2)) (blkOk_by (N := ["rule", "wide", "places", "rank", "low", "high", "ahead", "behind", "at"]) (sc := defScope s_with_new_one) (by decide +kernel)) (fun _ _ _ _ _ => pg_name (i := 8) sc_with_new_one.nd rfl (Or.inl rfl)) (fun _ _ _ _ _ => kts_nil) (fun _ _ _ _ _ => (ke_if (kt_chain m_le m_lt (kv 5) (kv 8) (kv 7)) (ke_add (kv 8) ke_int) (kv 8)))) (ka_cons (kv 3) (ka_cons (kv 5) ka_nil)))))))))))))

abbrev s_check_rule : Stmt := top 20
theorem sc_check_rule : FnScope ["rule"] ["rule"] (defScope s_check_rule) := ⟨rfl, rfl, rfl, by decide +kernel, rfl, by decide +kernel, by decide +kernel⟩
def b_check_rule : CP := (cIf (cTst (cUn (fNotInC [.str [110, 101, 97, 114], .str [108, 101, 102, 116], .str [101, 118, 101, 110]]) (cVar 0))) cNever cSkip)
def c_check_rule : List CV → CH → Option (CV × CH) := cDef 1 1 b_check_rule
theorem ok_check_rule {f : Addr} {fd : FuncData} (F : Fun K "check_rule" "check_rule" s_check_rule f fd) (T : Txt K mg) : FnOk P w K mg base CX0 1 f fd ["rule"] (spOf cc c_check_rule) := by
  refine def_ok (N := ["rule"]) (ps := ["rule"]) (b := b_check_rule) F sc_check_rule fun cdv A outer s H E hr => ?_
  obtain ⟨_, m_RULES, t_RULES⟩ := T.x_RULES
  exact (kss_one (ks_if (kt_notInK (kv 0) rfl m_RULES t_RULES (fun _ => (.cons rfl (.cons rfl (.cons rfl .nil))))) (kss_one ks_never) kss_nil))

abbrev s_check_width : Stmt := top 21
theorem sc_check_width : FnScope ["wide"] ["wide"] (defScope s_check_width) := ⟨rfl, rfl, rfl, by decide +kernel, rfl, by decide +kernel, by decide +kernel⟩
def b_check_width : CP := (cIf (cNot (cTst (cChain fLe fLe (cC (.int 1)) (cVar 0) (cC (.int (6)))))) cNever cSkip)
def c_check_width : List CV → CH → Option (CV × CH) := cDef 1 1 b_check_width
theorem ok_check_width {f : Addr} {fd : FuncData} (F : Fun K "check_width" "check_width" s_check_width f fd) (T : Txt K mg) : FnOk P w K mg base CX0 1 f fd ["wide"] (spOf cc c_check_width) := by
  refine def_ok (N := ["wide"]) (ps := ["wide"]) (b := b_check_width) F sc_check_width fun cdv A outer s H E hr => ?_
  obtain ⟨_, m_MOST_PLACES⟩ := T.x_MOST_PLACES
  exact (kss_one (ks_if (kt_not (kt_chain m_le m_le ke_int (kv 0) (ke_glob (v := .int (6)) (y := .int (6)) (fun _ => rfl) rfl m_MOST_PLACES ⟨_, rfl⟩))) (kss_one ks_never) kss_nil))

abbrev s_check_pattern : Stmt := top 22
theorem sc_check_pattern : FnScope ["pattern", "at", "sign"] ["pattern"] (defScope s_check_pattern) := ⟨rfl, rfl, rfl, by decide +kernel, rfl, by decide +kernel, by decide +kernel⟩
def b_check_pattern : CP := (cSeq (cIf (cTst (cBin fEq (cVar 0) (cC (.str [])))) cNever cSkip)
    (cFor 200 (ciE (cCons (cVar 0) cNil)) (cgTup 2 (cgCons (cgN 1) (cgCons (cgN 2) cgNil))) (cIf (cOr (cTst (cBin fEq (cVar 1) (cC (.int (6))))) (cTst (cBin (fIn true) (cVar 2) (cTup (cCons (cC (.str [48])) (cCons (cC (.str [49])) cNil)))))) cNever cSkip)))
def c_check_pattern : List CV → CH → Option (CV × CH) := cDef 1 3 b_check_pattern
theorem ok_check_pattern {f : Addr} {fd : FuncData} (F : Fun K "check_pattern" "check_pattern" s_check_pattern f fd) (T : Txt K mg) : FnOk P w K mg base CX0 1 f fd ["pattern"] (spOf cc c_check_pattern) := by
  refine def_ok (N := ["pattern", "at", "sign"]) (ps := ["pattern"]) (b := b_check_pattern) F sc_check_pattern fun cdv A outer s H E hr => ?_
  obtain ⟨_, m_MOST_PLACES⟩ := T.x_MOST_PLACES
  exact (kss_cons (ks_if (kt_eq (kv 0) (ke_str [] (by decide +kernel))) (kss_one ks_never) kss_nil)
    (kss_one (ks_for 200 PassesOwn.never rfl (ki_enum rfl T.n_enumerate (ka_cons (kv 0) ka_nil)) (kg_tup rfl (kgs_cons (kg_name (i := 1) sc_check_pattern.nd rfl (by first | exact Or.inl rfl | exact Or.inr rfl)) (kgs_cons (kg_name (i := 2) sc_check_pattern.nd rfl (by first | exact Or.inl rfl | exact Or.inr rfl)) kgs_nil))) (kss_one (ks_if (PW.pt (kw_or (kt_eq (kv 1) (ke_glob (v := .int (6)) (y := .int (6)) (fun _ => rfl) rfl m_MOST_PLACES ⟨_, rfl⟩)) (kw_or1 (kt_notIn (kv 2) (ke_tup (ka_cons (ke_str [48] (by decide +kernel)) (ka_cons (ke_str [49] (by decide +kernel)) ka_nil))))))) (kss_one ks_never) kss_nil)))))

abbrev s_places_of : Stmt := top 23
theorem sc_places_of : FnScope ["pattern", "at", "sign"] ["pattern"] (defScope s_places_of) := ⟨rfl, rfl, rfl, by decide +kernel, rfl, by decide +kernel, by decide +kernel⟩
def b_places_of : CP := (cRet (cLc 200 (ciE (cCons (cVar 0) cNil)) (.tp [1, 2]) (cTst (cBin fEq (cVar 2) (cC (.str [49])))) (cVar 1) [1, 2]))
def c_places_of : List CV → CH → Option (CV × CH) := cDef 1 3 b_places_of
theorem ok_places_of {f : Addr} {fd : FuncData} (F : Fun K "places_of" "places_of" s_places_of f fd) (T : Txt K mg) : FnOk P w K mg base CX0 1 f fd ["pattern"] (spOf cc c_places_of) := by
  refine def_ok (N := ["pattern", "at", "sign"]) (ps := ["pattern"]) (b := b_places_of) F sc_places_of fun cdv A outer s H E hr => ?_
  exact (kss_one (ks_ret (ke_lc (own := [("at", 1), ("sign", 2)]) 200 (.tp [1, 2]) rfl sc_places_of.nd (ki_enum rfl T.n_enumerate (ka_cons (kv 0) ka_nil)) (blkOk_by (N := ["pattern", "at", "sign"]) (sc := defScope s_places_of) (by decide +kernel)) (fun _ _ _ _ _ => pg_tup rfl (pgs_cons (pg_name (i := 1) sc_places_of.nd rfl (Or.inl rfl)) (pgs_cons (pg_name (i := 2) sc_places_of.nd rfl (Or.inl rfl)) (pgs_nil)))) (fun _ _ _ _ _ => kts_one (kt_eq (kv 2) (ke_str [49] (by decide +kernel)))) (fun _ _ _ _ _ => (kv 1)))))

abbrev s_pattern_of : Stmt := top 24
theorem sc_pattern_of : FnScope ["wide", "places", "at"] ["wide", "places"] (defScope s_pattern_of) := ⟨rfl, rfl, rfl, by decide +kernel, rfl, by decide +kernel, by decide +kernel⟩
def b_pattern_of : CP := (cRet (cMt isS mJoin (cC (.str [])) (cCons (cLc 200 (ciR1 (cCons (cVar 0) cNil)) (.nm 2) cYes (cIfE (cTst (cBin (fIn false) (cVar 2) (cVar 1))) (cC (.str [49])) (cC (.str [48]))) [2]) cNil)))
def c_pattern_of : List CV → CH → Option (CV × CH) := cDef 2 3 b_pattern_of
theorem ok_pattern_of {f : Addr} {fd : FuncData} (F : Fun K "pattern_of" "pattern_of" s_pattern_of f fd) (T : Txt K mg) : FnOk P w K mg base CX0 1 f fd ["wide", "places"] (spOf cc c_pattern_of) := by
  refine def_ok (N := ["wide", "places", "at"]) (ps := ["wide", "places"]) (b := b_pattern_of) F sc_pattern_of fun cdv A outer s H E hr => ?_
  exact (kss_one (ks_ret (ke_join (ke_str [] (by decide +kernel)) (ka_cons (ke_lc (own := [("at", 2)]) 200 (.nm 2) rfl sc_pattern_of.nd (ki_range1 rfl T.n_range (ka_cons (kv 0) ka_nil)) (blkOk_by (N := ["wide", "places", "at"]) (sc := defScope s_pattern_of) (by decide +kernel)) (fun _ _ _ _ _ => pg_name (i := 2) sc_pattern_of.nd rfl (Or.inl rfl)) (fun _ _ _ _ _ => kts_nil) (fun _ _ _ _ _ => (ke_if (kt_in (kv 2) (kv 1)) (ke_str [49] (by decide +kernel)) (ke_str [48] (by decide +kernel))))) ka_nil))))

abbrev s_can_be_done : Stmt := top 25
theorem sc_can_be_done : FnScope ["wide", "many", "deed", "what", "rank"] ["wide", "many", "deed"] (defScope s_can_be_done) := ⟨rfl, rfl, rfl, by decide +kernel, rfl, by decide +kernel, by decide +kernel⟩
def b_can_be_done : CP := (cSeq (cAsg (cVar 2) (cgTup 2 (cgCons (cgN 3) (cgCons (cgN 4) cgNil))))
    (cSeq (cIf (cTst (cBin fEq (cVar 3) (cC (.str [112, 117, 116])))) (cRet (cChain3 fLe fLe fLt (cC (.int 0)) (cVar 4) (cVar 1) (cVar 0))) cSkip)
    (cRet (cAndV (cBin fEq (cVar 3) (cC (.str [116, 97, 107, 101]))) (cChain fLe fLt (cC (.int 0)) (cVar 4) (cVar 1))))))
def c_can_be_done : List CV → CH → Option (CV × CH) := cDef 3 5 b_can_be_done
theorem ok_can_be_done {f : Addr} {fd : FuncData} (F : Fun K "can_be_done" "can_be_done" s_can_be_done f fd) (T : Txt K mg) : FnOk P w K mg base CX0 1 f fd ["wide", "many", "deed"] (spOf cc c_can_be_done) := by
  refine def_ok (N := ["wide", "many", "deed", "what", "rank"]) (ps := ["wide", "many", "deed"]) (b := b_can_be_done) F sc_can_be_done fun cdv A outer s H E hr => ?_
  exact (kss_cons (ks_asg (kv 2) (kg_tup rfl (kgs_cons (kg_name (i := 3) sc_can_be_done.nd rfl (by first | exact Or.inl rfl | exact Or.inr rfl)) (kgs_cons (kg_name (i := 4) sc_can_be_done.nd rfl (by first | exact Or.inl rfl | exact Or.inr rfl)) kgs_nil))))
    (kss_cons (ks_if (kt_eq (kv 3) (ke_str [112, 117, 116] (by decide +kernel))) (kss_one (ks_ret (ke_chain3 m_le m_le m_lt ke_int (kv 4) (kv 1) (kv 0)))) kss_nil)
    (kss_one (ks_ret (ke_and (ke_eq (kv 3) (ke_str [116, 97, 107, 101] (by decide +kernel))) (ke_one (ke_chain m_le m_lt ke_int (kv 4) (kv 1))))))))

abbrev s_after_deed : Stmt := top 26
theorem sc_after_deed : FnScope ["rule", "wide", "places", "deed", "what", "rank", "laid"] ["rule", "wide", "places", "deed"] (defScope s_after_deed) := ⟨rfl, rfl, rfl, by decide +kernel, rfl, by decide +kernel, by decide +kernel⟩
def b_after_deed : CP := (cSeq (cAsg (cVar 3) (cgTup 2 (cgCons (cgN 4) (cgCons (cgN 5) cgNil))))
    (cSeq (cIf (cTst (cBin fEq (cVar 4) (cC (.str [116, 97, 107, 101])))) (cRet (cTup (cCons (cC (.int 0)) (cCons (cBin fAdd (cSl (cVar 2) pNo (pYes (cVar 5))) (cSl (cVar 2) (pYes (cBin fAdd (cVar 5) (cC (.int 1)))) pNo)) cNil)))) cSkip)
    (cSeq (cAsg (cCb c_with_new_one (cCons (cVar 0) (cCons (cVar 1) (cCons (cVar 2) (cCons (cVar 5) cNil))))) (cgN 6))
    (cRet (cTup (cCons (cCb c_count_moved (cCons (cVar 2) (cCons (cVar 6) (cCons (cVar 5) cNil)))) (cCons (cVar 6) cNil)))))))
def c_after_deed : List CV → CH → Option (CV × CH) := cDef 4 7 b_after_deed
theorem ok_after_deed {f : Addr} {fd : FuncData} (F : Fun K "after_deed" "after_deed" s_after_deed f fd) (T : Txt K mg) (O_with_new_one : Own P w K mg base cc 2 "with_new_one" ["rule", "wide", "places", "rank"] c_with_new_one) (O_count_moved : Own P w K mg base cc 1 "count_moved" ["places", "laid", "rank"] c_count_moved) : FnOk P w K mg base CX0 3 f fd ["rule", "wide", "places", "deed"] (spOf cc c_after_deed) := by
  refine def_ok (N := ["rule", "wide", "places", "deed", "what", "rank", "laid"]) (ps := ["rule", "wide", "places", "deed"]) (b := b_after_deed) F sc_after_deed fun cdv A outer s H E hr => ?_
  exact (kss_cons (ks_asg (kv 3) (kg_tup rfl (kgs_cons (kg_name (i := 4) sc_after_deed.nd rfl (by first | exact Or.inl rfl | exact Or.inr rfl)) (kgs_cons (kg_name (i := 5) sc_after_deed.nd rfl (by first | exact Or.inl rfl | exact Or.inr rfl)) kgs_nil))))
    (kss_cons (ks_if (kt_eq (kv 4) (ke_str [116, 97, 107, 101] (by decide +kernel))) (kss_one (ks_ret (ke_tup (ka_cons ke_int (ka_cons (ke_add (ke_slice (kv 2) kp_no (kp_yes (kv 5))) (ke_slice (kv 2) (kp_yes (ke_add (kv 5) ke_int)) kp_no)) ka_nil))))) kss_nil)
    (kss_cons (ks_set (i := 6) sc_after_deed.nd rfl (by first | exact Or.inl rfl | exact Or.inr rfl) (ke_own O_with_new_one (hr.mono (by decide)) (ka_cons (kv 0) (ka_cons (kv 1) (ka_cons (kv 2) (ka_cons (kv 5) ka_nil))))))
    (kss_one (ks_ret (ke_tup (ka_cons (ke_own O_count_moved (hr.mono (by decide)) (ka_cons (kv 2) (ka_cons (kv 6) (ka_cons (kv 5) ka_nil)))) (ka_cons (kv 6) ka_nil))))))))

abbrev s_done : Stmt := top 18
theorem sc_done : FnScope ["rule", "pattern", "deed", "wide", "places", "moves", "laid"] ["rule", "pattern", "deed"] (defScope s_done) := ⟨rfl, rfl, rfl, by decide +kernel, rfl, by decide +kernel, by decide +kernel⟩
def b_done : CP := (cSeq (cDrop (cCb c_check_rule (cCons (cVar 0) cNil)))
    (cSeq (cDrop (cCb c_check_pattern (cCons (cVar 1) cNil)))
    (cSeq (cAsg (cCb fLen (cCons (cVar 1) cNil)) (cgN 3))
    (cSeq (cAsg (cCb c_places_of (cCons (cVar 1) cNil)) (cgN 4))
    (cSeq (cIf (cNot (cTru (cCb c_can_be_done (cCons (cVar 3) (cCons (cCb fLen (cCons (cVar 4) cNil)) (cCons (cVar 2) cNil)))))) cNever cSkip)
    (cSeq (cAsg (cCb c_after_deed (cCons (cVar 0) (cCons (cVar 3) (cCons (cVar 4) (cCons (cVar 2) cNil))))) (cgTup 2 (cgCons (cgN 5) (cgCons (cgN 6) cgNil))))
    (cRet (cTup (cCons (cVar 5) (cCons (cCb c_pattern_of (cCons (cVar 3) (cCons (cVar 6) cNil))) cNil))))))))))
def c_done : List CV → CH → Option (CV × CH) := cDef 3 7 b_done
theorem ok_done {f : Addr} {fd : FuncData} (F : Fun K "done" "done" s_done f fd) (T : Txt K mg) (O_check_rule : Own P w K mg base cc 1 "check_rule" ["rule"] c_check_rule) (O_check_pattern : Own P w K mg base cc 1 "check_pattern" ["pattern"] c_check_pattern) (O_places_of : Own P w K mg base cc 1 "places_of" ["pattern"] c_places_of) (O_pattern_of : Own P w K mg base cc 1 "pattern_of" ["wide", "places"] c_pattern_of) (O_can_be_done : Own P w K mg base cc 1 "can_be_done" ["wide", "many", "deed"] c_can_be_done) (O_after_deed : Own P w K mg base cc 3 "after_deed" ["rule", "wide", "places", "deed"] c_after_deed) : FnOk P w K mg base CX0 4 f fd ["rule", "pattern", "deed"] (spOf cc c_done) := by
  refine def_ok (N := ["rule", "pattern", "deed", "wide", "places", "moves", "laid"]) (ps := ["rule", "pattern", "deed"]) (b := b_done) F sc_done fun cdv A outer s H E hr => ?_
  exact (kss_cons (ks_expr (ke_own O_check_rule (hr.mono (by decide)) (ka_cons (kv 0) ka_nil)))
    (kss_cons (ks_expr (ke_own O_check_pattern (hr.mono (by decide)) (ka_cons (kv 1) ka_nil)))
    (kss_cons (ks_set (i := 3) sc_done.nd rfl (by first | exact Or.inl rfl | exact Or.inr rfl) (ke_len rfl T.n_len (ka_cons (kv 1) ka_nil)))
    (kss_cons (ks_set (i := 4) sc_done.nd rfl (by first | exact Or.inl rfl | exact Or.inr rfl) (ke_own O_places_of (hr.mono (by decide)) (ka_cons (kv 1) ka_nil)))
    (kss_cons (ks_if (kt_not (kt_tru (ke_own O_can_be_done (hr.mono (by decide)) (ka_cons (kv 3) (ka_cons (ke_len rfl T.n_len (ka_cons (kv 4) ka_nil)) (ka_cons (kv 2) ka_nil)))))) (kss_one ks_never) kss_nil)
    (kss_cons (ks_asg (ke_own O_after_deed (hr.mono (by decide)) (ka_cons (kv 0) (ka_cons (kv 3) (ka_cons (kv 4) (ka_cons (kv 2) ka_nil))))) (kg_tup rfl (kgs_cons (kg_name (i := 5) sc_done.nd rfl (by first | exact Or.inl rfl | exact Or.inr rfl)) (kgs_cons (kg_name (i := 6) sc_done.nd rfl (by first | exact Or.inl rfl | exact Or.inr rfl)) kgs_nil))))
    (kss_one (ks_ret (ke_tup (ka_cons (kv 5) (ka_cons (ke_own O_pattern_of (hr.mono (by decide)) (ka_cons (kv 3) (ka_cons (kv 6) ka_nil))) ka_nil)))))))))))
end
end CK

namespace CK
open PySem L2 PyProof.Rows
/-! a shelf and the deeds, for each pattern of at most six places: what is run -/
def bits : Nat → List (List Nat)
  | 0 => [[]]
  | n + 1 => (bits n).map (48 :: ·) ++ (bits n).map (49 :: ·)
def rules : List (List Nat) := [[110, 101, 97, 114], [108, 101, 102, 116], [101, 118, 101, 110]]
def many : List Nat → Nat
  | [] => 0
  | 49 :: r => many r + 1
  | _ :: r => many r
def plFrom : Nat → List Nat → List Int
  | _, [] => []
  | i, 49 :: r => (i : Int) :: plFrom (i + 1) r
  | i, _ :: r => plFrom (i + 1) r
/-- the taken places -/
def pl (p : List Nat) : List Int := plFrom 0 p
def isBits : List Nat → Bool
  | [] => true
  | 48 :: r => isBits r
  | 49 :: r => isBits r
  | _ :: _ => false
def word : Bool → List Nat
  | true => [112, 117, 116]
  | false => [116, 97, 107, 101]
abbrev Deed := Bool × Nat
def deeds (p : List Nat) : List Deed := (List.range (many p)).map (fun r => (false, r)) ++ (match Nat.blt (many p) p.length with | true => (List.range (many p + 1)).map (fun r => (true, r)) | false => [])
def dT (d : Deed) : CO := .tup [.str (word d.1), .int d.2]
/-- a pair of a number and a text, what was there kept -/
def rdTS (os : List CO) : Option (CV × CH) → Option (Int × List Nat)
  | some (.ref n, h) => (match h.get n with
    | some (.tup [.int m, .str s]) => (match kept h 0 os with | true => some (m, s) | false => none)
    | _ => none)
  | _ => none
theorem rdTS_some {os : List CO} {o : Option (CV × CH)} {m : Int} {s : List Nat} (e : rdTS os o = some (m, s)) : ∃ n h, o = some (.ref n, h) ∧ h.get n = some (.tup [.int m, .str s]) ∧ kept h 0 os = true := by
  unfold rdTS at e
  split at e
  · split at e
    · split at e
      · rename_i hk
        cases e
        exact ⟨_, _, rfl, by assumption, hk⟩
      · cases e
    · cases e
  · cases e
def intsC : List CV → Option (List Int)
  | [] => some []
  | .int i :: r => (match intsC r with | some l => some (i :: l) | none => none)
  | _ :: _ => none
theorem intsC_some : ∀ {xs : List CV} {l : List Int}, intsC xs = some l → xs = l.map CV.int
  | [], _, e => by cases e; rfl
  | .int i :: r, l, e => by
    unfold intsC at e
    split at e
    · rename_i q eq
      cases e
      rw [intsC_some eq]; rfl
    · cases e
  | .non :: _, _, e => by cases e
  | .bl _ :: _, _, e => by cases e
  | .str _ :: _, _, e => by cases e
  | .ref _ :: _, _, e => by cases e
  | .ty _ :: _, _, e => by cases e
  | .key _ :: _, _, e => by cases e
  | .off _ :: _, _, e => by cases e
  | .opq :: _, _, e => by cases e
/-- a pair of a number and a new list of ints -/
def rdTL (os : List CO) : Option (CV × CH) → Option (Int × List Int)
  | some (.ref n, h) => (match h.get n with
    | some (.tup [.int m, .ref k]) => (match h.get k with
      | some (.lst xs) => (match intsC xs with
        | some l => (match kept h 0 os with | true => some (m, l) | false => none)
        | none => none)
      | _ => none)
    | _ => none)
  | _ => none
theorem rdTL_some {os : List CO} {o : Option (CV × CH)} {m : Int} {l : List Int} (e : rdTL os o = some (m, l)) : ∃ n k h, o = some (.ref n, h) ∧ h.get n = some (.tup [.int m, .ref k]) ∧ h.get k = some (.lst (l.map CV.int)) ∧ kept h 0 os = true := by
  unfold rdTL at e
  split at e
  · split at e
    · split at e
      · split at e
        · split at e
          · rename_i hk
            cases e
            refine ⟨_, _, _, rfl, by assumption, ?_, hk⟩
            rw [← intsC_some (by assumption)]
            assumption
          · cases e
        · cases e
      · cases e
    · cases e
  · cases e
def isT (os : List CO) : Option (CV × CH) → Bool
  | some (.bl true, h) => kept h 0 os
  | _ => false
theorem isT_some {os : List CO} {o : Option (CV × CH)} (e : isT os o = true) : ∃ h, o = some (.bl true, h) ∧ kept h 0 os = true := by
  unfold isT at e
  split at e
  · exact ⟨_, rfl, e⟩
  · cases e
def isN (os : List CO) : Option (CV × CH) → Bool
  | some (.non, h) => kept h 0 os
  | _ => false
theorem isN_some {os : List CO} {o : Option (CV × CH)} (e : isN os o = true) : ∃ h, o = some (.non, h) ∧ kept h 0 os = true := by
  unfold isN at e
  split at e
  · exact ⟨_, rfl, e⟩
  · cases e
def isStr (os : List CO) (t : List Nat) : Option (CV × CH) → Bool
  | some (.str s, h) => s == t && kept h 0 os
  | _ => false
theorem isStr_some {os : List CO} {t : List Nat} {o : Option (CV × CH)} (e : isStr os t o = true) : ∃ h, o = some (.str t, h) ∧ kept h 0 os = true := by
  unfold isStr at e
  split at e
  · rw [Bool.and_eq_true] at e
    rw [eq_of_beq e.1]
    exact ⟨_, rfl, e.2⟩
  · cases e
def ileq : List Int → List Int → Bool
  | [], [] => true
  | a :: as, b :: bs => a == b && ileq as bs
  | _, _ => false
theorem ileq_eq : ∀ {a b : List Int}, ileq a b = true → a = b
  | [], [], _ => rfl
  | a :: as, b :: bs, h => by
    have h : (a == b && ileq as bs) = true := h
    rw [Bool.and_eq_true] at h
    rw [eq_of_beq h.1, ileq_eq h.2]
  | [], _ :: _, h => absurd h Bool.false_ne_true
  | _ :: _, [], h => absurd h Bool.false_ne_true
def plL (p : List Nat) : CO := .lst ((pl p).map CV.int)
def runCan (p : List Nat) (d : Deed) := c_can_be_done [.int p.length, .int (many p), .ref 0] (CH.of [dT d])
def runAfter (r p : List Nat) (d : Deed) := c_after_deed [.str r, .int p.length, .ref 0, .ref 1] (CH.of [plL p, dT d])
def runDone (r p : List Nat) (d : Deed) := c_done [.str r, .str p, .ref 0] (CH.of [dT d])
/-- a row without one -/
def cut (l : List Int) (r : Nat) : List Int := l.take r ++ l.drop (r + 1)
/-- at how many places two rows differ -/
def dif : List Int → List Int → Nat
  | a :: as, b :: bs => (match a == b with | true => dif as bs | false => dif as bs + 1)
  | _, _ => 0
/-- what a deed costs from one pattern to another -/
def costM (p q : List Nat) (d : Deed) : Option Int := match d.1 with
  | false => (match ileq (cut (pl p) d.2) (pl q) with | true => some 0 | false => none)
  | true => (match Nat.beq (many q) (many p + 1) with | true => some (dif (pl p) (cut (pl q) d.2) : Nat) | false => none)
def isCo (m : Int) : Option Int → Bool
  | some c => c == m
  | none => false
def isLI (os : List CO) (l : List Int) : Option (CV × CH) → Bool
  | some (.ref n, h) => (match h.get n with
    | some (.lst xs) => (match intsC xs with
      | some l' => ileq l' l && kept h 0 os
      | none => false)
    | _ => false)
  | _ => false
theorem isLI_some {os : List CO} {l : List Int} {o : Option (CV × CH)} (e : isLI os l o = true) : ∃ n h, o = some (.ref n, h) ∧ h.get n = some (.lst (l.map CV.int)) ∧ kept h 0 os = true := by
  unfold isLI at e
  split at e
  · split at e
    · split at e
      · rename_i l' el
        rw [Bool.and_eq_true] at e
        refine ⟨_, _, rfl, ?_, e.2⟩
        rw [← ileq_eq e.1, ← intsC_some el]
        assumption
      · cases e
    · cases e
  · cases e
def mem1 (i : Int) : List Int → Bool
  | [] => false
  | j :: r => match i == j with | true => true | false => mem1 i r
def patF : Nat → Nat → List Int → List Nat
  | 0, _, _ => []
  | n + 1, i, l => (match mem1 (i : Int) l with | true => 49 | false => 48) :: patF n (i + 1) l
/-- what a deed does, as the places behind tell it -/
def ansA (r p : List Nat) (d : Deed) : Option (Int × List Nat) := match rdTL [plL p, dT d] (runAfter r p d) with
  | some (m, l) => (match ileq l (pl (patF p.length 0 l)) with
    | true => some (m, patF p.length 0 l)
    | false => none)
  | none => none
def isFl (os : List CO) : Option (CV × CH) → Bool
  | some (.bl false, h) => kept h 0 os
  | _ => false
theorem isFl_some {os : List CO} {o : Option (CV × CH)} (e : isFl os o = true) : ∃ h, o = some (.bl false, h) ∧ kept h 0 os = true := by
  unfold isFl at e
  split at e
  · exact ⟨_, rfl, e⟩
  · cases e
def isDn (os : List CO) (m : Int) (q : List Nat) (o : Option (CV × CH)) : Bool := match rdTS os o with
  | some (m', q') => m == m' && q == q'
  | none => false
def goodD (r p : List Nat) (d : Deed) : Bool := isT [dT d] (runCan p d) && (match ansA r p d with
  | some (m, q) => Nat.beq q.length p.length && (isBits q && ((match d.1 with | true => Nat.beq (many q) (many p + 1) | false => Nat.beq (many q + 1) (many p)) && ((isDn [dT d] m q (runDone r p d) && isCo m (costM p q d)) && (decide (0 ≤ m) && decide (m ≤ 6)))))
  | none => false)
/-- all deeds of a length, done or not -/
def allD (n : Nat) : List Deed := (List.range n).map (fun j => (true, j)) ++ (List.range n).map (fun j => (false, j))
def canD (p : List Nat) (d : Deed) : Bool := match d.1 with
  | true => Nat.ble d.2 (many p) && Nat.blt (many p) p.length
  | false => Nat.blt d.2 (many p)
def goodC (p : List Nat) (d : Deed) : Bool := match canD p d with
  | true => true
  | false => isFl [dT d] (runCan p d)
def goodP (p : List Nat) : Bool := rules.all (fun r => (deeds p).all (goodD r p)) && ((allD p.length).all (goodC p) && (isLI [] (pl p) (c_places_of [.str p] (CH.of [])) && isStr [plL p] p (c_pattern_of [.int p.length, .ref 0] (CH.of [plL p]))))
def goodR (r : List Nat) : Bool := isN [] (c_check_rule [.str r] (CH.of []))
def goodW (n : Nat) : Bool := isN [] (c_check_width [.int n] (CH.of []))
end CK

namespace CK
theorem g3_small : ((bits 1).all goodP && (bits 2).all goodP && (bits 3).all goodP) = true := by decide +kernel
theorem gp_r : rules.all goodR = true := by decide +kernel
theorem gp_w : ([1, 2, 3, 4, 5, 6] : List Nat).all goodW = true := by decide +kernel
theorem g6_7 : (((bits 6).drop 56).take 8).all goodP = true := by decide +kernel
theorem g6_3 : (((bits 6).drop 24).take 8).all goodP = true := by decide +kernel
theorem g5_3 : (((bits 5).drop 24).take 8).all goodP = true := by decide +kernel
theorem g4_1 : (((bits 4).drop 8).take 8).all goodP = true := by decide +kernel
end CK

namespace CK
theorem g6_6 : (((bits 6).drop 48).take 8).all goodP = true := by decide +kernel
theorem g6_2 : (((bits 6).drop 16).take 8).all goodP = true := by decide +kernel
theorem g5_2 : (((bits 5).drop 16).take 8).all goodP = true := by decide +kernel
theorem g4_0 : (((bits 4).drop 0).take 8).all goodP = true := by decide +kernel
end CK

namespace CK
theorem g6_5 : (((bits 6).drop 40).take 8).all goodP = true := by decide +kernel
theorem g6_1 : (((bits 6).drop 8).take 8).all goodP = true := by decide +kernel
theorem g5_1 : (((bits 5).drop 8).take 8).all goodP = true := by decide +kernel
end CK

namespace CK
theorem g6_4 : (((bits 6).drop 32).take 8).all goodP = true := by decide +kernel
theorem g6_0 : (((bits 6).drop 0).take 8).all goodP = true := by decide +kernel
theorem g5_0 : (((bits 5).drop 0).take 8).all goodP = true := by decide +kernel
end CK

namespace CK
open PySem L2 PyProof.Rows
theorem bits_mem : ∀ {p : List Nat}, isBits p = true → p ∈ bits p.length
  | [], _ => List.mem_singleton.mpr rfl
  | 48 :: r, h => List.mem_append_left _ (List.mem_map.mpr ⟨r, bits_mem (p := r) h, rfl⟩)
  | 49 :: r, h => List.mem_append_right _ (List.mem_map.mpr ⟨r, bits_mem (p := r) h, rfl⟩)
theorem of_bits {n : Nat} {f : List Nat → Bool} (h : (bits n).all f = true) {p : List Nat} (hb : isBits p = true) (hl : p.length = n) : f p = true := List.all_eq_true.mp h p (by rw [← hl]; exact bits_mem hb)
theorem all8 {α : Type} {f : α → Bool} {l : List α} {k : Nat} (a : ((l.drop k).take 8).all f = true) (b : (l.drop (k + 8)).all f = true) : (l.drop k).all f = true := by
  have e : l.drop k = (l.drop k).take 8 ++ l.drop (k + 8) := by
    rw [← List.drop_drop]
    exact (List.take_append_drop 8 _).symm
  rw [e, List.all_append, a, b]
  rfl
theorem g3_4 : (bits 4).all goodP = true := all8 (k := 0) g4_0 (all8 (k := 8) g4_1 rfl)
theorem g3_5 : (bits 5).all goodP = true := all8 (k := 0) g5_0 (all8 (k := 8) g5_1 (all8 (k := 16) g5_2 (all8 (k := 24) g5_3 rfl)))
theorem g3_6 : (bits 6).all goodP = true := all8 (k := 0) g6_0 (all8 (k := 8) g6_1 (all8 (k := 16) g6_2 (all8 (k := 24) g6_3 (all8 (k := 32) g6_4 (all8 (k := 40) g6_5 (all8 (k := 48) g6_6 (all8 (k := 56) g6_7 rfl)))))))
theorem goodP_all {p : List Nat} (hb : isBits p = true) (h1 : 1 ≤ p.length) (h6 : p.length ≤ 6) : goodP p = true := by
  have hl : p.length = 1 ∨ p.length = 2 ∨ p.length = 3 ∨ p.length = 4 ∨ p.length = 5 ∨ p.length = 6 := by omega
  have g := g3_small
  simp only [Bool.and_eq_true] at g
  rcases hl with hl | hl | hl | hl | hl | hl
  · exact of_bits g.1.1 hb hl
  · exact of_bits g.1.2 hb hl
  · exact of_bits g.2 hb hl
  · exact of_bits g3_4 hb hl
  · exact of_bits g3_5 hb hl
  · exact of_bits g3_6 hb hl
def step1 (w n : Nat) (d : Deed) : Option Nat := match d.1 with
  | true => if d.2 ≤ n ∧ n < w then some (n + 1) else none
  | false => if d.2 < n then some (n - 1) else none
def cnt (w : Nat) : Nat → List Deed → Option Nat
  | n, [] => some n
  | n, d :: ds => match step1 w n d with
    | some m => cnt w m ds
    | none => none
theorem cnt_snoc {w : Nat} {d : Deed} {m' : Nat} : ∀ {ds : List Deed} {n m : Nat}, cnt w n ds = some m → step1 w m d = some m' → cnt w n (ds ++ [d]) = some m'
  | [], n, m, h, s => by
    cases h
    show (match step1 w n d with | some m => cnt w m [] | none => none) = some m'
    rw [s]
    rfl
  | e :: ds, n, m, h, s => by
    show (match step1 w n e with | some m => cnt w m (ds ++ [d]) | none => none) = some m'
    have h : (match step1 w n e with | some m => cnt w m ds | none => none) = some m := h
    cases q : step1 w n e with
    | none => rw [q] at h; cases h
    | some k =>
      rw [q] at h
      exact cnt_snoc h s
theorem cnt_take {w : Nat} : ∀ {ds : List Deed} {n m i : Nat} {d : Deed}, cnt w n ds = some m → ds[i]? = some d → ∃ k k', cnt w n (ds.take i) = some k ∧ step1 w k d = some k'
  | e :: ds, n, m, i, d, h, g => by
    have h : (match step1 w n e with | some m => cnt w m ds | none => none) = some m := h
    cases q : step1 w n e with
    | none => rw [q] at h; cases h
    | some k =>
      rw [q] at h
      cases i with
      | zero => cases g; exact ⟨n, k, rfl, q⟩
      | succ i =>
        obtain ⟨a, b, h1, h2⟩ := cnt_take (i := i) h (by simpa using g)
        refine ⟨a, b, ?_, h2⟩
        show (match step1 w n e with | some m => cnt w m (ds.take i) | none => none) = some a
        rw [q]
        exact h1
structure Good (r p : List Nat) (d : Deed) (m : Int) (q : List Nat) : Prop where
  after : rdTL [plL p, dT d] (runAfter r p d) = some (m, pl q)
  can : isT [dT d] (runCan p d) = true
  done : rdTS [dT d] (runDone r p d) = some (m, q)
  cost : costM p q d = some m
  len : q.length = p.length
  bits : isBits q = true
  cnt : step1 p.length (many p) d = some (many q)
  m0 : 0 ≤ m
  m6 : m ≤ 6
theorem many_le : ∀ p : List Nat, many p ≤ p.length
  | [] => Nat.le_refl _
  | x :: r => by
    have := many_le r
    unfold many
    split
    · rename_i e; cases e
    · rename_i e; cases e; simp; omega
    · rename_i e; cases e; simp; omega
theorem deed_mem {p : List Nat} {d : Deed} {k : Nat} (h : step1 p.length (many p) d = some k) : d ∈ deeds p := by
  obtain ⟨b, r⟩ := d
  unfold deeds
  cases b with
  | true =>
    have h : (if r ≤ many p ∧ many p < p.length then some (many p + 1) else none) = some k := h
    split at h
    · rename_i hc
      have e : Nat.blt (many p) p.length = true := Nat.ble_eq_true_of_le (show many p + 1 ≤ p.length by omega)
      rw [e]
      exact List.mem_append_right _ (List.mem_map.mpr ⟨r, List.mem_range.mpr (by omega), rfl⟩)
    · cases h
  | false =>
    have h : (if r < many p then some (many p - 1) else none) = some k := h
    split at h
    · rename_i hc
      exact List.mem_append_left _ (List.mem_map.mpr ⟨r, List.mem_range.mpr hc, rfl⟩)
    · cases h
theorem good_of {r p : List Nat} {d : Deed} {k : Nat} (hr : r ∈ rules) (hb : isBits p = true) (h1 : 1 ≤ p.length) (h6 : p.length ≤ 6) (hd : step1 p.length (many p) d = some k) : ∃ m q, ansA r p d = some (m, q) ∧ Good r p d m q := by
  have g := goodP_all hb h1 h6
  unfold goodP at g
  rw [Bool.and_eq_true] at g
  have g1 := List.all_eq_true.mp (List.all_eq_true.mp g.1 r hr) d (deed_mem hd)
  unfold goodD at g1
  rw [Bool.and_eq_true] at g1
  obtain ⟨gc, gs⟩ := g1
  cases es : ansA r p d with
  | none => rw [es] at gs; cases gs
  | some mq =>
    obtain ⟨m, q⟩ := mq
    rw [es] at gs
    simp only [Bool.and_eq_true] at gs
    obtain ⟨gl, gi, gm, ⟨gdn, gco⟩, gm0, gm6⟩ := gs
    have ga : rdTL [plL p, dT d] (runAfter r p d) = some (m, pl q) := by
      unfold ansA at es
      split at es
      · rename_i m' l e
        split at es
        · rename_i ei
          cases es
          rw [e]
          exact congrArg (fun u => some (m, u)) (ileq_eq ei)
        · cases es
      · cases es
    refine ⟨m, q, rfl, ga, gc, ?_, ?_, Nat.eq_of_beq_eq_true gl, gi, ?_, of_decide_eq_true gm0, of_decide_eq_true gm6⟩
    · unfold isDn at gdn
      split at gdn
      · rename_i m' q' e
        rw [Bool.and_eq_true] at gdn
        rw [e, eq_of_beq gdn.1, eq_of_beq gdn.2]
      · cases gdn
    · unfold isCo at gco
      split at gco
      · rename_i c e
        rw [e, eq_of_beq gco]
      · cases gco
    · obtain ⟨b, n⟩ := d
      cases b with
      | true =>
        have gm := Nat.eq_of_beq_eq_true gm
        have hd : (if n ≤ many p ∧ many p < p.length then some (many p + 1) else none) = some k := hd
        show (if n ≤ many p ∧ many p < p.length then some (many p + 1) else none) = some (many q)
        split at hd
        · rename_i hc; rw [if_pos hc, gm]
        · cases hd
      | false =>
        have gm := Nat.eq_of_beq_eq_true gm
        have hd : (if n < many p then some (many p - 1) else none) = some k := hd
        show (if n < many p then some (many p - 1) else none) = some (many q)
        split at hd
        · rename_i hc; rw [if_pos hc]; congr 1; omega
        · cases hd
/-- what can't be done -/
theorem cant_of {p : List Nat} {d : Deed} (hb : isBits p = true) (h1 : 1 ≤ p.length) (h6 : p.length ≤ 6) (hj : d.2 < p.length) (hd : step1 p.length (many p) d = none) : isFl [dT d] (runCan p d) = true := by
  have g := goodP_all hb h1 h6
  unfold goodP at g
  simp only [Bool.and_eq_true] at g
  obtain ⟨b, n⟩ := d
  have hj : n < p.length := hj
  have hm : (b, n) ∈ allD p.length := by
    unfold allD
    cases b with
    | true => exact List.mem_append_left _ (List.mem_map.mpr ⟨n, List.mem_range.mpr hj, rfl⟩)
    | false => exact List.mem_append_right _ (List.mem_map.mpr ⟨n, List.mem_range.mpr hj, rfl⟩)
  have g1 := List.all_eq_true.mp g.2.1 (b, n) hm
  have hc : canD p (b, n) = false := by
    cases b with
    | true =>
      have hd : (if n ≤ many p ∧ many p < p.length then some (many p + 1) else none) = none := hd
      show (Nat.ble n (many p) && Nat.blt (many p) p.length) = false
      cases q : (Nat.ble n (many p) && Nat.blt (many p) p.length) with
      | false => rfl
      | true =>
        rw [Bool.and_eq_true] at q
        have q1 := Nat.le_of_ble_eq_true q.1
        have q2 : many p + 1 ≤ p.length := Nat.le_of_ble_eq_true q.2
        rw [if_pos ⟨q1, by omega⟩] at hd
        cases hd
    | false =>
      have hd : (if n < many p then some (many p - 1) else none) = none := hd
      show Nat.blt n (many p) = false
      cases q : Nat.blt n (many p) with
      | false => rfl
      | true =>
        have q2 : n + 1 ≤ many p := Nat.le_of_ble_eq_true q
        rw [if_pos (by omega)] at hd
        cases hd
  unfold goodC at g1
  rw [hc] at g1
  exact g1
/-- what a step tells -/
def stepM (r p : List Nat) (d : Deed) : Int × List Nat := (ansA r p d).getD (0, [])
theorem good_step {r p : List Nat} {d : Deed} {k : Nat} (hr : r ∈ rules) (hb : isBits p = true) (h1 : 1 ≤ p.length) (h6 : p.length ≤ 6) (hd : step1 p.length (many p) d = some k) : Good r p d (stepM r p d).1 (stepM r p d).2 := by
  obtain ⟨m, q, e1, g⟩ := good_of hr hb h1 h6 hd
  have e : stepM r p d = (m, q) := by unfold stepM; rw [e1]; rfl
  rw [e]
  exact g
/-- many steps -/
def runM (r : List Nat) : List Nat → List Deed → List Int × List Nat
  | p, [] => ([], p)
  | p, d :: ds => ((stepM r p d).1 :: (runM r (stepM r p d).2 ds).1, (runM r (stepM r p d).2 ds).2)
theorem runM_snoc (r : List Nat) (d : Deed) : ∀ (ds : List Deed) (p : List Nat), runM r p (ds ++ [d]) = ((runM r p ds).1 ++ [(stepM r (runM r p ds).2 d).1], (stepM r (runM r p ds).2 d).2)
  | [], p => rfl
  | e :: ds, p => by
    show ((stepM r p e).1 :: (runM r (stepM r p e).2 (ds ++ [d])).1, (runM r (stepM r p e).2 (ds ++ [d])).2) = _
    rw [runM_snoc r d ds]
    rfl
theorem runM_len (r : List Nat) : ∀ (ds : List Deed) (p : List Nat), (runM r p ds).1.length = ds.length
  | [], _ => rfl
  | d :: ds, p => by
    show (runM r (stepM r p d).2 ds).1.length + 1 = _
    rw [runM_len r ds]
    rfl
def zeros (w : Nat) : List Nat := List.replicate w 48
theorem zeros_ok : ∀ w : Nat, isBits (zeros w) = true ∧ many (zeros w) = 0 ∧ (zeros w).length = w
  | 0 => ⟨rfl, rfl, rfl⟩
  | w + 1 => by
    obtain ⟨a, b, c⟩ := zeros_ok w
    exact ⟨a, b, by unfold zeros; rw [List.length_replicate]⟩
theorem plFrom_zeros : ∀ (w i : Nat), plFrom i (zeros w) = []
  | 0, _ => rfl
  | w + 1, i => plFrom_zeros w (i + 1)
/-- the state behind some deeds that can be done -/
theorem run_state {r : List Nat} {w : Nat} (hr : r ∈ rules) (h1 : 1 ≤ w) (h6 : w ≤ 6) : ∀ (ds : List Deed) {p : List Nat} {k : Nat}, isBits p = true → p.length = w → cnt w (many p) ds = some k →
    isBits (runM r p ds).2 = true ∧ (runM r p ds).2.length = w ∧ many (runM r p ds).2 = k
  | [], p, k, hb, hl, hc => by cases hc; exact ⟨hb, hl, rfl⟩
  | d :: ds, p, k, hb, hl, hc => by
    have hc : (match step1 w (many p) d with | some m => cnt w m ds | none => none) = some k := hc
    cases q : step1 w (many p) d with
    | none => rw [q] at hc; cases hc
    | some m =>
      rw [q] at hc
      have g := good_step hr hb (by omega) (by omega) (by rw [hl]; exact q)
      have gc := g.cnt
      rw [hl, q] at gc
      cases gc
      exact run_state hr h1 h6 ds g.bits (g.len.trans hl) hc
theorem pattern_good {p : List Nat} (hb : isBits p = true) (h1 : 1 ≤ p.length) (h6 : p.length ≤ 6) : ∃ h', c_pattern_of [.int p.length, .ref 0] (CH.of [plL p]) = some (.str p, h') ∧ kept h' 0 [plL p] = true := by
  have g := goodP_all hb h1 h6
  unfold goodP at g
  simp only [Bool.and_eq_true] at g
  exact isStr_some g.2.2.2
theorem places_good {p : List Nat} (hb : isBits p = true) (h1 : 1 ≤ p.length) (h6 : p.length ≤ 6) : ∃ n h', c_places_of [.str p] (CH.of []) = some (.ref n, h') ∧ h'.get n = some (.lst ((pl p).map CV.int)) ∧ kept h' 0 [] = true := by
  have g := goodP_all hb h1 h6
  unfold goodP at g
  simp only [Bool.and_eq_true] at g
  exact isLI_some g.2.2.1
end CK

namespace CK
open PySem L2 PyProof.Rows
section
variable {P : Program} {w : World} {K : PySem.W.Frag} {mg : Str → Option Value} {base : Heap} {cc : Nat → Addr}
/-- the draws' list: two numbers, then more -/
def Dice (ns : List Int) : Prop := 2 ≤ ns.length ∧ ns.length ≤ 1000
def DiceAt (H : Hp) (a : Addr) : Prop := ∃ ns, Dice ns ∧ H a = some (.lst (ns.map V.int))
abbrev s__law_off : Stmt := top 51
theorem sc__law_off : FnScope ["_law_d", "_law_most", "_law_found"] ["_law_d", "_law_most"] (defScope s__law_off) := ⟨rfl, rfl, rfl, by decide +kernel, rfl, by decide +kernel, by decide +kernel⟩
def spOff : Sp := fun vs H Q _ => ∃ a m ns, vs = [.ref a, .int m] ∧ 0 < m ∧ m < 1073741824 ∧ Dice ns ∧ H a = some (.lst (ns.map V.int)) ∧ ∀ r ns', 0 ≤ r → r < m → Dice ns' → Q (.int r) (upd H a (.lst (ns'.map V.int)))
theorem ix_rd {H : Hp} {Q : VK} {a : Addr} {xs : List V} {i : Int} {j : Nat} {v : V} (h : H a = some (.lst xs)) (e : i = (j : Int)) (g : xs[j]? = some v) (q : Q v H) : rIxL K (.ref a) (.int i) H Q := ⟨a, xs, i, v, rfl, rfl, SqL.of h, at_of e g, q⟩
theorem upd_id {H : Hp} {a : Addr} {o : HO} (h : H a = some o) : upd H a o = H := by
  funext b
  unfold upd
  split
  · rename_i e; rw [e, h]
  · rfl
theorem mod_lt' {r m : Int} (h : 0 < m) : 0 ≤ r % m ∧ r % m < m := ⟨Int.emod_nonneg _ (by omega), Int.emod_lt_of_pos _ h⟩
theorem ok_off {f : Addr} {fd : FuncData} (F : Fun K "_law_off" "_law_off" s__law_off f fd) (T : Txt K mg) : FnOk P w K mg base CX0 1 f fd ["_law_d", "_law_most"] spOff := by
  refine F.ok sc__law_off (fun vs H Q E h => ?_) (fun cdv A outer s H vs Q E hr h => ?_)
  · obtain ⟨a, m, ns, rfl, _⟩ := h
    rfl
  · obtain ⟨a, m, ns, rfl, hm, hm2, hd, ha, kq⟩ := h
    have nd := sc__law_off.nd
    refine ⟨_, pss_cons (ps_if (PW.pt (pw_and (pt_cmpR op_eq (pe_ix (r := rIxL K) ix_list (pv 0) pe_int (fun _ _ => rfl)) pe_int (nomark _)) (pw_and1 (pt_cmpR op_gt (pe_callB call_len_seq (by rfl) T.n_len boot_len (pa_cons (pv 0) pa_nil)) pe_int (nomark _)))))
        (pss_one (ps_asg (pe_bm PySem.F.plainAttrs_list PySem.F.slot_list_pop PySem.F.type_list_pop mt_popAt (pv 0) (pa_cons pe_int pa_nil)) (pg_sub (pv 0) pe_int set_list))) pss_nil)
      (pss_cons (ps_if (pt_cmpR op_gt (pe_ix (r := rIxL K) ix_list (pv 0) pe_int (fun _ _ => rfl)) pe_int (nomark _))
        (pss_cons (ps_set (i := 2) nd rfl (Or.inl rfl) (pe_op op_mod (pe_ix (r := rIxL K) ix_list (pv 0) pe_int (fun _ _ => rfl)) (pv 1)))
        (pss_cons (ps_asg (pe_op op_fdiv (pe_ix (r := rIxL K) ix_list (pv 0) pe_int (fun _ _ => rfl)) (pv 1)) (pg_sub (pv 0) pe_int set_list))
        (pss_one (ps_ret (pv 2))))) pss_nil)
      (pss_cons (ps_asg (pe_op op_mod (pe_op op_add (pe_op op_mul (pe_ix (r := rIxL K) ix_list (pv 0) pe_int (fun _ _ => rfl)) pe_int) pe_int) pe_int) (pg_sub (pv 0) pe_int set_list))
      (pss_one (ps_ret (pe_op op_mod (pe_op op_fdiv (pe_ix (r := rIxL K) ix_list (pv 0) pe_int (fun _ _ => rfl)) pe_int) (pv 1)))))), ?_⟩
    -- the part behind the first if, at any list
    have part : ∀ (ns1 : List Int) (H1 : Hp), Dice ns1 → H1 a = some (.lst (ns1.map V.int)) → (∀ r ns', 0 ≤ r → r < m → Dice ns' → Q (.int r) (upd H1 a (.lst (ns'.map V.int)))) →
        tSeq (tIfS (tTest (tOp (rI0 fun i j => V.bl (decide (j < i))) (tOp (rIxL K) (tVar 0) (tC (.int 1))) (tC (.int 0))))
          (tSeq (tAsg (tOp (rI (fun _ j => 0 < j) fun i j => V.int (i % j)) (tOp (rIxL K) (tVar 0) (tC (.int 1))) (tVar 1)) (gName 2))
          (tSeq (tAsg (tOp (rI CDiv fun i j => V.int (i / j)) (tOp (rIxL K) (tVar 0) (tC (.int 1))) (tVar 1)) (gSub (tVar 0) (tC (.int 1)) rSetL)) (tRet (tVar 2)))) tNext)
        (tSeq (tAsg (tOp (rI (fun _ j => 0 < j) fun i j => V.int (i % j)) (tOp (rI0 fun i j => V.int (i + j)) (tOp (rI CMul fun i j => V.int (i * j)) (tOp (rIxL K) (tVar 0) (tC (.int 0))) (tC (.int 48271))) (tC (.int 11))) (tC (.int 2147483647))) (gSub (tVar 0) (tC (.int 0)) rSetL))
          (tRet (tOp (rI (fun _ j => 0 < j) fun i j => V.int (i % j)) (tOp (rI CDiv fun i j => V.int (i / j)) (tOp (rIxL K) (tVar 0) (tC (.int 0))) (tC (.int 64))) (tVar 1)))) { nx := fun _ H' => Q .non H', rt := Q } [some (.ref a), some (.int m), none] H1 := by
      intro ns1 H1 hd1 h1 k1
      obtain ⟨x, y, zs, rfl⟩ : ∃ x y zs, ns1 = x :: y :: zs := by
        match ns1, hd1 with
        | x :: y :: zs, _ => exact ⟨x, y, zs, rfl⟩
        | [_], h => exact absurd h.1 (by simp)
        | [], h => exact absurd h.1 (by simp)
      refine ⟨_, rfl, a, _, _, _, rfl, rfl, SqL.of h1, at_of (j := 1) rfl rfl, _, _, rfl, rfl, _, rfl, ?_⟩
      refine ite2 (fun hy => ?_) (fun hy => ?_)
      · refine ⟨_, rfl, a, _, _, _, rfl, rfl, SqL.of h1, at_of (j := 1) rfl rfl, _, rfl, _, _, rfl, rfl, hm, ?_⟩
        refine ⟨_, rfl, a, _, _, _, rfl, rfl, SqL.of h1, at_of (j := 1) rfl rfl, _, rfl, _, _, rfl, rfl, ⟨hm, hm2⟩, ?_⟩
        refine ⟨_, rfl, a, _, 1, 1, rfl, rfl, h1, ?_, ?_⟩
        · unfold ixN
          rw [if_pos (by decide), if_pos (by rw [List.length_map, List.length_cons, List.length_cons]; omega)]
          rfl
        · exact ⟨_, rfl, k1 _ (x :: (y / m) :: zs) (mod_lt' hm).1 (mod_lt' hm).2 ⟨by simp, by have := hd1.2; simpa using this⟩⟩
      · refine ⟨_, rfl, a, _, _, _, rfl, rfl, SqL.of h1, at_of (j := 0) rfl rfl, _, _, rfl, rfl, .inr ⟨by decide, by decide⟩, _, _, rfl, rfl, _, _, rfl, rfl, (show (0 : Int) < 2147483647 by decide), ?_⟩
        refine ⟨_, rfl, a, _, 0, 0, rfl, rfl, h1, ?_, ?_⟩
        · unfold ixN
          rw [if_pos (by decide), if_pos (by rw [List.length_map, List.length_cons, List.length_cons]; omega)]
          rfl
        · refine ⟨_, rfl, a, _, _, _, rfl, rfl, SqL.of upd_same, at_of (j := 0) rfl rfl, _, _, rfl, rfl, ⟨by decide, by decide⟩, _, rfl, _, _, rfl, rfl, hm, ?_⟩
          exact k1 _ (((x * 48271 + 11) % 2147483647) :: y :: zs) (mod_lt' hm).1 (mod_lt' hm).2 ⟨by simp, by have := hd1.2; simpa using this⟩
    obtain ⟨x, y, zs, rfl⟩ : ∃ x y zs, ns = x :: y :: zs := by
      match ns, hd with
      | x :: y :: zs, _ => exact ⟨x, y, zs, rfl⟩
      | [_], h => exact absurd h.1 (by simp)
      | [], h => exact absurd h.1 (by simp)
    refine ⟨_, rfl, a, _, _, _, rfl, rfl, SqL.of ha, at_of (j := 1) rfl rfl, rfl, _, rfl, ?_⟩
    refine ite2 (fun hy => ?_) (fun hy => iteF ?_)
    · refine ⟨_, rfl, a, _, rfl, .inl (SqL.of ha), _, _, rfl, rfl, _, rfl, ?_⟩
      refine ite2 (fun hl => ?_) (fun hl => part _ H hd ha kq)
      cases zs with
      | nil => exact absurd (show (2 : Int) < ((2 : Nat) : Int) from of_decide_eq_true hl) (by decide)
      | cons z zs =>
        refine ⟨_, rfl, .inl ⟨rfl, _, SqL.of ha⟩, a, _, 2, 2, .int z, rfl, rfl, ha, by decide, by decide, ?_, rfl, ?_⟩
        · rw [seqIndex_of (by decide) (by rw [List.length_map, List.length_cons, List.length_cons, List.length_cons]; omega)]
          rfl
        · refine ⟨_, rfl, a, _, 1, 1, rfl, rfl, upd_same, ?_, ?_⟩
          · unfold ixN
            rw [if_pos (by decide), if_pos (by show (1 : Int) < ((((x :: y :: z :: zs).map V.int).eraseIdx 2).length : Nat); show (1 : Int) < ((zs.map V.int).length + 1 + 1 : Nat); omega)]
            rfl
          · rw [upd_upd]
            have hd1 : Dice (x :: z :: zs) := ⟨by simp, by have := hd.2; simp at this ⊢; omega⟩
            refine part (x :: z :: zs) _ hd1 upd_same fun r ns' h1 h2 h3 => ?_
            rw [upd_upd]
            exact kq r ns' h1 h2 h3
    · exact part _ H hd ha kq
end
end CK

namespace CK
open PySem L2 PyProof.Rows
section
variable {P : Program} {w : World} {K : PySem.W.Frag} {mg : Str → Option Value} {base : Heap} {cc : Nat → Addr}
/-- all but a stays -/
def But (a : Addr) (H H' : Hp) : Prop := ∀ b o, b ≠ a → H b = some o → H' b = some o
theorem But.trans {a : Addr} {H H1 H2 : Hp} (x : But a H H1) (y : But a H1 H2) : But a H H2 := fun b o n e => y b o n (x b o n e)
theorem But.refl (a : Addr) (H : Hp) : But a H H := fun _ _ _ e => e
theorem But.upd {a : Addr} {H : Hp} {o : HO} : But a H (L2.upd H a o) := fun b u n e => by rw [upd_ne n]; exact e
theorem But.same {a : Addr} {H H' : Hp} (s : Same H H') : But a H H' := fun b o _ e => s b o e
theorem But.new {a p : Addr} {H H' : Hp} {o : HO} (x : But a H H') (hp : H' p = none) : But a H (L2.upd H' p o) := fun b u n e => by
  have q := x b u n e
  rw [upd_ne (ne_of_none q hp)]
  exact q
theorem Same.new' {H H' : Hp} {p : Addr} {o : HO} (s : Same H H') (hp : H' p = none) : Same H (L2.upd H' p o) := fun b u e => by
  have q := s b u e
  rw [upd_ne (ne_of_none q hp)]
  exact q
def spDraw : Sp := fun vs H Q _ => ∃ a m, vs = [.ref a, .int m] ∧ 0 < m ∧ m < 1073741824 ∧ DiceAt H a ∧ ∀ r H', 0 ≤ r → r < m → DiceAt H' a → But a H H' → Q (.int r) H'
theorem draw_of {k : Nat} (O : OwnS P w K mg base k "_law_off" ["_law_d", "_law_most"] spOff) : OwnS P w K mg base k "_law_off" ["_law_d", "_law_most"] spDraw := by
  obtain ⟨f, fd, F, hm, hk, hb⟩ := O.ex
  refine ⟨f, fd, F.imp fun vs H Q E h => ?_, hm, hk, hb⟩
  obtain ⟨a, m, ev, h1, h2, ⟨ns, hd, ha⟩, k⟩ := h
  exact ⟨a, m, ns, ev, h1, h2, hd, ha, fun r ns' r0 rm hd' => k r _ r0 rm ⟨ns', hd', upd_same⟩ But.upd⟩
/-! ### the draws' list -/
abbrev s__law_dice : Stmt := top 50
theorem sc__law_dice : FnScope ["_law_script", "_law_k", "_law_found", "_law_cell"] ["_law_script", "_law_k"] (defScope s__law_dice) := ⟨rfl, rfl, rfl, by decide +kernel, rfl, by decide +kernel, by decide +kernel⟩
def spDice (K : PySem.W.Frag) : Sp := fun vs H Q _ => ∃ (a : Addr) (ns : List Int) (k : Int), vs = [.ref a, .int k] ∧ SqL K H a (ns.map V.int) ∧ ns.length ≤ 63 ∧ ∀ H' p, Same H H' → H p = none → DiceAt H' p → Q (.ref p) H'
theorem boot_abs' : bootBuiltins "abs" = some (.builtin "abs") := by decide +kernel
theorem ints_get {ns : List Int} {i : Nat} {x : V} (h : (ns.map V.int)[i]? = some x) : ∃ z, ns[i]? = some z ∧ x = .int z := by
  rw [List.getElem?_map] at h
  cases e : ns[i]? with
  | none => rw [e] at h; cases h
  | some z => rw [e] at h; exact ⟨z, rfl, (Option.some.inj h).symm⟩
theorem ok_dice {f : Addr} {fd : FuncData} (F : Fun K "_law_dice" "_law_dice" s__law_dice f fd) (T : Txt K mg) : FnOk P w K mg base CX0 1 f fd ["_law_script", "_law_k"] (spDice K) := by
  refine F.ok sc__law_dice (fun vs H Q E h => ?_) (fun cdv A outer s H vs Q E hr h => ?_)
  · obtain ⟨a, ns, k, rfl, _⟩ := h
    rfl
  · obtain ⟨a, ns, k, rfl, hS, hlen, kq⟩ := h
    have nd := sc__law_dice.nd
    refine ⟨_, pss_cons (ps_set (i := 2) nd rfl (Or.inl rfl) (pv 1))
      (pss_cons (ps_for PassesOwn.never rfl (pi_list (pv 0)) (pg_name (i := 3) nd rfl (Or.inl rfl))
        (pss_one (ps_set (i := 2) nd rfl (Or.inl rfl) (pe_op op_mod (pe_op op_add (pe_op op_mul (pv 2) pe_int) (pe_callB call_abs (by rfl) T.n_abs boot_abs' (pa_cons (pv 3) pa_nil))) pe_int))))
      (pss_one (ps_ret (pe_op op_cat (pe_lst (pa_cons (pv 2) (pa_cons pe_int pa_nil))) (pe_lc (own := [("_law_cell", 3)]) (g := gName 3) rfl nd (pi_list (pv 0)) (blkOk_by (N := ["_law_script", "_law_k", "_law_found", "_law_cell"]) (sc := defScope s__law_dice) (by decide +kernel))
        (fun _ _ _ _ _ => pg_name (i := 3) nd rfl (Or.inl rfl)) (fun _ _ _ _ _ => pts_one (pt_cmpR op_ge (pv 3) (pe_op op_pow pe_int pe_int) (nomark _))) (fun _ _ _ _ _ => pv 3)))))), ?_⟩
    refine ⟨_, rfl, ?_⟩
    refine ⟨_, rfl, a, rfl, ⟨_, hS⟩, for_list (K := K) (a := a) (xs := ns.map V.int) (fun i σ H' => ∃ (z : Int) (c : Option V), σ = [some (.ref a), some (.int k), some (.int z), c] ∧ H' = H) ⟨k, none, rfl, rfl⟩ (fun i σ H' _ ⟨_, _, _, e⟩ => by rw [e]; exact hS) ?_ ?_⟩
    · rintro i x σ H' hi ⟨z, c, rfl, rfl⟩
      obtain ⟨u, hu, rfl⟩ := ints_get hi
      refine ⟨_, rfl, _, _, rfl, rfl, .inr ⟨by decide, by decide⟩, _, rfl, u, rfl, _, _, rfl, rfl, _, _, rfl, rfl, (show (0 : Int) < 2147483647 by decide), ?_⟩
      exact ⟨_, _, rfl, rfl⟩
    · rintro σ H' ⟨z, c, rfl, rfl⟩
      refine ⟨_, rfl, (show 2 ≤ sizeLine by decide), fun p hp => ?_⟩
      have s1 : Same H' (upd H' p (.lst [.int z, .int 0])) := Same.new' (Same.refl H') hp
      refine ⟨_, rfl, a, rfl, ⟨_, s1.seq hS⟩, fun D hD => lc_list (K := K) (a := a) (xs := ns.map V.int) (g := gName 3) (fun i H1 => Same (upd H' p (.lst [.int z, .int 0])) H1 ∧ ∃ ms : List Int, ms.length ≤ i ∧ H1 D = some (.lst (ms.map V.int)))
        ⟨Same.new' (Same.refl _) hD, [], Nat.le_refl _, upd_same⟩ (fun i H1 _ ⟨s2, _⟩ => (s1.trans s2).seq hS) ?_ ?_⟩
      · rintro i x H1 hi ⟨s2, ms, hl, hD1⟩
        obtain ⟨u, hu, rfl⟩ := ints_get hi
        have hi' : i < ns.length := (List.getElem?_eq_some_iff.mp hu).1
        refine ⟨rfl, _, rfl, _, _, rfl, rfl, ⟨by decide, by decide, by decide⟩, _, _, rfl, rfl, _, rfl, ?_⟩
        refine ite2 (fun hc => ?_) (fun hc => ?_)
        · refine ⟨_, rfl, _, hD1, by rw [List.length_map, sizeLine_eq]; omega, fun b o e => ?_, ms ++ [u], by rw [List.length_append, List.length_singleton]; omega, by rw [upd_same, List.map_append]; rfl⟩
          rw [upd_ne (ne_of_none e hD)]
          exact s2 b o e
        · exact ⟨s2, ms, by omega, hD1⟩
      · rintro H1 ⟨s2, ms, hl, hD1⟩
        rw [List.length_map] at hl
        have hp1 : H1 p = some (.lst [.int z, .int 0]) := s2 _ _ upd_same
        refine ⟨p, D, _, _, rfl, rfl, hp1, hD1, ?_, fun q hq => ?_⟩
        · rw [List.length_map, sizeLine_eq]
          show 2 + ms.length ≤ 16777216
          omega
        · have sq := s1.trans s2
          refine kq _ q (Same.new' sq hq) (sq.free hq) ⟨z :: 0 :: ms, ⟨by simp, by simp; omega⟩, by rw [upd_same]; rfl⟩
/-! ### a rule -/
abbrev s__law_rule : Stmt := top 53
theorem sc__law_rule : FnScope ["_law_d"] ["_law_d"] (defScope s__law_rule) := ⟨rfl, rfl, rfl, by decide +kernel, rfl, by decide +kernel, by decide +kernel⟩
def ruleS : Nat → Str
  | 0 => "near" | 1 => "left" | _ => "even"
def spRule : Sp := fun vs H Q _ => ∃ a, vs = [.ref a] ∧ DiceAt H a ∧ ∀ (r : Nat) H', r < 3 → DiceAt H' a → But a H H' → Q (.str (ruleS r)) H'
theorem ok_rule {f : Addr} {fd : FuncData} (F : Fun K "_law_rule" "_law_rule" s__law_rule f fd) (T : Txt K mg) (O : OwnS P w K mg base 1 "_law_off" ["_law_d", "_law_most"] spDraw) : FnOk P w K mg base CX0 2 f fd ["_law_d"] spRule := by
  refine F.ok sc__law_rule (fun vs H Q E h => ?_) (fun cdv A outer s H vs Q E hr h => ?_)
  · obtain ⟨a, rfl, _⟩ := h
    rfl
  · obtain ⟨a, rfl, hd, kq⟩ := h
    refine ⟨_, pss_one (ps_ret (pe_ix (r := rIxL K) ix_list (pe_lst (pa_cons pe_str (pa_cons pe_str (pa_cons pe_str pa_nil)))) (pe_own O hr (pa_cons (pv 0) (pa_cons pe_int pa_nil))) (fun _ _ => rfl))), ?_⟩
    refine ⟨(show 3 ≤ sizeLine by decide), fun p hp => ?_⟩
    obtain ⟨ns, hn, ha⟩ := hd
    have nap : a ≠ p := ne_of_none ha hp
    refine ⟨_, rfl, a, 3, rfl, by decide, by decide, ⟨ns, hn, by rw [upd_ne nap]; exact ha⟩, fun r H' r0 r3 hd' hb => ?_⟩
    obtain ⟨j, rfl⟩ : ∃ j : Nat, r = (j : Int) := ⟨r.toNat, by omega⟩
    have hp' : H' p = some (.lst [.str "near", .str "left", .str "even"]) := hb p _ (Ne.symm nap) upd_same
    have hb' : But a H H' := (But.new (But.refl a H) hp).trans hb
    have hj : j < 3 := by omega
    refine ⟨p, _, _, .str (ruleS j), rfl, rfl, SqL.of hp', at_of (j := j) rfl ?_, kq j H' hj hd' hb'⟩
    match j, hj with
    | 0, _ => rfl
    | 1, _ => rfl
    | 2, _ => rfl
end
end CK

namespace CK
open PySem L2 PyProof.Rows
/-! ### deeds that can be done -/
def wd : Bool → Str
  | true => "put"
  | false => "take"
theorem wd_eq (b : Bool) : wd b = Tx (word b) := by cases b <;> decide +kernel
def Tups (H : Hp) (as : List Addr) (ds : List Deed) : Prop := Paired (fun t (d : Deed) => H t = some (.tup [.str (wd d.1), .int d.2])) as ds
/-- the tuples stay -/
def TS (H H' : Hp) : Prop := ∀ t xs, H t = some (.tup xs) → H' t = some (.tup xs)
theorem Tups.mono {H H' : Hp} (s : TS H H') {as : List Addr} {ds : List Deed} (t : Tups H as ds) : Tups H' as ds := Paired.mapP t fun _ _ q => s _ _ q
theorem TS.same {H H' : Hp} (s : Same H H') : TS H H' := fun t xs e => s t _ e
theorem TS.but {a : Addr} {H H' : Hp} {l : List V} (ha : H a = some (.lst l)) (b : But a H H') : TS H H' := fun t xs e => b t _ (fun z => by rw [z, ha] at e; cases e) e
theorem TS.put {a : Addr} {H : Hp} {l : List V} {o : HO} (ha : H a = some (.lst l)) : TS H (L2.upd H a o) := TS.but ha But.upd
theorem TS.trans {H H1 H2 : Hp} (x : TS H H1) (y : TS H1 H2) : TS H H2 := fun t xs e => y t xs (x t xs e)
section
variable {P : Program} {w : World} {K : PySem.W.Frag} {mg : Str → Option Value} {base : Heap} {cc : Nat → Addr}
abbrev s__law_drawn : Stmt := top 54
theorem sc__law_drawn : FnScope ["_law_d", "_law_wide", "_law_most", "_law_many", "_law_found", "_law_turn", "_law_is_put"] ["_law_d", "_law_wide", "_law_most"] (defScope s__law_drawn) := ⟨rfl, rfl, rfl, by decide +kernel, rfl, by decide +kernel, by decide +kernel⟩
def spDrawn : Sp := fun vs H Q _ => ∃ (a : Addr) (w m : Nat), vs = [.ref a, .int w, .int m] ∧ 1 ≤ w ∧ w ≤ 6 ∧ m ≤ 1000 ∧ DiceAt H a ∧ ∀ H' p ds as n, DiceAt H' a → But a H H' → H p = none → p ≠ a → cnt w 0 ds = some n → H' p = some (.lst (as.map V.ref)) → Tups H' as ds → ds.length ≤ m → Q (.ref p) H'
theorem isput_rd {a : Addr} {n w : Nat} {σ : L2.St} {H : Hp} {k : VK} (h0 : σ[0]? = some (some (.ref a))) (h1 : σ[1]? = some (some (.int w))) (h3 : σ[3]? = some (some (.int n))) (hw : 1 ≤ w) (hd : DiceAt H a)
    (hk : ∀ b H3, DiceAt H3 a → But a H H3 → (b = true → n < w) → (b = false → 0 < n) → k (.bl b) H3) :
    tOrV (tOp rEq (tVar 3) (tC (.int 0))) (tAndV (tOp (rI0 fun i j => .bl (decide (i < j))) (tVar 3) (tVar 1)) (tOp (rI0 fun i j => .bl (decide (j < i))) (tOwn spDraw (tCons (tVar 0) (tCons (tC (.int 3)) tNil))) (tC (.int 0)))) σ H k := by
  refine ⟨_, h3, rfl, _, rfl, ite2 (fun c => ?_) (fun c => ?_)⟩
  · have e : (V.int n) = V.int 0 := of_decide_eq_true c
    have e : (n : Int) = 0 := V.int.inj e
    exact hk true H hd (But.refl a H) (fun _ => by omega) (fun z => by cases z)
  · have ne : ¬ (n : Int) = 0 := fun z => c (decide_eq_true (by rw [z]))
    refine ⟨_, h3, _, h1, _, _, rfl, rfl, _, rfl, ite2 (fun c2 => ?_) (fun c2 => ?_)⟩
    · have lt : (n : Int) < w := of_decide_eq_true c2
      refine ⟨_, h0, a, 3, rfl, by decide, by decide, hd, fun r H' r0 r3 hd' hb => ⟨_, _, rfl, rfl, ?_⟩⟩
      exact hk _ H' hd' hb (fun _ => by omega) (fun _ => by omega)
    · have lt : ¬ (n : Int) < w := fun z => c2 (decide_eq_true z)
      exact hk false H hd (But.refl a H) (fun z => by cases z) (fun _ => by omega)
def InvDr (a F : Addr) (w' m : Nat) (H : Hp) (i : Nat) (σ : L2.St) (H2 : Hp) : Prop := ∃ (n : Nat) (ds : List Deed) (as : List Addr) (t ip : Option V), σ = [some (.ref a), some (.int w'), some (.int m), some (.int n), some (.ref F), t, ip] ∧ cnt w' 0 ds = some n ∧ n ≤ w' ∧ ds.length = i ∧ DiceAt H2 a ∧ H2 F = some (.lst (as.map V.ref)) ∧ Tups H2 as ds ∧ But a H H2
theorem more_dr {a F : Addr} {w' m : Nat} {H H3 H5 : Hp} {i n n' : Nat} {ds : List Deed} {as : List Addr} {tt ip : Option V} {d : Deed} {T5 : Addr} (na : a ≠ F) (hF : H F = none) (hc : cnt w' 0 ds = some n) (hl : ds.length = i) (hF3 : H3 F = some (.lst (as.map V.ref))) (ht3 : Tups H3 as ds) (hb03 : But a H H3) (hd3 : DiceAt H3 a)
    (hs : step1 w' n d = some n') (hn' : n' ≤ w') (hd5 : DiceAt H5 a) (hb5 : But a H3 H5) (hT : H5 T5 = none) :
    InvDr a F w' m H (i + 1) [some (.ref a), some (.int w'), some (.int m), some (.int n'), some (.ref F), tt, ip] (upd (upd H5 T5 (.tup [.str (wd d.1), .int d.2])) F (.lst (as.map V.ref ++ [.ref T5]))) := by
  have hF5 : H5 F = some (.lst (as.map V.ref)) := hb5 F _ (Ne.symm na) hF3
  obtain ⟨l3, _, ha3⟩ := id hd3
  obtain ⟨ns, hdn, ha5⟩ := hd5
  have nTF : T5 ≠ F := fun z => by rw [z, hF5] at hT; cases hT
  have nTa : a ≠ T5 := ne_of_none ha5 hT
  have ts : TS H5 (upd (upd H5 T5 (.tup [.str (wd d.1), .int d.2])) F (.lst (as.map V.ref ++ [.ref T5]))) := fun t xs e => by
    rw [upd_ne (fun z => by rw [z, hF5] at e; cases e), upd_ne (ne_of_none e hT)]
    exact e
  refine ⟨n', ds ++ [d], as ++ [T5], tt, ip, rfl, cnt_snoc hc hs, hn', by rw [List.length_append, hl]; rfl, ⟨ns, hdn, by rw [upd_ne na, upd_ne nTa]; exact ha5⟩, by rw [upd_same, List.map_append]; rfl, ?_, fun b o hb e => ?_⟩
  · refine Pd.app (Tups.mono ts (Tups.mono (TS.but ha3 hb5) ht3)) (.cons ?_ .nil)
    rw [upd_ne nTF, upd_same]
  · have e5 := hb5 b o hb (hb03 b o hb e)
    rw [upd_ne (ne_of_none e hF), upd_ne (ne_of_none e5 hT)]
    exact e5
theorem ok_drawn {f : Addr} {fd : FuncData} (F : Fun K "_law_drawn" "_law_drawn" s__law_drawn f fd) (T : Txt K mg) (O : OwnS P w K mg base 1 "_law_off" ["_law_d", "_law_most"] spDraw) : FnOk P w K mg base CX0 2 f fd ["_law_d", "_law_wide", "_law_most"] spDrawn := by
  refine F.ok sc__law_drawn (fun vs H Q E h => ?_) (fun cdv A outer s H vs Q E hr h => ?_)
  · obtain ⟨a, w, m, rfl, _⟩ := h
    rfl
  · obtain ⟨a, w', m, rfl, hw1, hw6, hm, hd, kq⟩ := h
    have nd := sc__law_drawn.nd
    refine ⟨_, pss_cons (ps_set (i := 3) nd rfl (Or.inl rfl) pe_int)
      (pss_cons (ps_set (i := 4) nd rfl (Or.inl rfl) (pe_lst pa_nil))
      (pss_cons (ps_for PassesOwn.never rfl (pi_range1 (by rfl) T.n_range (pa_cons (pe_own O hr (pa_cons (pv 0) (pa_cons (pe_op op_add (pv 2) pe_int) pa_nil))) pa_nil)) (pg_name (i := 5) nd rfl (Or.inl rfl))
        (pss_cons (ps_set (i := 6) nd rfl (Or.inl rfl) (pe_or (pe_cmpR op_eq (pv 3) pe_int (nomark _)) (pe_one (pe_and (pe_cmpR op_lt (pv 3) (pv 1) (nomark _)) (pe_one (pe_cmpR op_gt (pe_own O hr (pa_cons (pv 0) (pa_cons pe_int pa_nil))) pe_int (nomark _)))))))
        (pss_one (ps_if (pt_val (pv 6))
          (pss_cons (ps_expr (pe_bm PySem.F.plainAttrs_list PySem.F.slot_list_append PySem.F.type_list_append mt_append (pv 4) (pa_cons (pe_tup (pa_cons pe_str (pa_cons (pe_ix (r := rIxL K) ix_list (pe_lst (pa_cons pe_int (pa_cons (pv 3) (pa_cons (pe_own O hr (pa_cons (pv 0) (pa_cons (pe_op op_add (pv 3) pe_int) pa_nil))) pa_nil)))) (pe_own O hr (pa_cons (pv 0) (pa_cons pe_int pa_nil))) (fun _ _ => rfl)) pa_nil))) pa_nil)))
          (pss_one (ps_set (i := 3) nd rfl (Or.inl rfl) (pe_op op_add (pv 3) pe_int))))
          (pss_cons (ps_expr (pe_bm PySem.F.plainAttrs_list PySem.F.slot_list_append PySem.F.type_list_append mt_append (pv 4) (pa_cons (pe_tup (pa_cons pe_str (pa_cons (pe_own O hr (pa_cons (pv 0) (pa_cons (pv 3) pa_nil))) pa_nil))) pa_nil)))
          (pss_one (ps_set (i := 3) nd rfl (Or.inl rfl) (pe_op op_sub (pv 3) pe_int))))))))
      (pss_one (ps_ret (pv 4))))), ?_⟩
    refine ⟨(show 0 ≤ sizeLine by decide), fun F hF => ?_⟩
    have na : a ≠ F := by obtain ⟨_, _, e⟩ := hd; exact ne_of_none e hF
    have hd0 : DiceAt (upd H F (.lst [])) a := by obtain ⟨ns, h1, h2⟩ := hd; exact ⟨ns, h1, by rw [upd_ne na]; exact h2⟩
    refine ⟨_, rfl, _, rfl, _, _, rfl, rfl, a, _, rfl, by omega, by omega, hd0, fun r H1 r0 rm hd1 hb1 => ⟨r, rfl, by omega, by omega, ?_⟩⟩
    refine for_range (lo := 0) (n := r.toNat) (InvDr a F w' m H)
      ⟨0, [], [], none, none, rfl, rfl, Nat.zero_le _, rfl, hd1, hb1 F _ (Ne.symm na) upd_same, .nil, (But.new (But.refl a H) hF).trans hb1⟩ ?_ ?_
    · rintro i σ H2 hi ⟨n, ds, as, t, ip, rfl, hc, hn, hl, hd2, hF2, ht, hb2⟩
      refine isput_rd (a := a) (n := n) (w := w') rfl rfl rfl hw1 hd2 fun b H3 hd3 hb3 hput htake => ?_
      have hF3 : H3 F = some (.lst (as.map V.ref)) := hb3 F _ (Ne.symm na) hF2
      obtain ⟨l2, _, ha2⟩ := id hd2
      have ht3 : Tups H3 as ds := ht.mono (TS.but ha2 hb3)
      have hb03 : But a H H3 := hb2.trans hb3
      have hlen : as.length = ds.length := ht.length
      cases b with
      | true =>
        have hlt := hput rfl
        refine ⟨_, rfl, _, rfl, iteT ?_⟩
        -- found.append(("put", [0, many, draw][draw]))
        refine ⟨_, rfl, .inl ⟨rfl, _, SqL.of hF3⟩, ?_⟩
        refine ⟨_, rfl, _, rfl, _, rfl, _, _, rfl, rfl, a, _, rfl, by omega, by omega, hd3, fun r1 H4 q0 qm hd4 hb4 => ⟨(show 3 ≤ sizeLine by decide), fun L hL => ?_⟩⟩
        obtain ⟨j1, rfl⟩ : ∃ j : Nat, r1 = (j : Int) := ⟨r1.toNat, by omega⟩
        obtain ⟨ns4, hn4, ha4⟩ := hd4
        have naL : a ≠ L := ne_of_none ha4 hL
        refine ⟨_, rfl, a, 3, rfl, by decide, by decide, ⟨ns4, hn4, by rw [upd_ne naL]; exact ha4⟩, fun r2 H5 z0 z3 hd5 hb5 => ?_⟩
        obtain ⟨j2, rfl⟩ : ∃ j : Nat, r2 = (j : Int) := ⟨r2.toNat, by omega⟩
        have hL5 : H5 L = some (.lst [.int 0, .int n, .int j1]) := hb5 L _ (Ne.symm naL) upd_same
        obtain ⟨jv, hjv, hjn⟩ : ∃ jv : Nat, ([.int 0, .int n, .int j1] : List V)[j2]? = some (.int jv) ∧ jv ≤ n := by
          have hj : j2 < 3 := by omega
          match j2, hj with
          | 0, _ => exact ⟨0, rfl, Nat.zero_le _⟩
          | 1, _ => exact ⟨n, rfl, Nat.le_refl _⟩
          | 2, _ => exact ⟨j1, rfl, by omega⟩
        have hb35 : But a H3 H5 := (But.new hb4 hL).trans hb5
        refine ⟨L, _, _, .int jv, rfl, rfl, SqL.of hL5, at_of (j := j2) rfl hjv, (show 2 ≤ sizeLine by decide), fun T5 hT5 => ?_⟩
        have hF5 : H5 F = some (.lst (as.map V.ref)) := hb35 F _ (Ne.symm na) hF3
        have nF : F ≠ T5 := ne_of_none hF5 hT5
        refine ⟨F, _, _, rfl, rfl, by rw [upd_ne nF]; exact hF5, by rw [List.length_map, sizeLine_eq]; omega, ?_⟩
        refine ⟨_, rfl, _, _, rfl, rfl, ?_⟩
        exact more_dr (d := (true, jv)) (n' := n + 1) na hF hc hl hF3 ht3 hb03 hd3 (by show (if jv ≤ n ∧ n < w' then some (n + 1) else none) = _; rw [if_pos ⟨hjn, hlt⟩]) (by omega) hd5 hb35 hT5
      | false =>
        have hlt := htake rfl
        refine ⟨_, rfl, _, rfl, iteF ?_⟩
        refine ⟨_, rfl, .inl ⟨rfl, _, SqL.of hF3⟩, ?_⟩
        refine ⟨_, rfl, _, rfl, a, _, rfl, by omega, by omega, hd3, fun r1 H4 q0 qm hd4 hb4 => ⟨(show 2 ≤ sizeLine by decide), fun T5 hT5 => ?_⟩⟩
        have hF4 : H4 F = some (.lst (as.map V.ref)) := hb4 F _ (Ne.symm na) hF3
        obtain ⟨j, rfl⟩ : ∃ j : Nat, r1 = (j : Int) := ⟨r1.toNat, by omega⟩
        have nF : F ≠ T5 := ne_of_none hF4 hT5
        refine ⟨F, _, _, rfl, rfl, by rw [upd_ne nF]; exact hF4, by rw [List.length_map, sizeLine_eq]; omega, ?_⟩
        refine ⟨_, rfl, _, _, rfl, rfl, ?_⟩
        have e : ((n - 1 : Nat) : Int) = ((n : Nat) : Int) - 1 := by omega
        have fin := more_dr (m := m) (tt := some (.int (0 + (i : Nat)))) (ip := some (.bl false)) (d := (false, j)) (n' := n - 1) na hF hc hl hF3 ht3 hb03 hd3 (by show (if j < n then some (n - 1) else none) = _; rw [if_pos (by omega)]) (by omega) hd4 hb4 hT5
        rw [e] at fin
        exact fin
    · rintro σ H2 ⟨n, ds, as, t, ip, rfl, hc, hn, hl, hd2, hF2, ht, hb2⟩
      exact ⟨_, rfl, kq H2 F ds as n hd2 hb2 hF (Ne.symm na) hc hF2 ht (by omega)⟩
end
end CK

namespace CK
open PySem L2 PyProof.Rows
theorem ruleS_in (i : Nat) (h : i < 3) : ∃ r, r ∈ rules ∧ ruleS i = Tx r := by
  match i, h with
  | 0, _ => exact ⟨[110, 101, 97, 114], by decide, by decide +kernel⟩
  | 1, _ => exact ⟨[108, 101, 102, 116], by decide, by decide +kernel⟩
  | 2, _ => exact ⟨[101, 118, 101, 110], by decide, by decide +kernel⟩
def spRuleT : Sp := fun vs H Q _ => ∃ a, vs = [.ref a] ∧ DiceAt H a ∧ ∀ r H', r ∈ rules → DiceAt H' a → But a H H' → Q (.str (Tx r)) H'
theorem rule_of {P : Program} {w : World} {K : PySem.W.Frag} {mg : Str → Option Value} {base : Heap} {k : Nat} (O : OwnS P w K mg base k "_law_rule" ["_law_d"] spRule) : OwnS P w K mg base k "_law_rule" ["_law_d"] spRuleT := by
  obtain ⟨f, fd, F, hm, hk, hb⟩ := O.ex
  refine ⟨f, fd, F.imp fun vs H Q E h => ?_, hm, hk, hb⟩
  obtain ⟨a, ev, h1, k⟩ := h
  refine ⟨a, ev, h1, fun r H' hr d b => ?_⟩
  obtain ⟨q, hq, e⟩ := ruleS_in r hr
  rw [e]
  exact k q H' hq d b
theorem upd_keep {H : Hp} {p y : Addr} {v o : HO} (hp : H p = none) (e : H y = some o) : (L2.upd H p v) y = some o := by rw [upd_ne (ne_of_none e hp)]; exact e
theorem dT_ro {η : Em} (d : Deed) : RO η (dT d) (.tup [.str (wd d.1), .int d.2]) := ⟨_, rfl, .cons (by rw [wd_eq]; rfl) (.cons rfl .nil)⟩
theorem ints_ro {η : Em} (l : List Int) : RO η (.lst (l.map CV.int)) (.lst (l.map V.int)) := ⟨_, rfl, ints_rv l⟩
section
variable {P : Program} {w : World} {K : PySem.W.Frag} {mg : Str → Option Value} {base : Heap} {cc : Nat → Addr}
abbrev s_played : Stmt := top 19
theorem sc_played : FnScope ["rule", "wide", "deeds", "told", "places", "number", "deed", "moves"] ["rule", "wide", "deeds"] (defScope s_played) := ⟨rfl, rfl, rfl, by decide +kernel, rfl, by decide +kernel, by decide +kernel⟩
def spPlayed : Sp := fun vs H Q _ => ∃ (r : List Nat) (wd' : Nat) (a : Addr) (ds : List Deed) (as : List Addr) (n : Nat), vs = [.str (Tx r), .int wd', .ref a] ∧ r ∈ rules ∧ 1 ≤ wd' ∧ wd' ≤ 6 ∧ cnt wd' 0 ds = some n ∧ H a = some (.lst (as.map V.ref)) ∧ Tups H as ds ∧ ds.length ≤ 1000 ∧
  ∀ H' p To, Same H H' → H p = none → H' p = some (.tup [.ref To, .str (Tx (runM r (zeros wd') ds).2)]) → H' To = some (.lst ((runM r (zeros wd') ds).1.map V.int)) → H To = none → Q (.ref p) H'
theorem goodR_of {r : List Nat} (h : r ∈ rules) : ∃ h', c_check_rule [.str r] (CH.of []) = some (.non, h') ∧ kept h' 0 [] = true := isN_some (List.all_eq_true.mp gp_r r h)
theorem goodW_of {n : Nat} (h1 : 1 ≤ n) (h6 : n ≤ 6) : ∃ h', c_check_width [.int n] (CH.of []) = some (.non, h') ∧ kept h' 0 [] = true := isN_some (List.all_eq_true.mp gp_w n (by
  have : n = 1 ∨ n = 2 ∨ n = 3 ∨ n = 4 ∨ n = 5 ∨ n = 6 := by omega
  rcases this with rfl | rfl | rfl | rfl | rfl | rfl <;> decide))
theorem plFrom_len : ∀ (p : List Nat) (i : Nat), (plFrom i p).length = many p
  | [], _ => rfl
  | x :: r, i => by
    by_cases h : x = 49
    · subst h
      show (plFrom (i + 1) r).length + 1 = many r + 1
      rw [plFrom_len r]
    · have e1 : plFrom i (x :: r) = plFrom (i + 1) r := by simp [plFrom, h]
      have e2 : many (x :: r) = many r := by simp [many, h]
      rw [e1, e2, plFrom_len r]
theorem pl_len (p : List Nat) : (pl p).length = many p := plFrom_len p 0
/-- behind i deeds -/
def InvPl (r : List Nat) (wd' : Nat) (a : Addr) (ds : List Deed) (H : Hp) (i : Nat) (σ : L2.St) (H2 : Hp) : Prop := ∃ (To Pl : Addr) (x y z : Option V), σ = [some (.str (Tx r)), some (.int wd'), some (.ref a), some (.ref To), some (.ref Pl), x, y, z] ∧ Same H H2 ∧
  H2 To = some (.lst ((runM r (zeros wd') (ds.take i)).1.map V.int)) ∧ H2 Pl = some (.lst ((pl (runM r (zeros wd') (ds.take i)).2).map V.int)) ∧ To ≠ Pl ∧ H To = none
theorem take_succ' {α : Type} {l : List α} {i : Nat} {x : α} (h : l[i]? = some x) : l.take (i + 1) = l.take i ++ [x] := by
  obtain ⟨hl, e⟩ := List.getElem?_eq_some_iff.mp h
  rw [List.take_succ_eq_append_getElem hl, e]
theorem ok_played {f : Addr} {fd : FuncData} (F : Fun K "played" "played" s_played f fd) (T : Txt K mg) (OR : Own P w K mg base cc 1 "check_rule" ["rule"] c_check_rule) (OW : Own P w K mg base cc 1 "check_width" ["wide"] c_check_width)
    (OC : Own P w K mg base cc 1 "can_be_done" ["wide", "many", "deed"] c_can_be_done) (OA : Own P w K mg base cc 3 "after_deed" ["rule", "wide", "places", "deed"] c_after_deed) (OP : Own P w K mg base cc 1 "pattern_of" ["wide", "places"] c_pattern_of) : FnOk P w K mg base CX0 4 f fd ["rule", "wide", "deeds"] spPlayed := by
  refine F.ok sc_played (fun vs H Q E h => ?_) (fun cdv A outer s H vs Q E hr h => ?_)
  · obtain ⟨r, w', a, ds, as, n, rfl, _⟩ := h
    rfl
  · obtain ⟨r, wd', a, ds, as, n, rfl, hrr, h1, h6, hc, ha, ht, hlen, kq⟩ := h
    have nd := sc_played.nd
    have hr1 : Room 1 _ := hr.mono (by decide)
    refine ⟨_, pss_cons (ps_expr (pe_own OR hr1 (pa_cons (pv 0) pa_nil)))
      (pss_cons (ps_expr (pe_own OW hr1 (pa_cons (pv 1) pa_nil)))
      (pss_cons (ps_set (i := 3) nd rfl (Or.inl rfl) (pe_lst pa_nil))
      (pss_cons (ps_set (i := 4) nd rfl (Or.inl rfl) (pe_lst pa_nil))
      (pss_cons (ps_for PassesOwn.never rfl (pi_enum (by rfl) T.n_enumerate (pa_cons (pv 2) pa_nil)) (pg_tup rfl (pgs_cons (pg_name (i := 5) nd rfl (Or.inl rfl)) (pgs_cons (pg_name (i := 6) nd rfl (Or.inl rfl)) pgs_nil)))
        (pss_cons (ps_if (pt_not (pt_val (pe_own OC hr1 (pa_cons (pv 1) (pa_cons (pe_callB call_len_seq (by rfl) T.n_len boot_len (pa_cons (pv 4) pa_nil)) (pa_cons (pv 6) pa_nil)))))) (pss_one ps_never) pss_nil)
        (pss_cons (ps_asg (pe_own OA hr (pa_cons (pv 0) (pa_cons (pv 1) (pa_cons (pv 4) (pa_cons (pv 6) pa_nil))))) (pg_tup rfl (pgs_cons (pg_name (i := 7) nd rfl (Or.inl rfl)) (pgs_cons (pg_name (i := 4) nd rfl (Or.inl rfl)) pgs_nil))))
        (pss_one (ps_expr (pe_bm PySem.F.plainAttrs_list PySem.F.slot_list_append PySem.F.type_list_append mt_append (pv 3) (pa_cons (pv 7) pa_nil)))))))
      (pss_one (ps_ret (pe_tup (pa_cons (pv 3) (pa_cons (pe_own OP hr1 (pa_cons (pv 1) (pa_cons (pv 4) pa_nil))) pa_nil))))))))), ?_⟩
    -- check_rule(rule)
    obtain ⟨hR, eR, kR⟩ := goodR_of hrr
    refine ⟨_, rfl, sp_keeps (cc := cc) (E := E0) HR.nil (.cons (rvS r) .nil) eR kR fun η1 H1 v1 s1 _ R1 rv1 => ?_⟩
    obtain ⟨hW, eW, kW⟩ := goodW_of h1 h6
    refine ⟨_, rfl, sp_keeps (cc := cc) (E := E0) HR.nil (.cons (rvI _) .nil) eW kW fun η2 H2 v2 s2 _ R2 rv2 => ?_⟩
    have s12 : Same H H2 := s1.trans s2
    refine ⟨(show 0 ≤ sizeLine by decide), fun To hTo => ⟨(show 0 ≤ sizeLine by decide), fun Pl hPl => ?_⟩⟩
    have sT : Same H (upd H2 To (.lst [])) := Same.new' s12 hTo
    have sP : Same H (upd (upd H2 To (.lst [])) Pl (.lst [])) := Same.new' sT hPl
    have nTP : To ≠ Pl := ne_of_none upd_same hPl
    refine ⟨_, rfl, a, _, rfl, SqL.of (sP _ _ ha), ?_⟩
    refine for_enum (K := K) (a := a) (xs := as.map V.ref) (InvPl r wd' a ds H) ⟨To, Pl, none, none, none, rfl, sP, by rw [upd_ne nTP]; exact upd_same, ?_, nTP, s12.free hTo⟩ (fun i σ H3 _ ⟨_, _, _, _, _, _, s3, _⟩ => SqL.of (s3 _ _ ha)) ?_ ?_
    · show upd (upd H2 To (.lst [])) Pl (.lst []) Pl = some (.lst ((pl (zeros wd')).map V.int))
      rw [show pl (zeros wd') = [] from plFrom_zeros wd' 0]
      exact upd_same
    · rintro i x σ H3 T3 hx ⟨To, Pl, x5, x6, x7, rfl, s3, hTo, hPl, nTP, hTo0⟩ hT3
      obtain ⟨t, hti, rfl⟩ : ∃ t, as[i]? = some t ∧ x = V.ref t := by
        rw [List.getElem?_map] at hx
        cases e : as[i]? with
        | none => rw [e] at hx; cases hx
        | some t => rw [e] at hx; exact ⟨t, rfl, (Option.some.inj hx).symm⟩
      obtain ⟨d, hdi, htd⟩ := Pd.get ht hti
      obtain ⟨k, k', hk, hk'⟩ := cnt_take hc hdi
      obtain ⟨zb, zm, zl⟩ := zeros_ok wd'
      obtain ⟨pb, pll, pm⟩ := run_state hrr h1 h6 (ds.take i) zb zl (by rw [zm]; exact hk)
      generalize hp : (runM r (zeros wd') (ds.take i)).2 = p at *
      have g := good_step (d := d) hrr pb (by omega) (by omega) (by rw [pll, pm]; exact hk')
      have s4 : Same H3 (upd H3 T3 (.tup [.int (i : Nat), .ref t])) := Same.new' (Same.refl _) hT3
      generalize hH4 : upd H3 T3 (.tup [.int (i : Nat), .ref t]) = H4 at s4
      have hT4 : H4 T3 = some (.tup [.int (i : Nat), .ref t]) := by rw [← hH4]; exact upd_same
      refine ⟨T3, _, rfl, SqT.of hT4, rfl, _, _, rfl, _, _, rfl, rfl, ?_⟩
      have hPl4 := s4 _ _ hPl
      have ht4 : H4 t = some (.tup [.str (wd d.1), .int d.2]) := s4 _ _ (s3 _ _ htd)
      have nPt : Pl ≠ t := ne_of hPl4 ht4 (by intro z; cases z)
      have hr4 : HR cc ⟨k0, cc, [t], 0⟩ (CH.of [dT d]) H4 := HR.one ht4 (dT_ro d)
      -- can it be done
      obtain ⟨hC, eC, kC⟩ := isT_some g.can
      have eC : c_can_be_done [.int p.length, .int (many p), .ref 0] (CH.of [dT d]) = some (.bl true, hC) := eC
      refine ⟨_, rfl, _, rfl, Pl, _, rfl, .inl (SqL.of hPl4), _, rfl, sp_keeps (cc := cc) (E := E0) hr4 (.cons (by rw [← pll]; exact rvI _) (.cons (by rw [List.length_map, pl_len]; exact rvI _) (.cons (rvR (n := 0) rfl) .nil))) eC kC fun η5 H5 v5 s5 _ R5 rv5 => ⟨true, rv5, iteF ?_⟩⟩
      have hPl5 := s5 _ _ hPl4
      have ht5 := s5 _ _ ht4
      have hr5 : HR cc ⟨k0, cc, [Pl, t], 0⟩ (CH.of [plL p, dT d]) H5 := HR.two nPt hPl5 ht5 (ints_ro _) (dT_ro d)
      obtain ⟨nA, kA, hA, eA, gA, gL, kkA⟩ := rdTL_some g.after
      have eA : c_after_deed [.str r, .int p.length, .ref 0, .ref 1] (CH.of [plL p, dT d]) = some (.ref nA, hA) := eA
      refine ⟨_, rfl, _, rfl, _, rfl, _, rfl, sp_keeps (cc := cc) (E := E0) hr5 (.cons (rvS r) (.cons (by rw [← pll]; exact rvI _) (.cons (rvR (n := 0) rfl) (.cons (rvR (n := 1) rfl) .nil)))) eA kkA fun η6 H6 v6 s6 S6 R6 rv6 => ?_⟩
      obtain ⟨T6, eT6, rfl⟩ := rv6
      obtain ⟨ys, hT6, rys⟩ := R6.tup gA eT6
      cases rys with
      | cons ry1 rys =>
      cases rys with
      | cons ry2 rys =>
      cases rys
      obtain rfl := (show _ = V.int _ from ry1)
      obtain ⟨Pk, ePk, rfl⟩ := ry2
      obtain ⟨ys2, hPk, rys2⟩ := R6.lst gL ePk
      rw [rv_ints rys2] at hPk
      refine ⟨T6, _, rfl, SqT.of hT6, rfl, _, _, rfl, _, _, rfl, rfl, ?_⟩
      have s36 : Same H3 H6 := (s4.trans s5).trans s6
      have hTo6 := s36 _ _ hTo
      have hTo5 := s5 _ _ (s4 _ _ hTo)
      have nTt : To ≠ t := ne_of hTo5 ht5 (by intro z; cases z)
      have nTk : To ≠ Pk := fun z => by
        have m6 : Pk ∈ η6.as := List.mem_of_getElem? ePk
        by_cases m5 : Pk ∈ ([Pl, t] : List Addr)
        · rw [← z] at m5
          rcases List.mem_cons.mp m5 with e | m5
          · exact nTP e
          · exact nTt (by simpa using m5)
        · have := S6.nw Pk m6 m5
          rw [← z, hTo5] at this
          cases this
      have hi1000 : i < 1000 := Nat.lt_of_lt_of_le (List.getElem?_eq_some_iff.mp hdi).1 hlen
      refine ⟨_, rfl, .inl ⟨rfl, _, SqL.of hTo6⟩, _, rfl, To, _, _, rfl, rfl, hTo6, ?_, ?_⟩
      · rw [List.length_map, runM_len, sizeLine_eq, List.length_take]; omega
      · have e1 := runM_snoc r d (ds.take i) (zeros wd')
        rw [← take_succ' hdi, hp] at e1
        refine ⟨To, Pk, _, _, _, rfl, fun b o e => ?_, ?_, ?_, nTk, hTo0⟩
        · rw [upd_ne (ne_of_none e hTo0)]
          exact s36 _ _ (s3 _ _ e)
        · rw [upd_same, e1, List.map_append]; rfl
        · rw [upd_ne (Ne.symm nTk), e1]; exact hPk
    · rintro σ H3 ⟨To, Pl, x5, x6, x7, rfl, s3, hTo, hPl, nTP, hTo0⟩
      have el : as.length = ds.length := ht.length
      rw [List.length_map, el, List.take_length] at hTo hPl
      obtain ⟨zb, zm, zl⟩ := zeros_ok wd'
      obtain ⟨pb, pll, pm⟩ := run_state hrr h1 h6 ds zb zl (by rw [zm]; exact hc)
      obtain ⟨hP, eP, kP⟩ := pattern_good pb (by omega) (by omega)
      refine ⟨_, rfl, _, rfl, _, rfl, sp_keeps (cc := cc) (E := E0) (HR.one hPl (ints_ro _)) (.cons (by rw [pll]; exact rvI _) (.cons (rvR (n := 0) rfl) .nil)) eP kP fun η4 H4 v4 s4 _ R4 rv4 => ⟨(show 2 ≤ sizeLine by decide), fun p hp => ?_⟩⟩
      obtain rfl := (show v4 = V.str _ from rv4)
      have s34 := s3.trans s4
      exact kq _ p To (Same.new' s34 hp) (s34.free hp) upd_same (by rw [upd_ne (ne_of_none (s4 _ _ hTo) hp)]; exact s4 _ _ hTo) hTo0
end
end CK

/-! Coins raised pass by pass: where something rises in each of as many passes as there are nodes, the dearest arcs lead to a round, and it is worth more than nothing. -/
namespace BF
universe u v
variable {α : Type u} {ε : Type v} [DecidableEq α]
theorem nodup_le {β : Type u} [DecidableEq β] : ∀ {xs ks : List β}, xs.Nodup → (∀ x ∈ xs, x ∈ ks) → xs.length ≤ ks.length
  | [], _, _, _ => Nat.zero_le _
  | x :: xs, ks, nd, h => by
    have nd' := List.nodup_cons.mp nd
    have hx := h x List.mem_cons_self
    have ih := nodup_le (xs := xs) (ks := ks.erase x) nd'.2 fun y hy => by
      have hne : y ≠ x := fun z => nd'.1 (z ▸ hy)
      exact (List.mem_erase_of_ne hne).mpr (h y (List.mem_cons_of_mem _ hy))
    have l := List.length_erase_of_mem hx
    have : 0 < ks.length := List.length_pos_of_mem hx
    rw [List.length_cons]
    omega
structure Gph (α : Type u) (ε : Type v) where
  ks : List α
  es : α → List ε
  to : ε → α
  w : ε → Int
structure BS (α : Type u) (ε : Type v) where
  c : α → Int
  de : α → Option ε
  ri : Option α
variable (G : Gph α ε)
def relax (s : BS α ε) (a : α × ε) : BS α ε := if s.c a.1 < s.c (G.to a.2) + G.w a.2 then ⟨fun x => if x = a.1 then s.c (G.to a.2) + G.w a.2 else s.c x, fun x => if x = a.1 then some a.2 else s.de x, some a.1⟩ else s
def fold (s : BS α ε) (l : List (α × ε)) : BS α ε := l.foldl (relax G) s
def rowA (p : α) : List (α × ε) := (G.es p).map fun e => (p, e)
def arcs : List (α × ε) := G.ks.flatMap (rowA G)
def zeroR (s : BS α ε) : BS α ε := ⟨s.c, s.de, none⟩
def pass (s : BS α ε) : BS α ε := fold G (zeroR s) (arcs G)
def s0 : BS α ε := ⟨fun _ => 0, fun _ => none, none⟩
def passes : Nat → BS α ε
  | 0 => s0
  | n + 1 => pass G (passes n)
theorem mem_arcs {a : α × ε} : a ∈ arcs G ↔ a.1 ∈ G.ks ∧ a.2 ∈ G.es a.1 := by
  unfold arcs rowA
  rw [List.mem_flatMap]
  constructor
  · rintro ⟨p, hp, h⟩
    obtain ⟨e, he, rfl⟩ := List.mem_map.mp h
    exact ⟨hp, he⟩
  · rintro ⟨h1, h2⟩
    exact ⟨a.1, h1, List.mem_map.mpr ⟨a.2, h2, rfl⟩⟩
/-- what holds all the time; t: when a node rose last -/
structure GI (s : BS α ε) (t : α → Nat) (T : Nat) : Prop where
  tl : ∀ p, t p ≤ T
  nn : ∀ p, 0 ≤ s.c p
  no : ∀ p, s.de p = none → s.c p = 0
  ed : ∀ p e, s.de p = some e → p ∈ G.ks ∧ e ∈ G.es p ∧ s.c p ≤ s.c (G.to e) + G.w e ∧ (t p ≤ t (G.to e) → s.c p < s.c (G.to e) + G.w e)
def GIx (s : BS α ε) : Prop := ∃ t T, GI G s t T
variable {G}
theorem gi0 : GIx G (s0 : BS α ε) := ⟨fun _ => 0, 0, fun _ => Nat.le_refl _, fun _ => Int.le_refl _, fun _ _ => rfl, fun _ _ h => by cases h⟩
theorem gi_relax {s : BS α ε} {a : α × ε} (h : GIx G s) (ha : a ∈ arcs G) : GIx G (relax G s a) := by
  unfold relax
  split
  case isFalse => exact h
  case isTrue hlt =>
    obtain ⟨t, T, g⟩ := h
    obtain ⟨p0, e0⟩ := a
    have hm := (mem_arcs G).mp ha
    have hlt : s.c p0 < s.c (G.to e0) + G.w e0 := hlt
    refine ⟨fun x => if x = p0 then T + 1 else t x, T + 1, fun p => ?_, fun p => ?_, fun p hp => ?_, fun p e hp => ?_⟩
    · show (if p = p0 then T + 1 else t p) ≤ T + 1
      have := g.tl p
      split <;> omega
    · show 0 ≤ (if p = p0 then s.c (G.to e0) + G.w e0 else s.c p)
      have := g.nn p
      have := g.nn p0
      split <;> omega
    · have hp : (if p = p0 then some e0 else s.de p) = none := hp
      show (if p = p0 then s.c (G.to e0) + G.w e0 else s.c p) = 0
      split at hp
      · cases hp
      · rename_i n
        rw [if_neg n]
        exact g.no p hp
    · have hp : (if p = p0 then some e0 else s.de p) = some e := hp
      show p ∈ G.ks ∧ e ∈ G.es p ∧ (if p = p0 then s.c (G.to e0) + G.w e0 else s.c p) ≤ (if G.to e = p0 then s.c (G.to e0) + G.w e0 else s.c (G.to e)) + G.w e ∧ ((if p = p0 then T + 1 else t p) ≤ (if G.to e = p0 then T + 1 else t (G.to e)) → (if p = p0 then s.c (G.to e0) + G.w e0 else s.c p) < (if G.to e = p0 then s.c (G.to e0) + G.w e0 else s.c (G.to e)) + G.w e)
      by_cases n : p = p0
      · subst n
        rw [if_pos rfl] at hp
        cases hp
        rw [if_pos rfl]
        refine ⟨hm.1, hm.2, ?_⟩
        by_cases q : G.to e0 = p
        · rw [if_pos q]
          rw [q] at hlt ⊢
          exact ⟨by omega, fun _ => by omega⟩
        · rw [if_neg q, if_pos rfl, if_neg q]
          have := g.tl (G.to e0)
          exact ⟨Int.le_refl _, fun z => by omega⟩
      · rw [if_neg n] at hp
        rw [if_neg n]
        obtain ⟨k1, k2, k3, k4⟩ := g.ed p e hp
        refine ⟨k1, k2, ?_⟩
        by_cases q : G.to e = p0
        · rw [if_pos q]
          rw [q] at k3
          exact ⟨by omega, fun _ => by omega⟩
        · rw [if_neg q, if_neg n, if_neg q]
          exact ⟨k3, k4⟩
theorem gi_fold : ∀ {l : List (α × ε)} {s : BS α ε}, GIx G s → (∀ a ∈ l, a ∈ arcs G) → GIx G (fold G s l)
  | [], _, h, _ => h
  | a :: l, s, h, m => gi_fold (l := l) (gi_relax h (m a List.mem_cons_self)) fun b hb => m b (List.mem_cons_of_mem _ hb)
theorem gi_zero {s : BS α ε} (h : GIx G s) : GIx G (zeroR s) := by
  obtain ⟨t, T, g⟩ := h
  exact ⟨t, T, g.tl, g.nn, g.no, g.ed⟩
theorem gi_pass {s : BS α ε} (h : GIx G s) : GIx G (pass G s) := gi_fold (gi_zero h) fun _ m => m
theorem gi_passes : ∀ n, GIx G (passes G n)
  | 0 => gi0
  | n + 1 => gi_pass (gi_passes n)
theorem c_relax (s : BS α ε) (a : α × ε) (x : α) : s.c x ≤ (relax G s a).c x := by
  unfold relax
  split
  · rename_i h
    show s.c x ≤ (if x = a.1 then _ else s.c x)
    split
    · rename_i e; rw [e]; omega
    · omega
  · exact Int.le_refl _
theorem c_fold : ∀ (l : List (α × ε)) (s : BS α ε) (x : α), s.c x ≤ (fold G s l).c x
  | [], _, _ => Int.le_refl _
  | a :: l, s, x => Int.le_trans (c_relax s a x) (c_fold l (relax G s a) x)
theorem low_fold : ∀ (l : List (α × ε)) (s : BS α ε) (a : α × ε), a ∈ l → s.c (G.to a.2) + G.w a.2 ≤ (fold G s l).c a.1
  | b :: l, s, a, m => by
    show _ ≤ (fold G (relax G s b) l).c a.1
    rcases List.mem_cons.mp m with e | m
    · subst e
      have h : s.c (G.to a.2) + G.w a.2 ≤ (relax G s a).c a.1 := by
        unfold relax
        split
        · show _ ≤ (if a.1 = a.1 then _ else _)
          rw [if_pos rfl]
          exact Int.le_refl _
        · omega
      exact Int.le_trans h (c_fold l _ _)
    · have h := low_fold l (relax G s b) a m
      have := c_relax (G := G) s b (G.to a.2)
      omega
/-- nothing rose, or what the last word tells did -/
theorem ri_fold : ∀ (l : List (α × ε)) (s : BS α ε), ((fold G s l).ri = s.ri ∧ (fold G s l).c = s.c ∧ (fold G s l).de = s.de ∧ ∀ a ∈ l, s.c (G.to a.2) + G.w a.2 ≤ s.c a.1) ∨ ∃ v, (fold G s l).ri = some v ∧ s.c v < (fold G s l).c v ∧ ∃ e, (v, e) ∈ l
  | [], s => .inl ⟨rfl, rfl, rfl, fun _ h => by cases h⟩
  | b :: l, s => by
    show ((fold G (relax G s b) l).ri = s.ri ∧ (fold G (relax G s b) l).c = s.c ∧ (fold G (relax G s b) l).de = s.de ∧ _) ∨ ∃ v, (fold G (relax G s b) l).ri = some v ∧ s.c v < (fold G (relax G s b) l).c v ∧ _
    by_cases hb : s.c b.1 < s.c (G.to b.2) + G.w b.2
    · have e : relax G s b = ⟨fun x => if x = b.1 then s.c (G.to b.2) + G.w b.2 else s.c x, fun x => if x = b.1 then some b.2 else s.de x, some b.1⟩ := by unfold relax; rw [if_pos hb]
      have eb : (relax G s b).c b.1 = s.c (G.to b.2) + G.w b.2 := by rw [e]; show (if b.1 = b.1 then _ else _) = _; rw [if_pos rfl]
      rcases ri_fold l (relax G s b) with ⟨h1, h2, h3, h4⟩ | ⟨v, h1, h2, e2, h3⟩
      · refine .inr ⟨b.1, by rw [h1, e], by rw [h2, eb]; exact hb, b.2, List.mem_cons_self⟩
      · exact .inr ⟨v, h1, Int.lt_of_le_of_lt (c_relax s b v) h2, e2, List.mem_cons_of_mem _ h3⟩
    · have e : relax G s b = s := by unfold relax; rw [if_neg hb]
      rw [e]
      rcases ri_fold l s with ⟨h1, h2, h3, h4⟩ | ⟨v, h1, h2, e2, h3⟩
      · refine .inl ⟨h1, h2, h3, fun a m => ?_⟩
        rcases List.mem_cons.mp m with z | m
        · subst z; omega
        · exact h4 a m
      · exact .inr ⟨v, h1, h2, e2, List.mem_cons_of_mem _ h3⟩
theorem pass_still {s : BS α ε} (h : (pass G s).ri = none) : (pass G s).c = s.c ∧ ∀ a ∈ arcs G, s.c (G.to a.2) + G.w a.2 ≤ s.c a.1 := by
  rcases ri_fold (G := G) (arcs G) (zeroR s) with ⟨_, h2, _, h4⟩ | ⟨v, h1, _⟩
  · exact ⟨h2, h4⟩
  · have : (pass G s).ri = some v := h1
    rw [h] at this; cases this
theorem pass_rose {s : BS α ε} {v : α} (h : (pass G s).ri = some v) : s.c v < (pass G s).c v ∧ v ∈ G.ks := by
  rcases ri_fold (G := G) (arcs G) (zeroR s) with ⟨h1, _⟩ | ⟨v', h1, h2, e, h3⟩
  · have : (pass G s).ri = none := h1
    rw [h] at this; cases this
  · have : (pass G s).ri = some v' := h1
    rw [h] at this
    cases this
    exact ⟨h2, ((mem_arcs G).mp h3).1⟩
/-! ### walks -/
def Walk (G : Gph α ε) : α → List ε → α → Prop
  | p, [], q => p = q
  | p, e :: l, q => p ∈ G.ks ∧ e ∈ G.es p ∧ Walk G (G.to e) l q
def W (G : Gph α ε) (l : List ε) : Int := (l.map G.w).sum
theorem W_cons {e : ε} {l : List ε} : W G (e :: l) = G.w e + W G l := by unfold W; rw [List.map_cons, List.sum_cons]
theorem W_snoc {e : ε} : ∀ {l : List ε}, W G (l ++ [e]) = W G l + G.w e
  | [] => by rw [List.nil_append, W_cons]; unfold W; simp
  | a :: l => by rw [List.cons_append, W_cons, W_cons, W_snoc (l := l)]; omega
theorem walk_snoc {e : ε} : ∀ {l : List ε} {p q : α}, Walk G p l q → q ∈ G.ks → e ∈ G.es q → Walk G p (l ++ [e]) (G.to e)
  | [], p, q, h, h1, h2 => by cases (show p = q from h); exact ⟨h1, h2, rfl⟩
  | a :: l, p, q, h, h1, h2 => ⟨h.1, h.2.1, walk_snoc (l := l) h.2.2 h1 h2⟩
theorem low_walk : ∀ (k : Nat) (l : List ε) (p q : α), Walk G p l q → l.length ≤ k → W G l ≤ (passes G k).c p
  | k, [], p, q, _, _ => by
    obtain ⟨t, T, g⟩ := gi_passes (G := G) k
    show (0 : Int) ≤ _
    exact g.nn p
  | 0, e :: l, p, q, h, hl => absurd hl (by simp)
  | k + 1, e :: l, p, q, h, hl => by
    have ih := low_walk k l (G.to e) q h.2.2 (by simpa using hl)
    have m : (p, e) ∈ arcs G := (mem_arcs G).mpr ⟨h.1, h.2.1⟩
    have := low_fold (G := G) (arcs G) (zeroR (passes G k)) (p, e) m
    have : (passes G k).c (G.to e) + G.w e ≤ (passes G (k + 1)).c p := this
    rw [W_cons]
    omega
/-! ### along the dearest arcs -/
def nx (s : BS α ε) (G : Gph α ε) (p : α) : α := match s.de p with
  | some e => G.to e
  | none => p
def it (f : α → α) : Nat → α → α
  | 0, x => x
  | n + 1, x => it f n (f x)
theorem it_add (f : α → α) : ∀ (m n : Nat) (x : α), it f (m + n) x = it f n (it f m x)
  | 0, n, x => by rw [Nat.zero_add]; rfl
  | m + 1, n, x => by rw [Nat.add_right_comm]; exact it_add f m n (f x)
theorem it_s (f : α → α) (n : Nat) (x : α) : it f (n + 1) x = f (it f n x) := it_add f n 1 x
theorem nx_some {s : BS α ε} {p : α} {e : ε} (h : s.de p = some e) : nx s G p = G.to e := by unfold nx; rw [h]
/-- the arcs from the first j nodes of the chain -/
def chain (s : BS α ε) (G : Gph α ε) (v : α) (j : Nat) : List ε := (List.range j).filterMap fun i => s.de (it (nx s G) i v)
theorem chain_s {s : BS α ε} {v : α} {j : Nat} {e : ε} (h : s.de (it (nx s G) j v) = some e) : chain s G v (j + 1) = chain s G v j ++ [e] := by
  unfold chain
  rw [List.range_succ, List.filterMap_append]
  simp [h]
theorem chain_ok {s : BS α ε} {t : α → Nat} {T : Nat} (g : GI G s t T) {v : α} : ∀ j, (∀ i, i < j → s.de (it (nx s G) i v) ≠ none) →
    Walk G v (chain s G v j) (it (nx s G) j v) ∧ (chain s G v j).length = j ∧ s.c v ≤ s.c (it (nx s G) j v) + W G (chain s G v j) ∧ (s.c v < s.c (it (nx s G) j v) + W G (chain s G v j) ∨ t (it (nx s G) j v) + j ≤ t v)
  | 0, _ => ⟨rfl, rfl, by show s.c v ≤ s.c v + 0; omega, .inr (by show t v + 0 ≤ t v; omega)⟩
  | j + 1, h => by
    obtain ⟨h1, h2, h3, h4⟩ := chain_ok g j fun i hi => h i (by omega)
    cases hd : s.de (it (nx s G) j v) with
    | none => exact absurd hd (h j (by omega))
    | some e =>
      obtain ⟨k1, k2, k3, k4⟩ := g.ed _ e hd
      have e1 : it (nx s G) (j + 1) v = G.to e := by rw [it_s, nx_some hd]
      rw [chain_s hd, e1, W_snoc]
      refine ⟨walk_snoc h1 k1 k2, by rw [List.length_append, h2]; rfl, by omega, ?_⟩
      rcases h4 with h4 | h4
      · exact .inl (by omega)
      · by_cases c : t (it (nx s G) j v) ≤ t (G.to e)
        · have := k4 c
          exact .inl (by omega)
        · exact .inr (by omega)
theorem least {p : Nat → Prop} : ∀ n, p n → ∃ m, p m ∧ ∀ i, i < m → ¬ p i := by
  intro n
  induction n using Nat.strongRecOn with
  | _ n ih =>
    intro h
    by_cases c : ∃ i, i < n ∧ p i
    · obtain ⟨i, hi, hp⟩ := c
      exact ih i hi hp
    · exact ⟨n, h, fun i hi hp => c ⟨i, hi, hp⟩⟩
theorem nodup_range {f : Nat → α} : ∀ n, (∀ a b, a < b → b < n → f a ≠ f b) → ((List.range n).map f).Nodup
  | 0, _ => List.nodup_nil
  | n + 1, h => by
    rw [List.range_succ, List.map_append, List.nodup_append]
    refine ⟨nodup_range n fun a b x y => h a b x (by omega), by simp, fun x hx y hy => ?_⟩
    obtain ⟨a, ha, rfl⟩ := List.mem_map.mp hx
    have ha := List.mem_range.mp ha
    have : y = f n := by simpa using hy
    rw [this]
    exact h a n ha (by omega)
variable (cl : ∀ p ∈ G.ks, ∀ e ∈ G.es p, G.to e ∈ G.ks)
include cl
theorem it_in {s : BS α ε} (g : GIx G s) {v : α} (hv : v ∈ G.ks) : ∀ j, it (nx s G) j v ∈ G.ks
  | 0 => hv
  | j + 1 => by
    rw [it_s]
    have ih := it_in g hv j
    unfold nx
    split
    · rename_i e he
      obtain ⟨t, T, g⟩ := g
      obtain ⟨k1, k2, _⟩ := g.ed _ e he
      exact cl _ k1 e k2
    · exact ih
/-- A: the chain from what rose last never ends -/
theorem chain_on {n : Nat} (hn : G.ks.length = n + 1) {v : α} (hr : (passes G (n + 1)).ri = some v) : ∀ j, (passes G (n + 1)).de (it (nx (passes G (n + 1)) G) j v) ≠ none := by
  intro j0 h0
  obtain ⟨lt, hv⟩ := pass_rose (s := passes G n) hr
  have lt : (passes G n).c v < (passes G (n + 1)).c v := lt
  have gx := gi_passes (G := G) (n + 1)
  generalize hs : passes G (n + 1) = s at *
  obtain ⟨j, hj, hmin⟩ := least (p := fun j => s.de (it (nx s G) j v) = none) j0 h0
  obtain ⟨t, T, g⟩ := id gx
  obtain ⟨h1, h2, h3, _⟩ := chain_ok g j hmin
  have h4 := g.no _ hj
  have hl : j ≤ n := by
    have nd : ((List.range (j + 1)).map fun i => it (nx s G) i v).Nodup := nodup_range (j + 1) fun a b hab hb e => by
      have e1 : it (nx s G) (a + (j - b)) v = it (nx s G) j v := by
        rw [it_add, e, ← it_add]
        congr 1
        omega
      exact hmin (a + (j - b)) (by omega) (by rw [e1]; exact hj)
    have := nodup_le nd (ks := G.ks) fun x hx => by
      obtain ⟨i, _, rfl⟩ := List.mem_map.mp hx
      exact it_in cl gx hv i
    rw [List.length_map, List.length_range, hn] at this
    omega
  have := low_walk n _ v _ h1 (by omega)
  omega
omit cl in
/-- B: behind as many steps as there are keys the chain stands on a round -/
theorem on_round {s : BS α ε} {v : α} {kd : List α} (on : ∀ j, s.de (it (nx s G) j v) ≠ none) (hk : ∀ p, s.de p ≠ none → p ∈ kd) : ∃ k, 1 ≤ k ∧ k ≤ kd.length ∧ it (nx s G) k (it (nx s G) kd.length v) = it (nx s G) kd.length v := by
  have ex : ∃ a b, a < b ∧ b < kd.length + 1 ∧ it (nx s G) a v = it (nx s G) b v := by
    refine Classical.byContradiction fun h => ?_
    have nd : ((List.range (kd.length + 1)).map fun i => it (nx s G) i v).Nodup := nodup_range _ fun a b hab hb e => h ⟨a, b, hab, hb, e⟩
    have := nodup_le nd (ks := kd) fun x hx => by
      obtain ⟨i, _, rfl⟩ := List.mem_map.mp hx
      exact hk _ (on i)
    rw [List.length_map, List.length_range] at this
    omega
  obtain ⟨a, b, hab, hb, e⟩ := ex
  refine ⟨b - a, by omega, by omega, ?_⟩
  rw [← it_add]
  have e1 : kd.length + (b - a) = b + (kd.length - a) := by omega
  have e2 : kd.length = a + (kd.length - a) := by omega
  rw [e1, it_add, ← e, ← it_add, ← e2]
omit cl in
/-- C: a round of dearest arcs is worth more than nothing -/
theorem round_pos {s : BS α ε} (gx : GIx G s) {x : α} {k : Nat} (hk : 1 ≤ k) (on : ∀ j, j < k → s.de (it (nx s G) j x) ≠ none) (e : it (nx s G) k x = x) : Walk G x (chain s G x k) x ∧ (chain s G x k).length = k ∧ 0 < W G (chain s G x k) := by
  obtain ⟨t, T, g⟩ := gx
  obtain ⟨h1, h2, h3, h4⟩ := chain_ok g k on
  rw [e] at h1 h3 h4
  refine ⟨h1, h2, ?_⟩
  rcases h4 with h4 | h4 <;> omega
end BF

namespace CK
open PySem L2 PyProof.Rows
/-- turns of any walk -/
theorem turns {J : It} {n : Nat} {G : Hp → Prop} {Y : Nat → Hp → V → Hp → Prop} (w : L2.Walk J n G Y) {body : V → Hp → (Hp → Prop) → Prop} {Hs : Hp} {Qd : Hp → Prop} (Pv : Nat → Hp → Prop) (h0 : Pv 0 Hs) (hG : ∀ i H, i ≤ n → Pv i H → G H)
    (hs : ∀ i x H H', i < n → Pv i H → Y i H x H' → body x H' (Pv (i + 1))) (hd : ∀ H, Pv n H → Qd H) :
    ∃ W : Nat → Nat → Hp → Prop, (∃ m, W 0 m Hs) ∧ ∀ i m H, W i m H →
      (J.stop i H ∧ Qd H) ∨ (J.go i H ∧ ∃ Nx : Hp → Prop, (∀ H', Nx H' → ∃ m', m' < m ∧ W (i + 1) m' H') ∧ ∀ x H', J.yld i H x H' → body x H' Nx) := by
  refine ⟨fun i m H => m = n - i ∧ i ≤ n ∧ Pv i H, ⟨n, by simp, Nat.zero_le _, h0⟩, ?_⟩
  rintro i m H ⟨rfl, hi, p⟩
  have q := hG i H hi p
  by_cases hlt : i < n
  · exact .inr ⟨w.goes i H hlt q, Pv (i + 1), fun H' p' => ⟨n - (i + 1), by omega, rfl, hlt, p'⟩, fun x H' y => hs i x H H' hlt p (w.yields i H x H' hlt q y)⟩
  · have e : i = n := by omega
    subst e
    exact .inl ⟨w.stops H q, hd H p⟩
/-! ### steps -/
abbrev Ed := Deed × Int × List Nat
def dls (p : List Nat) : List Deed := (allD p.length).filter fun d => (step1 p.length (many p) d).isSome
def edOf (r p : List Nat) (d : Deed) : Ed := (d, (stepM r p d).1, (stepM r p d).2)
def EE (r p : List Nat) : List Ed := (dls p).map (edOf r p)
def StepAt (H : Hp) (p : List Nat) (T : Addr) (e : Ed) : Prop := ∃ Da, H T = some (.tup [.str (Tx p), .ref Da, .int e.2.1, .str (Tx e.2.2)]) ∧ H Da = some (.tup [.str (wd e.1.1), .int e.1.2])
theorem StepAt.mono {H H' : Hp} (s : TS H H') {p : List Nat} {T : Addr} {e : Ed} (h : StepAt H p T e) : StepAt H' p T e := by
  obtain ⟨Da, a, b⟩ := h
  exact ⟨Da, s _ _ a, s _ _ b⟩
def StepsAt (H : Hp) (p : List Nat) (ts : List Addr) (es : List Ed) : Prop := Paired (StepAt H p) ts es
theorem StepsAt.mono {H H' : Hp} (s : TS H H') {p : List Nat} {ts : List Addr} {es : List Ed} (h : StepsAt H p ts es) : StepsAt H' p ts es := Paired.mapP h fun _ _ q => StepAt.mono s q
theorem allD_len (n : Nat) : (allD n).length = 2 * n := by unfold allD; simp; omega
theorem allD_at {n i j : Nat} (hi : i < 2) (hj : j < n) : (allD n)[i * n + j]? = some (decide (i = 0), j) := by
  unfold allD
  have : i = 0 ∨ i = 1 := by omega
  rcases this with rfl | rfl
  · rw [List.getElem?_append_left (by simp; omega)]
    simp [hj]
  · rw [List.getElem?_append_right (by simp)]
    simp [hj]
theorem count_all : (([1, 2, 3, 4, 5, 6] : List Nat).all fun n => (bits n).all fun p => Txt.count (Tx p) "1" == (many p : Int)) = true := by decide +kernel
theorem count_many {p : List Nat} (hb : isBits p = true) (h1 : 1 ≤ p.length) (h6 : p.length ≤ 6) : Txt.count (Tx p) "1" = (many p : Int) := by
  have h := List.all_eq_true.mp count_all p.length (by
    have : p.length = 1 ∨ p.length = 2 ∨ p.length = 3 ∨ p.length = 4 ∨ p.length = 5 ∨ p.length = 6 := by omega
    rcases this with e | e | e | e | e | e <;> rw [e] <;> decide)
  exact eq_of_beq (List.all_eq_true.mp h p (bits_mem hb))
def spSteps : Sp := fun vs H Q _ => ∃ r p, vs = [.str (Tx r), .str (Tx p)] ∧ r ∈ rules ∧ isBits p = true ∧ 1 ≤ p.length ∧ p.length ≤ 6 ∧
  ∀ H' L ts, Same H H' → H L = none → H' L = some (.lst (ts.map V.ref)) → StepsAt H' p ts (EE r p) → Q (.ref L) H'
theorem EE_snoc {r p : List Nat} {d : Deed} {i : Nat} (h : (allD p.length)[i]? = some d) :
    ((((allD p.length).take (i + 1)).filter fun d => (step1 p.length (many p) d).isSome).map (edOf r p)) = ((((allD p.length).take i).filter fun d => (step1 p.length (many p) d).isSome).map (edOf r p)) ++ (if (step1 p.length (many p) d).isSome then [edOf r p d] else []) := by
  rw [take_succ' h, List.filter_append, List.map_append]
  congr 1
  by_cases c : (step1 p.length (many p) d).isSome = true
  · rw [if_pos c, List.filter_cons_of_pos (by simpa using c)]; rfl
  · rw [if_neg c, List.filter_cons_of_neg (by simpa using c)]; rfl
section
variable {P : Program} {w : World} {K : PySem.W.Frag} {mg : Str → Option Value} {base : Heap} {cc : Nat → Addr}
abbrev s_steps_from : Stmt := top 37
theorem sc_steps_from : FnScope ["rule", "pattern", "wide", "many", "steps", "deed", "what", "rank", "moved", "behind"] ["rule", "pattern"] (defScope s_steps_from) := ⟨rfl, rfl, rfl, by decide +kernel, rfl, by decide +kernel, by decide +kernel⟩

theorem ok_steps_from {f : Addr} {fd : FuncData} (F : Fun K "steps_from" "steps_from" s_steps_from f fd) (T : Txt K mg) (OC : Own P w K mg base cc 1 "can_be_done" ["wide", "many", "deed"] c_can_be_done) (OE : Own P w K mg base cc 4 "done" ["rule", "pattern", "deed"] c_done) : FnOk P w K mg base CX0 5 f fd ["rule", "pattern"] spSteps := by
  refine F.ok sc_steps_from (fun vs H Q E h => ?_) (fun cdv A outer s H vs Q E hr h => ?_)
  · obtain ⟨r, p, rfl, _⟩ := h
    rfl
  · obtain ⟨r, p, rfl, hrr, hb, h1, h6, kq⟩ := h
    have nd := sc_steps_from.nd
    refine ⟨_, (pss_cons (ps_set (i := 2) nd rfl (by first | exact Or.inl rfl | exact Or.inr rfl) (pe_callB call_len (by rfl) T.n_len boot_len (pa_cons (pv 1) pa_nil)))
      (pss_cons (ps_set (i := 3) nd rfl (by first | exact Or.inl rfl | exact Or.inr rfl) (pe_bm PySem.F.plainAttrs_str PySem.F.slot_str_count PySem.F.type_str_count mt_count (pv 1) (pa_cons pe_str pa_nil)))
      (pss_cons (ps_set (i := 4) nd rfl (by first | exact Or.inl rfl | exact Or.inr rfl) (pe_lst pa_nil))
      (pss_cons (ps_for PassesOwn.never rfl (pi_list (pe_lc2 (own := [("what", 6), ("rank", 7)]) (vs1 := [7]) (g := gName 6) (g1 := gName 7) (tt := tYes) (tt1 := tYes) rfl nd (pi_tup (pe_tup (pa_cons pe_str (pa_cons pe_str pa_nil)))) (blkOk_by (N := ["rule", "pattern", "wide", "many", "steps", "deed", "what", "rank", "moved", "behind"]) (sc := defScope s_steps_from) (by decide +kernel)) (by decide) (fun _ _ _ _ _ => pg_name (i := 6) nd rfl (Or.inl rfl)) (fun _ _ _ _ _ => pts_nil) (fun _ _ _ _ _ => pi_range1 (by rfl) T.n_range (pa_cons (pv 2) pa_nil)) (fun _ _ _ _ _ => pg_name (i := 7) nd rfl (Or.inl rfl)) (fun _ _ _ _ _ => pts_nil) (fun _ _ _ _ _ => pe_tup (pa_cons (pv 6) (pa_cons (pv 7) pa_nil))))) (pg_name (i := 5) nd rfl (by first | exact Or.inl rfl | exact Or.inr rfl))
      (pss_one (ps_if (pt_val (pe_own OC (hr.mono (by decide)) (pa_cons (pv 2) (pa_cons (pv 3) (pa_cons (pv 5) pa_nil))))) (pss_cons (ps_asg (pe_own OE (hr.mono (by decide)) (pa_cons (pv 0) (pa_cons (pv 1) (pa_cons (pv 5) pa_nil)))) (pg_tup rfl (pgs_cons (pg_name (i := 8) nd rfl (by first | exact Or.inl rfl | exact Or.inr rfl)) (pgs_cons (pg_name (i := 9) nd rfl (by first | exact Or.inl rfl | exact Or.inr rfl)) pgs_nil))))
      (pss_one (ps_expr (pe_bm PySem.F.plainAttrs_list PySem.F.slot_list_append PySem.F.type_list_append mt_append (pv 4) (pa_cons (pe_tup (pa_cons (pv 1) (pa_cons (pv 5) (pa_cons (pv 8) (pa_cons (pv 9) pa_nil))))) pa_nil))))) pss_nil)))
      (pss_one (ps_ret (pv 4))))))), ?_⟩
    refine ⟨_, rfl, _, p.length, rfl, ⟨by rw [Tx_len, sizeLine_eq]; omega, by rw [Tx_len]⟩, ?_⟩
    refine ⟨_, rfl, rfl, Tx p, "1", rfl, rfl, ?_⟩
    rw [count_many hb h1 h6]
    refine ⟨(show 0 ≤ sizeLine by decide), fun S hS => ?_⟩
    have sS : Same H (upd H S (.lst [])) := Same.new' (Same.refl _) hS
    have eS : (upd H S (.lst [])) S = some (.lst []) := upd_same
    generalize upd H S (.lst []) = H1 at *
    refine ⟨(show 2 ≤ sizeLine by decide), fun Z hZ => ?_⟩
    have sZ : Same H1 (upd H1 Z (.tup [.str "put", .str "take"])) := Same.new' (Same.refl _) hZ
    have eZ : (upd H1 Z (.tup [.str "put", .str "take"])) Z = some (.tup [.str "put", .str "take"]) := upd_same
    generalize upd H1 Z (.tup [.str "put", .str "take"]) = H2 at *
    refine ⟨Z, rfl, ⟨_, SqT.of eZ⟩, fun L hL => ?_⟩
    refine turns (walk_tup (K := K) (a := Z) (xs := [.str "put", .str "take"])) (fun i H' => Same H2 H' ∧ ∃ as : List Addr, H' L = some (.lst (as.map V.ref)) ∧ Tups H' as ((allD p.length).take (i * p.length))) ⟨Same.new' (Same.refl _) hL, [], upd_same, by rw [Nat.zero_mul]; exact .nil⟩ (fun i H' _ q => SqT.of (q.1 _ _ eZ)) ?_ ?_
    · rintro i x H3 H3' hi ⟨s3, as, hL3, ht3⟩ ⟨eH3, hx⟩
      subst H3'
      obtain ⟨wx, hwx⟩ : ∃ b : Bool, b = decide (i = 0) ∧ x = .str (wd b) := by
        match i, hx with
        | 0, hx => cases hx; exact ⟨true, rfl, rfl⟩
        | 1, hx => cases hx; exact ⟨false, rfl, rfl⟩
        | n + 2, hx => simp at hx
      obtain ⟨ewx, rfl⟩ := hwx
      refine ⟨rfl, yes_rd ?_⟩
      refine ⟨_, rfl, (p.length : Nat), rfl, by omega, by omega, ?_⟩
      refine turns (walk_range (lo := 0) (n := ((p.length : Nat) : Int).toNat)) (fun j H' => Same H2 H' ∧ ∃ as : List Addr, H' L = some (.lst (as.map V.ref)) ∧ Tups H' as ((allD p.length).take (i * p.length + j))) ⟨s3, as, hL3, ht3⟩ (fun _ _ _ _ => trivial) ?_ ?_
      · rintro j y H4 H4' hj ⟨s4, as4, hL4, ht4⟩ ⟨eH4, rfl⟩
        subst H4'
        rw [Int.toNat_natCast] at hj
        refine ⟨rfl, yes_rd ?_⟩
        refine ⟨_, rfl, _, rfl, (show 2 ≤ sizeLine by decide), fun q hq => ?_⟩
        have hL5 : (upd H4 q (.tup [.str (wd wx), .int (0 + (j : Int))])) L = some (.lst (as4.map V.ref)) := by rw [upd_ne (ne_of_none hL4 hq)]; exact hL4
        have s5 : Same H4 (upd H4 q (.tup [.str (wd wx), .int (0 + (j : Int))])) := Same.new' (Same.refl _) hq
        have hal := ht4.length
        have h2 : (i : Nat) < 2 := hi
        refine ⟨_, hL5, ?_, ?_, as4 ++ [q], ?_, ?_⟩
        · rw [List.length_map, hal, List.length_take, allD_len, sizeLine_eq]; omega
        · exact fun b o e => by rw [upd_ne (ne_of_none e hL)]; exact s5 _ _ (s4 _ _ e)
        · rw [upd_same, List.map_append]; rfl
        · have nqL : q ≠ L := fun z => by rw [z, hL4] at hq; cases hq
          have st : (allD p.length).take (i * p.length + (j + 1)) = (allD p.length).take (i * p.length + j) ++ [(wx, j)] := by
            rw [← Nat.add_assoc, take_succ' (allD_at h2 hj), ewx]
          rw [st]
          have ts5 : TS H4 (upd (upd H4 q (.tup [.str (wd wx), .int (0 + (j : Int))])) L (.lst (as4.map V.ref ++ [.ref q]))) := fun t xs e => by
            rw [upd_ne (fun z => by rw [z, hL4] at e; cases e)]
            exact s5 _ _ e
          refine Pd.app (Tups.mono ts5 ht4) (.cons ?_ .nil)
          rw [upd_ne nqL, upd_same]
          show some (HO.tup [V.str (wd wx), V.int (0 + (j : Int))]) = some (HO.tup [V.str (wd wx), V.int (j : Nat)])
          rw [Int.zero_add]
      · rintro H4 ⟨s4, as4, hL4, ht4⟩
        rw [Int.toNat_natCast] at ht4
        exact ⟨s4, as4, hL4, by rw [Nat.succ_mul]; exact ht4⟩
    · rintro H3 ⟨s3, as, hL3, ht3⟩
      have ht3 : Tups H3 as (allD p.length) := by
        have : (allD p.length).take (2 * p.length) = allD p.length := List.take_of_length_le (by rw [allD_len]; omega)
        rw [← this]; exact ht3
      have eS3 := s3 _ _ (sZ _ _ eS)
      have nLS : L ≠ S := fun z => by rw [z, sZ _ _ eS] at hL; cases hL
      have s03 : Same H H3 := (sS.trans sZ).trans s3
      have hal := ht3.length
      rw [allD_len] at hal
      refine ⟨L, rfl, ⟨_, SqL.of hL3⟩, ?_⟩
      refine for_list (K := K) (a := L) (xs := as.map V.ref) (fun i σ H' => ∃ x5 x6 x7 x8 x9 ts, σ = [some (.str (Tx r)), some (.str (Tx p)), some (.int p.length), some (.int (many p)), some (.ref S), x5, x6, x7, x8, x9] ∧ Same H H' ∧ H' L = some (.lst (as.map V.ref)) ∧ Tups H' as (allD p.length) ∧ H' S = some (.lst (ts.map V.ref)) ∧ StepsAt H' p ts ((((allD p.length).take i).filter fun d => (step1 p.length (many p) d).isSome).map (edOf r p)))
        ⟨none, none, none, none, none, [], rfl, s03, hL3, ht3, eS3, .nil⟩ (fun i σ H' _ ⟨_, _, _, _, _, _, _, _, q, _⟩ => SqL.of q) ?_ ?_
      · rintro i x σ H4 hx ⟨x5, x6, x7, x8, x9, ts, rfl, s4, hL4, ht4, hS4, hst⟩
        obtain ⟨t, hti, rfl⟩ : ∃ t, as[i]? = some t ∧ x = V.ref t := by
          rw [List.getElem?_map] at hx
          cases e : as[i]? with
          | none => rw [e] at hx; cases hx
          | some t => rw [e] at hx; exact ⟨t, rfl, (Option.some.inj hx).symm⟩
        obtain ⟨d, hdi, htd⟩ := Pd.get ht4 hti
        have hj : d.2 < p.length := by
          have := List.mem_of_getElem? hdi
          unfold allD at this
          rcases List.mem_append.mp this with m | m
          · obtain ⟨j, hj, rfl⟩ := List.mem_map.mp m; exact List.mem_range.mp hj
          · obtain ⟨j, hj, rfl⟩ := List.mem_map.mp m; exact List.mem_range.mp hj
        have tl : ts.length ≤ 2 * p.length := by
          rw [hst.length, List.length_map]
          have := List.length_filter_le (fun d => (step1 p.length (many p) d).isSome) ((allD p.length).take i)
          rw [List.length_take, allD_len] at this
          omega
        have esn := EE_snoc (r := r) hdi
        cases hs : step1 p.length (many p) d with
        | none =>
          obtain ⟨hC, eC, kC⟩ := isFl_some (cant_of hb h1 h6 hj hs)
          have eC : c_can_be_done [.int p.length, .int (many p), .ref 0] (CH.of [dT d]) = some (.bl false, hC) := eC
          refine ⟨_, rfl, _, rfl, _, rfl, sp_keeps (cc := cc) (E := E0) (HR.one htd (dT_ro d)) (.cons (rvI _) (.cons (rvI _) (.cons (rvR (n := 0) rfl) .nil))) eC kC fun η5 H5 v5 s5 _ R5 rv5 => ⟨false, rv5, iteF ?_⟩⟩
          rw [hs, if_neg (by simp), List.append_nil] at esn
          exact ⟨_, _, _, _, _, ts, rfl, s4.trans s5, s5 _ _ hL4, ht4.mono (TS.same s5), s5 _ _ hS4, by rw [esn]; exact hst.mono (TS.same s5)⟩
        | some k =>
          have g := good_step hrr hb h1 h6 hs
          obtain ⟨hC, eC, kC⟩ := isT_some g.can
          have eC : c_can_be_done [.int p.length, .int (many p), .ref 0] (CH.of [dT d]) = some (.bl true, hC) := eC
          refine ⟨_, rfl, _, rfl, _, rfl, sp_keeps (cc := cc) (E := E0) (HR.one htd (dT_ro d)) (.cons (rvI _) (.cons (rvI _) (.cons (rvR (n := 0) rfl) .nil))) eC kC fun η5 H5 v5 s5 _ R5 rv5 => ⟨true, rv5, iteT ?_⟩⟩
          have htd5 := s5 _ _ htd
          obtain ⟨nE, hE, eE, gE, kE⟩ := rdTS_some g.done
          have eE : c_done [.str r, .str p, .ref 0] (CH.of [dT d]) = some (.ref nE, hE) := eE
          refine ⟨_, rfl, _, rfl, _, rfl, sp_keeps (cc := cc) (E := E0) (HR.one htd5 (dT_ro d)) (.cons (rvS r) (.cons (rvS p) (.cons (rvR (n := 0) rfl) .nil))) eE kE fun η6 H6 v6 s6 _ R6 rv6 => ?_⟩
          obtain ⟨T6, eT6, rfl⟩ := rv6
          obtain ⟨y6, hT6, ry6⟩ := R6.tup gE eT6
          rw [RVs.fn ry6 (.cons (rvI _) (.cons (rvS _) .nil))] at hT6
          refine ⟨T6, _, rfl, SqT.of hT6, rfl, _, _, rfl, _, _, rfl, rfl, ?_⟩
          have s46 := s5.trans s6
          have hS6 := s46 _ _ hS4
          refine ⟨_, rfl, .inl ⟨rfl, _, SqL.of hS6⟩, _, rfl, _, rfl, _, rfl, _, rfl, (show 4 ≤ sizeLine by decide), fun q hq => ?_⟩
          have nqS : S ≠ q := ne_of_none hS6 hq
          refine ⟨S, _, _, rfl, rfl, by rw [upd_ne nqS]; exact hS6, by rw [List.length_map, sizeLine_eq]; omega, ?_⟩
          have s67 : Same H6 (upd H6 q (.tup [.str (Tx p), .ref t, .int (stepM r p d).1, .str (Tx (stepM r p d).2)])) := Same.new' (Same.refl _) hq
          have ts7 : TS H4 (upd (upd H6 q (.tup [.str (Tx p), .ref t, .int (stepM r p d).1, .str (Tx (stepM r p d).2)])) S (.lst (ts.map V.ref ++ [.ref q]))) := fun t xs e => by
            rw [upd_ne (fun z => by rw [z, hS4] at e; cases e)]
            exact s67 _ _ (s46 _ _ e)
          have o7 : ∀ y o, y ≠ S → H4 y = some o → (upd (upd H6 q (.tup [.str (Tx p), .ref t, .int (stepM r p d).1, .str (Tx (stepM r p d).2)])) S (.lst (ts.map V.ref ++ [.ref q]))) y = some o := fun y o n e => by
            rw [upd_ne n]; exact s67 _ _ (s46 _ _ e)
          refine ⟨_, _, _, _, _, ts ++ [q], rfl, fun y o e => o7 y o (ne_of_none e hS) (s4 _ _ e), o7 _ _ nLS hL4, ht4.mono ts7, by rw [upd_same, List.map_append]; rfl, ?_⟩
          rw [hs, if_pos (show (some k).isSome = true from rfl)] at esn
          rw [esn]
          refine Pd.app (hst.mono ts7) (.cons ⟨t, ?_, ts7 _ _ htd⟩ .nil)
          rw [upd_ne (Ne.symm nqS), upd_same]
          rfl
      · rintro σ H4 ⟨x5, x6, x7, x8, x9, ts, rfl, s4, hL4, ht4, hS4, hst⟩
        rw [List.length_map, hal, List.take_of_length_le (by rw [allD_len]; omega)] at hst
        exact ⟨_, rfl, kq H4 S ts s4 hS hS4 hst⟩
end
end CK

namespace CK
open PySem L2 PyProof.Rows
/-! ### dicts keyed by patterns -/
def fm (ks : List (List Nat)) (f : List Nat → V) : List (Key × V) := ks.map fun p => (Sum.inr (Tx p), f p)
theorem fm_len (ks : List (List Nat)) (f : List Nat → V) : (fm ks f).length = ks.length := List.length_map ..
theorem key_eq {p q : List Nat} : ((Sum.inr (Tx p) : Key) = Sum.inr (Tx q)) ↔ p = q := ⟨fun e => Tx_inj.mp (Sum.inr.inj e), fun e => by rw [e]⟩
theorem val_in (f : List Nat → V) : ∀ {ks : List (List Nat)} {p : List Nat}, p ∈ ks → valV (fm ks f) (Sum.inr (Tx p)) = some (f p)
  | q :: ks, p, h => by
    by_cases e : q = p
    · subst e; exact valV_pos rfl
    · show valV ((Sum.inr (Tx q), f q) :: fm ks f) _ = _
      rw [valV_neg (fun z => e (key_eq.mp z))]
      rcases List.mem_cons.mp h with z | h
      · exact absurd z.symm e
      · exact val_in f h
theorem val_out (f : List Nat → V) : ∀ {ks : List (List Nat)} {p : List Nat}, p ∉ ks → valV (fm ks f) (Sum.inr (Tx p)) = none
  | [], p, _ => rfl
  | q :: ks, p, h => by
    show valV ((Sum.inr (Tx q), f q) :: fm ks f) _ = _
    rw [valV_neg (fun z => h (by rw [key_eq.mp z]; exact List.mem_cons_self))]
    exact val_out f fun m => h (List.mem_cons_of_mem _ m)
theorem put_in' (f : List Nat → V) {ks : List (List Nat)} {p : List Nat} (h : p ∈ ks) (v : V) : putK (fm ks f) (Sum.inr (Tx p)) v = fm ks (fun q => if q = p then v else f q) := by
  have a : ((fm ks f).any fun kv => decide (kv.1 = Sum.inr (Tx p))) = true := by rw [valV_any, val_in f h]; rfl
  unfold putK
  rw [if_pos a]
  unfold fm
  rw [List.map_map]
  apply List.map_congr_left
  intro q _
  show (if (Sum.inr (Tx q) : Key) = Sum.inr (Tx p) then ((Sum.inr (Tx q) : Key), v) else (Sum.inr (Tx q), f q)) = (Sum.inr (Tx q), if q = p then v else f q)
  by_cases e : q = p
  · rw [if_pos (key_eq.mpr e), if_pos e]
  · rw [if_neg (fun z => e (key_eq.mp z)), if_neg e]
theorem put_out' (f : List Nat → V) {ks : List (List Nat)} {p : List Nat} (h : p ∉ ks) (v : V) : putK (fm ks f) (Sum.inr (Tx p)) v = fm (ks ++ [p]) (fun q => if q = p then v else f q) := by
  rw [putK_new v (val_out f h)]
  unfold fm
  rw [List.map_append]
  congr 1
  · apply List.map_congr_left
    intro q hq
    show (_, f q) = (_, if q = p then v else f q)
    rw [if_neg (fun z => h (by rw [← z]; exact hq))]
  · show [_] = [(_, if p = p then v else f p)]
    rw [if_pos rfl]
/-! ### the graph -/
def GG (r : List Nat) (ks : List (List Nat)) (mv dn : Int) : BF.Gph (List Nat) Ed := ⟨ks, EE r, fun e => e.2.2, fun e => dn * e.2.1 - mv⟩
abbrev Bs := BF.BS (List Nat) Ed
structure GrB (H : Hp) (r : List Nat) (ks : List (List Nat)) (lf : List Nat → Addr) (tl : List Nat → List Addr) : Prop where
  l : ∀ p ∈ ks, H (lf p) = some (.lst ((tl p).map V.ref))
  s : ∀ p ∈ ks, StepsAt H p (tl p) (EE r p)
/-- what graphs hold, whatever lies in the heap -/
structure GrOk (r : List Nat) (ks : List (List Nat)) : Prop where
  rr : r ∈ rules
  nd : ks.Nodup
  le : ks.length ≤ 64
  ne : ks ≠ []
  bt : ∀ p ∈ ks, isBits p = true ∧ 1 ≤ p.length ∧ p.length ≤ 6
  cl : ∀ p ∈ ks, ∀ e ∈ EE r p, e.2.2 ∈ ks
structure DeAt (H : Hp) (r : List Nat) (ks : List (List Nat)) (Dd : Addr) (de : List Nat → Option Ed) (kd : List (List Nat)) (tf : List Nat → Addr) : Prop where
  d : H Dd = some (.dK (fm kd fun p => .ref (tf p)))
  nd : kd.Nodup
  sub : ∀ p ∈ kd, p ∈ ks
  on : ∀ p ∈ kd, ∃ e, de p = some e ∧ StepAt H p (tf p) e
  off : ∀ p, p ∉ kd → de p = none
theorem ee_good {r p : List Nat} {e : Ed} (hr : r ∈ rules) (hb : isBits p = true) (h1 : 1 ≤ p.length) (h6 : p.length ≤ 6) (he : e ∈ EE r p) : Good r p e.1 e.2.1 e.2.2 := by
  unfold EE dls at he
  obtain ⟨d, hd, rfl⟩ := List.mem_map.mp he
  have hs := (List.mem_filter.mp hd).2
  obtain ⟨k, hk⟩ := Option.isSome_iff_exists.mp hs
  exact good_step hr hb h1 h6 hk
def coinV (c : List Nat → Int) (p : List Nat) : V := .int (c p)
/-- what raised changes: coins, dearest -/
def Two (Cd Dd : Addr) (H H' : Hp) : Prop := ∀ y o, y ≠ Cd → y ≠ Dd → H y = some o → H' y = some o
def riV : Option (List Nat) → V
  | none => .non
  | some p => .str (Tx p)
def spRaised : Sp := fun vs H Q _ => ∃ (S Cd Dd : Addr) (mv dn : Int) (r : List Nat) (ks : List (List Nat)) (lf : List Nat → Addr) (tl : List Nat → List Addr) (s : Bs) (kd : List (List Nat)) (tf : List Nat → Addr),
  vs = [.ref S, .int mv, .int dn, .ref Cd, .ref Dd] ∧ GrOk r ks ∧ H S = some (.dK (fm ks fun p => .ref (lf p))) ∧ GrB H r ks lf tl ∧ H Cd = some (.dK (fm ks (coinV s.c))) ∧ DeAt H r ks Dd s.de kd tf ∧ S ≠ Cd ∧ S ≠ Dd ∧ Cd ≠ Dd ∧
  ∀ H' kd' tf', Two Cd Dd H H' → H' Cd = some (.dK (fm ks (coinV (BF.pass (GG r ks mv dn) s).c))) → DeAt H' r ks Dd (BF.pass (GG r ks mv dn) s).de kd' tf' → Q (riV (BF.pass (GG r ks mv dn) s).ri) H'
/-- within a pass -/
structure InR (S Cd Dd : Addr) (od : Obj) (mv dn : Int) (r : List Nat) (ks : List (List Nat)) (lf : List Nat → Addr) (tl : List Nat → List Addr) (s : Bs) (kd : List (List Nat)) (tf : List Nat → Addr) (H : Hp) : Prop where
  ok : GrOk r ks
  d : H S = some (.frz od (.dK (fm ks fun p => .ref (lf p))))
  b : GrB H r ks lf tl
  c : H Cd = some (.dK (fm ks (coinV s.c)))
  e : DeAt H r ks Dd s.de kd tf
  n1 : S ≠ Cd
  n2 : S ≠ Dd
  n3 : Cd ≠ Dd
def SLr (S Cd Dd : Addr) (mv dn : Int) (ri : Option (List Nat)) (x6 x7 x8 x9 x10 x11 x12 : Option V) : L2.St := [some (.ref S), some (.int mv), some (.int dn), some (.ref Cd), some (.ref Dd), some (riV ri), x6, x7, x8, x9, x10, x11, x12]
/-- one arc: the state behind it -/
def tRel : L2.TS := fun D σ H => ∃ S Cd Dd od mv dn r ks lf tl s kd tf x6 x8 x9 x10 x11 x12 p e T, σ = SLr S Cd Dd mv dn s.ri x6 (some (.ref T)) x8 x9 x10 x11 x12 ∧ InR S Cd Dd od mv dn r ks lf tl s kd tf H ∧ p ∈ ks ∧ e ∈ EE r p ∧ StepAt H p T e ∧
  ∀ σ' H', (∃ kd' tf' x6 x7 x8 x9 x10 x11 x12, σ' = SLr S Cd Dd mv dn (BF.relax (GG r ks mv dn) s (p, e)).ri x6 x7 x8 x9 x10 x11 x12 ∧ InR S Cd Dd od mv dn r ks lf tl (BF.relax (GG r ks mv dn) s (p, e)) kd' tf' H' ∧ Two Cd Dd H H') → D.nx σ' H'
theorem two_ts {Cd Dd : Addr} {H H' : Hp} {a b : List (Key × V)} (hC : H Cd = some (.dK a)) (hD : H Dd = some (.dK b)) (t : Two Cd Dd H H') : TS H H' := fun y xs e => t y _ (fun z => by rw [z, hC] at e; cases e) (fun z => by rw [z, hD] at e; cases e) e
theorem two_grb {Cd Dd : Addr} {H H' : Hp} {a b : List (Key × V)} {r : List Nat} {ks : List (List Nat)} {lf : List Nat → Addr} {tl : List Nat → List Addr} (hC : H Cd = some (.dK a)) (hD : H Dd = some (.dK b)) (t : Two Cd Dd H H') (g : GrB H r ks lf tl) : GrB H' r ks lf tl :=
  ⟨fun p hp => t _ _ (fun z => by have := g.l p hp; rw [z, hC] at this; cases this) (fun z => by have := g.l p hp; rw [z, hD] at this; cases this) (g.l p hp), fun p hp => (g.s p hp).mono (two_ts hC hD t)⟩
theorem de_put {H H' : Hp} {r : List Nat} {ks kd : List (List Nat)} {Dd T : Addr} {de : List Nat → Option Ed} {tf : List Nat → Addr} {p : List Nat} {e : Ed} (h : DeAt H r ks Dd de kd tf) (hp : p ∈ ks) (hs : StepAt H p T e) (ts : TS H H')
    (hd : H' Dd = some (.dK (putK (fm kd fun p => .ref (tf p)) (Sum.inr (Tx p)) (.ref T)))) : ∃ kd' tf', DeAt H' r ks Dd (fun x => if x = p then some e else de x) kd' tf' := by
  have ext : ∀ l : List (List Nat), (fm l fun q => if q = p then V.ref T else V.ref (tf q)) = fm l fun q => V.ref (if q = p then T else tf q) := fun l => by
    unfold fm
    apply List.map_congr_left
    intro q _
    show (_, if q = p then V.ref T else V.ref (tf q)) = (_, V.ref (if q = p then T else tf q))
    split <;> rfl
  have on : ∀ q, q = p ∨ q ∈ kd → ∃ e', (if q = p then some e else de q) = some e' ∧ StepAt H' q (if q = p then T else tf q) e' := fun q hq => by
    by_cases c : q = p
    · rw [if_pos c, if_pos c, c]; exact ⟨e, rfl, hs.mono ts⟩
    · rw [if_neg c, if_neg c]
      rcases hq with z | z
      · exact absurd z c
      · obtain ⟨e', a, b⟩ := h.on q z
        exact ⟨e', a, b.mono ts⟩
  by_cases c : p ∈ kd
  · rw [put_in' _ c, ext] at hd
    refine ⟨kd, fun q => if q = p then T else tf q, hd, h.nd, h.sub, fun q hq => on q (.inr hq), fun q hq => ?_⟩
    show (if q = p then some e else de q) = none
    rw [if_neg (fun z => hq (by rw [z]; exact c))]
    exact h.off q hq
  · rw [put_out' _ c, ext] at hd
    refine ⟨kd ++ [p], fun q => if q = p then T else tf q, hd, ?_, fun q hq => ?_, fun q hq => ?_, fun q hq => ?_⟩
    · rw [List.nodup_append]
      exact ⟨h.nd, by simp, fun x hx y hy => by
        have : y = p := by simpa using hy
        rw [this]
        exact fun z => c (by rw [← z]; exact hx)⟩
    · rcases List.mem_append.mp hq with m | m
      · exact h.sub q m
      · rw [show q = p by simpa using m]; exact hp
    · rcases List.mem_append.mp hq with m | m
      · exact on q (.inr m)
      · exact on q (.inl (by simpa using m))
    · show (if q = p then some e else de q) = none
      rw [if_neg (fun z => hq (List.mem_append_right _ (by simp [z])))]
      exact h.off q fun m => hq (List.mem_append_left _ m)
theorem fold_snoc (G : BF.Gph (List Nat) Ed) (s : Bs) (l : List ((List Nat) × Ed)) (a : (List Nat) × Ed) : BF.fold G s (l ++ [a]) = BF.relax G (BF.fold G s l) a := by unfold BF.fold; rw [List.foldl_append]; rfl
section
variable {P : Program} {w : World} {K : PySem.W.Frag} {mg : Str → Option Value} {base : Heap} {cc : Nat → Addr}
abbrev s_raised : Stmt := top 41
theorem sc_raised : FnScope ["steps", "moves", "deeds", "coins", "dearest", "risen", "ways", "step", "pattern", "deed", "moved", "behind", "asked"] ["steps", "moves", "deeds", "coins", "dearest"] (defScope s_raised) := ⟨rfl, rfl, rfl, by decide +kernel, rfl, by decide +kernel, by decide +kernel⟩

theorem ok_raised {f : Addr} {fd : FuncData} (F : Fun K "raised" "raised" s_raised f fd) (T : Txt K mg) : FnOk P w K mg base CX0 1 f fd ["steps", "moves", "deeds", "coins", "dearest"] spRaised := by
  refine F.ok sc_raised (fun vs H Q E h => ?_) (fun cdv A outer s H vs Q E hr h => ?_)
  · obtain ⟨_, _, _, _, _, _, _, _, _, _, _, _, rfl, _⟩ := h
    rfl
  · obtain ⟨S, Cd, Dd, mv, dn, r, ks, lf, tl, s, kd, tf, rfl, ok, hS, gb, hC, hD, n1, n2, n3, kq⟩ := h
    have nd := sc_raised.nd
    refine ⟨_, (pss_cons (ps_set (i := 5) nd rfl (by first | exact Or.inl rfl | exact Or.inr rfl) pe_non)
      (pss_cons (ps_lock (ps_for PassesOwn.never rfl (pi_values (pv 0)) (pg_name (i := 6) nd rfl (by first | exact Or.inl rfl | exact Or.inr rfl))
      (pss_one (ps_for PassesOwn.never rfl (pi_list (pv 6)) (pg_name (i := 7) nd rfl (by first | exact Or.inl rfl | exact Or.inr rfl))
      (pss_imp (t' := tRel) (pss_cons (ps_asg (pv 7) (pg_tup rfl (pgs_cons (pg_name (i := 8) nd rfl (by first | exact Or.inl rfl | exact Or.inr rfl)) (pgs_cons (pg_name (i := 9) nd rfl (by first | exact Or.inl rfl | exact Or.inr rfl)) (pgs_cons (pg_name (i := 10) nd rfl (by first | exact Or.inl rfl | exact Or.inr rfl)) (pgs_cons (pg_name (i := 11) nd rfl (by first | exact Or.inl rfl | exact Or.inr rfl)) pgs_nil))))))
      (pss_cons (ps_set (i := 12) nd rfl (by first | exact Or.inl rfl | exact Or.inr rfl) (pe_op op_sub (pe_op op_add (pe_dget (hu_of hr) (pv 3) (pv 11) (fun _ _ => rfl)) (pe_op op_mul (pv 2) (pv 10))) (pv 1)))
      (pss_one (ps_if (pt_cmpR op_gt (pv 12) (pe_dget (hu_of hr) (pv 3) (pv 8) (fun _ _ => rfl)) (nomark _)) (pss_cons (ps_dput (hu_of hr) (pv 3) (pv 8) (pv 12) rfl)
      (pss_cons (ps_dput (hu_of hr) (pv 4) (pv 8) (pv 7) rfl)
      (pss_one (ps_set (i := 5) nd rfl (by first | exact Or.inl rfl | exact Or.inr rfl) (pv 8))))) pss_nil)))) ?rel)))))
      (pss_one (ps_ret (pv 5))))), ?main⟩
    case rel =>
      intro D σ H ⟨S, Cd, Dd, od, mv, dn, r, ks, lf, tl, s, kd, tf, x6, x8, x9, x10, x11, x12, p, e, T, es, I, hp, he, hst, kn⟩
      subst es
      obtain ⟨hb, h1, h6⟩ := I.ok.bt p hp
      have g := ee_good I.ok.rr hb h1 h6 he
      have hq : e.2.2 ∈ ks := I.ok.cl p hp e he
      obtain ⟨Da, hT, hDa⟩ := hst
      refine ⟨_, rfl, T, _, rfl, SqT.of hT, rfl, _, _, rfl, _, _, rfl, _, _, rfl, _, _, rfl, rfl, ?_⟩
      refine ⟨_, rfl, _, rfl, Cd, coinV s.c e.2.2, rfl, ?_, ?_⟩
      · have := DGet.k (k := Sum.inr (Tx e.2.2)) I.c
        rw [val_in _ hq] at this
        exact this
      refine ⟨_, rfl, _, rfl, _, _, rfl, rfl, .inr ⟨by have := g.m0; omega, by have := g.m6; omega⟩, _, _, rfl, rfl, _, rfl, _, _, rfl, rfl, ?_⟩
      refine ⟨_, rfl, _, rfl, _, rfl, Cd, coinV s.c p, rfl, ?_, ?_⟩
      · have := DGet.k (k := Sum.inr (Tx p)) I.c
        rw [val_in _ hp] at this
        exact this
      refine ⟨_, _, rfl, rfl, _, rfl, ite2 (fun hv => ?_) (fun hv => ?_)⟩
      · have hv : s.c p < s.c e.2.2 + dn * e.2.1 - mv := of_decide_eq_true hv
        have hlt : s.c p < s.c ((GG r ks mv dn).to e) + (GG r ks mv dn).w e := by show s.c p < s.c e.2.2 + (dn * e.2.1 - mv); omega
        have er : BF.relax (GG r ks mv dn) s (p, e) = ⟨fun x => if x = p then s.c e.2.2 + (dn * e.2.1 - mv) else s.c x, fun x => if x = p then some e else s.de x, some p⟩ := by
          unfold BF.relax; rw [if_pos hlt]; rfl
        have kdl := BF.nodup_le I.e.nd I.e.sub
        have kl := I.ok.le
        refine ⟨_, rfl, _, rfl, _, rfl, Cd, _, rfl, DPut.k (k := Sum.inr (Tx p)) I.c (by rw [fm_len, sizeLine_eq]; omega), ?_⟩
        rw [put_in' _ hp]
        have eD1 : (upd H Cd (.dK (fm ks fun q => if q = p then .int (s.c e.2.2 + dn * e.2.1 - mv) else coinV s.c q))) Dd = some (.dK (fm kd fun p => .ref (tf p))) := by rw [upd_ne (Ne.symm I.n3)]; exact I.e.d
        refine ⟨_, rfl, _, rfl, _, rfl, Dd, _, rfl, DPut.k (k := Sum.inr (Tx p)) (v := .ref T) eD1 (by rw [fm_len, sizeLine_eq]; omega), _, rfl, ?_⟩
        have two : Two Cd Dd H (upd (upd H Cd (.dK (fm ks fun q => if q = p then .int (s.c e.2.2 + dn * e.2.1 - mv) else coinV s.c q))) Dd (.dK (putK (fm kd fun p => .ref (tf p)) (Sum.inr (Tx p)) (.ref T)))) := fun y o a b q => by rw [upd_ne b, upd_ne a]; exact q
        have eC2 : (upd (upd H Cd (.dK (fm ks fun q => if q = p then .int (s.c e.2.2 + dn * e.2.1 - mv) else coinV s.c q))) Dd (.dK (putK (fm kd fun p => .ref (tf p)) (Sum.inr (Tx p)) (.ref T)))) Cd = some (.dK (fm ks fun q => if q = p then .int (s.c e.2.2 + dn * e.2.1 - mv) else coinV s.c q)) := by rw [upd_ne I.n3, upd_same]
        have eD2 : (upd (upd H Cd (.dK (fm ks fun q => if q = p then .int (s.c e.2.2 + dn * e.2.1 - mv) else coinV s.c q))) Dd (.dK (putK (fm kd fun p => .ref (tf p)) (Sum.inr (Tx p)) (.ref T)))) Dd = some (.dK (putK (fm kd fun p => .ref (tf p)) (Sum.inr (Tx p)) (.ref T))) := upd_same
        generalize (upd (upd H Cd (.dK (fm ks fun q => if q = p then .int (s.c e.2.2 + dn * e.2.1 - mv) else coinV s.c q))) Dd (.dK (putK (fm kd fun p => .ref (tf p)) (Sum.inr (Tx p)) (.ref T)))) = H2 at *
        have ts := two_ts I.c I.e.d two
        obtain ⟨kd', tf', de'⟩ := de_put I.e hp ⟨Da, hT, hDa⟩ ts eD2
        refine kn _ _ ⟨kd', tf', x6, some (.ref T), some (.str (Tx p)), some (.ref Da), some (.int e.2.1), some (.str (Tx e.2.2)), some (.int (s.c e.2.2 + dn * e.2.1 - mv)), ?_, ?_, two⟩
        · rw [er]; rfl
        · rw [er]
          refine ⟨I.ok, two _ _ I.n1 I.n2 I.d, two_grb I.c I.e.d two I.b, ?_, de', I.n1, I.n2, I.n3⟩
          rw [eC2]
          congr 2
          unfold fm coinV
          apply List.map_congr_left
          intro q _
          show (_, if q = p then V.int (s.c e.2.2 + dn * e.2.1 - mv) else V.int (s.c q)) = (_, V.int (if q = p then s.c e.2.2 + (dn * e.2.1 - mv) else s.c q))
          split
          · rw [show s.c e.2.2 + dn * e.2.1 - mv = s.c e.2.2 + (dn * e.2.1 - mv) by omega]
          · rfl
      · have hv : ¬ s.c p < s.c e.2.2 + dn * e.2.1 - mv := fun z => hv (decide_eq_true z)
        have hlt : ¬ s.c p < s.c ((GG r ks mv dn).to e) + (GG r ks mv dn).w e := by show ¬ s.c p < s.c e.2.2 + (dn * e.2.1 - mv); omega
        have er : BF.relax (GG r ks mv dn) s (p, e) = s := by unfold BF.relax; rw [if_neg hlt]
        refine kn _ _ ⟨kd, tf, x6, some (.ref T), some (.str (Tx p)), some (.ref Da), some (.int e.2.1), some (.str (Tx e.2.2)), some (.int (s.c e.2.2 + dn * e.2.1 - mv)), ?_, by rw [er]; exact I, fun _ _ _ _ q => q⟩
        rw [er]
        rfl
    case main =>
      refine ⟨S, _, hS, trivial, fun od => ?_⟩
      have two0 : ∀ y o, y ≠ S → H y = some o → (upd H S (.frz od (.dK (fm ks fun p => .ref (lf p))))) y = some o := fun y o n q => by rw [upd_ne n]; exact q
      have eS : (upd H S (.frz od (.dK (fm ks fun p => .ref (lf p))))) S = some (.frz od (.dK (fm ks fun p => .ref (lf p)))) := upd_same
      have ts0 : TS H (upd H S (.frz od (.dK (fm ks fun p => .ref (lf p))))) := fun y xs e => two0 y _ (fun z => by rw [z, hS] at e; cases e) e
      generalize upd H S (.frz od (.dK (fm ks fun p => .ref (lf p)))) = H1 at *
      have I0 : InR S Cd Dd od mv dn r ks lf tl (BF.zeroR s) kd tf H1 := by
        refine ⟨ok, eS, ⟨fun p hp => two0 _ _ (fun z => by have := gb.l p hp; rw [z, hS] at this; cases this) (gb.l p hp), fun p hp => (gb.s p hp).mono ts0⟩, two0 _ _ (Ne.symm n1) hC, ⟨two0 _ _ (Ne.symm n2) hD.d, hD.nd, hD.sub, fun p hp => ?_, hD.off⟩, n1, n2, n3⟩
        obtain ⟨e, a, b⟩ := hD.on p hp
        exact ⟨e, a, b.mono ts0⟩
      refine ⟨_, rfl, S, od, _, rfl, eS, ?_⟩
      refine for_it (walk_values (d := S) (o := od) (kvs := fm ks fun p => .ref (lf p))) (fun i σ H' => ∃ kd tf x6 x7 x8 x9 x10 x11 x12, σ = SLr S Cd Dd mv dn (BF.fold (GG r ks mv dn) (BF.zeroR s) ((ks.take i).flatMap (BF.rowA (GG r ks mv dn)))).ri x6 x7 x8 x9 x10 x11 x12 ∧ InR S Cd Dd od mv dn r ks lf tl (BF.fold (GG r ks mv dn) (BF.zeroR s) ((ks.take i).flatMap (BF.rowA (GG r ks mv dn)))) kd tf H' ∧ Two Cd Dd H1 H')
        ⟨kd, tf, none, none, none, none, none, none, none, rfl, I0, fun _ _ _ _ q => q⟩ (fun i σ H' _ ⟨_, _, _, _, _, _, _, _, _, _, I, _⟩ => I.d) ?_ ?_
      · rintro i x σ H2 H2' hi ⟨kd2, tf2, x6, x7, x8, x9, x10, x11, x12, es, I, two⟩ ⟨eH, k, hk⟩
        subst H2'
        subst es
        rw [fm_len] at hi
        obtain ⟨p, hp⟩ : ∃ p, ks[i]? = some p := ⟨_, List.getElem?_eq_getElem hi⟩
        have hpk := List.mem_of_getElem? hp
        have ex : x = .ref (lf p) := by
          unfold fm at hk
          rw [List.getElem?_map, hp] at hk
          cases hk
          rfl
        subst ex
        have hlp := I.b.l p hpk
        have hsp := I.b.s p hpk
        have len := hsp.length
        generalize hs2 : BF.fold (GG r ks mv dn) (BF.zeroR s) ((ks.take i).flatMap (BF.rowA (GG r ks mv dn))) = s2 at *
        refine ⟨_, rfl, lf p, rfl, ⟨_, SqL.of hlp⟩, ?_⟩
        refine for_list (K := K) (a := lf p) (xs := (tl p).map V.ref) (fun j σ H' => ∃ kd tf x6 x7 x8 x9 x10 x11 x12, σ = SLr S Cd Dd mv dn (BF.fold (GG r ks mv dn) s2 ((BF.rowA (GG r ks mv dn) p).take j)).ri x6 x7 x8 x9 x10 x11 x12 ∧ InR S Cd Dd od mv dn r ks lf tl (BF.fold (GG r ks mv dn) s2 ((BF.rowA (GG r ks mv dn) p).take j)) kd tf H' ∧ Two Cd Dd H1 H')
          ⟨kd2, tf2, _, _, _, _, _, _, _, rfl, I, two⟩ (fun j σ H' _ ⟨_, _, _, _, _, _, _, _, _, _, I, _⟩ => SqL.of (I.b.l p hpk)) ?_ ?_
        · rintro j x σ H3 hx ⟨kd3, tf3, x6, x7, x8, x9, x10, x11, x12, es, I3, two3⟩
          subst es
          obtain ⟨T, hT, rfl⟩ : ∃ t, (tl p)[j]? = some t ∧ x = V.ref t := by
            rw [List.getElem?_map] at hx
            cases e : (tl p)[j]? with
            | none => rw [e] at hx; cases hx
            | some t => rw [e] at hx; exact ⟨t, rfl, (Option.some.inj hx).symm⟩
          obtain ⟨e, he, hst⟩ := Pd.get (I3.b.s p hpk) hT
          have hr : (BF.rowA (GG r ks mv dn) p)[j]? = some (p, e) := by
            unfold BF.rowA
            rw [List.getElem?_map]
            show Option.map _ (EE r p)[j]? = _
            rw [he]; rfl
          refine ⟨S, Cd, Dd, od, mv, dn, r, ks, lf, tl, BF.fold (GG r ks mv dn) s2 ((BF.rowA (GG r ks mv dn) p).take j), kd3, tf3, x6, x8, x9, x10, x11, x12, p, e, T, rfl, I3, hpk, List.mem_of_getElem? he, hst, ?_⟩
          rintro σ' H' ⟨kd', tf', y6, y7, y8, y9, y10, y11, y12, es, I', two'⟩
          subst es
          have ef : BF.fold (GG r ks mv dn) s2 ((BF.rowA (GG r ks mv dn) p).take (j + 1)) = BF.relax (GG r ks mv dn) (BF.fold (GG r ks mv dn) s2 ((BF.rowA (GG r ks mv dn) p).take j)) (p, e) := by
            rw [take_succ' hr, fold_snoc]
          refine ⟨kd', tf', y6, y7, y8, y9, y10, y11, y12, by rw [ef], by rw [ef]; exact I', fun y o a b q => two' y o a b (two3 y o a b q)⟩
        · rintro σ H3 ⟨kd3, tf3, x6, x7, x8, x9, x10, x11, x12, es, I3, two3⟩
          subst es
          have lr : (BF.rowA (GG r ks mv dn) p).length = (tl p).length := by
            unfold BF.rowA
            rw [List.length_map]
            exact len.symm
          have ef : BF.fold (GG r ks mv dn) (BF.zeroR s) ((ks.take (i + 1)).flatMap (BF.rowA (GG r ks mv dn))) = BF.fold (GG r ks mv dn) s2 ((BF.rowA (GG r ks mv dn) p).take ((tl p).map V.ref).length) := by
            rw [List.length_map, ← lr, List.take_length, take_succ' hp, List.flatMap_append, ← hs2]
            unfold BF.fold
            rw [List.foldl_append]
            simp
          exact ⟨kd3, tf3, x6, x7, x8, x9, x10, x11, x12, by rw [ef], by rw [ef]; exact I3, two3⟩
      · rintro σ H2 ⟨kd2, tf2, x6, x7, x8, x9, x10, x11, x12, es, I, two⟩
        subst es
        rw [fm_len, List.take_length] at I ⊢
        have ep : BF.fold (GG r ks mv dn) (BF.zeroR s) (ks.flatMap (BF.rowA (GG r ks mv dn))) = BF.pass (GG r ks mv dn) s := rfl
        rw [ep] at I ⊢
        refine ⟨I.d, _, rfl, ?_⟩
        have eS3 : (upd H2 S (.dK (fm ks fun p => .ref (lf p)))) S = some (.dK (fm ks fun p => .ref (lf p))) := upd_same
        have f3 : ∀ y o, y ≠ S → H2 y = some o → (upd H2 S (.dK (fm ks fun p => .ref (lf p)))) y = some o := fun y o n q => by rw [upd_ne n]; exact q
        have ts3 : TS H2 (upd H2 S (.dK (fm ks fun p => .ref (lf p)))) := fun y xs e => f3 y _ (fun z => by rw [z, I.d] at e; cases e) e
        refine kq _ kd2 tf2 (fun y o a b q => ?_) (f3 _ _ (Ne.symm n1) I.c) ⟨f3 _ _ (Ne.symm n2) I.e.d, I.e.nd, I.e.sub, fun p hp => ?_, I.e.off⟩
        · by_cases z : y = S
          · rw [z, hS] at q
            cases q
            rw [z]; exact eS3
          · exact f3 _ _ z (two y o a b (two0 y o z q))
        · obtain ⟨e, a, b⟩ := I.e.on p hp
          exact ⟨e, a, b.mono ts3⟩
end
end CK

namespace CK
open PySem L2 PyProof.Rows
/-! ### what is found is the same each time -/
theorem it_still {α : Type} {f : α → α} {a : α} (h : f a = a) : ∀ n : Nat, BF.it f n a = a
  | 0 => rfl
  | n + 1 => by
    show BF.it f n (f a) = a
    rw [h]; exact it_still h n
theorem it_fix {α : Type} [DecidableEq α] {f : α → α} {s a b : α} {m m' : Nat} (h : BF.it f m s = a) (fa : f a = a) (h' : BF.it f m' s = b) (fb : f b = b) : a = b := by
  by_cases c : m ≤ m'
  · have e : m' = m + (m' - m) := by omega
    rw [e, BF.it_add, h, it_still fa] at h'
    exact h'
  · have e : m = m' + (m - m') := by omega
    rw [e, BF.it_add, h', it_still fb] at h
    exact h.symm
abbrev KA := List (List Nat) × List (List Nat)
/-- one turn of the going over all steps -/
def stA (r : List Nat) (s : KA) : KA := match s.2.getLast? with
  | none => s
  | some p => if p ∈ s.1 then (s.1, s.2.dropLast) else (s.1 ++ [p], s.2.dropLast ++ (EE r p).map fun e => e.2.2)
theorem stA_snoc (r : List Nat) (ks ah : List (List Nat)) (p : List Nat) : stA r (ks, ah ++ [p]) = if p ∈ ks then (ks, ah) else (ks ++ [p], ah ++ (EE r p).map fun e => e.2.2) := by
  unfold stA
  simp
theorem stA_nil (r : List Nat) (ks : List (List Nat)) : stA r (ks, []) = (ks, []) := rfl
def DS (r : List Nat) (n : Nat) (ks : List (List Nat)) : Prop := ∃ m, BF.it (stA r) m ([], [zeros n]) = (ks, [])
theorem ds_fn {r : List Nat} {n : Nat} {ks ks' : List (List Nat)} (h : DS r n ks) (h' : DS r n ks') : ks = ks' := by
  obtain ⟨m, a⟩ := h
  obtain ⟨m', b⟩ := h'
  exact (Prod.mk.inj (it_fix a (stA_nil r ks) b (stA_nil r ks'))).1
abbrev nxt (s : Bs) (r : List Nat) (ks : List (List Nat)) (mv dn : Int) : List Nat → List Nat := BF.nx s (GG r ks mv dn)
/-- the round that is gone -/
def GoneD (s : Bs) (r : List Nat) (ks : List (List Nat)) (mv dn : Int) (v x : List Nat) (k : Nat) : Prop := ∃ kd : List (List Nat), kd.Nodup ∧ (∀ p, p ∈ kd ↔ s.de p ≠ none) ∧ x = BF.it (nxt s r ks mv dn) kd.length v ∧ 1 ≤ k ∧ BF.it (nxt s r ks mv dn) k x = x ∧ ∀ j, 1 ≤ j → j < k → BF.it (nxt s r ks mv dn) j x ≠ x
theorem gone_fn {s : Bs} {r : List Nat} {ks : List (List Nat)} {mv dn : Int} {v x x' : List Nat} {k k' : Nat} (h : GoneD s r ks mv dn v x k) (h' : GoneD s r ks mv dn v x' k') : x = x' ∧ k = k' := by
  obtain ⟨kd, n1, m1, e1, a1, b1, c1⟩ := h
  obtain ⟨kd', n2, m2, e2, a2, b2, c2⟩ := h'
  have l1 := BF.nodup_le n1 (ks := kd') fun p hp => (m2 p).mpr ((m1 p).mp hp)
  have l2 := BF.nodup_le n2 (ks := kd) fun p hp => (m1 p).mpr ((m2 p).mp hp)
  have el : kd.length = kd'.length := by omega
  have ex : x = x' := by rw [e1, e2, el]
  subst ex
  refine ⟨rfl, ?_⟩
  rcases Nat.lt_trichotomy k k' with z | z | z
  · exact absurd b1 (c2 k a1 z)
  · exact z
  · exact absurd b2 (c1 k' a2 z)
/-- what asking for coins tells -/
def AskD (r : List Nat) (ks : List (List Nat)) (mv dn : Int) (c : List Nat → Int) (es : List Ed) (x : List Nat) : Prop :=
  (∃ i, i < ks.length ∧ (∀ j, j < i → (BF.passes (GG r ks mv dn) (j + 1)).ri ≠ none) ∧ (BF.passes (GG r ks mv dn) (i + 1)).ri = none ∧ c = (BF.passes (GG r ks mv dn) (i + 1)).c ∧ es = [] ∧ x = []) ∨
  ((∀ j, j < ks.length → (BF.passes (GG r ks mv dn) (j + 1)).ri ≠ none) ∧ ∃ v k, (BF.passes (GG r ks mv dn) ks.length).ri = some v ∧ c = (BF.passes (GG r ks mv dn) ks.length).c ∧ GoneD (BF.passes (GG r ks mv dn) ks.length) r ks mv dn v x k ∧ es = BF.chain (BF.passes (GG r ks mv dn) ks.length) (GG r ks mv dn) x k)
theorem ask_fn {r : List Nat} {ks : List (List Nat)} {mv dn : Int} {c c' : List Nat → Int} {es es' : List Ed} {x x' : List Nat} (h : AskD r ks mv dn c es x) (h' : AskD r ks mv dn c' es' x') : c = c' ∧ es = es' ∧ x = x' := by
  rcases h with ⟨i, i1, i2, i3, e1, e2, e3⟩ | ⟨a, v, k, v1, e1, g, e2⟩
  · rcases h' with ⟨i', j1, j2, j3, e4, e5, e6⟩ | ⟨a', v', k', v1', e4, g', e5⟩
    · have ei : i = i' := by
        rcases Nat.lt_trichotomy i i' with z | z | z
        · exact absurd i3 (j2 i z)
        · exact z
        · exact absurd j3 (i2 i' z)
      subst ei
      exact ⟨by rw [e1, e4], by rw [e2, e5], by rw [e3, e6]⟩
    · exact absurd i3 (a' i i1)
  · rcases h' with ⟨i', j1, j2, j3, e4, e5, e6⟩ | ⟨a', v', k', v1', e4, g', e5⟩
    · exact absurd j3 (a i' j1)
    · rw [v1] at v1'
      cases v1'
      obtain ⟨q1, q2⟩ := gone_fn g g'
      subst q1 q2
      exact ⟨by rw [e1, e4], by rw [e2, e5], rfl⟩
def mSum (es : List Ed) : Int := (es.map fun e => e.2.1).sum
def PartD (es : List Ed) (a b : Nat) : Prop := ∃ g : Nat, 1 ≤ g ∧ mSum es = ((a * g : Nat) : Int) ∧ es.length = b * g ∧ Nat.gcd a b = 1
theorem part_fn {es : List Ed} {a b a' b' : Nat} (h : PartD es a b) (h' : PartD es a' b') : a = a' ∧ b = b' := by
  obtain ⟨g, g1, e1, e2, e3⟩ := h
  obtain ⟨g', g1', e1', e2', e3'⟩ := h'
  have q1 : a * g = a' * g' := by rw [e1] at e1'; exact_mod_cast e1'
  have q2 : b * g = b' * g' := by rw [← e2, e2']
  have eg : g = g' := by
    have z1 : Nat.gcd (a * g) (b * g) = g := by rw [Nat.gcd_mul_right, e3, Nat.one_mul]
    have z2 : Nat.gcd (a' * g') (b' * g') = g' := by rw [Nat.gcd_mul_right, e3', Nat.one_mul]
    rw [← z1, ← z2, q1, q2]
  subst eg
  exact ⟨Nat.eq_of_mul_eq_mul_right (by omega) q1, Nat.eq_of_mul_eq_mul_right (by omega) q2⟩
/-- a turn of the long run -/
structure LS where
  mv : Int
  dn : Int
  es : List Ed
  x : List Nat
  c : List Nat → Int
  gs : List Ed
  gx : List Nat
def LgN (r : List Nat) (ks : List (List Nat)) : Nat → LS → Prop
  | 0, s => s.mv = -1 ∧ s.dn = 1 ∧ s.es = [] ∧ s.x = [] ∧ AskD r ks (-1) 1 s.c s.gs s.gx
  | k + 1, s => ∃ s0, LgN r ks k s0 ∧ s0.gs ≠ [] ∧ (∃ a b : Nat, PartD s0.gs a b ∧ s.mv = a ∧ s.dn = b ∧ AskD r ks a b s.c s.gs s.gx) ∧ s.es = s0.gs ∧ s.x = s0.gx
theorem lg_fn {r : List Nat} {ks : List (List Nat)} : ∀ {k : Nat} {s s' : LS}, LgN r ks k s → LgN r ks k s' → s = s'
  | 0, ⟨_, _, _, _, _, _, _⟩, ⟨_, _, _, _, _, _, _⟩, h, h' => by
    obtain ⟨a1, a2, a3, a4, a5⟩ := h
    obtain ⟨b1, b2, b3, b4, b5⟩ := h'
    dsimp only at *
    obtain ⟨z1, z2, z3⟩ := ask_fn a5 b5
    subst a1 a2 a3 a4 b1 b2 b3 b4 z1 z2 z3
    rfl
  | k + 1, ⟨_, _, _, _, _, _, _⟩, ⟨_, _, _, _, _, _, _⟩, h, h' => by
    obtain ⟨s0, a0, a1, ⟨a, b, a2, a3, a4, a5⟩, a6, a7⟩ := h
    obtain ⟨s0', b0, b1, ⟨a', b', b2, b3, b4, b5⟩, b6, b7⟩ := h'
    have e := lg_fn a0 b0
    subst e
    obtain ⟨w1, w2⟩ := part_fn a2 b2
    subst w1 w2
    dsimp only at *
    obtain ⟨z1, z2, z3⟩ := ask_fn a5 b5
    subst z1 z2 z3
    rw [a3, a4, a6, a7, b3, b4, b6, b7]
theorem lg_lt {r : List Nat} {ks : List (List Nat)} {k : Nat} : ∀ {m : Nat} {s : LS}, LgN r ks m s → k < m → ∃ s0, LgN r ks k s0 ∧ s0.gs ≠ []
  | 0, _, _, h => absurd h (Nat.not_lt_zero _)
  | m + 1, s, h, lt => by
    obtain ⟨s0, a0, a1, _⟩ := h
    by_cases c : k = m
    · subst c; exact ⟨s0, a0, a1⟩
    · exact lg_lt a0 (by omega)
theorem lg_end {r : List Nat} {ks : List (List Nat)} {k k' : Nat} {s s' : LS} (h : LgN r ks k s) (e : s.gs = []) (h' : LgN r ks k' s') (e' : s'.gs = []) : s = s' := by
  rcases Nat.lt_trichotomy k k' with z | z | z
  · obtain ⟨s0, a, b⟩ := lg_lt h' z
    rw [lg_fn h a] at e
    exact absurd e b
  · subst z; exact lg_fn h h'
  · obtain ⟨s0, a, b⟩ := lg_lt h z
    rw [lg_fn h' a] at e'
    exact absurd e' b
/-- all that a worst or a purse tells -/
def ResD (r : List Nat) (n : Nat) (ks : List (List Nat)) (mv dn : Nat) (es : List Ed) (x : List Nat) (c : List Nat → Int) : Prop := DS r n ks ∧ ∃ k gx, LgN r ks k ⟨mv, dn, es, x, c, [], gx⟩
theorem resD_fn {r : List Nat} {n : Nat} {ks ks' : List (List Nat)} {mv mv' dn dn' : Nat} {es es' : List Ed} {x x' : List Nat} {c c' : List Nat → Int} (h : ResD r n ks mv dn es x c) (h' : ResD r n ks' mv' dn' es' x' c') : ks = ks' ∧ mv = mv' ∧ dn = dn' ∧ es = es' ∧ x = x' ∧ c = c' := by
  obtain ⟨d, k, gx, l⟩ := h
  obtain ⟨d', k', gx', l'⟩ := h'
  have e := ds_fn d d'
  subst e
  have q := lg_end l rfl l' rfl
  have q1 := congrArg LS.mv q
  have q2 := congrArg LS.dn q
  dsimp only at q1 q2
  exact ⟨rfl, by omega, by omega, congrArg LS.es q, congrArg LS.x q, congrArg LS.c q⟩
end CK

namespace CK
open PySem L2 PyProof.Rows
theorem atI_last {α : Type} {xs : List α} {j : Nat} {y : α} (hl : xs.length = j + 1) (h : xs[j]? = some y) : atI xs (-1) = some y := by
  have e : ixN xs.length (-1) = some j := by
    unfold ixN
    rw [if_neg (by omega), hl]
    rw [if_pos (by omega)]
    congr 1
    omega
  unfold atI
  rw [e]
  exact h
def spGone : Sp := fun vs H Q _ => ∃ (Dd : Addr) (v : List Nat) (s : Bs) (r : List Nat) (ks : List (List Nat)) (mv dn : Int) (kd : List (List Nat)) (tf : List Nat → Addr),
  vs = [.ref Dd, .str (Tx v)] ∧ DeAt H r ks Dd s.de kd tf ∧ kd.length ≤ 64 ∧ (∀ j, s.de (BF.it (nxt s r ks mv dn) j v) ≠ none) ∧
  ∀ H' A x k, Same H H' → H A = none → H' A = some (.lst ((List.range k).map fun i => V.ref (tf (BF.it (nxt s r ks mv dn) i x)))) → 1 ≤ k → k ≤ kd.length → BF.it (nxt s r ks mv dn) k x = x → (∀ j, s.de (BF.it (nxt s r ks mv dn) j x) ≠ none) → GoneD s r ks mv dn v x k → Q (.ref A) H'
section
variable {P : Program} {w : World} {K : PySem.W.Frag} {mg : Str → Option Value} {base : Heap} {cc : Nat → Addr}
theorem de_at {H : Hp} {r : List Nat} {ks kd : List (List Nat)} {Dd : Addr} {s : Bs} {tf : List Nat → Addr} {mv dn : Int} (hD : DeAt H r ks Dd s.de kd tf) {p : List Nat} (hp : s.de p ≠ none) : p ∈ kd ∧ DGet H Dd (.str (Tx p)) (some (.ref (tf p))) ∧ ∃ e Da, s.de p = some e ∧ H (tf p) = some (.tup [.str (Tx p), .ref Da, .int e.2.1, .str (Tx (nxt s r ks mv dn p))]) := by
  have hk : p ∈ kd := Classical.byContradiction fun z => hp (hD.off p z)
  have g := DGet.k (k := Sum.inr (Tx p)) hD.d
  rw [val_in _ hk] at g
  obtain ⟨e, he, Da, h1, _⟩ := hD.on p hk
  refine ⟨hk, g, e, Da, he, ?_⟩
  rw [h1]
  unfold nxt
  rw [BF.nx_some he]
  rfl
abbrev s_gone_round : Stmt := top 42
theorem sc_gone_round : FnScope ["dearest", "pattern", "turn", "around"] ["dearest", "pattern"] (defScope s_gone_round) := ⟨rfl, rfl, rfl, by decide +kernel, rfl, by decide +kernel, by decide +kernel⟩

theorem ok_gone {f : Addr} {fd : FuncData} (F : Fun K "gone_round" "gone_round" s_gone_round f fd) (T : Txt K mg) : FnOk P w K mg base CX0 1 f fd ["dearest", "pattern"] spGone := by
  refine F.ok sc_gone_round (fun vs H Q E h => ?_) (fun cdv A outer s H vs Q E hr h => ?_)
  · obtain ⟨_, _, _, _, _, _, _, _, _, rfl, _⟩ := h
    rfl
  · obtain ⟨Dd, v, s, r, ks, mv, dn, kd, tf, rfl, hD, hk64, on, kq⟩ := h
    have nd := sc_gone_round.nd
    refine ⟨_, (pss_cons (ps_for PassesOwn.never rfl (pi_range1 (by rfl) T.n_range (pa_cons (pe_callB call_lenD (by rfl) T.n_len boot_len (pa_cons (pv 0) pa_nil)) pa_nil)) (pg_name (i := 2) nd rfl (by first | exact Or.inl rfl | exact Or.inr rfl))
      (pss_one (ps_set (i := 1) nd rfl (by first | exact Or.inl rfl | exact Or.inr rfl) (pe_ix (r := rIxT K) ix_tup (pe_dget (hu_of hr) (pv 0) (pv 1) (fun _ _ => rfl)) pe_int (fun _ _ => rfl)))))
      (pss_cons (ps_set (i := 3) nd rfl (by first | exact Or.inl rfl | exact Or.inr rfl) (pe_lst (pa_cons (pe_dget (hu_of hr) (pv 0) (pv 1) (fun _ _ => rfl)) pa_nil)))
      (pss_cons (ps_while PassesOwn.never (pt_cmpR op_ne (pe_ix (r := rIxT K) ix_tup (pe_ix (r := rIxL K) ix_list (pv 3) (pe_un un_neg pe_int) (fun _ _ => rfl)) pe_int (fun _ _ => rfl)) (pv 1) (nomark _)) (pss_one (ps_expr (pe_bm PySem.F.plainAttrs_list PySem.F.slot_list_append PySem.F.type_list_append mt_append (pv 3) (pa_cons (pe_dget (hu_of hr) (pv 0) (pe_ix (r := rIxT K) ix_tup (pe_ix (r := rIxL K) ix_list (pv 3) (pe_un un_neg pe_int) (fun _ _ => rfl)) pe_int (fun _ _ => rfl)) (fun _ _ => rfl)) pa_nil)))))
      (pss_one (ps_ret (pv 3)))))), ?_⟩
    refine ⟨_, rfl, Dd, _, rfl, hD.d, ((fm kd fun p => .ref (tf p)).length : Nat), rfl, by rw [fm_len]; omega, by rw [fm_len]; omega, ?_⟩
    refine for_range (lo := 0) (n := (((fm kd fun p => V.ref (tf p)).length : Nat) : Int).toNat) (fun i σ H' => ∃ x2 x3, σ = [some (.ref Dd), some (.str (Tx (BF.it (nxt s r ks mv dn) i v))), x2, x3] ∧ H' = H) ⟨none, none, rfl, rfl⟩ ?_ ?_
    · rintro i σ H' hi ⟨x2, x3, rfl, eH⟩
      subst H'
      obtain ⟨_, g, e, Da, _, hT⟩ := de_at (mv := mv) (dn := dn) hD (on i)
      refine ⟨_, rfl, _, rfl, Dd, _, rfl, g, _, _, _, _, rfl, rfl, SqT.of hT, at_of (j := 3) rfl rfl, ?_⟩
      exact ⟨_, _, congrArg (fun u => [some (V.ref Dd), some (V.str (Tx u)), _, x3]) (BF.it_s _ i v).symm, rfl⟩
    · rintro σ H' ⟨x2, x3, rfl, eH⟩
      subst H'
      rw [Int.toNat_natCast, fm_len]
      generalize hx : BF.it (nxt s r ks mv dn) kd.length v = x
      have onx : ∀ j, s.de (BF.it (nxt s r ks mv dn) j x) ≠ none := fun j => by rw [← hx, ← BF.it_add]; exact on _
      obtain ⟨k0, k1, k2, k3⟩ := BF.on_round (G := GG r ks mv dn) (kd := kd) on fun p hp => (de_at (mv := mv) (dn := dn) hD hp).1
      rw [hx] at k3
      obtain ⟨_, g, _⟩ := de_at (mv := mv) (dn := dn) hD (onx 0)
      refine ⟨_, rfl, _, rfl, Dd, _, rfl, g, (show 1 ≤ sizeLine by decide), fun A hA => ?_⟩
      refine ⟨fun m σ H' => ∃ j, m = k0 - j ∧ j + 1 ≤ k0 ∧ (∀ i, 1 ≤ i → i ≤ j → BF.it (nxt s r ks mv dn) i x ≠ x) ∧ σ = [some (.ref Dd), some (.str (Tx x)), x2, some (.ref A)] ∧ Same H H' ∧ H' A = some (.lst ((List.range (j + 1)).map fun i => V.ref (tf (BF.it (nxt s r ks mv dn) i x)))), ⟨k0, 0, rfl, k1, (fun i a b => absurd a (by omega)), rfl, Same.new' (Same.refl _) hA, upd_same⟩, ?_⟩
      rintro m σ H' ⟨j, rfl, hj, hno, rfl, sm, hA'⟩
      have hD' : DeAt H' r ks Dd s.de kd tf := ⟨sm _ _ hD.d, hD.nd, hD.sub, fun p hp => by obtain ⟨e, a, b⟩ := hD.on p hp; exact ⟨e, a, b.mono (TS.same sm)⟩, hD.off⟩
      obtain ⟨_, _, e, Da, _, hT⟩ := de_at (mv := mv) (dn := dn) hD' (onx j)
      have hl : atI ((List.range (j + 1)).map fun i => V.ref (tf (BF.it (nxt s r ks mv dn) i x))) (-1) = some (V.ref (tf (BF.it (nxt s r ks mv dn) j x))) := atI_last (j := j) (by simp) (by simp)
      rw [show nxt s r ks mv dn (BF.it (nxt s r ks mv dn) j x) = BF.it (nxt s r ks mv dn) (j + 1) x from (BF.it_s _ j x).symm] at hT
      refine ⟨_, rfl, 1, rfl, A, _, _, _, rfl, rfl, SqL.of hA', hl, _, _, _, _, rfl, rfl, SqT.of hT, at_of (j := 3) rfl rfl, _, rfl, rfl, _, rfl, ite2 (fun hv => ?_) (fun hv => ?_)⟩
      · have ne : BF.it (nxt s r ks mv dn) (j + 1) x ≠ x := fun z => by
          rw [z] at hv
          simp at hv
        have hj2 : j + 2 ≤ k0 := by
          by_cases c : j + 1 = k0
          · rw [c] at ne; exact absurd k3 ne
          · omega
        obtain ⟨_, g', _⟩ := de_at (mv := mv) (dn := dn) hD' (onx (j + 1))
        refine ⟨fun σ' H'' => ∃ m', m' < k0 - j ∧ ∃ j', m' = k0 - j' ∧ j' + 1 ≤ k0 ∧ (∀ i, 1 ≤ i → i ≤ j' → BF.it (nxt s r ks mv dn) i x ≠ x) ∧ σ' = [some (.ref Dd), some (.str (Tx x)), x2, some (.ref A)] ∧ Same H H'' ∧ H'' A = some (.lst ((List.range (j' + 1)).map fun i => V.ref (tf (BF.it (nxt s r ks mv dn) i x)))), fun σ' H'' q => q, ?_⟩
        refine ⟨_, rfl, .inl ⟨rfl, _, SqL.of hA'⟩, _, rfl, _, rfl, 1, rfl, A, _, _, _, rfl, rfl, SqL.of hA', hl, _, _, _, _, rfl, rfl, SqT.of hT, at_of (j := 3) rfl rfl, Dd, _, rfl, g', A, _, _, rfl, rfl, hA', by rw [List.length_map, List.length_range, sizeLine_eq]; omega, ?_⟩
        refine ⟨k0 - (j + 1), by omega, j + 1, rfl, by omega, (fun i a b => (Decidable.em (i = j + 1)).elim (fun c => by rw [c]; exact ne) (fun c => hno i a (by omega))), rfl, fun y o q => ?_, ?_⟩
        · rw [upd_ne (ne_of_none q hA)]; exact sm _ _ q
        · rw [upd_same, List.range_succ (n := j + 1), List.map_append]; rfl
      · have eq : BF.it (nxt s r ks mv dn) (j + 1) x = x := Classical.byContradiction fun z => hv (by simp [Tx_inj, z])
        exact ⟨_, rfl, kq H' A x (j + 1) sm hA hA' (by omega) (by omega) eq onx ⟨kd, hD.nd, (fun p => ⟨(fun hp => by obtain ⟨e, a, _⟩ := hD.on p hp; rw [a]; exact fun z => (by cases z)), (fun hp => Classical.byContradiction fun z => hp (hD.off p z))⟩), hx.symm, by omega, eq, fun i a b => hno i a (by omega)⟩⟩
end
/-! ### coins -/
def PathAt (H : Hp) : List Nat → List Addr → List Ed → Prop
  | _, [], [] => True
  | p, T :: ts, e :: es => StepAt H p T e ∧ PathAt H e.2.2 ts es
  | _, _, _ => False
theorem PathAt.mono {H H' : Hp} (s : TS H H') : ∀ {ts : List Addr} {es : List Ed} {p : List Nat}, PathAt H p ts es → PathAt H' p ts es
  | [], [], _, _ => trivial
  | T :: ts, e :: es, p, h => ⟨StepAt.mono s h.1, PathAt.mono s (ts := ts) (es := es) h.2⟩
  | [], _ :: _, _, h => h.elim
  | _ :: _, [], _, h => h.elim
theorem PathAt.len {H : Hp} : ∀ {ts : List Addr} {es : List Ed} {p : List Nat}, PathAt H p ts es → ts.length = es.length
  | [], [], _, _ => rfl
  | T :: ts, e :: es, p, h => by rw [List.length_cons, List.length_cons, PathAt.len (ts := ts) (es := es) h.2]
  | [], _ :: _, _, h => h.elim
  | _ :: _, [], _, h => h.elim
theorem path_snoc {H : Hp} {G : BF.Gph (List Nat) Ed} (hG : G.to = fun e => e.2.2) {T : Addr} {e : Ed} : ∀ {ts : List Addr} {es : List Ed} {p q : List Nat}, PathAt H p ts es → BF.Walk G p es q → StepAt H q T e → PathAt H p (ts ++ [T]) (es ++ [e])
  | [], [], p, q, _, h, hs => by cases (show p = q from h); exact ⟨hs, trivial⟩
  | T' :: ts, e' :: es, p, q, h, hw, hs => ⟨h.1, path_snoc hG (ts := ts) (es := es) h.2 (by have := hw.2.2; rw [hG] at this; exact this) hs⟩
  | [], _ :: _, _, _, h, _, _ => h.elim
  | _ :: _, [], _, _, h, _, _ => h.elim
theorem path_chain {H : Hp} {r : List Nat} {ks kd : List (List Nat)} {Dd : Addr} {s : Bs} {tf : List Nat → Addr} {mv dn : Int} (hD : DeAt H r ks Dd s.de kd tf) (gx : BF.GIx (GG r ks mv dn) s) {x : List Nat} (on : ∀ j, s.de (BF.it (nxt s r ks mv dn) j x) ≠ none) : ∀ k, PathAt H x ((List.range k).map fun i => tf (BF.it (nxt s r ks mv dn) i x)) (BF.chain s (GG r ks mv dn) x k)
  | 0 => trivial
  | k + 1 => by
    have ih := path_chain hD gx on k
    obtain ⟨t, T, g⟩ := gx
    have hw := (BF.chain_ok g k fun i _ => on i).1
    cases he : s.de (BF.it (nxt s r ks mv dn) k x) with
    | none => exact absurd he (on k)
    | some e =>
      have hk : BF.it (nxt s r ks mv dn) k x ∈ kd := Classical.byContradiction fun z => on k (hD.off _ z)
      obtain ⟨e', he', hs⟩ := hD.on _ hk
      rw [he] at he'
      cases he'
      rw [BF.chain_s he, List.range_succ, List.map_append]
      exact path_snoc rfl ih hw hs
def Pot (r : List Nat) (ks : List (List Nat)) (mv dn : Int) (c : List Nat → Int) : Prop := (∀ p, 0 ≤ c p) ∧ ∀ p ∈ ks, ∀ e ∈ EE r p, c e.2.2 + (dn * e.2.1 - mv) ≤ c p
def Rnd (H : Hp) (r : List Nat) (ks : List (List Nat)) (mv dn : Int) (c : List Nat → Int) (A : Addr) : Prop := ∃ ts es x, H A = some (.lst (ts.map V.ref)) ∧ PathAt H x ts es ∧ BF.Walk (GG r ks mv dn) x es x ∧ 1 ≤ es.length ∧ es.length ≤ 64 ∧ 0 < BF.W (GG r ks mv dn) es ∧ AskD r ks mv dn c es x
def AskRes (H : Hp) (r : List Nat) (ks : List (List Nat)) (mv dn : Int) (c : List Nat → Int) (A : Addr) : Prop := (H A = some (.lst []) ∧ Pot r ks mv dn c ∧ AskD r ks mv dn c [] []) ∨ Rnd H r ks mv dn c A
def spAsked : Sp := fun vs H Q _ => ∃ (S : Addr) (mv dn : Int) (r : List Nat) (ks : List (List Nat)) (lf : List Nat → Addr) (tl : List Nat → List Addr),
  vs = [.ref S, .int mv, .int dn] ∧ GrOk r ks ∧ H S = some (.dK (fm ks fun p => .ref (lf p))) ∧ GrB H r ks lf tl ∧
  ∀ H' R Cd A c, Same H H' → H R = none → H' R = some (.tup [.ref Cd, .ref A]) → H' Cd = some (.dK (fm ks (coinV c))) → AskRes H' r ks mv dn c A → Q (.ref R) H'
section
variable {P : Program} {w : World} {K : PySem.W.Frag} {mg : Str → Option Value} {base : Heap} {cc : Nat → Addr}
abbrev s_coins_asked : Stmt := top 40
theorem sc_coins_asked : FnScope ["steps", "moves", "deeds", "coins", "pattern", "dearest", "risen", "turn"] ["steps", "moves", "deeds"] (defScope s_coins_asked) := ⟨rfl, rfl, rfl, by decide +kernel, rfl, by decide +kernel, by decide +kernel⟩

theorem ok_asked {f : Addr} {fd : FuncData} (F : Fun K "coins_asked" "coins_asked" s_coins_asked f fd) (T : Txt K mg) (OR : OwnS P w K mg base 1 "raised" ["steps", "moves", "deeds", "coins", "dearest"] spRaised) (OG : OwnS P w K mg base 1 "gone_round" ["dearest", "pattern"] spGone) : FnOk P w K mg base CX0 2 f fd ["steps", "moves", "deeds"] spAsked := by
  refine F.ok sc_coins_asked (fun vs H Q E h => ?_) (fun cdv A outer s H vs Q E hr h => ?_)
  · obtain ⟨_, _, _, _, _, _, _, rfl, _⟩ := h
    rfl
  · obtain ⟨S, mv, dn, r, ks, lf, tl, rfl, ok, hS, gb, kq⟩ := h
    have nd := sc_coins_asked.nd
    have kl := ok.le
    refine ⟨_, (pss_cons (ps_lock (ps_setDc (n := 3) (own := [("pattern", 4)]) (g := gName 4) (tt := tYes) rfl nd rfl rfl (sw_dict rfl rfl rfl (by decide +kernel)) (pi_keys (pv 0)) (blkOk_by (N := ["steps", "moves", "deeds", "coins", "pattern", "dearest", "risen", "turn"]) (sc := defScope s_coins_asked) (by decide +kernel)) (fun _ _ _ _ _ => pg_name (i := 4) nd rfl (Or.inl rfl)) (fun _ _ _ _ _ => pts_nil) (fun _ _ _ _ _ => (pv 4)) (fun _ _ _ _ _ => pe_int)))
      (pss_cons (ps_set (i := 5) nd rfl (by first | exact Or.inl rfl | exact Or.inr rfl) pe_dnewK)
      (pss_cons (ps_set (i := 6) nd rfl (by first | exact Or.inl rfl | exact Or.inr rfl) pe_non)
      (pss_cons (ps_for PassesOwn.never rfl (pi_range1 (by rfl) T.n_range (pa_cons (pe_callB call_lenD (by rfl) T.n_len boot_len (pa_cons (pv 0) pa_nil)) pa_nil)) (pg_name (i := 7) nd rfl (by first | exact Or.inl rfl | exact Or.inr rfl))
      (pss_cons (ps_set (i := 6) nd rfl (by first | exact Or.inl rfl | exact Or.inr rfl) (pe_own OR (hr.mono (by decide)) (pa_cons (pv 0) (pa_cons (pv 1) (pa_cons (pv 2) (pa_cons (pv 3) (pa_cons (pv 5) pa_nil)))))))
      (pss_one (ps_if (pt_cmpR op_isN (pv 6) pe_non (nomark _)) (pss_one (ps_ret (pe_tup (pa_cons (pv 3) (pa_cons (pe_lst pa_nil) pa_nil))))) pss_nil))))
      (pss_one (ps_ret (pe_tup (pa_cons (pv 3) (pa_cons (pe_own OG (hr.mono (by decide)) (pa_cons (pv 5) (pa_cons (pv 6) pa_nil))) pa_nil))))))))), ?_⟩
    refine ⟨S, _, hS, trivial, fun od => ?_⟩
    have f0 : ∀ y o, y ≠ S → H y = some o → (upd H S (.frz od (.dK (fm ks fun p => .ref (lf p))))) y = some o := fun y o n q => by rw [upd_ne n]; exact q
    have eS : (upd H S (.frz od (.dK (fm ks fun p => .ref (lf p))))) S = some (.frz od (.dK (fm ks fun p => .ref (lf p)))) := upd_same
    generalize upd H S (.frz od (.dK (fm ks fun p => .ref (lf p)))) = H1 at *
    refine ⟨_, rfl, S, od, rfl, .inl ⟨_, eS, fun Cd hCd => ?_⟩⟩
    have nSC : S ≠ Cd := fun z => by rw [z, hCd] at eS; cases eS
    have hCd0 : H Cd = none := by
      cases q : H Cd with
      | none => rfl
      | some o => have := f0 Cd o (Ne.symm nSC) q; rw [hCd] at this; cases this
    refine turns (walk_keys (d := S) (o := od) (kvs := fm ks fun p => .ref (lf p))) (fun i H' => H' Cd = some (.dK (fm (ks.take i) fun _ => V.int 0)) ∧ ∀ y o, y ≠ Cd → H1 y = some o → H' y = some o) ⟨upd_same, fun y o n q => by rw [upd_ne n]; exact q⟩ (fun i H' _ q => q.2 _ _ nSC eS) ?_ ?_
    · rintro i x H2 H2' hi ⟨e2, f2⟩ ⟨eH, k, v, hk, rfl⟩
      subst H2'
      rw [fm_len] at hi
      obtain ⟨p, hp⟩ : ∃ p, ks[i]? = some p := ⟨_, List.getElem?_eq_getElem hi⟩
      have ek : k = Sum.inr (Tx p) := by
        unfold fm at hk
        rw [List.getElem?_map, hp] at hk
        cases hk
        rfl
      subst ek
      have np : p ∉ ks.take i := fun m => by
        obtain ⟨j, hj⟩ := List.getElem?_of_mem m
        rw [List.getElem?_take] at hj
        split at hj
        · have := nd_ix ok.nd hj hp; omega
        · cases hj
      refine ⟨rfl, yes_rd ⟨_, rfl, _, Sum.inr (Tx p), rfl, e2, by rw [fm_len, List.length_take, sizeLine_eq]; omega, ?_, fun y o n q => by rw [upd_ne n]; exact f2 y o n q⟩⟩
      rw [upd_same, put_out' _ np, take_succ' hp]
      congr 2
      unfold fm
      apply List.map_congr_left
      intro q _
      show (_, if q = p then V.int 0 else V.int 0) = (_, V.int 0)
      split <;> rfl
    · rintro H2 ⟨e2, f2⟩
      rw [fm_len, List.take_length] at e2
      refine ⟨f2 _ _ nSC eS, ?_⟩
      have eS3 : (upd H2 S (.dK (fm ks fun p => .ref (lf p)))) S = some (.dK (fm ks fun p => .ref (lf p))) := upd_same
      have eC3 : (upd H2 S (.dK (fm ks fun p => .ref (lf p)))) Cd = some (.dK (fm ks fun _ => V.int 0)) := by rw [upd_ne (Ne.symm nSC)]; exact e2
      have s3 : Same H (upd H2 S (.dK (fm ks fun p => .ref (lf p)))) := fun y o q => by
        by_cases z : y = S
        · rw [z, upd_same, ← hS, ← z]; exact q
        · rw [upd_ne z]; exact f2 y o (ne_of_none q hCd0) (f0 y o z q)
      generalize upd H2 S (.dK (fm ks fun p => .ref (lf p))) = H3 at *
      refine fun Dd hDd => ⟨_, rfl, S, _, rfl, upd_keep hDd eS3, ((fm ks fun p => .ref (lf p)).length : Nat), rfl, by rw [fm_len]; omega, by rw [fm_len]; omega, ?_⟩
      have s4 : Same H (upd H3 Dd (.dK [])) := Same.new' s3 hDd
      have hDd0 := s3.free hDd
      have eS4 : (upd H3 Dd (.dK [])) S = some (.dK (fm ks fun p => .ref (lf p))) := upd_keep hDd eS3
      have eC4 : (upd H3 Dd (.dK [])) Cd = some (.dK (fm ks fun _ => V.int 0)) := upd_keep hDd eC3
      have eD4 : (upd H3 Dd (.dK [])) Dd = some (.dK []) := upd_same
      have nCD : Cd ≠ Dd := ne_of_none eC3 hDd
      have nSD : S ≠ Dd := ne_of_none eS3 hDd
      generalize upd H3 Dd (.dK []) = H4 at *
      refine for_range (lo := 0) (n := (((fm ks fun p => V.ref (lf p)).length : Nat) : Int).toNat) (fun i σ H' => ∃ kd tf x4 x7, σ = [some (.ref S), some (.int mv), some (.int dn), some (.ref Cd), x4, some (.ref Dd), some (riV (BF.passes (GG r ks mv dn) i).ri), x7] ∧ H' Cd = some (.dK (fm ks (coinV (BF.passes (GG r ks mv dn) i).c))) ∧ DeAt H' r ks Dd (BF.passes (GG r ks mv dn) i).de kd tf ∧ Two Cd Dd H4 H' ∧ (∀ j, j < i → (BF.passes (GG r ks mv dn) (j + 1)).ri ≠ none))
        ⟨[], fun _ => 0, none, none, rfl, eC4, ⟨eD4, List.nodup_nil, fun p h => (by cases h), fun p h => (by cases h), fun _ _ => rfl⟩, fun _ _ _ _ q => q, fun j z => by omega⟩ ?_ ?_
      · rintro i σ H5 hi ⟨kd, tf, x4, x7, rfl, hC5, hD5, two5, hno⟩
        have eS5 := two5 _ _ (fun z => nSC z) nSD eS4
        have gb5 : GrB H5 r ks lf tl := two_grb eC4 eD4 two5 ⟨fun p hp => s4 _ _ (gb.l p hp), fun p hp => (gb.s p hp).mono (TS.same s4)⟩
        refine ⟨_, rfl, _, rfl, _, rfl, _, rfl, _, rfl, S, Cd, Dd, mv, dn, r, ks, lf, tl, BF.passes (GG r ks mv dn) i, kd, tf, rfl, ok, eS5, gb5, hC5, hD5, nSC, nSD, nCD, fun H6 kd' tf' two6 hC6 hD6 => ?_⟩
        refine ⟨_, rfl, rfl, _, rfl, ite2 (fun hv => ?_) (fun hv => ?_)⟩
        · have hn : (BF.pass (GG r ks mv dn) (BF.passes (GG r ks mv dn) i)).ri = none := by
            cases q : (BF.pass (GG r ks mv dn) (BF.passes (GG r ks mv dn) i)).ri with
            | none => rfl
            | some v => rw [q] at hv; exact absurd (of_decide_eq_true hv) (fun z => by cases z)
          obtain ⟨ec, ha⟩ := BF.pass_still hn
          refine ⟨_, rfl, (show 0 ≤ sizeLine by decide), fun A' hA' => ⟨(show 2 ≤ sizeLine by decide), fun R hR => ?_⟩⟩
          have s6 : Same H H6 := fun y o q => two6 y o (ne_of_none q hCd0) (ne_of_none q hDd0) (two5 y o (ne_of_none q hCd0) (ne_of_none q hDd0) (s4 y o q))
          have s7 := Same.new' (o := .lst []) s6 hA'
          have s8 := Same.new' (o := .tup [.ref Cd, .ref A']) s7 hR
          obtain ⟨t, T0, g⟩ := BF.gi_passes (G := GG r ks mv dn) (i + 1)
          refine kq _ R Cd A' (BF.passes (GG r ks mv dn) (i + 1)).c s8 (s7.free hR) upd_same (upd_keep hR (upd_keep hA' hC6)) (.inl ⟨upd_keep hR upd_same, ⟨g.nn, fun p hp e he => ?_⟩, .inl ⟨i, by rw [Int.toNat_natCast, fm_len] at hi; exact hi, hno, hn, rfl, rfl, rfl⟩⟩)
          have ec : (BF.passes (GG r ks mv dn) (i + 1)).c = (BF.passes (GG r ks mv dn) i).c := ec
          rw [ec]
          exact ha (p, e) ((BF.mem_arcs _).mpr ⟨hp, he⟩)
        · have hn : (BF.pass (GG r ks mv dn) (BF.passes (GG r ks mv dn) i)).ri ≠ none := fun z => hv (by rw [z]; rfl)
          exact ⟨kd', tf', x4, _, rfl, hC6, hD6, fun y o a b q => two6 y o a b (two5 y o a b q), fun j z => (Decidable.em (j = i)).elim (fun c => by rw [c]; exact hn) (fun c => hno j (by omega))⟩
      · rintro σ H5 ⟨kd, tf, x4, x7, rfl, hC5, hD5, two5, hr5⟩
        rw [Int.toNat_natCast, fm_len] at *
        obtain ⟨n, hn⟩ : ∃ n, ks.length = n + 1 := ⟨ks.length - 1, by have := List.length_pos_iff.mpr ok.ne; omega⟩
        rw [hn] at hr5 hC5 hD5 ⊢
        cases hv : (BF.passes (GG r ks mv dn) (n + 1)).ri with
        | none => exact absurd hv (hr5 n (by omega))
        | some v =>
          have on := BF.chain_on (G := GG r ks mv dn) ok.cl hn hv
          have kdl := BF.nodup_le hD5.nd hD5.sub
          refine ⟨_, rfl, _, rfl, _, rfl, Dd, v, BF.passes (GG r ks mv dn) (n + 1), r, ks, mv, dn, kd, tf, rfl, hD5, by omega, on, fun H6 A' x k s6 hA0 hA' k1 k2 k3 on' gd => ⟨(show 2 ≤ sizeLine by decide), fun R hR => ?_⟩⟩
          have s5 : Same H H5 := fun y o q => two5 y o (ne_of_none q hCd0) (ne_of_none q hDd0) (s4 y o q)
          have s56 := s5.trans s6
          have s7 := Same.new' (o := .tup [.ref Cd, .ref A']) s56 hR
          have s67 := Same.new' (o := .tup [.ref Cd, .ref A']) s6 hR
          obtain ⟨w1, w2, w3⟩ := BF.round_pos (G := GG r ks mv dn) (BF.gi_passes (n + 1)) k1 (fun j _ => on' j) k3
          refine kq _ R Cd A' (BF.passes (GG r ks mv dn) (n + 1)).c s7 (s56.free hR) upd_same (s67 _ _ hC5) (.inr ⟨(List.range k).map fun i => tf (BF.it (nxt (BF.passes (GG r ks mv dn) (n + 1)) r ks mv dn) i x), _, x, ?_, (path_chain hD5 (BF.gi_passes (n + 1)) on' k).mono (TS.same s67), w1, by rw [w2]; exact k1, by rw [w2]; omega, w3, .inr ⟨by rw [hn]; exact hr5, v, k, by rw [hn]; exact hv, by rw [hn], by rw [hn]; exact gd, by rw [hn]⟩⟩)
          rw [upd_keep hR hA', List.map_map]
          rfl
end
end CK

namespace CK
open PySem L2 PyProof.Rows
theorem boot_sumQ : bootBuiltins "sum" = some (.builtin "sum") := by decide +kernel
theorem mSum_cons {e : Ed} {es : List Ed} : mSum (e :: es) = e.2.1 + mSum es := by unfold mSum; rw [List.map_cons, List.sum_cons]
theorem mSum_b : ∀ {es : List Ed}, (∀ e ∈ es, 0 ≤ e.2.1 ∧ e.2.1 ≤ 6) → 0 ≤ mSum es ∧ mSum es ≤ 6 * (es.length : Int)
  | [], _ => ⟨by unfold mSum; simp, by unfold mSum; simp⟩
  | e :: es, h => by
    have h1 := h e List.mem_cons_self
    have h2 := mSum_b (es := es) fun x hx => h x (List.mem_cons_of_mem _ hx)
    rw [mSum_cons, List.length_cons]
    omega
theorem W_eq {r : List Nat} {ks : List (List Nat)} {mv dn : Int} : ∀ es : List Ed, BF.W (GG r ks mv dn) es = dn * mSum es - mv * (es.length : Int)
  | [] => by unfold BF.W mSum; simp
  | e :: es => by
    rw [BF.W_cons, W_eq es, mSum_cons]
    show dn * e.2.1 - mv + _ = _
    rw [List.length_cons, Int.mul_add, Int.natCast_add, Int.mul_add]
    simp only [Int.natCast_one, Int.mul_one]
    omega
theorem walk_any {r : List Nat} {ks : List (List Nat)} {a b c d : Int} : ∀ {es : List Ed} {p q : List Nat}, BF.Walk (GG r ks a b) p es q → BF.Walk (GG r ks c d) p es q
  | [], _, _, h => h
  | e :: es, p, q, h => ⟨h.1, h.2.1, walk_any (es := es) h.2.2⟩
theorem walk_b {r : List Nat} {ks : List (List Nat)} {a b : Int} (ok : GrOk r ks) : ∀ {es : List Ed} {p q : List Nat}, BF.Walk (GG r ks a b) p es q → ∀ e ∈ es, 0 ≤ e.2.1 ∧ e.2.1 ≤ 6
  | [], _, _, _, _, h => by cases h
  | e :: es, p, q, h, x, hx => by
    rcases List.mem_cons.mp hx with z | m
    · obtain ⟨b1, b2, b3⟩ := ok.bt p h.1
      have g := ee_good ok.rr b1 b2 b3 h.2.1
      rw [z]
      exact ⟨g.m0, g.m6⟩
    · exact walk_b ok (es := es) h.2.2 x m
theorem path_get {H : Hp} : ∀ {ts : List Addr} {es : List Ed} {p : List Nat} {i : Nat} {T : Addr}, PathAt H p ts es → ts[i]? = some T → ∃ e q, es[i]? = some e ∧ StepAt H q T e
  | T' :: ts, e :: es, p, 0, T, h, hT => by cases hT; exact ⟨e, p, rfl, h.1⟩
  | T' :: ts, e :: es, p, i + 1, T, h, hT => by
    obtain ⟨e', q, a, b⟩ := path_get (i := i) h.2 (by simpa using hT)
    exact ⟨e', q, by simpa using a, b⟩
  | [], [], _, _, _, _, hT => by simp at hT
  | [], _ :: _, _, _, _, h, _ => h.elim
  | _ :: _, [], _, _, _, h, _ => h.elim
def spPart : Sp := fun vs H Q _ => ∃ (A : Addr) (ts : List Addr) (es : List Ed) (x : List Nat), vs = [.ref A] ∧ H A = some (.lst (ts.map V.ref)) ∧ PathAt H x ts es ∧ 1 ≤ es.length ∧ es.length ≤ 64 ∧ (∀ e ∈ es, 0 ≤ e.2.1 ∧ e.2.1 ≤ 6) ∧
  ∀ H' R (mv dn g : Nat), Same H H' → H R = none → H' R = some (.tup [.int mv, .int dn]) → 1 ≤ g → mSum es = (mv : Int) * (g : Int) → (es.length : Int) = (dn : Int) * (g : Int) → Nat.gcd mv dn = 1 → Q (.ref R) H'
section
variable {P : Program} {w : World} {K : PySem.W.Frag} {mg : Str → Option Value} {base : Heap} {cc : Nat → Addr}
abbrev s_part_of : Stmt := top 39
theorem sc_part_of : FnScope ["around", "moves", "step", "divisor", "rest"] ["around"] (defScope s_part_of) := ⟨rfl, rfl, rfl, by decide +kernel, rfl, by decide +kernel, by decide +kernel⟩

theorem ok_part {f : Addr} {fd : FuncData} (F : Fun K "part_of" "part_of" s_part_of f fd) (T : Txt K mg) : FnOk P w K mg base CX0 1 f fd ["around"] spPart := by
  refine F.ok sc_part_of (fun vs H Q E h => ?_) (fun cdv A outer s H vs Q E hr h => ?_)
  · obtain ⟨_, _, _, _, rfl, _⟩ := h
    rfl
  · obtain ⟨Ad, ts, es, x, rfl, hA, hp, l1, l64, hb, kq⟩ := h
    have nd := sc_part_of.nd
    have tl := hp.len
    obtain ⟨s0, s6⟩ := mSum_b hb
    obtain ⟨M, hM⟩ : ∃ M : Nat, mSum es = (M : Int) := ⟨(mSum es).toNat, by omega⟩
    refine ⟨_, (pss_cons (ps_set (i := 1) nd rfl (by first | exact Or.inl rfl | exact Or.inr rfl) (pe_callB (cr_sum (by rfl)) (by rfl) T.n_sum boot_sumQ (pa_cons (pe_lc (own := [("step", 2)]) (g := gName 2) (tt := tYes) rfl nd (pi_list (pv 0)) (blkOk_by (N := ["around", "moves", "step", "divisor", "rest"]) (sc := defScope s_part_of) (by decide +kernel)) (fun _ _ _ _ _ => pg_name (i := 2) nd rfl (Or.inl rfl)) (fun _ _ _ _ _ => pts_nil) (fun _ _ _ _ _ => (pe_ix (r := rIxT K) ix_tup (pv 2) pe_int (fun _ _ => rfl)))) pa_nil)))
      (pss_cons (ps_par (i := 3) (j := 4) rfl nd rfl rfl (by decide) rfl rfl (pa_cons (pe_callB call_len_seq (by rfl) T.n_len boot_len (pa_cons (pv 0) pa_nil)) (pa_cons (pv 1) pa_nil)) rfl)
      (pss_cons (ps_while PassesOwn.never (pt_cmpR op_gt (pv 4) pe_int (nomark _)) (pss_one (ps_par (i := 3) (j := 4) rfl nd rfl rfl (by decide) rfl rfl (pa_cons (pv 4) (pa_cons (pe_op op_mod (pv 3) (pv 4)) pa_nil)) rfl)))
      (pss_one (ps_ret (pe_tup (pa_cons (pe_op op_fdiv (pv 1) (pv 3)) (pa_cons (pe_op op_fdiv (pe_callB call_len_seq (by rfl) T.n_len boot_len (pa_cons (pv 0) pa_nil)) (pv 3)) pa_nil)))))))), ?_⟩
    refine ⟨_, rfl, Ad, rfl, ⟨_, SqL.of hA⟩, fun Dn hD => ?_⟩
    refine lc_list (K := K) (a := Ad) (xs := ts.map V.ref) (g := gName 2) (fun i H' => Same H H' ∧ H' Dn = some (.lst (((es.take i).map fun e => e.2.1).map V.int))) ⟨Same.new' (Same.refl _) hD, upd_same⟩ (fun i H' _ q => SqL.of (q.1 _ _ hA)) ?_ ?_
    · rintro i y H1 hy ⟨s1, hD1⟩
      obtain ⟨T, hT, rfl⟩ : ∃ t, ts[i]? = some t ∧ y = V.ref t := by
        rw [List.getElem?_map] at hy
        cases e : ts[i]? with
        | none => rw [e] at hy; cases hy
        | some t => rw [e] at hy; exact ⟨t, rfl, (Option.some.inj hy).symm⟩
      obtain ⟨e, q, he, Da, hst, _⟩ := path_get (hp.mono (TS.same s1)) hT
      have hi := (List.getElem?_eq_some_iff.mp he).1
      refine ⟨rfl, yes_rd ⟨_, rfl, T, _, _, _, rfl, rfl, SqT.of hst, at_of (j := 2) rfl rfl, _, hD1, ?_, fun b o q => ?_, ?_⟩⟩
      · rw [List.length_map, List.length_map, List.length_take, sizeLine_eq]; omega
      · rw [upd_ne (ne_of_none q hD)]; exact s1 _ _ q
      · rw [upd_same, take_succ' he, List.map_append, List.map_append]; rfl
    · rintro H1 ⟨s1, hD1⟩
      rw [List.length_map, tl, List.take_length] at hD1
      have hA1 := s1 _ _ hA
      refine ⟨Dn, _, rfl, SqL.of hD1, ?_⟩
      rw [show (es.map fun e => e.2.1).sum = (M : Int) from hM]
      refine ⟨_, rfl, Ad, _, rfl, .inl (SqL.of hA1), _, rfl, _, _, rfl, ?_⟩
      refine ⟨fun m σ H' => ∃ a b : Nat, m = b ∧ (∃ x2, σ = [some (.ref Ad), some (.int M), x2, some (.int a), some (.int b)]) ∧ H' = H1 ∧ 0 < a ∧ Nat.gcd a b = Nat.gcd es.length M, ⟨M, es.length, M, rfl, ⟨none, ?_⟩, rfl, by omega, rfl⟩, ?_⟩
      · show [some (V.ref Ad), some (V.int M), none, some (V.int ((ts.map V.ref).length : Nat)), some (V.int M)] = _
        rw [List.length_map, tl]
      · rintro m σ H' ⟨a, b, em, ⟨x2, rfl⟩, eH, ha, hg⟩
        subst m
        subst H'
        refine ⟨_, rfl, _, _, rfl, rfl, _, rfl, ite2 (fun hv => ?_) (fun hv => ?_)⟩
        · have hb0 : (0 : Int) < (b : Int) := of_decide_eq_true hv
          refine ⟨fun σ' H'' => ∃ m', m' < b ∧ ∃ a' b' : Nat, m' = b' ∧ (∃ x2, σ' = [some (.ref Ad), some (.int M), x2, some (.int a'), some (.int b')]) ∧ H'' = H1 ∧ 0 < a' ∧ Nat.gcd a' b' = Nat.gcd es.length M, fun σ' H'' q => q, ?_⟩
          refine ⟨_, rfl, _, rfl, _, rfl, _, _, rfl, rfl, hb0, _, _, rfl, a % b, Nat.mod_lt _ (by omega), b, a % b, rfl, ⟨x2, ?_⟩, rfl, by omega, ?_⟩
          · show [some (V.ref Ad), some (V.int M), x2, some (V.int b), some (V.int ((a : Int) % (b : Int)))] = _
            rw [← Int.natCast_emod]
          · rw [← hg, Nat.gcd_comm a b, Nat.gcd_rec b a, Nat.gcd_comm]
        · have hb0 : b = 0 := by
            by_cases c : b = 0
            · exact c
            · exact absurd (decide_eq_true (show (0 : Int) < (b : Int) by omega)) hv
          subst hb0
          rw [Nat.gcd_zero_right] at hg
          have g1 : a ∣ es.length := by rw [hg]; exact Nat.gcd_dvd_left _ _
          have g2 : a ∣ M := by rw [hg]; exact Nat.gcd_dvd_right _ _
          have al := Nat.le_of_dvd (by omega) g1
          have hc : (0 : Int) < (a : Int) ∧ (a : Int) < 1073741824 := ⟨by omega, by omega⟩
          refine ⟨_, rfl, _, rfl, _, _, rfl, rfl, hc, _, rfl, Ad, _, rfl, .inl (SqL.of hA1), _, rfl, _, _, rfl, rfl, hc, (show 2 ≤ sizeLine by decide), fun R hR => ?_⟩
          have s2 := Same.new' (o := .tup [.int ((M : Int) / (a : Int)), .int (((ts.map V.ref).length : Nat) / (a : Int))]) s1 hR
          refine kq _ R (M / a) (es.length / a) a s2 (s1.free hR) ?_ ha ?_ ?_ ?_
          · rw [List.length_map, tl, Int.natCast_ediv, Int.natCast_ediv]
            exact upd_same
          · rw [hM, ← Int.natCast_mul, Nat.div_mul_cancel g2]
          · rw [← Int.natCast_mul, Nat.div_mul_cancel g1]
          · have := Nat.gcd_div_gcd_div_gcd_of_pos_left (n := es.length) (m := M) (by omega)
            rw [← hg] at this
            rw [Nat.gcd_comm]
            exact this
end
/-! ### the long run -/
theorem ee_ne {r p : List Nat} (h1 : 1 ≤ p.length) : ∃ e, e ∈ EE r p := by
  have key : ∀ d : Deed, d.2 < p.length → (step1 p.length (many p) d).isSome = true → ∃ e, e ∈ EE r p := fun d hd hs => by
    refine ⟨edOf r p d, List.mem_map.mpr ⟨d, List.mem_filter.mpr ⟨?_, hs⟩, rfl⟩⟩
    obtain ⟨b, n⟩ := d
    unfold allD
    cases b with
    | true => exact List.mem_append_left _ (List.mem_map.mpr ⟨n, List.mem_range.mpr hd, rfl⟩)
    | false => exact List.mem_append_right _ (List.mem_map.mpr ⟨n, List.mem_range.mpr hd, rfl⟩)
  have ml := many_le p
  by_cases c : many p < p.length
  · refine key (true, 0) h1 ?_
    show (if 0 ≤ many p ∧ many p < p.length then some (many p + 1) else none).isSome = true
    rw [if_pos ⟨Nat.zero_le _, c⟩]; rfl
  · refine key (false, 0) h1 ?_
    show (if 0 < many p then some (many p - 1) else none).isSome = true
    rw [if_pos (by omega)]; rfl
theorem no_pot {r : List Nat} {ks : List (List Nat)} {c : List Nat → Int} (ok : GrOk r ks) (h : Pot r ks (-1) 1 c) : False := by
  have key : ∀ n : Nat, ∀ p ∈ ks, c p < (n : Int) → False := by
    intro n
    induction n with
    | zero => intro p _ hc; have := h.1 p; omega
    | succ n ih =>
      intro p hp hc
      obtain ⟨b1, b2, b3⟩ := ok.bt p hp
      obtain ⟨e, he⟩ := ee_ne (r := r) b2
      have g := ee_good ok.rr b1 b2 b3 he
      have := h.2 p hp e he
      have := g.m0
      exact ih e.2.2 (ok.cl p hp e he) (by omega)
  obtain ⟨p, hp⟩ := List.exists_mem_of_ne_nil _ ok.ne
  exact key ((c p).toNat + 1) p hp (by have := h.1 p; omega)
theorem more_part {a b a' b' g M L : Nat} (hb : 1 ≤ b) (hb' : 1 ≤ b') (hb64 : b ≤ 64) (hb64' : b' ≤ 64) (h : a * b' < b * a') : a * 4096 / b + 1 ≤ a' * 4096 / b' := by
  rw [Nat.le_div_iff_mul_le (by omega)]
  have q := Nat.div_mul_le_self (a * 4096) b
  generalize a * 4096 / b = k at q ⊢
  have e1 : (k + 1) * b' * b ≤ a' * 4096 * b := by
    have t1 : k * b * b' ≤ a * 4096 * b' := Nat.mul_le_mul_right _ q
    have t2 : b * b' ≤ 4096 := Nat.le_trans (Nat.mul_le_mul hb64 hb64') (by decide)
    have t3 : (a * b' + 1) * 4096 ≤ b * a' * 4096 := Nat.mul_le_mul_right _ h
    have e2 : (k + 1) * b' * b = k * b * b' + b * b' := by
      rw [Nat.add_mul, Nat.one_mul, Nat.add_mul, Nat.mul_assoc, Nat.mul_comm b' b, ← Nat.mul_assoc]
    have e3 : a * 4096 * b' = a * b' * 4096 := by rw [Nat.mul_assoc, Nat.mul_comm 4096, ← Nat.mul_assoc]
    have e4 : a' * 4096 * b = b * a' * 4096 := by rw [Nat.mul_comm, ← Nat.mul_assoc]
    rw [e2, e4]
    rw [e3] at t1
    rw [Nat.add_mul] at t3
    omega
  exact Nat.le_of_mul_le_mul_right e1 (by omega)
/-- what the long run has found -/
structure Found (H : Hp) (r : List Nat) (ks : List (List Nat)) (mv dn : Nat) (A : Addr) (ts : List Addr) (es : List Ed) (x : List Nat) : Prop where
  a : H A = some (.lst (ts.map V.ref))
  p : PathAt H x ts es
  w : BF.Walk (GG r ks mv dn) x es x
  l : 1 ≤ es.length
  l64 : es.length ≤ 64
  e : mSum es * (dn : Int) = (mv : Int) * (es.length : Int)
  d : 1 ≤ dn
  d64 : dn ≤ 64
  m6 : mv ≤ 6 * dn
  g : Nat.gcd mv dn = 1
theorem Found.same {H H' : Hp} {r : List Nat} {ks : List (List Nat)} {mv dn : Nat} {A : Addr} {ts : List Addr} {es : List Ed} {x : List Nat} (h : Found H r ks mv dn A ts es x) (s : Same H H') : Found H' r ks mv dn A ts es x :=
  ⟨s _ _ h.a, h.p.mono (TS.same s), h.w, h.l, h.l64, h.e, h.d, h.d64, h.m6, h.g⟩
def spLong : Sp := fun vs H Q _ => ∃ (S : Addr) (r : List Nat) (ks : List (List Nat)) (lf : List Nat → Addr) (tl : List Nat → List Addr),
  vs = [.ref S] ∧ GrOk r ks ∧ H S = some (.dK (fm ks fun p => .ref (lf p))) ∧ GrB H r ks lf tl ∧
  ∀ H' R (mv dn : Nat) A Cd ts es x c, Same H H' → H R = none → H' R = some (.tup [.int mv, .int dn, .ref A, .ref Cd]) → H' Cd = some (.dK (fm ks (coinV c))) → Pot r ks mv dn c → Found H' r ks mv dn A ts es x → (∃ k gx, LgN r ks k ⟨mv, dn, es, x, c, [], gx⟩) → Q (.ref R) H'
/-- what is greater, in the heap -/
def GrAt (H : Hp) (r : List Nat) (ks : List (List Nat)) (mv dn : Int) (c : List Nat → Int) (G : Addr) (gs : List Ed) (gx : List Nat) : Prop := (gs = [] ∧ H G = some (.lst []) ∧ Pot r ks mv dn c) ∨ ∃ ts, H G = some (.lst (ts.map V.ref)) ∧ PathAt H gx ts gs ∧ BF.Walk (GG r ks mv dn) gx gs gx ∧ 1 ≤ gs.length ∧ gs.length ≤ 64 ∧ 0 < BF.W (GG r ks mv dn) gs
theorem grAt_of {H : Hp} {r : List Nat} {ks : List (List Nat)} {mv dn : Int} {c : List Nat → Int} {G : Addr} (h : AskRes H r ks mv dn c G) : ∃ gs gx, AskD r ks mv dn c gs gx ∧ GrAt H r ks mv dn c G gs gx := by
  rcases h with ⟨h1, h2, h3⟩ | ⟨ts, es, x, hG, hp, hw, l1, l64, hpos, hd⟩
  · exact ⟨[], [], h3, .inl ⟨rfl, h1, h2⟩⟩
  · exact ⟨es, x, hd, .inr ⟨ts, hG, hp, hw, l1, l64, hpos⟩⟩
def Head (H0 : Hp) (S : Addr) (r : List Nat) (ks : List (List Nat)) (m : Nat) (σ : L2.St) (H : Hp) : Prop := ∃ (mv dn : Int) (A Cd G : Addr) (c : List Nat → Int) (gs : List Ed) (gx : List Nat) (k : Nat), σ = [some (.ref S), some (.int mv), some (.int dn), some (.ref A), some (.ref Cd), some (.ref G)] ∧ Same H0 H ∧ H Cd = some (.dK (fm ks (coinV c))) ∧ GrAt H r ks mv dn c G gs gx ∧
  ((mv = -1 ∧ dn = 1 ∧ m = 30000 ∧ LgN r ks k ⟨mv, dn, [], [], c, gs, gx⟩) ∨ ∃ (a b : Nat) (ts : List Addr) (es : List Ed) (x : List Nat), mv = a ∧ dn = b ∧ Found H r ks a b A ts es x ∧ m = 25000 - a * 4096 / b ∧ LgN r ks k ⟨mv, dn, es, x, c, gs, gx⟩)
section
variable {P : Program} {w : World} {K : PySem.W.Frag} {mg : Str → Option Value} {base : Heap} {cc : Nat → Addr}
abbrev s_long_run : Stmt := top 38
theorem sc_long_run : FnScope ["steps", "moves", "deeds", "around", "coins", "greater"] ["steps"] (defScope s_long_run) := ⟨rfl, rfl, rfl, by decide +kernel, rfl, by decide +kernel, by decide +kernel⟩

theorem ok_long {f : Addr} {fd : FuncData} (F : Fun K "long_run" "long_run" s_long_run f fd) (T : Txt K mg) (OA : OwnS P w K mg base 2 "coins_asked" ["steps", "moves", "deeds"] spAsked) (OP : OwnS P w K mg base 1 "part_of" ["around"] spPart) : FnOk P w K mg base CX0 3 f fd ["steps"] spLong := by
  refine F.ok sc_long_run (fun vs H Q E h => ?_) (fun cdv A outer s H vs Q E hr h => ?_)
  · obtain ⟨_, _, _, _, _, rfl, _⟩ := h
    rfl
  · obtain ⟨S, r, ks, lf, tl_, rfl, ok, hS, gb, kq⟩ := h
    have nd := sc_long_run.nd
    have gbs : ∀ {H'}, Same H H' → GrB H' r ks lf tl_ := fun s => ⟨fun p hp => s _ _ (gb.l p hp), fun p hp => (gb.s p hp).mono (TS.same s)⟩
    refine ⟨_, (pss_cons (ps_par3 (i := 1) (j := 2) (l := 3) rfl nd rfl rfl rfl (by decide) (by decide) (by decide) rfl rfl rfl (pa_cons (pe_un un_neg pe_int) (pa_cons pe_int (pa_cons (pe_lst pa_nil) pa_nil))) rfl)
      (pss_cons (ps_asg (pe_own OA (hr.mono (by decide)) (pa_cons (pv 0) (pa_cons (pv 1) (pa_cons (pv 2) pa_nil)))) (pg_tup rfl (pgs_cons (pg_name (i := 4) nd rfl (by first | exact Or.inl rfl | exact Or.inr rfl)) (pgs_cons (pg_name (i := 5) nd rfl (by first | exact Or.inl rfl | exact Or.inr rfl)) pgs_nil))))
      (pss_cons (ps_while PassesOwn.never (pt_truth (pv 5) (fun _ => rfl)) (pss_cons (ps_set (i := 3) nd rfl (by first | exact Or.inl rfl | exact Or.inr rfl) (pv 5))
      (pss_cons (ps_asg (pe_own OP (hr.mono (by decide)) (pa_cons (pv 3) pa_nil)) (pg_tup rfl (pgs_cons (pg_name (i := 1) nd rfl (by first | exact Or.inl rfl | exact Or.inr rfl)) (pgs_cons (pg_name (i := 2) nd rfl (by first | exact Or.inl rfl | exact Or.inr rfl)) pgs_nil))))
      (pss_one (ps_asg (pe_own OA (hr.mono (by decide)) (pa_cons (pv 0) (pa_cons (pv 1) (pa_cons (pv 2) pa_nil)))) (pg_tup rfl (pgs_cons (pg_name (i := 4) nd rfl (by first | exact Or.inl rfl | exact Or.inr rfl)) (pgs_cons (pg_name (i := 5) nd rfl (by first | exact Or.inl rfl | exact Or.inr rfl)) pgs_nil))))))))
      (pss_one (ps_ret (pe_tup (pa_cons (pv 1) (pa_cons (pv 2) (pa_cons (pv 3) (pa_cons (pv 4) pa_nil)))))))))), ?_⟩
    refine ⟨1, rfl, (show 0 ≤ sizeLine by decide), fun A0 hA0 => ⟨_, _, _, rfl, ?_⟩⟩
    have s1 : Same H (upd H A0 (.lst [])) := Same.new' (Same.refl _) hA0
    generalize upd H A0 (.lst []) = H1 at *
    refine ⟨_, rfl, _, rfl, _, rfl, S, -1, 1, r, ks, lf, tl_, rfl, ok, s1 _ _ hS, gbs s1, fun H2 R Cd G c s2 _ hR hC hask => ?_⟩
    refine ⟨R, _, rfl, SqT.of hR, rfl, _, _, rfl, _, _, rfl, rfl, ?_⟩
    refine ⟨fun m σ H' => Head H S r ks m σ H', (by obtain ⟨gs, gx, hd, hg⟩ := grAt_of hask; exact ⟨30000, -1, 1, A0, Cd, G, c, gs, gx, 0, rfl, s1.trans s2, hC, hg, .inl ⟨rfl, rfl, rfl, rfl, rfl, rfl, rfl, hd⟩⟩), ?_⟩
    rintro m σ H3 ⟨mv, dn, Aa, Cd, G, c, gs, gx, k, rfl, s3, hC3, hask, hm⟩
    rcases hask with ⟨rfl, hG, pot⟩ | ⟨ts, hG, hp, hw, l1, l64, hpos⟩
    · refine ⟨_, rfl, false, .inl ⟨[], SqL.of hG, rfl⟩, iteF ?_⟩
      rcases hm with ⟨rfl, rfl, _⟩ | ⟨a, b, ts, es, x, rfl, rfl, fnd, _, lg⟩
      · exact (no_pot ok pot).elim
      · refine ⟨_, rfl, _, rfl, _, rfl, _, rfl, (show 4 ≤ sizeLine by decide), fun R' hR' => ?_⟩
        have s4 := Same.new' (o := .tup [.int a, .int b, .ref Aa, .ref Cd]) s3 hR'
        exact kq _ R' a b Aa Cd ts es x c s4 (s3.free hR') upd_same (upd_keep hR' hC3) pot (fnd.same (Same.new' (Same.refl _) hR')) ⟨k, gx, lg⟩
    · have tl := hp.len
      refine ⟨_, rfl, true, .inl ⟨ts.map V.ref, SqL.of hG, ?_⟩, iteT ⟨fun σ' H' => ∃ m', m' < m ∧ Head H S r ks m' σ' H', fun σ' H' q => q, ?_⟩⟩
      · cases ts with
        | nil => rw [← tl] at l1; exact absurd l1 (by simp)
        | cons a b => rfl
      · have hb := walk_b ok hw
        obtain ⟨b0, b6⟩ := mSum_b hb
        refine ⟨_, rfl, _, rfl, G, ts, gs, gx, rfl, hG, hp, l1, l64, hb, fun H4 R1 a' b' g s4 hR0 hR1 g1 e1 e2 gc => ?_⟩
        refine ⟨R1, _, rfl, SqT.of hR1, rfl, _, _, rfl, _, _, rfl, rfl, ?_⟩
        have s34 := s3.trans s4
        refine ⟨_, rfl, _, rfl, _, rfl, S, a', b', r, ks, lf, tl_, rfl, ok, s34 _ _ hS, gbs s34, fun H5 R2 Cd2 G2 c2 s5 _ hR2 hC2 hask2 => ?_⟩
        refine ⟨R2, _, rfl, SqT.of hR2, rfl, _, _, rfl, _, _, rfl, rfl, ?_⟩
        have n2 : gs.length = b' * g := by
          have : ((gs.length : Nat) : Int) = ((b' * g : Nat) : Int) := by rw [e2, Int.natCast_mul]
          omega
        have hb1 : 1 ≤ b' := by
          by_cases z : b' = 0
          · rw [z, Nat.zero_mul] at n2; omega
          · omega
        have hb64 : b' ≤ 64 := by
          have : b' * 1 ≤ b' * g := Nat.mul_le_mul_left _ g1
          omega
        have m6 : a' ≤ 6 * b' := by
          have : ((a' * g : Nat) : Int) ≤ ((6 * b' * g : Nat) : Int) := by
            rw [Int.natCast_mul, ← e1, Nat.mul_assoc, ← n2, Int.natCast_mul]; exact b6
          exact Nat.le_of_mul_le_mul_right (by omega : a' * g ≤ 6 * b' * g) (by omega)
        have fnd : Found H5 r ks a' b' G ts gs gx := by
          refine ⟨s5 _ _ (s4 _ _ hG), (hp.mono (TS.same s4)).mono (TS.same s5), walk_any hw, l1, l64, ?_, hb1, hb64, m6, gc⟩
          rw [e1, e2, Int.mul_assoc, Int.mul_comm (g : Int) (b' : Int)]
        have lg : ∃ ss, LgN r ks k ss ∧ ss.gs = gs ∧ ss.gx = gx := by
          rcases hm with ⟨_, _, _, q⟩ | ⟨_, _, _, es0, x0, _, _, _, _, q⟩
          · exact ⟨_, q, rfl, rfl⟩
          · exact ⟨_, q, rfl, rfl⟩
        obtain ⟨ss, lg1, lg2, lg3⟩ := lg
        obtain ⟨gs2, gx2, hd2, hg2⟩ := grAt_of hask2
        have lgn : LgN r ks (k + 1) ⟨a', b', gs, gx, c2, gs2, gx2⟩ := ⟨ss, lg1, by rw [lg2]; exact fun z => by rw [z] at l1; exact absurd l1 (by simp), ⟨a', b', by rw [lg2]; exact ⟨g, g1, by rw [e1, Int.natCast_mul], n2, gc⟩, rfl, rfl, hd2⟩, lg2.symm, lg3.symm⟩
        refine ⟨25000 - a' * 4096 / b', ?_, a', b', G, Cd2, G2, c2, gs2, gx2, k + 1, rfl, s34.trans s5, hC2, hg2, .inr ⟨a', b', ts, gs, gx, rfl, rfl, fnd, rfl, lgn⟩⟩
        rcases hm with ⟨rfl, rfl, rfl, _⟩ | ⟨a, b, ts0, es0, x0, rfl, rfl, fnd0, rfl, _⟩
        · generalize a' * 4096 / b' = q; omega
        · have hW := hpos
          rw [W_eq, e1, e2] at hW
          have hlt : a * b' < b * a' := by
            have h1 : ((a * b' * g : Nat) : Int) < ((b * a' * g : Nat) : Int) := by
              rw [Int.natCast_mul, Int.natCast_mul, Int.natCast_mul, Int.natCast_mul, Int.mul_assoc, Int.mul_assoc]
              omega
            exact Nat.lt_of_mul_lt_mul_right (a := g) (by omega)
          have q1 := more_part (g := 0) (M := 0) (L := 0) fnd0.d hb1 fnd0.d64 hb64 hlt
          have q2 : a' * 4096 / b' ≤ 24576 := by
            rw [Nat.div_le_iff_le_mul_add_pred (by omega)]
            have : a' * 4096 ≤ 6 * b' * 4096 := Nat.mul_le_mul_right _ m6
            have e5 : 6 * b' * 4096 = b' * 24576 := by rw [Nat.mul_comm 6, Nat.mul_assoc]
            omega
          generalize a' * 4096 / b' = q at q1 q2 ⊢
          generalize a * 4096 / b = q0 at q1 ⊢
          omega
end
end CK

namespace CK
open PySem L2 PyProof.Rows
theorem boot_listQ : bootBuiltins "list" = some (.type "list") := by decide +kernel
theorem op_mul_str {X : Cx} : OpR X (binaryOp .Mult) (fun x y H Q => ∃ z n, x = .str z ∧ y = .int n ∧ MulOk z n ∧ Q (.str (Txt.mul z n)) H) := by
  intro pins s σ H x y v u Q I rx ry h
  obtain ⟨z, n, rfl, rfl, hm, q⟩ := h
  obtain ⟨t, rfl⟩ := rx
  obtain ⟨t', rfl⟩ := ry
  exact SB.mul hm fun t' k => ⟨.str (Txt.mul z n), H, I.tok k, ⟨t', rfl⟩, q⟩
theorem zero_mul {w : Nat} (h1 : 1 ≤ w) (h6 : w ≤ 6) : MulOk "0" w ∧ Txt.mul "0" w = Tx (zeros w) := by
  have : w = 1 ∨ w = 2 ∨ w = 3 ∨ w = 4 ∨ w = 5 ∨ w = 6 := by omega
  unfold MulOk
  rcases this with rfl | rfl | rfl | rfl | rfl | rfl <;> decide +kernel
def RB (r : List Nat) (n : Nat) (p : List Nat) : Prop := ∃ ds, cnt n 0 ds = some (many p) ∧ (runM r (zeros n) ds).2 = p
structure Bt (r : List Nat) (n : Nat) (p : List Nat) : Prop where
  b : isBits p = true
  l : p.length = n
  re : RB r n p
theorem bt_zero {r : List Nat} {n : Nat} : Bt r n (zeros n) := by
  obtain ⟨a, b, c⟩ := zeros_ok n
  exact ⟨a, c, [], by rw [b]; rfl, rfl⟩
theorem bt_step {r : List Nat} {n : Nat} {p : List Nat} {e : Ed} (hr : r ∈ rules) (h1 : 1 ≤ n) (h6 : n ≤ 6) (h : Bt r n p) (he : e ∈ EE r p) : Bt r n e.2.2 := by
  have hb := h.b
  have hl := h.l
  have g := ee_good hr hb (by omega) (by omega) he
  refine ⟨g.bits, by rw [g.len, hl], ?_⟩
  obtain ⟨ds, c1, c2⟩ := h.re
  unfold EE at he
  obtain ⟨d, hd, rfl⟩ := List.mem_map.mp he
  refine ⟨ds ++ [d], cnt_snoc c1 (by have := g.cnt; rw [hl] at this; exact this), ?_⟩
  rw [runM_snoc, c2]
  rfl
theorem bits_le : ∀ n, (bits n).length = 2 ^ n
  | 0 => rfl
  | n + 1 => by
    show ((bits n).map (48 :: ·) ++ (bits n).map (49 :: ·)).length = _
    rw [List.length_append, List.length_map, List.length_map, bits_le n, Nat.pow_succ]
    omega
theorem bt_64 {r : List Nat} {n : Nat} (h6 : n ≤ 6) {ks : List (List Nat)} (nd : ks.Nodup) (h : ∀ p ∈ ks, Bt r n p) : ks.length ≤ 64 := by
  have a := BF.nodup_le nd (ks := bits n) fun p hp => by rw [← (h p hp).l]; exact bits_mem (h p hp).b
  rw [bits_le] at a
  have : 2 ^ n ≤ 2 ^ 6 := Nat.pow_le_pow_right (by decide) h6
  omega
theorem ee_len {r p : List Nat} : (EE r p).length ≤ 2 * p.length := by
  unfold EE dls
  rw [List.length_map]
  have := List.length_filter_le (fun d => (step1 p.length (many p) d).isSome) (allD p.length)
  rw [allD_len] at this
  exact this
def spAll : Sp := fun vs H Q _ => ∃ (r : List Nat) (n : Nat), vs = [.str (Tx r), .int n] ∧ r ∈ rules ∧ 1 ≤ n ∧ n ≤ 6 ∧
  ∀ H' S ks lf tl, Same H H' → H S = none → H' S = some (.dK (fm ks fun p => .ref (lf p))) → GrB H' r ks lf tl → GrOk r ks → zeros n ∈ ks → (∀ p ∈ ks, Bt r n p) → DS r n ks → Q (.ref S) H'
structure InvA (r : List Nat) (n : Nat) (S Ah : Addr) (ks ah : List (List Nat)) (lf : List Nat → Addr) (tl : List Nat → List Addr) (H : Hp) : Prop where
  d : H S = some (.dK (fm ks fun p => .ref (lf p)))
  a : H Ah = some (.lst (ah.map fun p => V.str (Tx p)))
  b : GrB H r ks lf tl
  nd : ks.Nodup
  k : ∀ p ∈ ks, Bt r n p
  q : ∀ p ∈ ah, Bt r n p
  c : ∀ p ∈ ks, ∀ e ∈ EE r p, e.2.2 ∈ ks ∨ e.2.2 ∈ ah
  z : zeros n ∈ ks ∨ zeros n ∈ ah
  len : ah.length ≤ 1 + 12 * ks.length
  na : ∀ p ∈ ks, lf p ≠ Ah
  ds : ∃ m, BF.it (stA r) m ([], [zeros n]) = (ks, ah)
section
variable {P : Program} {w : World} {K : PySem.W.Frag} {mg : Str → Option Value} {base : Heap} {cc : Nat → Addr}
abbrev s_all_steps : Stmt := top 36
theorem sc_all_steps : FnScope ["rule", "wide", "steps", "ahead", "pattern", "step"] ["rule", "wide"] (defScope s_all_steps) := ⟨rfl, rfl, rfl, by decide +kernel, rfl, by decide +kernel, by decide +kernel⟩

theorem ok_all {f : Addr} {fd : FuncData} (F : Fun K "all_steps" "all_steps" s_all_steps f fd) (T : Txt K mg) (OS : OwnS P w K mg base 5 "steps_from" ["rule", "pattern"] spSteps) : FnOk P w K mg base CX0 6 f fd ["rule", "wide"] spAll := by
  refine F.ok sc_all_steps (fun vs H Q E h => ?_) (fun cdv A outer s H vs Q E hr h => ?_)
  · obtain ⟨_, _, rfl, _⟩ := h
    rfl
  · obtain ⟨r, n, rfl, hrr, h1, h6, kq⟩ := h
    have nd := sc_all_steps.nd
    obtain ⟨mok, emul⟩ := zero_mul h1 h6
    refine ⟨_, (pss_cons (ps_set (i := 2) nd rfl (by first | exact Or.inl rfl | exact Or.inr rfl) pe_dnewK)
      (pss_cons (ps_set (i := 3) nd rfl (by first | exact Or.inl rfl | exact Or.inr rfl) (pe_lst (pa_cons (pe_op op_mul_str pe_str (pv 1)) pa_nil)))
      (pss_cons (ps_while PassesOwn.never (pt_truth (pv 3) (fun _ => rfl)) (pss_cons (ps_set (i := 4) nd rfl (by first | exact Or.inl rfl | exact Or.inr rfl) (pe_bm0 PySem.F.plainAttrs_list PySem.F.slot_list_pop PySem.F.type_list_pop mt_pop (pv 3)))
      (pss_one (ps_if (pt_cmp (pc_dnotin (hu_of hr) (pv 4) (pv 2)) (by with_unfolding_all rfl)) (pss_cons (ps_dput (hu_of hr) (pv 2) (pv 4) (pe_own OS (hr.mono (by decide)) (pa_cons (pv 0) (pa_cons (pv 4) pa_nil))) rfl)
      (pss_one (ps_expr (pe_bm PySem.F.plainAttrs_list PySem.F.slot_list_extend PySem.F.type_list_extend mt_extend (pv 3) (pa_cons (pe_lc (own := [("step", 5)]) (g := gName 5) (tt := tYes) rfl nd (pi_list (pe_dget (hu_of hr) (pv 2) (pv 4) (fun _ _ => rfl))) (blkOk_by (N := ["rule", "wide", "steps", "ahead", "pattern", "step"]) (sc := defScope s_all_steps) (by decide +kernel)) (fun _ _ _ _ _ => pg_name (i := 5) nd rfl (Or.inl rfl)) (fun _ _ _ _ _ => pts_nil) (fun _ _ _ _ _ => (pe_ix (r := rIxT K) ix_tup (pv 5) pe_int (fun _ _ => rfl)))) pa_nil))))) pss_nil))))
      (pss_one (ps_ret (pv 2)))))), ?_⟩
    refine fun S hS => ⟨_, rfl, "0", (n : Nat), rfl, rfl, mok, (show 1 ≤ sizeLine by decide), fun Ah hAh => ?_⟩
    have eS0 : (upd H S (.dK [])) S = some (.dK []) := upd_same
    have s0 : Same H (upd H S (.dK [])) := Same.new' (Same.refl _) hS
    generalize upd H S (.dK []) = H0 at *
    have nSA : S ≠ Ah := ne_of_none eS0 hAh
    have hAh0 := s0.free hAh
    have s1 : Same H (upd H0 Ah (.lst [.str (Txt.mul "0" (n : Nat))])) := Same.new' s0 hAh
    have eA : (upd H0 Ah (.lst [.str (Txt.mul "0" (n : Nat))])) Ah = some (.lst ([zeros n].map fun p => V.str (Tx p))) := by rw [upd_same, emul]; rfl
    have eS : (upd H0 Ah (.lst [.str (Txt.mul "0" (n : Nat))])) S = some (.dK []) := upd_keep hAh eS0
    generalize upd H0 Ah (.lst [.str (Txt.mul "0" (n : Nat))]) = H1 at *
    have fr0 : ∀ y o, y ≠ S → y ≠ Ah → H y = some o → H1 y = some o := fun y o _ _ q => s1 y o q
    refine ⟨fun m σ H' => ∃ ks ah lf tl x4 x5, m = (64 - ks.length) * 13 + ah.length ∧ σ = [some (.str (Tx r)), some (.int n), some (.ref S), some (.ref Ah), x4, x5] ∧ Same H H' ∧ InvA r n S Ah ks ah lf tl H', ⟨_, [], [zeros n], fun _ => 0, fun _ => [], none, none, rfl, rfl, s1, ⟨eS, eA, ⟨fun p h => (by cases h), fun p h => (by cases h)⟩, List.nodup_nil, fun p h => (by cases h), fun p h => (by rw [show p = zeros n by simpa using h]; exact bt_zero), fun p h => (by cases h), .inr (by simp), by simp, (fun p h => (by cases h)), ⟨0, rfl⟩⟩⟩, ?_⟩
    rintro m σ H2 ⟨ks, ah, lf, tl, x4, x5, rfl, rfl, s2, I⟩
    have k64 := bt_64 h6 I.nd I.k
    refine ⟨_, rfl, !(ah.map fun p => V.str (Tx p)).isEmpty, .inl ⟨_, SqL.of I.a, rfl⟩, ite2 (fun hv => ?_) (fun hv => ?_)⟩
    · have hne : ah ≠ [] := fun z => by rw [z] at hv; cases hv
      obtain ⟨ah', p, rfl⟩ : ∃ ah' p, ah = ah' ++ [p] := ⟨ah.dropLast, ah.getLast hne, (List.dropLast_concat_getLast hne).symm⟩
      have hp := I.q p (by simp)
      have hlen := I.len
      rw [List.length_append, List.length_singleton] at hlen
      refine ⟨fun σ' H' => ∃ m', m' < (64 - ks.length) * 13 + (ah' ++ [p]).length ∧ ∃ ks ah lf tl x4 x5, m' = (64 - ks.length) * 13 + ah.length ∧ σ' = [some (.str (Tx r)), some (.int n), some (.ref S), some (.ref Ah), x4, x5] ∧ Same H H' ∧ InvA r n S Ah ks ah lf tl H', fun _ _ q => q, ?_⟩
      refine ⟨_, rfl, .inl ⟨rfl, _, SqL.of I.a⟩, Ah, _, .str (Tx p), rfl, rfl, I.a, by simp, ?_⟩
      have eA3 : (upd H2 Ah (.lst ((ah' ++ [p]).map fun p => V.str (Tx p)).dropLast)) Ah = some (.lst (ah'.map fun p => V.str (Tx p))) := by rw [upd_same, List.map_append]; simp
      have f3 : ∀ y o, y ≠ Ah → H2 y = some o → (upd H2 Ah (.lst ((ah' ++ [p]).map fun p => V.str (Tx p)).dropLast)) y = some o := fun y o k q => by rw [upd_ne k]; exact q
      generalize upd H2 Ah (.lst ((ah' ++ [p]).map fun p => V.str (Tx p)).dropLast) = H3 at *
      have eS3 := f3 _ _ nSA I.d
      have ts3 : TS H2 H3 := fun y xs e => f3 y _ (fun z => by rw [z, I.a] at e; cases e) e
      have s3 : Same H H3 := fun y o q => f3 y o (fun z => by rw [z, hAh0] at q; cases q) (s2 y o q)
      have g3 : DGet H3 S (.str (Tx p)) (valV (fm ks fun p => .ref (lf p)) (Sum.inr (Tx p))) := DGet.k (k := Sum.inr (Tx p)) eS3
      refine ⟨_, rfl, _, rfl, S, _, rfl, g3, _, rfl, ite2 (fun hw => ?_) (fun hw => ?_)⟩
      · have hk : p ∉ ks := fun m => by rw [val_in _ m] at hw; cases hw
        have hpl := hp.l
        refine ⟨_, rfl, _, rfl, r, p, rfl, hrr, hp.b, by omega, by omega, fun H4 L ts s4 hL hL4 hst => ?_⟩
        have nLA : L ≠ Ah := fun z => by rw [z, eA3] at hL; cases hL
        refine ⟨_, rfl, _, rfl, S, _, rfl, DPut.k (k := Sum.inr (Tx p)) (v := .ref L) (s4 _ _ eS3) (by rw [fm_len, sizeLine_eq]; omega), ?_⟩
        rw [put_out' _ hk]
        have eS5 : (upd H4 S (.dK (fm (ks ++ [p]) fun q => if q = p then V.ref L else V.ref (lf q)))) S = some (.dK (fm (ks ++ [p]) fun q => V.ref (if q = p then L else lf q))) := by
          rw [upd_same]
          congr 2
          unfold fm
          apply List.map_congr_left
          intro q _
          show (_, if q = p then V.ref L else V.ref (lf q)) = (_, V.ref (if q = p then L else lf q))
          split <;> rfl
        have f5 : ∀ y o, y ≠ S → H4 y = some o → (upd H4 S (.dK (fm (ks ++ [p]) fun q => if q = p then V.ref L else V.ref (lf q)))) y = some o := fun y o k q => by rw [upd_ne k]; exact q
        generalize upd H4 S (.dK (fm (ks ++ [p]) fun q => if q = p then V.ref L else V.ref (lf q))) = H5 at *
        have ts5 : TS H4 H5 := fun y xs e => f5 y _ (fun z => by rw [z, s4 _ _ eS3] at e; cases e) e
        have hL5 := f5 L _ (fun z => by rw [z, eS3] at hL; cases hL) hL4
        have eA5 := f5 Ah _ (Ne.symm nSA) (s4 _ _ eA3)
        have hst5 := hst.mono ts5
        have g5 : DGet H5 S (.str (Tx p)) (some (.ref L)) := by
          have := DGet.k (k := Sum.inr (Tx p)) eS5
          rw [val_in _ (List.mem_append_right _ (List.mem_singleton.mpr rfl)), if_pos rfl] at this
          exact this
        refine ⟨_, rfl, .inl ⟨rfl, _, SqL.of eA5⟩, _, rfl, _, rfl, S, _, rfl, g5, L, rfl, ⟨_, SqL.of hL5⟩, fun Dn hDn => ?_⟩
        have tlen := hst.length
        have elen : (EE r p).length ≤ 12 := Nat.le_trans ee_len (by omega)
        refine lc_list (K := K) (a := L) (xs := ts.map V.ref) (g := gName 5) (fun i H' => Same H5 H' ∧ H' Dn = some (.lst (((EE r p).take i).map fun e => V.str (Tx e.2.2)))) ⟨Same.new' (Same.refl _) hDn, upd_same⟩ (fun i H' _ q => SqL.of (q.1 _ _ hL5)) ?_ ?_
        · rintro i y H6 hy ⟨s6, hD6⟩
          obtain ⟨T', hT, rfl⟩ : ∃ t, ts[i]? = some t ∧ y = V.ref t := by
            rw [List.getElem?_map] at hy
            cases e : ts[i]? with
            | none => rw [e] at hy; cases hy
            | some t => rw [e] at hy; exact ⟨t, rfl, (Option.some.inj hy).symm⟩
          obtain ⟨e, he, Da, hst6, _⟩ := Pd.get (hst5.mono (TS.same s6)) hT
          refine ⟨rfl, yes_rd ⟨_, rfl, T', _, _, _, rfl, rfl, SqT.of hst6, at_of (j := 3) rfl rfl, _, hD6, ?_, fun b o q => ?_, ?_⟩⟩
          · rw [List.length_map, List.length_take, sizeLine_eq]; omega
          · rw [upd_ne (ne_of_none q hDn)]; exact s6 _ _ q
          · rw [upd_same, take_succ' he, List.map_append]; rfl
        · rintro H6 ⟨s6, hD6⟩
          rw [List.length_map, tlen, List.take_length] at hD6
          have eA6 := s6 _ _ eA5
          refine ⟨Ah, Dn, _, _, rfl, rfl, eA6, hD6, by rw [List.length_map, List.length_map, sizeLine_eq]; omega, ?_⟩
          have eA7 : (upd H6 Ah (.lst ((ah'.map fun p => V.str (Tx p)) ++ (EE r p).map fun e => V.str (Tx e.2.2)))) Ah = some (.lst ((ah' ++ (EE r p).map fun e => e.2.2).map fun p => V.str (Tx p))) := by rw [upd_same, List.map_append, List.map_map]; rfl
          have f7 : ∀ y o, y ≠ Ah → H6 y = some o → (upd H6 Ah (.lst ((ah'.map fun p => V.str (Tx p)) ++ (EE r p).map fun e => V.str (Tx e.2.2)))) y = some o := fun y o k q => by rw [upd_ne k]; exact q
          generalize upd H6 Ah (.lst ((ah'.map fun p => V.str (Tx p)) ++ (EE r p).map fun e => V.str (Tx e.2.2))) = H7 at *
          have ts7 : TS H6 H7 := fun y xs e => f7 y _ (fun z => by rw [z, eA6] at e; cases e) e
          have tsAll : TS H3 H7 := (((TS.same s4).trans ts5).trans (TS.same s6)).trans ts7
          have nd' : (ks ++ [p]).Nodup := by
            rw [List.nodup_append]
            exact ⟨I.nd, by simp, fun x hx y hy => by
              have : y = p := by simpa using hy
              rw [this]
              exact fun z => hk (by rw [← z]; exact hx)⟩
          have kk : ∀ q ∈ ks ++ [p], Bt r n q := fun q hq => by
            rcases List.mem_append.mp hq with z | z
            · exact I.k q z
            · rw [show q = p by simpa using z]; exact hp
          have k65 := bt_64 h6 nd' kk
          rw [List.length_append, List.length_singleton] at k65
          have old : ∀ q ∈ ks, ∀ o, H3 (lf q) = some o → H7 (lf q) = some o := fun q hq o e => f7 _ _ (I.na q hq) (s6 _ _ (f5 _ _ (fun z => by
            have := I.b.l q hq
            rw [z, I.d] at this; cases this) (s4 _ _ e)))
          refine ⟨(64 - (ks ++ [p]).length) * 13 + (ah' ++ (EE r p).map fun e => e.2.2).length, ?_, ks ++ [p], ah' ++ (EE r p).map fun e => e.2.2, fun q => if q = p then L else lf q, fun q => if q = p then ts else tl q, _, _, rfl, rfl, fun y o q => ?_, ?_⟩
          · rw [List.length_append, List.length_append, List.length_append, List.length_map, List.length_singleton]; omega
          · exact f7 y o (fun z => by rw [z, hAh0] at q; cases q) (s6 _ _ (f5 y o (fun z => by rw [z, hS] at q; cases q) (s4 _ _ (s3 y o q))))
          · refine ⟨f7 _ _ nSA (s6 _ _ eS5), eA7, ⟨fun q hq => ?_, fun q hq => ?_⟩, nd', kk, fun q hq => ?_, fun q hq e he => ?_, ?_, ?_, (fun q hq => ?_), (by obtain ⟨m, e⟩ := I.ds; exact ⟨m + 1, by rw [BF.it_s, e, stA_snoc, if_neg hk]⟩)⟩
            · show H7 (if q = p then L else lf q) = some (.lst ((if q = p then ts else tl q).map V.ref))
              by_cases z : q = p
              · rw [if_pos z, if_pos z]; exact f7 _ _ nLA (s6 _ _ hL5)
              · rw [if_neg z, if_neg z]
                have hq' : q ∈ ks := (List.mem_append.mp hq).elim id fun m => absurd (by simpa using m) z
                exact old q hq' _ (f3 _ _ (I.na q hq') (I.b.l q hq'))
            · show StepsAt H7 q (if q = p then ts else tl q) (EE r q)
              by_cases z : q = p
              · rw [if_pos z, z]; exact (hst5.mono (TS.same s6)).mono ts7
              · rw [if_neg z]
                have hq' : q ∈ ks := (List.mem_append.mp hq).elim id fun m => absurd (by simpa using m) z
                exact ((I.b.s q hq').mono ts3).mono tsAll
            · rcases List.mem_append.mp hq with z | z
              · exact I.q q (List.mem_append_left _ z)
              · obtain ⟨e, he, rfl⟩ := List.mem_map.mp z
                exact bt_step hrr h1 h6 hp he
            · rcases List.mem_append.mp hq with z | z
              · rcases I.c q z e he with y | y
                · exact .inl (List.mem_append_left _ y)
                · rcases List.mem_append.mp y with y | y
                  · exact .inr (List.mem_append_left _ y)
                  · exact .inl (List.mem_append_right _ y)
              · rw [show q = p by simpa using z] at he
                exact .inr (List.mem_append_right _ (List.mem_map.mpr ⟨e, he, rfl⟩))
            · rcases I.z with y | y
              · exact .inl (List.mem_append_left _ y)
              · rcases List.mem_append.mp y with y | y
                · exact .inr (List.mem_append_left _ y)
                · exact .inl (List.mem_append_right _ y)
            · rw [List.length_append, List.length_append, List.length_map, List.length_singleton]; omega
            · show (if q = p then L else lf q) ≠ Ah
              by_cases z : q = p
              · rw [if_pos z]; exact nLA
              · rw [if_neg z]
                exact I.na q ((List.mem_append.mp hq).elim id fun m => absurd (by simpa using m) z)
      · have hk : p ∈ ks := Classical.byContradiction fun z => hw (by rw [val_out _ z]; rfl)
        refine ⟨(64 - ks.length) * 13 + ah'.length, by rw [List.length_append, List.length_singleton]; omega, ks, ah', lf, tl, _, x5, rfl, rfl, s3, ?_⟩
        refine ⟨eS3, eA3, ⟨fun q hq => f3 _ _ (I.na q hq) (I.b.l q hq), fun q hq => (I.b.s q hq).mono ts3⟩, I.nd, I.k, fun q hq => I.q q (List.mem_append_left _ hq), fun q hq e he => ?_, ?_, by omega, I.na, (by obtain ⟨m, e⟩ := I.ds; exact ⟨m + 1, by rw [BF.it_s, e, stA_snoc, if_pos hk]⟩)⟩
        · rcases I.c q hq e he with z | z
          · exact .inl z
          · rcases List.mem_append.mp z with z | z
            · exact .inr z
            · exact .inl (by rw [show e.2.2 = p by simpa using z]; exact hk)
        · rcases I.z with z | z
          · exact .inl z
          · rcases List.mem_append.mp z with z | z
            · exact .inr z
            · exact .inl (by rw [show zeros n = p by simpa using z]; exact hk)
    · have hne : ah = [] := by
        cases ah with
        | nil => rfl
        | cons a b => exact absurd rfl hv
      subst hne
      have ks0 : zeros n ∈ ks := I.z.elim id fun z => by cases z
      exact ⟨_, rfl, kq H2 S ks lf tl s2 hS I.d I.b ⟨hrr, I.nd, k64, List.ne_nil_of_mem ks0, fun p hp => ⟨(I.k p hp).b, by rw [(I.k p hp).l]; exact h1, by rw [(I.k p hp).l]; exact h6⟩, fun p hp e he => (I.c p hp e he).elim id fun z => by cases z⟩ ks0 I.k I.ds⟩
end
/-! ### worst, purse -/
theorem pd_of {H H' : Hp} {c : List Nat → Int} (f : ∀ a p, H a = some (.tup [.str (Tx p), .int (c p)]) → H' a = some (.tup [.str (Tx p), .int (c p)])) : ∀ {us : List Addr} {ks : List (List Nat)}, Paired (fun (t : Addr) (q : Key × V) => H t = some (.tup [kV q.1, q.2])) us (fm ks (coinV c)) → Paired (fun t p => H' t = some (.tup [.str (Tx p), .int (c p)])) us ks
  | us, [], h => by
    cases h
    exact .nil
  | us, p :: ks, h => by
    cases h with
    | cons a b => exact .cons (f _ _ a) (pd_of f b)

/-- what is found, out of any heap -/
structure Res (r : List Nat) (n : Nat) (ks : List (List Nat)) (mv dn : Nat) (es : List Ed) (x : List Nat) (c : List Nat → Int) : Prop where
  ok : GrOk r ks
  z : zeros n ∈ ks
  k : ∀ p ∈ ks, Bt r n p
  pot : Pot r ks mv dn c
  w : BF.Walk (GG r ks mv dn) x es x
  l : 1 ≤ es.length
  l64 : es.length ≤ 64
  e : mSum es * (dn : Int) = (mv : Int) * (es.length : Int)
  d : 1 ≤ dn
  d64 : dn ≤ 64
  m6 : mv ≤ 6 * dn
  g : Nat.gcd mv dn = 1
  rd : ResD r n ks mv dn es x c
def spWorst : Sp := fun vs H Q _ => ∃ (r : List Nat) (n : Nat), vs = [.str (Tx r), .int n] ∧ r ∈ rules ∧ 1 ≤ n ∧ n ≤ 6 ∧
  ∀ H' R L (mv dn : Nat) as es x ks c, Same H H' → H R = none → H' R = some (.tup [.int mv, .int dn, .str (Tx x), .ref L]) → H L = none → H' L = some (.lst (as.map V.ref)) → Tups H' as (es.map fun e => e.1) → Res r n ks mv dn es x c → Q (.ref R) H'
def spPurse : Sp := fun vs H Q _ => ∃ (r : List Nat) (n : Nat), vs = [.str (Tx r), .int n] ∧ r ∈ rules ∧ 1 ≤ n ∧ n ≤ 6 ∧
  ∀ H' R L (mv dn : Nat) ts es x ks c, Same H H' → H R = none → H' R = some (.tup [.int mv, .int dn, .ref L]) → H L = none → H' L = some (.lst (ts.map V.ref)) → Paired (fun t p => H' t = some (.tup [.str (Tx p), .int (c p)])) ts ks → Res r n ks mv dn es x c → Q (.ref R) H'
theorem path_deeds {H : Hp} : ∀ {ts : List Addr} {es : List Ed} {p : List Nat}, PathAt H p ts es → ∃ das : List Addr, das.length = ts.length ∧ Tups H das (es.map fun e => e.1) ∧ ∀ (i : Nat) (T : Addr), ts[i]? = some T → ∃ (D : Addr) (q : List Nat) (e : Ed), das[i]? = some D ∧ H T = some (.tup [.str (Tx q), .ref D, .int e.2.1, .str (Tx e.2.2)])
  | [], [], _, _ => ⟨[], rfl, .nil, fun i T h => by simp at h⟩
  | T' :: ts, e :: es, p, h => by
    obtain ⟨Da, a, b⟩ := h.1
    obtain ⟨das, h1, h2, h3⟩ := path_deeds (ts := ts) (es := es) h.2
    refine ⟨Da :: das, by rw [List.length_cons, List.length_cons, h1], .cons b h2, fun i T hT => ?_⟩
    cases i with
    | zero => cases hT; exact ⟨Da, p, e, rfl, a⟩
    | succ i => exact h3 i T (by simpa using hT)
  | [], _ :: _, _, h => h.elim
  | _ :: _, [], _, h => h.elim
section
variable {P : Program} {w : World} {K : PySem.W.Frag} {mg : Str → Option Value} {base : Heap} {cc : Nat → Addr}
abbrev s_worst : Stmt := top 35
theorem sc_worst : FnScope ["rule", "wide", "moves", "deeds", "around", "coins", "step"] ["rule", "wide"] (defScope s_worst) := ⟨rfl, rfl, rfl, by decide +kernel, rfl, by decide +kernel, by decide +kernel⟩

theorem ok_worst {f : Addr} {fd : FuncData} (F : Fun K "worst" "worst" s_worst f fd) (T : Txt K mg) (OR : Own P w K mg base cc 1 "check_rule" ["rule"] c_check_rule) (OW : Own P w K mg base cc 1 "check_width" ["wide"] c_check_width) (OAl : OwnS P w K mg base 6 "all_steps" ["rule", "wide"] spAll) (OL : OwnS P w K mg base 3 "long_run" ["steps"] spLong) : FnOk P w K mg base CX0 7 f fd ["rule", "wide"] spWorst := by
  refine F.ok sc_worst (fun vs H Q E h => ?_) (fun cdv A outer s H vs Q E hr h => ?_)
  · obtain ⟨_, _, rfl, _⟩ := h
    rfl
  · obtain ⟨r, n, rfl, hrr, h1, h6, kq⟩ := h
    have nd := sc_worst.nd
    refine ⟨_, (pss_cons (ps_expr (pe_own OR (hr.mono (by decide)) (pa_cons (pv 0) pa_nil)))
      (pss_cons (ps_expr (pe_own OW (hr.mono (by decide)) (pa_cons (pv 1) pa_nil)))
      (pss_cons (ps_asg (pe_own OL (hr.mono (by decide)) (pa_cons (pe_own OAl (hr.mono (by decide)) (pa_cons (pv 0) (pa_cons (pv 1) pa_nil))) pa_nil)) (pg_tup rfl (pgs_cons (pg_name (i := 2) nd rfl (by first | exact Or.inl rfl | exact Or.inr rfl)) (pgs_cons (pg_name (i := 3) nd rfl (by first | exact Or.inl rfl | exact Or.inr rfl)) (pgs_cons (pg_name (i := 4) nd rfl (by first | exact Or.inl rfl | exact Or.inr rfl)) (pgs_cons (pg_name (i := 5) nd rfl (by first | exact Or.inl rfl | exact Or.inr rfl)) pgs_nil))))))
      (pss_one (ps_ret (pe_tup (pa_cons (pv 2) (pa_cons (pv 3) (pa_cons (pe_ix (r := rIxT K) ix_tup (pe_ix (r := rIxL K) ix_list (pv 4) pe_int (fun _ _ => rfl)) pe_int (fun _ _ => rfl)) (pa_cons (pe_lc (own := [("step", 6)]) (g := gName 6) (tt := tYes) rfl nd (pi_list (pv 4)) (blkOk_by (N := ["rule", "wide", "moves", "deeds", "around", "coins", "step"]) (sc := defScope s_worst) (by decide +kernel)) (fun _ _ _ _ _ => pg_name (i := 6) nd rfl (Or.inl rfl)) (fun _ _ _ _ _ => pts_nil) (fun _ _ _ _ _ => (pe_ix (r := rIxT K) ix_tup (pv 6) pe_int (fun _ _ => rfl)))) pa_nil)))))))))), ?_⟩
    obtain ⟨hR, eR, kR⟩ := goodR_of hrr
    refine ⟨_, rfl, sp_keeps (cc := cc) (E := E0) HR.nil (.cons (rvS r) .nil) eR kR fun η1 H1 v1 s1 _ R1 rv1 => ?_⟩
    obtain ⟨hW, eW, kW⟩ := goodW_of h1 h6
    refine ⟨_, rfl, sp_keeps (cc := cc) (E := E0) HR.nil (.cons (rvI _) .nil) eW kW fun η2 H2 v2 s2 _ R2 rv2 => ?_⟩
    refine ⟨_, rfl, _, rfl, r, n, rfl, hrr, h1, h6, fun H3 S ks lf tl s3 hS hS3 gb ok hz hk hds => ?_⟩
    refine ⟨S, r, ks, lf, tl, rfl, ok, hS3, gb, fun H4 R mv dn Ar Cd ts es x c s4 hR hR4 hC pot fnd lgx => ?_⟩
    refine ⟨R, _, rfl, SqT.of hR4, rfl, _, _, rfl, _, _, rfl, _, _, rfl, _, _, rfl, rfl, ?_⟩
    have s04 := ((s1.trans s2).trans s3).trans s4
    have res : Res r n ks mv dn es x c := ⟨ok, hz, hk, pot, fnd.w, fnd.l, fnd.l64, fnd.e, fnd.d, fnd.d64, fnd.m6, fnd.g, hds, lgx⟩
    obtain ⟨das, dl, dt, dg⟩ := path_deeds fnd.p
    have tlen := fnd.p.len
    obtain ⟨T0, hT0⟩ : ∃ T, ts[0]? = some T := ⟨_, List.getElem?_eq_getElem (by have := fnd.l; omega)⟩
    have first : ∃ rest, H4 T0 = some (.tup (.str (Tx x) :: rest)) := by
      have hp := fnd.p
      cases ts with
      | nil => simp at hT0
      | cons T1 ts =>
        cases es with
        | nil => exact hp.elim
        | cons e es =>
          cases hT0
          obtain ⟨Da, a, b⟩ := hp.1
          exact ⟨_, a⟩
    obtain ⟨rest, hT⟩ := first
    refine ⟨_, rfl, _, rfl, _, rfl, Ar, _, _, .ref T0, rfl, rfl, SqL.of fnd.a, at_of (j := 0) rfl (by rw [List.getElem?_map, hT0]; rfl), T0, _, _, _, rfl, rfl, SqT.of hT, at_of (j := 0) rfl rfl, ?_⟩
    refine ⟨_, rfl, Ar, rfl, ⟨_, SqL.of fnd.a⟩, fun L hL => ?_⟩
    refine lc_list (K := K) (a := Ar) (xs := ts.map V.ref) (g := gName 6) (fun i H' => Same H4 H' ∧ H' L = some (.lst ((das.take i).map V.ref))) ⟨Same.new' (Same.refl _) hL, upd_same⟩ (fun i H' _ q => SqL.of (q.1 _ _ fnd.a)) ?_ ?_
    · rintro i y H5 hy ⟨s5, hL5⟩
      obtain ⟨T', hT', rfl⟩ : ∃ t, ts[i]? = some t ∧ y = V.ref t := by
        rw [List.getElem?_map] at hy
        cases e : ts[i]? with
        | none => rw [e] at hy; cases hy
        | some t => rw [e] at hy; exact ⟨t, rfl, (Option.some.inj hy).symm⟩
      obtain ⟨D, q, e, hD, hst⟩ := dg i T' hT'
      have hi := (List.getElem?_eq_some_iff.mp hT').1
      have l64 := fnd.l64
      refine ⟨rfl, yes_rd ⟨_, rfl, T', _, _, _, rfl, rfl, SqT.of (s5 _ _ hst), at_of (j := 1) rfl rfl, _, hL5, ?_, fun b o q => ?_, ?_⟩⟩
      · rw [List.length_map, List.length_take, sizeLine_eq]; omega
      · rw [upd_ne (ne_of_none q hL)]; exact s5 _ _ q
      · rw [upd_same, take_succ' hD, List.map_append]; rfl
    · rintro H5 ⟨s5, hL5⟩
      rw [List.length_map, ← dl, List.take_length] at hL5
      refine ⟨(show 4 ≤ sizeLine by decide), fun R' hR' => ?_⟩
      have s45 := s04.trans s5
      have s6 := Same.new' (o := .tup [.int mv, .int dn, .str (Tx x), .ref L]) s45 hR'
      exact kq _ R' L mv dn das es x ks c s6 (s45.free hR') upd_same (s04.free hL) (upd_keep hR' hL5) ((dt.mono (TS.same s5)).mono (TS.same (Same.new' (Same.refl _) hR'))) res
abbrev s_purse : Stmt := top 44
theorem sc_purse : FnScope ["rule", "wide", "moves", "deeds", "around", "coins"] ["rule", "wide"] (defScope s_purse) := ⟨rfl, rfl, rfl, by decide +kernel, rfl, by decide +kernel, by decide +kernel⟩

theorem ok_purse {f : Addr} {fd : FuncData} (F : Fun K "purse" "purse" s_purse f fd) (T : Txt K mg) (OR : Own P w K mg base cc 1 "check_rule" ["rule"] c_check_rule) (OW : Own P w K mg base cc 1 "check_width" ["wide"] c_check_width) (OAl : OwnS P w K mg base 6 "all_steps" ["rule", "wide"] spAll) (OL : OwnS P w K mg base 3 "long_run" ["steps"] spLong) : FnOk P w K mg base CX0 7 f fd ["rule", "wide"] spPurse := by
  refine F.ok sc_purse (fun vs H Q E h => ?_) (fun cdv A outer s H vs Q E hr h => ?_)
  · obtain ⟨_, _, rfl, _⟩ := h
    rfl
  · obtain ⟨r, n, rfl, hrr, h1, h6, kq⟩ := h
    have nd := sc_purse.nd
    refine ⟨_, (pss_cons (ps_expr (pe_own OR (hr.mono (by decide)) (pa_cons (pv 0) pa_nil)))
      (pss_cons (ps_expr (pe_own OW (hr.mono (by decide)) (pa_cons (pv 1) pa_nil)))
      (pss_cons (ps_asg (pe_own OL (hr.mono (by decide)) (pa_cons (pe_own OAl (hr.mono (by decide)) (pa_cons (pv 0) (pa_cons (pv 1) pa_nil))) pa_nil)) (pg_tup rfl (pgs_cons (pg_name (i := 2) nd rfl (by first | exact Or.inl rfl | exact Or.inr rfl)) (pgs_cons (pg_name (i := 3) nd rfl (by first | exact Or.inl rfl | exact Or.inr rfl)) (pgs_cons (pg_name (i := 4) nd rfl (by first | exact Or.inl rfl | exact Or.inr rfl)) (pgs_cons (pg_name (i := 5) nd rfl (by first | exact Or.inl rfl | exact Or.inr rfl)) pgs_nil))))))
      (pss_one (ps_ret (pe_tup (pa_cons (pv 2) (pa_cons (pv 3) (pa_cons (LiI.pe_listItems rfl (pv 5) (by rfl) T.n_list boot_listQ) pa_nil))))))))), ?_⟩
    obtain ⟨hR, eR, kR⟩ := goodR_of hrr
    refine ⟨_, rfl, sp_keeps (cc := cc) (E := E0) HR.nil (.cons (rvS r) .nil) eR kR fun η1 H1 v1 s1 _ R1 rv1 => ?_⟩
    obtain ⟨hW, eW, kW⟩ := goodW_of h1 h6
    refine ⟨_, rfl, sp_keeps (cc := cc) (E := E0) HR.nil (.cons (rvI _) .nil) eW kW fun η2 H2 v2 s2 _ R2 rv2 => ?_⟩
    refine ⟨_, rfl, _, rfl, r, n, rfl, hrr, h1, h6, fun H3 S ks lf tl s3 hS hS3 gb ok hz hk hds => ?_⟩
    refine ⟨S, r, ks, lf, tl, rfl, ok, hS3, gb, fun H4 R mv dn Ar Cd ts es x c s4 hR hR4 hC pot fnd lgx => ?_⟩
    refine ⟨R, _, rfl, SqT.of hR4, rfl, _, _, rfl, _, _, rfl, _, _, rfl, _, _, rfl, rfl, ?_⟩
    have s04 := ((s1.trans s2).trans s3).trans s4
    have res : Res r n ks mv dn es x c := ⟨ok, hz, hk, pot, fnd.w, fnd.l, fnd.l64, fnd.e, fnd.d, fnd.d64, fnd.m6, fnd.g, hds, lgx⟩
    refine ⟨_, rfl, _, rfl, _, rfl, Cd, _, rfl, hC, fun H5 L us s5 hL hus nL hL5 hpd => ⟨(show 3 ≤ sizeLine by decide), fun R' hR' => ?_⟩⟩
    have s05 : Same H H5 := s04.trans s5
    have s6 := Same.new' (o := .tup [.int mv, .int dn, .ref L]) s05 hR'
    have s56 : Same H5 (upd H5 R' (.tup [.int mv, .int dn, .ref L])) := Same.new' (Same.refl _) hR'
    refine kq _ R' L mv dn us es x ks c s6 (s05.free hR') upd_same (s04.free hL) (upd_keep hR' hL5) ?_ res
    exact pd_of (fun a p q => s56 _ _ q) hpd
end
end CK

namespace CK
open PySem L2 PyProof.Rows
/-! ### ways of laying -/
theorem dif_le : ∀ a b : List Int, dif a b ≤ a.length
  | [], _ => by unfold dif; simp
  | _ :: _, [] => by unfold dif; simp
  | a :: as, b :: bs => by
    have := dif_le as bs
    have e : dif (a :: as) (b :: bs) = match a == b with | true => dif as bs | false => dif as bs + 1 := rfl
    rw [e, List.length_cons]
    cases a == b
    · show dif as bs + 1 ≤ _; omega
    · show dif as bs ≤ _; omega
theorem dif_zip : ∀ a b : List Int, dif a b = ((a.zip b).filter fun x => !(x.1 == x.2)).length
  | [], _ => by unfold dif; simp
  | _ :: _, [] => by unfold dif; simp
  | a :: as, b :: bs => by
    show (match a == b with | true => dif as bs | false => dif as bs + 1) = _
    rw [dif_zip as bs, List.zip_cons_cons, List.filter_cons]
    cases h : a == b <;> simp [h]
inductive Way (w : Nat) : List Deed → List (List Nat) → List Nat → Int → Prop
  | nil : Way w [] [] (zeros w) 0
  | snoc {ds : List Deed} {qs : List (List Nat)} {p : List Nat} {m : Int} {d : Deed} {q : List Nat} {c : Int} : Way w ds qs p m → isBits q = true → q.length = w → costM p q d = some c → Way w (ds ++ [d]) (qs ++ [q]) q (m + c)
theorem cost_le {p q : List Nat} {d : Deed} {c : Int} (h : costM p q d = some c) : 0 ≤ c ∧ c ≤ many p := by
  unfold costM at h
  split at h
  · split at h
    · cases h; omega
    · cases h
  · split at h
    · cases h
      have := dif_le (pl p) (cut (pl q) d.2)
      rw [pl_len] at this
      omega
    · cases h
theorem way_ok {w : Nat} {ds : List Deed} {qs : List (List Nat)} {p : List Nat} {m : Int} (h : Way w ds qs p m) (h6 : w ≤ 6) : isBits p = true ∧ p.length = w ∧ qs.length = ds.length ∧ 0 ≤ m ∧ m ≤ 6 * (ds.length : Int) := by
  induction h with
  | nil =>
    obtain ⟨a, b, c⟩ := zeros_ok w
    exact ⟨a, c, rfl, by omega, by simp⟩
  | snoc h b l c ih =>
    obtain ⟨i1, i2, i3, i4, i5⟩ := ih
    obtain ⟨c1, c2⟩ := cost_le c
    have := many_le (by assumption : List Nat)
    rename_i ds0 qs0 p0 m0 d0 q0 c0
    have := many_le p0
    refine ⟨b, l, by rw [List.length_append, List.length_append, i3]; rfl, by omega, ?_⟩
    rw [List.length_append, List.length_singleton]
    omega
theorem way_inv {w : Nat} {ds : List Deed} {d : Deed} {qs : List (List Nat)} {q : List Nat} {m : Int} (h : Way w (ds ++ [d]) qs q m) : ∃ qs' p m' c, Way w ds qs' p m' ∧ qs = qs' ++ [q] ∧ isBits q = true ∧ q.length = w ∧ costM p q d = some c ∧ m = m' + c := by
  generalize e : ds ++ [d] = es at h
  cases h with
  | nil => simp at e
  | snoc h b l c =>
    obtain ⟨e1, e2⟩ := List.append_inj' e rfl
    cases e2
    subst e1
    exact ⟨_, _, _, _, h, rfl, b, l, c, rfl⟩
theorem way_nil {w : Nat} {qs : List (List Nat)} {q : List Nat} {m : Int} (h : Way w [] qs q m) : qs = [] ∧ q = zeros w ∧ m = 0 := by
  generalize e : ([] : List Deed) = es at h
  cases h with
  | nil => exact ⟨rfl, rfl, rfl⟩
  | snoc h b l c => simp at e
theorem way_fn {w : Nat} {ds : List Deed} {qs : List (List Nat)} {p : List Nat} {m : Int} (h : Way w ds qs p m) : ∀ {p' : List Nat} {m' : Int}, Way w ds qs p' m' → p = p' ∧ m = m' := by
  induction h with
  | nil => intro p' m' h'; obtain ⟨_, a, b⟩ := way_nil h'; exact ⟨a.symm, b.symm⟩
  | snoc h b l c ih =>
    intro p' m' h'
    obtain ⟨qs', p2, m2, c2, k1, k2, _, _, k3, k4⟩ := way_inv h'
    obtain ⟨e1, e2⟩ := List.append_inj' k2 rfl
    cases e2
    subst e1
    obtain ⟨e3, e4⟩ := ih k1
    subst e3 e4
    rw [c] at k3
    cases k3
    exact ⟨rfl, k4.symm⟩
theorem way_at {w : Nat} {ds : List Deed} {qs : List (List Nat)} {p : List Nat} {m : Int} (h : Way w ds qs p m) (h6 : w ≤ 6) : ∀ {i : Nat} {q : List Nat} {d : Deed}, qs[i]? = some q → ds[i]? = some d → ∃ p' m' c, Way w (ds.take i) (qs.take i) p' m' ∧ isBits q = true ∧ q.length = w ∧ costM p' q d = some c ∧ Way w (ds.take (i + 1)) (qs.take (i + 1)) q (m' + c) := by
  induction h with
  | nil => intro i q d a b; simp at a
  | snoc h b l c ih =>
    rename_i ds0 qs0 p0 m0 d0 q0 c0
    intro i q d a e
    have el := (way_ok h h6).2.2.1
    by_cases hi : i < qs0.length
    · rw [List.getElem?_append_left hi] at a
      rw [List.getElem?_append_left (by omega)] at e
      rw [List.take_append_of_le_length (by omega), List.take_append_of_le_length (by omega), List.take_append_of_le_length (by omega), List.take_append_of_le_length (by omega)]
      exact ih a e
    · have hi' : i = qs0.length := by
        have := (List.getElem?_eq_some_iff.mp a).1
        rw [List.length_append, List.length_singleton] at this
        omega
      subst hi'
      rw [List.getElem?_append_right (Nat.le_refl _), Nat.sub_self] at a
      rw [el, List.getElem?_append_right (Nat.le_refl _), Nat.sub_self] at e
      cases a
      cases e
      refine ⟨p0, m0, c0, ?_, b, l, c, ?_⟩
      · rw [List.take_append_of_le_length (Nat.le_refl _), List.take_length, el, List.take_append_of_le_length (Nat.le_refl _), List.take_length]
        exact h
      · have e1 : (qs0 ++ [q0]).take (qs0.length + 1) = qs0 ++ [q0] := List.take_of_length_le (by rw [List.length_append]; exact Nat.le_refl _)
        have e2 : (ds0 ++ [d0]).take (qs0.length + 1) = ds0 ++ [d0] := List.take_of_length_le (by rw [List.length_append, el]; exact Nat.le_refl _)
        rw [e1, e2]
        exact Way.snoc h b l c
theorem cut_len {l : List Int} {r : Nat} (h : r < l.length) : (cut l r).length + 1 = l.length := by
  unfold cut
  rw [List.length_append, List.length_take, List.length_drop]
  omega
theorem cost_many {w k : Nat} {p q : List Nat} {d : Deed} {c : Int} (h : costM p q d = some c) (s : step1 w (many p) d = some k) : many q = k := by
  obtain ⟨b, r⟩ := d
  cases b with
  | false =>
    have h : (match ileq (cut (pl p) r) (pl q) with | true => some (0 : Int) | false => none) = some c := h
    have s : (if r < many p then some (many p - 1) else none) = some k := s
    split at h
    · rename_i e
      have e := ileq_eq e
      split at s
      · rename_i hr
        cases s
        have := cut_len (l := pl p) (r := r) (by rw [pl_len]; exact hr)
        rw [e, pl_len, pl_len] at this
        omega
      · cases s
    · cases h
  | true =>
    have h : (match Nat.beq (many q) (many p + 1) with | true => some ((dif (pl p) (cut (pl q) r) : Nat) : Int) | false => none) = some c := h
    have s : (if r ≤ many p ∧ many p < w then some (many p + 1) else none) = some k := s
    split at h
    · rename_i e
      have e := Nat.eq_of_beq_eq_true e
      split at s
      · cases s; exact e
      · cases s
    · cases h
theorem cnt_inv {w : Nat} {d : Deed} {k : Nat} : ∀ {ds : List Deed} {n : Nat}, cnt w n (ds ++ [d]) = some k → ∃ m, cnt w n ds = some m ∧ step1 w m d = some k
  | [], n, h => by
    have h : (match step1 w n d with | some m => some m | none => none) = some k := h
    cases q : step1 w n d with
    | none => rw [q] at h; cases h
    | some m => rw [q] at h; exact ⟨n, rfl, by rw [q]; exact h⟩
  | e :: ds, n, h => by
    have h : (match step1 w n e with | some m => cnt w m (ds ++ [d]) | none => none) = some k := h
    cases q : step1 w n e with
    | none => rw [q] at h; cases h
    | some m =>
      rw [q] at h
      obtain ⟨m', a, b⟩ := cnt_inv (ds := ds) h
      refine ⟨m', ?_, b⟩
      show (match step1 w n e with | some m => cnt w m ds | none => none) = some m'
      rw [q]; exact a
theorem way_many {w : Nat} {ds : List Deed} {qs : List (List Nat)} {p : List Nat} {m : Int} (h : Way w ds qs p m) : ∀ {n : Nat}, cnt w 0 ds = some n → many p = n := by
  induction h with
  | nil => intro n e; cases e; exact (zeros_ok w).2.1
  | snoc h b l c ih =>
    intro n e
    obtain ⟨k, k1, k2⟩ := cnt_inv e
    have := ih k1
    subst this
    exact cost_many c k2
theorem snoc_of {α : Type} : ∀ l : List α, l ≠ [] → ∃ es d, l = es ++ [d]
  | [], h => absurd rfl h
  | [a], _ => ⟨[], a, rfl⟩
  | a :: b :: l, _ => by
    obtain ⟨es, d, e⟩ := snoc_of (b :: l) (by simp)
    exact ⟨a :: es, d, by rw [e]; rfl⟩
/-- what a rule does is a way -/
theorem way_run {r : List Nat} {w : Nat} (hr : r ∈ rules) (h1 : 1 ≤ w) (h6 : w ≤ 6) : ∀ (n : Nat) (ds : List Deed) (k : Nat), ds.length = n → cnt w 0 ds = some k → ∃ qs, Way w ds qs (runM r (zeros w) ds).2 (runM r (zeros w) ds).1.sum
  | 0, ds, k, hn, hc => by
    rw [List.length_eq_zero_iff.mp hn]
    exact ⟨[], Way.nil⟩
  | n + 1, ds, k, hn, hc => by
    obtain ⟨es, d, e⟩ := snoc_of ds (fun z => by rw [z] at hn; cases hn)
    subst e
    obtain ⟨m, c1, c2⟩ := cnt_inv hc
    rw [List.length_append, List.length_singleton] at hn
    obtain ⟨qs, ih⟩ := way_run hr h1 h6 n es m (by omega) c1
    obtain ⟨zb, zm, zl⟩ := zeros_ok w
    obtain ⟨pb, pll, pm⟩ := run_state hr h1 h6 es zb zl (by rw [zm]; exact c1)
    have g := good_step (d := d) hr pb (by omega) (by omega) (by rw [pll, pm]; exact c2)
    rw [runM_snoc]
    refine ⟨qs ++ [(stepM r (runM r (zeros w) es).2 d).2], ?_⟩
    have := Way.snoc ih g.bits (g.len.trans pll) g.cost
    rw [List.sum_append]
    simpa using this
/-! ### the best behind some deeds -/
abbrev BV := List Nat → Int × List (List Nat)
structure Bst (w : Nat) (ds : List Deed) (ks : List (List Nat)) (f : BV) : Prop where
  nd : ks.Nodup
  so : ∀ p ∈ ks, Way w ds (f p).2 p (f p).1
  co : ∀ qs p m, Way w ds qs p m → p ∈ ks ∧ (f p).1 ≤ m
theorem bst0 (w : Nat) (f : BV) (h : f (zeros w) = (0, [])) : Bst w [] [zeros w] f := by
  refine ⟨by simp, fun p hp => ?_, fun qs p m hw => ?_⟩
  · rw [show p = zeros w by simpa using hp, h]; exact Way.nil
  · obtain ⟨_, a, b⟩ := way_nil hw
    rw [a, b, h]
    exact ⟨by simp, Int.le_refl _⟩
/-- among what is done so far -/
structure Mid (w : Nat) (d : Deed) (ks0 : List (List Nat)) (f0 : BV) (Dn : List Nat → Int → List Nat → Prop) (ks : List (List Nat)) (f : BV) : Prop where
  nd : ks.Nodup
  so : ∀ q ∈ ks, isBits q = true ∧ q.length = w ∧ ∃ p c, p ∈ ks0 ∧ costM p q d = some c ∧ f q = ((f0 p).1 + c, (f0 p).2 ++ [q])
  co : ∀ p c q, Dn p c q → q ∈ ks ∧ (f q).1 ≤ (f0 p).1 + c
section
variable {w : Nat} {d : Deed} {ks0 : List (List Nat)} {f0 : BV} {Dn : List Nat → Int → List Nat → Prop} {ks : List (List Nat)} {f : BV}
theorem Mid.imp {Dn' : List Nat → Int → List Nat → Prop} (M : Mid w d ks0 f0 Dn ks f) (h : ∀ p c q, Dn' p c q → Dn p c q) : Mid w d ks0 f0 Dn' ks f := ⟨M.nd, M.so, fun p c q z => M.co p c q (h p c q z)⟩
theorem mid0 (f : BV) : Mid w d ks0 f0 (fun _ _ _ => False) [] f := ⟨List.nodup_nil, (fun _ h => by cases h), fun _ _ _ h => h.elim⟩
def putF (f : BV) (q : List Nat) (v : Int × List (List Nat)) : BV := fun x => if x = q then v else f x
theorem putF_same {q : List Nat} {v : Int × List (List Nat)} : putF f q v q = v := by unfold putF; rw [if_pos rfl]
theorem putF_ne {q x : List Nat} {v : Int × List (List Nat)} (h : x ≠ q) : putF f q v x = f x := by unfold putF; rw [if_neg h]
theorem mid_put (M : Mid w d ks0 f0 Dn ks f) {p q : List Nat} {c : Int} (hp : p ∈ ks0) (hc : costM p q d = some c) (hb : isBits q = true) (hl : q.length = w) {ks' : List (List Nat)} (nd : ks'.Nodup) (sub : ∀ x, x ∈ ks' ↔ x ∈ ks ∨ x = q) (lt : q ∉ ks ∨ (f0 p).1 + c < (f q).1) :
    Mid w d ks0 f0 (fun a b e => Dn a b e ∨ (a = p ∧ b = c ∧ e = q)) ks' (putF f q ((f0 p).1 + c, (f0 p).2 ++ [q])) := by
  refine ⟨nd, fun x hx => ?_, fun a b e h => ?_⟩
  · by_cases z : x = q
    · subst z
      rw [putF_same]
      exact ⟨hb, hl, p, c, hp, hc, rfl⟩
    · rw [putF_ne z]
      exact M.so x (((sub x).mp hx).elim id fun y => absurd y z)
  · rcases h with h | ⟨rfl, rfl, rfl⟩
    · obtain ⟨h1, h2⟩ := M.co a b e h
      refine ⟨(sub e).mpr (.inl h1), ?_⟩
      by_cases z : e = q
      · subst z
        rw [putF_same]
        rcases lt with y | y
        · exact absurd h1 y
        · show (f0 p).1 + c ≤ _
          omega
      · rw [putF_ne z]; exact h2
    · exact ⟨(sub e).mpr (.inr rfl), by rw [putF_same]; exact Int.le_refl _⟩
theorem mid_skip (M : Mid w d ks0 f0 Dn ks f) {p q : List Nat} {c : Int} (hq : q ∈ ks) (ge : ¬ (f0 p).1 + c < (f q).1) : Mid w d ks0 f0 (fun a b e => Dn a b e ∨ (a = p ∧ b = c ∧ e = q)) ks f := by
  refine ⟨M.nd, M.so, fun a b e h => ?_⟩
  rcases h with h | ⟨rfl, rfl, rfl⟩
  · exact M.co a b e h
  · exact ⟨hq, by omega⟩
theorem mid_end {ds : List Deed} (B : Bst w ds ks0 f0) (M : Mid w d ks0 f0 Dn ks f) (all : ∀ p c q, p ∈ ks0 → isBits q = true → q.length = w → costM p q d = some c → Dn p c q) : Bst w (ds ++ [d]) ks f := by
  refine ⟨M.nd, fun q hq => ?_, fun qs q m h => ?_⟩
  · obtain ⟨hb, hl, p, c, hp, hc, e⟩ := M.so q hq
    rw [e]
    exact Way.snoc (B.so p hp) hb hl hc
  · obtain ⟨qs', p, m', c, h1, _, hb, hl, hc, rfl⟩ := way_inv h
    obtain ⟨k1, k2⟩ := B.co _ _ _ h1
    obtain ⟨k3, k4⟩ := M.co p c q (all p c q k1 hb hl hc)
    exact ⟨k3, by omega⟩
end
theorem nodup_le2 {β : Type} [DecidableEq β] : ∀ {xs ks : List β}, xs.Nodup → (∀ x ∈ xs, x ∈ ks) → xs.length ≤ ks.length
  | [], _, _, _ => Nat.zero_le _
  | x :: xs, ks, nd, h => by
    have nd' := List.nodup_cons.mp nd
    have hx := h x List.mem_cons_self
    have ih := nodup_le2 (xs := xs) (ks := ks.erase x) nd'.2 fun y hy => by
      have hne : y ≠ x := fun z => nd'.1 (z ▸ hy)
      exact (List.mem_erase_of_ne hne).mpr (h y (List.mem_cons_of_mem _ hy))
    have l := List.length_erase_of_mem hx
    have : 0 < ks.length := List.length_pos_of_mem hx
    rw [List.length_cons]
    omega
theorem bits_len (n : Nat) : (bits n).length = 2 ^ n := by
  induction n with
  | zero => rfl
  | succ n ih => show ((bits n).map _ ++ (bits n).map _).length = _; rw [List.length_append, List.length_map, List.length_map, ih, Nat.pow_succ]; omega
theorem pow_le {w : Nat} (h6 : w ≤ 6) : 2 ^ w ≤ 64 := Nat.le_trans (Nat.pow_le_pow_right (by decide) h6) (by decide)
theorem ks_le {w : Nat} (h6 : w ≤ 6) {ks : List (List Nat)} (nd : ks.Nodup) (h : ∀ p ∈ ks, isBits p = true ∧ p.length = w) : ks.length ≤ 64 := by
  have := nodup_le2 nd (ks := bits w) fun p hp => by obtain ⟨a, b⟩ := h p hp; rw [← b]; exact bits_mem a
  rw [bits_len] at this
  exact Nat.le_trans this (pow_le h6)
/-- the least of two -/
theorem bst_eq {w : Nat} {ds : List Deed} {ks ks' : List (List Nat)} {f f' : BV} (B : Bst w ds ks f) (B' : Bst w ds ks' f') {p p' : List Nat} (hp : p ∈ ks) (hp' : p' ∈ ks') (le : ∀ q ∈ ks, (f p).1 ≤ (f q).1) (le' : ∀ q ∈ ks', (f' p').1 ≤ (f' q).1) : (f p).1 = (f' p').1 := by
  obtain ⟨a, b⟩ := B'.co _ _ _ (B.so p hp)
  obtain ⟨a', b'⟩ := B.co _ _ _ (B'.so p' hp')
  have := le _ a'
  have := le' _ a
  omega
end CK

namespace CK
open PySem L2 PyProof.Rows
/-! ### a row without one -/
theorem cutV_lo (xs : List V) (r : Nat) : cutV xs none (some (r : Int)) = xs.take r := by
  unfold cutV
  rw [HT.sIx_none, HT.sIx_nat, Nat.sub_zero, List.drop_zero]
  by_cases h : r ≤ xs.length
  · rw [Nat.min_eq_left h]
  · rw [Nat.min_eq_right (by omega), List.take_length, List.take_of_length_le (by omega)]
theorem cutV_hi (xs : List V) (r : Nat) : cutV xs (some ((r : Int) + 1)) none = xs.drop (r + 1) := by
  unfold cutV
  rw [show ((r : Int) + 1) = ((r + 1 : Nat) : Int) by omega, HT.sIx_none, HT.sIx_nat]
  by_cases h : r + 1 ≤ xs.length
  · rw [Nat.min_eq_left h, List.take_of_length_le (by rw [List.length_drop]; exact Nat.le_refl _)]
  · rw [Nat.min_eq_right (by omega), List.drop_length, List.drop_eq_nil_of_le (by omega)]; simp
theorem cut_rd {K : PySem.W.Frag} {tb tv : TE} {σ : L2.St} {H : Hp} {k : VK} {a : Addr} {l : List Int} {r : Nat} (hb : ∀ H' (k' : VK), Same H H' → k' (.ref a) H' → tb σ H' k') (hv : ∀ H' (k' : VK), Same H H' → k' (.int r) H' → tv σ H' k') (hA : H a = some (.lst (l.map V.int))) (hl : l.length ≤ 1000)
    (q : ∀ H' p, Same H H' → H p = none → H' p = some (.lst ((cut l r).map V.int)) → k (.ref p) H') : tOp rCat (tSl (rSlL K) tb tNoPart (tPart tv)) (tSl (rSlL K) tb (tPart (tOp (rI0 fun i j => .int (i + j)) tv (tC (.int 1)))) tNoPart) σ H k := by
  refine hb H _ (Same.refl H) (hv H _ (Same.refl H) ⟨(r : Int), rfl, a, _, rfl, SqL.of hA, fun p1 hp1 => ?_⟩)
  rw [cutV_lo]
  have s1 : Same H (upd H p1 (.lst ((l.map V.int).take r))) := Same.new' (Same.refl _) hp1
  have e1 : (upd H p1 (.lst ((l.map V.int).take r))) p1 = some (.lst ((l.map V.int).take r)) := upd_same
  generalize upd H p1 (.lst ((l.map V.int).take r)) = H1 at *
  refine hb H1 _ s1 (hv H1 _ s1 ⟨_, _, rfl, rfl, (r : Int) + 1, rfl, a, _, rfl, SqL.of (s1 _ _ hA), fun p2 hp2 => ?_⟩)
  rw [cutV_hi]
  have s2 := Same.new' (o := .lst ((l.map V.int).drop (r + 1))) s1 hp2
  refine ⟨p1, p2, _, _, rfl, rfl, upd_keep hp2 e1, upd_same, ?_, fun p hp => q _ p (Same.new' s2 hp) (s2.free hp) ?_⟩
  · have l1 : ((l.map V.int).take r).length ≤ (l.map V.int).length := by rw [List.length_take]; omega
    have l2 : ((l.map V.int).drop (r + 1)).length ≤ (l.map V.int).length := by rw [List.length_drop]; omega
    rw [List.length_map] at l1 l2
    rw [sizeLine_eq]; omega
  · rw [upd_same]; unfold cut; rw [List.map_append, List.map_take, List.map_drop]
def spMoved : Sp := fun vs H Q _ => ∃ (A B : Addr) (as bs : List Int) (r : Nat), vs = [.ref A, .ref B, .int r] ∧ H A = some (.lst (as.map V.int)) ∧ H B = some (.lst (bs.map V.int)) ∧ as.length ≤ 1000 ∧ bs.length ≤ 1000 ∧ ∀ H', Same H H' → Q (.int (dif as (cut bs r) : Nat)) H'
theorem cut_le (l : List Int) (r : Nat) : (cut l r).length ≤ l.length := by
  unfold cut
  rw [List.length_append, List.length_take, List.length_drop]; omega
theorem filt_s {α : Type} {f : α → Bool} {l : List α} {i : Nat} {x : α} (h : l[i]? = some x) : (l.take (i + 1)).filter f = (l.take i).filter f ++ (if f x = true then [x] else []) := by
  rw [take_succ' h, List.filter_append]
  congr 1
  cases e : f x <;> simp [e]
theorem filt_le {α : Type} {f : α → Bool} {l : List α} {i : Nat} : ((l.take i).filter f).length ≤ l.length := Nat.le_trans (List.length_filter_le _ _) (by rw [List.length_take]; omega)
/-! ### all patterns -/
def pats : Nat → List (List Nat)
  | 0 => [[]]
  | n + 1 => (pats n).flatMap fun p => [p ++ [48], p ++ [49]]
theorem isBits_iff : ∀ {p : List Nat}, isBits p = true ↔ ∀ c ∈ p, c = 48 ∨ c = 49
  | [] => ⟨fun _ c h => (by cases h), fun _ => rfl⟩
  | c :: r => by
    have ih := isBits_iff (p := r)
    by_cases h : c = 48 ∨ c = 49
    · have e : isBits (c :: r) = isBits r := by rcases h with rfl | rfl <;> rfl
      rw [e, ih]
      exact ⟨fun z x hx => (List.mem_cons.mp hx).elim (fun y => by rw [y]; exact h) (z x), fun z x hx => z x (List.mem_cons_of_mem _ hx)⟩
    · have e : isBits (c :: r) = false := by
        unfold isBits
        split
        · rename_i q; cases q
        · rename_i q; cases q; exact absurd (Or.inl rfl) h
        · rename_i q; cases q; exact absurd (Or.inr rfl) h
        · rfl
      rw [e]
      exact ⟨fun z => (by cases z), fun z => absurd (z c List.mem_cons_self) h⟩
theorem mem_pats : ∀ {n : Nat} {q : List Nat}, q ∈ pats n ↔ isBits q = true ∧ q.length = n
  | 0, q => by
    show q ∈ [[]] ↔ _
    rw [List.mem_singleton]
    exact ⟨fun e => by rw [e]; exact ⟨rfl, rfl⟩, fun e => List.length_eq_zero_iff.mp e.2⟩
  | n + 1, q => by
    show q ∈ (pats n).flatMap _ ↔ _
    rw [List.mem_flatMap]
    constructor
    · rintro ⟨p, hp, h⟩
      obtain ⟨a, b⟩ := mem_pats.mp hp
      have a := isBits_iff.mp a
      rcases List.mem_cons.mp h with rfl | h
      · exact ⟨isBits_iff.mpr fun c hc => (List.mem_append.mp hc).elim (a c) (fun z => .inl (by simpa using z)), by rw [List.length_append, b]; rfl⟩
      · rw [show q = p ++ [49] by simpa using h]
        exact ⟨isBits_iff.mpr fun c hc => (List.mem_append.mp hc).elim (a c) (fun z => .inr (by simpa using z)), by rw [List.length_append, b]; rfl⟩
    · rintro ⟨a, b⟩
      obtain ⟨p, c, rfl⟩ := snoc_of q (fun z => by rw [z] at b; cases b)
      have a := isBits_iff.mp a
      refine ⟨p, mem_pats.mpr ⟨isBits_iff.mpr fun c hc => a c (List.mem_append_left _ hc), by rw [List.length_append, List.length_singleton] at b; omega⟩, ?_⟩
      rcases a c (List.mem_append_right _ (List.mem_singleton.mpr rfl)) with rfl | rfl <;> simp
theorem pats_len : ∀ n : Nat, (pats n).length = 2 ^ n
  | 0 => rfl
  | n + 1 => by
    have h : ∀ l : List (List Nat), (l.flatMap fun p => [p ++ [48], p ++ [49]]).length = 2 * l.length := fun l => by
      induction l with
      | nil => rfl
      | cons a l ih => rw [List.flatMap_cons, List.length_append, ih, List.length_cons]; simp; omega
    show ((pats n).flatMap _).length = _
    rw [h, pats_len n, Nat.pow_succ]; omega
def txV (p : List Nat) : V := .str (Tx p)
def spPats : Sp := fun vs H Q _ => ∃ w : Nat, vs = [.int w] ∧ w ≤ 6 ∧ ∀ H' L, Same H H' → H L = none → H' L = some (.lst ((pats w).map txV)) → Q (.ref L) H'
theorem pl_inj {p q : List Nat} (hp : isBits p = true) (hq : isBits q = true) (h1 : 1 ≤ p.length) (h6 : p.length ≤ 6) (hl : q.length = p.length) (e : pl p = pl q) : p = q := by
  obtain ⟨h, e1, _⟩ := pattern_good hp h1 h6
  obtain ⟨h', e2, _⟩ := pattern_good hq (by omega) (by omega)
  rw [hl, show plL q = plL p by unfold plL; rw [e]] at e2
  rw [e1] at e2
  cases e2
  rfl
def LayAt (H : Hp) (ts : List Addr) (ls : List (Int × List Nat)) : Prop := Paired (fun t (x : Int × List Nat) => H t = some (.tup [.int x.1, .str (Tx x.2)])) ts ls
theorem LayAt.mono {H H' : Hp} (s : TS H H') {ts : List Addr} {ls : List (Int × List Nat)} (h : LayAt H ts ls) : LayAt H' ts ls := Paired.mapP h fun _ _ q => s _ _ q
/-- the layings, in their order -/
def layF (w : Nat) (p : List Nat) (d : Deed) : List (Int × List Nat) := match d.1 with
  | false => (match (pats w).find? (fun q => ileq (cut (pl p) d.2) (pl q)) with | some q => [(0, q)] | none => [])
  | true => ((pats w).filter fun q => decide (many q = many p + 1)).map fun q => (((dif (pl p) (cut (pl q) d.2) : Nat) : Int), q)
def spLay : Sp := fun vs H Q _ => ∃ (w : Nat) (p : List Nat) (t : Addr) (d : Deed) (k : Nat), vs = [.int w, .str (Tx p), .ref t] ∧ isBits p = true ∧ p.length = w ∧ 1 ≤ w ∧ w ≤ 6 ∧ step1 w (many p) d = some k ∧ H t = some (.tup [.str (wd d.1), .int d.2]) ∧
  ∀ H' L ts ls, Same H H' → H L = none → H' L = some (.lst (ts.map V.ref)) → LayAt H' ts ls → (∀ c q, (c, q) ∈ ls ↔ isBits q = true ∧ q.length = w ∧ costM p q d = some c) → ls.length ≤ 64 → ls = layF w p d → Q (.ref L) H'
section
variable {P : Program} {w : World} {K : PySem.W.Frag} {mg : Str → Option Value} {base : Heap} {cc : Nat → Addr}
theorem sc_count_moved_ : True := trivial
theorem ok_movedS {f : Addr} {fd : FuncData} (F : Fun K "count_moved" "count_moved" s_count_moved f fd) (T : Txt K mg) : FnOk P w K mg base CX0 1 f fd ["places", "laid", "rank"] spMoved := by
  refine F.ok sc_count_moved (fun vs H Q E h => ?_) (fun cdv A outer s H vs Q E hr h => ?_)
  · obtain ⟨_, _, _, _, _, rfl, _⟩ := h
    rfl
  · obtain ⟨Aa, Ab, as, bs, r, rfl, hA, hB, la, lb, kq⟩ := h
    have nd := sc_count_moved.nd
    refine ⟨_, (pss_cons (ps_set (i := 3) nd rfl (by first | exact Or.inl rfl | exact Or.inr rfl) (pe_op op_cat (pe_slice sl_list (pv 1) po_none (po_some (pv 2))) (pe_slice sl_list (pv 1) (po_some (pe_op op_add (pv 2) pe_int)) po_none)))
      (pss_one (ps_ret (pe_callB call_len_seq (by rfl) T.n_len boot_len (pa_cons (pe_lc (own := [("was", 4), ("now", 5)]) (g := gTup K 2 (gCons (gName 4) (gCons (gName 5) gNil))) rfl nd (pi_zip (by rfl) T.n_zip (pa_cons (pv 0) (pa_cons (pv 3) pa_nil))) (blkOk_by (N := ["places", "laid", "rank", "others", "was", "now"]) (sc := defScope s_count_moved) (by decide +kernel)) (fun _ _ _ _ _ => (pg_tup rfl (pgs_cons (pg_name (i := 4) nd rfl (Or.inl rfl)) (pgs_cons (pg_name (i := 5) nd rfl (Or.inl rfl)) pgs_nil)))) (fun _ _ _ _ _ => pts_one (pt_cmpR op_ne (pv 4) (pv 5) (nomark _))) (fun _ _ _ _ _ => (pv 4))) pa_nil))))), ?_⟩
    refine cut_rd (a := Ab) (l := bs) (r := r) (fun H' k' _ q => ⟨_, rfl, q⟩) (fun H' k' _ q => ⟨_, rfl, q⟩) hB lb fun H1 p s1 hp hp1 => ?_
    have cl := cut_le bs r
    refine ⟨_, rfl, _, rfl, Aa, p, _, _, rfl, SqL.of (s1 _ _ hA), SqL.of hp1, fun D hD => ?_⟩
    refine lc_it (walk_zip (n := min (as.map V.int).length ((cut bs r).map V.int).length) rfl) (fun i H' => Same H1 H' ∧ ∃ xs : List Int, H' D = some (.lst (xs.map V.int)) ∧ xs.length = (((as.zip (cut bs r)).take i).filter fun x => !(x.1 == x.2)).length) ⟨Same.new' (Same.refl _) hD, [], upd_same, rfl⟩ (fun i H' _ q => ⟨SqL.of (q.1 _ _ (s1 _ _ hA)), SqL.of (q.1 _ _ hp1)⟩) ?_ ?_
    · rintro i v H2 H3 hi ⟨s2, xs, hD2, hx⟩ ⟨Z, x, y, rfl, hZ, rfl, ex, ey⟩
      have ex : (as.map V.int)[i]? = some x := ex
      have ey : ((cut bs r).map V.int)[i]? = some y := ey
      rw [List.getElem?_map] at ex ey
      obtain ⟨a, ha, rfl⟩ : ∃ a, as[i]? = some a ∧ x = .int a := by
        cases e : as[i]? with
        | none => rw [e] at ex; cases ex
        | some a => rw [e] at ex; exact ⟨a, rfl, (Option.some.inj ex).symm⟩
      obtain ⟨b, hb, rfl⟩ : ∃ b, (cut bs r)[i]? = some b ∧ y = .int b := by
        cases e : (cut bs r)[i]? with
        | none => rw [e] at ey; cases ey
        | some b => rw [e] at ey; exact ⟨b, rfl, (Option.some.inj ey).symm⟩
      have hz : (as.zip (cut bs r))[i]? = some (a, b) := List.getElem?_zip_eq_some.mpr ⟨ha, hb⟩
      have fs := filt_s (f := fun x : Int × Int => !(x.1 == x.2)) hz
      have fl : (((as.zip (cut bs r)).take i).filter fun x => !(x.1 == x.2)).length ≤ as.length := Nat.le_trans filt_le (by rw [List.length_zip]; omega)
      have s3 : Same H1 (upd H2 Z (.tup [.int a, .int b])) := Same.new' s2 hZ
      have hD3 : (upd H2 Z (.tup [.int a, .int b])) D = some (.lst (xs.map V.int)) := upd_keep hZ hD2
      refine ⟨Z, _, rfl, SqT.of upd_same, rfl, _, _, rfl, _, _, rfl, rfl, rfl, _, rfl, _, rfl, rfl, _, rfl, ?_⟩
      by_cases h : a = b
      · subst h
        rw [decide_eq_true rfl]
        refine iteF ⟨s3, xs, hD3, ?_⟩
        rw [fs, hx]; simp
      · rw [decide_eq_false (fun z => h (V.int.inj z))]
        refine iteT ⟨_, rfl, _, hD3, ?_, fun c o q => ?_, xs ++ [a], ?_, ?_⟩
        · rw [List.length_map, sizeLine_eq]; omega
        · rw [upd_ne (ne_of_none q hD)]; exact s3 _ _ q
        · rw [upd_same, List.map_append]; rfl
        · rw [fs, List.length_append, List.length_append, hx]; simp [h]
    · rintro H2 ⟨s2, xs, hD2, hx⟩
      refine ⟨D, _, rfl, .inl (SqL.of hD2), ?_⟩
      have e : ((xs.map V.int).length) = dif as (cut bs r) := by
        rw [List.length_map, hx, dif_zip, List.take_of_length_le]
        rw [List.length_zip, List.length_map, List.length_map]
        exact Nat.le_refl _
      rw [e]
      exact kq H2 (s1.trans s2)
abbrev s_patterns_of : Stmt := top 33
theorem sc_patterns_of : FnScope ["wide", "patterns", "at", "pattern", "sign"] ["wide"] (defScope s_patterns_of) := ⟨rfl, rfl, rfl, by decide +kernel, rfl, by decide +kernel, by decide +kernel⟩

theorem ok_pats {f : Addr} {fd : FuncData} (F : Fun K "patterns_of" "patterns_of" s_patterns_of f fd) (T : Txt K mg) : FnOk P w K mg base CX0 1 f fd ["wide"] spPats := by
  refine F.ok sc_patterns_of (fun vs H Q E h => ?_) (fun cdv A outer s H vs Q E hr h => ?_)
  · obtain ⟨_, rfl, _⟩ := h
    rfl
  · obtain ⟨w, rfl, h6, kq⟩ := h
    have nd := sc_patterns_of.nd
    refine ⟨_, (pss_cons (ps_set (i := 1) nd rfl (by first | exact Or.inl rfl | exact Or.inr rfl) (pe_lst (pa_cons pe_str pa_nil)))
      (pss_cons (ps_for PassesOwn.never rfl (pi_range1 (by rfl) T.n_range (pa_cons (pv 0) pa_nil)) (pg_name (i := 2) nd rfl (by first | exact Or.inl rfl | exact Or.inr rfl))
      (pss_one (ps_setLc2 (i := 1) (own := [("pattern", 3), ("sign", 4)]) (vs1 := [4]) (g := gName 3) (g1 := gName 4) (tt := tYes) (tt1 := tYes) (wi1 := iTup K (tTup (tCons (tC (.str "0")) (tCons (tC (.str "1")) tNil)))) rfl nd rfl rfl (sw_true rfl rfl rfl (by decide +kernel)) (pi_list (pv 1)) (blkOk_by (N := ["wide", "patterns", "at", "pattern", "sign"]) (sc := defScope s_patterns_of) (by decide +kernel)) (by decide) (fun _ _ _ _ _ => (pg_name (i := 3) nd rfl (Or.inl rfl))) (fun _ _ _ _ _ => pts_nil) (fun _ _ _ _ _ => (by exact (pi_tup (pe_tup (pa_cons pe_str (pa_cons pe_str pa_nil)))))) (fun _ _ _ _ _ => (pg_name (i := 4) nd rfl (Or.inl rfl))) (fun _ _ _ _ _ => pts_nil) (fun _ _ _ _ _ => (pe_op op_add_str (pv 3) (pv 4))))))
      (pss_one (ps_ret (pv 1))))), ?_⟩
    refine ⟨(show 1 ≤ sizeLine by decide), fun L hL => ?_⟩
    refine ⟨_, rfl, (w : Nat), rfl, by omega, by omega, ?_⟩
    refine for_range (lo := 0) (n := ((w : Nat) : Int).toNat) (fun i σ H' => ∃ L x2 x3 x4, σ = [some (.int w), some (.ref L), x2, x3, x4] ∧ Same H H' ∧ H L = none ∧ H' L = some (.lst ((pats i).map txV))) ⟨L, none, none, none, rfl, Same.new' (Same.refl _) hL, hL, upd_same⟩ ?_ ?_
    · rintro i σ H1 hi ⟨L, x2, x3, x4, rfl, s1, hL, hL1⟩
      rw [Int.toNat_natCast] at hi
      refine ⟨_, rfl, L, rfl, ⟨_, SqL.of hL1⟩, fun D hD => ?_⟩
      refine turns (walk_list (K := K) (a := L) (xs := (pats i).map txV)) (fun j H' => Same H1 H' ∧ H' D = some (.lst ((((pats i).take j).flatMap fun p => [p ++ [48], p ++ [49]]).map txV))) ⟨Same.new' (Same.refl _) hD, upd_same⟩ (fun j H' _ q => SqL.of (q.1 _ _ hL1)) ?_ ?_
      · rintro j x H2 H2' hj ⟨s2, hD2⟩ ⟨eH, hx⟩
        subst H2'
        rw [List.getElem?_map] at hx
        obtain ⟨p, hp, rfl⟩ : ∃ p, (pats i)[j]? = some p ∧ x = txV p := by
          cases e : (pats i)[j]? with
          | none => rw [e] at hx; cases hx
          | some a => rw [e] at hx; exact ⟨a, rfl, (Option.some.inj hx).symm⟩
        obtain ⟨pb, pn⟩ := mem_pats.mp (List.mem_of_getElem? hp)
        have jl := (List.getElem?_eq_some_iff.mp hp).1
        have plen := pats_len i
        have p2 := pow_le (w := i) (by omega)
        have fl : ∀ l : List (List Nat), (l.flatMap fun p => [p ++ [48], p ++ [49]]).length = 2 * l.length := fun l => by
          induction l with
          | nil => rfl
          | cons a l ih => rw [List.flatMap_cons, List.length_append, ih, List.length_cons]; simp; omega
        refine ⟨rfl, yes_rd ⟨(show 2 ≤ sizeLine by decide), fun Z hZ => ⟨Z, rfl, ⟨_, SqT.of upd_same⟩, ?_⟩⟩⟩
        have s3 : Same H2 (upd H2 Z (.tup [.str "0", .str "1"])) := Same.new' (Same.refl _) hZ
        have eZ : (upd H2 Z (.tup [.str "0", .str "1"])) Z = some (.tup [.str "0", .str "1"]) := upd_same
        generalize upd H2 Z (.tup [.str "0", .str "1"]) = H3 at *
        have hD3 := s3 _ _ hD2
        refine turns (walk_tup (K := K) (a := Z) (xs := [.str "0", .str "1"])) (fun k H' => Same H1 H' ∧ H' Z = some (.tup [.str "0", .str "1"]) ∧ H' D = some (.lst ((((pats i).take j).flatMap fun p => [p ++ [48], p ++ [49]]).map txV ++ (([p ++ [48], p ++ [49]] : List (List Nat)).take k).map txV))) ⟨s2.trans s3, eZ, by rw [hD3]; simp⟩ (fun k H' _ q => SqT.of q.2.1) ?_ ?_
        · rintro k x H4 H4' hk ⟨s4, hZ4, hD4⟩ ⟨eH, hx⟩
          subst H4'
          obtain ⟨c, hc, rfl, hk2⟩ : ∃ c : Nat, (Tx [c]).length = 1 ∧ x = .str (Tx [c]) ∧ ([p ++ [48], p ++ [49]] : List (List Nat))[k]? = some (p ++ [c]) := by
            match k, hx with
            | 0, hx => cases hx; exact ⟨48, rfl, by decide +kernel, rfl⟩
            | 1, hx => cases hx; exact ⟨49, rfl, by decide +kernel, rfl⟩
            | n + 2, hx => simp at hx
          refine ⟨rfl, yes_rd ⟨_, rfl, _, rfl, Tx p, Tx [c], rfl, rfl, by rw [Tx_len, hc, sizeLine_eq]; omega, ?_⟩⟩
          refine ⟨_, hD4, ?_, fun b o q => ?_, ?_, ?_⟩
          · rw [List.length_append, List.length_map, List.length_map, fl, List.length_take, List.length_take, sizeLine_eq]
            have : ([p ++ [48], p ++ [49]] : List (List Nat)).length = 2 := rfl
            omega
          · rw [upd_ne (fun z => by rw [z, hD] at q; cases q)]; exact s4 _ _ q
          · rw [upd_ne (fun z => by rw [z, hD4] at hZ4; cases hZ4)]; exact hZ4
          · rw [upd_same, take_succ' hk2, Tx_app, List.map_append, List.append_assoc]; rfl
        · rintro H4 ⟨s4, hZ4, hD4⟩
          refine ⟨s4, ?_⟩
          rw [hD4, take_succ' hp, List.flatMap_append, List.map_append]
          simp
      · rintro H2 ⟨s2, hD2⟩
        rw [List.length_map, List.take_length] at hD2
        exact ⟨D, _, _, _, rfl, s1.trans s2, s1.free hD, hD2⟩
    · rintro σ H1 ⟨L, x2, x3, x4, rfl, s1, hL, hL1⟩
      exact ⟨_, rfl, kq H1 L s1 hL hL1⟩
end
end CK

namespace CK
open PySem L2 PyProof.Rows
theorem atI_n {α : Type} {xs : List α} {z : Int} {j : Nat} {v : α} (e : z = (j : Int)) (h : xs[j]? = some v) : atI xs z = some v := by
  rw [e]
  exact atI_nat h
theorem str1 : ("1" : Str) = Tx [49] := by decide +kernel
theorem tx1 (c : Nat) : (V.str ⟨#[c]⟩ = V.str "1") ↔ c = 49 := by
  rw [str1]
  constructor
  · intro e
    have : Tx [c] = Tx [49] := V.str.inj e
    have := Tx_inj.mp this
    exact (List.cons.inj this).1
  · rintro rfl; rfl
def tCnt (K : PySem.W.Frag) : TT := tTest (tOp rEq (tBM K "str" (fun x xs H Q => ∃ a b, x = .str a ∧ xs = [.str b] ∧ Q (.int (Txt.count a b)) H) (tVar 7) (tCons (tC (.str "1")) tNil)) (tOp (rI0 fun i j => .int (i + j)) (tCB (fun xs H Q => ∃ p ys, xs = [.ref p] ∧ (SqL K H p ys ∨ SqT K H p ys) ∧ Q (.int ys.length) H) (tCons (tVar 5) tNil)) (tC (.int 1))))
theorem pl_le (p : List Nat) : (pl p).length ≤ p.length := by rw [pl_len]; exact many_le p
section
variable {P : Program} {w : World} {K : PySem.W.Frag} {mg : Str → Option Value} {base : Heap} {cc : Nat → Addr}
abbrev s_layings : Stmt := top 32
theorem sc_layings : FnScope ["wide", "pattern", "deed", "what", "rank", "places", "laid", "row"] ["wide", "pattern", "deed"] (defScope s_layings) := ⟨rfl, rfl, rfl, by decide +kernel, rfl, by decide +kernel, by decide +kernel⟩

theorem ok_layings {f : Addr} {fd : FuncData} (F : Fun K "layings" "layings" s_layings f fd) (T : Txt K mg) (OP : Own P w K mg base cc 1 "places_of" ["pattern"] c_places_of) (OF : Own P w K mg base cc 1 "pattern_of" ["wide", "places"] c_pattern_of) (OA : OwnS P w K mg base 1 "patterns_of" ["wide"] spPats) (OM : OwnS P w K mg base 1 "count_moved" ["places", "laid", "rank"] spMoved) : FnOk P w K mg base CX0 2 f fd ["wide", "pattern", "deed"] spLay := by
  refine F.ok sc_layings (fun vs H Q E h => ?_) (fun cdv A outer s H vs Q E hr h => ?_)
  · obtain ⟨_, _, _, _, _, rfl, _⟩ := h
    rfl
  · obtain ⟨w, p, t, d, k, rfl, hb, hl, h1, h6, hd, ht, kq⟩ := h
    have nd := sc_layings.nd
    have hr1 : Room 1 _ := hr.mono (by decide)
    refine ⟨_, (pss_cons (ps_asg (pv 2) (pg_tup rfl (pgs_cons (pg_name (i := 3) nd rfl (by first | exact Or.inl rfl | exact Or.inr rfl)) (pgs_cons (pg_name (i := 4) nd rfl (by first | exact Or.inl rfl | exact Or.inr rfl)) pgs_nil))))
      (pss_cons (ps_set (i := 5) nd rfl (by first | exact Or.inl rfl | exact Or.inr rfl) (pe_own OP hr1 (pa_cons (pv 1) pa_nil)))
      (pss_cons (ps_if (pt_cmpR op_eq (pv 3) pe_str (nomark _)) (pss_one (ps_ret (pe_lst (pa_cons (pe_tup (pa_cons pe_int (pa_cons (pe_own OF hr1 (pa_cons (pv 0) (pa_cons (pe_op op_cat (pe_slice sl_list (pv 5) po_none (po_some (pv 4))) (pe_slice sl_list (pv 5) (po_some (pe_op op_add (pv 4) pe_int)) po_none)) pa_nil))) pa_nil))) pa_nil)))) pss_nil)
      (pss_cons (ps_setLc (i := 6) (own := [("row", 7)]) (g := gName 7) (tt := tCnt K) rfl nd rfl rfl (sw_true rfl rfl rfl (by decide +kernel)) (pi_list (pe_own OA hr1 (pa_cons (pv 0) pa_nil))) (blkOk_by (N := ["wide", "pattern", "deed", "what", "rank", "places", "laid", "row"]) (sc := defScope s_layings) (by decide +kernel)) (fun _ _ _ _ _ => (pg_name (i := 7) nd rfl (Or.inl rfl))) (fun _ _ _ _ _ => by exact pts_one (pt_cmpR op_eq (pe_bm PySem.F.plainAttrs_str PySem.F.slot_str_count PySem.F.type_str_count mt_count (pv 7) (pa_cons pe_str pa_nil)) (pe_op op_add (pe_callB call_len_seq (by rfl) T.n_len boot_len (pa_cons (pv 5) pa_nil)) pe_int) (nomark _))) (fun _ _ _ _ _ => (pv 7)))
      (pss_one (ps_ret (pe_lc (own := [("row", 7)]) (g := gName 7) (tt := tYes) rfl nd (pi_list (pv 6)) (blkOk_by (N := ["wide", "pattern", "deed", "what", "rank", "places", "laid", "row"]) (sc := defScope s_layings) (by decide +kernel)) (fun _ _ _ _ _ => (pg_name (i := 7) nd rfl (Or.inl rfl))) (fun _ _ _ _ _ => pts_nil) (fun _ _ _ _ _ => (pe_tup (pa_cons (pe_own OM hr1 (pa_cons (pv 5) (pa_cons (pe_own OP hr1 (pa_cons (pv 7) pa_nil)) (pa_cons (pv 4) pa_nil)))) (pa_cons (pv 7) pa_nil))))))))))), ?_⟩
    refine ⟨_, rfl, t, _, rfl, SqT.of ht, rfl, _, _, rfl, _, _, rfl, rfl, ?_⟩
    obtain ⟨nP, hP, eP, gP, kP⟩ := places_good hb (by omega) (by omega)
    refine ⟨_, rfl, sp_keeps (cc := cc) (E := E0) HR.nil (.cons (rvS p) .nil) eP kP fun η1 H1 v1 s1 S1 R1 rv1 => ?_⟩
    obtain ⟨Lp, eLp, rfl⟩ := rv1
    obtain ⟨ys, hLp, ry⟩ := R1.lst gP eLp
    rw [rv_ints ry] at hLp
    have pll := pl_le p
    have hst : step1 p.length (many p) d = some k := by rw [hl]; exact hd
    obtain ⟨b, r⟩ := d
    cases b with
    | false =>
      refine ⟨_, rfl, rfl, _, rfl, iteT ?_⟩
      have g := good_step (r := [110, 101, 97, 114]) (by decide) hb (by omega) (by omega) hst
      generalize stepM [110, 101, 97, 114] p (false, r) = mq at g
      obtain ⟨m, q⟩ := mq
      have gc : (match ileq (cut (pl p) r) (pl q) with | true => some (0 : Int) | false => none) = some m := g.cost
      obtain ⟨ec, em⟩ : cut (pl p) r = pl q ∧ m = 0 := by
        cases e : ileq (cut (pl p) r) (pl q) with
        | false => rw [e] at gc; cases gc
        | true => rw [e] at gc; cases gc; exact ⟨ileq_eq e, rfl⟩
      have ql : q.length = p.length := g.len
      have qb : isBits q = true := g.bits
      obtain ⟨hQ, eQ, kQ⟩ := pattern_good qb (by omega) (by omega)
      refine ⟨_, rfl, cut_rd (a := Lp) (l := pl p) (r := r) (fun H' k' _ q => ⟨_, rfl, q⟩) (fun H' k' _ q => ⟨_, rfl, q⟩) hLp (by omega) fun H2 C s2 hC0 hC => ?_⟩
      rw [ec] at hC
      refine sp_keeps (cc := cc) (E := E0) (HR.one hC (ints_ro _)) (.cons (by rw [ql, hl]; exact rvI _) (.cons (rvR (n := 0) rfl) .nil)) eQ kQ fun η3 H3 v3 s3 _ R3 rv3 => ?_
      obtain rfl := (show v3 = V.str _ from rv3)
      refine ⟨(show 2 ≤ sizeLine by decide), fun U hU => ⟨(show 1 ≤ sizeLine by decide), fun L hL => ?_⟩⟩
      have s03 := (s1.trans s2).trans s3
      have sU : Same H (upd H3 U (.tup [.int 0, .str (Tx q)])) := Same.new' s03 hU
      refine kq _ L [U] [(0, q)] (Same.new' sU hL) (sU.free hL) upd_same (.cons (by rw [upd_ne (ne_of_none upd_same hL)]; exact upd_same) .nil) (fun c q' => ?_) (show 1 ≤ 64 by decide) ?_
      rotate_left
      · show [(0, q)] = (match (pats w).find? (fun q => ileq (cut (pl p) r) (pl q)) with | some q => [((0 : Int), q)] | none => [])
        have hq : ileq (cut (pl p) r) (pl q) = true := by
          cases e : ileq (cut (pl p) r) (pl q) with
          | false => rw [e] at gc; cases gc
          | true => rfl
        have hm : q ∈ pats w := mem_pats.mpr ⟨qb, ql.trans hl⟩
        cases e : (pats w).find? (fun q => ileq (cut (pl p) r) (pl q)) with
        | none => exact absurd hq (List.find?_eq_none.mp e q hm)
        | some q' =>
          have h1' := List.find?_some e
          obtain ⟨b1, b2⟩ := mem_pats.mp (List.mem_of_find?_eq_some e)
          have e2 := ileq_eq h1'
          rw [ec] at e2
          rw [pl_inj qb b1 (by omega) (by omega) (by omega) e2]
      rw [List.mem_singleton]
      constructor
      · rintro e
        cases e
        refine ⟨qb, ql.trans hl, ?_⟩
        show (match ileq (cut (pl p) r) (pl q) with | true => some (0 : Int) | false => none) = some 0
        have : ileq (cut (pl p) r) (pl q) = true := by
          cases e : ileq (cut (pl p) r) (pl q) with
          | false => rw [e] at gc; cases gc
          | true => rfl
        rw [this]
      · rintro ⟨a1, a2, a3⟩
        have a3 : (match ileq (cut (pl p) r) (pl q') with | true => some (0 : Int) | false => none) = some c := a3
        cases e : ileq (cut (pl p) r) (pl q') with
        | false => rw [e] at a3; cases a3
        | true =>
          rw [e] at a3
          cases a3
          have e2 := ileq_eq e
          rw [ec] at e2
          rw [pl_inj qb a1 (by omega) (by omega) (by omega) e2]
    | true =>
      refine ⟨_, rfl, rfl, _, rfl, iteF ?_⟩
      refine ⟨_, rfl, w, rfl, h6, fun H2 La s2 hLa0 hLa => ⟨La, rfl, ⟨_, SqL.of hLa⟩, fun D hD => ?_⟩⟩
      have hLp2 := s2 _ _ hLp
      have p64 := pow_le h6
      have plen := pats_len w
      refine lc_list (K := K) (a := La) (xs := (pats w).map txV) (g := gName 7) (fun i H' => Same H2 H' ∧ H' D = some (.lst ((((pats w).take i).filter fun q => decide (many q = many p + 1)).map txV))) ⟨Same.new' (Same.refl _) hD, upd_same⟩ (fun i H' _ q => SqL.of (q.1 _ _ hLa)) ?_ ?_
      · rintro i x H3 hx ⟨s3, hD3⟩
        obtain ⟨q, hq, rfl⟩ : ∃ q, (pats w)[i]? = some q ∧ x = V.str (Tx q) := by
          rw [List.getElem?_map] at hx
          cases e : (pats w)[i]? with
          | none => rw [e] at hx; cases hx
          | some q => rw [e] at hx; exact ⟨q, rfl, (Option.some.inj hx).symm⟩
        obtain ⟨qb, ql⟩ := mem_pats.mp (List.mem_of_getElem? hq)
        have fs := filt_s (f := fun q => decide (many q = many p + 1)) hq
        refine ⟨rfl, _, rfl, rfl, Tx q, "1", rfl, rfl, ?_⟩
        rw [count_many qb (by omega) (by omega)]
        refine ⟨_, rfl, Lp, _, rfl, .inl (SqL.of (s3 _ _ hLp2)), _, _, rfl, rfl, rfl, _, rfl, ?_⟩
        rw [List.length_map, pl_len]
        by_cases c : many q = many p + 1
        · rw [decide_eq_true (show V.int (many q : Nat) = V.int ((many p : Nat) + 1) by rw [c]; rfl)]
          rw [decide_eq_true c, if_pos rfl] at fs
          refine iteT ⟨_, rfl, _, hD3, ?_, fun b o z => ?_, ?_⟩
          · have := filt_le (f := fun q => decide (many q = many p + 1)) (l := pats w) (i := i)
            rw [List.length_map, sizeLine_eq]; omega
          · rw [upd_ne (ne_of_none z hD)]; exact s3 _ _ z
          · rw [upd_same, fs, List.map_append]; rfl
        · rw [decide_eq_false (show ¬ V.int (many q : Nat) = V.int ((many p : Nat) + 1) from fun z => c (by have := V.int.inj z; omega))]
          rw [decide_eq_false c, if_neg (by decide), List.append_nil] at fs
          exact iteF ⟨s3, by rw [fs]; exact hD3⟩
      · rintro H3 ⟨s3, hD3⟩
        rw [List.length_map, List.take_length] at hD3
        have rl : ((pats w).filter fun q => decide (many q = many p + 1)).length ≤ 64 := by
          have := List.length_filter_le (fun q => decide (many q = many p + 1)) (pats w)
          omega
        have rm : ∀ q, q ∈ ((pats w).filter fun q => decide (many q = many p + 1)) ↔ (isBits q = true ∧ q.length = w) ∧ many q = many p + 1 := fun q => by rw [List.mem_filter, mem_pats, decide_eq_true_eq]
        generalize hrows : ((pats w).filter fun q => decide (many q = many p + 1)) = rows at *
        refine ⟨_, rfl, D, rfl, ⟨_, SqL.of hD3⟩, fun L hL => ?_⟩
        have s13 : Same H1 H3 := s2.trans s3
        refine lc_list (K := K) (a := D) (xs := rows.map txV) (g := gName 7) (fun i H' => Same H3 H' ∧ ∃ ts, H' L = some (.lst (ts.map V.ref)) ∧ LayAt H' ts ((rows.take i).map fun q => (((dif (pl p) (cut (pl q) r) : Nat) : Int), q))) ⟨Same.new' (Same.refl _) hL, [], upd_same, .nil⟩ (fun i H' _ q => SqL.of (q.1 _ _ hD3)) ?_ ?_
        · rintro i x H4 hx ⟨s4, ts, hL4, ht4⟩
          obtain ⟨q, hq, rfl⟩ : ∃ q, rows[i]? = some q ∧ x = V.str (Tx q) := by
            rw [List.getElem?_map] at hx
            cases e : rows[i]? with
            | none => rw [e] at hx; cases hx
            | some q => rw [e] at hx; exact ⟨q, rfl, (Option.some.inj hx).symm⟩
          have hi := (List.getElem?_eq_some_iff.mp hq).1
          obtain ⟨⟨qb, ql⟩, qm⟩ := (rm q).mp (List.mem_of_getElem? hq)
          obtain ⟨nQ, hQ, eQ, gQ, kQ⟩ := places_good qb (by omega) (by omega)
          refine ⟨rfl, yes_rd ⟨_, rfl, _, rfl, sp_keeps (cc := cc) (E := E0) HR.nil (.cons (rvS q) .nil) eQ kQ fun η5 H5 v5 s5 S5 R5 rv5 => ?_⟩⟩
          obtain ⟨Lq, eLq, rfl⟩ := rv5
          obtain ⟨ys5, hLq, ry5⟩ := R5.lst gQ eLq
          rw [rv_ints ry5] at hLq
          have qll := pl_le q
          refine ⟨_, rfl, Lp, Lq, pl p, pl q, r, rfl, s5 _ _ (s4 _ _ (s13 _ _ hLp)), hLq, by omega, by omega, fun H6 s6 => ⟨_, rfl, (show 2 ≤ sizeLine by decide), fun U hU => ?_⟩⟩
          have s46 := s5.trans s6
          have hL6 := s46 _ _ hL4
          have tl := ht4.length
          rw [List.length_map, List.length_take] at tl
          have sU : Same H4 (upd H6 U (.tup [.int (dif (pl p) (cut (pl q) r) : Nat), .str (Tx q)])) := Same.new' s46 hU
          have hLU : (upd H6 U (.tup [.int (dif (pl p) (cut (pl q) r) : Nat), .str (Tx q)])) L = some (.lst (ts.map V.ref)) := upd_keep hU hL6
          have eU : (upd H6 U (.tup [.int (dif (pl p) (cut (pl q) r) : Nat), .str (Tx q)])) U = some (.tup [.int (dif (pl p) (cut (pl q) r) : Nat), .str (Tx q)]) := upd_same
          generalize upd H6 U (.tup [.int (dif (pl p) (cut (pl q) r) : Nat), .str (Tx q)]) = H7 at *
          refine ⟨_, hLU, by rw [List.length_map, sizeLine_eq]; omega, fun b o z => ?_, ts ++ [U], by rw [upd_same, List.map_append]; rfl, ?_⟩
          · rw [upd_ne (ne_of_none z hL)]; exact sU _ _ (s4 _ _ z)
          · rw [take_succ' hq, List.map_append]
            have tsL : TS H4 (upd H7 L (.lst (ts.map V.ref ++ [.ref U]))) := fun y xs e => by
              rw [upd_ne (fun z => by rw [z, hL4] at e; cases e)]
              exact sU _ _ e
            refine Pd.app (ht4.mono tsL) (.cons ?_ .nil)
            rw [upd_ne (fun z => by rw [z, hLU] at eU; cases eU)]
            exact eU
        · rintro H4 ⟨s4, ts, hL4, ht4⟩
          rw [List.length_map, List.take_length] at ht4
          have s04 := (s1.trans s13).trans s4
          refine kq H4 L ts _ s04 ((s1.trans s13).free hL) hL4 ht4 (fun c q => ?_) (by rw [List.length_map]; exact rl) (by show _ = ((pats w).filter fun q => decide (many q = many p + 1)).map fun q => (((dif (pl p) (cut (pl q) r) : Nat) : Int), q); rw [hrows])
          rw [List.mem_map]
          constructor
          · rintro ⟨q2, hq, e⟩
            have e1 := (Prod.mk.inj e).1
            have e2 := (Prod.mk.inj e).2
            subst e2
            subst e1
            obtain ⟨⟨qb, ql⟩, qm⟩ := (rm q2).mp hq
            refine ⟨qb, ql, ?_⟩
            show (match Nat.beq (many q2) (many p + 1) with | true => some ((dif (pl p) (cut (pl q2) r) : Nat) : Int) | false => none) = _
            rw [show Nat.beq (many q2) (many p + 1) = true by rw [qm]; exact Nat.beq_refl _]
          · rintro ⟨a1, a2, a3⟩
            have a3 : (match Nat.beq (many q) (many p + 1) with | true => some ((dif (pl p) (cut (pl q) r) : Nat) : Int) | false => none) = some c := a3
            cases e : Nat.beq (many q) (many p + 1) with
            | false => rw [e] at a3; cases a3
            | true =>
              rw [e] at a3
              cases a3
              exact ⟨q, (rm q).mpr ⟨⟨a1, a2⟩, Nat.eq_of_beq_eq_true e⟩, rfl⟩
end
end CK

namespace CK
open PySem L2 PyProof.Rows
/-! ### dicts keyed by patterns -/
/-- a key's set, old or new -/
def addK (ks : List (List Nat)) (q : List Nat) : List (List Nat) := if q ∈ ks then ks else ks ++ [q]
theorem put_add (f : List Nat → V) (ks : List (List Nat)) (p : List Nat) (v : V) : putK (fm ks f) (Sum.inr (Tx p)) v = fm (addK ks p) (fun q => if q = p then v else f q) := by
  unfold addK
  by_cases h : p ∈ ks
  · rw [if_pos h]; exact put_in' f h v
  · rw [if_neg h]; exact put_out' f h v
theorem addK_mem {ks : List (List Nat)} {q x : List Nat} : x ∈ addK ks q ↔ x ∈ ks ∨ x = q := by
  unfold addK
  by_cases h : q ∈ ks
  · rw [if_pos h]
    exact ⟨.inl, fun z => z.elim id fun e => by rw [e]; exact h⟩
  · rw [if_neg h, List.mem_append, List.mem_singleton]
theorem addK_nd {ks : List (List Nat)} {q : List Nat} (h : ks.Nodup) : (addK ks q).Nodup := by
  unfold addK
  by_cases c : q ∈ ks
  · rw [if_pos c]; exact h
  · rw [if_neg c, List.nodup_append]
    exact ⟨h, by simp, fun x hx y hy => by
      have : y = q := by simpa using hy
      rw [this]
      exact fun z => c (by rw [← z]; exact hx)⟩
/-- the tuples and lists that a dict's values are -/
structure BTl (H : Hp) (ks : List (List Nat)) (f : BV) (tf lf : List Nat → Addr) : Prop where
  t : ∀ p ∈ ks, H (tf p) = some (.tup [.int (f p).1, .ref (lf p)])
  l : ∀ p ∈ ks, H (lf p) = some (.lst ((f p).2.map txV))
def refV (tf : List Nat → Addr) (p : List Nat) : V := .ref (tf p)
def Al (H0 H : Hp) : Prop := ∀ b, H b = none → H0 b = none
theorem Al.same {H0 H H' : Hp} (a : Al H0 H) (s : Same H H') : Al H0 H' := fun b e => a b (s.free e)
theorem Al.but {H0 H H' : Hp} {C : Addr} {o : HO} (a : Al H0 H) (s : But C H H') (h : H' C = some o) : Al H0 H' := fun b e => a b (by
  cases q : H b with
  | none => rfl
  | some u => rw [s b u (fun z => by rw [z, h] at e; cases e) q] at e; cases e)
abbrev KF := List (List Nat) × BV
/-- one laying more -/
def stB (f : BV) (s : KF) (p : List Nat) (x : Int × List Nat) : KF := if x.2 ∉ s.1 ∨ (f p).1 + x.1 < (s.2 x.2).1 then (addK s.1 x.2, putF s.2 x.2 ((f p).1 + x.1, (f p).2 ++ [x.2])) else s
def rowB (w : Nat) (d : Deed) (f : BV) (s : KF) (p : List Nat) : KF := (layF w p d).foldl (fun s x => stB f s p x) s
def nextB (w : Nat) (d : Deed) (s : KF) : KF := s.1.foldl (rowB w d s.2) ([], fun _ => (0, []))
def bestF (w : Nat) (ds : List Deed) : KF := ds.foldl (fun s d => nextB w d s) ([zeros w], fun _ => (0, []))
/-- the dict of what is behind, so far -/
def Beh (H0 H : Hp) (C : Addr) (w : Nat) (d : Deed) (ks : List (List Nat)) (f : BV) (Dn : List Nat → Int → List Nat → Prop) (st : KF) : Prop :=
  ∃ ks' f' tf' lf', st = (ks', f') ∧ H C = some (.dK (fm ks' (refV tf'))) ∧ BTl H ks' f' tf' lf' ∧ (∀ p ∈ ks', H0 (lf' p) = none) ∧ Mid w d ks f Dn ks' f'
theorem BTl.mono {H H' : Hp} {ks : List (List Nat)} {f : BV} {tf lf : List Nat → Addr} (b : BTl H ks f tf lf) (st : ∀ y xs, H y = some (.tup xs) → H' y = some (.tup xs)) (sl : ∀ y xs, H y = some (.lst xs) → H' y = some (.lst xs)) : BTl H' ks f tf lf := ⟨fun p hp => st _ _ (b.t p hp), fun p hp => sl _ _ (b.l p hp)⟩
theorem Beh.imp {st : KF} {H0 H : Hp} {C : Addr} {w : Nat} {d : Deed} {ks : List (List Nat)} {f : BV} {Dn Dn' : List Nat → Int → List Nat → Prop} (b : Beh H0 H C w d ks f Dn st) (h : ∀ p c q, Dn' p c q → Dn p c q) : Beh H0 H C w d ks f Dn' st := by
  obtain ⟨ks', f', tf', lf', a0, a1, a2, a3, a4⟩ := b
  exact ⟨ks', f', tf', lf', a0, a1, a2, a3, a4.imp h⟩
theorem Beh.same {st : KF} {H0 H H' : Hp} {C : Addr} {w : Nat} {d : Deed} {ks : List (List Nat)} {f : BV} {Dn : List Nat → Int → List Nat → Prop} (b : Beh H0 H C w d ks f Dn st) (s : Same H H') : Beh H0 H' C w d ks f Dn st := by
  obtain ⟨ks', f', tf', lf', a0, a1, a2, a3, a4⟩ := b
  exact ⟨ks', f', tf', lf', a0, s _ _ a1, a2.mono (fun _ _ e => s _ _ e) (fun _ _ e => s _ _ e), a3, a4⟩
theorem beh_put {H0 H H3 : Hp} {C T L : Addr} {w : Nat} {d : Deed} {ks ks' : List (List Nat)} {f f' : BV} {tf' lf' : List Nat → Addr} {Dn : List Nat → Int → List Nat → Prop} {p q : List Nat} {c : Int} (hC : H C = some (.dK (fm ks' (refV tf')))) (bt : BTl H ks' f' tf' lf') (fr : ∀ p ∈ ks', H0 (lf' p) = none) (M : Mid w d ks f Dn ks' f')
    (s : Same H H3) (hT : H3 T = some (.tup [.int ((f p).1 + c), .ref L])) (hL : H3 L = some (.lst (((f p).2 ++ [q]).map txV))) (nL : H0 L = none) (hp : p ∈ ks) (hc : costM p q d = some c) (hb : isBits q = true) (hl : q.length = w) (lt : q ∉ ks' ∨ (f p).1 + c < (f' q).1) :
    Beh H0 (upd H3 C (.dK (putK (fm ks' (refV tf')) (Sum.inr (Tx q)) (.ref T)))) C w d ks f (fun a b e => Dn a b e ∨ (a = p ∧ b = c ∧ e = q)) (stB f (ks', f') p (c, q)) := by
  have hC3 := s _ _ hC
  have kt : ∀ y xs, H3 y = some (.tup xs) → (upd H3 C (.dK (putK (fm ks' (refV tf')) (Sum.inr (Tx q)) (.ref T)))) y = some (.tup xs) := fun y xs e => by rw [upd_ne (fun z => by rw [z, hC3] at e; cases e)]; exact e
  have kl : ∀ y xs, H3 y = some (.lst xs) → (upd H3 C (.dK (putK (fm ks' (refV tf')) (Sum.inr (Tx q)) (.ref T)))) y = some (.lst xs) := fun y xs e => by rw [upd_ne (fun z => by rw [z, hC3] at e; cases e)]; exact e
  refine ⟨addK ks' q, putF f' q ((f p).1 + c, (f p).2 ++ [q]), (fun x => if x = q then T else tf' x), (fun x => if x = q then L else lf' x), if_pos lt, ?_, ⟨fun x hx => ?_, fun x hx => ?_⟩, fun x hx => ?_, mid_put M hp hc hb hl (addK_nd M.nd) (fun x => addK_mem) lt⟩
  · rw [upd_same, put_add]
    have e : (fun x => if x = q then V.ref T else refV tf' x) = refV (fun x => if x = q then T else tf' x) := funext fun x => by
      show (if x = q then V.ref T else V.ref (tf' x)) = V.ref (if x = q then T else tf' x)
      split <;> rfl
    rw [e]
  · by_cases z : x = q
    · subst z
      rw [putF_same]
      show _ = some (HO.tup [V.int _, V.ref (if x = x then L else lf' x)])
      rw [if_pos rfl, if_pos rfl]
      exact kt _ _ hT
    · rw [putF_ne z]
      show _ = some (HO.tup [V.int _, V.ref (if x = q then L else lf' x)])
      rw [if_neg z, if_neg z]
      exact kt _ _ (s _ _ (bt.t x ((addK_mem.mp hx).elim id fun y => absurd y z)))
  · by_cases z : x = q
    · subst z
      rw [putF_same, show (if x = x then L else lf' x) = L from if_pos rfl]
      exact kl _ _ hL
    · rw [putF_ne z, show (if x = q then L else lf' x) = lf' x from if_neg z]
      exact kl _ _ (s _ _ (bt.l x ((addK_mem.mp hx).elim id fun y => absurd y z)))
  · by_cases z : x = q
    · show H0 (if x = q then L else lf' x) = none
      rw [if_pos z]; exact nL
    · show H0 (if x = q then L else lf' x) = none
      rw [if_neg z]
      exact fr x ((addK_mem.mp hx).elim id fun y => absurd y z)
def SLb (w : Nat) (B t C : Addr) (x4 x5 x6 x7 x8 : Option V) : L2.St := [some (.int w), some (.ref B), some (.ref t), some (.ref C), x4, x5, x6, x7, x8]
/-- one laying -/
def tCand : L2.TS := fun D σ H => ∃ (H0 : Hp) (w : Nat) (B t C Lp : Addr) (p q : List Nat) (c : Int) (d : Deed) (ks : List (List Nat)) (f : BV) (Dn : List Nat → Int → List Nat → Prop) (st : KF), σ = SLb w B t C (some (.str (Tx p))) (some (.int (f p).1)) (some (.ref Lp)) (some (.int c)) (some (.str (Tx q))) ∧
  Beh H0 H C w d ks f Dn st ∧ Al H0 H ∧ H Lp = some (.lst ((f p).2.map txV)) ∧ (f p).2.length ≤ 1000 ∧ p ∈ ks ∧ costM p q d = some c ∧ isBits q = true ∧ q.length = w ∧ w ≤ 6 ∧ ∀ H', But C H H' → Al H0 H' → Beh H0 H' C w d ks f (fun a b e => Dn a b e ∨ (a = p ∧ b = c ∧ e = q)) (stB f st p (c, q)) → D.nx σ H'
structure BAt (H : Hp) (B : Addr) (ks : List (List Nat)) (f : BV) (tf lf : List Nat → Addr) : Prop where
  d : H B = some (.dK (fm ks (refV tf)))
  b : BTl H ks f tf lf
def spBest : Sp := fun vs H Q _ => ∃ (w : Nat) (B t : Addr) (d : Deed) (ds : List Deed) (n k : Nat) (ks : List (List Nat)) (f : BV) (tf lf : List Nat → Addr), vs = [.int w, .ref B, .ref t] ∧ 1 ≤ w ∧ w ≤ 6 ∧ ds.length ≤ 500 ∧ cnt w 0 ds = some n ∧ step1 w n d = some k ∧ H t = some (.tup [.str (wd d.1), .int d.2]) ∧ Bst w ds ks f ∧ BAt H B ks f tf lf ∧
  ∀ H' C ks' f' tf' lf', Same H H' → H C = none → BAt H' C ks' f' tf' lf' → (∀ p ∈ ks', H (lf' p) = none) → Bst w (ds ++ [d]) ks' f' → (ks', f') = nextB w d (ks, f) → Q (.ref C) H'
theorem bst_le {w : Nat} (h6 : w ≤ 6) {ds : List Deed} {ks : List (List Nat)} {f : BV} (b : Bst w ds ks f) : ks.length ≤ 64 := ks_le h6 b.nd fun p hp => by
  obtain ⟨a1, a2, _⟩ := way_ok (b.so p hp) h6
  exact ⟨a1, a2⟩
theorem mid_le {w : Nat} (h6 : w ≤ 6) {d : Deed} {ks0 : List (List Nat)} {f0 : BV} {Dn : List Nat → Int → List Nat → Prop} {ks : List (List Nat)} {f : BV} (m : Mid w d ks0 f0 Dn ks f) : ks.length ≤ 64 := ks_le h6 m.nd fun p hp => by
  obtain ⟨a1, a2, _⟩ := m.so p hp
  exact ⟨a1, a2⟩
section
variable {P : Program} {w : World} {K : PySem.W.Frag} {mg : Str → Option Value} {base : Heap} {cc : Nat → Addr}
abbrev s_best_behind : Stmt := top 31
theorem sc_best_behind : FnScope ["wide", "best", "deed", "behind", "pattern", "moves", "patterns", "moved", "laid"] ["wide", "best", "deed"] (defScope s_best_behind) := ⟨rfl, rfl, rfl, by decide +kernel, rfl, by decide +kernel, by decide +kernel⟩

theorem ok_best {f : Addr} {fd : FuncData} (F : Fun K "best_behind" "best_behind" s_best_behind f fd) (T : Txt K mg) (OL : OwnS P w K mg base 2 "layings" ["wide", "pattern", "deed"] spLay) : FnOk P w K mg base CX0 3 f fd ["wide", "best", "deed"] spBest := by
  refine F.ok sc_best_behind (fun vs H Q E h => ?_) (fun cdv A outer s H vs Q E hr h => ?_)
  · obtain ⟨_, _, _, _, _, _, _, _, _, _, _, rfl, _⟩ := h
    rfl
  · obtain ⟨w, B, t, d, ds, n, k, ks, f, tf, lf, rfl, h1, h6, hds, hc, hst, ht, bst, bat, kq⟩ := h
    have nd := sc_best_behind.nd
    refine ⟨_, (pss_cons (ps_set (i := 3) nd rfl (by first | exact Or.inl rfl | exact Or.inr rfl) pe_dnewK)
      (pss_cons (ps_lock (ps_for PassesOwn.never rfl (pi_items (pv 1)) (pg_tup rfl (pgs_cons (pg_name (i := 4) nd rfl (by first | exact Or.inl rfl | exact Or.inr rfl)) (pgs_cons (pg_tup rfl (pgs_cons (pg_name (i := 5) nd rfl (by first | exact Or.inl rfl | exact Or.inr rfl)) (pgs_cons (pg_name (i := 6) nd rfl (by first | exact Or.inl rfl | exact Or.inr rfl)) pgs_nil))) pgs_nil)))
      (pss_one (ps_for PassesOwn.never rfl (pi_list (pe_own OL (hr.mono (by decide)) (pa_cons (pv 0) (pa_cons (pv 4) (pa_cons (pv 2) pa_nil))))) (pg_tup rfl (pgs_cons (pg_name (i := 7) nd rfl (by first | exact Or.inl rfl | exact Or.inr rfl)) (pgs_cons (pg_name (i := 8) nd rfl (by first | exact Or.inl rfl | exact Or.inr rfl)) pgs_nil)))
      (pss_one (ps_imp (t' := tCand) (ps_if (PW.pt (pw_or (pt_cmp (pc_dnotin (hu_of hr) (pv 8) (pv 3)) (by with_unfolding_all rfl)) (pw_or1 (pt_cmpR op_lt (pe_op op_add (pv 5) (pv 7)) (pe_ix (r := rIxT K) ix_tup (pe_dget (hu_of hr) (pv 3) (pv 8) (fun _ _ => rfl)) pe_int (fun _ _ => rfl)) (nomark _))))) (pss_one (ps_dput (hu_of hr) (pv 3) (pv 8) (pe_tup (pa_cons (pe_op op_add (pv 5) (pv 7)) (pa_cons (pe_op op_cat (pv 6) (pe_lst (pa_cons (pv 8) pa_nil))) pa_nil))) rfl)) pss_nil) ?cand))))))
      (pss_one (ps_ret (pv 3))))), ?main⟩
    case cand =>
      intro D σ H ⟨H0, w, B, t, C, Lp, p, q, c, d, ks, f, Dn, st, es, beh, al, hLp, hlen, hp, hc, hb, hl, h6, kn⟩
      subst es
      obtain ⟨ks', f', tf', lf', est, hC, bt, fr, M⟩ := id beh
      subst est
      have k64 := mid_le h6 M
      have g := DGet.k (k := Sum.inr (Tx q)) hC
      have wr : (q ∉ ks' ∨ (f p).1 + c < (f' q).1) → ∀ D' : Ends, (∀ H', But C H H' → Al H0 H' → Beh H0 H' C w d ks f (fun a b e => Dn a b e ∨ (a = p ∧ b = c ∧ e = q)) (stB f (ks', f') p (c, q)) → D'.nx (SLb w B t C (some (.str (Tx p))) (some (.int (f p).1)) (some (.ref Lp)) (some (.int c)) (some (.str (Tx q)))) H') →
          sDPut (tVar 3) (tVar 8) (tTup (tCons (tOp (rI0 fun i j => .int (i + j)) (tVar 5) (tVar 7)) (tCons (tOp rCat (tVar 6) (tLst (tCons (tVar 8) tNil))) tNil))) D' (SLb w B t C (some (.str (Tx p))) (some (.int (f p).1)) (some (.ref Lp)) (some (.int c)) (some (.str (Tx q)))) H := fun lt D' kd => by
        refine ⟨_, rfl, _, rfl, _, _, rfl, rfl, _, rfl, _, rfl, (show 1 ≤ sizeLine by decide), fun E hE => ?_⟩
        have sE : Same H (upd H E (.lst [.str (Tx q)])) := Same.new' (Same.refl _) hE
        have eE : (upd H E (.lst [.str (Tx q)])) E = some (.lst [.str (Tx q)]) := upd_same
        generalize upd H E (.lst [.str (Tx q)]) = H1 at *
        refine ⟨Lp, E, _, _, rfl, rfl, sE _ _ hLp, eE, by rw [List.length_map, sizeLine_eq]; show (f p).2.length + 1 ≤ _; omega, fun L hL => ⟨(show 2 ≤ sizeLine by decide), fun T hT => ?_⟩⟩
        have sL : Same H (upd H1 L (.lst ((f p).2.map txV ++ [.str (Tx q)]))) := Same.new' sE hL
        have eL : (upd H1 L (.lst ((f p).2.map txV ++ [.str (Tx q)]))) L = some (.lst (((f p).2 ++ [q]).map txV)) := by rw [upd_same, List.map_append]; rfl
        have nL : H0 L = none := al L (sE.free hL)
        generalize upd H1 L (.lst ((f p).2.map txV ++ [.str (Tx q)])) = H2 at *
        have sT : Same H (upd H2 T (.tup [.int ((f p).1 + c), .ref L])) := Same.new' sL hT
        have eT : (upd H2 T (.tup [.int ((f p).1 + c), .ref L])) T = some (.tup [.int ((f p).1 + c), .ref L]) := upd_same
        have eL3 : (upd H2 T (.tup [.int ((f p).1 + c), .ref L])) L = some (.lst (((f p).2 ++ [q]).map txV)) := upd_keep hT eL
        generalize upd H2 T (.tup [.int ((f p).1 + c), .ref L]) = H3 at *
        refine ⟨_, rfl, _, rfl, C, _, rfl, DPut.k (k := Sum.inr (Tx q)) (sT _ _ hC) (by rw [fm_len, sizeLine_eq]; omega), ?_⟩
        have bC : But C H (upd H3 C (.dK (putK (fm ks' (refV tf')) (Sum.inr (Tx q)) (.ref T)))) := fun y o a e => by rw [upd_ne a]; exact sT _ _ e
        exact kd _ bC (al.but bC upd_same) (beh_put hC bt fr M sT eT eL3 nL hp hc hb hl lt)
      by_cases hq : q ∈ ks'
      · rw [val_in _ hq] at g
        refine ⟨_, rfl, _, rfl, C, _, rfl, g, _, rfl, iteF ⟨_, rfl, _, rfl, _, _, rfl, rfl, _, rfl, _, rfl, C, _, rfl, g, tf' q, _, _, .int (f' q).1, rfl, rfl, SqT.of (bt.t q hq), at_of (j := 0) rfl rfl, _, _, rfl, rfl, _, rfl, ite2 (fun hv => ?_) (fun hv => ?_)⟩⟩
        · exact wr (.inr (of_decide_eq_true hv)) _ kn
        · refine kn H (But.refl C H) al ⟨ks', f', tf', lf', if_neg (fun z => z.elim (fun y => y hq) fun y => hv (decide_eq_true y)), hC, bt, fr, mid_skip M hq fun z => hv (decide_eq_true z)⟩
      · rw [val_out _ hq] at g
        refine ⟨_, rfl, _, rfl, C, _, rfl, g, _, rfl, iteT ?_⟩
        exact wr (.inl hq) _ kn
    case main =>
      refine fun C hC => ?_
      have sC : Same H (upd H C (.dK [])) := Same.new' (Same.refl _) hC
      have eC : (upd H C (.dK [])) C = some (.dK []) := upd_same
      have nBC : B ≠ C := ne_of_none bat.d hC
      generalize upd H C (.dK []) = H1 at *
      have hB1 := sC _ _ bat.d
      refine ⟨B, _, hB1, trivial, fun od => ?_⟩
      have bL : But B H (upd H1 B (.frz od (.dK (fm ks (refV tf))))) := fun y o a e => by rw [upd_ne a]; exact sC _ _ e
      have eB : (upd H1 B (.frz od (.dK (fm ks (refV tf))))) B = some (.frz od (.dK (fm ks (refV tf)))) := upd_same
      have eC2 : (upd H1 B (.frz od (.dK (fm ks (refV tf))))) C = some (.dK []) := by rw [upd_ne (Ne.symm nBC)]; exact eC
      generalize upd H1 B (.frz od (.dK (fm ks (refV tf)))) = H2 at *
      refine ⟨_, rfl, B, od, _, rfl, eB, ?_⟩
      refine for_it (walk_items (d := B) (o := od) (kvs := fm ks (refV tf))) (fun i σ H' => ∃ x4 x5 x6 x7 x8, σ = SLb w B t C x4 x5 x6 x7 x8 ∧ But B H H' ∧ Al H H' ∧ H' B = some (.frz od (.dK (fm ks (refV tf)))) ∧ Beh H H' C w d ks f (fun a b e => a ∈ ks.take i ∧ isBits e = true ∧ e.length = w ∧ costM a e d = some b) ((ks.take i).foldl (rowB w d f) ([], fun _ => (0, []))))
        ⟨_, _, _, _, _, rfl, bL, (fun b e => by
          cases q : H b with
          | none => rfl
          | some u =>
            by_cases z : b = B
            · rw [z, eB] at e; cases e
            · rw [bL b u z q] at e; cases e), eB, ⟨[], fun _ => (0, []), fun _ => 0, fun _ => 0, rfl, eC2, ⟨(fun _ z => by cases z), (fun _ z => by cases z)⟩, (fun _ z => by cases z), (mid0 _).imp fun a b e z => by simp at z⟩⟩ (fun i σ H' _ ⟨_, _, _, _, _, _, _, _, e, _⟩ => e) ?_ ?_
      · rintro i v σ H3 H4 hi ⟨x4, x5, x6, x7, x8, rfl, b3, al3, hB3, beh3⟩ ⟨Z, x, y, rfl, hZ, rfl, ex, ey⟩
        rw [fm_len] at hi
        obtain ⟨p, hp⟩ : ∃ p, ks[i]? = some p := ⟨_, List.getElem?_eq_getElem hi⟩
        have hpk := List.mem_of_getElem? hp
        have ef : (fm ks (refV tf))[i]? = some (Sum.inr (Tx p), .ref (tf p)) := by unfold fm; rw [List.getElem?_map, hp]; rfl
        have ex : (fm ks (refV tf))[i]?.map (fun kv => kV kv.1) = some x := ex
        have ey : (fm ks (refV tf))[i]?.map Prod.snd = some y := ey
        rw [ef] at ex ey
        obtain rfl : V.str (Tx p) = x := Option.some.inj ex
        obtain rfl : V.ref (tf p) = y := Option.some.inj ey
        have sZ : Same H3 (upd H3 Z (.tup [.str (Tx p), .ref (tf p)])) := Same.new' (Same.refl _) hZ
        have eZ : (upd H3 Z (.tup [.str (Tx p), .ref (tf p)])) Z = some (.tup [.str (Tx p), .ref (tf p)]) := upd_same
        generalize upd H3 Z (.tup [.str (Tx p), .ref (tf p)]) = H4 at *
        obtain ⟨pb, pl', pq, _⟩ := way_ok (bst.so p hpk) h6
        have pm := way_many (bst.so p hpk) hc
        have hT0 := bat.b.t p hpk
        have hL0 := bat.b.l p hpk
        have nTB : tf p ≠ B := fun z => by rw [z, bat.d] at hT0; cases hT0
        have nLB : lf p ≠ B := fun z => by rw [z, bat.d] at hL0; cases hL0
        have nt : t ≠ B := fun z => by rw [z, bat.d] at ht; cases ht
        have hTf := sZ _ _ (b3 _ _ nTB hT0)
        have hLf := sZ _ _ (b3 _ _ nLB hL0)
        have ht4 := sZ _ _ (b3 _ _ nt ht)
        refine ⟨Z, _, rfl, SqT.of eZ, rfl, _, _, rfl, _, _, rfl, tf p, _, rfl, SqT.of hTf, rfl, _, _, rfl, _, _, rfl, rfl, rfl, ?_⟩
        refine ⟨_, rfl, _, rfl, _, rfl, w, p, t, d, k, rfl, pb, pl', h1, h6, by rw [pm]; exact hst, ht4, fun H5 L ts ls s5 hLn hL hts hls hlen hlay => ⟨L, rfl, ⟨_, SqL.of hL⟩, ?_⟩⟩
        have tl := hts.length
        have s35 := sZ.trans s5
        have beh5 := beh3.same s35
        have hC5 : ∃ o, H5 C = some (.dK o) := by obtain ⟨_, _, _, _, _, a, _⟩ := beh5; exact ⟨_, a⟩
        obtain ⟨oC, hC5⟩ := hC5
        have kC : ∀ {H'} {y : Addr} {o : HO}, But C H5 H' → H5 y = some o → (∀ kvs, o ≠ .dK kvs) → H' y = some o := fun b e n => b _ _ (fun z => by rw [z, hC5] at e; exact n _ (Option.some.inj e).symm) e
        refine for_list (K := K) (a := L) (xs := ts.map V.ref) (fun j σ H' => ∃ x7 x8, σ = SLb w B t C (some (.str (Tx p))) (some (.int (f p).1)) (some (.ref (lf p))) x7 x8 ∧ But C H5 H' ∧ Al H H' ∧ Beh H H' C w d ks f (fun a b e => (a ∈ ks.take i ∧ isBits e = true ∧ e.length = w ∧ costM a e d = some b) ∨ (a = p ∧ (b, e) ∈ ls.take j)) ((ls.take j).foldl (fun s x => stB f s p x) ((ks.take i).foldl (rowB w d f) ([], fun _ => (0, [])))))
          ⟨x7, x8, rfl, But.refl C H5, al3.same s35, beh5.imp fun a b e z => by simpa using z⟩ (fun j σ H' _ ⟨_, _, _, b, _⟩ => SqL.of (kC b hL (fun _ z => by cases z))) ?_ ?_
        · rintro j x σ H6 hx ⟨x7, x8, rfl, b6, al6, beh6⟩
          obtain ⟨U, hU, rfl⟩ : ∃ u, ts[j]? = some u ∧ x = V.ref u := by
            rw [List.getElem?_map] at hx
            cases e : ts[j]? with
            | none => rw [e] at hx; cases hx
            | some u => rw [e] at hx; exact ⟨u, rfl, (Option.some.inj hx).symm⟩
          obtain ⟨⟨c, q⟩, hcq, hUq⟩ := Pd.get hts hU
          obtain ⟨q1, q2, q3⟩ := (hls c q).mp (List.mem_of_getElem? hcq)
          have hU6 := kC b6 hUq (fun _ z => by cases z)
          refine ⟨U, _, rfl, SqT.of hU6, rfl, _, _, rfl, _, _, rfl, rfl, ?_⟩
          refine ⟨H, w, B, t, C, lf p, p, q, c, d, ks, f, _, _, rfl, beh6, al6, kC b6 (s5 _ _ hLf) (fun _ z => by cases z), by omega, hpk, q3, q1, q2, h6, fun H' b' a' beh' => ⟨_, _, rfl, b6.trans b', a', ?_⟩⟩
          rw [take_succ' hcq, List.foldl_append]
          refine beh'.imp fun a b e z => ?_
          rcases z with z | ⟨z1, z2⟩
          · exact .inl (.inl z)
          · rcases List.mem_append.mp z2 with y | y
            · exact .inl (.inr ⟨z1, y⟩)
            · have y := List.mem_singleton.mp y
              exact .inr ⟨z1, (Prod.mk.inj y).1, (Prod.mk.inj y).2⟩
        · rintro σ H6 ⟨x7, x8, rfl, b6, al6, beh6⟩
          rw [List.length_map, tl, List.take_length] at beh6
          have hB5 := s35 _ _ hB3
          refine ⟨_, _, _, _, _, rfl, fun y o a e => ?_, al6, kC b6 hB5 (fun _ z => by cases z), ?_⟩
          · have h5 := s35 _ _ (b3 _ _ a e)
            exact b6 _ _ (fun z => by rw [z, hC] at e; cases e) h5
          · rw [take_succ' hp, List.foldl_append]
            rw [hlay] at beh6
            refine beh6.imp fun a b e z => ?_
            obtain ⟨z1, z2⟩ := z
            rcases List.mem_append.mp z1 with y | y
            · exact .inl ⟨y, z2⟩
            · have y := List.mem_singleton.mp y
              subst y
              exact .inr ⟨rfl, by rw [← hlay]; exact (hls b e).mpr z2⟩
      · rintro σ H3 ⟨x4, x5, x6, x7, x8, rfl, b3, al3, hB3, beh3⟩
        rw [fm_len, List.take_length] at beh3
        refine ⟨hB3, _, rfl, ?_⟩
        obtain ⟨ks', f', tf', lf', est, hC3, bt3, fr3, M3⟩ := beh3
        refine kq _ C ks' f' tf' lf' (fun y o e => ?_) hC ⟨by rw [upd_ne (Ne.symm nBC)]; exact hC3, bt3.mono (fun y xs e => by rw [upd_ne (fun z => by rw [z, hB3] at e; cases e)]; exact e) (fun y xs e => by rw [upd_ne (fun z => by rw [z, hB3] at e; cases e)]; exact e)⟩ fr3 (mid_end bst M3 fun a b e z1 z2 z3 z4 => ⟨z1, z2, z3, z4⟩) est.symm
        by_cases z : y = B
        · rw [z, bat.d] at e
          cases e
          rw [z]; exact upd_same
        · rw [upd_ne z]; exact b3 _ _ z e
end
end CK

namespace CK
open PySem L2 PyProof.Rows

theorem boot_minQ : bootBuiltins "min" = some (.builtin "min") := by decide +kernel
/-! ### deeds checked -/
def spChk : Sp := fun vs H Q _ => ∃ (w : Nat) (A : Addr) (as : List Addr) (ds : List Deed) (n : Nat), vs = [.int w, .ref A] ∧ 1 ≤ w ∧ w ≤ 6 ∧ ds.length ≤ 12 ∧ cnt w 0 ds = some n ∧ H A = some (.lst (as.map V.ref)) ∧ Tups H as ds ∧ ∀ H', Same H H' → Q .non H'
theorem bst_ne {w : Nat} (h1 : 1 ≤ w) (h6 : w ≤ 6) {ds : List Deed} {n : Nat} (hc : cnt w 0 ds = some n) {ks : List (List Nat)} {f : BV} (B : Bst w ds ks f) : 0 < ks.length := by
  obtain ⟨qs, h⟩ := way_run (r := [110, 101, 97, 114]) (by decide) h1 h6 ds.length ds n rfl hc
  obtain ⟨a, _⟩ := B.co _ _ _ h
  exact List.length_pos_of_mem a
section
variable {P : Program} {w : World} {K : PySem.W.Frag} {mg : Str → Option Value} {base : Heap} {cc : Nat → Addr}
abbrev s_check_deeds : Stmt := top 30
theorem sc_check_deeds : FnScope ["wide", "deeds", "many", "number", "deed"] ["wide", "deeds"] (defScope s_check_deeds) := ⟨rfl, rfl, rfl, by decide +kernel, rfl, by decide +kernel, by decide +kernel⟩

theorem ok_chk {f : Addr} {fd : FuncData} (F : Fun K "check_deeds" "check_deeds" s_check_deeds f fd) (T : Txt K mg) (OC : Own P w K mg base cc 1 "can_be_done" ["wide", "many", "deed"] c_can_be_done) : FnOk P w K mg base CX0 2 f fd ["wide", "deeds"] spChk := by
  refine F.ok sc_check_deeds (fun vs H Q E h => ?_) (fun cdv A outer s H vs Q E hr h => ?_)
  · obtain ⟨_, _, _, _, _, rfl, _⟩ := h
    rfl
  · obtain ⟨w, a, as, ds, n, rfl, h1, h6, hd12, hc, ha, ht, kq⟩ := h
    have nd := sc_check_deeds.nd
    obtain ⟨tMD, hMD⟩ := T.x_MOST_DEEDS
    refine ⟨_, (pss_cons (ps_set (i := 2) nd rfl (by first | exact Or.inl rfl | exact Or.inr rfl) pe_int)
      (pss_one (ps_for PassesOwn.never rfl (pi_enum (by rfl) T.n_enumerate (pa_cons (pv 1) pa_nil)) (pg_tup rfl (pgs_cons (pg_name (i := 3) nd rfl (by first | exact Or.inl rfl | exact Or.inr rfl)) (pgs_cons (pg_name (i := 4) nd rfl (by first | exact Or.inl rfl | exact Or.inr rfl)) pgs_nil)))
      (pss_cons (ps_if (PW.pt (pw_or (pt_cmpR op_eq (pv 3) (pe_glob (v := .int 12) (by rfl) hMD ⟨_, rfl⟩) (nomark _)) (pw_or1 (pt_not (pt_val (pe_own OC (hr.mono (by decide)) (pa_cons (pv 0) (pa_cons (pv 2) (pa_cons (pv 4) pa_nil))))))))) (pss_one ps_never) pss_nil)
      (pss_one (ps_aug (i := 2) nd rfl (by first | exact Or.inl rfl | exact Or.inr rfl) (pe_ifExp (pt_cmpR op_eq (pe_ix (r := rIxT K) ix_tup (pv 4) pe_int (fun _ _ => rfl)) pe_str (nomark _)) pe_int (pe_un un_neg pe_int)) ip_add)))))), ?_⟩
    refine ⟨_, rfl, a, _, rfl, SqL.of ha, ?_⟩
    refine for_enum (K := K) (a := a) (xs := as.map V.ref) (fun i σ H' => ∃ (k : Nat) (x3 x4 : Option V), σ = [some (.int w), some (.ref a), some (.int k), x3, x4] ∧ Same H H' ∧ cnt w 0 (ds.take i) = some k) ⟨0, none, none, rfl, Same.refl _, rfl⟩ (fun i σ H' _ ⟨_, _, _, _, s, _⟩ => SqL.of (s _ _ ha)) ?_ ?_
    · rintro i x σ H3 T3 hx ⟨k, x3, x4, rfl, s3, hk⟩ hT3
      obtain ⟨t, hti, rfl⟩ : ∃ t, as[i]? = some t ∧ x = V.ref t := by
        rw [List.getElem?_map] at hx
        cases e : as[i]? with
        | none => rw [e] at hx; cases hx
        | some t => rw [e] at hx; exact ⟨t, rfl, (Option.some.inj hx).symm⟩
      obtain ⟨d, hdi, htd⟩ := Pd.get ht hti
      obtain ⟨k2, k', hk2, hk'⟩ := cnt_take hc hdi
      rw [hk] at hk2
      cases hk2
      have hi := (List.getElem?_eq_some_iff.mp hdi).1
      obtain ⟨zb, zm, zl⟩ := zeros_ok w
      obtain ⟨pb, pll, pm⟩ := run_state (r := [110, 101, 97, 114]) (by decide) h1 h6 (ds.take i) zb zl (by rw [zm]; exact hk)
      generalize (runM [110, 101, 97, 114] (zeros w) (ds.take i)).2 = p at *
      have g := good_step (r := [110, 101, 97, 114]) (d := d) (by decide) pb (by omega) (by omega) (by rw [pll, pm]; exact hk')
      have s4 : Same H3 (upd H3 T3 (.tup [.int (i : Nat), .ref t])) := Same.new' (Same.refl _) hT3
      have eT : (upd H3 T3 (.tup [.int (i : Nat), .ref t])) T3 = some (.tup [.int (i : Nat), .ref t]) := upd_same
      generalize upd H3 T3 (.tup [.int (i : Nat), .ref t]) = H4 at *
      have ht4 := s4 _ _ (s3 _ _ htd)
      refine ⟨T3, _, rfl, SqT.of eT, rfl, _, _, rfl, _, _, rfl, rfl, ?_⟩
      refine ⟨_, rfl, rfl, _, rfl, ?_⟩
      rw [decide_eq_false (show ¬ V.int (i : Nat) = V.int 12 from fun z => by have := V.int.inj z; omega)]
      obtain ⟨hC, eC, kC⟩ := isT_some g.can
      have eC : c_can_be_done [.int p.length, .int (many p), .ref 0] (CH.of [dT d]) = some (.bl true, hC) := eC
      refine iteF ⟨_, rfl, _, rfl, _, rfl, sp_keeps (cc := cc) (E := E0) (HR.one ht4 (dT_ro d)) (.cons (by rw [pll]; exact rvI _) (.cons (by rw [pm]; exact rvI _) (.cons (rvR (n := 0) rfl) .nil))) eC kC fun η5 H5 v5 s5 _ R5 rv5 => ⟨true, rv5, iteF ?_⟩⟩
      have ht5 := s5 _ _ ht4
      have ek : cnt w 0 (ds.take (i + 1)) = some k' := by rw [take_succ' hdi]; exact cnt_snoc hk hk'
      refine ⟨_, rfl, _, rfl, t, _, _, _, rfl, rfl, SqT.of ht5, at_of (j := 0) rfl rfl, rfl, _, rfl, ?_⟩
      obtain ⟨b, r⟩ := d
      cases b with
      | true =>
        have hk' : (if r ≤ k ∧ k < w then some (k + 1) else none) = some k' := hk'
        refine iteT ⟨_, _, rfl, rfl, ⟨k', some (.int (i : Nat)), some (.ref t), ?_, (s3.trans s4).trans s5, ek⟩⟩
        split at hk'
        · cases hk'; rfl
        · cases hk'
      | false =>
        have hk' : (if r < k then some (k - 1) else none) = some k' := hk'
        refine iteF ⟨_, rfl, _, _, rfl, rfl, ⟨k', some (.int (i : Nat)), some (.ref t), ?_, (s3.trans s4).trans s5, ek⟩⟩
        split at hk'
        · cases hk'
          rw [show ((k - 1 : Nat) : Int) = (k : Int) + -1 by omega]
          rfl
        · cases hk'
    · rintro σ H3 ⟨k, x3, x4, rfl, s3, hk⟩
      exact kq H3 s3
end
end CK

namespace CK
open PySem L2 PyProof.Rows LamX NdefX
/-- a def of the top whose code object is known -/
structure FunC (K : PySem.W.Frag) (x qual : Str) (st : Stmt) (c : Addr) (f : Addr) (fd : FuncData) : Prop where
  ex : ∃ (oc : Value) (od : Option Addr) (kV doc pm : Value) (an : Option Addr) (ct : Value) (osl : Array (Option Value)), fd = PySem.W.fnOf x qual (defArgs st) (defBody st) (defScope st) .none kV doc pm an (.ref c) ct ∧ K.lookup f = some ⟨oc, od, .func fd, osl⟩ ∧ PySem.W.codeIn K (.ref c) qual = true
def nmF : Nat → Nat → Str := fun _ _ => "fewest.<locals>.<lambda>"
def spFewest (P : Addr) : Sp := fun vs H Q _ => ∃ (w : Nat) (A : Addr) (as : List Addr) (ds : List Deed) (n : Nat), vs = [.int w, .ref A] ∧ 1 ≤ w ∧ w ≤ 6 ∧ ds.length ≤ 12 ∧ cnt w 0 ds = some n ∧ H A = some (.lst (as.map V.ref)) ∧ Tups H as ds ∧ TabsN [(P, nmF)] H ∧
  ∀ H' R L ks f p, ExtN H H' → TabsN [(P, nmF)] H' → H L = none → H' R = some (.tup [.int (f p).1, .ref L]) → H' L = some (.lst ((f p).2.map txV)) → Bst w ds ks f → p ∈ ks → (∀ q ∈ ks, (f p).1 ≤ (f q).1) → (∀ b, H' b = none → H b = none) → (ks, f) = bestF w ds → ks[bestIx (ks.map fun p => (f p).1)]? = some p → Q (.ref R) H'
theorem firsts_of {H : Hp} {f : BV} {tf lf : List Nat → Addr} : ∀ {ks : List (List Nat)}, (∀ p ∈ ks, H (tf p) = some (.tup [.int (f p).1, .ref (lf p)])) → Firsts H (ks.map tf) (ks.map fun p => (f p).1)
  | [], _ => .nil
  | p :: ks, h => .cons ⟨_, h p List.mem_cons_self⟩ (firsts_of fun q hq => h q (List.mem_cons_of_mem _ hq))
section
variable {P : Program} {w : World} {K : PySem.W.Frag} {mg : Str → Option Value} {base : Heap} {cc : Nat → Addr}
abbrev s_fewest : Stmt := top 29
theorem sc_fewest : FnScope ["wide", "deeds", "best", "deed"] ["wide", "deeds"] (defScope s_fewest) := ⟨rfl, rfl, rfl, by decide +kernel, rfl, by decide +kernel, by decide +kernel⟩

theorem ok_fewest {c Pt : Addr} {f : Addr} {fd : FuncData} (F : FunC K "fewest" "fewest" s_fewest c f fd) (T : Txt K mg) (TB : TabB base mg c Pt) (OW : Own P w K mg base cc 1 "check_width" ["wide"] c_check_width) (OC : OwnS P w K mg base 2 "check_deeds" ["wide", "deeds"] spChk) (OB : OwnS P w K mg base 3 "best_behind" ["wide", "best", "deed"] spBest) : FnOk P w K mg base CX0 4 f fd ["wide", "deeds"] (spFewest Pt) := by
  obtain ⟨oc, od, kV, doc, pm, an, ct, osl, rfl, lk, hcd⟩ := F.ex
  refine fn_of lk hcd sc_fewest (fun vs H Q E h => ?_) (fun A outer s H vs Q E hr h => ?_)
  · obtain ⟨_, _, _, _, _, rfl, _⟩ := h
    rfl
  · obtain ⟨w, a, as, ds, n, rfl, h1, h6, hd12, hc, ha, ht, hT, kq⟩ := h
    have nd := sc_fewest.nd
    have tl := ht.length
    obtain ⟨mok, emul⟩ := zero_mul h1 h6
    have body : ∃ t, PSs (cxOf CX0 P ‹World› K mg base ["wide", "deeds", "best", "deed"] "fewest" (defScope s_fewest) f (.ref c) A outer s H E).nox (defBody s_fewest) t ∧ t { nx := fun _ H' => Q .non H', rt := Q } (L2.start ["wide", "deeds", "best", "deed"] [.int w, .ref a]) H := by
      refine ⟨_, (pss_cons (ps_expr (pe_own OW (hr.mono (by decide)) (pa_cons (pv 0) pa_nil)))
      (pss_cons (ps_expr (pe_own OC (hr.mono (by decide)) (pa_cons (pv 0) (pa_cons (pv 1) pa_nil))))
      (pss_cons (ps_set (i := 2) nd rfl (by first | exact Or.inl rfl | exact Or.inr rfl) (pe_disp (pps_cons (pe_op op_mul_str pe_str (pv 0)) (pe_tup (pa_cons pe_int (pa_cons (pe_lst pa_nil) pa_nil))) pps_nil) (by rfl) (by rfl) (fun z => by cases z) (by decide)))
      (pss_cons (ps_for PassesOwn.never rfl (pi_list (pv 1)) (pg_name (i := 3) nd rfl (by first | exact Or.inl rfl | exact Or.inr rfl))
      (pss_one (ps_set (i := 2) nd rfl (by first | exact Or.inl rfl | exact Or.inr rfl) (pe_own OB (hr.mono (by decide)) (pa_cons (pv 0) (pa_cons (pv 2) (pa_cons (pv 3) pa_nil)))))))
      (pss_one (ps_ret (pe_callBK (cr_minKey rfl (hr.mono (by decide))) (by rfl) T.n_min boot_minQ (pa_cons (pe_lv rfl (pv 2) (by rfl) T.n_list boot_listQ) pa_nil) (pk_cons (pe_lm (T := [(Pt, nmF)]) (nm := nmF) TB rfl (List.mem_singleton.mpr rfl) rfl (fun p hp _ => by rw [List.mem_singleton.mp hp]) (fun y hy e => by simp at hy; rw [hy] at e; cases e) rfl) pk_nil)))))))), ?_⟩
      obtain ⟨hW, eW, kW⟩ := goodW_of h1 h6
      refine ⟨_, rfl, sp_keeps (cc := cc) (E := E0) HR.nil (.cons (rvI _) .nil) eW kW fun η2 H2 v2 s2 _ R2 rv2 => ?_⟩
      refine ⟨_, rfl, _, rfl, w, a, as, ds, n, rfl, h1, h6, hd12, hc, s2 _ _ ha, ht.mono (TS.same s2), fun H3 s3 => ?_⟩
      have s03 := s2.trans s3
      refine fun B0 hB0 => ⟨_, rfl, "0", w, rfl, rfl, mok, (show 0 ≤ sizeLine by decide), fun L0 hL0 => ⟨(show 2 ≤ sizeLine by decide), fun T0 hT0 => ?_⟩⟩
      have sB : Same H3 (upd H3 B0 (.dK [])) := Same.new' (Same.refl _) hB0
      have eB : (upd H3 B0 (.dK [])) B0 = some (.dK []) := upd_same
      generalize upd H3 B0 (.dK []) = H4 at *
      have sL := Same.new' (o := .lst []) sB hL0
      have eL : (upd H4 L0 (.lst [])) L0 = some (.lst []) := upd_same
      have eB5 : (upd H4 L0 (.lst [])) B0 = some (.dK []) := upd_keep hL0 eB
      have nL0 : H L0 = none := s03.free (sB.free hL0)
      generalize upd H4 L0 (.lst []) = H5 at *
      have sT := Same.new' (o := .tup [.int 0, .ref L0]) sL hT0
      have eT : (upd H5 T0 (.tup [.int 0, .ref L0])) T0 = some (.tup [.int 0, .ref L0]) := upd_same
      have eL6 : (upd H5 T0 (.tup [.int 0, .ref L0])) L0 = some (.lst []) := upd_keep hT0 eL
      have eB6 : (upd H5 T0 (.tup [.int 0, .ref L0])) B0 = some (.dK []) := upd_keep hT0 eB5
      generalize upd H5 T0 (.tup [.int 0, .ref L0]) = H6 at *
      refine ⟨eB6, [(Sum.inr (Tx (zeros w)), .ref T0)], by rw [emul]; rfl, by show 1 ≤ 15; decide, ?_⟩
      have eM : mergeK [] [((Sum.inr (Tx (zeros w)) : Key), V.ref T0)] = fm [zeros w] (refV fun _ => T0) := rfl
      rw [eM]
      have s07 : Same H (upd H6 B0 (.dK (fm [zeros w] (refV fun _ => T0)))) := fun y o e => by
        rw [upd_ne (fun z => by have := s03 _ _ e; rw [z, hB0] at this; cases this)]
        exact sT _ _ (s03 _ _ e)
      have b7 : BAt (upd H6 B0 (.dK (fm [zeros w] (refV fun _ => T0)))) B0 [zeros w] (fun _ => (0, [])) (fun _ => T0) (fun _ => L0) := ⟨upd_same, ⟨fun p hp => by rw [upd_ne (fun z => by rw [z, eB6] at eT; cases eT)]; exact eT, fun p hp => by rw [upd_ne (fun z => by rw [z, eB6] at eL6; cases eL6)]; exact eL6⟩⟩
      generalize upd H6 B0 (.dK (fm [zeros w] (refV fun _ => T0))) = H7 at *
      refine ⟨_, rfl, a, rfl, ⟨_, SqL.of (s07 _ _ ha)⟩, ?_⟩
      refine for_list (K := K) (a := a) (xs := as.map V.ref) (fun i σ H' => ∃ (B : Addr) (ks : List (List Nat)) (f : BV) (tf lf : List Nat → Addr) (x3 : Option V), σ = [some (.int w), some (.ref a), some (.ref B), x3] ∧ Same H H' ∧ BAt H' B ks f tf lf ∧ (∀ p ∈ ks, H (lf p) = none) ∧ Bst w (ds.take i) ks f ∧ (ks, f) = bestF w (ds.take i))
        ⟨B0, [zeros w], _, _, _, none, rfl, s07, b7, (fun p hp => nL0), bst0 w _ rfl, rfl⟩ (fun i σ H' _ ⟨_, _, _, _, _, _, _, s, _⟩ => SqL.of (s _ _ ha)) ?_ ?_
      · rintro i x σ H8 hx ⟨B, ks, f, tf, lf, x3, rfl, s8, bat, fr, bst, bf⟩
        obtain ⟨t, hti, rfl⟩ : ∃ t, as[i]? = some t ∧ x = V.ref t := by
          rw [List.getElem?_map] at hx
          cases e : as[i]? with
          | none => rw [e] at hx; cases hx
          | some t => rw [e] at hx; exact ⟨t, rfl, (Option.some.inj hx).symm⟩
        obtain ⟨d, hdi, htd⟩ := Pd.get ht hti
        obtain ⟨k, k', hk, hk'⟩ := cnt_take hc hdi
        refine ⟨_, rfl, _, rfl, _, rfl, w, B, t, d, ds.take i, k, k', ks, f, tf, lf, rfl, h1, h6, by rw [List.length_take]; omega, hk, hk', s8 _ _ htd, bst, bat, fun H9 C ks' f' tf' lf' s9 hC bat' fr' bst' nb => ?_⟩
        exact ⟨C, ks', f', tf', lf', _, rfl, s8.trans s9, bat', fun p hp => s8.free (fr' p hp), by rw [take_succ' hdi]; exact bst', by rw [take_succ' hdi]; unfold bestF at bf ⊢; rw [List.foldl_append, ← bf]; exact nb⟩
      · rintro σ H8 ⟨B, ks, f, tf, lf, x3, rfl, s8, bat, fr, bst, bf⟩
        rw [List.length_map, tl, List.take_length] at bst bf
        refine ⟨_, rfl, B, _, rfl, bat.d, fun L hL => ?_⟩
        have s9 : Same H8 (upd H8 L (.lst ((fm ks (refV tf)).map Prod.snd))) := Same.new' (Same.refl _) hL
        have eL9 : (upd H8 L (.lst ((fm ks (refV tf)).map Prod.snd))) L = some (.lst ((ks.map tf).map V.ref)) := by
          rw [upd_same]
          congr 2
          unfold fm refV
          rw [List.map_map, List.map_map]
          rfl
        generalize upd H8 L (.lst ((fm ks (refV tf)).map Prod.snd)) = H9 at *
        refine ⟨hT.ext fun b o e => s9 _ _ (s8 _ _ e), fun fl c' H10 ext nn tabs hfl hfo hco => ?_⟩
        have k1 := bst_ne h1 h6 hc bst
        have kt : ∀ p ∈ ks, H10 (tf p) = some (.tup [.int (f p).1, .ref (lf p)]) := fun p hp => ext _ _ (s9 _ _ (bat.b.t p hp)) (fun _ z => by cases z)
        obtain ⟨m, hm, hle⟩ := bestIx_ok (ks := ks.map fun p => (f p).1) (by rw [List.length_map]; exact k1)
        refine ⟨L, fl, _, ks.map tf, ks.map fun p => (f p).1, rfl, rfl, SqL.of (ext _ _ eL9 (fun _ z => by cases z)), firsts_of kt, by rw [List.length_map]; exact k1, hfo, hco, ⟨"told", nscope_by (sc := ⟨.function, [("told", .local)], false, false, []⟩) (by decide +kernel), rfl, fun v pm ctv => rfl, fun f A outer s H E => pe_ix (r := rIxT _) ix_tup (pv 0) pe_int (fun _ _ => rfl)⟩, fun t ht => ?_⟩
        rw [List.getElem?_map] at ht hm
        obtain ⟨p, hp⟩ : ∃ p, ks[bestIx (ks.map fun p => (f p).1)]? = some p := by
          cases e : ks[bestIx (ks.map fun p => (f p).1)]? with
          | none => rw [e] at ht; cases ht
          | some p => exact ⟨p, rfl⟩
        rw [hp] at ht hm
        cases ht
        cases hm
        have hpk := List.mem_of_getElem? hp
        refine kq H10 (tf p) (lf p) ks f p (fun b o e n => ext _ _ (s9 _ _ (s8 _ _ e)) n) tabs (fr p hpk) (kt p hpk) (ext _ _ (s9 _ _ (bat.b.l p hpk)) (fun _ z => by cases z)) bst hpk (fun q hq => hle _ (List.mem_map.mpr ⟨q, hq, rfl⟩)) (fun b e => s8.free (s9.free (nn b e))) bf hp
    obtain ⟨t, hb, ht⟩ := body
    exact ⟨t, hb.nox, ht⟩
end
end CK

namespace CK
open PySem L2 PyProof.Rows
section
variable {P : Program} {w : World} {K : PySem.W.Frag} {mg : Str → Option Value} {base : Heap} {cc : Nat → Addr}
abbrev s__law_alike : Stmt := top 52
theorem sc__law_alike : FnScope ["_law_found", "_law_due", "_law_k"] ["_law_found", "_law_due"] (defScope s__law_alike) := ⟨rfl, rfl, rfl, by decide +kernel, rfl, by decide +kernel, by decide +kernel⟩
/-- isinstance(slot i, T) as a term -/
theorem p_isi {X : Cx} {i : Nat} {x : Str} {m : String} {y : Str} {p q r pos : Pos} (hv : PE X (.Name x p) (tVar i)) (hg : Gl X "isinstance") (hm : X.mg "isinstance" = none) (ht : PE X (.Name y q) (tC (.ty m)))
    (he : starEach [.Name x p, .Name y q] X.env = (false, eval (.Name x p) X.env) :: starEach [.Name y q] X.env := by rfl) (he2 : starEach [.Name y q] X.env = (false, eval (.Name y q) X.env) :: starEach [] X.env := by rfl) (hpl : (backTo pos (starEach [.Name y q] X.env)).any (·.1) = false := by rfl) :
    PE X (.Call (.Name "isinstance" r) [.Name x p, .Name y q] [] pos) (tCB (rIsi X.K) (tCons (tVar i) (tCons (tC (.ty m)) tNil))) :=
  pe_callB call_isi hg hm boot_isi (pa_cons hv (pa_cons ht pa_nil he2) he) (he := he) (hpl := hpl)
theorem rix_of {K : PySem.W.Frag} {H : Hp} {a : Addr} {xs : List V} {i : Nat} {v : V} {Q : VK} (h : H a = some (.lst xs) ∨ H a = some (.tup xs)) (e : xs[i]? = some v) (q : Q v H) : rIx K (.ref a) (.int (0 + (i : Nat))) H Q := by
  have ea : atI xs (0 + ((i : Nat) : Int)) = some v := at_of (j := i) (by omega) e
  rcases h with h | h
  · exact .inl ⟨a, xs, _, v, rfl, rfl, SqL.of h, ea, q⟩
  · exact .inr (.inl ⟨a, xs, _, v, rfl, rfl, SqT.of h, ea, q⟩)
theorem sq_of {K : PySem.W.Frag} {H : Hp} {a : Addr} {xs : List V} (h : H a = some (.lst xs) ∨ H a = some (.tup xs)) : SqL K H a xs ∨ SqT K H a xs := by
  rcases h with h | h
  · exact .inl (SqL.of h)
  · exact .inr (SqT.of h)
theorem ty_of {K : PySem.W.Frag} {H : Hp} {a : Addr} {xs : List V} (h : H a = some (.lst xs) ∨ H a = some (.tup xs)) : (TyOf K H (.ref a) (.type "list") ∧ H a = some (.lst xs)) ∨ (TyOf K H (.ref a) (.type "tuple") ∧ H a = some (.tup xs)) := by
  rcases h with h | h
  · exact .inl ⟨.lst h, h⟩
  · exact .inr ⟨.tup h, h⟩
theorem upd_same_of {H H' : Hp} {D : Addr} {o : HO} (hD : H D = none) (s : Same H H') : Same H (upd H' D o) := fun b u e => by
  rw [upd_ne (ne_of_none e hD)]
  exact s b u e
/-- one level: what the items want is spIt -/
theorem ok_alike_step {f : Addr} {fd : FuncData} {k : Nat} {spIt : Sp} (F : Fun K "_law_alike" "_law_alike" s__law_alike f fd) (T : Txt K mg) (R : Hp → V → V → Prop) (hR : ∀ H H' x y, Same H H' → R H x y → R H' x y)
    (O : OwnS P w K mg base k "_law_alike" ["_law_found", "_law_due"] spIt) (hIt : ∀ H x y (Q : VK), R H x y → (∀ H', Same H H' → Q (.bl true) H') → spIt [x, y] H Q E0) :
    FnOk P w K mg base CX0 (k + 1) f fd ["_law_found", "_law_due"] (fun vs H Q _ => ∃ x y, vs = [x, y] ∧ (Alk H 0 x y ∨ ∃ a b xs ys, x = .ref a ∧ y = .ref b ∧ ((H a = some (.lst xs) ∧ H b = some (.lst ys)) ∨ (H a = some (.tup xs) ∧ H b = some (.tup ys))) ∧ Paired (R H) xs ys ∧ xs.length ≤ 4000) ∧ ∀ H', Same H H' → Q (.bl true) H') := by
  refine F.ok sc__law_alike (fun vs H Q E h => ?_) (fun cdv A outer s H vs Q E hr h => ?_)
  · obtain ⟨x, y, rfl, _⟩ := h
    rfl
  · obtain ⟨x, y, rfl, h, kq⟩ := h
    refine ⟨_, pss_cons (ps_if (pt_cmp (pc_isN (pv 1))) (pss_one (ps_ret (pe_cmp (pc_isN (pv 0))))) pss_nil)
      (pss_cons (ps_if (pt_val (p_isi (pv 1) (by rfl) T.n_isinstance (pe_bltn (by rfl) T.n_bool boot_bool' rfl))) (pss_one (ps_ret (pe_and (p_isi (pv 0) (by rfl) T.n_isinstance (pe_bltn (by rfl) T.n_bool boot_bool' rfl)) (pe_one (pe_cmpR op_eq (pv 0) (pv 1) (nomark _)))))) pss_nil)
      (pss_cons (ps_if (pt_val (p_isi (pv 1) (by rfl) T.n_isinstance (pe_bltn (by rfl) T.n_int boot_int' rfl))) (pss_one (ps_ret (pe_and (p_isi (pv 0) (by rfl) T.n_isinstance (pe_bltn (by rfl) T.n_int boot_int' rfl)) (pe_and (pe_not (p_isi (pv 0) (by rfl) T.n_isinstance (pe_bltn (by rfl) T.n_bool boot_bool' rfl))) (pe_one (pe_cmpR op_eq (pv 0) (pv 1) (nomark _))))))) pss_nil)
      (pss_cons (ps_if (pt_val (p_isi (pv 1) (by rfl) T.n_isinstance (pe_bltn (by rfl) T.n_str boot_str' rfl))) (pss_one (ps_ret (pe_and (p_isi (pv 0) (by rfl) T.n_isinstance (pe_bltn (by rfl) T.n_str boot_str' rfl)) (pe_one (pe_cmpR op_eq (pv 0) (pv 1) (nomark _)))))) pss_nil)
      (pss_cons (ps_if (PW.pt (pw_or (pt_cmpR op_ne (p_isi (pv 1) (by rfl) T.n_isinstance (pe_bltn (by rfl) T.n_tuple boot_tuple' rfl)) (p_isi (pv 0) (by rfl) T.n_isinstance (pe_bltn (by rfl) T.n_tuple boot_tuple' rfl)) (nomark _)) (pw_or1 (pt_cmpR op_ne (p_isi (pv 1) (by rfl) T.n_isinstance (pe_bltn (by rfl) T.n_list boot_list' rfl)) (p_isi (pv 0) (by rfl) T.n_isinstance (pe_bltn (by rfl) T.n_list boot_list' rfl)) (nomark _))))) (pss_one ps_never) pss_nil)
      (pss_cons (ps_if (pt_cmpR op_ne (pe_callB call_len_seq (by rfl) T.n_len boot_len (pa_cons (pv 0) pa_nil)) (pe_callB call_len_seq (by rfl) T.n_len boot_len (pa_cons (pv 1) pa_nil)) (nomark _)) (pss_one ps_never) pss_nil)
      (pss_one (ps_ret (pe_callB (cr_all rfl) (by rfl) T.n_all boot_all' (pa_cons (pe_lc (own := [("_law_k", 2)]) (g := gName 2) (tt := tYes) rfl sc__law_alike.nd (pi_range1 (by rfl) T.n_range (pa_cons (pe_callB call_len_seq (by rfl) T.n_len boot_len (pa_cons (pv 1) pa_nil)) pa_nil)) (blkOk_by (N := ["_law_found", "_law_due", "_law_k"]) (sc := defScope s__law_alike) (by decide +kernel)) (fun _ _ _ _ _ => pg_name (i := 2) sc__law_alike.nd rfl (Or.inl rfl)) (fun _ _ _ _ _ => pts_nil)
        (fun _ _ _ _ _ => pe_own O hr (pa_cons (pe_ix (r := rIx K) (by exact ix_seq) (pv 0) (pv 2) (fun _ _ => rfl)) (pa_cons (pe_ix (r := rIx K) (by exact ix_seq) (pv 1) (pv 2) (fun _ _ => rfl)) pa_nil)))) pa_nil))))))))), ?_⟩
    rcases h with ⟨rfl, h⟩ | ⟨a, b, xs, ys, rfl, rfl, ho, p, hl⟩
    · rcases h with rfl | ⟨z, rfl⟩ | ⟨z, rfl⟩ | ⟨z, rfl⟩
      · refine ⟨_, rfl, _, rfl, iteT ?_⟩
        exact ⟨_, rfl, kq H (Same.refl H)⟩
      · refine ⟨_, rfl, _, rfl, iteF ?_⟩
        refine isi_rd rfl (.bl z) kb1 ⟨_, rfl, iteT ?_⟩
        refine isi_rd rfl (.bl z) kb1 ⟨_, rfl, iteT ?_⟩
        refine ⟨_, rfl, _, rfl, rfl, ?_⟩
        rw [decide_eq_true rfl]
        exact kq H (Same.refl H)
      · refine ⟨_, rfl, _, rfl, iteF ?_⟩
        refine isi_rd rfl (.int z) kb2 ⟨_, rfl, iteF ?_⟩
        refine isi_rd rfl (.int z) kb3 ⟨_, rfl, iteT ?_⟩
        refine isi_rd rfl (.int z) kb3 ⟨_, rfl, iteT ?_⟩
        refine isi_rd rfl (.int z) kb2 ⟨_, rfl, _, rfl, iteT ?_⟩
        refine ⟨_, rfl, _, rfl, rfl, ?_⟩
        rw [decide_eq_true rfl]
        exact kq H (Same.refl H)
      · refine ⟨_, rfl, _, rfl, iteF ?_⟩
        refine isi_rd rfl (.str z) kb4 ⟨_, rfl, iteF ?_⟩
        refine isi_rd rfl (.str z) kb5 ⟨_, rfl, iteF ?_⟩
        refine isi_rd rfl (.str z) kb6 ⟨_, rfl, iteT ?_⟩
        refine isi_rd rfl (.str z) kb6 ⟨_, rfl, iteT ?_⟩
        refine ⟨_, rfl, _, rfl, rfl, ?_⟩
        rw [decide_eq_true rfl]
        exact kq H (Same.refl H)
    · have el : xs.length = ys.length := p.length
      have hx : H a = some (.lst xs) ∨ H a = some (.tup xs) := by rcases ho with ho | ho; exact .inl ho.1; exact .inr ho.1
      have hy : H b = some (.lst ys) ∨ H b = some (.tup ys) := by rcases ho with ho | ho; exact .inl ho.2; exact .inr ho.2
      obtain ⟨nm, bt, bl, ta, tb, k1, k2, k3, k4, k5⟩ : ∃ (nm : String) (bt bl : Bool), TyOf K H (.ref a) (.type nm) ∧ TyOf K H (.ref b) (.type nm) ∧ kitB nm "bool" = some false ∧ kitB nm "int" = some false ∧ kitB nm "str" = some false ∧ kitB nm "tuple" = some bt ∧ kitB nm "list" = some bl := by
        rcases ho with ho | ho
        · exact ⟨"list", false, true, .lst ho.1, .lst ho.2, kb7, kb8, kb9, kb10, kb11⟩
        · exact ⟨"tuple", true, false, .tup ho.1, .tup ho.2, kb12, kb13, kb14, kb15, kb16⟩
      refine ⟨_, rfl, _, rfl, iteF ?_⟩
      refine isi_rd rfl tb k1 ⟨_, rfl, iteF ?_⟩
      refine isi_rd rfl tb k2 ⟨_, rfl, iteF ?_⟩
      refine isi_rd rfl tb k3 ⟨_, rfl, iteF ?_⟩
      have dd : ∀ z : Bool, (!decide (V.bl z = V.bl z)) = false := fun z => by rw [decide_eq_true rfl]; rfl
      refine isi_rd rfl tb k4 (isi_rd rfl ta k4 ⟨rfl, false, by rw [dd], iteF ?_⟩)
      refine isi_rd rfl tb k5 (isi_rd rfl ta k5 ⟨rfl, false, by rw [dd], iteF ?_⟩)
      refine ⟨_, rfl, a, xs, rfl, sq_of hx, _, rfl, b, ys, rfl, sq_of hy, rfl, false, by rw [el, decide_eq_true rfl]; rfl, iteF ?_⟩
      refine ⟨_, rfl, b, ys, rfl, sq_of hy, _, rfl, by omega, by omega, fun D hD => ?_⟩
      have en : ((ys.length : Nat) : Int).toNat = ys.length := rfl
      refine lc_range (lo := 0) (n := ((ys.length : Nat) : Int).toNat) (g := gName 2) (fun i H' => Same H H' ∧ H' D = some (.lst (List.replicate i (.bl true)))) ⟨upd_same_of hD (Same.refl H), upd_same⟩ ?_ ?_
      · rintro i H1 hi ⟨s1, hd⟩
        obtain ⟨v, hv⟩ : ∃ v, xs[i]? = some v := ⟨_, List.getElem?_eq_getElem (by rw [en] at hi; omega)⟩
        obtain ⟨v', hv', av⟩ := Pd.get p hv
        have hx1 : H1 a = some (.lst xs) ∨ H1 a = some (.tup xs) := by rcases hx with q | q; exact .inl (s1 _ _ q); exact .inr (s1 _ _ q)
        have hy1 : H1 b = some (.lst ys) ∨ H1 b = some (.tup ys) := by rcases hy with q | q; exact .inl (s1 _ _ q); exact .inr (s1 _ _ q)
        refine ⟨rfl, yes_rd ?_⟩
        refine ⟨_, rfl, _, rfl, rix_of hx1 hv ⟨_, rfl, _, rfl, rix_of hy1 hv' ?_⟩⟩
        refine hIt H1 v v' _ (hR _ _ _ _ s1 av) fun H2 s2 => ⟨_, s2 _ _ hd, ?_, upd_same_of hD (s1.trans s2), ?_⟩
        · rw [List.length_replicate, sizeLine_eq]; rw [en] at hi; omega
        · rw [upd_same, List.replicate_succ']
      · rintro H1 ⟨s1, hd⟩
        refine ⟨D, List.replicate ys.length true, rfl, SqL.of (by rw [hd, List.map_replicate]; rfl), ?_⟩
        have ea : (List.replicate ys.length true).all id = true := by simp
        rw [ea]
        exact kq H1 s1
theorem alk_up {H : Hp} : ∀ {n : Nat} {x y : V}, Alk H n x y → Alk H 0 x y ∨ ∃ a b xs ys, x = .ref a ∧ y = .ref b ∧ ((H a = some (.lst xs) ∧ H b = some (.lst ys)) ∨ (H a = some (.tup xs) ∧ H b = some (.tup ys))) ∧ Paired (Alk H (n - 1)) xs ys ∧ xs.length ≤ 4000
  | 0, _, _, h => .inl h
  | n + 1, x, y, h => by
    rcases h with h | h
    · rcases alk_up h with h | ⟨a, b, xs, ys, ex, ey, ho, p, hl⟩
      · exact .inl h
      · refine .inr ⟨a, b, xs, ys, ex, ey, ho, Paired.mapP p fun u v q => ?_, hl⟩
        cases n with
        | zero => exact q
        | succ n => exact .inl q
    · exact .inr h
theorem ok_alike {f : Addr} {fd : FuncData} (F : Fun K "_law_alike" "_law_alike" s__law_alike f fd) (T : Txt K mg) (hm : mg "_law_alike" = some (.ref f)) (hb : Binds K fd ["_law_found", "_law_due"] []) :
    ∀ n : Nat, FnOk P w K mg base CX0 (n + 1) f fd ["_law_found", "_law_due"] (spAlk n)
  | 0 => by
    have O0 : OwnS P w K mg base 0 "_law_alike" ["_law_found", "_law_due"] (fun _ _ _ _ => False) := ⟨f, fd, ⟨fun _ _ _ _ h => h.elim, fun _ _ _ _ _ _ _ _ _ _ _ _ _ h => h.elim⟩, hm, F.kp, hb⟩
    refine (ok_alike_step F T (fun _ _ _ => False) (fun _ _ _ _ _ h => h) O0 (fun _ _ _ _ h _ => h)).imp fun vs H Q E h => ?_
    obtain ⟨x, y, ev, h, k⟩ := h
    exact ⟨x, y, ev, .inl h, k⟩
  | n + 1 => by
    have O0 : OwnS P w K mg base (n + 1) "_law_alike" ["_law_found", "_law_due"] (spAlk n) := ⟨f, fd, ok_alike F T hm hb n, hm, F.kp, hb⟩
    refine (ok_alike_step F T (fun H => Alk H n) (fun _ _ _ _ s h => Alk.same s h) O0 (fun H x y Q h k => ⟨x, y, rfl, h, k⟩)).imp fun vs H Q E h => ?_
    obtain ⟨x, y, ev, h, k⟩ := h
    exact ⟨x, y, ev, alk_up h, k⟩
end
end CK

namespace CK
open PySem L2 PyProof.Rows
theorem boot_dictQ : bootBuiltins "dict" = some (.type "dict") := by decide +kernel
/-! ### what follows from what is found -/
theorem ee_of {r p : List Nat} {d : Deed} {k : Nat} (h : step1 p.length (many p) d = some k) (hj : d.2 < p.length ∨ d.1 = false) (h1 : 1 ≤ p.length) : edOf r p d ∈ EE r p := by
  refine List.mem_map.mpr ⟨d, List.mem_filter.mpr ⟨?_, by rw [h]; rfl⟩, rfl⟩
  obtain ⟨b, n⟩ := d
  have ml := many_le p
  unfold allD
  cases b with
  | true =>
    have hn : n < p.length := hj.elim id fun z => by cases z
    exact List.mem_append_left _ (List.mem_map.mpr ⟨n, List.mem_range.mpr hn, rfl⟩)
  | false =>
    have h : (if n < many p then some (many p - 1) else none) = some k := h
    have hn : n < many p := by
      split at h
      · assumption
      · cases h
    exact List.mem_append_right _ (List.mem_map.mpr ⟨n, List.mem_range.mpr (by omega), rfl⟩)
theorem step_lt {n m : Nat} {d : Deed} {k : Nat} (h : step1 n m d = some k) (hm : m ≤ n) : d.2 < n := by
  obtain ⟨b, j⟩ := d
  cases b with
  | true =>
    have h : (if j ≤ m ∧ m < n then some (m + 1) else none) = some k := h
    split at h
    · show j < n; omega
    · cases h
  | false =>
    have h : (if j < m then some (m - 1) else none) = some k := h
    split at h
    · show j < n; omega
    · cases h
theorem run_pot {r : List Nat} {ks : List (List Nat)} {n : Nat} {mv dn : Int} {c : List Nat → Int} (ok : GrOk r ks) (len : ∀ p ∈ ks, p.length = n) (pot : Pot r ks mv dn c) : ∀ (ds : List Deed) (p : List Nat) (k : Nat), p ∈ ks → cnt n (many p) ds = some k →
    (runM r p ds).2 ∈ ks ∧ c (runM r p ds).2 + (dn * (runM r p ds).1.sum - mv * (ds.length : Int)) ≤ c p
  | [], p, k, hp, _ => ⟨hp, by show c p + (dn * 0 - mv * 0) ≤ c p; omega⟩
  | d :: ds, p, k, hp, h => by
    have h : (match step1 n (many p) d with | some m => cnt n m ds | none => none) = some k := h
    cases q : step1 n (many p) d with
    | none => rw [q] at h; cases h
    | some m =>
      rw [q] at h
      have hl := len p hp
      obtain ⟨b1, b2, b3⟩ := ok.bt p hp
      have q' : step1 p.length (many p) d = some m := by rw [hl]; exact q
      have g := good_step ok.rr b1 b2 b3 q'
      have he := ee_of (r := r) q' (.inl (step_lt q' (many_le p))) b2
      have hq : (stepM r p d).2 ∈ ks := ok.cl p hp _ he
      have em : m = many (stepM r p d).2 := by
        have := g.cnt
        rw [q'] at this
        exact Option.some.inj this
      rw [em] at h
      obtain ⟨i1, i2⟩ := run_pot ok len pot ds (stepM r p d).2 k hq h
      refine ⟨i1, ?_⟩
      have hs := pot.2 p hp _ he
      have hs : c (stepM r p d).2 + (dn * (stepM r p d).1 - mv) ≤ c p := hs
      show c (runM r (stepM r p d).2 ds).2 + (dn * (((stepM r p d).1 :: (runM r (stepM r p d).2 ds).1).sum) - mv * (((d :: ds).length : Nat) : Int)) ≤ c p
      rw [List.sum_cons, List.length_cons, Int.mul_add, Int.natCast_add, Int.mul_add]
      simp only [Int.natCast_one, Int.mul_one]
      omega
theorem reach_in {r : List Nat} {n : Nat} {ks : List (List Nat)} {mv dn : Nat} {es : List Ed} {x : List Nat} {c : List Nat → Int} (R : Res r n ks mv dn es x c) {p : List Nat} (h : RB r n p) : p ∈ ks := by
  obtain ⟨ds, h1, h2⟩ := h
  obtain ⟨zb, zm, zl⟩ := zeros_ok n
  have := (run_pot R.ok (fun p hp => (R.k p hp).l) R.pot ds (zeros n) (many p) R.z (by rw [zm]; exact h1)).1
  rw [h2] at this
  exact this
theorem round_pot {r : List Nat} {ks : List (List Nat)} {mv dn a b : Int} {c : List Nat → Int} {ks' : List (List Nat)} (pot : Pot r ks mv dn c) (sub : ∀ p ∈ ks', p ∈ ks) : ∀ {es : List Ed} {p q : List Nat}, BF.Walk (GG r ks' a b) p es q → c q + BF.W (GG r ks mv dn) es ≤ c p
  | [], p, q, h => by cases (show p = q from h); show c p + 0 ≤ c p; omega
  | e :: es, p, q, h => by
    have ih := round_pot pot sub (es := es) h.2.2
    have hs := pot.2 p (sub p h.1) e h.2.1
    have ih : c q + BF.W (GG r ks mv dn) es ≤ c e.2.2 := ih
    rw [BF.W_cons]
    show c q + (dn * e.2.1 - mv + _) ≤ c p
    omega
theorem part_le {r : List Nat} {n : Nat} {ks ks' : List (List Nat)} {mv dn mv' dn' : Nat} {es es' : List Ed} {x x' : List Nat} {c c' : List Nat → Int} (R : Res r n ks mv dn es x c) (R' : Res r n ks' mv' dn' es' x' c') : mv * dn' ≤ mv' * dn := by
  have h := round_pot (a := mv) (b := dn) R'.pot (fun p hp => reach_in R' (R.k p hp).re) R.w
  rw [W_eq] at h
  have h2 : (dn' : Int) * mSum es ≤ (mv' : Int) * (es.length : Int) := by omega
  have e := R.e
  have d1 : (0 : Int) < (dn : Int) := by have := R.d; omega
  have l1 : (0 : Int) < (es.length : Int) := by have := R.l; omega
  have h3 : (dn' : Int) * mSum es * (dn : Int) ≤ (mv' : Int) * (es.length : Int) * (dn : Int) := Int.mul_le_mul_of_nonneg_right h2 (by omega)
  have h4 : ((mv : Int) * (dn' : Int)) * (es.length : Int) ≤ ((mv' : Int) * (dn : Int)) * (es.length : Int) := by
    have e1 : (dn' : Int) * mSum es * (dn : Int) = (mv : Int) * (dn' : Int) * (es.length : Int) := by
      rw [Int.mul_assoc, e, ← Int.mul_assoc, Int.mul_comm (dn' : Int) (mv : Int)]
    have e2 : (mv' : Int) * (es.length : Int) * (dn : Int) = (mv' : Int) * (dn : Int) * (es.length : Int) := by
      rw [Int.mul_assoc, Int.mul_comm (es.length : Int) (dn : Int), ← Int.mul_assoc]
    rw [e1, e2] at h3
    exact h3
  have h5 := Int.le_of_mul_le_mul_right h4 l1
  rw [← Int.natCast_mul, ← Int.natCast_mul] at h5
  omega
theorem part_eq {r : List Nat} {n : Nat} {ks ks' : List (List Nat)} {mv dn mv' dn' : Nat} {es es' : List Ed} {x x' : List Nat} {c c' : List Nat → Int} (R : Res r n ks mv dn es x c) (R' : Res r n ks' mv' dn' es' x' c') : mv = mv' ∧ dn = dn' := by
  have e : mv * dn' = mv' * dn := Nat.le_antisymm (part_le R R') (part_le R' R)
  have d1 : dn ∣ dn' := Nat.Coprime.dvd_of_dvd_mul_left (k := dn) (m := mv) (n := dn') (by rw [Nat.coprime_comm]; exact R.g) ⟨mv', by rw [e, Nat.mul_comm]⟩
  have d2 : dn' ∣ dn := Nat.Coprime.dvd_of_dvd_mul_left (k := dn') (m := mv') (n := dn) (by rw [Nat.coprime_comm]; exact R'.g) ⟨mv, by rw [← e, Nat.mul_comm]⟩
  have ed : dn = dn' := Nat.dvd_antisymm d1 d2
  refine ⟨?_, ed⟩
  rw [ed] at e
  exact Nat.eq_of_mul_eq_mul_right (by have := R'.d; omega) e
theorem merge_val {f : List Nat → V} {p : List Nat} : ∀ (ks : List (List Nat)) (acc : List (Key × V)), valV (mergeK acc (fm ks f)) (Sum.inr (Tx p)) = if p ∈ ks then some (f p) else valV acc (Sum.inr (Tx p))
  | [], acc => by rw [if_neg (by simp)]; rfl
  | q :: ks, acc => by
    show valV (mergeK (putK acc (Sum.inr (Tx q)) (f q)) (fm ks f)) _ = _
    rw [merge_val ks, valV_put]
    by_cases h : p ∈ ks
    · rw [if_pos h, if_pos (List.mem_cons_of_mem _ h)]
    · rw [if_neg h]
      by_cases e : p = q
      · subst e
        rw [if_pos rfl, if_pos List.mem_cons_self]
      · rw [if_neg (fun z => e (key_eq.mp z)), if_neg (fun m => by rcases List.mem_cons.mp m with z | z; exact e z; exact h z)]
theorem pd_dict {K : PySem.W.Frag} {H : Hp} {c : List Nat → Int} : ∀ {ts : List Addr} {ks : List (List Nat)}, Paired (fun t p => H t = some (.tup [.str (Tx p), .int (c p)])) ts ks → Paired (fun (p : Addr) (kv : Key × V) => SqT K H p [kV kv.1, kv.2]) ts (fm ks (coinV c))
  | _, _, .nil => .nil
  | _, _, .cons a b => .cons (SqT.of a) (pd_dict b)
theorem DiceAt.frm' {H H' : Hp} {d : Addr} (h : DiceAt H d) (f : ∀ o, H d = some o → H' d = some o) : DiceAt H' d := let ⟨ns, a, b⟩ := h; ⟨ns, a, f _ b⟩
/-! ### the law -/
end CK

namespace CK
open PySem L2 PyProof.Rows
/-! ### deeds and steps as the law tells them -/
theorem step_mem {p : List Nat} {d : Deed} (h : d ∈ deeds p) : ∃ k, step1 p.length (many p) d = some k := by
  unfold deeds at h
  rcases List.mem_append.mp h with h | h
  · obtain ⟨r, hr, rfl⟩ := List.mem_map.mp h
    have hr := List.mem_range.mp hr
    exact ⟨many p - 1, by show (if r < many p then some (many p - 1) else none) = _; rw [if_pos hr]⟩
  · cases q : Nat.blt (many p) p.length with
    | false => rw [q] at h; exact absurd h (by simp)
    | true =>
      rw [q] at h
      obtain ⟨r, hr, rfl⟩ := List.mem_map.mp h
      have hr := List.mem_range.mp hr
      have hl : many p + 1 ≤ p.length := Nat.le_of_ble_eq_true (show Nat.ble (many p + 1) p.length = true from q)
      exact ⟨many p + 1, by show (if r ≤ many p ∧ many p < p.length then some (many p + 1) else none) = _; rw [if_pos ⟨by omega, by omega⟩]⟩
theorem deeds_len (p : List Nat) : (deeds p).length ≤ 2 * p.length + 1 := by
  have := many_le p
  unfold deeds
  rw [List.length_append, List.length_map, List.length_range]
  split
  · rw [List.length_map, List.length_range]; omega
  · simp; omega
theorem rv_fresh {η η' : Em} {H H' : Hp} (S : Stp η H η' H') (e : η.as = []) {a : Addr} (h : a ∈ η'.as) : H a = none := S.nw a h (by rw [e]; exact List.not_mem_nil)
/-! ### purses judged -/
abbrev Row := List Nat × Int
def RowsAt (H : Hp) (ts : List Addr) (rows : List Row) : Prop := Paired (fun t (q : Row) => H t = some (.tup [.str (Tx q.1), .int q.2])) ts rows
theorem RowsAt.mono {H H' : Hp} (s : TS H H') {ts : List Addr} {rows : List Row} (h : RowsAt H ts rows) : RowsAt H' ts rows := Paired.mapP h fun _ _ q => s _ _ q
def keysR (rows : List Row) : List (List Nat) := rows.map (·.1)
def coinsR (rows : List Row) : List Nat → Int := rows.foldl (fun f q => fun x => if x = q.1 then q.2 else f x) (fun _ => 0)
theorem coinsR_snoc (rows : List Row) (q : Row) : coinsR (rows ++ [q]) = fun x => if x = q.1 then q.2 else coinsR rows x := by unfold coinsR; rw [List.foldl_append]; rfl
def okRow (n : Nat) (seen : List (List Nat)) (q : Row) : Bool := !(decide (q.1 ∈ seen)) && (decide (0 ≤ q.2) && (decide (q.1.length = n) && isBits q.1))
def rowsOk (n : Nat) : List (List Nat) → List Row → Bool
  | _, [] => true
  | seen, q :: rows => okRow n seen q && rowsOk n (seen ++ [q.1]) rows
def stepOk (r : List Nat) (ks : List (List Nat)) (c : List Nat → Int) (mv dn : Int) (p : List Nat) (d : Deed) : Bool := decide ((stepM r p d).2 ∈ ks) && decide (c (stepM r p d).2 ≤ c p + mv - dn * (stepM r p d).1)
def judge (r : List Nat) (n : Nat) (mv dn : Int) (rows : List Row) : Bool := rowsOk n [] rows && (decide (zeros n ∈ keysR rows) && (keysR rows).all fun p => (deeds p).all (stepOk r (keysR rows) (coinsR rows) mv dn p))
theorem rowsOk_snoc (n : Nat) (q : Row) : ∀ (rows : List Row) (seen : List (List Nat)), rowsOk n seen (rows ++ [q]) = (rowsOk n seen rows && okRow n (seen ++ keysR rows) q)
  | [], seen => by
    show (okRow n seen q && true) = (true && okRow n (seen ++ []) q)
    rw [List.append_nil, Bool.and_true, Bool.true_and]
  | a :: rows, seen => by
    show (okRow n seen a && rowsOk n (seen ++ [a.1]) (rows ++ [q])) = ((okRow n seen a && rowsOk n (seen ++ [a.1]) rows) && okRow n (seen ++ (a.1 :: keysR rows)) q)
    rw [rowsOk_snoc n q rows, Bool.and_assoc, List.append_assoc]
    rfl
theorem rowsOk_app (n : Nat) (more : List Row) : ∀ (rows : List Row) (seen : List (List Nat)), rowsOk n seen (rows ++ more) = (rowsOk n seen rows && rowsOk n (seen ++ keysR rows) more)
  | [], seen => by
    show rowsOk n seen more = (true && rowsOk n (seen ++ []) more)
    rw [List.append_nil, Bool.true_and]
  | a :: rows, seen => by
    show (okRow n seen a && rowsOk n (seen ++ [a.1]) (rows ++ more)) = ((okRow n seen a && rowsOk n (seen ++ [a.1]) rows) && rowsOk n (seen ++ (a.1 :: keysR rows)) more)
    rw [rowsOk_app n more rows, Bool.and_assoc, List.append_assoc]
    rfl
theorem rowsOk_bad {n : Nat} {rows : List Row} {i : Nat} {q : Row} (h : rows[i]? = some q) (b : okRow n (keysR (rows.take i)) q = false) : rowsOk n [] rows = false := by
  obtain ⟨hi, e⟩ := List.getElem?_eq_some_iff.mp h
  have e2 : rows = rows.take i ++ (q :: rows.drop (i + 1)) := by
    rw [← e, ← List.drop_eq_getElem_cons hi, List.take_append_drop]
  rw [e2, rowsOk_app]
  show (rowsOk n [] (rows.take i) && (okRow n ([] ++ keysR (rows.take i)) q && _)) = false
  rw [List.nil_append, b, Bool.false_and, Bool.and_false]
structure RowsGood (n : Nat) (rows : List Row) : Prop where
  nd : (keysR rows).Nodup
  b : ∀ p ∈ keysR rows, isBits p = true ∧ p.length = n
theorem rowsGood_of {n : Nat} : ∀ (rows : List Row) (seen : List (List Nat)), rowsOk n seen rows = true → (∀ p ∈ keysR rows, p ∉ seen) ∧ RowsGood n rows
  | [], seen, _ => ⟨fun p h => (by cases h), ⟨List.nodup_nil, fun p h => (by cases h)⟩⟩
  | a :: rows, seen, h => by
    have h : (okRow n seen a && rowsOk n (seen ++ [a.1]) rows) = true := h
    rw [Bool.and_eq_true] at h
    obtain ⟨h1, h2⟩ := h
    obtain ⟨i1, i2⟩ := rowsGood_of rows _ h2
    unfold okRow at h1
    simp only [Bool.and_eq_true, Bool.not_eq_true', decide_eq_false_iff_not, decide_eq_true_eq] at h1
    obtain ⟨a1, a2, a3, a4⟩ := h1
    refine ⟨fun p hp => ?_, ⟨?_, fun p hp => ?_⟩⟩
    · rcases List.mem_cons.mp (show p ∈ a.1 :: keysR rows from hp) with e | e
      · rw [e]; exact a1
      · exact fun z => i1 p e (List.mem_append_left _ z)
    · exact List.nodup_cons.mpr ⟨fun z => i1 _ z (List.mem_append_right _ (List.mem_singleton.mpr rfl)), i2.nd⟩
    · rcases List.mem_cons.mp (show p ∈ a.1 :: keysR rows from hp) with e | e
      · rw [e]; exact ⟨a4, a3⟩
      · exact i2.b p e
theorem rowsOk_take {n : Nat} {rows : List Row} {i : Nat} {q : Row} (h : rows[i]? = some q) (a : rowsOk n [] (rows.take i) = true) (b : okRow n (keysR (rows.take i)) q = true) : rowsOk n [] (rows.take (i + 1)) = true := by
  rw [take_succ' h, rowsOk_snoc, a, List.nil_append, b]
  rfl
def oddC (p : List Nat) : List Nat := p.filter fun c => !(decide (c = 48 ∨ c = 49))
theorem oddC_nil : ∀ p : List Nat, (oddC p = []) ↔ isBits p = true
  | [] => ⟨fun _ => rfl, fun _ => rfl⟩
  | c :: r => by
    have ih := oddC_nil r
    by_cases h : c = 48 ∨ c = 49
    · have e1 : oddC (c :: r) = oddC r := by unfold oddC; rw [List.filter_cons]; simp [h]
      have e2 : isBits (c :: r) = isBits r := by rcases h with rfl | rfl <;> rfl
      rw [e1, e2, ih]
    · have e1 : oddC (c :: r) = c :: oddC r := by unfold oddC; rw [List.filter_cons]; simp [h]
      have e2 : isBits (c :: r) = false := by
        unfold isBits
        split
        · rename_i q; cases q
        · rename_i q; cases q; exact absurd (Or.inl rfl) h
        · rename_i q; cases q; exact absurd (Or.inr rfl) h
        · rfl
      rw [e1, e2]
      exact ⟨fun z => (by cases z), fun z => (by cases z)⟩
theorem lay_strs : ∀ xs : List Str, (∀ x ∈ xs, PyData.strOk x = true) → PyData.canLayAll0 (xs.map PyData.str) = true ∧ PyData.depthAll (xs.map PyData.str) = 0
  | [], _ => ⟨by simp [PyData.canLayAll0], by simp [PyData.depthAll]⟩
  | x :: xs, h => by
    obtain ⟨a, b⟩ := lay_strs xs fun y hy => h y (List.mem_cons_of_mem _ hy)
    have := h x List.mem_cons_self
    exact ⟨by simp [PyData.canLayAll0, PyData.canLay0, this, a], by simp [PyData.depthAll, PyData.depth, b]⟩
theorem dp_strs {K : PySem.W.Frag} {H : Hp} : ∀ xs : List Str, DpAll K H (xs.map V.str) (xs.map PyData.str)
  | [] => .nil
  | x :: xs => .cons (.str x) (dp_strs xs)
theorem ne_nil {K : PySem.W.Frag} {H : Hp} {Q : VK} {A B : Addr} {xs : List Str} (hA : SqL K H A (xs.map V.str)) (hB : SqL K H B []) (ok : ∀ x ∈ xs, PyData.strOk x = true) (q : Q (.bl (!xs.isEmpty)) H) : rNeD K (.ref A) (.ref B) H Q := by
  obtain ⟨a, b⟩ := lay_strs xs ok
  refine ⟨.list (xs.map PyData.str), .list [], .lst hA (dp_strs xs), .lst hB .nil, ?_, by simp [SeqAt.shaped, PyData.canLay0, PyData.canLayAll0, PyData.depth, PyData.depthAll], ?_⟩
  · unfold SeqAt.shaped
    simp [PyData.canLay0, PyData.depth, a, b]
  · have e : PyData.eqv (.list (xs.map PyData.str)) (.list []) = xs.isEmpty := by
      cases xs <;> simp [PyData.eqv, PyData.eqvAll]
    rw [e]
    exact q
theorem sign_ok : ((List.range 128).all fun c => PyData.strOk (Tx [c])) = true := by decide +kernel
theorem sign_ok' {c : Nat} (h : c < 128) : PyData.strOk (Tx [c]) = true := List.all_eq_true.mp sign_ok c (List.mem_range.mpr h)
theorem t01 : (("01" : Str)).cps.toList = [48, 49] := by decide +kernel
theorem odd_s {p : List Nat} {i c : Nat} (h : p[i]? = some c) : oddC (p.take (i + 1)) = if c = 48 ∨ c = 49 then oddC (p.take i) else oddC (p.take i) ++ [c] := by
  rw [take_succ' h]
  unfold oddC
  rw [List.filter_append]
  by_cases k : c = 48 ∨ c = 49
  · have e : (!(decide (c = 48 ∨ c = 49))) = false := by rw [decide_eq_true k]; rfl
    rw [if_pos k, List.filter_cons, e]; simp
  · have e : (!(decide (c = 48 ∨ c = 49))) = true := by rw [decide_eq_false k]; rfl
    rw [if_neg k, List.filter_cons, e]; simp
theorem odd_len (p : List Nat) : (oddC p).length ≤ p.length := List.length_filter_le _ _
theorem oddC_em (p : List Nat) : (!(oddC p).isEmpty) = !isBits p := by
  have h := oddC_nil p
  cases e : isBits p with
  | true => rw [h.mpr e]; rfl
  | false =>
    cases q : oddC p with
    | nil => rw [h.mp q] at e; cases e
    | cons a b => rfl
theorem coinsR_in {rows : List Row} : ∀ {p : List Nat}, p ∈ keysR rows → ∃ i : Nat, ∃ q, rows[i]? = some q ∧ q.1 = p := fun {p} h => by
  obtain ⟨q, hq, e⟩ := List.mem_map.mp h
  obtain ⟨i, hi⟩ := List.getElem?_of_mem hq
  exact ⟨i, q, hi, e⟩
theorem keysR_len (rows : List Row) : (keysR rows).length = rows.length := List.length_map ..
end CK

namespace CK
open PySem L2 PyProof.Rows
/-! ### what is reached -/
theorem bits_mem01 : ∀ {p : List Nat}, isBits p = true → ∀ c ∈ p, c = 48 ∨ c = 49
  | 48 :: r, h, c, hc => by
    rcases List.mem_cons.mp hc with e | e
    · exact .inl e
    · exact bits_mem01 (p := r) h c e
  | 49 :: r, h, c, hc => by
    rcases List.mem_cons.mp hc with e | e
    · exact .inr e
    · exact bits_mem01 (p := r) h c e
theorem bits_ok {p : List Nat} (h : isBits p = true) : PyData.strOk (Tx p) = true := by
  unfold PyData.strOk Tx
  simp only [List.all_toArray]
  rw [List.all_eq_true]
  intro c hc
  have := bits_mem01 h c hc
  exact decide_eq_true (by omega)
end CK

namespace CK
open PySem L2 PyProof.Rows
/-! ### helpers for the law -/
theorem isi_gen {K : PySem.W.Frag} {H : Hp} {Q : VK} {x : V} {n m : String} {b : Bool} (ty : TyOf K H x (.type n)) (k : kitB n m = some b) (q : Q (.bl b) H) : rIsi K [x, .ty m] H Q := ⟨x, .ty m, .type n, .type m, b, rfl, .ty m, .base ty, kit_ty k, q⟩
def dPD (d : Deed) : PyData := .tuple [.str (wd d.1), .int d.2]
theorem wd_ok (b : Bool) : PyData.strOk (wd b) = true := by cases b <;> decide +kernel
theorem lay_deeds : ∀ ds : List Deed, PyData.canLayAll0 (ds.map dPD) = true ∧ PyData.depthAll (ds.map dPD) ≤ 1
  | [] => ⟨by simp [PyData.canLayAll0], by simp [PyData.depthAll]⟩
  | d :: ds => by
    obtain ⟨a, b⟩ := lay_deeds ds
    have := wd_ok d.1
    constructor
    · simp [PyData.canLayAll0, PyData.canLay0, dPD, this, a]
    · simp [PyData.depthAll, PyData.depth, dPD, b]
theorem sh_deeds (ds : List Deed) : SeqAt.shaped (.list (ds.map dPD)) = true := by
  obtain ⟨a, b⟩ := lay_deeds ds
  unfold SeqAt.shaped
  simp [PyData.canLay0, PyData.depth, a]
  omega
theorem sh_deed (d : Deed) : SeqAt.shaped (dPD d) = true := by
  have := wd_ok d.1
  simp [SeqAt.shaped, PyData.canLay0, PyData.canLayAll0, dPD, this, PyData.depth, PyData.depthAll]
theorem dp_deed {K : PySem.W.Frag} {H : Hp} {t : Addr} {d : Deed} (h : H t = some (.tup [.str (wd d.1), .int d.2])) : Dp K H (.ref t) (dPD d) := .tup (SqT.of h) (.cons (.str _) (.cons (.int _) .nil))
theorem dp_deeds {K : PySem.W.Frag} {H : Hp} : ∀ {as : List Addr} {ds : List Deed}, Tups H as ds → DpAll K H (as.map V.ref) (ds.map dPD)
  | _, _, .nil => .nil
  | _, _, .cons a b => .cons (dp_deed a) (dp_deeds b)
theorem eqv_deed (d : Deed) : PyData.eqv (dPD d) (dPD d) = true := by simp [dPD, PyData.eqv, PyData.eqvAll]
theorem any_deed {ds : List Deed} {d : Deed} (h : d ∈ ds) : ((ds.map dPD).any fun z => PyData.eqv z (dPD d)) = true := List.any_eq_true.mpr ⟨dPD d, List.mem_map.mpr ⟨d, h, rfl⟩, eqv_deed d⟩
theorem ee_deed {r p : List Nat} {e : Ed} (he : e ∈ EE r p) : e.1 ∈ deeds p ∧ ∃ k, step1 p.length (many p) e.1 = some k := by
  unfold EE dls at he
  obtain ⟨d, hd, rfl⟩ := List.mem_map.mp he
  have := (List.mem_filter.mp hd).2
  cases q : step1 p.length (many p) d with
  | none => rw [q] at this; cases this
  | some k => exact ⟨deed_mem (d := d) q, k, q⟩
theorem ee_step {r p : List Nat} {e : Ed} (he : e ∈ EE r p) : stepM r p e.1 = e.2 := by
  unfold EE at he
  obtain ⟨d, hd, rfl⟩ := List.mem_map.mp he
  rfl
theorem coinsR_map (c : List Nat → Int) : ∀ (ks : List (List Nat)) (f : List Nat → Int) (p : List Nat), ((ks.map fun p => (p, c p)).foldl (fun f (q : Row) => fun x => if x = q.1 then q.2 else f x) f) p = if p ∈ ks then c p else f p
  | [], f, p => by simp
  | a :: ks, f, p => by
    rw [List.map_cons, List.foldl_cons, coinsR_map c ks]
    by_cases h1 : p ∈ ks
    · rw [if_pos h1, if_pos (List.mem_cons_of_mem _ h1)]
    · rw [if_neg h1]
      by_cases h2 : p = a
      · rw [if_pos h2, if_pos (by rw [h2]; exact List.mem_cons_self), h2]
      · rw [if_neg h2, if_neg (fun z => (List.mem_cons.mp z).elim h2 h1)]
def rowsK (ks : List (List Nat)) (c : List Nat → Int) : List Row := ks.map fun p => (p, c p)
theorem keys_rowsK (ks : List (List Nat)) (c : List Nat → Int) : keysR (rowsK ks c) = ks := by unfold keysR rowsK; rw [List.map_map]; exact List.map_id _
theorem coins_rowsK {ks : List (List Nat)} {c : List Nat → Int} {p : List Nat} (h : p ∈ ks) : coinsR (rowsK ks c) p = c p := by
  unfold coinsR rowsK
  rw [coinsR_map, if_pos h]
theorem rowsOk_K {n : Nat} {c : List Nat → Int} (hc : ∀ p, 0 ≤ c p) : ∀ (ks seen : List (List Nat)), ks.Nodup → (∀ p ∈ ks, p ∉ seen) → (∀ p ∈ ks, isBits p = true ∧ p.length = n) → rowsOk n seen (rowsK ks c) = true
  | [], _, _, _, _ => rfl
  | a :: ks, seen, nd, dj, hb => by
    obtain ⟨n1, n2⟩ := List.nodup_cons.mp nd
    obtain ⟨b1, b2⟩ := hb a List.mem_cons_self
    show (okRow n seen (a, c a) && rowsOk n (seen ++ [a]) (rowsK ks c)) = true
    rw [rowsOk_K hc ks (seen ++ [a]) n2 (fun p hp z => ?_) (fun p hp => hb p (List.mem_cons_of_mem _ hp)), Bool.and_true]
    · unfold okRow
      show (!(decide (a ∈ seen)) && (decide (0 ≤ c a) && (decide (a.length = n) && isBits a))) = true
      rw [decide_eq_false (dj a List.mem_cons_self), decide_eq_true (hc a), decide_eq_true b2, b1]
      rfl
    · rcases List.mem_append.mp z with y | y
      · exact dj p (List.mem_cons_of_mem _ hp) y
      · rw [show p = a by simpa using y] at hp
        exact n1 hp
theorem judge_res {r : List Nat} {n : Nat} {ks : List (List Nat)} {mv dn : Nat} {es : List Ed} {x : List Nat} {c : List Nat → Int} (h1 : 1 ≤ n) (R : Res r n ks mv dn es x c) : judge r n mv dn (rowsK ks c) = true := by
  unfold judge
  rw [rowsOk_K R.pot.1 ks [] R.ok.nd (fun _ _ z => by cases z) (fun p hp => ⟨(R.k p hp).b, (R.k p hp).l⟩), keys_rowsK, decide_eq_true R.z, Bool.true_and, Bool.true_and]
  refine List.all_eq_true.mpr fun p hp => List.all_eq_true.mpr fun d hd => ?_
  obtain ⟨k, hk⟩ := step_mem hd
  have hl := (R.k p hp).l
  have ml := many_le p
  have he := ee_of (r := r) (d := d) hk (.inl (step_lt hk ml)) (by omega)
  have hq := R.ok.cl p hp _ he
  have hq : (stepM r p d).2 ∈ ks := hq
  have hp2 : c (stepM r p d).2 + ((dn : Int) * (stepM r p d).1 - (mv : Int)) ≤ c p := R.pot.2 p hp _ he
  unfold stepOk
  rw [decide_eq_true hq, coins_rowsK hq, coins_rowsK hp]
  exact decide_eq_true (by omega)
end CK

namespace CK
open PySem L2 PyProof.Rows
def spPart0 : Sp := fun vs H Q _ => ∃ (m d : Int), vs = [.int m, .int d] ∧ 0 ≤ m ∧ 1 ≤ d ∧ Q .non H
def spIsPat : Sp := fun vs H Q _ => ∃ (n : Nat) (p : List Nat), vs = [.int n, .str (Tx p)] ∧ p.length ≤ 1000 ∧ ∀ H', Same H H' → Q (.bl (decide (p.length = n) && isBits p)) H'
def spPaid : Sp := fun vs H Q _ => ∃ (C : Addr) (mv dn : Int) (T D : Addr) (m : Int) (p q : List Nat) (ks : List (List Nat)) (c : List Nat → Int), vs = [.ref C, .int mv, .int dn, .ref T] ∧ H T = some (.tup [.str (Tx p), .ref D, .int m, .str (Tx q)]) ∧ Rd H C (.dK (fm ks (coinV c))) ∧ p ∈ ks ∧ 0 ≤ m ∧ m ≤ 6 ∧
  Q (.bl (decide (q ∈ ks) && decide (c q ≤ c p + mv - dn * m))) H
theorem dget_in {H : Hp} {C : Addr} {ks : List (List Nat)} {c : List Nat → Int} (h : Rd H C (.dK (fm ks (coinV c)))) {p : List Nat} (hp : p ∈ ks) : DGet H C (.str (Tx p)) (some (.int (c p))) := by
  have : DGet H C (kV (Sum.inr (Tx p))) (valV (fm ks (coinV c)) (Sum.inr (Tx p))) := .inl ⟨_, _, h, rfl, rfl⟩
  rw [val_in _ hp] at this
  exact this
theorem dget_out {H : Hp} {C : Addr} {ks : List (List Nat)} {c : List Nat → Int} (h : Rd H C (.dK (fm ks (coinV c)))) {p : List Nat} (hp : p ∉ ks) : DGet H C (.str (Tx p)) none := by
  have : DGet H C (kV (Sum.inr (Tx p))) (valV (fm ks (coinV c)) (Sum.inr (Tx p))) := .inl ⟨_, _, h, rfl, rfl⟩
  rw [val_out _ hp] at this
  exact this
def bit (c : Nat) : Bool := decide (c = 48) || decide (c = 49)
theorem isBits_all : ∀ p : List Nat, isBits p = p.all bit
  | [] => rfl
  | c :: r => by
    have ih := isBits_all r
    rw [List.all_cons, ← ih]
    by_cases h : c = 48 ∨ c = 49
    · rcases h with rfl | rfl <;> rfl
    · have e2 : isBits (c :: r) = false := by
        unfold isBits
        split
        · rename_i q; cases q
        · rename_i q; cases q; exact absurd (Or.inl rfl) h
        · rename_i q; cases q; exact absurd (Or.inr rfl) h
        · rfl
      have e3 : bit c = false := by unfold bit; simp at h; simp [h]
      rw [e2, e3]
      rfl
section
variable {P : Program} {w : World} {K : PySem.W.Frag} {mg : Str → Option Value} {base : Heap} {cc : Nat → Addr}
abbrev s_check_part : Stmt := top 46
theorem sc_check_part : FnScope ["moves", "deeds"] ["moves", "deeds"] (defScope s_check_part) := ⟨rfl, rfl, rfl, by decide +kernel, rfl, by decide +kernel, by decide +kernel⟩

theorem ok_part0 {f : Addr} {fd : FuncData} (F : Fun K "check_part" "check_part" s_check_part f fd) (T : Txt K mg) : FnOk P w K mg base CX0 1 f fd ["moves", "deeds"] spPart0 := by
  refine F.ok sc_check_part (fun vs H Q E h => ?_) (fun cdv A outer s H vs Q E hr h => ?_)
  · obtain ⟨_, _, rfl, _⟩ := h
    rfl
  · obtain ⟨m, d, rfl, h1, h2, kq⟩ := h
    have nd := sc_check_part.nd
    refine ⟨_, (pss_cons (ps_if (pt_cmpR op_lt (pv 0) pe_int (nomark _)) (pss_one ps_never) pss_nil)
      (pss_one (ps_if (pt_cmpR op_lt (pv 1) pe_int (nomark _)) (pss_one ps_never) pss_nil))), ?_⟩
    refine ⟨_, rfl, _, _, rfl, rfl, _, rfl, ite2 (fun z => absurd (of_decide_eq_true z) (by omega)) (fun _ => ?_)⟩
    refine ⟨_, rfl, _, _, rfl, rfl, _, rfl, ite2 (fun z => absurd (of_decide_eq_true z) (by omega)) (fun _ => ?_)⟩
    exact kq
abbrev s_is_pattern : Stmt := top 47
theorem sc_is_pattern : FnScope ["wide", "text", "sign"] ["wide", "text"] (defScope s_is_pattern) := ⟨rfl, rfl, rfl, by decide +kernel, rfl, by decide +kernel, by decide +kernel⟩

theorem ok_ispat {f : Addr} {fd : FuncData} (F : Fun K "is_pattern" "is_pattern" s_is_pattern f fd) (T : Txt K mg) : FnOk P w K mg base CX0 1 f fd ["wide", "text"] spIsPat := by
  refine F.ok sc_is_pattern (fun vs H Q E h => ?_) (fun cdv A outer s H vs Q E hr h => ?_)
  · obtain ⟨_, _, rfl, _⟩ := h
    rfl
  · obtain ⟨n, p, rfl, hl, kq⟩ := h
    have nd := sc_is_pattern.nd
    refine ⟨_, (pss_one (ps_ret (pe_and (pe_cmpR op_eq (pe_callB call_len (by rfl) T.n_len boot_len (pa_cons (pv 1) pa_nil)) (pv 0) (nomark _)) (pe_one (pe_callB (cr_all rfl) (by rfl) T.n_all boot_all' (pa_cons (pe_lc (own := [("sign", 2)]) (g := gName 2) (tt := tYes) rfl nd (pi_str (pv 1)) (blkOk_by (N := ["wide", "text", "sign"]) (sc := defScope s_is_pattern) (by decide +kernel)) (fun _ _ _ _ _ => (pg_name (i := 2) nd rfl (Or.inl rfl))) (fun _ _ _ _ _ => pts_nil) (fun _ _ _ _ _ => (pe_cmpR (r := rIn K false) (by exact op_in_seq) (pv 2) (pe_tup (pa_cons pe_str (pa_cons pe_str pa_nil))) (by with_unfolding_all rfl)))) pa_nil)))))), ?_⟩
    refine ⟨_, rfl, _, p.length, rfl, ⟨by rw [Tx_len, sizeLine_eq]; omega, by rw [Tx_len]⟩, _, rfl, rfl, _, rfl, ?_⟩
    have ed : decide (V.int (p.length : Nat) = V.int (n : Nat)) = decide (p.length = n) := by
      by_cases z : p.length = n
      · rw [decide_eq_true z, z]; exact decide_eq_true rfl
      · rw [decide_eq_false z]
        refine decide_eq_false fun y => z ?_
        have := V.int.inj y
        omega
    rw [ed]
    by_cases z : p.length = n
    · rw [decide_eq_true z] at kq ⊢
      refine iteT ⟨_, rfl, Tx p, rfl, fun D hD => ?_⟩
      refine lc_it walk_str (fun i H' => Same H H' ∧ H' D = some (.lst (((p.take i).map bit).map V.bl))) ⟨Same.new' (Same.refl _) hD, upd_same⟩ (fun _ _ _ _ => trivial) ?_ ?_
      · rintro i x1 H1 H1' hi ⟨s1, hL1⟩ ⟨eH, c, hc, rfl⟩
        subst H1'
        rw [Tx_get] at hc
        have hi' := (List.getElem?_eq_some_iff.mp hc).1
        refine ⟨rfl, yes_rd ⟨_, rfl, (show 2 ≤ sizeLine by decide), fun T2 hT2 => ?_⟩⟩
        have eT : (upd H1 T2 (.tup [.str "0", .str "1"])) T2 = some (.tup [.str "0", .str "1"]) := upd_same
        have eb : inV (.str ⟨#[c]⟩) [.str "0", .str "1"] = bit c := by
          have e0 : ("0" : Str) = Tx [48] := by decide +kernel
          have e1 : ("1" : Str) = Tx [49] := by decide +kernel
          show (eqV (.str "0") (.str (Tx [c])) || (eqV (.str "1") (.str (Tx [c])) || false)) = bit c
          rw [e0, e1]
          show ((Tx [48] == Tx [c]) || ((Tx [49] == Tx [c]) || false)) = bit c
          rw [Tx_beq, Tx_beq]
          have hk : ∀ k : Nat, (([k] : List Nat) == [c]) = decide (c = k) := fun k => by
            by_cases h : c = k
            · subst h; rw [decide_eq_true rfl]; exact beq_self_eq_true _
            · rw [decide_eq_false h]
              exact beq_eq_false_iff_ne.mpr fun z => h (by injection z with z; exact z.symm)
          rw [hk, hk, Bool.or_false]
          rfl
        have s2 : Same H1 (upd H1 T2 (.tup [.str "0", .str "1"])) := Same.new' (Same.refl _) hT2
        refine ⟨_, [.str "0", .str "1"], rfl, .inr (SqT.of eT), rfl, rfl, _, s2 _ _ hL1, ?_, fun b o q => ?_, ?_⟩
        · rw [List.length_map, List.length_map, List.length_take, sizeLine_eq]; omega
        · rw [upd_ne (ne_of_none q hD)]; exact s2 _ _ (s1 _ _ q)
        · rw [upd_same, take_succ' hc, List.map_append, List.map_append]
          show some (HO.lst (_ ++ [V.bl (inV (.str ⟨#[c]⟩) [.str "0", .str "1"])])) = some (HO.lst (_ ++ [V.bl (bit c)]))
          rw [eb]
      · rintro H1 ⟨s1, hL1⟩
        rw [Tx_size, List.take_length] at hL1
        refine ⟨D, p.map bit, rfl, SqL.of hL1, ?_⟩
        have ea : (p.map bit).all id = isBits p := by rw [isBits_all, List.all_map]; rfl
        rw [ea]
        rw [Bool.true_and] at kq
        exact kq H1 s1
    · rw [decide_eq_false z] at kq ⊢
      exact iteF (kq H (Same.refl _))
abbrev s_is_paid : Stmt := top 48
theorem sc_is_paid : FnScope ["coins", "moves", "deeds", "step", "pattern", "deed", "moved", "behind"] ["coins", "moves", "deeds", "step"] (defScope s_is_paid) := ⟨rfl, rfl, rfl, by decide +kernel, rfl, by decide +kernel, by decide +kernel⟩

theorem ok_paid {f : Addr} {fd : FuncData} (F : Fun K "is_paid" "is_paid" s_is_paid f fd) (T : Txt K mg) : FnOk P w K mg base CX0 1 f fd ["coins", "moves", "deeds", "step"] spPaid := by
  refine F.ok sc_is_paid (fun vs H Q E h => ?_) (fun cdv A outer s H vs Q E hr h => ?_)
  · obtain ⟨_, _, _, _, _, _, _, _, _, _, rfl, _⟩ := h
    rfl
  · obtain ⟨C, mv, dn, T', D, m, p, q, ks, c, rfl, hT, hC, hp, m0, m6, kq⟩ := h
    have nd := sc_is_paid.nd
    refine ⟨_, (pss_cons (ps_asg (pv 3) (pg_tup rfl (pgs_cons (pg_name (i := 4) nd rfl (by first | exact Or.inl rfl | exact Or.inr rfl)) (pgs_cons (pg_name (i := 5) nd rfl (by first | exact Or.inl rfl | exact Or.inr rfl)) (pgs_cons (pg_name (i := 6) nd rfl (by first | exact Or.inl rfl | exact Or.inr rfl)) (pgs_cons (pg_name (i := 7) nd rfl (by first | exact Or.inl rfl | exact Or.inr rfl)) pgs_nil))))))
      (pss_one (ps_ret (pe_and (pe_cmp (pc_din (hu_of hr) (pv 7) (pv 0)) (by with_unfolding_all rfl)) (pe_one (pe_cmpR op_le (pe_dget (hu_of hr) (pv 0) (pv 7) (fun _ _ => rfl)) (pe_op op_sub (pe_op op_add (pe_dget (hu_of hr) (pv 0) (pv 4) (fun _ _ => rfl)) (pv 1)) (pe_op op_mul (pv 2) (pv 6))) (nomark _))))))), ?_⟩
    refine ⟨_, rfl, T', _, rfl, SqT.of hT, rfl, _, _, rfl, _, _, rfl, _, _, rfl, _, _, rfl, rfl, ?_⟩
    by_cases hm : q ∈ ks
    · rw [decide_eq_true hm, Bool.true_and] at kq
      refine ⟨_, rfl, _, rfl, C, _, rfl, dget_in hC hm, _, rfl, iteT ?_⟩
      refine ⟨_, rfl, _, rfl, C, _, rfl, dget_in hC hm, _, rfl, _, rfl, C, _, rfl, dget_in hC hp, _, rfl, _, _, rfl, rfl, _, rfl, _, rfl, _, _, rfl, rfl, .inr ⟨by omega, by omega⟩, _, _, rfl, rfl, _, _, rfl, rfl, kq⟩
    · rw [decide_eq_false hm, Bool.false_and] at kq
      exact ⟨_, rfl, _, rfl, C, _, rfl, dget_out hC hm, _, rfl, iteF kq⟩
end
end CK

namespace CK
open PySem L2 PyProof.Rows
def paidB (ks : List (List Nat)) (c : List Nat → Int) (mv dn : Int) (p : List Nat) (e : Ed) : Bool := decide (e.2.2 ∈ ks) && decide (c e.2.2 ≤ c p + mv - dn * e.2.1)
theorem ee_all {r p : List Nat} {ks : List (List Nat)} {c : List Nat → Int} {mv dn : Int} (h1 : 1 ≤ p.length) : (EE r p).all (paidB ks c mv dn p) = (deeds p).all (stepOk r ks c mv dn p) := by
  rw [Bool.eq_iff_iff, List.all_eq_true, List.all_eq_true]
  constructor
  · intro h d hd
    obtain ⟨k, hk⟩ := step_mem hd
    exact h _ (ee_of (r := r) hk (.inl (step_lt hk (many_le p))) h1)
  · intro h e he
    obtain ⟨a, _⟩ := ee_deed he
    have := h _ a
    unfold stepOk at this
    rw [ee_step he] at this
    exact this
def spShows : Sp := fun vs H Q _ => ∃ (r : List Nat) (n : Nat) (mv dn : Int) (A : Addr) (ts : List Addr) (rows : List Row), vs = [.str (Tx r), .int n, .int mv, .int dn, .ref A] ∧ r ∈ rules ∧ 1 ≤ n ∧ n ≤ 6 ∧ 0 ≤ mv ∧ 1 ≤ dn ∧ (∀ q ∈ rows, q.1.length ≤ 1000 ∧ ∀ c ∈ q.1, c < 128) ∧ rows.length ≤ 1000 ∧ H A = some (.lst (ts.map V.ref)) ∧ RowsAt H ts rows ∧
  ∀ H', Same H H' → Q (.bl (judge r n mv dn rows)) H'
theorem flat_take {ks : List (List Nat)} {i : Nat} {p : List Nat} {g : List Nat → List Bool} (h : ks[i]? = some p) : (ks.take (i + 1)).flatMap g = (ks.take i).flatMap g ++ g p := by
  rw [take_succ' h, List.flatMap_append]
  simp
theorem flat_len {g : List Nat → List Bool} {b : Nat} : ∀ {ks : List (List Nat)}, (∀ p ∈ ks, (g p).length ≤ b) → (ks.flatMap g).length ≤ b * ks.length
  | [], _ => by simp
  | p :: ks, h => by
    have ih := flat_len (ks := ks) (fun q hq => h q (List.mem_cons_of_mem _ hq))
    have := h p List.mem_cons_self
    rw [List.flatMap_cons, List.length_append, List.length_cons, Nat.mul_succ]
    omega
section
variable {P : Program} {w : World} {K : PySem.W.Frag} {mg : Str → Option Value} {base : Heap} {cc : Nat → Addr}
abbrev s_shows : Stmt := top 45
theorem sc_shows : FnScope ["rule", "wide", "moves", "deeds", "told", "coins", "pattern", "many", "step"] ["rule", "wide", "moves", "deeds", "told"] (defScope s_shows) := ⟨rfl, rfl, rfl, by decide +kernel, rfl, by decide +kernel, by decide +kernel⟩

theorem ok_shows {f : Addr} {fd : FuncData} (F : Fun K "shows" "shows" s_shows f fd) (T : Txt K mg) (OR : Own P w K mg base cc 1 "check_rule" ["rule"] c_check_rule) (OW : Own P w K mg base cc 1 "check_width" ["wide"] c_check_width) (OP : OwnS P w K mg base 1 "check_part" ["moves", "deeds"] spPart0)
    (OI : OwnS P w K mg base 1 "is_pattern" ["wide", "text"] spIsPat) (OB : OwnS P w K mg base 1 "is_paid" ["coins", "moves", "deeds", "step"] spPaid) (OS : OwnS P w K mg base 5 "steps_from" ["rule", "pattern"] spSteps) : FnOk P w K mg base CX0 6 f fd ["rule", "wide", "moves", "deeds", "told"] spShows := by
  refine F.ok sc_shows (fun vs H Q E h => ?_) (fun cdv A outer s H vs Q E hr h => ?_)
  · obtain ⟨_, _, _, _, _, _, _, rfl, _⟩ := h
    rfl
  · obtain ⟨r, n, mv, dn, A, ts, rows, rfl, hrr, h1, h6, hmv, hdn, hsz, hln, hA, hts, kq⟩ := h
    have nd := sc_shows.nd
    obtain ⟨mok, emul⟩ := zero_mul h1 h6
    have hr1 : Room 1 _ := hr.mono (by decide)
    have hr5 : Room 5 _ := hr.mono (by decide)
    refine ⟨_, (pss_cons (ps_expr (pe_own OR (hr.mono (by decide)) (pa_cons (pv 0) pa_nil)))
      (pss_cons (ps_expr (pe_own OW (hr.mono (by decide)) (pa_cons (pv 1) pa_nil)))
      (pss_cons (ps_expr (pe_own OP (hr.mono (by decide)) (pa_cons (pv 2) (pa_cons (pv 3) pa_nil))))
      (pss_cons (ps_set (i := 5) nd rfl (by first | exact Or.inl rfl | exact Or.inr rfl) pe_dnewK)
      (pss_cons (ps_for PassesOwn.never rfl (pi_list (pv 4)) (pg_tup rfl (pgs_cons (pg_name (i := 6) nd rfl (by first | exact Or.inl rfl | exact Or.inr rfl)) (pgs_cons (pg_name (i := 7) nd rfl (by first | exact Or.inl rfl | exact Or.inr rfl)) pgs_nil)))
      (pss_cons (ps_if (PW.pt (pw_or (pt_cmpR op_lt (pv 7) pe_int (nomark _)) (pw_or (pt_cmp (pc_din (hu_of hr) (pv 6) (pv 5)) (by with_unfolding_all rfl)) (pw_or1 (pt_not (pt_val (pe_own OI (hr.mono (by decide)) (pa_cons (pv 1) (pa_cons (pv 6) pa_nil))))))))) (pss_one (ps_ret pe_bl)) pss_nil)
      (pss_one (ps_dput (hu_of hr) (pv 5) (pv 6) (pv 7) rfl))))
      (pss_cons (ps_if (pt_cmp (pc_dnotin (hu_of hr) (pe_op op_mul_str pe_str (pv 1)) (pv 5)) (by with_unfolding_all rfl)) (pss_one (ps_ret pe_bl)) pss_nil)
      (pss_one (ps_lock (ps_ret (pe_callB (cr_all rfl) (by rfl) T.n_all boot_all' (pa_cons (pe_lc2 (own := [("pattern", 6), ("step", 8)]) (vs1 := [8]) (g := gName 6) (g1 := gName 8) (tt := tYes) (tt1 := tYes) (wi1 := iList K (tOwn spSteps (tCons (tVar 0) (tCons (tVar 6) tNil)))) rfl nd (pi_keys (pv 5)) (blkOk_by (N := ["rule", "wide", "moves", "deeds", "told", "coins", "pattern", "many", "step"]) (sc := defScope s_shows) (by decide +kernel)) (by decide) (fun _ _ _ _ _ => (pg_name (i := 6) nd rfl (Or.inl rfl))) (fun _ _ _ _ _ => pts_nil) (fun _ _ _ _ _ => (by exact (pi_list (pe_own OS hr5 (pa_cons (pv 0) (pa_cons (pv 6) pa_nil)))))) (fun _ _ _ _ _ => (pg_name (i := 8) nd rfl (Or.inl rfl))) (fun _ _ _ _ _ => pts_nil) (fun _ _ _ _ _ => (pe_own OB hr1 (pa_cons (pv 5) (pa_cons (pv 2) (pa_cons (pv 3) (pa_cons (pv 8) pa_nil))))))) pa_nil))))))))))), ?main⟩
    case main =>
      have fin0 : ∀ H', Same H H' → judge r n mv dn rows = false → Q (.bl false) H' := fun H' s e => by rw [← e]; exact kq H' s
      obtain ⟨hR, eR, kR⟩ := goodR_of hrr
      refine ⟨_, rfl, sp_keeps (cc := cc) (E := E0) HR.nil (.cons (rvS r) .nil) eR kR fun η1 H1 v1 s1 _ R1 rv1 => ?_⟩
      obtain ⟨hW, eW, kW⟩ := goodW_of h1 h6
      refine ⟨_, rfl, sp_keeps (cc := cc) (E := E0) HR.nil (.cons (rvI _) .nil) eW kW fun η2 H2 v2 s2 _ R2 rv2 => ?_⟩
      refine ⟨_, rfl, _, rfl, mv, dn, rfl, hmv, hdn, ?_⟩
      have s02 := s1.trans s2
      refine fun C hC2 => ?_
      have hC := s02.free hC2
      have sC : Same H (upd H2 C (.dK [])) := Same.new' s02 hC2
      refine ⟨_, rfl, A, rfl, ⟨_, SqL.of (sC _ _ hA)⟩, ?_⟩
      have tl := hts.length
      refine for_list (K := K) (a := A) (xs := ts.map V.ref) (fun i σ H' => ∃ x6 x7 x8, σ = [some (.str (Tx r)), some (.int n), some (.int mv), some (.int dn), some (.ref A), some (.ref C), x6, x7, x8] ∧ Same H H' ∧ H' C = some (.dK (fm (keysR (rows.take i)) (coinV (coinsR (rows.take i))))) ∧ rowsOk n [] (rows.take i) = true)
        ⟨_, _, _, rfl, sC, upd_same, rfl⟩ (fun i σ H' _ ⟨_, _, _, _, s1, _⟩ => SqL.of (s1 _ _ hA)) ?_ ?_
      · rintro i x σ H3 hx ⟨x6, x7, x8, rfl, s3, hC3, hok⟩
        obtain ⟨T', hT, rfl⟩ : ∃ t, ts[i]? = some t ∧ x = V.ref t := by
          rw [List.getElem?_map] at hx
          cases e : ts[i]? with
          | none => rw [e] at hx; cases hx
          | some t => rw [e] at hx; exact ⟨t, rfl, (Option.some.inj hx).symm⟩
        obtain ⟨q, hq, hTq⟩ := Pd.get hts hT
        obtain ⟨p, c⟩ := q
        have hi := (List.getElem?_eq_some_iff.mp hq).1
        obtain ⟨z1, z2⟩ := hsz _ (List.mem_of_getElem? hq)
        have z1 : p.length ≤ 1000 := z1
        refine ⟨T', _, rfl, SqT.of (s3 _ _ hTq), rfl, _, _, rfl, _, _, rfl, rfl, ?_⟩
        have bad : okRow n (keysR (rows.take i)) (p, c) = false → judge r n mv dn rows = false := fun b => by
          unfold judge
          rw [rowsOk_bad hq b, Bool.false_and]
        refine ⟨_, rfl, _, _, rfl, rfl, _, rfl, ite2 (fun h => iteT ?_) (fun h => ?_)⟩
        · have h : c < 0 := of_decide_eq_true h
          exact fin0 _ s3 (bad (by unfold okRow; rw [decide_eq_false (show ¬ (0 ≤ c) by omega), Bool.false_and, Bool.and_false]))
        · have h : ¬ c < 0 := fun z => h (decide_eq_true z)
          by_cases hm : p ∈ keysR (rows.take i)
          · refine ⟨_, rfl, _, rfl, C, _, rfl, dget_in (.inl hC3) hm, _, rfl, iteT (iteT ?_)⟩
            exact fin0 _ s3 (bad (by unfold okRow; rw [decide_eq_true hm]; rfl))
          · refine ⟨_, rfl, _, rfl, C, _, rfl, dget_out (.inl hC3) hm, _, rfl, iteF ?_⟩
            refine ⟨_, rfl, _, rfl, n, p, rfl, z1, fun H4 s4 => ⟨_, rfl, ?_⟩⟩
            have s34 := s3.trans s4
            cases hb : (decide (p.length = n) && isBits p) with
            | false =>
              refine iteT ?_
              refine fin0 _ s34 (bad ?_)
              unfold okRow
              show (!(decide (p ∈ keysR (rows.take i))) && (decide (0 ≤ c) && (decide (p.length = n) && isBits p))) = false
              rw [hb, Bool.and_false, Bool.and_false]
            | true =>
              refine iteF ?_
              have hC4 := s4 _ _ hC3
              have okr : okRow n (keysR (rows.take i)) (p, c) = true := by
                unfold okRow
                show (!(decide (p ∈ keysR (rows.take i))) && (decide (0 ≤ c) && (decide (p.length = n) && isBits p))) = true
                rw [decide_eq_false hm, decide_eq_true (show 0 ≤ c by omega), hb]
                rfl
              have kl : (keysR (rows.take i)).length ≤ 1000 := by rw [keysR_len, List.length_take]; omega
              refine ⟨_, rfl, _, rfl, _, rfl, C, _, rfl, DPut.k (k := Sum.inr (Tx p)) hC4 (by rw [fm_len, sizeLine_eq]; omega), ?_⟩
              rw [put_out' _ hm]
              refine ⟨_, _, _, rfl, fun b o e => ?_, ?_, rowsOk_take hq hok okr⟩
              · rw [upd_ne (ne_of_none e hC)]; exact s34 _ _ e
              · rw [upd_same, take_succ' hq]
                show some (HO.dK (fm (keysR (rows.take i) ++ [p]) fun q => if q = p then V.int c else coinV (coinsR (rows.take i)) q)) = some (HO.dK (fm (keysR (rows.take i ++ [(p, c)])) (coinV (coinsR (rows.take i ++ [(p, c)])))))
                rw [coinsR_snoc, show keysR (rows.take i ++ [(p, c)]) = keysR (rows.take i) ++ [p] by unfold keysR; rw [List.map_append]; rfl]
                congr 2
                unfold fm
                apply List.map_congr_left
                intro q _
                unfold coinV
                show (_, if q = p then V.int c else V.int (coinsR (rows.take i) q)) = (_, V.int (if q = p then c else coinsR (rows.take i) q))
                split <;> rfl
      · rintro σ H3 ⟨x6, x7, x8, rfl, s3, hC3, hok⟩
        rw [List.length_map, tl, List.take_length] at hC3 hok
        have good := (rowsGood_of rows [] hok).2
        have ezr : V.str (Txt.mul "0" (n : Nat)) = V.str (Tx (zeros n)) := by rw [emul]
        by_cases hz : zeros n ∈ keysR rows
        · have g := dget_in (c := coinsR rows) (.inl hC3) hz
          rw [← ezr] at g
          refine ⟨_, rfl, "0", (n : Nat), rfl, rfl, mok, _, rfl, C, _, rfl, g, _, rfl, iteF ?_⟩
          have ej : judge r n mv dn rows = ((keysR rows).flatMap fun p => (EE r p).map (paidB (keysR rows) (coinsR rows) mv dn p)).all id := by
            unfold judge
            rw [hok, decide_eq_true hz, Bool.true_and, Bool.true_and, List.all_flatMap]
            rw [Bool.eq_iff_iff, List.all_eq_true, List.all_eq_true]
            constructor
            · intro h p hp
              rw [List.all_map]
              show (EE r p).all (paidB (keysR rows) (coinsR rows) mv dn p) = true
              rw [ee_all (by rw [(good.b p hp).2]; exact h1)]
              exact h p hp
            · intro h p hp
              have := h p hp
              rw [List.all_map] at this
              have this : (EE r p).all (paidB (keysR rows) (coinsR rows) mv dn p) = true := this
              rw [ee_all (by rw [(good.b p hp).2]; exact h1)] at this
              exact this
          rw [ej] at kq
          refine ⟨C, _, hC3, trivial, fun od => ?_⟩
          have f0 : ∀ y o, y ≠ C → H3 y = some o → (upd H3 C (.frz od (.dK (fm (keysR rows) (coinV (coinsR rows)))))) y = some o := fun y o n q => by rw [upd_ne n]; exact q
          have eC : (upd H3 C (.frz od (.dK (fm (keysR rows) (coinV (coinsR rows)))))) C = some (.frz od (.dK (fm (keysR rows) (coinV (coinsR rows))))) := upd_same
          generalize upd H3 C (.frz od (.dK (fm (keysR rows) (coinV (coinsR rows))))) = H4 at *
          have back : ∀ H', Same H4 H' → ∀ u, Same H (upd H' C u) := fun H' s u b o e => by
            have nb : b ≠ C := ne_of_none e hC
            rw [upd_ne nb]
            exact s _ _ (f0 _ _ nb (s3 _ _ e))
          refine ⟨_, rfl, C, od, rfl, .inl ⟨_, eC, fun L hL => ?_⟩⟩
          have kl : (keysR rows).length ≤ 1000 := by rw [keysR_len]; exact hln
          refine turns (walk_keys (d := C) (o := od) (kvs := fm (keysR rows) (coinV (coinsR rows)))) (fun i H' => Same H4 H' ∧ H' L = some (.lst ((((keysR rows).take i).flatMap fun p => (EE r p).map (paidB (keysR rows) (coinsR rows) mv dn p)).map V.bl))) ⟨Same.new' (Same.refl _) hL, upd_same⟩ (fun i H' _ q => q.1 _ _ eC) ?_ ?_
          · rintro i x H5 H5' hi ⟨s5, hL5⟩ ⟨eH5, k, v, hk, rfl⟩
            subst H5'
            rw [fm_len] at hi
            obtain ⟨p, hp⟩ : ∃ p, (keysR rows)[i]? = some p := ⟨_, List.getElem?_eq_getElem hi⟩
            have ek : k = Sum.inr (Tx p) := by
              unfold fm at hk
              rw [List.getElem?_map, hp] at hk
              cases hk
              rfl
            subst ek
            have hpk := List.mem_of_getElem? hp
            obtain ⟨gb, gl⟩ := good.b p hpk
            refine ⟨rfl, yes_rd ?_⟩
            refine ⟨_, rfl, _, rfl, r, p, rfl, hrr, gb, by omega, by omega, fun H6 S ss s6 hS hS6 hst => ?_⟩
            have elen : ∀ q ∈ keysR rows, ((EE r q).map (paidB (keysR rows) (coinsR rows) mv dn q)).length ≤ 12 := fun q hq => by
              rw [List.length_map]
              have := ee_len (r := r) (p := q)
              have := (good.b q hq).2
              omega
            have fl : (((keysR rows).take i).flatMap fun p => (EE r p).map (paidB (keysR rows) (coinsR rows) mv dn p)).length ≤ 12000 := by
              have h := flat_len (ks := (keysR rows).take i) (g := fun p => (EE r p).map (paidB (keysR rows) (coinsR rows) mv dn p)) (b := 12) fun q hq => elen q (List.mem_of_mem_take hq)
              have : ((keysR rows).take i).length ≤ 1000 := by rw [List.length_take]; omega
              omega
            refine ⟨S, rfl, ⟨_, SqL.of hS6⟩, ?_⟩
            have sl := hst.length
            have nSL : S ≠ L := fun z => by rw [z, hL5] at hS; cases hS
            refine turns (walk_list (K := K) (a := S) (xs := ss.map V.ref)) (fun j H' => Same H4 H' ∧ H' S = some (.lst (ss.map V.ref)) ∧ TS H6 H' ∧ H' L = some (.lst (((((keysR rows).take i).flatMap fun p => (EE r p).map (paidB (keysR rows) (coinsR rows) mv dn p)) ++ ((EE r p).take j).map (paidB (keysR rows) (coinsR rows) mv dn p)).map V.bl))) ⟨s5.trans s6, hS6, TS.same (Same.refl _), by rw [List.take_zero, List.map_nil, List.append_nil]; exact s6 _ _ hL5⟩ (fun i H' _ q => SqL.of q.2.1) ?_ ?_
            · rintro j y H7 H7' hj ⟨s47, hS7, ts7, hL7⟩ ⟨eH7, hy⟩
              subst H7'
              obtain ⟨T', hT, rfl⟩ : ∃ t, ss[j]? = some t ∧ y = V.ref t := by
                rw [List.getElem?_map] at hy
                cases e : ss[j]? with
                | none => rw [e] at hy; cases hy
                | some t => rw [e] at hy; exact ⟨t, rfl, (Option.some.inj hy).symm⟩
              obtain ⟨e, he, Da, hTe, _⟩ := Pd.get (hst.mono ts7) hT
              have hem := List.mem_of_getElem? he
              have ge := ee_good hrr gb (by omega) (by omega) hem
              refine ⟨rfl, yes_rd ?_⟩
              refine ⟨_, rfl, _, rfl, _, rfl, _, rfl, C, mv, dn, T', Da, e.2.1, p, e.2.2, keysR rows, coinsR rows, rfl, hTe, .inr ⟨od, s47 _ _ eC⟩, hpk, ge.m0, ge.m6, ?_⟩
              refine ⟨_, hL7, ?_, fun b o q => ?_, ?_, ?_, ?_⟩
              · rw [List.length_map, List.length_append, List.length_map, List.length_take, sizeLine_eq]
                have := elen p hpk
                rw [List.length_map] at this
                omega
              · rw [upd_ne (ne_of_none q hL)]; exact s47 _ _ q
              · rw [upd_ne nSL]; exact hS7
              · exact ts7.trans (TS.put hL7)
              · rw [upd_same, take_succ' he]
                simp only [List.map_append, List.append_assoc, List.map_cons, List.map_nil]
                rfl
            · rintro H7 ⟨s47, hS7, ts7, hL7⟩
              rw [List.length_map, sl, List.take_length] at hL7
              refine ⟨s47, ?_⟩
              rw [hL7, flat_take hp]
          · rintro H5 ⟨s5, hL5⟩
            rw [fm_len, List.take_length] at hL5
            refine ⟨L, _, rfl, SqL.of hL5, s5 _ _ eC, ?_⟩
            exact kq _ (back _ s5 _)
        · have g := dget_out (c := coinsR rows) (.inl hC3) hz
          rw [← ezr] at g
          refine ⟨_, rfl, "0", (n : Nat), rfl, rfl, mok, _, rfl, C, _, rfl, g, _, rfl, iteT ?_⟩
          exact fin0 _ s3 (by unfold judge; rw [decide_eq_false hz, Bool.false_and, Bool.and_false])
end
end CK

namespace CK
open PySem L2 PyProof.Rows
theorem txt_ok {p : List Nat} (h : ∀ c ∈ p, c < 128) : PyData.strOk (Tx p) = true := by
  unfold PyData.strOk Tx
  simp only [List.all_toArray]
  rw [List.all_eq_true]
  intro c hc
  have := h c hc
  exact decide_eq_true (by omega)
def rPD (q : Row) : PyData := .tuple [.str (Tx q.1), .int q.2]
def Low (rows : List Row) : Prop := ∀ q ∈ rows, ∀ c ∈ q.1, c < 128
theorem lay_rows : ∀ {rows : List Row}, Low rows → PyData.canLayAll0 (rows.map rPD) = true ∧ PyData.depthAll (rows.map rPD) ≤ 1
  | [], _ => ⟨by simp [PyData.canLayAll0], by simp [PyData.depthAll]⟩
  | d :: ds, h => by
    obtain ⟨a, b⟩ := lay_rows (rows := ds) fun q hq => h q (List.mem_cons_of_mem _ hq)
    have := txt_ok (h d List.mem_cons_self)
    constructor
    · simp [PyData.canLayAll0, PyData.canLay0, rPD, this, a]
    · simp [PyData.depthAll, PyData.depth, rPD, b]
theorem sh_rows {rows : List Row} (h : Low rows) : SeqAt.shaped (.list (rows.map rPD)) = true := by
  obtain ⟨a, b⟩ := lay_rows h
  unfold SeqAt.shaped
  simp [PyData.canLay0, PyData.depth, a]
  omega
theorem dp_rows {K : PySem.W.Frag} {H : Hp} : ∀ {ts : List Addr} {rows : List Row}, RowsAt H ts rows → DpAll K H (ts.map V.ref) (rows.map rPD)
  | _, _, .nil => .nil
  | _, _, .cons a b => .cons (.tup (SqT.of a) (.cons (.str _) (.cons (.int _) .nil))) (dp_rows b)
theorem eqv_rows : ∀ rows : List Row, PyData.eqvAll (rows.map rPD) (rows.map rPD) = true
  | [] => by simp [PyData.eqvAll]
  | q :: rows => by
    have := eqv_rows rows
    simp [PyData.eqvAll, PyData.eqv, rPD, this]
theorem ne_nil_rows {K : PySem.W.Frag} {H : Hp} {Q : VK} {A B : Addr} {ts : List Addr} {rows : List Row} (hA : SqL K H A (ts.map V.ref)) (hr : RowsAt H ts rows) (hB : SqL K H B []) (ok : Low rows) (q : Q (.bl (!rows.isEmpty)) H) : rNeD K (.ref A) (.ref B) H Q := by
  refine ⟨.list (rows.map rPD), .list [], .lst hA (dp_rows hr), .lst hB .nil, sh_rows ok, by simp [SeqAt.shaped, PyData.canLay0, PyData.canLayAll0, PyData.depth, PyData.depthAll], ?_⟩
  have e : PyData.eqv (.list (rows.map rPD)) (.list []) = rows.isEmpty := by
    cases rows <;> simp [PyData.eqv, PyData.eqvAll]
  rw [e]
  exact q
theorem ne_same_rows {K : PySem.W.Frag} {H : Hp} {Q : VK} {A B : Addr} {ts ts' : List Addr} {rows : List Row} (hA : SqL K H A (ts.map V.ref)) (hr : RowsAt H ts rows) (hB : SqL K H B (ts'.map V.ref)) (hr' : RowsAt H ts' rows) (ok : Low rows) (q : Q (.bl false) H) : rNeD K (.ref A) (.ref B) H Q := by
  refine ⟨.list (rows.map rPD), .list (rows.map rPD), .lst hA (dp_rows hr), .lst hB (dp_rows hr'), sh_rows ok, sh_rows ok, ?_⟩
  have e : PyData.eqv (.list (rows.map rPD)) (.list (rows.map rPD)) = true := by simp [PyData.eqv, eqv_rows]
  rw [e]
  exact q
def Bnd (b : Nat) (rows : List Row) : Prop := ∀ q ∈ rows, q.1.length ≤ b ∧ ∀ c ∈ q.1, c < 128
theorem Bnd.low {b : Nat} {rows : List Row} (h : Bnd b rows) : Low rows := fun q hq => (h q hq).2
theorem Bnd.mono {b b' : Nat} {rows : List Row} (h : Bnd b rows) (l : b ≤ b') : Bnd b' rows := fun q hq => ⟨Nat.le_trans (h q hq).1 l, (h q hq).2⟩
end CK

namespace CK
open PySem L2 PyProof.Rows LamX NdefX
/-! ### what asking tells, part by part -/
inductive Pt where
  | i (z : Int)
  | s (t : List Nat)
  | b (x : Bool)
  | li (l : List Int)
  | ld (l : List Deed)
  | lr (l : List Row)
  | ls (l : List (List Nat))
  | tp (m : Int) (q : List Nat)
def PtAt (Fr : Addr → Prop) (H : Hp) (v : V) : Pt → Prop
  | .i z => v = .int z
  | .s t => v = .str (Tx t)
  | .b x => v = .bl x
  | .li l => ∃ a, v = .ref a ∧ Fr a ∧ H a = some (.lst (l.map V.int)) ∧ l.length ≤ 100
  | .ld l => ∃ a as, v = .ref a ∧ Fr a ∧ H a = some (.lst (as.map V.ref)) ∧ Tups H as l ∧ l.length ≤ 100
  | .lr l => ∃ a ts, v = .ref a ∧ Fr a ∧ H a = some (.lst (ts.map V.ref)) ∧ RowsAt H ts l ∧ l.length ≤ 100
  | .ls l => ∃ a, v = .ref a ∧ Fr a ∧ H a = some (.lst (l.map txV)) ∧ l.length ≤ 100
  | .tp m q => ∃ a, v = .ref a ∧ H a = some (.tup [.int m, .str (Tx q)])
def PtsAt (Fr : Addr → Prop) (H : Hp) (vs : List V) (pts : List Pt) : Prop := Paired (PtAt Fr H) vs pts
theorem PtAt.fr {Fr Fr' : Addr → Prop} {H H' : Hp} {v : V} {p : Pt} (h : PtAt Fr H v p) (f : ∀ a, Fr a → Fr' a) (st : ∀ y xs, H y = some (.tup xs) → H' y = some (.tup xs)) (sl : ∀ y xs, Fr y → H y = some (.lst xs) → H' y = some (.lst xs)) : PtAt Fr' H' v p := by
  cases p with
  | i z => exact h
  | s t => exact h
  | b x => exact h
  | li l => obtain ⟨a, e, q, k, n⟩ := h; exact ⟨a, e, f a q, sl _ _ q k, n⟩
  | ld l => obtain ⟨a, as, e, q, k, t, n⟩ := h; exact ⟨a, as, e, f a q, sl _ _ q k, t.mono (fun y xs z => st y xs z), n⟩
  | lr l => obtain ⟨a, ts, e, q, k, t, n⟩ := h; exact ⟨a, ts, e, f a q, sl _ _ q k, t.mono (fun y xs z => st y xs z), n⟩
  | ls l => obtain ⟨a, e, q, k, n⟩ := h; exact ⟨a, e, f a q, sl _ _ q k, n⟩
  | tp m q => obtain ⟨a, e, k⟩ := h; exact ⟨a, e, st _ _ k⟩
theorem PtsAt.fr {Fr Fr' : Addr → Prop} {H H' : Hp} {vs : List V} {ps : List Pt} (h : PtsAt Fr H vs ps) (f : ∀ a, Fr a → Fr' a) (st : ∀ y xs, H y = some (.tup xs) → H' y = some (.tup xs)) (sl : ∀ y xs, Fr y → H y = some (.lst xs) → H' y = some (.lst xs)) : PtsAt Fr' H' vs ps := Paired.mapP h fun _ _ q => q.fr f st sl
def bestP (w : Nat) (ds : List Deed) : Option (List Nat) := (bestF w ds).1[bestIx ((bestF w ds).1.map fun p => ((bestF w ds).2 p).1)]?
/-- what asking of a kind tells -/
def AnsD (k : Nat) (r : List Nat) (w : Nat) (ds : List Deed) (rows : List Row) (pts : List Pt) : Prop := match k with
  | 0 => pts = [.li (runM r (zeros w) ds).1, .s (runM r (zeros w) ds).2, .tp (stepM r (zeros w) (true, 0)).1 (stepM r (zeros w) (true, 0)).2]
  | 1 => ∃ mv dn es x ks c, ResD r w ks mv dn es x c ∧ pts = [.i mv, .i dn, .s x, .ld (es.map fun e => e.1)]
  | 2 => ∃ mv dn es x ks c, ResD r w ks mv dn es x c ∧ pts = [.i mv, .i dn, .lr (rowsK ks c), .b (judge r w 1 1 rows)]
  | _ => ∃ p, bestP w (ds.take 6) = some p ∧ pts = [.i ((bestF w (ds.take 6)).2 p).1, .ls ((bestF w (ds.take 6)).2 p).2]
theorem ans_fn {k : Nat} {r : List Nat} {w : Nat} {ds : List Deed} {rows : List Row} {p q : List Pt} (h : AnsD k r w ds rows p) (h' : AnsD k r w ds rows q) : p = q := by
  match k, h, h' with
  | 0, h, h' => exact h.trans h'.symm
  | 1, h, h' =>
    obtain ⟨mv, dn, es, x, ks, c, a, rfl⟩ := h
    obtain ⟨mv', dn', es', x', ks', c', a', rfl⟩ := h'
    obtain ⟨e1, e2, e3, e4, e5, e6⟩ := resD_fn a a'
    subst e1 e2 e3 e4 e5 e6
    rfl
  | 2, h, h' =>
    obtain ⟨mv, dn, es, x, ks, c, a, rfl⟩ := h
    obtain ⟨mv', dn', es', x', ks', c', a', rfl⟩ := h'
    obtain ⟨e1, e2, e3, e4, e5, e6⟩ := resD_fn a a'
    subst e1 e2 e3 e4 e5 e6
    rfl
  | n + 3, h, h' =>
    obtain ⟨p1, a, rfl⟩ := h
    obtain ⟨p2, a', rfl⟩ := h'
    have a : bestP w (ds.take 6) = some p1 := a
    have a' : bestP w (ds.take 6) = some p2 := a'
    rw [a] at a'
    cases a'
    rfl
theorem cnt_pre {w : Nat} : ∀ (ds : List Deed) (n m i : Nat), cnt w n ds = some m → ∃ k, cnt w n (ds.take i) = some k
  | [], n, m, i, h => ⟨n, by rw [List.take_nil]; rfl⟩
  | d :: ds, n, m, 0, h => ⟨n, rfl⟩
  | d :: ds, n, m, i + 1, h => by
    have h : (match step1 w n d with | some m => cnt w m ds | none => none) = some m := h
    show ∃ k, (match step1 w n d with | some m => cnt w m (ds.take i) | none => none) = some k
    cases q : step1 w n d with
    | none => rw [q] at h; cases h
    | some a => rw [q] at h; exact cnt_pre ds a m i h
theorem tups_take {H : Hp} : ∀ {as : List Addr} {ds : List Deed} (i : Nat), Tups H as ds → Tups H (as.take i) (ds.take i)
  | _, _, 0, _ => .nil
  | [], [], i + 1, _ => .nil
  | a :: as, d :: ds, i + 1, h => by
    cases h with
    | cons a b => exact .cons a (tups_take i b)
theorem rows_of {H : Hp} {c : List Nat → Int} : ∀ {ts : List Addr} {ks : List (List Nat)}, Paired (fun t p => H t = some (.tup [.str (Tx p), .int (c p)])) ts ks → RowsAt H ts (rowsK ks c)
  | _, _, .nil => .nil
  | _, _, .cons a b => .cons a (rows_of b)
def spAskK (Pa : Addr) : Sp := fun vs H Q _ => ∃ (k : Nat) (r : List Nat) (w : Nat) (A B : Addr) (as : List Addr) (ds : List Deed) (n : Nat) (ts : List Addr) (rows : List Row), vs = [.int k, .str (Tx r), .int w, .ref A, .ref B] ∧ k < 4 ∧ r ∈ rules ∧ 1 ≤ w ∧ w ≤ 6 ∧ cnt w 0 ds = some n ∧ ds.length ≤ 10 ∧ H A = some (.lst (as.map V.ref)) ∧ Tups H as ds ∧ H B = some (.lst (ts.map V.ref)) ∧ RowsAt H ts rows ∧ Bnd 6 rows ∧ rows.length ≤ 64 ∧ TabsN [(Pa, nmF)] H ∧
  ∀ H' L ys pts, ExtN H H' → TabsN [(Pa, nmF)] H' → (∀ b, H' b = none → H b = none) → H L = none → H' L = some (.lst ys) → (∀ a, V.ref a ∈ ys → a ≠ L) → PtsAt (fun a => H a = none) H' ys pts → AnsD k r w ds rows pts → ys.length ≤ 5 → Q (.ref L) H'
section
variable {P : Program} {w : World} {K : PySem.W.Frag} {mg : Str → Option Value} {base : Heap} {cc : Nat → Addr}
abbrev s__law_asked : Stmt := top 55
theorem sc__law_asked : FnScope ["_law_kind", "_law_rule_here", "_law_wide", "_law_deeds", "_law_rows"] ["_law_kind", "_law_rule_here", "_law_wide", "_law_deeds", "_law_rows"] (defScope s__law_asked) := ⟨rfl, rfl, rfl, by decide +kernel, rfl, by decide +kernel, by decide +kernel⟩

theorem ok_asked10 {Pa : Addr} {f : Addr} {fd : FuncData} (F : Fun K "_law_asked" "_law_asked" s__law_asked f fd) (T : Txt K mg) (OY : OwnS P w K mg base 4 "played" ["rule", "wide", "deeds"] spPlayed) (OE : Own P w K mg base cc 4 "done" ["rule", "pattern", "deed"] c_done) (OWo : OwnS P w K mg base 7 "worst" ["rule", "wide"] spWorst)
    (OPu : OwnS P w K mg base 7 "purse" ["rule", "wide"] spPurse) (OZ : OwnS P w K mg base 6 "shows" ["rule", "wide", "moves", "deeds", "told"] spShows) (OF : OwnS P w K mg base 4 "fewest" ["wide", "deeds"] (spFewest Pa)) : FnOk P w K mg base CX0 8 f fd ["_law_kind", "_law_rule_here", "_law_wide", "_law_deeds", "_law_rows"] (spAskK Pa) := by
  refine F.ok sc__law_asked (fun vs H Q E h => ?_) (fun cdv A outer s H vs Q E hr h => ?_)
  · obtain ⟨_, _, _, _, _, _, _, _, _, _, rfl, _⟩ := h
    rfl
  · obtain ⟨k, r, w, A, B, as, ds, n, ts, rows, rfl, hk4, hrr, h1, h6, hc, hd10, hA, ht, hB, hrw, hbd, hrl, hT, kq⟩ := h
    have nd := sc__law_asked.nd
    obtain ⟨mok, emul⟩ := zero_mul h1 h6
    obtain ⟨zb, zm, zl⟩ := zeros_ok w
    refine ⟨_, (pss_cons (ps_if (pt_cmpR op_eq (pv 0) pe_int (nomark _)) (pss_one (ps_ret (pe_op op_cat (pe_callTy call_list_of (by rfl) T.n_list boot_listQ (pa_cons (pe_own OY (hr.mono (by decide)) (pa_cons (pv 1) (pa_cons (pv 2) (pa_cons (pv 3) pa_nil)))) pa_nil)) (pe_lst (pa_cons (pe_own OE (hr.mono (by decide)) (pa_cons (pv 1) (pa_cons (pe_op op_mul_str pe_str (pv 2)) (pa_cons (pe_tup (pa_cons pe_str (pa_cons pe_int pa_nil))) pa_nil)))) pa_nil))))) pss_nil)
      (pss_cons (ps_if (pt_cmpR op_eq (pv 0) pe_int (nomark _)) (pss_one (ps_ret (pe_callTy call_list_of (by rfl) T.n_list boot_listQ (pa_cons (pe_own OWo (hr.mono (by decide)) (pa_cons (pv 1) (pa_cons (pv 2) pa_nil))) pa_nil)))) pss_nil)
      (pss_cons (ps_if (pt_cmpR op_eq (pv 0) pe_int (nomark _)) (pss_one (ps_ret (pe_op op_cat (pe_callTy call_list_of (by rfl) T.n_list boot_listQ (pa_cons (pe_own OPu (hr.mono (by decide)) (pa_cons (pv 1) (pa_cons (pv 2) pa_nil))) pa_nil)) (pe_lst (pa_cons (pe_own OZ (hr.mono (by decide)) (pa_cons (pv 1) (pa_cons (pv 2) (pa_cons pe_int (pa_cons pe_int (pa_cons (pv 4) pa_nil)))))) pa_nil))))) pss_nil)
      (pss_one (ps_ret (pe_callTy call_list_of (by rfl) T.n_list boot_listQ (pa_cons (pe_own OF (hr.mono (by decide)) (pa_cons (pv 2) (pa_cons (pe_slice sl_list (pv 3) po_none (po_some pe_int)) pa_nil))) pa_nil))))))), ?_⟩
    refine ⟨_, rfl, rfl, _, rfl, ite2 (fun h0 => ?_) (fun h0 => ?_)⟩
    · obtain rfl : k = 0 := by have := V.int.inj (of_decide_eq_true h0); omega
      refine ⟨_, rfl, _, rfl, _, rfl, r, w, A, ds, as, n, rfl, hrr, h1, h6, hc, hA, ht, by omega, fun H2 pp To s2 hpp hpp2 hTo hTo0 => ?_⟩
      refine ⟨pp, _, rfl, .inr (SqT.of hpp2), fun L1 hL1 => ?_⟩
      have s3 : Same H (upd H2 L1 (.lst [.ref To, .str (Tx (runM r (zeros w) ds).2)])) := Same.new' s2 hL1
      have eL1 : (upd H2 L1 (.lst [.ref To, .str (Tx (runM r (zeros w) ds).2)])) L1 = some (.lst [.ref To, .str (Tx (runM r (zeros w) ds).2)]) := upd_same
      have hTo3 : (upd H2 L1 (.lst [.ref To, .str (Tx (runM r (zeros w) ds).2)])) To = some (.lst ((runM r (zeros w) ds).1.map V.int)) := upd_keep hL1 hTo
      generalize upd H2 L1 (.lst [.ref To, .str (Tx (runM r (zeros w) ds).2)]) = H3 at *
      refine ⟨_, rfl, _, rfl, "0", w, rfl, rfl, mok, (show 2 ≤ sizeLine by decide), fun U hU => ?_⟩
      have s4 := Same.new' (o := .tup [.str "put", .int 0]) s3 hU
      have eU : (upd H3 U (.tup [.str "put", .int 0])) U = some (.tup [.str (wd (true, 0).1), .int (((true, 0) : Deed).2 : Nat)]) := upd_same
      have eL4 : (upd H3 U (.tup [.str "put", .int 0])) L1 = some (.lst [.ref To, .str (Tx (runM r (zeros w) ds).2)]) := upd_keep hU eL1
      have hTo4 : (upd H3 U (.tup [.str "put", .int 0])) To = some (.lst ((runM r (zeros w) ds).1.map V.int)) := upd_keep hU hTo3
      generalize upd H3 U (.tup [.str "put", .int 0]) = H4 at *
      have g := good_step (d := (true, 0)) (k := 1) hrr zb (by omega) (by omega) (by rw [zm, zl]; show (if 0 ≤ 0 ∧ 0 < w then some (0 + 1) else none) = some 1; rw [if_pos ⟨Nat.le_refl _, by omega⟩])
      obtain ⟨nE, hE, eE, gE, kE⟩ := rdTS_some g.done
      have eE : c_done [.str r, .str (zeros w), .ref 0] (CH.of [dT (true, 0)]) = some (.ref nE, hE) := eE
      rw [emul]
      refine sp_keeps (cc := cc) (E := E0) (HR.one eU (dT_ro (true, 0))) (.cons (rvS r) (.cons (rvS (zeros w)) (.cons (rvR (n := 0) rfl) .nil))) eE kE fun η5 H5 v5 s5 _ R5 rv5 => ?_
      obtain ⟨T5, eT5, rfl⟩ := rv5
      obtain ⟨y5, hT5, ry5⟩ := R5.tup gE eT5
      rw [RVs.fn ry5 (.cons (rvI _) (.cons (rvS _) .nil))] at hT5
      refine ⟨(show 1 ≤ sizeLine by decide), fun L2 hL2 => ?_⟩
      have eL5 := s5 _ _ eL4
      have hTo5 := s5 _ _ hTo4
      refine ⟨L1, L2, _, _, rfl, rfl, upd_keep hL2 eL5, upd_same, (show 2 + 1 ≤ sizeLine by decide), fun L hL => ?_⟩
      have s6 := Same.new' (o := .lst [.ref T5]) (s4.trans s5) hL2
      have hTo6 : (upd H5 L2 (.lst [.ref T5])) To = some (.lst ((runM r (zeros w) ds).1.map V.int)) := upd_keep hL2 hTo5
      have hT6 : (upd H5 L2 (.lst [.ref T5])) T5 = some (.tup [.int (stepM r (zeros w) (true, 0)).1, .str (Tx (stepM r (zeros w) (true, 0)).2)]) := upd_keep hL2 hT5
      generalize upd H5 L2 (.lst [.ref T5]) = H6 at *
      have s7 := Same.new' (o := .lst ([.ref To, .str (Tx (runM r (zeros w) ds).2)] ++ [.ref T5])) s6 hL
      refine kq _ L _ [.li (runM r (zeros w) ds).1, .s (runM r (zeros w) ds).2, .tp (stepM r (zeros w) (true, 0)).1 (stepM r (zeros w) (true, 0)).2] (ExtN.of s7) (hT.ext s7) (fun b e => s7.free e) (s6.free hL) upd_same (fun a ha => ?_) (.cons ⟨To, rfl, hTo0, upd_keep hL hTo6, by rw [runM_len]; omega⟩ (.cons rfl (.cons ⟨T5, rfl, upd_keep hL hT6⟩ .nil))) rfl (show 3 ≤ 5 by decide)
      simp at ha
      rcases ha with rfl | rfl
      · exact ne_of_none hTo6 hL
      · exact ne_of_none hT6 hL
    have n0 : k ≠ 0 := fun z => h0 (by rw [z]; exact decide_eq_true rfl)
    refine ⟨_, rfl, rfl, _, rfl, ite2 (fun h2 => ?_) (fun h2 => ?_)⟩
    · obtain rfl : k = 1 := by have := V.int.inj (of_decide_eq_true h2); omega
      refine ⟨_, rfl, _, rfl, r, w, rfl, hrr, h1, h6, fun H2 R L0 mv dn das es x ks c s2 hR hR2 hL0 hL02 htd res => ?_⟩
      refine ⟨R, _, rfl, .inr (SqT.of hR2), fun L hL => ?_⟩
      have s3 := Same.new' (o := .lst [.int mv, .int dn, .str (Tx x), .ref L0]) s2 hL
      have l64 := res.l64
      have s23 : Same H2 (upd H2 L (.lst [.int mv, .int dn, .str (Tx x), .ref L0])) := Same.new' (Same.refl _) hL
      refine kq _ L _ [.i mv, .i dn, .s x, .ld (es.map fun e => e.1)] (ExtN.of s3) (hT.ext s3) (fun b e => s3.free e) (s2.free hL) upd_same (fun a ha => ?_) (.cons rfl (.cons rfl (.cons rfl (.cons ⟨L0, das, rfl, hL0, s23 _ _ hL02, htd.mono (TS.same s23), by rw [List.length_map]; omega⟩ .nil)))) ⟨mv, dn, es, x, ks, c, res.rd, rfl⟩ (show 4 ≤ 5 by decide)
      simp at ha
      subst ha
      exact ne_of_none hL02 hL
    have n1 : k ≠ 1 := fun z => h2 (by rw [z]; exact decide_eq_true rfl)
    refine ⟨_, rfl, rfl, _, rfl, ite2 (fun h3 => ?_) (fun h3 => ?_)⟩
    · obtain rfl : k = 2 := by have := V.int.inj (of_decide_eq_true h3); omega
      refine ⟨_, rfl, _, rfl, r, w, rfl, hrr, h1, h6, fun H2 R L0 mv dn us es x ks c s2 hR hR2 hL0 hL02 hpd res => ?_⟩
      refine ⟨R, _, rfl, .inr (SqT.of hR2), fun L1 hL1 => ?_⟩
      have s3 := Same.new' (o := .lst [.int mv, .int dn, .ref L0]) s2 hL1
      have s23 : Same H2 (upd H2 L1 (.lst [.int mv, .int dn, .ref L0])) := Same.new' (Same.refl _) hL1
      have eL1 : (upd H2 L1 (.lst [.int mv, .int dn, .ref L0])) L1 = some (.lst [.int mv, .int dn, .ref L0]) := upd_same
      have kle := res.ok.le
      have hrows : RowsAt (upd H2 L1 (.lst [.int mv, .int dn, .ref L0])) us (rowsK ks c) := (rows_of hpd).mono (TS.same s23)
      have hL03 := s23 _ _ hL02
      generalize upd H2 L1 (.lst [.int mv, .int dn, .ref L0]) = H3 at *
      refine ⟨_, rfl, _, rfl, _, rfl, r, w, 1, 1, B, ts, rows, rfl, hrr, h1, h6, by decide, by decide, fun q hq => ⟨by have := (hbd q hq).1; omega, (hbd q hq).2⟩, by omega, s3 _ _ hB, hrw.mono (TS.same s3), fun H4 s4 => ⟨(show 1 ≤ sizeLine by decide), fun L2 hL2 => ?_⟩⟩
      have s34 := s3.trans s4
      refine ⟨L1, L2, _, _, rfl, rfl, upd_keep hL2 (s4 _ _ eL1), upd_same, (show 3 + 1 ≤ sizeLine by decide), fun L hL => ?_⟩
      have s6 := Same.new' (o := .lst [.bl (judge r w 1 1 rows)]) s34 hL2
      have s46 : Same H3 (upd H4 L2 (.lst [.bl (judge r w 1 1 rows)])) := Same.new' s4 hL2
      generalize upd H4 L2 (.lst [.bl (judge r w 1 1 rows)]) = H6 at *
      have s7 := Same.new' (o := .lst ([.int mv, .int dn, .ref L0] ++ [.bl (judge r w 1 1 rows)])) s6 hL
      have s37 := Same.new' (o := .lst ([.int mv, .int dn, .ref L0] ++ [.bl (judge r w 1 1 rows)])) s46 hL
      refine kq _ L _ [.i mv, .i dn, .lr (rowsK ks c), .b (judge r w 1 1 rows)] (ExtN.of s7) (hT.ext s7) (fun b e => s7.free e) (s6.free hL) upd_same (fun a ha => ?_) (.cons rfl (.cons rfl (.cons ⟨L0, us, rfl, hL0, s37 _ _ hL03, hrows.mono (TS.same s37), by unfold rowsK; rw [List.length_map]; omega⟩ (.cons rfl .nil)))) ⟨mv, dn, es, x, ks, c, res.rd, rfl⟩ (show 4 ≤ 5 by decide)
      simp at ha
      subst ha
      exact ne_of_none (s46 _ _ hL03) hL
    have n2 : k ≠ 2 := fun z => h3 (by rw [z]; exact decide_eq_true rfl)
    obtain rfl : k = 3 := by omega
    refine ⟨_, rfl, _, rfl, (6 : Int), rfl, A, _, rfl, SqL.of hA, fun A6 hA6 => ?_⟩
    have e6 : cutV (as.map V.ref) none (some (6 : Int)) = (as.take 6).map V.ref := by
      have := cutV_lo (as.map V.ref) 6
      rw [List.map_take]
      exact this
    rw [e6]
    have s2 : Same H (upd H A6 (.lst ((as.take 6).map V.ref))) := Same.new' (Same.refl _) hA6
    have eA6 : (upd H A6 (.lst ((as.take 6).map V.ref))) A6 = some (.lst ((as.take 6).map V.ref)) := upd_same
    generalize upd H A6 (.lst ((as.take 6).map V.ref)) = H2 at *
    obtain ⟨m, hm⟩ := cnt_pre ds 0 n 6 hc
    refine ⟨w, A6, as.take 6, ds.take 6, m, rfl, h1, h6, by rw [List.length_take]; omega, hm, eA6, tups_take 6 (ht.mono (TS.same s2)), hT.ext s2, fun H3 R L0 ks f p ext tabs hL0 hR hL03 bst hp hle nn bf hbp => ?_⟩
    refine ⟨R, _, rfl, .inr (SqT.of hR), fun L hL => ?_⟩
    have s34 : Same H3 (upd H3 L (.lst [.int (f p).1, .ref L0])) := Same.new' (Same.refl _) hL
    have ebp : bestP w (ds.take 6) = some p := by unfold bestP; rw [← bf]; exact hbp
    have pq := (way_ok (bst.so p hp) h6).2.2.1
    refine kq _ L _ [.i (f p).1, .ls (f p).2] (fun b o e n => s34 _ _ (ext _ _ (s2 _ _ e) n)) (tabs.ext s34) (fun b e => s2.free (nn b (s34.free e))) (s2.free (nn L hL)) upd_same (fun a ha => ?_) (.cons rfl (.cons ⟨L0, rfl, s2.free hL0, s34 _ _ hL03, ?_⟩ .nil)) ⟨p, ebp, by rw [← bf]⟩ (show 2 ≤ 5 by decide)
    · simp at ha
      subst ha
      exact ne_of_none hL03 hL
    · rw [List.length_take] at pq
      omega
end
end CK

namespace CK
open PySem L2 PyProof.Rows LamX NdefX
theorem TabsN.but {T : List NTab} {H H' : Hp} {a : Addr} {l : List V} (t : TabsN T H) (b : But a H H') (ha : H a = some (.lst l)) : TabsN T H' := fun p hp => by
  obtain ⟨ps, h1, h2, h3⟩ := t p hp
  refine ⟨ps, b _ _ (fun z => by rw [z, ha] at h1; cases h1) h1, h2, fun pos cv hc => ?_⟩
  obtain ⟨c, e, h4⟩ := h3 pos cv hc
  exact ⟨c, e, b _ _ (fun z => by rw [z, ha] at h4; cases h4) h4⟩
theorem kbi : kitB "int" "list" = some false := by decide +kernel
theorem kbs : kitB "str" "list" = some false := by decide +kernel
theorem kbb : kitB "bool" "list" = some false := by decide +kernel
/-- what stays from one heap to a later one: all but the dice -/
structure Fx (dd Pa : Addr) (H H' : Hp) : Prop where
  k : ∀ y o, y ≠ dd → H y = some o → (∀ ps, o ≠ .tbl ps) → H' y = some o
  d : DiceAt H' dd
  t : TabsN [(Pa, nmF)] H'
  al : ∀ b, H' b = none → H b = none
section
variable {dd Pa : Addr} {H H1 H2 : Hp}
theorem Fx.refl (d : DiceAt H dd) (t : TabsN [(Pa, nmF)] H) : Fx dd Pa H H := ⟨fun _ _ _ e _ => e, d, t, fun _ e => e⟩
theorem Fx.bt (f : Fx dd Pa H H1) (b : But dd H1 H2) (d : DiceAt H2 dd) : Fx dd Pa H H2 := by
  obtain ⟨ns, _, e⟩ := f.d
  refine ⟨fun y o n q z => b _ _ n (f.k y o n q z), d, CK.TabsN.but f.t b e, fun x hx => f.al x ?_⟩
  cases q : H1 x with
  | none => rfl
  | some u =>
    by_cases z : x = dd
    · obtain ⟨_, _, e2⟩ := d
      rw [z, e2] at hx; cases hx
    · rw [b x u z q] at hx; cases hx
theorem Fx.sm (f : Fx dd Pa H H1) (s : Same H1 H2) : Fx dd Pa H H2 := ⟨fun y o n q z => s _ _ (f.k y o n q z), f.d.frm' fun o q => s _ o q, f.t.ext s, fun x hx => f.al x (s.free hx)⟩
theorem Fx.ex (f : Fx dd Pa H H1) (e : ExtN H1 H2) (t : TabsN [(Pa, nmF)] H2) (nn : ∀ b, H2 b = none → H1 b = none) : Fx dd Pa H H2 := by
  obtain ⟨ns, dn, ed⟩ := f.d
  exact ⟨fun y o n q z => e _ _ (f.k y o n q z) z, ⟨ns, dn, e _ _ ed (fun _ z => by cases z)⟩, t, fun x hx => f.al x (nn x hx)⟩
theorem Fx.at (f : Fx dd Pa H H1) {a : Addr} {l l' : List V} (ha : H a = none) (h1 : H1 a = some (.lst l)) (b : But a H1 H2) (h2 : H2 a = some (.lst l')) (na : a ≠ dd) : Fx dd Pa H H2 := by
  refine ⟨fun y o n q z => b _ _ (fun e => by rw [e, ha] at q; cases q) (f.k y o n q z), f.d.frm' fun o q => b _ _ (Ne.symm na) q, CK.TabsN.but f.t b h1, fun x hx => f.al x ?_⟩
  cases q : H1 x with
  | none => rfl
  | some u =>
    by_cases z : x = a
    · rw [z, h2] at hx; cases hx
    · rw [b x u z q] at hx; cases hx
theorem Fx.trans (f : Fx dd Pa H H1) (g : Fx dd Pa H1 H2) : Fx dd Pa H H2 := ⟨fun y o n q z => g.k _ _ n (f.k y o n q z) z, g.d, g.t, fun x hx => f.al x (g.al x hx)⟩
theorem Fx.tu (f : Fx dd Pa H H1) {y : Addr} {xs : List V} (d : DiceAt H dd) (e : H y = some (.tup xs)) : H1 y = some (.tup xs) := f.k _ _ (fun z => by obtain ⟨_, _, q⟩ := d; rw [z, q] at e; cases e) e (fun _ z => by cases z)
theorem Fx.ls (f : Fx dd Pa H H1) {y : Addr} {xs : List V} (n : y ≠ dd) (e : H y = some (.lst xs)) : H1 y = some (.lst xs) := f.k _ _ n e (fun _ z => by cases z)
end
/-- a case: a rule, a width, deeds, rows -/
structure Ca where
  r : List Nat
  w : Nat
  D : Addr
  as : List Addr
  ds : List Deed
  B : Addr
  ts : List Addr
  rows : List Row
  T : Addr
structure CaAt (dd : Addr) (H : Hp) (z : Ca) : Prop where
  t : H z.T = some (.tup [.str (Tx z.r), .int z.w, .ref z.D, .ref z.B])
  rr : z.r ∈ rules
  w1 : 1 ≤ z.w
  w6 : z.w ≤ 6
  c : ∃ n, cnt z.w 0 z.ds = some n
  l : z.ds.length ≤ 10
  d : H z.D = some (.lst (z.as.map V.ref))
  dn : z.D ≠ dd
  dt : Tups H z.as z.ds
  b : H z.B = some (.lst (z.ts.map V.ref))
  bn : z.B ≠ dd
  bt : RowsAt H z.ts z.rows
  bd : Bnd 6 z.rows
  bl : z.rows.length ≤ 64
theorem CaAt.fx {dd Pa : Addr} {H H' : Hp} {z : Ca} (h : CaAt dd H z) (d : DiceAt H dd) (f : Fx dd Pa H H') : CaAt dd H' z := ⟨f.tu d h.t, h.rr, h.w1, h.w6, h.c, h.l, f.ls h.dn h.d, h.dn, h.dt.mono (fun _ _ e => f.tu d e), f.ls h.bn h.b, h.bn, h.bt.mono (fun _ _ e => f.tu d e), h.bd, h.bl⟩
def KeptAt (dd Kp : Addr) (H : Hp) (a : Addr) (x : Ca × Nat) : Prop := ∃ ys pts, H a = some (.lst ys) ∧ a ≠ dd ∧ a ≠ Kp ∧ PtsAt (fun a => a ≠ dd ∧ a ≠ Kp) H ys pts ∧ AnsD x.2 x.1.r x.1.w x.1.ds x.1.rows pts ∧ ys.length ≤ 5
theorem KeptAt.fx {dd Kp Pa : Addr} {H H' : Hp} {a : Addr} {x : Ca × Nat} (h : KeptAt dd Kp H a x) (d : DiceAt H dd) (f : Fx dd Pa H H') : KeptAt dd Kp H' a x := by
  obtain ⟨ys, pts, h1, h2, h2', h3, h4, h5⟩ := h
  exact ⟨ys, pts, f.ls h2 h1, h2, h2', h3.fr (fun _ z => z) (fun _ _ e => f.tu d e) (fun _ _ n e => f.ls n.1 e), h4, h5⟩
theorem KeptAt.up {dd Kp : Addr} {H H' : Hp} {a : Addr} {l : List V} {x : Ca × Nat} (h : KeptAt dd Kp H a x) (b : But Kp H H') (hK : H Kp = some (.lst l)) : KeptAt dd Kp H' a x := by
  obtain ⟨ys, pts, h1, h2, h2', h3, h4, h5⟩ := h
  exact ⟨ys, pts, b _ _ h2' h1, h2, h2', h3.fr (fun _ z => z) (fun _ _ e => b _ _ (fun z => by rw [z, hK] at e; cases e) e) (fun _ _ n e => b _ _ n.2 e), h4, h5⟩
theorem CaAt.up {dd C : Addr} {H H' : Hp} {l : List V} {z : Ca} (h : CaAt dd H z) (n1 : z.D ≠ C) (n2 : z.B ≠ C) (b : But C H H') (hC : H C = some (.lst l)) : CaAt dd H' z := ⟨b _ _ (fun z => by have := h.t; rw [z, hC] at this; cases this) h.t, h.rr, h.w1, h.w6, h.c, h.l, b _ _ n1 h.d, h.dn, h.dt.mono (fun _ _ e => b _ _ (fun z => by rw [z, hC] at e; cases e) e), b _ _ n2 h.b, h.bn, h.bt.mono (fun _ _ e => b _ _ (fun z => by rw [z, hC] at e; cases e) e), h.bd, h.bl⟩
/-- the cases so far -/
structure CsAt (dd Pa Cs : Addr) (zs : List Ca) (H : Hp) : Prop where
  d : DiceAt H dd
  t : TabsN [(Pa, nmF)] H
  n : Cs ≠ dd
  cs : H Cs = some (.lst (zs.map fun z => V.ref z.T))
  a : ∀ z ∈ zs, CaAt dd H z ∧ z.D ≠ Cs ∧ z.B ≠ Cs
def allC (z0 z1 : Ca) : List (Ca × Nat) := [(z0, 0), (z0, 1), (z0, 2), (z0, 3), (z1, 0), (z1, 1), (z1, 2), (z1, 3)]
structure Wd (dd Pa Cs Kp : Addr) (z0 z1 : Ca) (m : Nat) (kas : List Addr) (H : Hp) : Prop where
  d : DiceAt H dd
  t : TabsN [(Pa, nmF)] H
  nC : Cs ≠ dd
  cs : H Cs = some (.lst [.ref z0.T, .ref z1.T])
  c0 : CaAt dd H z0
  c1 : CaAt dd H z1
  nK : Kp ≠ dd
  kp : H Kp = some (.lst (kas.map V.ref))
  ka : Paired (KeptAt dd Kp H) kas ((allC z0 z1).take m)
  n0 : z0.D ≠ Kp ∧ z0.B ≠ Kp
  n1 : z1.D ≠ Kp ∧ z1.B ≠ Kp
  nCK : Cs ≠ Kp
theorem Wd.fx {dd Pa Cs Kp : Addr} {z0 z1 : Ca} {m : Nat} {kas : List Addr} {H H' : Hp} (w : Wd dd Pa Cs Kp z0 z1 m kas H) (f : Fx dd Pa H H') : Wd dd Pa Cs Kp z0 z1 m kas H' := ⟨f.d, f.t, w.nC, f.ls w.nC w.cs, w.c0.fx w.d f, w.c1.fx w.d f, w.nK, f.ls w.nK w.kp, Paired.mapP w.ka fun _ _ q => q.fx w.d f, w.n0, w.n1, w.nCK⟩
theorem Wd.up {dd Pa Cs Kp : Addr} {z0 z1 : Ca} {m : Nat} {kas : List Addr} {H H' : Hp} {a : Addr} {x : Ca × Nat} (w : Wd dd Pa Cs Kp z0 z1 m kas H) (b : But Kp H H') (hK : H' Kp = some (.lst ((kas ++ [a]).map V.ref))) (k : KeptAt dd Kp H a x) (hx : (allC z0 z1)[m]? = some x) : Wd dd Pa Cs Kp z0 z1 (m + 1) (kas ++ [a]) H' :=
  ⟨w.d.frm' fun o q => b _ _ (Ne.symm w.nK) q, CK.TabsN.but w.t b w.kp, w.nC, b _ _ w.nCK w.cs, w.c0.up w.n0.1 w.n0.2 b w.kp, w.c1.up w.n1.1 w.n1.2 b w.kp, w.nK, hK, by rw [take_succ' hx]; exact Pd.app (Paired.mapP w.ka fun _ _ q => q.up b w.kp) (.cons (k.up b w.kp) .nil), w.n0, w.n1, w.nCK⟩
theorem allC_at {z0 z1 z : Ca} {i k : Nat} (h : (i = 0 ∧ z = z0) ∨ (i = 1 ∧ z = z1)) (hk : k < 4) : (allC z0 z1)[4 * i + k]? = some (z, k) := by
  rcases h with ⟨rfl, rfl⟩ | ⟨rfl, rfl⟩
  · match k, hk with
    | 0, _ => rfl
    | 1, _ => rfl
    | 2, _ => rfl
    | 3, _ => rfl
  · match k, hk with
    | 0, _ => rfl
    | 1, _ => rfl
    | 2, _ => rfl
    | 3, _ => rfl
def SLa (x0 : Option V) (dd Cs : Addr) (x3 x4 x5 x6 x7 x8 x9 x10 x11 x12 x13 : Option V) : L2.St := [x0, some (.ref dd), some (.ref Cs), x3, x4, x5, x6, x7, x8, x9, x10, x11, x12, x13]
/-- a case more -/
def tMk (Pa : Addr) : L2.TS := fun D σ H => ∃ x0 dd Cs x3 x4 x5 x6 x7 x8 x9 x10 x11 x12 x13 zs, σ = SLa x0 dd Cs x3 x4 x5 x6 x7 x8 x9 x10 x11 x12 x13 ∧ CsAt dd Pa Cs zs H ∧ zs.length ≤ 100 ∧
  ∀ H' z x4 x5, CsAt dd Pa Cs (zs ++ [z]) H' → (∀ b, H' b = none → H b = none) → D.nx (SLa x0 dd Cs x3 x4 x5 x6 x7 x8 x9 x10 x11 x12 x13) H'
/-- one answer kept -/
def tKeep (Pa : Addr) : L2.TS := fun D σ H => ∃ x0 dd Cs x3 Kp k x10 x11 x12 x13 z kas, σ = SLa x0 dd Cs x3 (some (.str (Tx z.r))) (some (.int z.w)) (some (.ref Kp)) (some (.ref z.D)) (some (.ref z.B)) (some (.int (0 + ((k : Nat) : Int)))) x10 x11 x12 x13 ∧ CaAt dd H z ∧ k < 4 ∧ DiceAt H dd ∧ TabsN [(Pa, nmF)] H ∧ Kp ≠ dd ∧ H Kp = some (.lst (kas.map V.ref)) ∧ kas.length ≤ 100 ∧
  ∀ H1 H' a x10, Fx dd Pa H H1 → But Kp H1 H' → H' Kp = some (.lst ((kas ++ [a]).map V.ref)) → KeptAt dd Kp H1 a (z, k) → D.nx (SLa x0 dd Cs x3 (some (.str (Tx z.r))) (some (.int z.w)) (some (.ref Kp)) (some (.ref z.D)) (some (.ref z.B)) (some (.int (0 + ((k : Nat) : Int)))) x10 x11 x12 x13) H'
/-- one turn -/
def tTurn (Pa : Addr) : L2.TS := fun D σ H => ∃ x0 dd Cs x3 x4 x5 Kp x7 x8 x9 x10 x11 x12 x13 z0 z1 kas, σ = SLa x0 dd Cs x3 x4 x5 (some (.ref Kp)) x7 x8 x9 x10 x11 x12 x13 ∧ Wd dd Pa Cs Kp z0 z1 8 kas H ∧
  ∀ H' x3 x4 x5 x7 x8 x9 x10 x11 x13, Wd dd Pa Cs Kp z0 z1 8 kas H' → D.nx (SLa x0 dd Cs x3 x4 x5 (some (.ref Kp)) x7 x8 x9 x10 x11 x12 x13) H'
/-- a part that is no list -/
def NoLst (H : Hp) (v : V) : Prop := (∃ z, v = .int z) ∨ (∃ t, v = .str t) ∨ (∃ b, v = .bl b) ∨ ∃ a xs, v = .ref a ∧ H a = some (.tup xs)
def tApp : L2.TS := fun D σ H => ∃ v, σ[11]? = some (some v) ∧ ((NoLst H v ∧ D.nx σ H) ∨ ∃ a l, v = .ref a ∧ H a = some (.lst l) ∧ l.length ≤ 1000 ∧ ∀ H' e, But a H H' → H' a = some (.lst (l ++ [e])) → D.nx σ H')
def tCopy (K : PySem.W.Frag) : TE := tIf (tB (tCB (rIsi K) (tCons (tVar 11) (tCons (tC (.ty "list")) tNil)))) (tCB (fun xs H Q => ∃ p ys, xs = [.ref p] ∧ (SqL K H p ys ∨ SqT K H p ys) ∧ ∀ l, H l = none → Q (.ref l) (upd H l (.lst ys))) (tCons (tVar 11) tNil)) (tVar 11)
theorem no_ty {K : PySem.W.Frag} {H : Hp} {v : V} (h : NoLst H v) : ∃ nm, TyOf K H v (.type nm) ∧ kitB nm "list" = some false := by
  rcases h with ⟨z, rfl⟩ | ⟨t, rfl⟩ | ⟨b, rfl⟩ | ⟨a, xs, rfl, e⟩
  · exact ⟨_, .int z, kbi⟩
  · exact ⟨_, .str t, kbs⟩
  · exact ⟨_, .bl b, kbb⟩
  · exact ⟨_, .tup e, kb16⟩
/-- a part copied -/
theorem copy_rd {K : PySem.W.Frag} {σ : L2.St} {H : Hp} {k : VK} {v : V} {p : Pt} {Fr Fr' : Addr → Prop} (hv : σ[11]? = some (some v)) (h : PtAt Fr H v p) (nw : ∀ G, H G = none → Fr' G) (q : ∀ H' v', Same H H' → PtAt Fr' H' v' p → (∀ a, v' = .ref a → H' a ≠ none) → k v' H') : tCopy K σ H k := by
  have yes : ∀ {a : Addr} {l : List V}, v = .ref a → H a = some (.lst l) → (∀ G, H G = none → Fr' G → PtAt Fr' (upd H G (.lst l)) (.ref G) p) → tCopy K σ H k := fun {a l} e ha pt => by
    subst e
    refine isi_rd hv (.lst ha) kb11 ⟨true, rfl, iteT ?_⟩
    refine ⟨_, hv, a, l, rfl, .inl (SqL.of ha), fun G hG => ?_⟩
    exact q _ _ (Same.new' (Same.refl _) hG) (pt G hG (nw G hG)) (fun a e => by cases e; rw [upd_same]; simp)
  have no : NoLst H v → PtAt Fr' H v p → (∀ a, v = .ref a → H a ≠ none) → tCopy K σ H k := fun n pt al => by
    obtain ⟨nm, ty, kb⟩ := no_ty (K := K) n
    refine isi_rd hv ty kb ⟨false, rfl, iteF ?_⟩
    exact ⟨v, hv, q _ _ (Same.refl _) pt al⟩
  cases p with
  | i z => exact no (.inl ⟨z, h⟩) h (fun a e => by rw [show v = .int z from h] at e; cases e)
  | s t => exact no (.inr (.inl ⟨_, h⟩)) h (fun a e => by rw [show v = .str _ from h] at e; cases e)
  | b x => exact no (.inr (.inr (.inl ⟨x, h⟩))) h (fun a e => by rw [show v = .bl x from h] at e; cases e)
  | li l =>
    obtain ⟨a, e, fr, ha, n⟩ := h
    exact yes e ha fun G hG fG => ⟨G, rfl, fG, upd_same, n⟩
  | ld l =>
    obtain ⟨a, as, e, fr, ha, t, n⟩ := h
    exact yes e ha fun G hG fG => ⟨G, as, rfl, fG, upd_same, t.mono (fun y xs z => upd_keep hG z), n⟩
  | lr l =>
    obtain ⟨a, ts, e, fr, ha, t, n⟩ := h
    exact yes e ha fun G hG fG => ⟨G, ts, rfl, fG, upd_same, t.mono (fun y xs z => upd_keep hG z), n⟩
  | ls l =>
    obtain ⟨a, e, fr, ha, n⟩ := h
    exact yes e ha fun G hG fG => ⟨G, rfl, fG, upd_same, n⟩
  | tp m q' =>
    obtain ⟨a, e, ha⟩ := h
    exact no (.inr (.inr (.inr ⟨a, _, e, ha⟩))) ⟨a, e, ha⟩ (fun b z => by rw [e] at z; cases z; rw [ha]; simp)
theorem wk_of {Fr : Addr → Prop} {H : Hp} {v : V} {p : Pt} (h : PtAt Fr H v p) : NoLst H v ∨ ∃ a l, v = .ref a ∧ Fr a ∧ H a = some (.lst l) ∧ l.length ≤ 100 := by
  cases p with
  | i z => exact .inl (.inl ⟨z, h⟩)
  | s t => exact .inl (.inr (.inl ⟨_, h⟩))
  | b x => exact .inl (.inr (.inr (.inl ⟨x, h⟩)))
  | li l => obtain ⟨a, e, fr, ha, n⟩ := h; exact .inr ⟨a, _, e, fr, ha, by rw [List.length_map]; exact n⟩
  | ld l => obtain ⟨a, as, e, fr, ha, t, n⟩ := h; have := t.length; exact .inr ⟨a, _, e, fr, ha, by rw [List.length_map]; omega⟩
  | lr l => obtain ⟨a, ts, e, fr, ha, t, n⟩ := h; have := t.length; exact .inr ⟨a, _, e, fr, ha, by rw [List.length_map]; omega⟩
  | ls l => obtain ⟨a, e, fr, ha, n⟩ := h; exact .inr ⟨a, _, e, fr, ha, by rw [List.length_map]; exact n⟩
  | tp m q => obtain ⟨a, e, ha⟩ := h; exact .inl (.inr (.inr (.inr ⟨a, _, e, ha⟩)))
/-- a part that may have been changed -/
def WkAt (H0 : Hp) (L A1 B1 Hd : Addr) (m : Nat) (H : Hp) (v : V) : Prop := NoLst H v ∨ ∃ a l, v = .ref a ∧ H0 a = none ∧ a ≠ L ∧ a ≠ A1 ∧ a ≠ B1 ∧ a ≠ Hd ∧ H a = some (.lst l) ∧ l.length ≤ m
theorem NoLst.but {H H' : Hp} {v : V} {a : Addr} {l : List V} (h : NoLst H v) (b : But a H H') (ha : H a = some (.lst l)) : NoLst H' v := by
  rcases h with h | h | h | ⟨c, xs, e, hc⟩
  · exact .inl h
  · exact .inr (.inl h)
  · exact .inr (.inr (.inl h))
  · exact .inr (.inr (.inr ⟨c, xs, e, b _ _ (fun z => by rw [z, ha] at hc; cases hc) hc⟩))
theorem WkAt.mono {H0 H : Hp} {L A1 B1 Hd : Addr} {m m' : Nat} {v : V} (h : WkAt H0 L A1 B1 Hd m H v) (l : m ≤ m') : WkAt H0 L A1 B1 Hd m' H v := by
  rcases h with h | ⟨a, l', e, n, n1, n2, n3, n4, ha, hl⟩
  · exact .inl h
  · exact .inr ⟨a, l', e, n, n1, n2, n3, n4, ha, by omega⟩
theorem WkAt.but {H0 H H' : Hp} {L A1 B1 Hd a : Addr} {m : Nat} {v e : V} {l : List V} (h : WkAt H0 L A1 B1 Hd m H v) (b : But a H H') (ha : H a = some (.lst l)) (ha' : H' a = some (.lst (l ++ [e]))) (hl : l.length ≤ m) : WkAt H0 L A1 B1 Hd (m + 1) H' v := by
  rcases h with h | ⟨c, l', ev, n, n1, n2, n3, n4, hc, hl'⟩
  · exact .inl (h.but b ha)
  · by_cases z : c = a
    · exact .inr ⟨c, _, ev, n, n1, n2, n3, n4, by rw [z]; exact ha', by rw [List.length_append, List.length_singleton]; omega⟩
    · exact .inr ⟨c, l', ev, n, n1, n2, n3, n4, b _ _ z hc, by omega⟩
/-! ### alike -/
theorem alk_up1 {H : Hp} {n : Nat} {x y : V} (h : Alk H n x y) : Alk H (n + 1) x y := .inl h
theorem alk_ints {H : Hp} : ∀ l : List Int, Paired (Alk H 1) (l.map V.int) (l.map V.int)
  | [] => .nil
  | z :: l => .cons (.inl ⟨rfl, .inr (.inr (.inl ⟨z, rfl⟩))⟩) (alk_ints l)
theorem alk_txs {H : Hp} : ∀ l : List (List Nat), Paired (Alk H 1) (l.map txV) (l.map txV)
  | [] => .nil
  | z :: l => .cons (.inl ⟨rfl, .inr (.inr (.inr ⟨_, rfl⟩))⟩) (alk_txs l)
theorem alk_tups {H : Hp} : ∀ {as bs : List Addr} {ds : List Deed}, Tups H as ds → Tups H bs ds → Paired (Alk H 1) (as.map V.ref) (bs.map V.ref)
  | _, _, _, .nil, .nil => .nil
  | _, _, _, .cons a t, .cons b u => .cons (.inr ⟨_, _, _, _, rfl, rfl, .inr ⟨a, b⟩, .cons ⟨rfl, .inr (.inr (.inr ⟨_, rfl⟩))⟩ (.cons ⟨rfl, .inr (.inr (.inl ⟨_, rfl⟩))⟩ .nil), (show 2 ≤ 4000 by decide)⟩) (alk_tups t u)
theorem alk_rows {H : Hp} : ∀ {as bs : List Addr} {ds : List Row}, RowsAt H as ds → RowsAt H bs ds → Paired (Alk H 1) (as.map V.ref) (bs.map V.ref)
  | _, _, _, .nil, .nil => .nil
  | _, _, _, .cons a t, .cons b u => .cons (.inr ⟨_, _, _, _, rfl, rfl, .inr ⟨a, b⟩, .cons ⟨rfl, .inr (.inr (.inr ⟨_, rfl⟩))⟩ (.cons ⟨rfl, .inr (.inr (.inl ⟨_, rfl⟩))⟩ .nil), (show 2 ≤ 4000 by decide)⟩) (alk_rows t u)
theorem alk_pt {Fr Fr' : Addr → Prop} {H : Hp} {v v' : V} {p : Pt} (h : PtAt Fr H v p) (h' : PtAt Fr' H v' p) : Alk H 2 v v' := by
  cases p with
  | i z => rw [show v = .int z from h, show v' = .int z from h']; exact .inl (.inl ⟨rfl, .inr (.inr (.inl ⟨z, rfl⟩))⟩)
  | s t => rw [show v = .str _ from h, show v' = .str _ from h']; exact .inl (.inl ⟨rfl, .inr (.inr (.inr ⟨_, rfl⟩))⟩)
  | b x => rw [show v = .bl x from h, show v' = .bl x from h']; exact .inl (.inl ⟨rfl, .inr (.inl ⟨x, rfl⟩)⟩)
  | li l =>
    obtain ⟨a, rfl, _, ha, n⟩ := h
    obtain ⟨a', rfl, _, ha', _⟩ := h'
    exact .inr ⟨a, a', _, _, rfl, rfl, .inl ⟨ha, ha'⟩, alk_ints l, by rw [List.length_map]; omega⟩
  | ld l =>
    obtain ⟨a, as, rfl, _, ha, t, n⟩ := h
    obtain ⟨a', as', rfl, _, ha', t', _⟩ := h'
    have := t.length
    exact .inr ⟨a, a', _, _, rfl, rfl, .inl ⟨ha, ha'⟩, alk_tups t t', by rw [List.length_map]; omega⟩
  | lr l =>
    obtain ⟨a, as, rfl, _, ha, t, n⟩ := h
    obtain ⟨a', as', rfl, _, ha', t', _⟩ := h'
    have := t.length
    exact .inr ⟨a, a', _, _, rfl, rfl, .inl ⟨ha, ha'⟩, alk_rows t t', by rw [List.length_map]; omega⟩
  | ls l =>
    obtain ⟨a, rfl, _, ha, n⟩ := h
    obtain ⟨a', rfl, _, ha', _⟩ := h'
    exact .inr ⟨a, a', _, _, rfl, rfl, .inl ⟨ha, ha'⟩, alk_txs l, by rw [List.length_map]; omega⟩
  | tp m q =>
    obtain ⟨a, rfl, ha⟩ := h
    obtain ⟨a', rfl, ha'⟩ := h'
    exact .inr ⟨a, a', _, _, rfl, rfl, .inr ⟨ha, ha'⟩, .cons (.inl ⟨rfl, .inr (.inr (.inl ⟨_, rfl⟩))⟩) (.cons (.inl ⟨rfl, .inr (.inr (.inr ⟨_, rfl⟩))⟩) .nil), (show 2 ≤ 4000 by decide)⟩
theorem alk_pts {Fr Fr' : Addr → Prop} {H : Hp} : ∀ {ys ys' : List V} {ps : List Pt}, PtsAt Fr H ys ps → PtsAt Fr' H ys' ps → Paired (Alk H 2) ys ys'
  | _, _, _, .nil, .nil => .nil
  | _, _, _, .cons a t, .cons b u => .cons (alk_pt a b) (alk_pts t u)
/-! ### handed lists -/
theorem ne_two {K : PySem.W.Frag} {H : Hp} {Q : VK} {X Y A B A' B' : Addr} {as ts : List Addr} {ds : List Deed} {rows : List Row} (hX : H X = some (.lst [.ref A, .ref B])) (hY : H Y = some (.lst [.ref A', .ref B'])) (hA : H A = some (.lst (as.map V.ref))) (hA' : H A' = some (.lst (as.map V.ref))) (ht : Tups H as ds)
    (hB : H B = some (.lst (ts.map V.ref))) (hB' : H B' = some (.lst (ts.map V.ref))) (hr : RowsAt H ts rows) (low : Low rows) (q : Q (.bl false) H) : rNeD K (.ref X) (.ref Y) H Q := by
  have l1 := lay_deeds ds
  have l2 := lay_rows low
  have sh : SeqAt.shaped (.list [.list (ds.map dPD), .list (rows.map rPD)]) = true := by
    obtain ⟨a1, a2⟩ := l1
    obtain ⟨b1, b2⟩ := l2
    unfold SeqAt.shaped
    simp [PyData.canLay0, PyData.canLayAll0, PyData.depth, PyData.depthAll, a1, b1]
    omega
  have e1 : ∀ ds : List Deed, PyData.eqvAll (ds.map dPD) (ds.map dPD) = true := fun ds => by
    induction ds with
    | nil => simp [PyData.eqvAll]
    | cons d ds ih => rw [List.map_cons, PyData.eqvAll, eqv_deed, ih]; rfl
  refine ⟨.list [.list (ds.map dPD), .list (rows.map rPD)], .list [.list (ds.map dPD), .list (rows.map rPD)], .lst (SqL.of hX) (.cons (.lst (SqL.of hA) (dp_deeds ht)) (.cons (.lst (SqL.of hB) (dp_rows hr)) .nil)), .lst (SqL.of hY) (.cons (.lst (SqL.of hA') (dp_deeds ht)) (.cons (.lst (SqL.of hB') (dp_rows hr)) .nil)), sh, sh, ?_⟩
  have e : PyData.eqv (.list [.list (ds.map dPD), .list (rows.map rPD)]) (.list [.list (ds.map dPD), .list (rows.map rPD)]) = true := by
    simp [PyData.eqv, PyData.eqvAll, e1, eqv_rows]
  rw [e]
  exact q
section
variable {P : Program} {w : World} {K : PySem.W.Frag} {mg : Str → Option Value} {base : Heap} {cc : Nat → Addr}
abbrev s_law : Stmt := top 56
theorem sc_law : FnScope ["_law_script", "_law_d", "_law_cases", "_law_k", "_law_rule_here", "_law_wide", "_law_kept", "_law_deeds", "_law_rows", "_law_kind", "_law_told", "_law_part", "_law_turn", "_law_handed"] ["_law_script"] (defScope s_law) := ⟨rfl, rfl, rfl, by decide +kernel, rfl, by decide +kernel, by decide +kernel⟩

def spLaw (K : PySem.W.Frag) (Pa : Addr) : Sp := fun vs H Q _ => ∃ (a : Addr) (ns : List Int), vs = [.ref a] ∧ SqL K H a (ns.map V.int) ∧ ns.length ≤ 63 ∧ TabsN [(Pa, nmF)] H ∧ ∀ H', Q (.bl true) H'
theorem ok_law {Pa : Addr} {f : Addr} {fd : FuncData} (F : Fun K "law" "law" s_law f fd) (T : Txt K mg) (OD : OwnS P w K mg base 1 "_law_dice" ["_law_script", "_law_k"] (spDice K)) (OO : OwnS P w K mg base 1 "_law_off" ["_law_d", "_law_most"] spDraw) (OU : OwnS P w K mg base 2 "_law_rule" ["_law_d"] spRuleT)
    (ON : OwnS P w K mg base 2 "_law_drawn" ["_law_d", "_law_wide", "_law_most"] spDrawn) (OPu : OwnS P w K mg base 7 "purse" ["rule", "wide"] spPurse) (OQ : OwnS P w K mg base 8 "_law_asked" ["_law_kind", "_law_rule_here", "_law_wide", "_law_deeds", "_law_rows"] (spAskK Pa)) (OA : OwnS P w K mg base 4 "_law_alike" ["_law_found", "_law_due"] (spAlk 3)) : FnOk P w K mg base CX0 9 f fd ["_law_script"] (spLaw K Pa) := by
  refine F.ok sc_law (fun vs H Q E h => ?_) (fun cdv A outer s H vs Q E hr h => ?_)
  · obtain ⟨a, ns, rfl, _⟩ := h
    rfl
  · obtain ⟨a0, ns, rfl, hS, hlen, hT, kq⟩ := h
    have nd := sc_law.nd
    have hr1 : Room 1 _ := hr.mono (by decide)
    refine ⟨_, (pss_cons (ps_set (i := 1) nd rfl (by first | exact Or.inl rfl | exact Or.inr rfl) (pe_own OD (hr.mono (by decide)) (pa_cons (pv 0) (pa_cons pe_int pa_nil))))
      (pss_cons (ps_set (i := 2) nd rfl (by first | exact Or.inl rfl | exact Or.inr rfl) (pe_lst pa_nil))
      (pss_cons (ps_for PassesOwn.never rfl (pi_range1 (by rfl) T.n_range (pa_cons pe_int pa_nil)) (pg_name (i := 3) nd rfl (by first | exact Or.inl rfl | exact Or.inr rfl))
      (pss_imp (t' := tMk Pa) (pss_cons (ps_par (i := 4) (j := 5) rfl nd rfl rfl (by decide) rfl rfl (pa_cons (pe_own OU (hr.mono (by decide)) (pa_cons (pv 1) pa_nil)) (pa_cons (pe_op op_add pe_int (pe_own OO hr1 (pa_cons (pv 1) (pa_cons pe_int pa_nil)))) pa_nil)) rfl)
      (pss_one (ps_expr (pe_bm PySem.F.plainAttrs_list PySem.F.slot_list_append PySem.F.type_list_append mt_append (pv 2) (pa_cons (pe_tup (pa_cons (pv 4) (pa_cons (pv 5) (pa_cons (pe_own ON (hr.mono (by decide)) (pa_cons (pv 1) (pa_cons (pv 5) (pa_cons pe_int pa_nil)))) (pa_cons (pe_ix (r := rIxT K) ix_tup (pe_own OPu (hr.mono (by decide)) (pa_cons (pv 4) (pa_cons (pv 5) pa_nil))) pe_int (fun _ _ => rfl)) pa_nil))))) pa_nil))))) ?mk))
      (pss_cons (ps_set (i := 6) nd rfl (by first | exact Or.inl rfl | exact Or.inr rfl) (pe_lst pa_nil))
      (pss_cons (ps_for PassesOwn.never rfl (pi_list (pv 2)) (pg_tup rfl (pgs_cons (pg_name (i := 4) nd rfl (by first | exact Or.inl rfl | exact Or.inr rfl)) (pgs_cons (pg_name (i := 5) nd rfl (by first | exact Or.inl rfl | exact Or.inr rfl)) (pgs_cons (pg_name (i := 7) nd rfl (by first | exact Or.inl rfl | exact Or.inr rfl)) (pgs_cons (pg_name (i := 8) nd rfl (by first | exact Or.inl rfl | exact Or.inr rfl)) pgs_nil)))))
      (pss_one (ps_for PassesOwn.never rfl (pi_range1 (by rfl) T.n_range (pa_cons pe_int pa_nil)) (pg_name (i := 9) nd rfl (by first | exact Or.inl rfl | exact Or.inr rfl))
      (pss_imp (t' := tKeep Pa) (pss_cons (ps_set (i := 10) nd rfl (by first | exact Or.inl rfl | exact Or.inr rfl) (pe_own OQ (hr.mono (by decide)) (pa_cons (pv 9) (pa_cons (pv 4) (pa_cons (pv 5) (pa_cons (pv 7) (pa_cons (pv 8) pa_nil)))))))
      (pss_one (ps_expr (pe_bm PySem.F.plainAttrs_list PySem.F.slot_list_append PySem.F.type_list_append mt_append (pv 6) (pa_cons (pe_lc (own := [("_law_part", 11)]) (g := gName 11) (tt := tYes) (te := tCopy K) rfl nd (pi_list (pv 10)) (blkOk_by (N := ["_law_script", "_law_d", "_law_cases", "_law_k", "_law_rule_here", "_law_wide", "_law_kept", "_law_deeds", "_law_rows", "_law_kind", "_law_told", "_law_part", "_law_turn", "_law_handed"]) (sc := defScope s_law) (by decide +kernel)) (fun _ _ _ _ _ => (pg_name (i := 11) nd rfl (Or.inl rfl))) (fun _ _ _ _ _ => pts_nil) (fun _ _ _ _ _ => by exact (pe_ifExp (pt_val (p_isi (pv 11) (by rfl) T.n_isinstance (pe_bltn (by rfl) T.n_list boot_list' rfl))) (pe_callTy call_list_of (by rfl) T.n_list boot_listQ (pa_cons (pv 11) pa_nil)) (pv 11)))) pa_nil))))) ?keep))))
      (pss_cons (ps_for PassesOwn.never rfl (pi_range1 (by rfl) T.n_range (pa_cons pe_int pa_nil)) (pg_name (i := 12) nd rfl (by first | exact Or.inl rfl | exact Or.inr rfl))
      (pss_imp (t' := tTurn Pa) (pss_cons (ps_set (i := 3) nd rfl (by first | exact Or.inl rfl | exact Or.inr rfl) (pe_own OO hr1 (pa_cons (pv 1) (pa_cons pe_int pa_nil))))
      (pss_cons (ps_set (i := 9) nd rfl (by first | exact Or.inl rfl | exact Or.inr rfl) (pe_own OO hr1 (pa_cons (pv 1) (pa_cons pe_int pa_nil))))
      (pss_cons (ps_asg (pe_ix (r := rIxL K) ix_list (pv 2) (pv 3) (fun _ _ => rfl)) (pg_tup rfl (pgs_cons (pg_name (i := 4) nd rfl (by first | exact Or.inl rfl | exact Or.inr rfl)) (pgs_cons (pg_name (i := 5) nd rfl (by first | exact Or.inl rfl | exact Or.inr rfl)) (pgs_cons (pg_name (i := 7) nd rfl (by first | exact Or.inl rfl | exact Or.inr rfl)) (pgs_cons (pg_name (i := 8) nd rfl (by first | exact Or.inl rfl | exact Or.inr rfl)) pgs_nil))))))
      (pss_cons (ps_set (i := 13) nd rfl (by first | exact Or.inl rfl | exact Or.inr rfl) (pe_lst (pa_cons (pe_callTy call_list_of (by rfl) T.n_list boot_listQ (pa_cons (pv 7) pa_nil)) (pa_cons (pe_callTy call_list_of (by rfl) T.n_list boot_listQ (pa_cons (pv 8) pa_nil)) pa_nil))))
      (pss_cons (ps_set (i := 10) nd rfl (by first | exact Or.inl rfl | exact Or.inr rfl) (pe_own OQ (hr.mono (by decide)) (pa_cons (pv 9) (pa_cons (pv 4) (pa_cons (pv 5) (pa_cons (pe_ix (r := rIxL K) ix_list (pv 13) pe_int (fun _ _ => rfl)) (pa_cons (pe_ix (r := rIxL K) ix_list (pv 13) pe_int (fun _ _ => rfl)) pa_nil)))))))
      (pss_cons (ps_if (PW.pt (pw_or (pt_not (pt_val (pe_own OA (hr.mono (by decide)) (pa_cons (pv 10) (pa_cons (pe_ix (r := rIxL K) ix_list (pv 6) (pe_op op_add (pe_op op_mul pe_int (pv 3)) (pv 9)) (fun _ _ => rfl)) pa_nil))))) (pw_or1 (pt_cmpR (op_neD (hr.units)) (pv 13) (pe_lst (pa_cons (pv 7) (pa_cons (pv 8) pa_nil))) (nomark _))))) (pss_one (ps_ret pe_bl)) pss_nil)
      (pss_cons (ps_for PassesOwn.never rfl (pi_list (pv 10)) (pg_name (i := 11) nd rfl (by first | exact Or.inl rfl | exact Or.inr rfl))
      (pss_imp (t' := tApp) (pss_one (ps_if (pt_val (p_isi (pv 11) (by rfl) T.n_isinstance (pe_bltn (by rfl) T.n_list boot_list' rfl))) (pss_one (ps_expr (pe_bm PySem.F.plainAttrs_list PySem.F.slot_list_append PySem.F.type_list_append mt_append (pv 11) (pa_cons (pe_tup pa_nil) pa_nil)))) pss_nil)) ?app))
      (pss_cons (ps_expr (pe_bm PySem.F.plainAttrs_list PySem.F.slot_list_append PySem.F.type_list_append mt_append (pe_ix (r := rIxL K) ix_list (pv 13) pe_int (fun _ _ => rfl)) (pa_cons (pe_tup (pa_cons pe_str (pa_cons pe_int pa_nil))) pa_nil)))
      (pss_one (ps_expr (pe_bm0 PySem.F.plainAttrs_list PySem.F.slot_list_clear PySem.F.type_list_clear mt_clear (pe_ix (r := rIxL K) ix_list (pv 13) pe_int (fun _ _ => rfl))))))))))))) ?turn))
      (pss_one (ps_ret pe_bl)))))))), ?main⟩
    case mk =>
      intro D σ H ⟨x0, dd, Cs, x3, x4, x5, x6, x7, x8, x9, x10, x11, x12, x13, zs, es, I, hz, kd⟩
      subst es
      refine ⟨_, rfl, dd, rfl, I.d, fun r H1 hrr hd1 b1 => ?_⟩
      refine ⟨_, rfl, dd, 4, rfl, by decide, by decide, hd1, fun q H2 q0 q4 hd2 b2 => ?_⟩
      obtain ⟨j, rfl⟩ : ∃ j : Nat, q = (j : Int) := ⟨q.toNat, by omega⟩
      have h1 : 1 ≤ 1 + j := by omega
      have h6 : 1 + j ≤ 6 := by omega
      refine ⟨_, _, rfl, rfl, _, _, rfl, ?_⟩
      have fx2 : Fx dd Pa H H2 := ((Fx.refl I.d I.t).bt b1 hd1).bt b2 hd2
      have hCs2 := fx2.ls I.n I.cs
      refine ⟨_, rfl, .inl ⟨rfl, _, SqL.of hCs2⟩, _, rfl, _, rfl, ?_⟩
      refine ⟨_, rfl, _, rfl, dd, 1 + j, 10, rfl, h1, h6, by decide, hd2, fun H5 Da ds as n hd5 b5 hD0 nD hc hD ht hle => ?_⟩
      have fx5 := fx2.bt b5 hd5
      refine ⟨_, rfl, _, rfl, r, 1 + j, rfl, hrr, h1, h6, fun H6 R B mv dn ts es x ks c s6 hR hR6 hB hB6 hpd res => ?_⟩
      have fx6 := fx5.sm s6
      refine ⟨R, _, _, .ref B, rfl, rfl, SqT.of hR6, at_of (j := 2) rfl rfl, (show 4 ≤ sizeLine by decide), fun Tz hTz => ?_⟩
      have s7 : Same H6 (upd H6 Tz (.tup [.str (Tx r), .int (1 + (j : Int)), .ref Da, .ref B])) := Same.new' (Same.refl _) hTz
      have eT : (upd H6 Tz (.tup [.str (Tx r), .int (1 + (j : Int)), .ref Da, .ref B])) Tz = some (.tup [.str (Tx r), .int ((1 + j : Nat) : Int), .ref Da, .ref B]) := by rw [upd_same, Int.natCast_add]; rfl
      generalize upd H6 Tz (.tup [.str (Tx r), .int (1 + (j : Int)), .ref Da, .ref B]) = H7 at *
      have fx7 := fx6.sm s7
      have hCs7 := fx7.ls I.n I.cs
      have s57 := s6.trans s7
      refine ⟨Cs, _, _, rfl, rfl, hCs7, by rw [List.length_map, sizeLine_eq]; omega, ?_⟩
      have nDC : Da ≠ Cs := fun z => by rw [z, hCs2] at hD0; cases hD0
      have nBC : B ≠ Cs := fun z => by rw [z, fx5.ls I.n I.cs] at hB; cases hB
      have nBd : B ≠ dd := fun z => by obtain ⟨_, _, e⟩ := hd5; rw [z, e] at hB; cases hB
      have kle := res.ok.le
      have cz : CaAt dd H7 ⟨r, 1 + j, Da, as, ds, B, ts, rowsK ks c, Tz⟩ := ⟨eT, hrr, h1, h6, ⟨n, hc⟩, hle, s57 _ _ hD, nD, ht.mono (TS.same s57), s7 _ _ hB6, nBd, (rows_of hpd).mono (TS.same s7), fun q hq => by
        obtain ⟨p, hp, rfl⟩ := List.mem_map.mp hq
        refine ⟨by show p.length ≤ 6; rw [(res.k p hp).l]; exact h6, fun y hy => ?_⟩
        have := bits_mem01 (res.k p hp).b y hy
        omega, by show (rowsK ks c).length ≤ 64; unfold rowsK; rw [List.length_map]; exact kle⟩
      refine kd _ ⟨r, 1 + j, Da, as, ds, B, ts, rowsK ks c, Tz⟩ _ _ ⟨fx7.d.frm' fun o q => by rw [upd_ne (Ne.symm I.n)]; exact q, CK.TabsN.but fx7.t But.upd hCs7, I.n, by rw [upd_same, List.map_append]; rfl, fun z hz => ?_⟩ (fun b e => fx7.al b (by
        by_cases z : b = Cs
        · rw [z, upd_same] at e; cases e
        · rw [upd_ne z] at e; exact e))
      rcases List.mem_append.mp hz with y | y
      · obtain ⟨a1, a2, a3⟩ := I.a z y
        exact ⟨(a1.fx I.d fx7).up a2 a3 But.upd hCs7, a2, a3⟩
      · rw [List.mem_singleton.mp y]
        exact ⟨cz.up nDC nBC But.upd hCs7, nDC, nBC⟩
    case keep =>
      intro D σ H ⟨x0, dd, Cs, x3, Kp, k, x10, x11, x12, x13, z, kas, es, ca, hk, hd, ht, nK, hKp, hkl, kd⟩
      subst es
      obtain ⟨n, hn⟩ := ca.c
      refine ⟨_, rfl, _, rfl, _, rfl, _, rfl, _, rfl, k, z.r, z.w, z.D, z.B, z.as, z.ds, n, z.ts, z.rows, by rw [Int.zero_add], hk, ca.rr, ca.w1, ca.w6, hn, ca.l, ca.d, ca.dt, ca.b, ca.bt, ca.bd, ca.bl, ht, fun H1 L ys pts ext tabs nn hL0 hL nL hpts ans hlen => ?_⟩
      have fx1 := (Fx.refl hd ht).ex ext tabs nn
      have hKp1 := fx1.ls nK hKp
      obtain ⟨nsd, _, hdd1⟩ := id fx1.d
      refine ⟨_, rfl, .inl ⟨rfl, _, SqL.of hKp1⟩, _, rfl, L, rfl, ⟨_, SqL.of hL⟩, fun G hG => ?_⟩
      have yl := hpts.length
      have nGd : G ≠ dd := fun z => by rw [z, hdd1] at hG; cases hG
      have nGK : G ≠ Kp := fun z => by rw [z, hKp1] at hG; cases hG
      refine lc_list (K := K) (a := L) (xs := ys) (fun i H' => Same H1 H' ∧ ∃ zs', H' G = some (.lst zs') ∧ zs'.length ≤ i ∧ PtsAt (fun a => (a ≠ dd ∧ a ≠ Kp) ∧ a ≠ G) H' zs' (pts.take i)) ⟨Same.new' (Same.refl _) hG, [], upd_same, Nat.zero_le _, .nil⟩ (fun i H' _ q => SqL.of (q.1 _ _ hL)) ?_ ?_
      · rintro i v H2 hv ⟨s2, zs', hG2, hzl, hp2⟩
        obtain ⟨pt, hpt, hat⟩ := Pd.get hpts hv
        have hi := (List.getElem?_eq_some_iff.mp hv).1
        have hat2 := hat.fr (fun _ z => z) (fun y xs e => s2 _ _ e) (fun y xs _ e => s2 _ _ e)
        refine ⟨rfl, yes_rd (copy_rd (Fr' := fun a => (a ≠ dd ∧ a ≠ Kp) ∧ a ≠ G) rfl hat2 (fun G2 hG2' => ⟨⟨(fun z => by rw [z, s2 _ _ hdd1] at hG2'; cases hG2'), (fun z => by rw [z, s2 _ _ hKp1] at hG2'; cases hG2')⟩, (fun z => by rw [z, hG2] at hG2'; cases hG2')⟩) fun H3 v' s3 hv' al => ?_)⟩
        have hG3 := s3 _ _ hG2
        refine ⟨zs', hG3, by rw [sizeLine_eq]; omega, fun b o e => by rw [upd_ne (ne_of_none e hG)]; exact s3 _ _ (s2 _ _ e), zs' ++ [v'], upd_same, by rw [List.length_append, List.length_singleton]; omega, ?_⟩
        rw [take_succ' hpt]
        have tu : ∀ y xs, H3 y = some (.tup xs) → (upd H3 G (.lst (zs' ++ [v']))) y = some (.tup xs) := fun y xs e => by rw [upd_ne (fun z => by rw [z, hG3] at e; cases e)]; exact e
        have ls : ∀ y xs, ((y ≠ dd ∧ y ≠ Kp) ∧ y ≠ G) → H3 y = some (.lst xs) → (upd H3 G (.lst (zs' ++ [v']))) y = some (.lst xs) := fun y xs n e => by rw [upd_ne n.2]; exact e
        exact Pd.app ((hp2.fr (fun _ z => z) (fun y xs e => s3 _ _ e) (fun y xs _ e => s3 _ _ e)).fr (fun _ z => z) tu ls) (.cons (hv'.fr (fun _ z => z) tu ls) .nil)
      · rintro H2 ⟨s2, zs', hG2, hzl, hp2⟩
        rw [yl, List.take_length] at hp2
        have hKp2 := s2 _ _ hKp1
        refine ⟨Kp, _, _, rfl, rfl, hKp2, by rw [List.length_map, sizeLine_eq]; omega, ?_⟩
        exact kd H2 _ G _ (fx1.sm s2) But.upd (by rw [upd_same, List.map_append]; rfl) ⟨zs', pts, hG2, nGd, nGK, hp2.fr (fun _ z => z.1) (fun _ _ e => e) (fun _ _ _ e => e), ans, by omega⟩
    case turn =>
      intro D σ H ⟨x0, dd, Cs, x3, x4, x5, Kp, x7, x8, x9, x10, x11, x12, x13, z0, z1, kas, es, W, kd⟩
      subst es
      obtain ⟨nsd, _, hdd⟩ := id W.d
      refine ⟨_, rfl, dd, 2, rfl, by decide, by decide, W.d, fun qi H1 k0 k2 hd1 b1 => ?_⟩
      refine ⟨_, rfl, dd, 4, rfl, by decide, by decide, hd1, fun qk H2 j0 j4 hd2 b2 => ?_⟩
      obtain ⟨i, rfl⟩ : ∃ i : Nat, qi = (i : Int) := ⟨qi.toNat, by omega⟩
      obtain ⟨k, rfl⟩ : ∃ k : Nat, qk = (k : Int) := ⟨qk.toNat, by omega⟩
      have fx2 := ((Fx.refl W.d W.t).bt b1 hd1).bt b2 hd2
      have W2 := W.fx fx2
      obtain ⟨z, hz, hzk, ca⟩ : ∃ z : Ca, ([.ref z0.T, .ref z1.T] : List V)[i]? = some (.ref z.T) ∧ ((i = 0 ∧ z = z0) ∨ (i = 1 ∧ z = z1)) ∧ CaAt dd H2 z := by
        have hi : i < 2 := by omega
        match i, hi with
        | 0, _ => exact ⟨z0, rfl, .inl ⟨rfl, rfl⟩, W2.c0⟩
        | 1, _ => exact ⟨z1, rfl, .inr ⟨rfl, rfl⟩, W2.c1⟩
      refine ⟨_, rfl, _, rfl, Cs, _, _, .ref z.T, rfl, rfl, SqL.of W2.cs, at_of (j := i) rfl hz, z.T, _, rfl, SqT.of ca.t, rfl, _, _, rfl, _, _, rfl, _, _, rfl, _, _, rfl, rfl, ?_⟩
      -- handed
      refine ⟨_, rfl, z.D, _, rfl, .inl (SqL.of ca.d), fun A1 hA1 => ?_⟩
      have s3 : Same H2 (upd H2 A1 (.lst (z.as.map V.ref))) := Same.new' (Same.refl _) hA1
      have eA3 : (upd H2 A1 (.lst (z.as.map V.ref))) A1 = some (.lst (z.as.map V.ref)) := upd_same
      generalize upd H2 A1 (.lst (z.as.map V.ref)) = H3 at *
      refine ⟨_, rfl, z.B, _, rfl, .inl (SqL.of (s3 _ _ ca.b)), fun B1 hB1 => ?_⟩
      have s4 : Same H3 (upd H3 B1 (.lst (z.ts.map V.ref))) := Same.new' (Same.refl _) hB1
      have eB4 : (upd H3 B1 (.lst (z.ts.map V.ref))) B1 = some (.lst (z.ts.map V.ref)) := upd_same
      generalize upd H3 B1 (.lst (z.ts.map V.ref)) = H4 at *
      refine ⟨(show 2 ≤ sizeLine by decide), fun Hd hHd => ?_⟩
      have s5 : Same H4 (upd H4 Hd (.lst [.ref A1, .ref B1])) := Same.new' (Same.refl _) hHd
      have eH5 : (upd H4 Hd (.lst [.ref A1, .ref B1])) Hd = some (.lst [.ref A1, .ref B1]) := upd_same
      generalize upd H4 Hd (.lst [.ref A1, .ref B1]) = H5 at *
      have eA5 := s5 _ _ (s4 _ _ eA3)
      have eB5 := s5 _ _ eB4
      have s25 := (s3.trans s4).trans s5
      have fx5 := fx2.sm s25
      have nA1 : H A1 = none := fx2.al _ hA1
      have nB1 : H B1 = none := fx2.al _ (s3.free hB1)
      have nHd : H Hd = none := fx2.al _ ((s3.trans s4).free hHd)
      have nAB : A1 ≠ B1 := ne_of_none eA3 hB1
      have nAH : A1 ≠ Hd := ne_of_none (s4 _ _ eA3) hHd
      have nBH : B1 ≠ Hd := ne_of_none eB4 hHd
      have ca5 := ca.fx (Pa := Pa) hd2 ((Fx.refl hd2 fx2.t).sm s25)
      obtain ⟨n, hn⟩ := ca5.c
      refine ⟨_, rfl, _, rfl, _, rfl, _, rfl, Hd, _, _, .ref A1, rfl, rfl, SqL.of eH5, at_of (j := 0) rfl rfl, _, rfl, Hd, _, _, .ref B1, rfl, rfl, SqL.of eH5, at_of (j := 1) rfl rfl, k, z.r, z.w, A1, B1, z.as, z.ds, n, z.ts, z.rows, rfl, by omega, ca5.rr, ca5.w1, ca5.w6, hn, ca5.l, eA5, ca5.dt, eB5, ca5.bt, ca5.bd, ca5.bl, fx5.t, fun H6 L ys pts ext tabs nn hL0 hL nL hpts ans hlen => ?_⟩
      have fx6 := fx5.ex ext tabs nn
      have W6 := W.fx fx6
      have eA6 := ext _ _ eA5 (fun _ z => by cases z)
      have eB6 := ext _ _ eB5 (fun _ z => by cases z)
      have eH6 := ext _ _ eH5 (fun _ z => by cases z)
      have ca6 := ca5.fx (Pa := Pa) fx5.d ((Fx.refl fx5.d fx5.t).ex ext tabs nn)
      have kl := W6.ka.length
      have kl8 : ((allC z0 z1).take 8).length = 8 := rfl
      rw [kl8] at kl
      have hk4 : k < 4 := by omega
      have hi2 : i < 2 := by omega
      obtain ⟨a, ha⟩ : ∃ a, kas[4 * i + k]? = some a := ⟨_, List.getElem?_eq_getElem (by omega)⟩
      obtain ⟨x, hx, hka⟩ := Pd.get W6.ka ha
      have hx : (allC z0 z1)[4 * i + k]? = some x := hx
      rw [allC_at hzk hk4] at hx
      cases hx
      obtain ⟨ys2, pts2, ha6, na1, na2, hp2, ans2, hl2⟩ := hka
      have ep := ans_fn ans ans2
      subst ep
      refine ⟨_, rfl, _, rfl, _, rfl, _, _, rfl, rfl, .inl ⟨by decide, by decide⟩, _, rfl, _, _, rfl, rfl, Kp, _, _, .ref a, rfl, rfl, SqL.of W6.kp, at_of (j := 4 * i + k) (by omega) (by rw [List.getElem?_map, ha]; rfl), _, _, rfl, .inr ⟨L, a, _, _, rfl, rfl, .inl ⟨hL, ha6⟩, alk_pts hpts hp2, by omega⟩, fun H7 s7 => ⟨true, rfl, iteF ?_⟩⟩
      refine ⟨_, rfl, _, rfl, _, rfl, (show 2 ≤ sizeLine by decide), fun Wl hWl => ?_⟩
      have s8 : Same H6 (upd H7 Wl (.lst [.ref z.D, .ref z.B])) := Same.new' s7 hWl
      have eW8 : (upd H7 Wl (.lst [.ref z.D, .ref z.B])) Wl = some (.lst [.ref z.D, .ref z.B]) := upd_same
      generalize upd H7 Wl (.lst [.ref z.D, .ref z.B]) = H8 at *
      refine ne_two (s8 _ _ eH6) eW8 (s8 _ _ eA6) (s8 _ _ ca6.d) (ca6.dt.mono (TS.same s8)) (s8 _ _ eB6) (s8 _ _ ca6.b) (ca6.bt.mono (TS.same s8)) ca6.bd.low ⟨_, rfl, iteF ?_⟩
      have fx8 := fx6.sm s8
      have hL8 := s8 _ _ hL
      have hpts8 := hpts.fr (fun _ z => z) (fun y xs e => s8 _ _ e) (fun y xs _ e => s8 _ _ e)
      -- the told lists are changed
      refine ⟨_, rfl, L, rfl, ⟨_, SqL.of hL8⟩, ?_⟩
      refine for_list (K := K) (a := L) (xs := ys) (fun j σ H' => ∃ x11, σ = SLa x0 dd Cs (some (.int i)) (some (.str (Tx z.r))) (some (.int z.w)) (some (.ref Kp)) (some (.ref z.D)) (some (.ref z.B)) (some (.int k)) (some (.ref L)) x11 x12 (some (.ref Hd)) ∧ Fx dd Pa H H' ∧ H' L = some (.lst ys) ∧ H' A1 = some (.lst (z.as.map V.ref)) ∧ H' B1 = some (.lst (z.ts.map V.ref)) ∧ H' Hd = some (.lst [.ref A1, .ref B1]) ∧ ∀ v ∈ ys, WkAt H L A1 B1 Hd (100 + j) H' v)
        ⟨x11, rfl, fx8, hL8, s8 _ _ eA6, s8 _ _ eB6, s8 _ _ eH6, fun v hv => ?_⟩ (fun j σ H' _ ⟨_, _, _, e, _⟩ => SqL.of e) ?_ ?_
      · obtain ⟨j, hj⟩ := List.getElem?_of_mem hv
        obtain ⟨p, hp, hat⟩ := Pd.get hpts8 hj
        rcases wk_of hat with h | ⟨c, l, ev, fr, hc, hl⟩
        · exact .inl h
        · have fr : H5 c = none := fr
          exact .inr ⟨c, l, ev, fx5.al _ fr, nL c (by rw [← ev]; exact hv), (fun z => by rw [z, eA5] at fr; cases fr), (fun z => by rw [z, eB5] at fr; cases fr), (fun z => by rw [z, eH5] at fr; cases fr), hc, hl⟩
      · rintro j v σ H9 hv ⟨x11, rfl, fx9, hL9, eA9, eB9, eH9, wk⟩
        have hj := (List.getElem?_eq_some_iff.mp hv).1
        refine ⟨v, rfl, ?_⟩
        rcases wk v (List.mem_of_getElem? hv) with h | ⟨c, l, ev, hc0, n1, n2, n3, n4, hc, hl⟩
        · exact .inl ⟨h, _, rfl, fx9, hL9, eA9, eB9, eH9, fun v hv => (wk v hv).mono (by omega)⟩
        · refine .inr ⟨c, l, ev, hc, by omega, fun H' e b hc' => ⟨_, rfl, fx9.at hc0 hc b hc' (fun z => by rw [z, hdd] at hc0; cases hc0), b _ _ (Ne.symm n1) hL9, b _ _ (Ne.symm n2) eA9, b _ _ (Ne.symm n3) eB9, b _ _ (Ne.symm n4) eH9, fun v hv => (wk v hv).but b hc hc' hl⟩⟩
      · rintro σ H9 ⟨x11, rfl, fx9, hL9, eA9, eB9, eH9, wk⟩
        have ndA : A1 ≠ dd := fun z => by rw [z, hdd] at nA1; cases nA1
        have ndB : B1 ≠ dd := fun z => by rw [z, hdd] at nB1; cases nB1
        have al := ca6.dt.length
        have l10 := ca6.l
        refine ⟨_, rfl, Hd, _, _, .ref A1, rfl, rfl, SqL.of eH9, at_of (j := 0) rfl rfl, .inl ⟨rfl, _, SqL.of eA9⟩, (show 2 ≤ sizeLine by decide), fun U hU => ?_⟩
        have s10 : Same H9 (upd H9 U (.tup [.str "x", .int 0])) := Same.new' (Same.refl _) hU
        generalize upd H9 U (.tup [.str "x", .int 0]) = H10 at *
        have fx10 := fx9.sm s10
        refine ⟨A1, _, _, rfl, rfl, s10 _ _ eA9, by rw [List.length_map, sizeLine_eq]; omega, ?_⟩
        have fx11 := fx10.at (l' := z.as.map V.ref ++ [.ref U]) nA1 (s10 _ _ eA9) But.upd upd_same ndA
        have eB11 : (upd H10 A1 (.lst (z.as.map V.ref ++ [.ref U]))) B1 = some (.lst (z.ts.map V.ref)) := by rw [upd_ne (Ne.symm nAB)]; exact s10 _ _ eB9
        have eH11 : (upd H10 A1 (.lst (z.as.map V.ref ++ [.ref U]))) Hd = some (.lst [.ref A1, .ref B1]) := by rw [upd_ne (Ne.symm nAH)]; exact s10 _ _ eH9
        generalize upd H10 A1 (.lst (z.as.map V.ref ++ [.ref U])) = H11 at *
        refine ⟨_, rfl, Hd, _, _, .ref B1, rfl, rfl, SqL.of eH11, at_of (j := 1) rfl rfl, .inl ⟨rfl, _, SqL.of eB11⟩, B1, _, rfl, rfl, eB11, ?_⟩
        exact kd _ _ _ _ _ _ _ _ _ _ (W.fx (fx11.at (l' := []) nB1 eB11 But.upd upd_same ndB))
    case app =>
      intro D σ H ⟨v, hv, h⟩
      rcases h with ⟨n, kd⟩ | ⟨a, l, rfl, ha, hl, kd⟩
      · obtain ⟨nm, ty, kb⟩ := no_ty (K := K) n
        exact isi_rd hv ty kb ⟨false, rfl, iteF kd⟩
      · refine isi_rd hv (.lst ha) kb11 ⟨true, rfl, iteT ?_⟩
        refine ⟨_, hv, .inl ⟨rfl, _, SqL.of ha⟩, (show 0 ≤ sizeLine by decide), fun U hU => ?_⟩
        refine ⟨a, _, _, rfl, rfl, upd_keep hU ha, by rw [sizeLine_eq]; omega, ?_⟩
        exact kd _ _ (fun y o n e => by rw [upd_ne n]; exact upd_keep hU e) upd_same
    case main =>
      refine ⟨_, rfl, a0, ns, 0, rfl, hS, hlen, fun H1 dd s1 hdd0 hd1 => ?_⟩
      refine ⟨(show 0 ≤ sizeLine by decide), fun Cs hCs => ?_⟩
      have nCd : Cs ≠ dd := fun z => by obtain ⟨_, _, e⟩ := hd1; rw [z, e] at hCs; cases hCs
      have I0 : CsAt dd Pa Cs [] (upd H1 Cs (.lst [])) := ⟨hd1.frm' fun o q => upd_keep hCs q, (hT.ext s1).ext (Same.new' (Same.refl _) hCs), nCd, upd_same, fun z hz => by cases hz⟩
      generalize upd H1 Cs (.lst []) = H2 at *
      refine ⟨2, rfl, by decide, by decide, for_range (lo := 0) (n := 2) (fun i σ H' => ∃ x0 x3 x4 x5 x6 x7 x8 x9 x10 x11 x12 x13 zs, σ = SLa x0 dd Cs x3 x4 x5 x6 x7 x8 x9 x10 x11 x12 x13 ∧ CsAt dd Pa Cs zs H' ∧ zs.length = i) ⟨_, _, _, _, _, _, _, _, _, _, _, _, [], rfl, I0, rfl⟩ ?_ ?_⟩
      · rintro i σ H3 hi ⟨x0, x3, x4, x5, x6, x7, x8, x9, x10, x11, x12, x13, zs, rfl, I, hl⟩
        have hi2 : i < 2 := hi
        exact ⟨x0, dd, Cs, _, x4, x5, x6, x7, x8, x9, x10, x11, x12, x13, zs, rfl, I, by omega, fun H' z x4 x5 I' _ => ⟨_, _, _, _, _, _, _, _, _, _, _, _, _, rfl, I', by rw [List.length_append, hl]; rfl⟩⟩
      · rintro σ H3 ⟨x0, x3, x4, x5, x6, x7, x8, x9, x10, x11, x12, x13, zs, rfl, I, hl⟩
        obtain ⟨z0, z1, rfl⟩ : ∃ z0 z1, zs = [z0, z1] := by
          match zs, hl with
          | [a, b], _ => exact ⟨a, b, rfl⟩
        refine ⟨(show 0 ≤ sizeLine by decide), fun Kp hKp => ?_⟩
        have sK : Same H3 (upd H3 Kp (.lst [])) := Same.new' (Same.refl _) hKp
        have fxK : Fx dd Pa H3 (upd H3 Kp (.lst [])) := (Fx.refl I.d I.t).sm sK
        obtain ⟨a0', b0', c0'⟩ := I.a z0 (by simp)
        obtain ⟨a1', b1', c1'⟩ := I.a z1 (by simp)
        have nKd : Kp ≠ dd := fun z => by obtain ⟨_, _, e⟩ := I.d; rw [z, e] at hKp; cases hKp
        have W0 : Wd dd Pa Cs Kp z0 z1 (4 * 0) [] (upd H3 Kp (.lst [])) := ⟨fxK.d, fxK.t, I.n, sK _ _ I.cs, a0'.fx I.d fxK, a1'.fx I.d fxK, nKd, upd_same, .nil, ⟨ne_of_none a0'.d hKp, ne_of_none a0'.b hKp⟩, ⟨ne_of_none a1'.d hKp, ne_of_none a1'.b hKp⟩, ne_of_none I.cs hKp⟩
        generalize upd H3 Kp (.lst []) = H4 at *
        refine ⟨_, rfl, Cs, rfl, ⟨_, SqL.of W0.cs⟩, ?_⟩
        refine for_list (K := K) (a := Cs) (xs := [.ref z0.T, .ref z1.T]) (fun i σ H' => ∃ x0 x3 x4 x5 x7 x8 x9 x10 x11 x12 x13 kas, σ = SLa x0 dd Cs x3 x4 x5 (some (.ref Kp)) x7 x8 x9 x10 x11 x12 x13 ∧ Wd dd Pa Cs Kp z0 z1 (4 * i) kas H') ⟨_, _, _, _, _, _, _, _, _, _, _, [], rfl, W0⟩ (fun i σ H' _ ⟨_, _, _, _, _, _, _, _, _, _, _, _, _, w⟩ => SqL.of w.cs) ?_ ?_
        · rintro i x σ H5 hx ⟨x0, x3, x4, x5, x7, x8, x9, x10, x11, x12, x13, kas, rfl, W⟩
          obtain ⟨z, rfl, hzk, ca⟩ : ∃ z : Ca, x = .ref z.T ∧ ((i = 0 ∧ z = z0) ∨ (i = 1 ∧ z = z1)) ∧ CaAt dd H5 z := by
            match i, hx with
            | 0, hx => exact ⟨z0, (Option.some.inj hx).symm, .inl ⟨rfl, rfl⟩, W.c0⟩
            | 1, hx => exact ⟨z1, (Option.some.inj hx).symm, .inr ⟨rfl, rfl⟩, W.c1⟩
            | n + 2, hx => simp at hx
          refine ⟨z.T, _, rfl, SqT.of ca.t, rfl, _, _, rfl, _, _, rfl, _, _, rfl, _, _, rfl, rfl, ?_⟩
          refine ⟨4, rfl, by decide, by decide, for_range (lo := 0) (n := 4) (fun k σ H' => ∃ x9 x10 x11 kas, σ = SLa x0 dd Cs x3 (some (.str (Tx z.r))) (some (.int z.w)) (some (.ref Kp)) (some (.ref z.D)) (some (.ref z.B)) x9 x10 x11 x12 x13 ∧ Wd dd Pa Cs Kp z0 z1 (4 * i + k) kas H') ⟨_, _, _, kas, rfl, W⟩ ?_ ?_⟩
          · rintro k σ H6 hk ⟨x9, x10, x11, kas, rfl, W6⟩
            have ca6 : CaAt dd H6 z := by rcases hzk with ⟨_, rfl⟩ | ⟨_, rfl⟩; exact W6.c0; exact W6.c1
            have hk4 : k < 4 := hk
            have kl := W6.ka.length
            have k8 : ((allC z0 z1).take (4 * i + k)).length ≤ 8 := by rw [List.length_take]; exact Nat.min_le_right _ _
            refine ⟨x0, dd, Cs, x3, Kp, k, x10, x11, x12, x13, z, kas, rfl, ca6, hk4, W6.d, W6.t, W6.nK, W6.kp, by omega, fun H7 H8 a x10 f b hK8 hka => ⟨_, _, _, kas ++ [a], rfl, (W6.fx f).up b hK8 hka (allC_at hzk hk4)⟩⟩
          · rintro σ H6 ⟨x9, x10, x11, kas, rfl, W6⟩
            exact ⟨_, _, _, _, _, _, _, _, _, _, _, kas, rfl, W6⟩
        · rintro σ H5 ⟨x0, x3, x4, x5, x7, x8, x9, x10, x11, x12, x13, kas, rfl, W⟩
          refine ⟨14, rfl, by decide, by decide, for_range (lo := 0) (n := 14) (fun i σ H' => ∃ x0 x3 x4 x5 x7 x8 x9 x10 x11 x12 x13, σ = SLa x0 dd Cs x3 x4 x5 (some (.ref Kp)) x7 x8 x9 x10 x11 x12 x13 ∧ Wd dd Pa Cs Kp z0 z1 8 kas H') ⟨_, _, _, _, _, _, _, _, _, _, _, rfl, W⟩ ?_ ?_⟩
          · rintro i σ H6 hi ⟨x0, x3, x4, x5, x7, x8, x9, x10, x11, x12, x13, rfl, W⟩
            exact ⟨x0, dd, Cs, x3, x4, x5, Kp, x7, x8, x9, x10, x11, _, x13, z0, z1, kas, rfl, W, fun H' x3 x4 x5 x7 x8 x9 x10 x11 x13 W' => ⟨_, _, _, _, _, _, _, _, _, _, _, rfl, W'⟩⟩
          · rintro σ H6 ⟨x0, x3, x4, x5, x7, x8, x9, x10, x11, x12, x13, rfl, W⟩
            exact kq H6
end
end CK

namespace CK
open PySem L2 PyProof.Rows
/-! ### what the top has written, and the end -/
/-- the table of a code object -/
def tabOf (K : PySem.W.Frag) (c : Addr) : Addr := match K.lookup c with
  | some ⟨_, _, .fields vs, _⟩ => (match (vs[11]? : Option Value) with | some (.ref P) => P | _ => 0)
  | _ => 0
theorem all_mk {l : PySem.W.OpenLaw} {w : World} {K : PySem.W.Frag} {h : Heap} {mg : Str → Option Value} {fa : Addr}
    {cF : Addr} {ts : List Addr}
    {od0 an0 : Option Addr} {sl0 : Array (Option Value)} {oc0 kV0 dc0 pm0 cd0 ct0 : Value} {f0 : Addr}
    {od1 an1 : Option Addr} {sl1 : Array (Option Value)} {oc1 kV1 dc1 pm1 cd1 ct1 : Value} {f1 : Addr}
    {od2 an2 : Option Addr} {sl2 : Array (Option Value)} {oc2 kV2 dc2 pm2 cd2 ct2 : Value} {f2 : Addr}
    {od3 an3 : Option Addr} {sl3 : Array (Option Value)} {oc3 kV3 dc3 pm3 cd3 ct3 : Value} {f3 : Addr}
    {od4 an4 : Option Addr} {sl4 : Array (Option Value)} {oc4 kV4 dc4 pm4 cd4 ct4 : Value} {f4 : Addr}
    {od5 an5 : Option Addr} {sl5 : Array (Option Value)} {oc5 kV5 dc5 pm5 cd5 ct5 : Value} {f5 : Addr}
    {od6 an6 : Option Addr} {sl6 : Array (Option Value)} {oc6 kV6 dc6 pm6 cd6 ct6 : Value} {f6 : Addr}
    {od7 an7 : Option Addr} {sl7 : Array (Option Value)} {oc7 kV7 dc7 pm7 cd7 ct7 : Value} {f7 : Addr}
    {od8 an8 : Option Addr} {sl8 : Array (Option Value)} {oc8 kV8 dc8 pm8 cd8 ct8 : Value} {f8 : Addr}
    {od9 an9 : Option Addr} {sl9 : Array (Option Value)} {oc9 kV9 dc9 pm9 cd9 ct9 : Value} {f9 : Addr}
    {od10 an10 : Option Addr} {sl10 : Array (Option Value)} {oc10 kV10 dc10 pm10 cd10 ct10 : Value} {f10 : Addr}
    {od11 an11 : Option Addr} {sl11 : Array (Option Value)} {oc11 kV11 dc11 pm11 cd11 ct11 : Value} {f11 : Addr}
    {od12 an12 : Option Addr} {sl12 : Array (Option Value)} {oc12 kV12 dc12 pm12 cd12 ct12 : Value} {f12 : Addr}
    {od13 an13 : Option Addr} {sl13 : Array (Option Value)} {oc13 kV13 dc13 pm13 cd13 ct13 : Value} {f13 : Addr}
    {od14 an14 : Option Addr} {sl14 : Array (Option Value)} {oc14 kV14 dc14 pm14 cd14 ct14 : Value} {f14 : Addr}
    {od15 an15 : Option Addr} {sl15 : Array (Option Value)} {oc15 kV15 dc15 pm15 cd15 ct15 : Value} {f15 : Addr}
    {od16 an16 : Option Addr} {sl16 : Array (Option Value)} {oc16 kV16 dc16 pm16 cd16 ct16 : Value} {f16 : Addr}
    {od17 an17 : Option Addr} {sl17 : Array (Option Value)} {oc17 kV17 dc17 pm17 cd17 ct17 : Value} {f17 : Addr}
    {od18 an18 : Option Addr} {sl18 : Array (Option Value)} {oc18 kV18 dc18 pm18 cd18 ct18 : Value} {f18 : Addr}
    {od19 an19 : Option Addr} {sl19 : Array (Option Value)} {oc19 kV19 dc19 pm19  ct19 : Value} {f19 : Addr}
    {od20 an20 : Option Addr} {sl20 : Array (Option Value)} {oc20 kV20 dc20 pm20 cd20 ct20 : Value} {f20 : Addr}
    {od21 an21 : Option Addr} {sl21 : Array (Option Value)} {oc21 kV21 dc21 pm21 cd21 ct21 : Value} {f21 : Addr}
    {od22 an22 : Option Addr} {sl22 : Array (Option Value)} {oc22 kV22 dc22 pm22 cd22 ct22 : Value} {f22 : Addr}
    {od23 an23 : Option Addr} {sl23 : Array (Option Value)} {oc23 kV23 dc23 pm23 cd23 ct23 : Value} {f23 : Addr}
    {od24 an24 : Option Addr} {sl24 : Array (Option Value)} {oc24 kV24 dc24 pm24 cd24 ct24 : Value} {f24 : Addr}
    {od25 an25 : Option Addr} {sl25 : Array (Option Value)} {oc25 kV25 dc25 pm25 cd25 ct25 : Value} {f25 : Addr}
    {od26 an26 : Option Addr} {sl26 : Array (Option Value)} {oc26 kV26 dc26 pm26 cd26 ct26 : Value} {f26 : Addr}
    {od27 an27 : Option Addr} {sl27 : Array (Option Value)} {oc27 kV27 dc27 pm27 cd27 ct27 : Value} {f27 : Addr}
    {od28 an28 : Option Addr} {sl28 : Array (Option Value)} {oc28 kV28 dc28 pm28 cd28 ct28 : Value} {f28 : Addr}
    {od29 an29 : Option Addr} {sl29 : Array (Option Value)} {oc29 kV29 dc29 pm29 cd29 ct29 : Value} {f29 : Addr}
    {od30 an30 : Option Addr} {sl30 : Array (Option Value)} {oc30 kV30 dc30 pm30 cd30 ct30 : Value} {f30 : Addr}
    {od31 an31 : Option Addr} {sl31 : Array (Option Value)} {oc31 kV31 dc31 pm31 cd31 ct31 : Value} {f31 : Addr}
    {od32 an32 : Option Addr} {sl32 : Array (Option Value)} {oc32 kV32 dc32 pm32 cd32 ct32 : Value} {f32 : Addr}
    {od33 an33 : Option Addr} {sl33 : Array (Option Value)} {oc33 kV33 dc33 pm33 cd33 ct33 : Value} {f33 : Addr}
    {od34 an34 : Option Addr} {sl34 : Array (Option Value)} {oc34 kV34 dc34 pm34 cd34 ct34 : Value} {f34 : Addr}
    {od35 an35 : Option Addr} {sl35 : Array (Option Value)} {oc35 kV35 dc35 pm35 cd35 ct35 : Value} {f35 : Addr}
    {od36 an36 : Option Addr} {sl36 : Array (Option Value)} {oc36 kV36 dc36 pm36 cd36 ct36 : Value} {f36 : Addr}
    {od37 an37 : Option Addr} {sl37 : Array (Option Value)} {oc37 kV37 dc37 pm37 cd37 ct37 : Value} {f37 : Addr}
    {od38 an38 : Option Addr} {sl38 : Array (Option Value)} {oc38 kV38 dc38 pm38 cd38 ct38 : Value} {f38 : Addr}
    {od39 an39 : Option Addr} {sl39 : Array (Option Value)} {oc39 kV39 dc39 pm39 cd39 ct39 : Value} {f39 : Addr}
    {od40 an40 : Option Addr} {sl40 : Array (Option Value)} {oc40 kV40 dc40 pm40 cd40 ct40 : Value} {f40 : Addr}
    {t_MOST_PLACES : Tok}
    {t_MOST_DEEDS : Tok}
    {a_RULES : Addr} {dd_RULES : Option Addr} {nn_RULES : Nat} {sl_RULES : Array (Option Value)} {t_RULES_0 t_RULES_1 t_RULES_2 : Tok}
    (X : K.In h) (G : h.Ns mainGlobals mg) (hfa : mg "law" = some (.ref fa)) (hts : ∀ P ∈ ts, h.get? P = some (PySem.W.tabObj #[]))
    (a0 : PySem.W.nsIn K mainGlobals "inserted" = some (some (.ref f0))) (l0 : K.lookup f0 = some ⟨oc0, od0, .func (PySem.W.fnOf "inserted" "inserted" (defArgs s_inserted) (defBody s_inserted) (defScope s_inserted) .none kV0 dc0 pm0 an0 cd0 ct0), sl0⟩) (c0 : PySem.W.codeIn K cd0 "inserted" = true) (k0 : PySem.W.keepIn K (.ref f0) = true)
    (a1 : PySem.W.nsIn K mainGlobals "laid_evenly" = some (some (.ref f1))) (l1 : K.lookup f1 = some ⟨oc1, od1, .func (PySem.W.fnOf "laid_evenly" "laid_evenly" (defArgs s_laid_evenly) (defBody s_laid_evenly) (defScope s_laid_evenly) .none kV1 dc1 pm1 an1 cd1 ct1), sl1⟩) (c1 : PySem.W.codeIn K cd1 "laid_evenly" = true) (k1 : PySem.W.keepIn K (.ref f1) = true)
    (a2 : PySem.W.nsIn K mainGlobals "free_ahead" = some (some (.ref f2))) (l2 : K.lookup f2 = some ⟨oc2, od2, .func (PySem.W.fnOf "free_ahead" "free_ahead" (defArgs s_free_ahead) (defBody s_free_ahead) (defScope s_free_ahead) .none kV2 dc2 pm2 an2 cd2 ct2), sl2⟩) (c2 : PySem.W.codeIn K cd2 "free_ahead" = true) (k2 : PySem.W.keepIn K (.ref f2) = true)
    (a3 : PySem.W.nsIn K mainGlobals "free_behind" = some (some (.ref f3))) (l3 : K.lookup f3 = some ⟨oc3, od3, .func (PySem.W.fnOf "free_behind" "free_behind" (defArgs s_free_behind) (defBody s_free_behind) (defScope s_free_behind) .none kV3 dc3 pm3 an3 cd3 ct3), sl3⟩) (c3 : PySem.W.codeIn K cd3 "free_behind" = true) (k3 : PySem.W.keepIn K (.ref f3) = true)
    (a4 : PySem.W.nsIn K mainGlobals "is_taken_ahead" = some (some (.ref f4))) (l4 : K.lookup f4 = some ⟨oc4, od4, .func (PySem.W.fnOf "is_taken_ahead" "is_taken_ahead" (defArgs s_is_taken_ahead) (defBody s_is_taken_ahead) (defScope s_is_taken_ahead) .none kV4 dc4 pm4 an4 cd4 ct4), sl4⟩) (c4 : PySem.W.codeIn K cd4 "is_taken_ahead" = true) (k4 : PySem.W.keepIn K (.ref f4) = true)
    (a5 : PySem.W.nsIn K mainGlobals "count_moved" = some (some (.ref f5))) (l5 : K.lookup f5 = some ⟨oc5, od5, .func (PySem.W.fnOf "count_moved" "count_moved" (defArgs s_count_moved) (defBody s_count_moved) (defScope s_count_moved) .none kV5 dc5 pm5 an5 cd5 ct5), sl5⟩) (c5 : PySem.W.codeIn K cd5 "count_moved" = true) (k5 : PySem.W.keepIn K (.ref f5) = true)
    (a6 : PySem.W.nsIn K mainGlobals "with_new_one" = some (some (.ref f6))) (l6 : K.lookup f6 = some ⟨oc6, od6, .func (PySem.W.fnOf "with_new_one" "with_new_one" (defArgs s_with_new_one) (defBody s_with_new_one) (defScope s_with_new_one) .none kV6 dc6 pm6 an6 cd6 ct6), sl6⟩) (c6 : PySem.W.codeIn K cd6 "with_new_one" = true) (k6 : PySem.W.keepIn K (.ref f6) = true)
    (a7 : PySem.W.nsIn K mainGlobals "check_rule" = some (some (.ref f7))) (l7 : K.lookup f7 = some ⟨oc7, od7, .func (PySem.W.fnOf "check_rule" "check_rule" (defArgs s_check_rule) (defBody s_check_rule) (defScope s_check_rule) .none kV7 dc7 pm7 an7 cd7 ct7), sl7⟩) (c7 : PySem.W.codeIn K cd7 "check_rule" = true) (k7 : PySem.W.keepIn K (.ref f7) = true)
    (a8 : PySem.W.nsIn K mainGlobals "check_width" = some (some (.ref f8))) (l8 : K.lookup f8 = some ⟨oc8, od8, .func (PySem.W.fnOf "check_width" "check_width" (defArgs s_check_width) (defBody s_check_width) (defScope s_check_width) .none kV8 dc8 pm8 an8 cd8 ct8), sl8⟩) (c8 : PySem.W.codeIn K cd8 "check_width" = true) (k8 : PySem.W.keepIn K (.ref f8) = true)
    (a9 : PySem.W.nsIn K mainGlobals "check_pattern" = some (some (.ref f9))) (l9 : K.lookup f9 = some ⟨oc9, od9, .func (PySem.W.fnOf "check_pattern" "check_pattern" (defArgs s_check_pattern) (defBody s_check_pattern) (defScope s_check_pattern) .none kV9 dc9 pm9 an9 cd9 ct9), sl9⟩) (c9 : PySem.W.codeIn K cd9 "check_pattern" = true) (k9 : PySem.W.keepIn K (.ref f9) = true)
    (a10 : PySem.W.nsIn K mainGlobals "places_of" = some (some (.ref f10))) (l10 : K.lookup f10 = some ⟨oc10, od10, .func (PySem.W.fnOf "places_of" "places_of" (defArgs s_places_of) (defBody s_places_of) (defScope s_places_of) .none kV10 dc10 pm10 an10 cd10 ct10), sl10⟩) (c10 : PySem.W.codeIn K cd10 "places_of" = true) (k10 : PySem.W.keepIn K (.ref f10) = true)
    (a11 : PySem.W.nsIn K mainGlobals "pattern_of" = some (some (.ref f11))) (l11 : K.lookup f11 = some ⟨oc11, od11, .func (PySem.W.fnOf "pattern_of" "pattern_of" (defArgs s_pattern_of) (defBody s_pattern_of) (defScope s_pattern_of) .none kV11 dc11 pm11 an11 cd11 ct11), sl11⟩) (c11 : PySem.W.codeIn K cd11 "pattern_of" = true) (k11 : PySem.W.keepIn K (.ref f11) = true)
    (a12 : PySem.W.nsIn K mainGlobals "can_be_done" = some (some (.ref f12))) (l12 : K.lookup f12 = some ⟨oc12, od12, .func (PySem.W.fnOf "can_be_done" "can_be_done" (defArgs s_can_be_done) (defBody s_can_be_done) (defScope s_can_be_done) .none kV12 dc12 pm12 an12 cd12 ct12), sl12⟩) (c12 : PySem.W.codeIn K cd12 "can_be_done" = true) (k12 : PySem.W.keepIn K (.ref f12) = true)
    (a13 : PySem.W.nsIn K mainGlobals "after_deed" = some (some (.ref f13))) (l13 : K.lookup f13 = some ⟨oc13, od13, .func (PySem.W.fnOf "after_deed" "after_deed" (defArgs s_after_deed) (defBody s_after_deed) (defScope s_after_deed) .none kV13 dc13 pm13 an13 cd13 ct13), sl13⟩) (c13 : PySem.W.codeIn K cd13 "after_deed" = true) (k13 : PySem.W.keepIn K (.ref f13) = true)
    (a14 : PySem.W.nsIn K mainGlobals "done" = some (some (.ref f14))) (l14 : K.lookup f14 = some ⟨oc14, od14, .func (PySem.W.fnOf "done" "done" (defArgs s_done) (defBody s_done) (defScope s_done) .none kV14 dc14 pm14 an14 cd14 ct14), sl14⟩) (c14 : PySem.W.codeIn K cd14 "done" = true) (k14 : PySem.W.keepIn K (.ref f14) = true)
    (a15 : PySem.W.nsIn K mainGlobals "patterns_of" = some (some (.ref f15))) (l15 : K.lookup f15 = some ⟨oc15, od15, .func (PySem.W.fnOf "patterns_of" "patterns_of" (defArgs s_patterns_of) (defBody s_patterns_of) (defScope s_patterns_of) .none kV15 dc15 pm15 an15 cd15 ct15), sl15⟩) (c15 : PySem.W.codeIn K cd15 "patterns_of" = true) (k15 : PySem.W.keepIn K (.ref f15) = true)
    (a16 : PySem.W.nsIn K mainGlobals "layings" = some (some (.ref f16))) (l16 : K.lookup f16 = some ⟨oc16, od16, .func (PySem.W.fnOf "layings" "layings" (defArgs s_layings) (defBody s_layings) (defScope s_layings) .none kV16 dc16 pm16 an16 cd16 ct16), sl16⟩) (c16 : PySem.W.codeIn K cd16 "layings" = true) (k16 : PySem.W.keepIn K (.ref f16) = true)
    (a17 : PySem.W.nsIn K mainGlobals "best_behind" = some (some (.ref f17))) (l17 : K.lookup f17 = some ⟨oc17, od17, .func (PySem.W.fnOf "best_behind" "best_behind" (defArgs s_best_behind) (defBody s_best_behind) (defScope s_best_behind) .none kV17 dc17 pm17 an17 cd17 ct17), sl17⟩) (c17 : PySem.W.codeIn K cd17 "best_behind" = true) (k17 : PySem.W.keepIn K (.ref f17) = true)
    (a18 : PySem.W.nsIn K mainGlobals "check_deeds" = some (some (.ref f18))) (l18 : K.lookup f18 = some ⟨oc18, od18, .func (PySem.W.fnOf "check_deeds" "check_deeds" (defArgs s_check_deeds) (defBody s_check_deeds) (defScope s_check_deeds) .none kV18 dc18 pm18 an18 cd18 ct18), sl18⟩) (c18 : PySem.W.codeIn K cd18 "check_deeds" = true) (k18 : PySem.W.keepIn K (.ref f18) = true)
    (a19 : PySem.W.nsIn K mainGlobals "fewest" = some (some (.ref f19))) (l19 : K.lookup f19 = some ⟨oc19, od19, .func (PySem.W.fnOf "fewest" "fewest" (defArgs s_fewest) (defBody s_fewest) (defScope s_fewest) .none kV19 dc19 pm19 an19 (.ref cF) ct19), sl19⟩) (c19 : PySem.W.codeIn K (.ref cF) "fewest" = true) (k19 : PySem.W.keepIn K (.ref f19) = true)
    (a20 : PySem.W.nsIn K mainGlobals "played" = some (some (.ref f20))) (l20 : K.lookup f20 = some ⟨oc20, od20, .func (PySem.W.fnOf "played" "played" (defArgs s_played) (defBody s_played) (defScope s_played) .none kV20 dc20 pm20 an20 cd20 ct20), sl20⟩) (c20 : PySem.W.codeIn K cd20 "played" = true) (k20 : PySem.W.keepIn K (.ref f20) = true)
    (a21 : PySem.W.nsIn K mainGlobals "check_part" = some (some (.ref f21))) (l21 : K.lookup f21 = some ⟨oc21, od21, .func (PySem.W.fnOf "check_part" "check_part" (defArgs s_check_part) (defBody s_check_part) (defScope s_check_part) .none kV21 dc21 pm21 an21 cd21 ct21), sl21⟩) (c21 : PySem.W.codeIn K cd21 "check_part" = true) (k21 : PySem.W.keepIn K (.ref f21) = true)
    (a22 : PySem.W.nsIn K mainGlobals "is_pattern" = some (some (.ref f22))) (l22 : K.lookup f22 = some ⟨oc22, od22, .func (PySem.W.fnOf "is_pattern" "is_pattern" (defArgs s_is_pattern) (defBody s_is_pattern) (defScope s_is_pattern) .none kV22 dc22 pm22 an22 cd22 ct22), sl22⟩) (c22 : PySem.W.codeIn K cd22 "is_pattern" = true) (k22 : PySem.W.keepIn K (.ref f22) = true)
    (a23 : PySem.W.nsIn K mainGlobals "is_paid" = some (some (.ref f23))) (l23 : K.lookup f23 = some ⟨oc23, od23, .func (PySem.W.fnOf "is_paid" "is_paid" (defArgs s_is_paid) (defBody s_is_paid) (defScope s_is_paid) .none kV23 dc23 pm23 an23 cd23 ct23), sl23⟩) (c23 : PySem.W.codeIn K cd23 "is_paid" = true) (k23 : PySem.W.keepIn K (.ref f23) = true)
    (a24 : PySem.W.nsIn K mainGlobals "steps_from" = some (some (.ref f24))) (l24 : K.lookup f24 = some ⟨oc24, od24, .func (PySem.W.fnOf "steps_from" "steps_from" (defArgs s_steps_from) (defBody s_steps_from) (defScope s_steps_from) .none kV24 dc24 pm24 an24 cd24 ct24), sl24⟩) (c24 : PySem.W.codeIn K cd24 "steps_from" = true) (k24 : PySem.W.keepIn K (.ref f24) = true)
    (a25 : PySem.W.nsIn K mainGlobals "shows" = some (some (.ref f25))) (l25 : K.lookup f25 = some ⟨oc25, od25, .func (PySem.W.fnOf "shows" "shows" (defArgs s_shows) (defBody s_shows) (defScope s_shows) .none kV25 dc25 pm25 an25 cd25 ct25), sl25⟩) (c25 : PySem.W.codeIn K cd25 "shows" = true) (k25 : PySem.W.keepIn K (.ref f25) = true)
    (a26 : PySem.W.nsIn K mainGlobals "raised" = some (some (.ref f26))) (l26 : K.lookup f26 = some ⟨oc26, od26, .func (PySem.W.fnOf "raised" "raised" (defArgs s_raised) (defBody s_raised) (defScope s_raised) .none kV26 dc26 pm26 an26 cd26 ct26), sl26⟩) (c26 : PySem.W.codeIn K cd26 "raised" = true) (k26 : PySem.W.keepIn K (.ref f26) = true)
    (a27 : PySem.W.nsIn K mainGlobals "gone_round" = some (some (.ref f27))) (l27 : K.lookup f27 = some ⟨oc27, od27, .func (PySem.W.fnOf "gone_round" "gone_round" (defArgs s_gone_round) (defBody s_gone_round) (defScope s_gone_round) .none kV27 dc27 pm27 an27 cd27 ct27), sl27⟩) (c27 : PySem.W.codeIn K cd27 "gone_round" = true) (k27 : PySem.W.keepIn K (.ref f27) = true)
    (a28 : PySem.W.nsIn K mainGlobals "coins_asked" = some (some (.ref f28))) (l28 : K.lookup f28 = some ⟨oc28, od28, .func (PySem.W.fnOf "coins_asked" "coins_asked" (defArgs s_coins_asked) (defBody s_coins_asked) (defScope s_coins_asked) .none kV28 dc28 pm28 an28 cd28 ct28), sl28⟩) (c28 : PySem.W.codeIn K cd28 "coins_asked" = true) (k28 : PySem.W.keepIn K (.ref f28) = true)
    (a29 : PySem.W.nsIn K mainGlobals "part_of" = some (some (.ref f29))) (l29 : K.lookup f29 = some ⟨oc29, od29, .func (PySem.W.fnOf "part_of" "part_of" (defArgs s_part_of) (defBody s_part_of) (defScope s_part_of) .none kV29 dc29 pm29 an29 cd29 ct29), sl29⟩) (c29 : PySem.W.codeIn K cd29 "part_of" = true) (k29 : PySem.W.keepIn K (.ref f29) = true)
    (a30 : PySem.W.nsIn K mainGlobals "long_run" = some (some (.ref f30))) (l30 : K.lookup f30 = some ⟨oc30, od30, .func (PySem.W.fnOf "long_run" "long_run" (defArgs s_long_run) (defBody s_long_run) (defScope s_long_run) .none kV30 dc30 pm30 an30 cd30 ct30), sl30⟩) (c30 : PySem.W.codeIn K cd30 "long_run" = true) (k30 : PySem.W.keepIn K (.ref f30) = true)
    (a31 : PySem.W.nsIn K mainGlobals "all_steps" = some (some (.ref f31))) (l31 : K.lookup f31 = some ⟨oc31, od31, .func (PySem.W.fnOf "all_steps" "all_steps" (defArgs s_all_steps) (defBody s_all_steps) (defScope s_all_steps) .none kV31 dc31 pm31 an31 cd31 ct31), sl31⟩) (c31 : PySem.W.codeIn K cd31 "all_steps" = true) (k31 : PySem.W.keepIn K (.ref f31) = true)
    (a32 : PySem.W.nsIn K mainGlobals "worst" = some (some (.ref f32))) (l32 : K.lookup f32 = some ⟨oc32, od32, .func (PySem.W.fnOf "worst" "worst" (defArgs s_worst) (defBody s_worst) (defScope s_worst) .none kV32 dc32 pm32 an32 cd32 ct32), sl32⟩) (c32 : PySem.W.codeIn K cd32 "worst" = true) (k32 : PySem.W.keepIn K (.ref f32) = true)
    (a33 : PySem.W.nsIn K mainGlobals "purse" = some (some (.ref f33))) (l33 : K.lookup f33 = some ⟨oc33, od33, .func (PySem.W.fnOf "purse" "purse" (defArgs s_purse) (defBody s_purse) (defScope s_purse) .none kV33 dc33 pm33 an33 cd33 ct33), sl33⟩) (c33 : PySem.W.codeIn K cd33 "purse" = true) (k33 : PySem.W.keepIn K (.ref f33) = true)
    (a34 : PySem.W.nsIn K mainGlobals "_law_dice" = some (some (.ref f34))) (l34 : K.lookup f34 = some ⟨oc34, od34, .func (PySem.W.fnOf "_law_dice" "_law_dice" (defArgs s__law_dice) (defBody s__law_dice) (defScope s__law_dice) .none kV34 dc34 pm34 an34 cd34 ct34), sl34⟩) (c34 : PySem.W.codeIn K cd34 "_law_dice" = true) (k34 : PySem.W.keepIn K (.ref f34) = true)
    (a35 : PySem.W.nsIn K mainGlobals "_law_off" = some (some (.ref f35))) (l35 : K.lookup f35 = some ⟨oc35, od35, .func (PySem.W.fnOf "_law_off" "_law_off" (defArgs s__law_off) (defBody s__law_off) (defScope s__law_off) .none kV35 dc35 pm35 an35 cd35 ct35), sl35⟩) (c35 : PySem.W.codeIn K cd35 "_law_off" = true) (k35 : PySem.W.keepIn K (.ref f35) = true)
    (a36 : PySem.W.nsIn K mainGlobals "_law_rule" = some (some (.ref f36))) (l36 : K.lookup f36 = some ⟨oc36, od36, .func (PySem.W.fnOf "_law_rule" "_law_rule" (defArgs s__law_rule) (defBody s__law_rule) (defScope s__law_rule) .none kV36 dc36 pm36 an36 cd36 ct36), sl36⟩) (c36 : PySem.W.codeIn K cd36 "_law_rule" = true) (k36 : PySem.W.keepIn K (.ref f36) = true)
    (a37 : PySem.W.nsIn K mainGlobals "_law_drawn" = some (some (.ref f37))) (l37 : K.lookup f37 = some ⟨oc37, od37, .func (PySem.W.fnOf "_law_drawn" "_law_drawn" (defArgs s__law_drawn) (defBody s__law_drawn) (defScope s__law_drawn) .none kV37 dc37 pm37 an37 cd37 ct37), sl37⟩) (c37 : PySem.W.codeIn K cd37 "_law_drawn" = true) (k37 : PySem.W.keepIn K (.ref f37) = true)
    (a38 : PySem.W.nsIn K mainGlobals "_law_alike" = some (some (.ref f38))) (l38 : K.lookup f38 = some ⟨oc38, od38, .func (PySem.W.fnOf "_law_alike" "_law_alike" (defArgs s__law_alike) (defBody s__law_alike) (defScope s__law_alike) .none kV38 dc38 pm38 an38 cd38 ct38), sl38⟩) (c38 : PySem.W.codeIn K cd38 "_law_alike" = true) (k38 : PySem.W.keepIn K (.ref f38) = true)
    (a39 : PySem.W.nsIn K mainGlobals "_law_asked" = some (some (.ref f39))) (l39 : K.lookup f39 = some ⟨oc39, od39, .func (PySem.W.fnOf "_law_asked" "_law_asked" (defArgs s__law_asked) (defBody s__law_asked) (defScope s__law_asked) .none kV39 dc39 pm39 an39 cd39 ct39), sl39⟩) (c39 : PySem.W.codeIn K cd39 "_law_asked" = true) (k39 : PySem.W.keepIn K (.ref f39) = true)
    (a40 : PySem.W.nsIn K mainGlobals "law" = some (some (.ref f40))) (l40 : K.lookup f40 = some ⟨oc40, od40, .func (PySem.W.fnOf "law" "law" (defArgs s_law) (defBody s_law) (defScope s_law) .none kV40 dc40 pm40 an40 cd40 ct40), sl40⟩) (c40 : PySem.W.codeIn K cd40 "law" = true) (k40 : PySem.W.keepIn K (.ref f40) = true)
    (n_abs : PySem.W.nsIn K mainGlobals "abs" = some none)
    (n_all : PySem.W.nsIn K mainGlobals "all" = some none)
    (n_bool : PySem.W.nsIn K mainGlobals "bool" = some none)
    (n_dict : PySem.W.nsIn K mainGlobals "dict" = some none)
    (n_enumerate : PySem.W.nsIn K mainGlobals "enumerate" = some none)
    (n_int : PySem.W.nsIn K mainGlobals "int" = some none)
    (n_isinstance : PySem.W.nsIn K mainGlobals "isinstance" = some none)
    (n_len : PySem.W.nsIn K mainGlobals "len" = some none)
    (n_list : PySem.W.nsIn K mainGlobals "list" = some none)
    (n_min : PySem.W.nsIn K mainGlobals "min" = some none)
    (n_range : PySem.W.nsIn K mainGlobals "range" = some none)
    (n_str : PySem.W.nsIn K mainGlobals "str" = some none)
    (n_sum : PySem.W.nsIn K mainGlobals "sum" = some none)
    (n_tuple : PySem.W.nsIn K mainGlobals "tuple" = some none)
    (n_zip : PySem.W.nsIn K mainGlobals "zip" = some none)
    (x_MOST_PLACES : PySem.W.nsIn K mainGlobals "MOST_PLACES" = some (some (.int 6 t_MOST_PLACES)))
    (x_MOST_DEEDS : PySem.W.nsIn K mainGlobals "MOST_DEEDS" = some (some (.int 12 t_MOST_DEEDS)))
    (x_RULES : PySem.W.nsIn K mainGlobals "RULES" = some (some (.ref a_RULES))) (y_RULES : K.lookup a_RULES = some ⟨.type "tuple", dd_RULES, .seq #[.str "near" t_RULES_0, .str "left" t_RULES_1, .str "even" t_RULES_2] nn_RULES, sl_RULES⟩)
    (hh : PySem.W.codeHdIn K cF (tabOf K cF) = true) (hl : K.lookup (tabOf K cF) = none) (ht : ts.contains (tabOf K cF) = true)
    : LamX.LawAtS l w K CX0 9 63 "_law_script" mg fa h := by
  have e := hfa.symm.trans (PySem.W.mg_of X G a40)
  cases e
  have T : Txt K mg := ⟨PySem.W.mg_none_of X G n_abs, PySem.W.mg_none_of X G n_all, PySem.W.mg_none_of X G n_bool, PySem.W.mg_none_of X G n_dict, PySem.W.mg_none_of X G n_enumerate, PySem.W.mg_none_of X G n_int, PySem.W.mg_none_of X G n_isinstance, PySem.W.mg_none_of X G n_len, PySem.W.mg_none_of X G n_list, PySem.W.mg_none_of X G n_min, PySem.W.mg_none_of X G n_range, PySem.W.mg_none_of X G n_str, PySem.W.mg_none_of X G n_sum, PySem.W.mg_none_of X G n_tuple, PySem.W.mg_none_of X G n_zip, ⟨_, PySem.W.mg_of X G x_MOST_PLACES⟩, ⟨_, PySem.W.mg_of X G x_MOST_DEEDS⟩, ⟨_, PySem.W.mg_of X G x_RULES, fun H => .inr ⟨_, _, _, y_RULES, rfl, rfl, by show 3 ≤ sizeLine; decide, .cons ⟨_, congrArg (fun z => Value.str z _) (by decide +kernel)⟩ (.cons ⟨_, congrArg (fun z => Value.str z _) (by decide +kernel)⟩ (.cons ⟨_, congrArg (fun z => Value.str z _) (by decide +kernel)⟩ (.nil)))⟩⟩⟩
  have F0 := fun_mk (st := s_inserted) l0 c0 k0
  have m0 := PySem.W.mg_of X G a0
  have b0 := F0.binds (ps := ["places", "rank", "at"]) fun _ _ _ _ _ _ us hl => match us, hl with | [_, _, _], _ => rfl
  have F1 := fun_mk (st := s_laid_evenly) l1 c1 k1
  have m1 := PySem.W.mg_of X G a1
  have b1 := F1.binds (ps := ["wide", "many"]) fun _ _ _ _ _ _ us hl => match us, hl with | [_, _], _ => rfl
  have F2 := fun_mk (st := s_free_ahead) l2 c2 k2
  have m2 := PySem.W.mg_of X G a2
  have b2 := F2.binds (ps := ["places", "low"]) fun _ _ _ _ _ _ us hl => match us, hl with | [_, _], _ => rfl
  have F3 := fun_mk (st := s_free_behind) l3 c3 k3
  have m3 := PySem.W.mg_of X G a3
  have b3 := F3.binds (ps := ["wide", "places", "high"]) fun _ _ _ _ _ _ us hl => match us, hl with | [_, _, _], _ => rfl
  have F4 := fun_mk (st := s_is_taken_ahead) l4 c4 k4
  have m4 := PySem.W.mg_of X G a4
  have b4 := F4.binds (ps := ["rule", "low", "high", "ahead", "behind"]) fun _ _ _ _ _ _ us hl => match us, hl with | [_, _, _, _, _], _ => rfl
  have F5 := fun_mk (st := s_count_moved) l5 c5 k5
  have m5 := PySem.W.mg_of X G a5
  have b5 := F5.binds (ps := ["places", "laid", "rank"]) fun _ _ _ _ _ _ us hl => match us, hl with | [_, _, _], _ => rfl
  have F6 := fun_mk (st := s_with_new_one) l6 c6 k6
  have m6 := PySem.W.mg_of X G a6
  have b6 := F6.binds (ps := ["rule", "wide", "places", "rank"]) fun _ _ _ _ _ _ us hl => match us, hl with | [_, _, _, _], _ => rfl
  have F7 := fun_mk (st := s_check_rule) l7 c7 k7
  have m7 := PySem.W.mg_of X G a7
  have b7 := F7.binds (ps := ["rule"]) fun _ _ _ _ _ _ us hl => match us, hl with | [_], _ => rfl
  have F8 := fun_mk (st := s_check_width) l8 c8 k8
  have m8 := PySem.W.mg_of X G a8
  have b8 := F8.binds (ps := ["wide"]) fun _ _ _ _ _ _ us hl => match us, hl with | [_], _ => rfl
  have F9 := fun_mk (st := s_check_pattern) l9 c9 k9
  have m9 := PySem.W.mg_of X G a9
  have b9 := F9.binds (ps := ["pattern"]) fun _ _ _ _ _ _ us hl => match us, hl with | [_], _ => rfl
  have F10 := fun_mk (st := s_places_of) l10 c10 k10
  have m10 := PySem.W.mg_of X G a10
  have b10 := F10.binds (ps := ["pattern"]) fun _ _ _ _ _ _ us hl => match us, hl with | [_], _ => rfl
  have F11 := fun_mk (st := s_pattern_of) l11 c11 k11
  have m11 := PySem.W.mg_of X G a11
  have b11 := F11.binds (ps := ["wide", "places"]) fun _ _ _ _ _ _ us hl => match us, hl with | [_, _], _ => rfl
  have F12 := fun_mk (st := s_can_be_done) l12 c12 k12
  have m12 := PySem.W.mg_of X G a12
  have b12 := F12.binds (ps := ["wide", "many", "deed"]) fun _ _ _ _ _ _ us hl => match us, hl with | [_, _, _], _ => rfl
  have F13 := fun_mk (st := s_after_deed) l13 c13 k13
  have m13 := PySem.W.mg_of X G a13
  have b13 := F13.binds (ps := ["rule", "wide", "places", "deed"]) fun _ _ _ _ _ _ us hl => match us, hl with | [_, _, _, _], _ => rfl
  have F14 := fun_mk (st := s_done) l14 c14 k14
  have m14 := PySem.W.mg_of X G a14
  have b14 := F14.binds (ps := ["rule", "pattern", "deed"]) fun _ _ _ _ _ _ us hl => match us, hl with | [_, _, _], _ => rfl
  have F15 := fun_mk (st := s_patterns_of) l15 c15 k15
  have m15 := PySem.W.mg_of X G a15
  have b15 := F15.binds (ps := ["wide"]) fun _ _ _ _ _ _ us hl => match us, hl with | [_], _ => rfl
  have F16 := fun_mk (st := s_layings) l16 c16 k16
  have m16 := PySem.W.mg_of X G a16
  have b16 := F16.binds (ps := ["wide", "pattern", "deed"]) fun _ _ _ _ _ _ us hl => match us, hl with | [_, _, _], _ => rfl
  have F17 := fun_mk (st := s_best_behind) l17 c17 k17
  have m17 := PySem.W.mg_of X G a17
  have b17 := F17.binds (ps := ["wide", "best", "deed"]) fun _ _ _ _ _ _ us hl => match us, hl with | [_, _, _], _ => rfl
  have F18 := fun_mk (st := s_check_deeds) l18 c18 k18
  have m18 := PySem.W.mg_of X G a18
  have b18 := F18.binds (ps := ["wide", "deeds"]) fun _ _ _ _ _ _ us hl => match us, hl with | [_, _], _ => rfl
  have F19 := fun_mk (st := s_fewest) l19 c19 k19
  have m19 := PySem.W.mg_of X G a19
  have b19 := F19.binds (ps := ["wide", "deeds"]) fun _ _ _ _ _ _ us hl => match us, hl with | [_, _], _ => rfl
  have F20 := fun_mk (st := s_played) l20 c20 k20
  have m20 := PySem.W.mg_of X G a20
  have b20 := F20.binds (ps := ["rule", "wide", "deeds"]) fun _ _ _ _ _ _ us hl => match us, hl with | [_, _, _], _ => rfl
  have F21 := fun_mk (st := s_check_part) l21 c21 k21
  have m21 := PySem.W.mg_of X G a21
  have b21 := F21.binds (ps := ["moves", "deeds"]) fun _ _ _ _ _ _ us hl => match us, hl with | [_, _], _ => rfl
  have F22 := fun_mk (st := s_is_pattern) l22 c22 k22
  have m22 := PySem.W.mg_of X G a22
  have b22 := F22.binds (ps := ["wide", "text"]) fun _ _ _ _ _ _ us hl => match us, hl with | [_, _], _ => rfl
  have F23 := fun_mk (st := s_is_paid) l23 c23 k23
  have m23 := PySem.W.mg_of X G a23
  have b23 := F23.binds (ps := ["coins", "moves", "deeds", "step"]) fun _ _ _ _ _ _ us hl => match us, hl with | [_, _, _, _], _ => rfl
  have F24 := fun_mk (st := s_steps_from) l24 c24 k24
  have m24 := PySem.W.mg_of X G a24
  have b24 := F24.binds (ps := ["rule", "pattern"]) fun _ _ _ _ _ _ us hl => match us, hl with | [_, _], _ => rfl
  have F25 := fun_mk (st := s_shows) l25 c25 k25
  have m25 := PySem.W.mg_of X G a25
  have b25 := F25.binds (ps := ["rule", "wide", "moves", "deeds", "told"]) fun _ _ _ _ _ _ us hl => match us, hl with | [_, _, _, _, _], _ => rfl
  have F26 := fun_mk (st := s_raised) l26 c26 k26
  have m26 := PySem.W.mg_of X G a26
  have b26 := F26.binds (ps := ["steps", "moves", "deeds", "coins", "dearest"]) fun _ _ _ _ _ _ us hl => match us, hl with | [_, _, _, _, _], _ => rfl
  have F27 := fun_mk (st := s_gone_round) l27 c27 k27
  have m27 := PySem.W.mg_of X G a27
  have b27 := F27.binds (ps := ["dearest", "pattern"]) fun _ _ _ _ _ _ us hl => match us, hl with | [_, _], _ => rfl
  have F28 := fun_mk (st := s_coins_asked) l28 c28 k28
  have m28 := PySem.W.mg_of X G a28
  have b28 := F28.binds (ps := ["steps", "moves", "deeds"]) fun _ _ _ _ _ _ us hl => match us, hl with | [_, _, _], _ => rfl
  have F29 := fun_mk (st := s_part_of) l29 c29 k29
  have m29 := PySem.W.mg_of X G a29
  have b29 := F29.binds (ps := ["around"]) fun _ _ _ _ _ _ us hl => match us, hl with | [_], _ => rfl
  have F30 := fun_mk (st := s_long_run) l30 c30 k30
  have m30 := PySem.W.mg_of X G a30
  have b30 := F30.binds (ps := ["steps"]) fun _ _ _ _ _ _ us hl => match us, hl with | [_], _ => rfl
  have F31 := fun_mk (st := s_all_steps) l31 c31 k31
  have m31 := PySem.W.mg_of X G a31
  have b31 := F31.binds (ps := ["rule", "wide"]) fun _ _ _ _ _ _ us hl => match us, hl with | [_, _], _ => rfl
  have F32 := fun_mk (st := s_worst) l32 c32 k32
  have m32 := PySem.W.mg_of X G a32
  have b32 := F32.binds (ps := ["rule", "wide"]) fun _ _ _ _ _ _ us hl => match us, hl with | [_, _], _ => rfl
  have F33 := fun_mk (st := s_purse) l33 c33 k33
  have m33 := PySem.W.mg_of X G a33
  have b33 := F33.binds (ps := ["rule", "wide"]) fun _ _ _ _ _ _ us hl => match us, hl with | [_, _], _ => rfl
  have F34 := fun_mk (st := s__law_dice) l34 c34 k34
  have m34 := PySem.W.mg_of X G a34
  have b34 := F34.binds (ps := ["_law_script", "_law_k"]) fun _ _ _ _ _ _ us hl => match us, hl with | [_, _], _ => rfl
  have F35 := fun_mk (st := s__law_off) l35 c35 k35
  have m35 := PySem.W.mg_of X G a35
  have b35 := F35.binds (ps := ["_law_d", "_law_most"]) fun _ _ _ _ _ _ us hl => match us, hl with | [_, _], _ => rfl
  have F36 := fun_mk (st := s__law_rule) l36 c36 k36
  have m36 := PySem.W.mg_of X G a36
  have b36 := F36.binds (ps := ["_law_d"]) fun _ _ _ _ _ _ us hl => match us, hl with | [_], _ => rfl
  have F37 := fun_mk (st := s__law_drawn) l37 c37 k37
  have m37 := PySem.W.mg_of X G a37
  have b37 := F37.binds (ps := ["_law_d", "_law_wide", "_law_most"]) fun _ _ _ _ _ _ us hl => match us, hl with | [_, _, _], _ => rfl
  have F38 := fun_mk (st := s__law_alike) l38 c38 k38
  have m38 := PySem.W.mg_of X G a38
  have b38 := F38.binds (ps := ["_law_found", "_law_due"]) fun _ _ _ _ _ _ us hl => match us, hl with | [_, _], _ => rfl
  have F39 := fun_mk (st := s__law_asked) l39 c39 k39
  have m39 := PySem.W.mg_of X G a39
  have b39 := F39.binds (ps := ["_law_kind", "_law_rule_here", "_law_wide", "_law_deeds", "_law_rows"]) fun _ _ _ _ _ _ us hl => match us, hl with | [_, _, _, _, _], _ => rfl
  have F40 := fun_mk (st := s_law) l40 c40 k40
  have m40 := PySem.W.mg_of X G a40
  have b40 := F40.binds (ps := ["_law_script"]) fun _ _ _ _ _ _ us hl => match us, hl with | [_], _ => rfl
  have FC : FunC K "fewest" "fewest" s_fewest cF f19 _ := ⟨_, _, _, _, _, _, _, _, rfl, l19, c19⟩
  refine ⟨PySem.W.fnOf "law" "law" (defArgs s_law) (defBody s_law) (defScope s_law) .none kV40 dc40 pm40 an40 cd40 ct40, [(cF, tabOf K cF)], spLaw K (tabOf K cF), fun p hp => ?_, fun p hp => ?_, fun p hp => ?_, fun s v => .of_eq rfl, fun H a ns hn _ hT hS => ⟨a, ns, rfl, hS, hn, fun p hp => ?_, fun _ => rfl⟩, fun base _ _ TBs => ?_⟩
  · rw [List.mem_singleton.mp hp]; exact hts _ (by simpa using ht)
  · rw [List.mem_singleton.mp hp]; exact hl
  · rw [List.mem_singleton.mp hp]; exact PySem.W.codeHd_of_K X hh
  · rw [List.mem_singleton.mp hp]; exact NdefX.TabN.nil (hT _ (List.mem_singleton.mpr rfl))
  have TB : LamX.TabB base mg cF (tabOf K cF) := TBs _ (List.mem_singleton.mpr rfl)
  have O_inserted : OwnS l.prog w K mg base 1 "inserted" ["places", "rank", "at"] (spOf (fun _ => 0) c_inserted) := ⟨f0, _, ok_inserted F0 T, m0, k0, b0⟩
  have O_laid_evenly : OwnS l.prog w K mg base 1 "laid_evenly" ["wide", "many"] (spOf (fun _ => 0) c_laid_evenly) := ⟨f1, _, ok_laid_evenly F1 T, m1, k1, b1⟩
  have O_free_ahead : OwnS l.prog w K mg base 1 "free_ahead" ["places", "low"] (spOf (fun _ => 0) c_free_ahead) := ⟨f2, _, ok_free_ahead F2 T, m2, k2, b2⟩
  have O_free_behind : OwnS l.prog w K mg base 1 "free_behind" ["wide", "places", "high"] (spOf (fun _ => 0) c_free_behind) := ⟨f3, _, ok_free_behind F3 T, m3, k3, b3⟩
  have O_is_taken_ahead : OwnS l.prog w K mg base 1 "is_taken_ahead" ["rule", "low", "high", "ahead", "behind"] (spOf (fun _ => 0) c_is_taken_ahead) := ⟨f4, _, ok_is_taken_ahead F4 T, m4, k4, b4⟩
  have O_count_moved : OwnS l.prog w K mg base 1 "count_moved" ["places", "laid", "rank"] (spOf (fun _ => 0) c_count_moved) := ⟨f5, _, ok_count_moved F5 T, m5, k5, b5⟩
  have O_with_new_one : OwnS l.prog w K mg base 2 "with_new_one" ["rule", "wide", "places", "rank"] (spOf (fun _ => 0) c_with_new_one) := ⟨f6, _, ok_with_new_one F6 T O_inserted O_laid_evenly O_free_ahead O_free_behind O_is_taken_ahead, m6, k6, b6⟩
  have O_check_rule : OwnS l.prog w K mg base 1 "check_rule" ["rule"] (spOf (fun _ => 0) c_check_rule) := ⟨f7, _, ok_check_rule F7 T, m7, k7, b7⟩
  have O_check_width : OwnS l.prog w K mg base 1 "check_width" ["wide"] (spOf (fun _ => 0) c_check_width) := ⟨f8, _, ok_check_width F8 T, m8, k8, b8⟩
  have O_check_pattern : OwnS l.prog w K mg base 1 "check_pattern" ["pattern"] (spOf (fun _ => 0) c_check_pattern) := ⟨f9, _, ok_check_pattern F9 T, m9, k9, b9⟩
  have O_places_of : OwnS l.prog w K mg base 1 "places_of" ["pattern"] (spOf (fun _ => 0) c_places_of) := ⟨f10, _, ok_places_of F10 T, m10, k10, b10⟩
  have O_pattern_of : OwnS l.prog w K mg base 1 "pattern_of" ["wide", "places"] (spOf (fun _ => 0) c_pattern_of) := ⟨f11, _, ok_pattern_of F11 T, m11, k11, b11⟩
  have O_can_be_done : OwnS l.prog w K mg base 1 "can_be_done" ["wide", "many", "deed"] (spOf (fun _ => 0) c_can_be_done) := ⟨f12, _, ok_can_be_done F12 T, m12, k12, b12⟩
  have O_after_deed : OwnS l.prog w K mg base 3 "after_deed" ["rule", "wide", "places", "deed"] (spOf (fun _ => 0) c_after_deed) := ⟨f13, _, ok_after_deed F13 T O_with_new_one O_count_moved, m13, k13, b13⟩
  have O_done : OwnS l.prog w K mg base 4 "done" ["rule", "pattern", "deed"] (spOf (fun _ => 0) c_done) := ⟨f14, _, ok_done F14 T O_check_rule O_check_pattern O_places_of O_pattern_of O_can_be_done O_after_deed, m14, k14, b14⟩
  have O_patterns_of : OwnS l.prog w K mg base 1 "patterns_of" ["wide"] (spPats) := ⟨f15, _, ok_pats F15 T, m15, k15, b15⟩
  have O_layings : OwnS l.prog w K mg base 2 "layings" ["wide", "pattern", "deed"] (spLay) := ⟨f16, _, ok_layings (cc := fun _ => 0) F16 T O_places_of O_pattern_of O_patterns_of ⟨f5, _, ok_movedS F5 T, m5, k5, b5⟩, m16, k16, b16⟩
  have O_best_behind : OwnS l.prog w K mg base 3 "best_behind" ["wide", "best", "deed"] (spBest) := ⟨f17, _, ok_best F17 T O_layings, m17, k17, b17⟩
  have O_check_deeds : OwnS l.prog w K mg base 2 "check_deeds" ["wide", "deeds"] (spChk) := ⟨f18, _, ok_chk (cc := fun _ => 0) F18 T O_can_be_done, m18, k18, b18⟩
  have O_fewest : OwnS l.prog w K mg base 4 "fewest" ["wide", "deeds"] (spFewest (tabOf K cF)) := ⟨f19, _, ok_fewest (cc := fun _ => 0) FC T TB O_check_width O_check_deeds O_best_behind, m19, k19, b19⟩
  have O_played : OwnS l.prog w K mg base 4 "played" ["rule", "wide", "deeds"] (spPlayed) := ⟨f20, _, ok_played (cc := fun _ => 0) F20 T O_check_rule O_check_width O_can_be_done O_after_deed O_pattern_of, m20, k20, b20⟩
  have O_check_part : OwnS l.prog w K mg base 1 "check_part" ["moves", "deeds"] (spPart0) := ⟨f21, _, ok_part0 F21 T, m21, k21, b21⟩
  have O_is_pattern : OwnS l.prog w K mg base 1 "is_pattern" ["wide", "text"] (spIsPat) := ⟨f22, _, ok_ispat F22 T, m22, k22, b22⟩
  have O_is_paid : OwnS l.prog w K mg base 1 "is_paid" ["coins", "moves", "deeds", "step"] (spPaid) := ⟨f23, _, ok_paid F23 T, m23, k23, b23⟩
  have O_steps_from : OwnS l.prog w K mg base 5 "steps_from" ["rule", "pattern"] (spSteps) := ⟨f24, _, ok_steps_from (cc := fun _ => 0) F24 T O_can_be_done O_done, m24, k24, b24⟩
  have O_shows : OwnS l.prog w K mg base 6 "shows" ["rule", "wide", "moves", "deeds", "told"] (spShows) := ⟨f25, _, ok_shows (cc := fun _ => 0) F25 T O_check_rule O_check_width O_check_part O_is_pattern O_is_paid O_steps_from, m25, k25, b25⟩
  have O_raised : OwnS l.prog w K mg base 1 "raised" ["steps", "moves", "deeds", "coins", "dearest"] (spRaised) := ⟨f26, _, ok_raised F26 T, m26, k26, b26⟩
  have O_gone_round : OwnS l.prog w K mg base 1 "gone_round" ["dearest", "pattern"] (spGone) := ⟨f27, _, ok_gone F27 T, m27, k27, b27⟩
  have O_coins_asked : OwnS l.prog w K mg base 2 "coins_asked" ["steps", "moves", "deeds"] (spAsked) := ⟨f28, _, ok_asked F28 T O_raised O_gone_round, m28, k28, b28⟩
  have O_part_of : OwnS l.prog w K mg base 1 "part_of" ["around"] (spPart) := ⟨f29, _, ok_part F29 T, m29, k29, b29⟩
  have O_long_run : OwnS l.prog w K mg base 3 "long_run" ["steps"] (spLong) := ⟨f30, _, ok_long F30 T O_coins_asked O_part_of, m30, k30, b30⟩
  have O_all_steps : OwnS l.prog w K mg base 6 "all_steps" ["rule", "wide"] (spAll) := ⟨f31, _, ok_all F31 T O_steps_from, m31, k31, b31⟩
  have O_worst : OwnS l.prog w K mg base 7 "worst" ["rule", "wide"] (spWorst) := ⟨f32, _, ok_worst (cc := fun _ => 0) F32 T O_check_rule O_check_width O_all_steps O_long_run, m32, k32, b32⟩
  have O_purse : OwnS l.prog w K mg base 7 "purse" ["rule", "wide"] (spPurse) := ⟨f33, _, ok_purse (cc := fun _ => 0) F33 T O_check_rule O_check_width O_all_steps O_long_run, m33, k33, b33⟩
  have O__law_dice : OwnS l.prog w K mg base 1 "_law_dice" ["_law_script", "_law_k"] (spDice K) := ⟨f34, _, ok_dice F34 T, m34, k34, b34⟩
  have O__law_off : OwnS l.prog w K mg base 1 "_law_off" ["_law_d", "_law_most"] (spOff) := ⟨f35, _, ok_off F35 T, m35, k35, b35⟩
  have O__law_rule : OwnS l.prog w K mg base 2 "_law_rule" ["_law_d"] (spRule) := ⟨f36, _, ok_rule F36 T (draw_of O__law_off), m36, k36, b36⟩
  have O__law_drawn : OwnS l.prog w K mg base 2 "_law_drawn" ["_law_d", "_law_wide", "_law_most"] (spDrawn) := ⟨f37, _, ok_drawn F37 T (draw_of O__law_off), m37, k37, b37⟩
  have O__law_alike : OwnS l.prog w K mg base 4 "_law_alike" ["_law_found", "_law_due"] (spAlk 3) := ⟨f38, _, ok_alike F38 T m38 b38 3, m38, k38, b38⟩
  have O__law_asked : OwnS l.prog w K mg base 8 "_law_asked" ["_law_kind", "_law_rule_here", "_law_wide", "_law_deeds", "_law_rows"] (spAskK (tabOf K cF)) := ⟨f39, _, ok_asked10 (cc := fun _ => 0) F39 T O_played O_done O_worst O_purse O_shows O_fewest, m39, k39, b39⟩
  exact ok_law F40 T O__law_dice (draw_of O__law_off) (rule_of O__law_rule) O__law_drawn O_purse O__law_asked O__law_alike
end CK
open PySem PySem.W PyProof.Rows
set_option maxRecDepth 100000 in
set_option maxHeartbeats 0 in
theorem PySem.Challenge.cw_looseshelf_k10_asked_again_holds : PySem.Challenge.rw_looseshelf_k10_asked_again.Holds := by
  w_on; o_law; k_head; (case hw => w_witness2)
  k_fill
  refine LamX.walk_ofTs (l := PySem.Challenge.rw_looseshelf_k10_asked_again) (n := 63) (k := 9) (x := "_law_script") (CX := fun _ => L2.CX0) rfl (by decide) rfl ⟨rfl, by decide, by decide⟩ (fun w h Y => PySem.W.km_in_of Y) ?F fun _ _ _ _ _ z => z
  case F =>
    intro w mg fa h Y KX G hmg
    refine' CK.all_mk KX G hmg (PySem.W.km_tabs_of Y) ?a0 ?l0 ?c0 ?k0 ?a1 ?l1 ?c1 ?k1 ?a2 ?l2 ?c2 ?k2 ?a3 ?l3 ?c3 ?k3 ?a4 ?l4 ?c4 ?k4 ?a5 ?l5 ?c5 ?k5 ?a6 ?l6 ?c6 ?k6 ?a7 ?l7 ?c7 ?k7 ?a8 ?l8 ?c8 ?k8 ?a9 ?l9 ?c9 ?k9 ?a10 ?l10 ?c10 ?k10 ?a11 ?l11 ?c11 ?k11 ?a12 ?l12 ?c12 ?k12 ?a13 ?l13 ?c13 ?k13 ?a14 ?l14 ?c14 ?k14 ?a15 ?l15 ?c15 ?k15 ?a16 ?l16 ?c16 ?k16 ?a17 ?l17 ?c17 ?k17 ?a18 ?l18 ?c18 ?k18 ?a19 ?l19 ?c19 ?k19 ?a20 ?l20 ?c20 ?k20 ?a21 ?l21 ?c21 ?k21 ?a22 ?l22 ?c22 ?k22 ?a23 ?l23 ?c23 ?k23 ?a24 ?l24 ?c24 ?k24 ?a25 ?l25 ?c25 ?k25 ?a26 ?l26 ?c26 ?k26 ?a27 ?l27 ?c27 ?k27 ?a28 ?l28 ?c28 ?k28 ?a29 ?l29 ?c29 ?k29 ?a30 ?l30 ?c30 ?k30 ?a31 ?l31 ?c31 ?k31 ?a32 ?l32 ?c32 ?k32 ?a33 ?l33 ?c33 ?k33 ?a34 ?l34 ?c34 ?k34 ?a35 ?l35 ?c35 ?k35 ?a36 ?l36 ?c36 ?k36 ?a37 ?l37 ?c37 ?k37 ?a38 ?l38 ?c38 ?k38 ?a39 ?l39 ?c39 ?k39 ?a40 ?l40 ?c40 ?k40 ?n_abs ?n_all ?n_bool ?n_dict ?n_enumerate ?n_int ?n_isinstance ?n_len ?n_list ?n_min ?n_range ?n_str ?n_sum ?n_tuple ?n_zip ?x_MOST_PLACES ?x_MOST_DEEDS ?x_RULES ?y_RULES ?zhh ?zhl ?zht
    (case a0 => k_is)
    (case l0 => k_is)
    (case c0 => k_is)
    (case k0 => k_is)
    (case a1 => k_is)
    (case l1 => k_is)
    (case c1 => k_is)
    (case k1 => k_is)
    (case a2 => k_is)
    (case l2 => k_is)
    (case c2 => k_is)
    (case k2 => k_is)
    (case a3 => k_is)
    (case l3 => k_is)
    (case c3 => k_is)
    (case k3 => k_is)
    (case a4 => k_is)
    (case l4 => k_is)
    (case c4 => k_is)
    (case k4 => k_is)
    (case a5 => k_is)
    (case l5 => k_is)
    (case c5 => k_is)
    (case k5 => k_is)
    (case a6 => k_is)
    (case l6 => k_is)
    (case c6 => k_is)
    (case k6 => k_is)
    (case a7 => k_is)
    (case l7 => k_is)
    (case c7 => k_is)
    (case k7 => k_is)
    (case a8 => k_is)
    (case l8 => k_is)
    (case c8 => k_is)
    (case k8 => k_is)
    (case a9 => k_is)
    (case l9 => k_is)
    (case c9 => k_is)
    (case k9 => k_is)
    (case a10 => k_is)
    (case l10 => k_is)
    (case c10 => k_is)
    (case k10 => k_is)
    (case a11 => k_is)
    (case l11 => k_is)
    (case c11 => k_is)
    (case k11 => k_is)
    (case a12 => k_is)
    (case l12 => k_is)
    (case c12 => k_is)
    (case k12 => k_is)
    (case a13 => k_is)
    (case l13 => k_is)
    (case c13 => k_is)
    (case k13 => k_is)
    (case a14 => k_is)
    (case l14 => k_is)
    (case c14 => k_is)
    (case k14 => k_is)
    (case a15 => k_is)
    (case l15 => k_is)
    (case c15 => k_is)
    (case k15 => k_is)
    (case a16 => k_is)
    (case l16 => k_is)
    (case c16 => k_is)
    (case k16 => k_is)
    (case a17 => k_is)
    (case l17 => k_is)
    (case c17 => k_is)
    (case k17 => k_is)
    (case a18 => k_is)
    (case l18 => k_is)
    (case c18 => k_is)
    (case k18 => k_is)
    (case a19 => k_is)
    (case l19 => k_is)
    (case c19 => k_is)
    (case k19 => k_is)
    (case a20 => k_is)
    (case l20 => k_is)
    (case c20 => k_is)
    (case k20 => k_is)
    (case a21 => k_is)
    (case l21 => k_is)
    (case c21 => k_is)
    (case k21 => k_is)
    (case a22 => k_is)
    (case l22 => k_is)
    (case c22 => k_is)
    (case k22 => k_is)
    (case a23 => k_is)
    (case l23 => k_is)
    (case c23 => k_is)
    (case k23 => k_is)
    (case a24 => k_is)
    (case l24 => k_is)
    (case c24 => k_is)
    (case k24 => k_is)
    (case a25 => k_is)
    (case l25 => k_is)
    (case c25 => k_is)
    (case k25 => k_is)
    (case a26 => k_is)
    (case l26 => k_is)
    (case c26 => k_is)
    (case k26 => k_is)
    (case a27 => k_is)
    (case l27 => k_is)
    (case c27 => k_is)
    (case k27 => k_is)
    (case a28 => k_is)
    (case l28 => k_is)
    (case c28 => k_is)
    (case k28 => k_is)
    (case a29 => k_is)
    (case l29 => k_is)
    (case c29 => k_is)
    (case k29 => k_is)
    (case a30 => k_is)
    (case l30 => k_is)
    (case c30 => k_is)
    (case k30 => k_is)
    (case a31 => k_is)
    (case l31 => k_is)
    (case c31 => k_is)
    (case k31 => k_is)
    (case a32 => k_is)
    (case l32 => k_is)
    (case c32 => k_is)
    (case k32 => k_is)
    (case a33 => k_is)
    (case l33 => k_is)
    (case c33 => k_is)
    (case k33 => k_is)
    (case a34 => k_is)
    (case l34 => k_is)
    (case c34 => k_is)
    (case k34 => k_is)
    (case a35 => k_is)
    (case l35 => k_is)
    (case c35 => k_is)
    (case k35 => k_is)
    (case a36 => k_is)
    (case l36 => k_is)
    (case c36 => k_is)
    (case k36 => k_is)
    (case a37 => k_is)
    (case l37 => k_is)
    (case c37 => k_is)
    (case k37 => k_is)
    (case a38 => k_is)
    (case l38 => k_is)
    (case c38 => k_is)
    (case k38 => k_is)
    (case a39 => k_is)
    (case l39 => k_is)
    (case c39 => k_is)
    (case k39 => k_is)
    (case a40 => k_is)
    (case l40 => k_is)
    (case c40 => k_is)
    (case k40 => k_is)
    (case n_abs => k_is)
    (case n_all => k_is)
    (case n_bool => k_is)
    (case n_dict => k_is)
    (case n_enumerate => k_is)
    (case n_int => k_is)
    (case n_isinstance => k_is)
    (case n_len => k_is)
    (case n_list => k_is)
    (case n_min => k_is)
    (case n_range => k_is)
    (case n_str => k_is)
    (case n_sum => k_is)
    (case n_tuple => k_is)
    (case n_zip => k_is)
    (case x_MOST_PLACES => k_is)
    (case x_MOST_DEEDS => k_is)
    (case x_RULES => k_is)
    (case y_RULES => k_is)
    (case zhh => kernel_rfl)
    (case zhl => kernel_rfl)
    (case zht => kernel_rfl)
