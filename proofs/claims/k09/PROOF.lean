import PyProof.Rows.All
import Wide.All
import OpenK.AllK
import Wide.FinOn
import PySem.Challenge.RW_looseshelf_k09_whole_rules_beside_one_an
import HandS.ForMost
import HandS.More
import HandS.Flow
import HandS.IsInst
import HandS.NoneIn
import HandS.Flt
import PyProof.Draws
import PyProof.AssignAttr
set_option Elab.async false
set_option linter.all false
set_option maxRecDepth 100000
set_option maxHeartbeats 4000000
/-! CK: a def's body as a function of plain data (slots and a small heap of its own), and that the hand layer's readings follow from its run. -/
namespace CK
open PySem L2

/-- a plain value: a reference is a number into the plain heap; a key is an int of which only the order is known -/
inductive CV where
  | non | bl (b : Bool) | int (i : Int) | str (x : List Nat) | ref (n : Nat) | ty (n : String) | key (k : Nat) | off (i : Int) | opq
/-- a plain object -/
inductive CO where
  | lst (xs : List CV) | tup (xs : List CV) | ins (c : Nat) (fs : List (List Nat × CV))
/-- the plain heap: how many, the newest first -/
structure CH where
  n : Nat
  l : List CO
def CH.length (h : CH) : Nat := h.n
def CH.get (h : CH) (i : Nat) : Option CO := match Nat.blt i h.n with
  | true => h.l[h.n - 1 - i]?
  | false => none
def CH.new (h : CH) (o : CO) : CH := ⟨h.n + 1, o :: h.l⟩
def CH.set (h : CH) (i : Nat) (o : CO) : CH := ⟨h.n, h.l.set (h.n - 1 - i) o⟩
/-- objects, the oldest first -/
def CH.of (l : List CO) : CH := ⟨l.length, l.reverse⟩
theorem CH.get_eq (h : CH) (i : Nat) : h.get i = if i < h.n then h.l[h.n - 1 - i]? else none := by
  unfold CH.get
  by_cases c : i < h.n
  · rw [if_pos c]
    have e : Nat.blt i h.n = true := Nat.ble_eq_true_of_le (show i + 1 ≤ h.n from c)
    rw [e]
  · rw [if_neg c]
    have e : Nat.blt i h.n = false := by
      cases q : Nat.blt i h.n with
      | false => rfl
      | true => exact absurd (show i < h.n from Nat.le_of_ble_eq_true (show Nat.ble (i + 1) h.n = true from q)) c
    rw [e]
theorem CH.get_lt {h : CH} {i : Nat} {o : CO} (e : h.get i = some o) : i < h.length := by
  rw [CH.get_eq] at e
  split at e
  · assumption
  · cases e
abbrev CS := List (Option CV)
/-- where the plain data lies: the keys' ints, the classes' and the objects' addresses -/
structure Em where
  k : Nat → Int
  c : Nat → Addr
  as : List Addr
  t : Int
def Tx (l : List Nat) : Str := ⟨l.toArray⟩
def RV (η : Em) : CV → V → Prop
  | .non, y => y = .non
  | .bl b, y => y = .bl b
  | .int i, y => y = .int i
  | .str x, y => y = .str (Tx x)
  | .ref n, y => ∃ a, η.as[n]? = some a ∧ y = .ref a
  | .ty n, y => y = .ty n
  | .key k, y => y = .int (η.k k)
  | .off i, y => y = .int (η.t + i)
  | .opq, y => y = .ref (η.k 0).toNat
abbrev RVs (η : Em) : List CV → List V → Prop := Paired (RV η)
abbrev RF (η : Em) : List (List Nat × CV) → List (Str × V) → Prop := Paired fun p q => q.1 = Tx p.1 ∧ RV η p.2 q.2
def RO (η : Em) : CO → HO → Prop
  | .lst xs, O => ∃ ys, O = .lst ys ∧ RVs η xs ys
  | .tup xs, O => ∃ ys, O = .tup ys ∧ RVs η xs ys
  | .ins c fs, O => ∃ dx ys, O = .ins (η.c c) dx ys ∧ RF η fs ys
/-- later: the same and more objects -/
structure Le (η η' : Em) : Prop where
  k : η'.k = η.k
  c : η'.c = η.c
  as : ∃ l, η'.as = η.as ++ l
  t : η'.t = η.t
theorem Le.refl (η : Em) : Le η η := ⟨rfl, rfl, ⟨[], by simp⟩, rfl⟩
theorem Le.trans {a b c : Em} (x : Le a b) (y : Le b c) : Le a c := by
  obtain ⟨l, e⟩ := x.as
  obtain ⟨m, f⟩ := y.as
  exact ⟨y.k.trans x.k, y.c.trans x.c, ⟨l ++ m, by rw [f, e, List.append_assoc]⟩, y.t.trans x.t⟩
theorem Le.get {a b : Em} (x : Le a b) {n : Nat} {p : Addr} (h : a.as[n]? = some p) : b.as[n]? = some p := by
  obtain ⟨l, e⟩ := x.as
  rw [e, List.getElem?_append_left (List.getElem?_eq_some_iff.mp h).1]
  exact h
theorem Le.mem {a b : Em} (x : Le a b) {p : Addr} (h : p ∈ a.as) : p ∈ b.as := by
  obtain ⟨l, e⟩ := x.as
  rw [e]
  exact List.mem_append_left _ h
theorem Le.len {a b : Em} (x : Le a b) : a.as.length ≤ b.as.length := by
  obtain ⟨l, e⟩ := x.as
  rw [e, List.length_append]
  omega
theorem RV.mono {η η' : Em} (x : Le η η') {v : CV} {y : V} (h : RV η v y) : RV η' v y := by
  cases v with
  | ref n => obtain ⟨a, e, q⟩ := h; exact ⟨a, x.get e, q⟩
  | key k => show y = V.int (η'.k k); rw [x.k]; exact h
  | off k => show y = V.int (η'.t + k); rw [x.t]; exact h
  | opq => show y = V.ref (η'.k 0).toNat; rw [x.k]; exact h
  | _ => exact h
theorem RVs.mono {η η' : Em} (x : Le η η') {v : List CV} {y : List V} (h : RVs η v y) : RVs η' v y := Paired.mapP h fun _ _ q => RV.mono x q
theorem RF.mono {η η' : Em} (x : Le η η') {v : List (List Nat × CV)} {y : List (Str × V)} (h : RF η v y) : RF η' v y := Paired.mapP h fun _ _ q => ⟨q.1, RV.mono x q.2⟩
theorem RO.mono {η η' : Em} (x : Le η η') {v : CO} {y : HO} (h : RO η v y) : RO η' v y := by
  cases v with
  | lst xs => obtain ⟨ys, e, q⟩ := h; exact ⟨ys, e, RVs.mono x q⟩
  | tup xs => obtain ⟨ys, e, q⟩ := h; exact ⟨ys, e, RVs.mono x q⟩
  | ins c fs =>
    obtain ⟨dx, ys, e, q⟩ := h
    exact ⟨dx, ys, by rw [x.c]; exact e, RF.mono x q⟩
/-- the plain heap stands in the abstract one -/
structure HR (cc : Nat → Addr) (η : Em) (h : CH) (H : Hp) : Prop where
  cl : η.c = cc
  nd : η.as.Nodup
  wf : h.l.length = h.n
  len : η.as.length = h.length
  mo : ∀ i j, i < j → η.k i < η.k j
  ob : ∀ (n : Nat) (a : Addr) (o : CO), η.as[n]? = some a → h.get n = some o → ∃ O, H a = some O ∧ RO η o O
theorem CH.get_some {h : CH} (wf : h.l.length = h.n) {i : Nat} (c : i < h.length) : ∃ o, h.get i = some o := by
  have c : i < h.n := c
  rw [CH.get_eq, if_pos c]
  exact ⟨_, List.getElem?_eq_getElem (by omega)⟩
theorem CH.get_old {h : CH} {o : CO} {i : Nat} (c : i < h.length) : (h.new o).get i = h.get i := by
  have c : i < h.n := c
  rw [CH.get_eq h, if_pos c, CH.get_eq]
  show (if i < h.n + 1 then (o :: h.l)[h.n + 1 - 1 - i]? else none) = _
  rw [if_pos (show i < h.n + 1 by omega)]
  have e : h.n + 1 - 1 - i = (h.n - 1 - i) + 1 := by omega
  rw [e, List.getElem?_cons_succ]
theorem CH.get_new {h : CH} {o : CO} : (h.new o).get h.length = some o := by
  rw [CH.get_eq]
  show (if h.n < h.n + 1 then (o :: h.l)[h.n + 1 - 1 - h.n]? else none) = _
  rw [if_pos (show h.n < h.n + 1 by omega)]
  have e : h.n + 1 - 1 - h.n = 0 := by omega
  rw [e]
  rfl
theorem CH.get_set {h : CH} (wf : h.l.length = h.n) {o : CO} {i : Nat} (c : i < h.length) : (h.set i o).get i = some o := by
  have c : i < h.n := c
  rw [CH.get_eq]
  show (if i < h.n then (h.l.set (h.n - 1 - i) o)[h.n - 1 - i]? else none) = _
  rw [if_pos c, List.getElem?_set_self (by omega)]
theorem CH.get_set_ne {h : CH} {o : CO} {i j : Nat} (ci : i < h.length) (n : j ≠ i) : (h.set i o).get j = h.get j := by
  have ci : i < h.n := ci
  rw [CH.get_eq, CH.get_eq]
  show (if j < h.n then (h.l.set (h.n - 1 - i) o)[h.n - 1 - j]? else none) = _
  by_cases c : j < h.n
  · rw [if_pos c, if_pos c, List.getElem?_set_ne (by omega)]
  · rw [if_neg c, if_neg c]
/-- a step: more objects, all new; what is none of ours stays -/
structure Stp (η : Em) (H : Hp) (η' : Em) (H' : Hp) : Prop where
  le : Le η η'
  nw : ∀ b, b ∈ η'.as → b ∉ η.as → H b = none
  fr : ∀ b o, b ∉ η.as → H b = some o → H' b = some o
theorem Stp.refl (η : Em) (H : Hp) : Stp η H η H := ⟨Le.refl _, fun _ h n => absurd h n, fun _ _ _ h => h⟩
theorem HR.at {cc : Nat → Addr} {η : Em} {h : CH} {H : Hp} (r : HR cc η h H) {n : Nat} {o : CO} (e : h.get n = some o) : ∃ a O, η.as[n]? = some a ∧ H a = some O ∧ RO η o O := by
  have hl : n < η.as.length := by rw [r.len]; exact CH.get_lt e
  obtain ⟨O, q⟩ := r.ob n η.as[n] o (List.getElem?_eq_getElem hl) e
  exact ⟨_, O, List.getElem?_eq_getElem hl, q⟩
theorem HR.mem {cc : Nat → Addr} {η : Em} {h : CH} {H : Hp} (r : HR cc η h H) {b : Addr} (e : b ∈ η.as) : ∃ O, H b = some O := by
  obtain ⟨n, hn⟩ := List.getElem?_of_mem e
  have hl : n < h.length := by rw [← r.len]; exact (List.getElem?_eq_some_iff.mp hn).1
  obtain ⟨o, eo⟩ := CH.get_some r.wf hl
  obtain ⟨O, q, _⟩ := r.ob n b o hn eo
  exact ⟨O, q⟩
theorem HR.notIn {cc : Nat → Addr} {η : Em} {h : CH} {H : Hp} (r : HR cc η h H) {b : Addr} (e : H b = none) : b ∉ η.as := fun m => by
  obtain ⟨O, q⟩ := r.mem m
  rw [e] at q; cases q
theorem Stp.trans {cc : Nat → Addr} {η η1 η2 : Em} {H H1 H2 : Hp} {h1 : CH} (a : Stp η H η1 H1) (r : HR cc η1 h1 H1) (b : Stp η1 H1 η2 H2) : Stp η H η2 H2 := by
  refine ⟨a.le.trans b.le, fun x hx hn => ?_, fun x o hn e => ?_⟩
  · by_cases m : x ∈ η1.as
    · exact a.nw x m hn
    · have z := b.nw x hx m
      cases q : H x with
      | none => rfl
      | some o => rw [a.fr x o hn q] at z; cases z
  · have m : x ∉ η1.as := fun m => by have z := a.nw x m hn; rw [e] at z; cases z
    exact b.fr x o m (a.fr x o hn e)
def Em.push (η : Em) (p : Addr) : Em := ⟨η.k, η.c, η.as ++ [p], η.t⟩
theorem Le.push (η : Em) (p : Addr) : Le η (η.push p) := ⟨rfl, rfl, ⟨[p], rfl⟩, rfl⟩
theorem Em.push_new (η : Em) (p : Addr) {h : CH} (e : η.as.length = h.length) : (η.push p).as[h.length]? = some p := by
  show (η.as ++ [p])[h.length]? = some p
  rw [← e, List.getElem?_append_right (Nat.le_refl _), Nat.sub_self]
  rfl
theorem nodup_snoc {l : List Addr} {p : Addr} (h : l.Nodup) (n : p ∉ l) : (l ++ [p]).Nodup := by
  refine List.nodup_append.mpr ⟨h, by simp, fun a ha b hb => ?_⟩
  have e : b = p := by simpa using hb
  subst e
  exact fun q => n (by rw [← q]; exact ha)
/-- a new object -/
theorem HR.new {cc : Nat → Addr} {η : Em} {h : CH} {H : Hp} (r : HR cc η h H) {o : CO} {O : HO} (ro : RO η o O) {p : Addr} (hp : H p = none) : HR cc (η.push p) (h.new o) (upd H p O) ∧ Stp η H (η.push p) (upd H p O) := by
  have hn := r.notIn hp
  refine ⟨⟨r.cl, nodup_snoc r.nd hn, by show (o :: h.l).length = h.n + 1; rw [List.length_cons, r.wf], ?_, r.mo, fun n a o' e1 e2 => ?_⟩, ⟨Le.push η p, fun b hb nb => ?_, fun b u nb e => ?_⟩⟩
  · show (η.as ++ [p]).length = h.n + 1
    rw [List.length_append, r.len]
    rfl
  · have e1 : (η.as ++ [p])[n]? = some a := e1
    by_cases hl : n < h.length
    · rw [List.getElem?_append_left (by rw [r.len]; exact hl)] at e1
      rw [CH.get_old hl] at e2
      obtain ⟨O', q1, q2⟩ := r.ob n a o' e1 e2
      refine ⟨O', ?_, RO.mono (Le.push η p) q2⟩
      rw [upd_ne (ne_of_none q1 hp)]
      exact q1
    · have hl2 : n < h.length + 1 := CH.get_lt e2
      have en : n = h.length := by omega
      subst en
      have z := Em.push_new η p r.len
      have z : (η.as ++ [p])[h.length]? = some p := z
      rw [z] at e1
      cases e1
      rw [CH.get_new] at e2
      cases e2
      exact ⟨O, upd_same, RO.mono (Le.push η p) ro⟩
  · have hb : b ∈ η.as ++ [p] := hb
    rcases List.mem_append.mp hb with m | m
    · exact absurd m nb
    · have e : b = p := by simpa using m
      rw [e]; exact hp
  · rw [upd_ne (ne_of_none e hp)]
    exact e
/-- an object is changed -/
theorem HR.put {cc : Nat → Addr} {η : Em} {h : CH} {H : Hp} (r : HR cc η h H) {n : Nat} {a : Addr} {o : CO} {O : HO} (e : η.as[n]? = some a) (ro : RO η o O) : HR cc η (h.set n o) (upd H a O) ∧ Stp η H η (upd H a O) := by
  have hl : n < h.length := by rw [← r.len]; exact (List.getElem?_eq_some_iff.mp e).1
  refine ⟨⟨r.cl, r.nd, by show (h.l.set _ o).length = h.n; rw [List.length_set]; exact r.wf, r.len, r.mo, fun m b o' e1 e2 => ?_⟩, ⟨Le.refl _, fun b hb nb => absurd hb nb, fun b u nb q => ?_⟩⟩
  · by_cases hm : m = n
    · subst hm
      rw [e] at e1
      cases e1
      rw [CH.get_set r.wf hl] at e2
      cases e2
      exact ⟨O, upd_same, ro⟩
    · rw [CH.get_set_ne hl hm] at e2
      obtain ⟨O', q1, q2⟩ := r.ob m b o' e1 e2
      refine ⟨O', ?_, q2⟩
      rw [upd_ne (fun q => hm (nd_ix r.nd e1 (by rw [q]; exact e)))]
      exact q1
  · rw [upd_ne (fun z => nb (by rw [z]; exact List.mem_of_getElem? e))]
    exact q
theorem HR.lst {cc : Nat → Addr} {η : Em} {h : CH} {H : Hp} (r : HR cc η h H) {n : Nat} {xs : List CV} {a : Addr} (e : h.get n = some (.lst xs)) (ea : η.as[n]? = some a) : ∃ ys, H a = some (.lst ys) ∧ RVs η xs ys := by
  obtain ⟨O, q, ys, e2, rv⟩ := r.ob n a _ ea e
  exact ⟨ys, by rw [q, e2], rv⟩
theorem HR.tup {cc : Nat → Addr} {η : Em} {h : CH} {H : Hp} (r : HR cc η h H) {n : Nat} {xs : List CV} {a : Addr} (e : h.get n = some (.tup xs)) (ea : η.as[n]? = some a) : ∃ ys, H a = some (.tup ys) ∧ RVs η xs ys := by
  obtain ⟨O, q, ys, e2, rv⟩ := r.ob n a _ ea e
  exact ⟨ys, by rw [q, e2], rv⟩

/-- the slots -/
structure RS (η : Em) (s : CS) (σ : L2.St) : Prop where
  len : s.length = σ.length
  at_ : ∀ (i : Nat) (v : CV), s[i]? = some (some v) → ∃ y, σ[i]? = some (some y) ∧ RV η v y
theorem RS.mono {η η' : Em} (x : Le η η') {s : CS} {σ : L2.St} (r : RS η s σ) : RS η' s σ := ⟨r.len, fun i v e => let ⟨y, a, b⟩ := r.at_ i v e; ⟨y, a, RV.mono x b⟩⟩
theorem RS.set {η : Em} {s : CS} {σ : L2.St} (r : RS η s σ) (i : Nat) {v : CV} {y : V} (rv : RV η v y) : RS η (s.set i (some v)) (σ.set i (some y)) := by
  refine ⟨by rw [List.length_set, List.length_set]; exact r.len, fun j u e => ?_⟩
  by_cases hj : j = i
  · subst hj
    have hl : j < s.length := by have := (List.getElem?_eq_some_iff.mp e).1; rwa [List.length_set] at this
    rw [List.getElem?_set_self hl] at e
    cases e
    exact ⟨y, List.getElem?_set_self (by rw [← r.len]; exact hl), rv⟩
  · rw [List.getElem?_set_ne (fun q => hj q.symm)] at e ⊢
    exact r.at_ j u e

theorem pe_imp {X : Cx} {e : Expr} {t t' : TE} (h : PE X e t) (i : ∀ σ H Q, t' σ H Q → t σ H Q) : PE X e t' := ⟨fun pins s σ H Q I q => h.run pins s σ H Q I (i _ _ _ q)⟩
theorem pt_imp {X : Cx} {e : Expr} {t t' : TT} (h : PT X e t) (i : ∀ σ H Q, t' σ H Q → t σ H Q) : PT X e t' := ⟨fun pins s σ H Q I q => h.run pins s σ H Q I (i _ _ _ q)⟩
theorem pw_imp {X : Cx} {e : Expr} {t t' : TT} (h : PW X e t) (i : ∀ σ H Q, t' σ H Q → t σ H Q) : PW X e t' := ⟨fun wh pins s σ H Q I q => h.run wh pins s σ H Q I (i _ _ _ q)⟩
theorem pa_imp {X : Cx} {e : List Expr} {t t' : TA} (h : PA X e t) (i : ∀ σ H Q, t' σ H Q → t σ H Q) : PA X e t' := ⟨fun pos pins s σ H Q I q => h.run pos pins s σ H Q I (i _ _ _ q)⟩
theorem ps_imp {X : Cx} {e : Stmt} {t t' : TS} (h : PS X e t) (i : ∀ D σ H, t' D σ H → t D σ H) : PS X e t' := ⟨fun pins s σ H D I q => h.run pins s σ H D I (i _ _ _ q)⟩
theorem pss_imp {X : Cx} {e : List Stmt} {t t' : TS} (h : PSs X e t) (i : ∀ D σ H, t' D σ H → t D σ H) : PSs X e t' := ⟨fun pins s σ H D I q => h.run pins s σ H D I (i _ _ _ q)⟩
theorem pg_imp {X : Cx} {e : Expr} {t t' : TG} (h : PG X e t) (i : ∀ v σ H Q, t' v σ H Q → t v σ H Q) : PG X e t' := ⟨fun pins s σ H v u Q I r q => h.run pins s σ H v u Q I r (i _ _ _ _ q)⟩
theorem pi_imp {X : Cx} {tg e : Expr} {t t' : TI} (h : PI X tg e t) (i : ∀ σ H Q, t' σ H Q → t σ H Q) : PI X tg e t' := ⟨fun pins s σ H Q I q => h.run pins s σ H Q I (i _ _ _ q)⟩

abbrev CE := CS → CH → Option (CV × CH)
abbrev CT := CS → CH → Option (Bool × CH)
abbrev CA := CS → CH → Option (List CV × CH)
inductive Fl where
  | nx | rt (v : CV) | bk | ct
abbrev CP := CS → CH → Option (Fl × CS × CH)
/-- the readings of plain functions -/
def eOf (cc : Nat → Addr) (c : CE) : TE := fun σ H Q => ∃ η h s, RS η s σ ∧ HR cc η h H ∧ ∃ v h', c s h = some (v, h') ∧ ∀ η' H' v', Stp η H η' H' → HR cc η' h' H' → RV η' v v' → Q v' H'
def bOf (cc : Nat → Addr) (c : CT) : TT := fun σ H Q => ∃ η h s, RS η s σ ∧ HR cc η h H ∧ ∃ v h', c s h = some (v, h') ∧ ∀ η' H', Stp η H η' H' → HR cc η' h' H' → Q v H'
def aOf (cc : Nat → Addr) (c : CA) : TA := fun σ H Q => ∃ η h s, RS η s σ ∧ HR cc η h H ∧ ∃ v h', c s h = some (v, h') ∧ ∀ η' H' v', Stp η H η' H' → HR cc η' h' H' → RVs η' v v' → Q v' H'
def Post (D : Ends) (η' : Em) (fl : Fl) (σ' : L2.St) (H' : Hp) : Prop := match fl with
  | .nx => D.nx σ' H'
  | .rt v => ∀ v', RV η' v v' → D.rt v' H'
  | .bk => D.bk σ' H'
  | .ct => D.ct σ' H'
def sOf (cc : Nat → Addr) (c : CP) : TS := fun D σ H => ∃ η h s, RS η s σ ∧ HR cc η h H ∧ ∃ fl s' h', c s h = some (fl, s', h') ∧ ∀ η' H' σ', Stp η H η' H' → HR cc η' h' H' → RS η' s' σ' → Post D η' fl σ' H'
def spOf (cc : Nat → Addr) (c : List CV → CH → Option (CV × CH)) : Sp := fun vs H Q _ => ∃ η h xs, RVs η xs vs ∧ HR cc η h H ∧ ∃ v h', c xs h = some (v, h') ∧ ∀ η' H' v', Stp η H η' H' → HR cc η' h' H' → RV η' v v' → Q v' H'
end CK

/-! CK: expressions. -/
namespace CK
open PySem L2
variable {X : Cx} {cc : Nat → Addr}

/-! ### names, constants -/
def cVar (i : Nat) : CE := fun s h => match s[i]? with | some (some v) => some (v, h) | _ => none
def cC (v : CV) : CE := fun _ h => some (v, h)
theorem var_of {i : Nat} {σ : L2.St} {H : Hp} {Q : VK} (q : eOf cc (cVar i) σ H Q) : tVar i σ H Q := by
  obtain ⟨η, h, s, rs, hr, v, h', e, k⟩ := q
  unfold cVar at e
  split at e
  · rename_i u eu
    cases e
    obtain ⟨y, ey, rv⟩ := rs.at_ i _ eu
    exact ⟨y, ey, k η H y (Stp.refl _ _) hr rv⟩
  · cases e
theorem c_of {v : CV} {y : V} (r : ∀ η, RV η v y) {σ : L2.St} {H : Hp} {Q : VK} (q : eOf cc (cC v) σ H Q) : tC y σ H Q := by
  obtain ⟨η, h, s, rs, hr, v', h', e, k⟩ := q
  cases e
  exact k η H y (Stp.refl _ _) hr (r η)
theorem kv (i : Nat) {x : Str} {pos : Pos} (hN : X.N[i]? = some x := by rfl) (hv : Vis X.env.scope x := by first | exact Or.inl rfl | exact Or.inr (Or.inl rfl) | exact Or.inr (Or.inr rfl)) (hd : (x == ("__debug__" : Str)) = false := by decide)
    (hcd : (x == ("__classdict__" : Str)) = false := by decide) : PE X (.Name x pos) (eOf cc (cVar i)) := pe_imp (pe_var hN hv hd hcd) fun _ _ _ q => var_of q
theorem ke_int {i j pos} : PE X (.Constant (.int i) j pos) (eOf cc (cC (.int i))) := pe_imp pe_int fun _ _ _ q => c_of (v := .int i) (y := .int i) (fun _ => rfl) q
theorem ke_bl {b j pos} : PE X (.Constant (.bool b) j pos) (eOf cc (cC (.bl b))) := pe_imp pe_bl fun _ _ _ q => c_of (v := .bl b) (y := .bl b) (fun _ => rfl) q
theorem ke_non {j pos} : PE X (.Constant .none j pos) (eOf cc (cC .non)) := pe_imp pe_non fun _ _ _ q => c_of (v := .non) (y := .non) (fun _ => rfl) q
theorem ke_str (l : List Nat) {x j pos} (hx : x = Tx l := by rfl) : PE X (.Constant (.str x) j pos) (eOf cc (cC (.str l))) := pe_imp pe_str fun _ _ _ q => c_of (v := .str l) (y := .str x) (fun _ => by rw [hx]; rfl) q
/-- a constant of the module -/
theorem ke_glob {x : Str} {v : CV} {y : V} {u : Value} {pos : Pos} (r : ∀ η, RV η v y) (hg : Gl X x) (hm : X.mg x = some u) (rv : RelV y u) (hd : (x == ("__debug__" : Str)) = false := by decide) : PE X (.Name x pos) (eOf cc (cC v)) :=
  pe_imp (pe_glob hg hm rv hd) fun _ _ _ q => c_of r q
/-- a built-in type as a value -/
theorem ke_ty {x : Str} {n : String} {pos : Pos} (hg : Gl X x) (hm : X.mg x = none) (hv : bootBuiltins x = some (.type n)) (hn : x ≠ "__name__" := by decide) (hd : (x == ("__debug__" : Str)) = false := by decide) : PE X (.Name x pos) (eOf cc (cC (.ty n))) :=
  pe_imp (pe_bltn (v := .ty n) hg hm hv rfl hn hd) fun _ _ _ q => c_of (v := .ty n) (y := .ty n) (fun _ => rfl) q

/-! ### one after another -/
def cBin (f : CV → CV → CH → Option (CV × CH)) (a b : CE) : CE := fun s h =>
  match a s h with
  | none => none
  | some (v, h1) => match b s h1 with
    | none => none
    | some (u, h2) => f v u h2
def cUn (f : CV → CH → Option (CV × CH)) (a : CE) : CE := fun s h =>
  match a s h with
  | none => none
  | some (v, h1) => f v h1
/-- the end that is wanted behind a plain step -/
def Kn (cc : Nat → Addr) (η : Em) (H : Hp) (w : CV) (h' : CH) (Q : VK) : Prop := ∀ η' H' z, Stp η H η' H' → HR cc η' h' H' → RV η' w z → Q z H'
def VOp (cc : Nat → Addr) (f : CV → CV → CH → Option (CV × CH)) (r : R2) : Prop :=
  ∀ {η : Em} {h : CH} {H : Hp} {v u : CV} {x y : V} {w : CV} {h' : CH} {Q : VK}, HR cc η h H → RV η v x → RV η u y → f v u h = some (w, h') → Kn cc η H w h' Q → r x y H Q
def VUn (cc : Nat → Addr) (f : CV → CH → Option (CV × CH)) (r : V → Hp → VK → Prop) : Prop :=
  ∀ {η : Em} {h : CH} {H : Hp} {v : CV} {x : V} {w : CV} {h' : CH} {Q : VK}, HR cc η h H → RV η v x → f v h = some (w, h') → Kn cc η H w h' Q → r x H Q
theorem cBin_some {f : CV → CV → CH → Option (CV × CH)} {a b : CE} {s : CS} {h : CH} {w : CV × CH} (e : cBin f a b s h = some w) : ∃ v h1 u h2, a s h = some (v, h1) ∧ b s h1 = some (u, h2) ∧ f v u h2 = some w := by
  unfold cBin at e
  split at e
  · cases e
  · rename_i v h1 e1
    split at e
    · cases e
    · rename_i u h2 e2
      exact ⟨v, h1, u, h2, e1, e2, e⟩
theorem cUn_some {f : CV → CH → Option (CV × CH)} {a : CE} {s : CS} {h : CH} {w : CV × CH} (e : cUn f a s h = some w) : ∃ v h1, a s h = some (v, h1) ∧ f v h1 = some w := by
  unfold cUn at e
  split at e
  · cases e
  · rename_i v h1 e1
    exact ⟨v, h1, e1, e⟩
theorem op_of {f : CV → CV → CH → Option (CV × CH)} {r : R2} (hf : VOp cc f r) {a b : CE} {σ : L2.St} {H : Hp} {Q : VK} (q : eOf cc (cBin f a b) σ H Q) : tOp r (eOf cc a) (eOf cc b) σ H Q := by
  obtain ⟨η, h, s, rs, hr, w, h', e, k⟩ := q
  obtain ⟨v, h1, u, h2, e1, e2, e3⟩ := cBin_some e
  refine ⟨η, h, s, rs, hr, v, h1, e1, fun η1 H1 x S1 R1 rx => ⟨η1, h1, s, RS.mono S1.le rs, R1, u, h2, e2, fun η2 H2 y S2 R2 ry => ?_⟩⟩
  exact hf R2 (RV.mono S2.le rx) ry e3 fun η3 H3 z S3 R3 rz => k η3 H3 z (Stp.trans (Stp.trans S1 R1 S2) R2 S3) R3 rz
theorem un_of {f : CV → CH → Option (CV × CH)} {r : V → Hp → VK → Prop} (hf : VUn cc f r) {a : CE} {σ : L2.St} {H : Hp} {Q : VK} (q : eOf cc (cUn f a) σ H Q) : tUn r (eOf cc a) σ H Q := by
  obtain ⟨η, h, s, rs, hr, w, h', e, k⟩ := q
  obtain ⟨v, h1, e1, e3⟩ := cUn_some e
  refine ⟨η, h, s, rs, hr, v, h1, e1, fun η1 H1 x S1 R1 rx => ?_⟩
  exact hf R1 rx e3 fun η3 H3 z S3 R3 rz => k η3 H3 z (Stp.trans S1 R1 S3) R3 rz

/-! ### values -/
theorem kn_same {η : Em} {h : CH} {H : Hp} {w : CV} {Q : VK} {y : V} (hr : HR cc η h H) (k : Kn cc η H w h Q) (r : RV η w y) : Q y H := k η H y (Stp.refl _ _) hr r
theorem kn_new {η : Em} {h : CH} {H : Hp} {o : CO} {O : HO} {Q : VK} (hr : HR cc η h H) (ro : RO η o O) (k : Kn cc η H (.ref h.length) (h.new (o)) Q) {p : Addr} (hp : H p = none) : Q (.ref p) (upd H p O) := by
  obtain ⟨a, b⟩ := hr.new ro hp
  exact k (η.push p) _ _ b a ⟨p, Em.push_new η p hr.len, rfl⟩
theorem kn_lst {η : Em} {h : CH} {H : Hp} {xs : List CV} {ys : List V} {Q : VK} (hr : HR cc η h H) (r : RVs η xs ys) (k : Kn cc η H (.ref h.length) (h.new (.lst xs)) Q) {p : Addr} (hp : H p = none) : Q (.ref p) (upd H p (.lst ys)) := kn_new hr (o := .lst xs) (O := .lst ys) ⟨ys, rfl, r⟩ k hp
theorem kn_tup {η : Em} {h : CH} {H : Hp} {xs : List CV} {ys : List V} {Q : VK} (hr : HR cc η h H) (r : RVs η xs ys) (k : Kn cc η H (.ref h.length) (h.new (.tup xs)) Q) {p : Addr} (hp : H p = none) : Q (.ref p) (upd H p (.tup ys)) := kn_new hr (o := .tup xs) (O := .tup ys) ⟨ys, rfl, r⟩ k hp
/-- equality of flat values, where their kinds are told apart -/
def ceq : CV → CV → Option Bool
  | .non, .non => some true
  | .bl a, .bl b => some (a == b)
  | .int a, .int b => some (a == b)
  | .str a, .str b => some (a == b)
  | .key a, .key b => some (a == b)
  | .non, .int _ => some false | .int _, .non => some false
  | .non, .bl _ => some false | .bl _, .non => some false
  | .non, .str _ => some false | .str _, .non => some false
  | .non, .key _ => some false | .key _, .non => some false
  | .int _, .str _ => some false | .str _, .int _ => some false
  | .bl _, .str _ => some false | .str _, .bl _ => some false
  | _, _ => none
theorem Tx_inj {a b : List Nat} : Tx a = Tx b ↔ a = b := by
  constructor
  · intro e
    have : a.toArray = b.toArray := congrArg Str.cps e
    simpa using this
  · intro e; rw [e]
theorem HR.key {η : Em} {h : CH} {H : Hp} (r : HR cc η h H) {i j : Nat} : η.k i = η.k j ↔ i = j := by
  constructor
  · intro e
    rcases Nat.lt_trichotomy i j with q | q | q
    · have := r.mo i j q; omega
    · exact q
    · have := r.mo j i q; omega
  · intro e; rw [e]
theorem HR.klt {η : Em} {h : CH} {H : Hp} (r : HR cc η h H) {i j : Nat} : η.k i < η.k j ↔ i < j := by
  constructor
  · intro e
    rcases Nat.lt_trichotomy i j with q | q | q
    · exact q
    · subst q; omega
    · have := r.mo j i q; omega
  · exact r.mo i j
theorem beq_comm' {α : Type} [BEq α] [LawfulBEq α] (p q : α) : (q == p) = (p == q) := by
  by_cases h : p = q
  · subst h; rfl
  · rw [beq_eq_false_iff_ne.mpr h, beq_eq_false_iff_ne.mpr (fun z => h z.symm)]
theorem Tx_beq (a b : List Nat) : (Tx a == Tx b) = (a == b) := by
  by_cases h : a = b
  · subst h; rw [beq_self_eq_true, beq_self_eq_true]
  · rw [beq_eq_false_iff_ne.mpr h, beq_eq_false_iff_ne.mpr (fun z => h (Tx_inj.mp z))]
theorem HR.kbeq {η : Em} {h : CH} {H : Hp} (r : HR cc η h H) {i j : Nat} : (η.k i == η.k j) = (i == j) := by
  by_cases h : i = j
  · subst h; rw [beq_self_eq_true, beq_self_eq_true]
  · rw [beq_eq_false_iff_ne.mpr h, beq_eq_false_iff_ne.mpr (fun z => h (r.key.mp z))]
/-- what ceq is worth -/
structure Ceq (x y : V) (b : Bool) : Prop where
  sc : scal x y = true
  de : decide (x = y) = b
  fx : flatV x = true
  fy : flatV y = true
  e1 : eqV x y = b
  e2 : eqV y x = b
theorem Ceq.int (a b : Int) : Ceq (.int a) (.int b) (a == b) := ⟨rfl, dec_int, rfl, rfl, rfl, beq_comm' a b⟩
theorem Ceq.bl (a b : Bool) : Ceq (.bl a) (.bl b) (a == b) := ⟨rfl, dec_bl, rfl, rfl, rfl, beq_comm' a b⟩
theorem Ceq.str (a b : Str) : Ceq (.str a) (.str b) (a == b) := ⟨rfl, dec_str, rfl, rfl, rfl, beq_comm' a b⟩
theorem ceq_of {η : Em} {h : CH} {H : Hp} (hr : HR cc η h H) {v u : CV} {x y : V} {b : Bool} (r1 : RV η v x) (r2 : RV η u y) (e : ceq v u = some b) : Ceq x y b := by
  cases v with
  | non =>
    cases (show x = .non from r1)
    cases u with
    | non => cases (show y = .non from r2); cases e; exact ⟨rfl, decide_eq_true rfl, rfl, rfl, rfl, rfl⟩
    | int j => cases (show y = .int j from r2); cases e; exact ⟨rfl, decide_eq_false (fun q => nomatch q), rfl, rfl, rfl, rfl⟩
    | bl j => cases (show y = .bl j from r2); cases e; exact ⟨rfl, decide_eq_false (fun q => nomatch q), rfl, rfl, rfl, rfl⟩
    | str j => cases (show y = .str (Tx j) from r2); cases e; exact ⟨rfl, decide_eq_false (fun q => nomatch q), rfl, rfl, rfl, rfl⟩
    | key j => cases (show y = .int (η.k j) from r2); cases e; exact ⟨rfl, decide_eq_false (fun q => nomatch q), rfl, rfl, rfl, rfl⟩
    | ref j => cases e
    | ty j => cases e
    | off j => cases e
    | opq => cases e
  | int i =>
    cases (show x = .int i from r1)
    cases u with
    | non => cases (show y = .non from r2); cases e; exact ⟨rfl, decide_eq_false (fun q => nomatch q), rfl, rfl, rfl, rfl⟩
    | int j => cases (show y = .int j from r2); cases e; exact Ceq.int i j
    | str j => cases (show y = .str (Tx j) from r2); cases e; exact ⟨rfl, decide_eq_false (fun q => nomatch q), rfl, rfl, rfl, rfl⟩
    | bl j => cases e
    | key j => cases e
    | ref j => cases e
    | ty j => cases e
    | off j => cases e
    | opq => cases e
  | bl i =>
    cases (show x = .bl i from r1)
    cases u with
    | non => cases (show y = .non from r2); cases e; exact ⟨rfl, decide_eq_false (fun q => nomatch q), rfl, rfl, rfl, rfl⟩
    | bl j => cases (show y = .bl j from r2); cases e; exact Ceq.bl i j
    | str j => cases (show y = .str (Tx j) from r2); cases e; exact ⟨rfl, decide_eq_false (fun q => nomatch q), rfl, rfl, rfl, rfl⟩
    | int j => cases e
    | key j => cases e
    | ref j => cases e
    | ty j => cases e
    | off j => cases e
    | opq => cases e
  | str i =>
    cases (show x = .str (Tx i) from r1)
    cases u with
    | non => cases (show y = .non from r2); cases e; exact ⟨rfl, decide_eq_false (fun q => nomatch q), rfl, rfl, rfl, rfl⟩
    | bl j => cases (show y = .bl j from r2); cases e; exact ⟨rfl, decide_eq_false (fun q => nomatch q), rfl, rfl, rfl, rfl⟩
    | int j => cases (show y = .int j from r2); cases e; exact ⟨rfl, decide_eq_false (fun q => nomatch q), rfl, rfl, rfl, rfl⟩
    | str j => cases (show y = .str (Tx j) from r2); cases e; rw [← Tx_beq]; exact Ceq.str _ _
    | key j => cases e
    | ref j => cases e
    | ty j => cases e
    | off j => cases e
    | opq => cases e
  | key i =>
    cases (show x = .int (η.k i) from r1)
    cases u with
    | non => cases (show y = .non from r2); cases e; exact ⟨rfl, decide_eq_false (fun q => nomatch q), rfl, rfl, rfl, rfl⟩
    | key j => cases (show y = .int (η.k j) from r2); cases e; rw [← hr.kbeq]; exact Ceq.int _ _
    | bl j => cases e
    | int j => cases e
    | str j => cases e
    | ref j => cases e
    | ty j => cases e
    | off j => cases e
    | opq => cases e
  | ref i => cases u <;> cases e
  | ty i => cases u <;> cases e
  | off i => cases u <;> cases e
  | opq => cases u <;> cases e
end CK

/-! CK: operators. -/
namespace CK
open PySem L2
variable {X : Cx} {cc : Nat → Addr}

/-! ### lists in step -/
section
variable {α β : Type} {F : α → β → Prop}
theorem Pd.app : ∀ {a c : List α} {b d : List β}, Paired F a b → Paired F c d → Paired F (a ++ c) (b ++ d)
  | _, _, _, _, .nil, s => s
  | _, _, _, _, .cons r t, s => .cons r (Pd.app t s)
theorem Pd.get : ∀ {a : List α} {b : List β} {i : Nat} {x : α}, Paired F a b → a[i]? = some x → ∃ y, b[i]? = some y ∧ F x y
  | _, _, _, _, .nil, e => by simp at e
  | _, _, 0, _, .cons r _, e => by simp at e; subst e; exact ⟨_, rfl, r⟩
  | _, _, i + 1, x, .cons _ t, e => by
    obtain ⟨u, h1, h2⟩ := Pd.get (i := i) (x := x) t (by simpa using e)
    exact ⟨u, by simpa using h1, h2⟩
theorem Pd.take : ∀ {a : List α} {b : List β} (n : Nat), Paired F a b → Paired F (a.take n) (b.take n)
  | _, _, 0, _ => .nil
  | _, _, _ + 1, .nil => .nil
  | _, _, n + 1, .cons r t => .cons r (Pd.take n t)
theorem Pd.drop : ∀ {a : List α} {b : List β} (n : Nat), Paired F a b → Paired F (a.drop n) (b.drop n)
  | _, _, 0, r => r
  | _, _, _ + 1, .nil => .nil
  | _, _, n + 1, .cons _ t => Pd.drop n t
theorem Pd.set {x : α} {y : β} (r : F x y) : ∀ {a : List α} {b : List β} (i : Nat), Paired F a b → Paired F (a.set i x) (b.set i y)
  | _, _, _, .nil => .nil
  | _, _, 0, .cons _ t => .cons r t
  | _, _, i + 1, .cons q t => .cons q (Pd.set r i t)
theorem Pd.erase : ∀ {a : List α} {b : List β} (i : Nat), Paired F a b → Paired F (a.eraseIdx i) (b.eraseIdx i)
  | _, _, _, .nil => .nil
  | _, _, 0, .cons _ t => t
  | _, _, i + 1, .cons q t => .cons q (Pd.erase i t)
theorem Pd.dropLast {a : List α} {b : List β} (h : Paired F a b) : Paired F a.dropLast b.dropLast := by
  rw [List.dropLast_eq_take, List.dropLast_eq_take, ← h.length]
  exact Pd.take _ h
theorem Pd.rep {a : List α} {b : List β} (h : Paired F a b) : ∀ k : Nat, Paired F (List.replicate k a).flatten (List.replicate k b).flatten
  | 0 => .nil
  | k + 1 => by
    rw [List.replicate_succ, List.replicate_succ, List.flatten_cons, List.flatten_cons]
    exact Pd.app h (Pd.rep h k)
end
theorem Tx_len (l : List Nat) : (Tx l).length = l.length := by simp [Tx, Str.length]
theorem Tx_app (a b : List Nat) : Tx a ++ Tx b = Tx (a ++ b) := by
  show Str.mk (a.toArray ++ b.toArray) = Str.mk (a ++ b).toArray
  simp
theorem Tx_cps (l : List Nat) : (Tx l).cps.toList = l := by simp [Tx]
theorem Tx_one (c : Nat) : Tx [c] = ⟨#[c]⟩ := rfl
theorem small {n : Nat} (h : n ≤ 4000) : n ≤ sizeLine := by rw [sizeLine_eq]; omega

/-! ### arithmetic -/
def fAdd : CV → CV → CH → Option (CV × CH)
  | .int i, .int j, h => some (.int (i + j), h)
  | .str x, .str y, h => if x.length + y.length ≤ 4000 then some (.str (x ++ y), h) else none
  | .ref a, .ref b, h => match h.get a, h.get b with
    | some (.lst xs), some (.lst ys) => if xs.length + ys.length ≤ 4000 then some (.ref h.length, h.new (.lst (xs ++ ys))) else none
    | _, _ => none
  | _, _, _ => none
theorem vAdd : VOp cc fAdd (fun x y H Q => rI0 (fun i j => .int (i + j)) x y H Q ∨ ((∃ i j, x = .str i ∧ y = .str j ∧ i.length + j.length ≤ sizeLine ∧ Q (.str (i ++ j)) H) ∨ rCat x y H Q)) := by
  intro η h H v u x y w h' Q hr r1 r2 e k
  unfold fAdd at e
  split at e
  · cases e
    exact .inl ⟨_, _, r1, r2, kn_same hr k rfl⟩
  · split at e
    · rename_i hz
      cases e
      refine .inr (.inl ⟨_, _, r1, r2, by rw [Tx_len, Tx_len]; exact small hz, ?_⟩)
      rw [Tx_app]
      exact kn_same hr k rfl
    · cases e
  · obtain ⟨a, ea, rfl⟩ := r1
    obtain ⟨b, eb, rfl⟩ := r2
    split at e
    · rename_i xs ys e1 e2
      split at e
      · rename_i hz
        cases e
        obtain ⟨xs', q1, p1⟩ := hr.lst e1 ea
        obtain ⟨ys', q2, p2⟩ := hr.lst e2 eb
        refine .inr (.inr ⟨a, b, xs', ys', rfl, rfl, q1, q2, by rw [← p1.length, ← p2.length]; exact small hz, fun p hp => ?_⟩)
        exact kn_lst hr (Pd.app p1 p2) k hp
      · cases e
    · cases e
  · cases e
def fInt2 (g : Int → Int → Int) : CV → CV → CH → Option (CV × CH)
  | .int i, .int j, h => some (.int (g i j), h)
  | _, _, _ => none
theorem vInt2 (g : Int → Int → Int) : VOp cc (fInt2 g) (rI0 fun i j => .int (g i j)) := by
  intro η h H v u x y w h' Q hr r1 r2 e k
  unfold fInt2 at e
  split at e
  · cases e
    exact ⟨_, _, r1, r2, kn_same hr k rfl⟩
  · cases e
def fIntC (C : Int → Int → Bool) (g : Int → Int → Int) : CV → CV → CH → Option (CV × CH)
  | .int i, .int j, h => if C i j then some (.int (g i j), h) else none
  | _, _, _ => none
theorem vIntC {C : Int → Int → Bool} {g : Int → Int → Int} {D : Int → Int → Prop} (hD : ∀ i j, C i j = true → D i j) : VOp cc (fIntC C g) (rI D fun i j => .int (g i j)) := by
  intro η h H v u x y w h' Q hr r1 r2 e k
  unfold fIntC at e
  split at e
  · split at e
    · rename_i hc
      cases e
      exact ⟨_, _, r1, r2, hD _ _ hc, kn_same hr k rfl⟩
    · cases e
  · cases e
def cDivOk (i j : Int) : Bool := decide (0 < j) && decide (j < 1073741824)
def cModOk (i j : Int) : Bool := decide (0 < j)
def cMulOk (i j : Int) : Bool := (decide (-1000000000000 < i) && decide (i < 1000000000000)) || (decide (-1000000000000 < j) && decide (j < 1000000000000))
def cPowOk (i j : Int) : Bool := decide (0 ≤ j) && decide (j ≤ 1000) && decide (i.natAbs < 1000000)
theorem divOk (i j : Int) (h : cDivOk i j = true) : CDiv i j := by
  simp only [cDivOk, Bool.and_eq_true, decide_eq_true_eq] at h; exact h
theorem modOk (i j : Int) (h : cModOk i j = true) : 0 < j := of_decide_eq_true h
theorem mulOk (i j : Int) (h : cMulOk i j = true) : CMul i j := by
  simp only [cMulOk, Bool.and_eq_true, Bool.or_eq_true, decide_eq_true_eq] at h
  unfold CMul
  rcases h with h | h
  · exact .inl ⟨by omega, by omega⟩
  · exact .inr ⟨by omega, by omega⟩
theorem powOk (i j : Int) (h : cPowOk i j = true) : CPow i j := by
  simp only [cPowOk, Bool.and_eq_true, decide_eq_true_eq] at h
  unfold CPow
  omega
def fMul : CV → CV → CH → Option (CV × CH)
  | .int i, .int j, h => if cMulOk i j then some (.int (i * j), h) else none
  | .ref a, .int k, h => match h.get a with
    | some (.lst xs) => if decide (0 ≤ k) && decide (k ≤ 1000) && decide (xs.length * k.toNat ≤ 4000) then some (.ref h.length, h.new (.lst (List.replicate k.toNat xs).flatten)) else none
    | _ => none
  | _, _, _ => none
theorem vMul : VOp cc fMul (fun x y H Q => rI CMul (fun i j => .int (i * j)) x y H Q ∨ rRep x y H Q) := by
  intro η h H v u x y w h' Q hr r1 r2 e k
  unfold fMul at e
  split at e
  · split at e
    · rename_i hc
      cases e
      exact .inl ⟨_, _, r1, r2, mulOk _ _ hc, kn_same hr k rfl⟩
    · cases e
  · obtain ⟨a, ea, rfl⟩ := r1
    split at e
    · rename_i kk _ xs e1
      split at e
      · rename_i hc
        simp only [Bool.and_eq_true, decide_eq_true_eq] at hc
        cases e
        obtain ⟨xs', q1, p1⟩ := hr.lst e1 ea
        refine .inr ⟨a, kk, xs', rfl, r2, q1, by omega, by omega, by rw [← p1.length]; exact small hc.2, fun p hp => ?_⟩
        exact kn_lst hr (Pd.rep p1 _) k hp
      · cases e
    · cases e
  · cases e
def fNeg : CV → CH → Option (CV × CH)
  | .int i, h => some (.int (-i), h)
  | _, _ => none
theorem vNeg : VUn cc fNeg (rU fun i => .int (-i)) := by
  intro η h H v x w h' Q hr r1 e k
  unfold fNeg at e
  split at e
  · cases e; exact ⟨_, r1, kn_same hr k rfl⟩
  · cases e
section
variable {a b : Expr} {ca cb : CE} {pos : Pos}
theorem ke_add (ha : PE X a (eOf cc ca)) (hb : PE X b (eOf cc cb)) : PE X (.BinOp a .Add b pos) (eOf cc (cBin fAdd ca cb)) := pe_imp (pe_op (op_add.or (op_add_str.or op_cat)) ha hb) fun _ _ _ q => op_of vAdd q
theorem ke_sub (ha : PE X a (eOf cc ca)) (hb : PE X b (eOf cc cb)) : PE X (.BinOp a .Sub b pos) (eOf cc (cBin (fInt2 fun i j => i - j) ca cb)) := pe_imp (pe_op op_sub ha hb) fun _ _ _ q => op_of (vInt2 _) q
theorem ke_mul (ha : PE X a (eOf cc ca)) (hb : PE X b (eOf cc cb)) : PE X (.BinOp a .Mult b pos) (eOf cc (cBin fMul ca cb)) := pe_imp (pe_op (op_mul.or op_rep) ha hb) fun _ _ _ q => op_of vMul q
theorem ke_div (ha : PE X a (eOf cc ca)) (hb : PE X b (eOf cc cb)) : PE X (.BinOp a .FloorDiv b pos) (eOf cc (cBin (fIntC cDivOk fun i j => i / j) ca cb)) := pe_imp (pe_op op_fdiv ha hb) fun _ _ _ q => op_of (vIntC divOk) q
theorem ke_mod (ha : PE X a (eOf cc ca)) (hb : PE X b (eOf cc cb)) : PE X (.BinOp a .Mod b pos) (eOf cc (cBin (fIntC cModOk fun i j => i % j) ca cb)) := pe_imp (pe_op op_mod ha hb) fun _ _ _ q => op_of (vIntC modOk) q
theorem ke_pow (ha : PE X a (eOf cc ca)) (hb : PE X b (eOf cc cb)) : PE X (.BinOp a .Pow b pos) (eOf cc (cBin (fIntC cPowOk fun i j => i ^ j.toNat) ca cb)) := pe_imp (pe_op op_pow ha hb) fun _ _ _ q => op_of (vIntC powOk) q
theorem ke_neg (ha : PE X a (eOf cc ca)) : PE X (.UnaryOp .USub a pos) (eOf cc (cUn fNeg ca)) := pe_imp (pe_un un_neg ha) fun _ _ _ q => un_of vNeg q
end

/-! ### comparisons -/
/-- the order of ints, of keys -/
def fOrd (p : Int → Int → Bool) (q : Nat → Nat → Bool) : CV → CV → CH → Option (CV × CH)
  | .int i, .int j, h => some (.bl (p i j), h)
  | .key i, .key j, h => some (.bl (q i j), h)
  | _, _, _ => none
theorem vOrd {p : Int → Int → Bool} {q : Nat → Nat → Bool} (hq : ∀ (κ : Nat → Int), (∀ i j, κ i < κ j ↔ i < j) → ∀ i j, p (κ i) (κ j) = q i j) : VOp cc (fOrd p q) (rI0 fun i j => .bl (p i j)) := by
  intro η h H v u x y w h' Q hr r1 r2 e k
  unfold fOrd at e
  split at e
  · cases e; exact ⟨_, _, r1, r2, kn_same hr k rfl⟩
  · cases e
    refine ⟨_, _, r1, r2, ?_⟩
    show Q (V.bl (p _ _)) H
    rw [hq η.k (fun i j => hr.klt)]
    exact kn_same hr k rfl
  · cases e
abbrev fLt := fOrd (fun i j => decide (i < j)) (fun i j => decide (i < j))
abbrev fLe := fOrd (fun i j => decide (i ≤ j)) (fun i j => decide (i ≤ j))
abbrev fGt := fOrd (fun i j => decide (j < i)) (fun i j => decide (j < i))
abbrev fGe := fOrd (fun i j => decide (j ≤ i)) (fun i j => decide (j ≤ i))
theorem dec_iff {p q : Prop} [Decidable p] [Decidable q] (h : p ↔ q) : decide p = decide q := by
  by_cases c : p
  · rw [decide_eq_true c, decide_eq_true (h.mp c)]
  · rw [decide_eq_false c, decide_eq_false fun z => c (h.mpr z)]
theorem vLt : VOp cc fLt (rI0 fun i j => .bl (decide (i < j))) := vOrd fun κ m i j => dec_iff (m i j)
theorem vLe : VOp cc fLe (rI0 fun i j => .bl (decide (i ≤ j))) := vOrd fun κ m i j => dec_iff (by have := m j i; omega)
theorem vGt : VOp cc fGt (rI0 fun i j => .bl (decide (j < i))) := vOrd fun κ m i j => dec_iff (m j i)
theorem vGe : VOp cc fGe (rI0 fun i j => .bl (decide (j ≤ i))) := vOrd fun κ m i j => dec_iff (by have := m i j; omega)
def isNon : CV → Bool
  | .non => true
  | _ => false
def fIsN : CV → CV → CH → Option (CV × CH)
  | v, .non, h => some (.bl (isNon v), h)
  | _, _, _ => none
def fNotN : CV → CV → CH → Option (CV × CH)
  | v, .non, h => some (.bl (!isNon v), h)
  | _, _, _ => none
theorem non_iff {η : Em} {v : CV} {x : V} (r : RV η v x) : decide (x = .non) = isNon v := by
  cases v with
  | non => cases (show x = .non from r); rfl
  | bl b => cases (show x = .bl b from r); rfl
  | int b => cases (show x = .int b from r); rfl
  | str b => cases (show x = .str (Tx b) from r); rfl
  | ref b => obtain ⟨a, _, rfl⟩ := r; rfl
  | ty b => cases (show x = .ty b from r); rfl
  | off b => cases (show x = .int (η.t + b) from r); rfl
  | opq => cases (show x = .ref (η.k 0).toNat from r); rfl
  | key b => cases (show x = .int (η.k b) from r); rfl
theorem vIsN : VOp cc fIsN (fun x y H Q => y = .non ∧ Q (.bl (decide (x = .non))) H) := by
  intro η h H v u x y w h' Q hr r1 r2 e k
  unfold fIsN at e
  split at e
  · cases e
    refine ⟨r2, ?_⟩
    rw [non_iff r1]
    exact kn_same hr k rfl
  · cases e
theorem vNotN : VOp cc fNotN (fun x y H Q => y = .non ∧ Q (.bl (!decide (x = .non))) H) := by
  intro η h H v u x y w h' Q hr r1 r2 e k
  unfold fNotN at e
  split at e
  · cases e
    refine ⟨r2, ?_⟩
    rw [non_iff r1]
    exact kn_same hr k rfl
  · cases e
def fEq : CV → CV → CH → Option (CV × CH) := fun v u h => match ceq v u with | some b => some (.bl b, h) | none => none
def fNe : CV → CV → CH → Option (CV × CH) := fun v u h => match ceq v u with | some b => some (.bl (!b), h) | none => none
theorem vEq : VOp cc fEq rEq := by
  intro η h H v u x y w h' Q hr r1 r2 e k
  unfold fEq at e
  split at e
  · rename_i b eb
    cases e
    have q := ceq_of hr r1 r2 eb
    exact ⟨q.sc, by rw [q.de]; exact kn_same hr k rfl⟩
  · cases e
theorem vNe : VOp cc fNe rNe := by
  intro η h H v u x y w h' Q hr r1 r2 e k
  unfold fNe at e
  split at e
  · rename_i b eb
    cases e
    have q := ceq_of hr r1 r2 eb
    exact ⟨q.sc, by rw [q.de]; exact kn_same hr k rfl⟩
  · cases e
/-- x in xs, kinds told apart at each item -/
def cIn (x : CV) : List CV → Option Bool
  | [] => some false
  | y :: ys => match ceq x y with
    | none => none
    | some b => match cIn x ys with
      | none => none
      | some c => some (b || c)
theorem cIn_of {η : Em} {h : CH} {H : Hp} (hr : HR cc η h H) {v : CV} {x : V} (r : RV η v x) : ∀ {xs : List CV} {ys : List V} {b : Bool}, RVs η xs ys → cIn v xs = some b → inV x ys = b ∧ ys.all flatV = true ∧ (xs ≠ [] → flatV x = true)
  | _, _, b, .nil, e => by
    cases e
    exact ⟨rfl, rfl, fun z => absurd rfl z⟩
  | a :: as, y :: ys, b, .cons r1 rs, e => by
    unfold cIn at e
    split at e
    · cases e
    · rename_i c ec
      split at e
      · cases e
      · rename_i d ed
        cases e
        have q := ceq_of hr r r1 ec
        obtain ⟨h1, h2, _⟩ := cIn_of hr r rs ed
        refine ⟨?_, ?_, fun _ => q.fx⟩
        · show (eqV y x || inV x ys) = _
          rw [q.e2, h1]
        · rw [List.all_cons, q.fy, h2]; rfl
def isFlat : CV → Bool
  | .non => true | .bl _ => true | .int _ => true | .str _ => true | .key _ => true
  | _ => false
theorem flat_of {η : Em} {v : CV} {x : V} (r : RV η v x) (f : isFlat v = true) : flatV x = true := by
  cases v with
  | non => cases (show x = .non from r); rfl
  | bl b => cases (show x = .bl b from r); rfl
  | int b => cases (show x = .int b from r); rfl
  | str b => cases (show x = .str (Tx b) from r); rfl
  | ref b => cases f
  | ty b => cases f
  | off b => cases f
  | opq => cases f
  | key b => cases (show x = .int (η.k b) from r); rfl
def fIn (neg : Bool) : CV → CV → CH → Option (CV × CH)
  | v, .ref a, h => if isFlat v then (match h.get a with
    | some (.lst xs) => (match cIn v xs with | some b => some (.bl (if neg then !b else b), h) | none => none)
    | some (.tup xs) => (match cIn v xs with | some b => some (.bl (if neg then !b else b), h) | none => none)
    | _ => none) else none
  | _, _, _ => none
theorem vIn {K : PySem.W.Frag} (neg : Bool) : VOp cc (fIn neg) (rIn K neg) := by
  intro η h H v u x y w h' Q hr r1 r2 e k
  unfold fIn at e
  split at e
  · obtain ⟨a, ea, rfl⟩ := r2
    split at e
    · rename_i hf
      split at e
      · rename_i xs e1
        split at e
        · rename_i b eb
          cases e
          obtain ⟨ys, q1, p1⟩ := hr.lst e1 ea
          obtain ⟨h1, h2, _⟩ := cIn_of hr r1 p1 eb
          refine ⟨a, ys, rfl, .inl (SqL.of q1), flat_of r1 hf, h2, ?_⟩
          rw [h1]
          exact kn_same hr k rfl
        · cases e
      · rename_i xs e1
        split at e
        · rename_i b eb
          cases e
          obtain ⟨ys, q1, p1⟩ := hr.tup e1 ea
          obtain ⟨h1, h2, _⟩ := cIn_of hr r1 p1 eb
          refine ⟨a, ys, rfl, .inr (SqT.of q1), flat_of r1 hf, h2, ?_⟩
          rw [h1]
          exact kn_same hr k rfl
        · cases e
      · cases e
    · cases e
  · cases e
section
variable {a b : Expr} {ca cb : CE} {pos : Pos}
theorem ke_eq (ha : PE X a (eOf cc ca)) (hb : PE X b (eOf cc cb)) : PE X (.Compare a [.Eq] [b] pos) (eOf cc (cBin fEq ca cb)) := pe_imp (pe_cmpR op_eq ha hb (nomark _)) fun _ _ _ q => op_of vEq q
theorem ke_ne (ha : PE X a (eOf cc ca)) (hb : PE X b (eOf cc cb)) : PE X (.Compare a [.NotEq] [b] pos) (eOf cc (cBin fNe ca cb)) := pe_imp (pe_cmpR op_ne ha hb (nomark _)) fun _ _ _ q => op_of vNe q
theorem ke_lt (ha : PE X a (eOf cc ca)) (hb : PE X b (eOf cc cb)) : PE X (.Compare a [.Lt] [b] pos) (eOf cc (cBin fLt ca cb)) := pe_imp (pe_cmpR op_lt ha hb (nomark _)) fun _ _ _ q => op_of vLt q
theorem ke_le (ha : PE X a (eOf cc ca)) (hb : PE X b (eOf cc cb)) : PE X (.Compare a [.LtE] [b] pos) (eOf cc (cBin fLe ca cb)) := pe_imp (pe_cmpR op_le ha hb (nomark _)) fun _ _ _ q => op_of vLe q
theorem ke_gt (ha : PE X a (eOf cc ca)) (hb : PE X b (eOf cc cb)) : PE X (.Compare a [.Gt] [b] pos) (eOf cc (cBin fGt ca cb)) := pe_imp (pe_cmpR op_gt ha hb (nomark _)) fun _ _ _ q => op_of vGt q
theorem ke_ge (ha : PE X a (eOf cc ca)) (hb : PE X b (eOf cc cb)) : PE X (.Compare a [.GtE] [b] pos) (eOf cc (cBin fGe ca cb)) := pe_imp (pe_cmpR op_ge ha hb (nomark _)) fun _ _ _ q => op_of vGe q
theorem ke_isN (ha : PE X a (eOf cc ca)) (hb : PE X b (eOf cc cb)) : PE X (.Compare a [.Is] [b] pos) (eOf cc (cBin fIsN ca cb)) := pe_imp (pe_cmpR op_isN ha hb (nomark _)) fun _ _ _ q => op_of vIsN q
theorem ke_notN (ha : PE X a (eOf cc ca)) (hb : PE X b (eOf cc cb)) : PE X (.Compare a [.IsNot] [b] pos) (eOf cc (cBin fNotN ca cb)) := pe_imp (pe_cmpR op_notN ha hb (nomark _)) fun _ _ _ q => op_of vNotN q
theorem ke_in (ha : PE X a (eOf cc ca)) (hb : PE X b (eOf cc cb)) (hm : behindInMarks .In b = false := by with_unfolding_all rfl) : PE X (.Compare a [.In] [b] pos) (eOf cc (cBin (fIn false) ca cb)) := pe_imp (pe_cmpR op_in_seq ha hb hm) fun _ _ _ q => op_of (vIn false) q
theorem ke_notIn (ha : PE X a (eOf cc ca)) (hb : PE X b (eOf cc cb)) (hm : behindInMarks .NotIn b = false := by with_unfolding_all rfl) : PE X (.Compare a [.NotIn] [b] pos) (eOf cc (cBin (fIn true) ca cb)) := pe_imp (pe_cmpR op_notIn_seq ha hb hm) fun _ _ _ q => op_of (vIn true) q
end
/-- x not in a tuple that the module has written -/
def fNotInC (xs : List CV) : CV → CH → Option (CV × CH) := fun v h => if isFlat v then (match cIn v xs with | some b => some (.bl (!b), h) | none => none) else none
theorem ke_notInK {e : Expr} {ce : CE} {x : Str} {xs : List CV} {ys : List V} {u : Value} {aT : Addr} {p pos : Pos} (he : PE X e (eOf cc ce)) (hg : Gl X x) (hm : X.mg x = some (.ref aT)) (hT : ∀ H, SqT X.K H aT ys) (r : ∀ η, RVs η xs ys)
    (hd : (x == ("__debug__" : Str)) = false := by decide) (hmk : behindInMarks .NotIn (.Name x p) = false := by with_unfolding_all rfl) : PE X (.Compare e [.NotIn] [.Name x p] pos) (eOf cc (cUn (fNotInC xs) ce)) := by
  refine pe_imp (pe_cmpR op_notIn_seq he (pe_glob (v := .ref aT) hg hm rfl hd) hmk) fun σ H Q q => ?_
  refine un_of (r := fun x H1 Q' => rIn X.K true x (.ref aT) H1 Q') (f := fNotInC xs) ?_ q
  intro η h H v x w h' Q' hr r1 e k
  unfold fNotInC at e
  split at e
  · rename_i hf
    split at e
    · rename_i b eb
      cases e
      obtain ⟨h1, h2, _⟩ := cIn_of hr r1 (r η) eb
      refine ⟨aT, ys, rfl, .inr (hT _), flat_of r1 hf, h2, ?_⟩
      rw [h1]
      exact kn_same hr k rfl
    · cases e
  · cases e
end CK

/-! CK: subscripts, displays, tests, calls. -/
namespace CK
open PySem L2
variable {X : Cx} {cc : Nat → Addr}

/-! ### subscripts -/
def fIx : CV → CV → CH → Option (CV × CH)
  | .ref a, .int i, h => match h.get a with
    | some (.lst xs) => (match atI xs i with | some v => some (v, h) | none => none)
    | some (.tup xs) => (match atI xs i with | some v => some (v, h) | none => none)
    | _ => none
  | .str x, .int i, h => if x.length ≤ 4000 then (match atI x i with | some c => some (.str [c], h) | none => none) else none
  | _, _, _ => none
theorem atI_pd {α β : Type} {F : α → β → Prop} {xs : List α} {ys : List β} (p : Paired F xs ys) {i : Int} {v : α} (e : atI xs i = some v) : ∃ y, atI ys i = some y ∧ F v y := by
  unfold atI at e ⊢
  rw [← p.length]
  cases q : ixN xs.length i with
  | none => rw [q] at e; cases e
  | some j =>
    rw [q] at e
    exact Pd.get p e
theorem vIx {K : PySem.W.Frag} : VOp cc fIx (rIx K) := by
  intro η h H v u x y w h' Q hr r1 r2 e k
  unfold fIx at e
  split at e
  · obtain ⟨a, ea, rfl⟩ := r1
    split at e
    · rename_i i _ xs e1
      split at e
      · rename_i v ev
        cases e
        obtain ⟨ys, q1, p1⟩ := hr.lst e1 ea
        obtain ⟨z, ez, rz⟩ := atI_pd p1 ev
        exact .inl ⟨a, ys, i, z, rfl, r2, SqL.of q1, ez, kn_same hr k rz⟩
      · cases e
    · rename_i i _ xs e1
      split at e
      · rename_i v ev
        cases e
        obtain ⟨ys, q1, p1⟩ := hr.tup e1 ea
        obtain ⟨z, ez, rz⟩ := atI_pd p1 ev
        exact .inr (.inl ⟨a, ys, i, z, rfl, r2, SqT.of q1, ez, kn_same hr k rz⟩)
      · cases e
    · cases e
  · split at e
    · rename_i hz
      split at e
      · rename_i c ec
        cases e
        refine .inr (.inr ⟨_, _, c, r1, r2, by rw [Tx_len]; exact small hz, by rw [Tx_cps]; exact ec, ?_⟩)
        rw [← Tx_one]
        exact kn_same hr k rfl
      · cases e
    · cases e
  · cases e
/-- the parts of a slice -/
abbrev CPt := CS → CH → Option (Option Int × CH)
def pOf (cc : Nat → Addr) (c : CPt) : TO := fun σ H Q => ∃ η h s, RS η s σ ∧ HR cc η h H ∧ ∃ v h', c s h = some (v, h') ∧ ∀ η' H', Stp η H η' H' → HR cc η' h' H' → Q v H'
def pNo : CPt := fun _ h => some (none, h)
def pYes (c : CE) : CPt := fun s h => match c s h with | some (.int i, h1) => some (some i, h1) | _ => none
theorem po_imp {o : Option Expr} {t t' : TO} (h : PO X o t) (i : ∀ σ H Q, t' σ H Q → t σ H Q) : PO X o t' := ⟨fun pins s σ H Q I q => h.run pins s σ H Q I (i _ _ _ q)⟩
theorem kp_no : PO X none (pOf cc pNo) := po_imp po_none fun σ H Q q => by
  obtain ⟨η, h, s, rs, hr, v, h', e, k⟩ := q
  cases e
  exact k η H (Stp.refl _ _) hr
theorem kp_yes {e : Expr} {c : CE} (he : PE X e (eOf cc c)) : PO X (some e) (pOf cc (pYes c)) := po_imp (po_some he) fun σ H Q q => by
  obtain ⟨η, h, s, rs, hr, v, h', e, k⟩ := q
  unfold pYes at e
  split at e
  · rename_i i h1 e1
    cases e
    exact ⟨η, h, s, rs, hr, _, _, e1, fun η' H' x S1 R1 rx => ⟨i, rx, k η' H' S1 R1⟩⟩
  · cases e
def cutC (xs : List CV) (lo hi : Option Int) : List CV := (xs.drop (HT.sIx xs.length 0 lo)).take (HT.sIx xs.length xs.length hi - HT.sIx xs.length 0 lo)
theorem cut_pd {η : Em} {xs : List CV} {ys : List V} (p : RVs η xs ys) (lo hi : Option Int) : RVs η (cutC xs lo hi) (cutV ys lo hi) := by
  unfold cutC cutV
  rw [← p.length]
  exact Pd.take _ (Pd.drop _ p)
def cSl (a : CE) (lo hi : CPt) : CE := fun s h =>
  match a s h with
  | some (.ref n, h1) => (match lo s h1 with
    | some (l, h2) => (match hi s h2 with
      | some (u, h3) => (match h3.get n with
        | some (.lst xs) => some (.ref h3.length, h3.new (.lst (cutC xs l u)))
        | _ => none)
      | none => none)
    | none => none)
  | _ => none
theorem ke_slice {e : Expr} {lo hi : Option Expr} {ca : CE} {cl cu : CPt} {p2 pos : Pos} (he : PE X e (eOf cc ca)) (hl : PO X lo (pOf cc cl)) (hu : PO X hi (pOf cc cu)) : PE X (.Subscript e (.Slice lo hi none p2) pos) (eOf cc (cSl ca cl cu)) := by
  refine pe_imp (pe_slice sl_list he hl hu) fun σ H Q q => ?_
  obtain ⟨η, h, s, rs, hr, w, h', e, k⟩ := q
  unfold cSl at e
  split at e
  · rename_i n h1 e1
    split at e
    · rename_i l h2 e2
      split at e
      · rename_i u h3 e3
        split at e
        · rename_i xs e4
          cases e
          refine ⟨η, h, s, rs, hr, _, _, e1, fun η1 H1 x S1 R1 rx => ⟨η1, h1, s, RS.mono S1.le rs, R1, _, _, e2, fun η2 H2 S2 R2 => ⟨η2, h2, s, RS.mono S2.le (RS.mono S1.le rs), R2, _, _, e3, fun η3 H3 S3 R3 => ?_⟩⟩⟩
          obtain ⟨a, ea, rfl⟩ := RV.mono S3.le (RV.mono S2.le rx)
          obtain ⟨ys, q1, p1⟩ := R3.lst e4 ea
          refine ⟨a, ys, rfl, SqL.of q1, fun p hp => ?_⟩
          exact kn_lst R3 (cut_pd p1 l u) (fun η4 H4 z S4 R4 rz => k η4 H4 z (Stp.trans (Stp.trans (Stp.trans S1 R1 S2) R2 S3) R3 S4) R4 rz) hp
        · cases e
      · cases e
    · cases e
  · cases e

/-! ### arguments, displays -/
def cNil : CA := fun _ h => some ([], h)
def cCons (a : CE) (r : CA) : CA := fun s h => match a s h with
  | none => none
  | some (v, h1) => match r s h1 with
    | none => none
    | some (vs, h2) => some (v :: vs, h2)
theorem ka_nil : PA X [] (aOf cc cNil) := pa_imp pa_nil fun σ H Q q => by
  obtain ⟨η, h, s, rs, hr, v, h', e, k⟩ := q
  cases e
  exact k η H [] (Stp.refl _ _) hr .nil
theorem ka_cons {e : Expr} {es : List Expr} {ce : CE} {cr : CA} (he : PE X e (eOf cc ce)) (hr : PA X es (aOf cc cr)) (hs : starEach (e :: es) X.env = (false, eval e X.env) :: starEach es X.env := by rfl) : PA X (e :: es) (aOf cc (cCons ce cr)) :=
  pa_imp (pa_cons he hr hs) fun σ H Q q => by
    obtain ⟨η, h, s, rs, hr, v, h', e, k⟩ := q
    unfold cCons at e
    split at e
    · cases e
    · rename_i v1 h1 e1
      split at e
      · cases e
      · rename_i vs h2 e2
        cases e
        exact ⟨η, h, s, rs, hr, _, _, e1, fun η1 H1 x S1 R1 rx => ⟨η1, h1, s, RS.mono S1.le rs, R1, _, _, e2, fun η2 H2 xs S2 R2 rxs => k η2 H2 _ (Stp.trans S1 R1 S2) R2 (.cons (RV.mono S2.le rx) rxs)⟩⟩
def cLst (a : CA) : CE := fun s h => match a s h with
  | some (vs, h1) => if vs.length ≤ 4000 then some (.ref h1.length, h1.new (.lst vs)) else none
  | none => none
def cTup (a : CA) : CE := fun s h => match a s h with
  | some (vs, h1) => if vs.length ≤ 4000 then some (.ref h1.length, h1.new (.tup vs)) else none
  | none => none
theorem ke_lst {es : List Expr} {c : CA} {pos : Pos} (ha : PA X es (aOf cc c)) : PE X (.List es pos) (eOf cc (cLst c)) := pe_imp (pe_lst ha) fun σ H Q q => by
  obtain ⟨η, h, s, rs, hr, v, h', e, k⟩ := q
  unfold cLst at e
  split at e
  · rename_i vs h1 e1
    split at e
    · rename_i hz
      cases e
      refine ⟨η, h, s, rs, hr, _, _, e1, fun η1 H1 xs S1 R1 rx => ⟨by rw [← rx.length]; exact small hz, fun p hp => ?_⟩⟩
      exact kn_lst R1 rx (fun η4 H4 z S4 R4 rz => k η4 H4 z (Stp.trans S1 R1 S4) R4 rz) hp
    · cases e
  · cases e
theorem ke_tup {es : List Expr} {c : CA} {x1} {pos : Pos} (ha : PA X es (aOf cc c)) : PE X (.Tuple es x1 pos) (eOf cc (cTup c)) := pe_imp (pe_tup ha) fun σ H Q q => by
  obtain ⟨η, h, s, rs, hr, v, h', e, k⟩ := q
  unfold cTup at e
  split at e
  · rename_i vs h1 e1
    split at e
    · rename_i hz
      cases e
      refine ⟨η, h, s, rs, hr, _, _, e1, fun η1 H1 xs S1 R1 rx => ⟨by rw [← rx.length]; exact small hz, fun p hp => ?_⟩⟩
      exact kn_tup R1 rx (fun η4 H4 z S4 R4 rz => k η4 H4 z (Stp.trans S1 R1 S4) R4 rz) hp
    · cases e
  · cases e
theorem ke_ix {a b : Expr} {ca cb : CE} {pos : Pos} (ha : PE X a (eOf cc ca)) (hb : PE X b (eOf cc cb)) (hs : PlainIx b := by exact fun _ _ => rfl) : PE X (.Subscript a b pos) (eOf cc (cBin fIx ca cb)) := pe_imp (pe_ix ix_seq ha hb hs) fun _ _ _ q => op_of vIx q

/-! ### tests -/
/-- a value's truth -/
def tru : CV → CH → Option Bool
  | .non, _ => some false
  | .bl b, _ => some b
  | .int i, _ => some (i != 0)
  | .ref a, h => match h.get a with
    | some (.lst xs) => some (!xs.isEmpty)
    | some (.tup xs) => some (!xs.isEmpty)
    | _ => none
  | _, _ => none
def cTru (c : CE) : CT := fun s h => match c s h with
  | none => none
  | some (v, h1) => match tru v h1 with
    | none => none
    | some b => some (b, h1)
theorem isEmpty_pd {α β : Type} {F : α → β → Prop} {xs : List α} {ys : List β} (p : Paired F xs ys) : (!xs.isEmpty) = !ys.isEmpty := by
  cases p <;> rfl
theorem tru_of {K : PySem.W.Frag} {η : Em} {h : CH} {H : Hp} (hr : HR cc η h H) {v : CV} {x : V} {b : Bool} (r : RV η v x) (e : tru v h = some b) : TruV K x H b := by
  cases v with
  | non => cases (show x = .non from r); cases e; rfl
  | bl i => cases (show x = .bl i from r); cases e; rfl
  | int i => cases (show x = .int i from r); cases e; rfl
  | str i => cases e
  | ty i => cases e
  | key i => cases e
  | off i => cases e
  | opq => cases e
  | ref n =>
    obtain ⟨a, ea, rfl⟩ := r
    change (match h.get n with | some (.lst xs) => some (!xs.isEmpty) | some (.tup xs) => some (!xs.isEmpty) | _ => none) = some b at e
    split at e
    · rename_i xs e1
      cases e
      obtain ⟨ys, q1, p1⟩ := hr.lst e1 ea
      exact .inl ⟨ys, SqL.of q1, isEmpty_pd p1⟩
    · rename_i xs e1
      cases e
      obtain ⟨ys, q1, p1⟩ := hr.tup e1 ea
      exact .inr (.inl ⟨ys, SqT.of q1, isEmpty_pd p1⟩)
    · cases e
/-- a name, a call, a subscript, a field as a test -/
theorem kt_tru {a : Expr} {c : CE} (ha : PE X a (eOf cc c)) (he : ∀ whole, isTrue a X.env whole = (do let v ← whole; standAt a.pos; holding [v] (truthy v)) := by exact fun _ => rfl) : PT X a (bOf cc (cTru c)) := by
  refine pt_imp (pt_truth ha he) fun σ H Q q => ?_
  obtain ⟨η, h, s, rs, hr, v, h', e, k⟩ := q
  unfold cTru at e
  split at e
  · cases e
  · rename_i v1 h1 e1
    split at e
    · cases e
    · rename_i b eb
      cases e
      exact ⟨η, h, s, rs, hr, _, _, e1, fun η1 H1 x S1 R1 rx => ⟨_, tru_of R1 rx eb, k η1 H1 S1 R1⟩⟩
/-- a bool's value as a test -/
def cTst (c : CE) : CT := fun s h => match c s h with
  | some (.bl b, h1) => some (b, h1)
  | _ => none
theorem tst_of {c : CE} {t : TE} (i : ∀ σ H Q, eOf cc c σ H Q → t σ H Q) {σ : L2.St} {H : Hp} {Q : Bool → Hp → Prop} (q : bOf cc (cTst c) σ H Q) : tTest t σ H Q := by
  obtain ⟨η, h, s, rs, hr, v, h', e, k⟩ := q
  unfold cTst at e
  split at e
  · rename_i b h1 e1
    cases e
    exact i σ H _ ⟨η, h, s, rs, hr, _, _, e1, fun η1 H1 x S1 R1 rx => ⟨_, rx, k η1 H1 S1 R1⟩⟩
  · cases e
section
variable {a b : Expr} {ca cb : CE} {pos : Pos}
theorem kt_eq (ha : PE X a (eOf cc ca)) (hb : PE X b (eOf cc cb)) : PT X (.Compare a [.Eq] [b] pos) (bOf cc (cTst (cBin fEq ca cb))) := pt_imp (pt_cmpR op_eq ha hb (nomark _)) fun _ _ _ q => tst_of (fun _ _ _ z => op_of vEq z) q
theorem kt_ne (ha : PE X a (eOf cc ca)) (hb : PE X b (eOf cc cb)) : PT X (.Compare a [.NotEq] [b] pos) (bOf cc (cTst (cBin fNe ca cb))) := pt_imp (pt_cmpR op_ne ha hb (nomark _)) fun _ _ _ q => tst_of (fun _ _ _ z => op_of vNe z) q
theorem kt_lt (ha : PE X a (eOf cc ca)) (hb : PE X b (eOf cc cb)) : PT X (.Compare a [.Lt] [b] pos) (bOf cc (cTst (cBin fLt ca cb))) := pt_imp (pt_cmpR op_lt ha hb (nomark _)) fun _ _ _ q => tst_of (fun _ _ _ z => op_of vLt z) q
theorem kt_le (ha : PE X a (eOf cc ca)) (hb : PE X b (eOf cc cb)) : PT X (.Compare a [.LtE] [b] pos) (bOf cc (cTst (cBin fLe ca cb))) := pt_imp (pt_cmpR op_le ha hb (nomark _)) fun _ _ _ q => tst_of (fun _ _ _ z => op_of vLe z) q
theorem kt_gt (ha : PE X a (eOf cc ca)) (hb : PE X b (eOf cc cb)) : PT X (.Compare a [.Gt] [b] pos) (bOf cc (cTst (cBin fGt ca cb))) := pt_imp (pt_cmpR op_gt ha hb (nomark _)) fun _ _ _ q => tst_of (fun _ _ _ z => op_of vGt z) q
theorem kt_ge (ha : PE X a (eOf cc ca)) (hb : PE X b (eOf cc cb)) : PT X (.Compare a [.GtE] [b] pos) (bOf cc (cTst (cBin fGe ca cb))) := pt_imp (pt_cmpR op_ge ha hb (nomark _)) fun _ _ _ q => tst_of (fun _ _ _ z => op_of vGe z) q
theorem kt_isN (ha : PE X a (eOf cc ca)) (hb : PE X b (eOf cc cb)) : PT X (.Compare a [.Is] [b] pos) (bOf cc (cTst (cBin fIsN ca cb))) := pt_imp (pt_cmpR op_isN ha hb (nomark _)) fun _ _ _ q => tst_of (fun _ _ _ z => op_of vIsN z) q
theorem kt_notN (ha : PE X a (eOf cc ca)) (hb : PE X b (eOf cc cb)) : PT X (.Compare a [.IsNot] [b] pos) (bOf cc (cTst (cBin fNotN ca cb))) := pt_imp (pt_cmpR op_notN ha hb (nomark _)) fun _ _ _ q => tst_of (fun _ _ _ z => op_of vNotN z) q
theorem kt_in (ha : PE X a (eOf cc ca)) (hb : PE X b (eOf cc cb)) (hm : behindInMarks .In b = false := by with_unfolding_all rfl) : PT X (.Compare a [.In] [b] pos) (bOf cc (cTst (cBin (fIn false) ca cb))) := pt_imp (pt_cmpR op_in_seq ha hb hm) fun _ _ _ q => tst_of (fun _ _ _ z => op_of (vIn false) z) q
theorem kt_notIn (ha : PE X a (eOf cc ca)) (hb : PE X b (eOf cc cb)) (hm : behindInMarks .NotIn b = false := by with_unfolding_all rfl) : PT X (.Compare a [.NotIn] [b] pos) (bOf cc (cTst (cBin (fIn true) ca cb))) := pt_imp (pt_cmpR op_notIn_seq ha hb hm) fun _ _ _ q => tst_of (fun _ _ _ z => op_of (vIn true) z) q
end
end CK

/-! CK: chains, and, or, not, if-expressions; calls. -/
namespace CK
open PySem L2
variable {X : Cx} {cc : Nat → Addr}

def cChain (f g : CV → CV → CH → Option (CV × CH)) (a b c : CE) : CE := fun s h =>
  match a s h with
  | none => none
  | some (v, h1) => match b s h1 with
    | none => none
    | some (u, h2) => match f v u h2 with
      | some (.bl true, h3) => (match c s h3 with
        | none => none
        | some (w, h4) => g u w h4)
      | some (.bl false, h3) => some (.bl false, h3)
      | _ => none
theorem chain_of {f g : CV → CV → CH → Option (CV × CH)} {r r' : R2} (hf : VOp cc f r) (hg : VOp cc g r') {a b c : CE} {σ : L2.St} {H : Hp} {Q : VK} (q : eOf cc (cChain f g a b c) σ H Q) : tChain r r' (eOf cc a) (eOf cc b) (eOf cc c) σ H Q := by
  obtain ⟨η, h, s, rs, hr, w, h', e, k⟩ := q
  unfold cChain at e
  split at e
  · cases e
  · rename_i v h1 e1
    split at e
    · cases e
    · rename_i u h2 e2
      refine ⟨η, h, s, rs, hr, v, h1, e1, fun η1 H1 x S1 R1 rx => ⟨η1, h1, s, RS.mono S1.le rs, R1, u, h2, e2, fun η2 H2 y S2 R2 ry => ?_⟩⟩
      split at e
      · rename_i h3 e3
        split at e
        · cases e
        · rename_i z h4 e4
          refine hf R2 (RV.mono S2.le rx) ry e3 fun η3 H3 z3 S3 R3 rz => ⟨true, rz, ?_⟩
          refine iteT ?_
          refine ⟨η3, h3, s, RS.mono S3.le (RS.mono S2.le (RS.mono S1.le rs)), R3, _, _, e4, fun η4 H4 z4 S4 R4 rz4 => ?_⟩
          exact hg R4 (RV.mono S4.le (RV.mono S3.le ry)) rz4 e fun η5 H5 z5 S5 R5 rz5 => k η5 H5 z5 (Stp.trans (Stp.trans (Stp.trans (Stp.trans S1 R1 S2) R2 S3) R3 S4) R4 S5) R5 rz5
      · rename_i h3 e3
        cases e
        refine hf R2 (RV.mono S2.le rx) ry e3 fun η3 H3 z3 S3 R3 rz => ⟨false, rz, ?_⟩
        refine iteF ?_
        exact k η3 H3 _ (Stp.trans (Stp.trans S1 R1 S2) R2 S3) R3 rfl
      · cases e
section
variable {a b c : Expr} {ca cb c3 : CE} {pos : Pos} {op op' : CmpOp}
/-- the comparisons that a chain may hold -/
structure Cmp (cc : Nat → Addr) (X : Cx) (op : CmpOp) (f : CV → CV → CH → Option (CV × CH)) : Prop where
  ex : ∃ r, OpR X (compareOp op) r ∧ VOp cc f r
theorem m_lt : Cmp cc X .Lt fLt := ⟨_, op_lt, vLt⟩
theorem m_le : Cmp cc X .LtE fLe := ⟨_, op_le, vLe⟩
theorem m_gt : Cmp cc X .Gt fGt := ⟨_, op_gt, vGt⟩
theorem m_ge : Cmp cc X .GtE fGe := ⟨_, op_ge, vGe⟩
theorem m_eq : Cmp cc X .Eq fEq := ⟨_, op_eq, vEq⟩
theorem m_ne : Cmp cc X .NotEq fNe := ⟨_, op_ne, vNe⟩
theorem ke_chain {f g : CV → CV → CH → Option (CV × CH)} (m : Cmp cc X op f) (m' : Cmp cc X op' g) (ha : PE X a (eOf cc ca)) (hb : PE X b (eOf cc cb)) (h3 : PE X c (eOf cc c3)) (hm : lastMarks [op, op'] [b, c] = false := by with_unfolding_all rfl) :
    PE X (.Compare a [op, op'] [b, c] pos) (eOf cc (cChain f g ca cb c3)) := by
  obtain ⟨r, o, v⟩ := m.ex
  obtain ⟨r', o', v'⟩ := m'.ex
  exact pe_imp (pe_chain o o' ha hb h3 hm) fun _ _ _ q => chain_of v v' q
theorem kt_chain {f g : CV → CV → CH → Option (CV × CH)} (m : Cmp cc X op f) (m' : Cmp cc X op' g) (ha : PE X a (eOf cc ca)) (hb : PE X b (eOf cc cb)) (h3 : PE X c (eOf cc c3)) (hm : lastMarks [op, op'] [b, c] = false := by with_unfolding_all rfl) :
    PT X (.Compare a [op, op'] [b, c] pos) (bOf cc (cTst (cChain f g ca cb c3))) := by
  obtain ⟨r, o, v⟩ := m.ex
  obtain ⟨r', o', v'⟩ := m'.ex
  exact pt_imp (pt_chain o o' ha hb h3 hm) fun _ _ _ q => tst_of (fun _ _ _ z => chain_of v v' z) q
end

/-! ### and, or, not -/
def cAnd (a b : CT) : CT := fun s h => match a s h with
  | some (true, h1) => b s h1
  | some (false, h1) => some (false, h1)
  | none => none
def cOr (a b : CT) : CT := fun s h => match a s h with
  | some (true, h1) => some (true, h1)
  | some (false, h1) => b s h1
  | none => none
def cNot (a : CT) : CT := fun s h => match a s h with
  | some (b, h1) => some (!b, h1)
  | none => none
def cAndV (a b : CE) : CE := fun s h => match a s h with
  | some (.bl true, h1) => b s h1
  | some (.bl false, h1) => some (.bl false, h1)
  | _ => none
def cOrV (a b : CE) : CE := fun s h => match a s h with
  | some (.bl true, h1) => some (.bl true, h1)
  | some (.bl false, h1) => b s h1
  | _ => none
def cNotV (a : CE) : CE := fun s h => match a s h with
  | some (.bl b, h1) => some (.bl (!b), h1)
  | _ => none
def cIfE (t : CT) (a b : CE) : CE := fun s h => match t s h with
  | some (true, h1) => a s h1
  | some (false, h1) => b s h1
  | none => none
section
variable {a b c : Expr} {rest : List Expr} {pos : Pos} {ta tb : CT} {ca cb : CE}
theorem kw_and1 (ha : PT X a (bOf cc ta)) : PW X (.BoolOp .And [a] pos) (bOf cc ta) := pw_and1 ha
theorem kw_or1 (ha : PT X a (bOf cc ta)) : PW X (.BoolOp .Or [a] pos) (bOf cc ta) := pw_or1 ha
theorem kw_and (ha : PT X a (bOf cc ta)) (hb : PW X (.BoolOp .And (b :: rest) pos) (bOf cc tb)) : PW X (.BoolOp .And (a :: b :: rest) pos) (bOf cc (cAnd ta tb)) := pw_imp (pw_and ha hb) fun σ H Q q => by
  obtain ⟨η, h, s, rs, hr, v, h', e, k⟩ := q
  unfold cAnd at e
  split at e
  · rename_i h1 e1
    refine ⟨η, h, s, rs, hr, _, _, e1, fun η1 H1 S1 R1 => ?_⟩
    refine iteT ?_
    exact ⟨η1, h1, s, RS.mono S1.le rs, R1, _, _, e, fun η2 H2 S2 R2 => k η2 H2 (Stp.trans S1 R1 S2) R2⟩
  · rename_i h1 e1
    cases e
    refine ⟨η, h, s, rs, hr, _, _, e1, fun η1 H1 S1 R1 => ?_⟩
    refine iteF ?_
    exact k η1 H1 S1 R1
  · cases e
theorem kw_or (ha : PT X a (bOf cc ta)) (hb : PW X (.BoolOp .Or (b :: rest) pos) (bOf cc tb)) : PW X (.BoolOp .Or (a :: b :: rest) pos) (bOf cc (cOr ta tb)) := pw_imp (pw_or ha hb) fun σ H Q q => by
  obtain ⟨η, h, s, rs, hr, v, h', e, k⟩ := q
  unfold cOr at e
  split at e
  · rename_i h1 e1
    cases e
    refine ⟨η, h, s, rs, hr, _, _, e1, fun η1 H1 S1 R1 => ?_⟩
    refine iteT ?_
    exact k η1 H1 S1 R1
  · rename_i h1 e1
    refine ⟨η, h, s, rs, hr, _, _, e1, fun η1 H1 S1 R1 => ?_⟩
    refine iteF ?_
    exact ⟨η1, h1, s, RS.mono S1.le rs, R1, _, _, e, fun η2 H2 S2 R2 => k η2 H2 (Stp.trans S1 R1 S2) R2⟩
  · cases e
theorem kt_not (ha : PT X a (bOf cc ta)) : PT X (.UnaryOp .Not a pos) (bOf cc (cNot ta)) := pt_imp (pt_not ha) fun σ H Q q => by
  obtain ⟨η, h, s, rs, hr, v, h', e, k⟩ := q
  unfold cNot at e
  split at e
  · rename_i b h1 e1
    cases e
    exact ⟨η, h, s, rs, hr, _, _, e1, fun η1 H1 S1 R1 => k η1 H1 S1 R1⟩
  · cases e
theorem ke_one {op} (ha : PE X a (eOf cc ca)) : PE X (.BoolOp op [a] pos) (eOf cc ca) := pe_one ha
theorem ke_and (ha : PE X a (eOf cc ca)) (hb : PE X (.BoolOp .And (b :: rest) pos) (eOf cc cb)) : PE X (.BoolOp .And (a :: b :: rest) pos) (eOf cc (cAndV ca cb)) := pe_imp (pe_and ha hb) fun σ H Q q => by
  obtain ⟨η, h, s, rs, hr, v, h', e, k⟩ := q
  unfold cAndV at e
  split at e
  · rename_i h1 e1
    refine ⟨η, h, s, rs, hr, _, _, e1, fun η1 H1 x S1 R1 rx => ⟨true, rx, ?_⟩⟩
    refine iteT ?_
    exact ⟨η1, h1, s, RS.mono S1.le rs, R1, _, _, e, fun η2 H2 z S2 R2 rz => k η2 H2 z (Stp.trans S1 R1 S2) R2 rz⟩
  · rename_i h1 e1
    cases e
    refine ⟨η, h, s, rs, hr, _, _, e1, fun η1 H1 x S1 R1 rx => ⟨false, rx, ?_⟩⟩
    refine iteF ?_
    exact k η1 H1 _ S1 R1 rfl
  · cases e
theorem ke_or (ha : PE X a (eOf cc ca)) (hb : PE X (.BoolOp .Or (b :: rest) pos) (eOf cc cb)) : PE X (.BoolOp .Or (a :: b :: rest) pos) (eOf cc (cOrV ca cb)) := pe_imp (pe_or ha hb) fun σ H Q q => by
  obtain ⟨η, h, s, rs, hr, v, h', e, k⟩ := q
  unfold cOrV at e
  split at e
  · rename_i h1 e1
    cases e
    refine ⟨η, h, s, rs, hr, _, _, e1, fun η1 H1 x S1 R1 rx => ⟨true, rx, ?_⟩⟩
    refine iteT ?_
    exact k η1 H1 _ S1 R1 rfl
  · rename_i h1 e1
    refine ⟨η, h, s, rs, hr, _, _, e1, fun η1 H1 x S1 R1 rx => ⟨false, rx, ?_⟩⟩
    refine iteF ?_
    exact ⟨η1, h1, s, RS.mono S1.le rs, R1, _, _, e, fun η2 H2 z S2 R2 rz => k η2 H2 z (Stp.trans S1 R1 S2) R2 rz⟩
  · cases e
theorem ke_not (ha : PE X a (eOf cc ca)) : PE X (.UnaryOp .Not a pos) (eOf cc (cNotV ca)) := pe_imp (pe_not ha) fun σ H Q q => by
  obtain ⟨η, h, s, rs, hr, v, h', e, k⟩ := q
  unfold cNotV at e
  split at e
  · rename_i b h1 e1
    cases e
    exact ⟨η, h, s, rs, hr, _, _, e1, fun η1 H1 x S1 R1 rx => ⟨b, rx, k η1 H1 _ S1 R1 rfl⟩⟩
  · cases e
theorem ke_if {ct : CT} (hc : PT X c (bOf cc ct)) (ha : PE X a (eOf cc ca)) (hb : PE X b (eOf cc cb)) : PE X (.IfExp c a b pos) (eOf cc (cIfE ct ca cb)) := pe_imp (pe_ifExp hc ha hb) fun σ H Q q => by
  obtain ⟨η, h, s, rs, hr, v, h', e, k⟩ := q
  unfold cIfE at e
  split at e
  · rename_i h1 e1
    refine ⟨η, h, s, rs, hr, _, _, e1, fun η1 H1 S1 R1 => ?_⟩
    refine iteT ?_
    exact ⟨η1, h1, s, RS.mono S1.le rs, R1, _, _, e, fun η2 H2 z S2 R2 rz => k η2 H2 z (Stp.trans S1 R1 S2) R2 rz⟩
  · rename_i h1 e1
    refine ⟨η, h, s, rs, hr, _, _, e1, fun η1 H1 S1 R1 => ?_⟩
    refine iteF ?_
    exact ⟨η1, h1, s, RS.mono S1.le rs, R1, _, _, e, fun η2 H2 z S2 R2 rz => k η2 H2 z (Stp.trans S1 R1 S2) R2 rz⟩
  · cases e
end

/-! ### calls -/
def cCb (f : List CV → CH → Option (CV × CH)) (a : CA) : CE := fun s h => match a s h with
  | none => none
  | some (vs, h1) => f vs h1
def VCall (cc : Nat → Addr) (f : List CV → CH → Option (CV × CH)) (r : List V → Hp → VK → Prop) : Prop :=
  ∀ {η : Em} {h : CH} {H : Hp} {vs : List CV} {xs : List V} {w : CV} {h' : CH} {Q : VK}, HR cc η h H → RVs η vs xs → f vs h = some (w, h') → Kn cc η H w h' Q → r xs H Q
theorem cb_of {f : List CV → CH → Option (CV × CH)} {r : List V → Hp → VK → Prop} (hf : VCall cc f r) {a : CA} {σ : L2.St} {H : Hp} {Q : VK} (q : eOf cc (cCb f a) σ H Q) : tCB r (aOf cc a) σ H Q := by
  obtain ⟨η, h, s, rs, hr, w, h', e, k⟩ := q
  unfold cCb at e
  split at e
  · cases e
  · rename_i vs h1 e1
    exact ⟨η, h, s, rs, hr, _, _, e1, fun η1 H1 xs S1 R1 rx => hf R1 rx e fun η2 H2 z S2 R2 rz => k η2 H2 z (Stp.trans S1 R1 S2) R2 rz⟩
theorem pd1 {α β : Type} {F : α → β → Prop} {x : α} {ys : List β} (p : Paired F [x] ys) : ∃ y, ys = [y] ∧ F x y := by
  cases p with
  | cons r t => cases t; exact ⟨_, rfl, r⟩
theorem pd2 {α β : Type} {F : α → β → Prop} {x x2 : α} {ys : List β} (p : Paired F [x, x2] ys) : ∃ y y2, ys = [y, y2] ∧ F x y ∧ F x2 y2 := by
  cases p with
  | cons r t =>
    obtain ⟨z, rfl, q⟩ := pd1 t
    exact ⟨_, _, rfl, r, q⟩
def fLen : List CV → CH → Option (CV × CH)
  | [.ref a], h => match h.get a with
    | some (.lst xs) => some (.int xs.length, h)
    | some (.tup xs) => some (.int xs.length, h)
    | _ => none
  | [.str x], h => if x.length ≤ 4000 then some (.int x.length, h) else none
  | _, _ => none
theorem vLen {K : PySem.W.Frag} : VCall cc fLen (fun xs H Q => ∃ x n, xs = [x] ∧ LenV K x H n ∧ Q (.int n) H) := by
  intro η h H vs xs w h' Q hr r e k
  unfold fLen at e
  split at e
  · obtain ⟨y, rfl, a, ea, rfl⟩ := pd1 r
    split at e
    · rename_i ys e1
      cases e
      obtain ⟨zs, q1, p1⟩ := hr.lst e1 ea
      exact ⟨_, zs.length, rfl, .inl ⟨zs, SqL.of q1, rfl⟩, by rw [← p1.length]; exact kn_same hr k rfl⟩
    · rename_i ys e1
      cases e
      obtain ⟨zs, q1, p1⟩ := hr.tup e1 ea
      exact ⟨_, zs.length, rfl, .inr ⟨zs, SqT.of q1, rfl⟩, by rw [← p1.length]; exact kn_same hr k rfl⟩
    · cases e
  · split at e
    · rename_i x hz
      cases e
      obtain ⟨y, rfl, q⟩ := pd1 r
      cases (show y = .str (Tx x) from q)
      exact ⟨_, x.length, rfl, ⟨by rw [Tx_len]; exact small hz, (Tx_len _).symm⟩, kn_same hr k rfl⟩
    · cases e
  · cases e
def fAbs : List CV → CH → Option (CV × CH)
  | [.int i], h => some (.int (if i < 0 then -i else i), h)
  | _, _ => none
theorem vAbs : VCall cc fAbs (fun xs H Q => ∃ i, xs = [.int i] ∧ Q (.int (if i < 0 then -i else i)) H) := by
  intro η h H vs xs w h' Q hr r e k
  unfold fAbs at e
  split at e
  · obtain ⟨y, rfl, q⟩ := pd1 r
    cases e
    exact ⟨_, by rw [show y = _ from q], kn_same hr k rfl⟩
  · cases e
def fIntOf : List CV → CH → Option (CV × CH)
  | [.int i], h => some (.int i, h)
  | [.bl b], h => some (.int (if b then 1 else 0), h)
  | _, _ => none
theorem vIntOf : VCall cc fIntOf (fun xs H Q => (∃ i, xs = [.int i] ∧ Q (.int i) H) ∨ ∃ k, xs = [.bl k] ∧ Q (.int (if k then 1 else 0)) H) := by
  intro η h H vs xs w h' Q hr r e k
  unfold fIntOf at e
  split at e
  · obtain ⟨y, rfl, q⟩ := pd1 r
    cases e
    exact .inl ⟨_, by rw [show y = _ from q], kn_same hr k rfl⟩
  · obtain ⟨y, rfl, q⟩ := pd1 r
    cases e
    exact .inr ⟨_, by rw [show y = _ from q], kn_same hr k rfl⟩
  · cases e
def fListOf : List CV → CH → Option (CV × CH)
  | [.ref a], h => match h.get a with
    | some (.lst xs) => some (.ref h.length, h.new (.lst xs))
    | some (.tup xs) => some (.ref h.length, h.new (.lst xs))
    | _ => none
  | _, _ => none
theorem vListOf {K : PySem.W.Frag} : VCall cc fListOf (fun xs H Q => ∃ p ys, xs = [.ref p] ∧ (SqL K H p ys ∨ SqT K H p ys) ∧ ∀ l, H l = none → Q (.ref l) (upd H l (.lst ys))) := by
  intro η h H vs xs w h' Q hr r e k
  unfold fListOf at e
  split at e
  · obtain ⟨y, rfl, a, ea, rfl⟩ := pd1 r
    split at e
    · rename_i ys e1
      cases e
      obtain ⟨zs, q1, p1⟩ := hr.lst e1 ea
      exact ⟨a, zs, rfl, .inl (SqL.of q1), fun l hl => kn_lst hr p1 k hl⟩
    · rename_i ys e1
      cases e
      obtain ⟨zs, q1, p1⟩ := hr.tup e1 ea
      exact ⟨a, zs, rfl, .inr (SqT.of q1), fun l hl => kn_lst hr p1 k hl⟩
    · cases e
  · cases e
section
variable {x : Str} {p pos : Pos} {e : Expr} {es : List Expr} {ca : CA} {id T : String}
theorem ke_len (hg : Gl X "len") (hm : X.mg "len" = none) (ha : PA X [e] (aOf cc ca)) (he : starEach [e] X.env = (false, eval e X.env) :: starEach [] X.env := by rfl) : PE X (.Call (.Name "len" p) [e] [] pos) (eOf cc (cCb fLen ca)) :=
  pe_imp (pe_callB call_len hg hm boot_len ha (he := he)) fun _ _ _ q => cb_of vLen q
theorem ke_abs (hg : Gl X "abs") (hm : X.mg "abs" = none) (ha : PA X [e] (aOf cc ca)) (he : starEach [e] X.env = (false, eval e X.env) :: starEach [] X.env := by rfl) : PE X (.Call (.Name "abs" p) [e] [] pos) (eOf cc (cCb fAbs ca)) :=
  pe_imp (pe_callB call_abs hg hm (by decide +kernel) ha (he := he)) fun _ _ _ q => cb_of vAbs q
theorem ke_intOf (hg : Gl X "int") (hm : X.mg "int" = none) (ha : PA X [e] (aOf cc ca)) (he : starEach [e] X.env = (false, eval e X.env) :: starEach [] X.env := by rfl) : PE X (.Call (.Name "int" p) [e] [] pos) (eOf cc (cCb fIntOf ca)) :=
  pe_imp (pe_callTy call_int1 hg hm (by decide +kernel) ha (he := he)) fun _ _ _ q => cb_of vIntOf q
theorem ke_listOf (hg : Gl X "list") (hm : X.mg "list" = none) (ha : PA X [e] (aOf cc ca)) (he : starEach [e] X.env = (false, eval e X.env) :: starEach [] X.env := by rfl) : PE X (.Call (.Name "list" p) [e] [] pos) (eOf cc (cCb fListOf ca)) :=
  pe_imp (pe_callTy call_list_of hg hm (by decide +kernel) ha (he := he)) fun _ _ _ q => cb_of vListOf q
/-- an own def that keeps a plain promise -/
theorem ke_call {k : Nat} {f : Addr} {fd : FuncData} {ps : List Str} {g : List CV → CH → Option (CV × CH)} (F : FnOk X.prog X.w X.K X.mg X.base CX0 k f fd ps (spOf cc g)) (hr : Room k X.A) (hg : Gl X x) (hm : X.mg x = some (.ref f)) (hk : PySem.W.keepIn X.K (.ref f) = true) (hb : Binds X.K fd ps [])
    (ha : PA X (e :: es) (aOf cc ca)) (hdb : (x == ("__debug__" : Str)) = false := by decide) (he : starEach (e :: es) X.env = (false, eval e X.env) :: starEach es X.env := by rfl) (hpl : (backTo pos (starEach es X.env)).any (·.1) = false := by rfl) :
    PE X (.Call (.Name x p) (e :: es) [] pos) (eOf cc (cCb g ca)) := by
  refine pe_imp (pe_call F hr hg hm hk hb .nil pass0 ha hdb he hpl) fun σ H Q q => ?_
  obtain ⟨η, h, s, rs, hr, w, h', e, k⟩ := q
  unfold cCb at e
  split at e
  · cases e
  · rename_i vs h1 e1
    refine ⟨η, h, s, rs, hr, _, _, e1, fun η1 H1 xs S1 R1 rx => ?_⟩
    show spOf cc g (xs ++ []) H1 Q E0
    rw [List.append_nil]
    exact ⟨η1, h1, vs, rx, R1, _, _, e, fun η2 H2 z S2 R2 rz => k η2 H2 z (Stp.trans S1 R1 S2) R2 rz⟩
end
end CK

/-! CK: enumerate of a text: the walk, by the library's Draws. -/
namespace CK
open PySem L2 PyProof.Rows

/-- the signs of a text, each in a new pair with its number -/
def Ites (x : Str) : It :=
  ⟨fun i _ => i < x.cps.size, fun i H v H' => ∃ T c, v = .ref T ∧ H T = none ∧ H' = upd H T (.tup [.int (i : Nat), .str ⟨#[c]⟩]) ∧ x.cps[i]? = some c, fun i _ => x.cps.size ≤ i⟩
theorem draws_str {prog : Program} {w : World} {A : Around} (hh : A.handled = none) (it : Addr) (x : Str) (t : Tok) :
    Draws prog w A it [it] x.cps.size (fun i v => ∃ c u, x.cps[i]? = some c ∧ v = .str ⟨#[c]⟩ u) (fun i h => h.IsStrIter it (strIterType x) x t i) := by
  unfold strIterType
  cases x.cps.all (· < 128)
  · exact Draws.strWide hh it x t
  · exact Draws.strAscii hh it x t
theorem turn_enumS {P : Program} {w : World} {K : PySem.W.Frag} {elts : List Expr} {kk : Nat} {tpos : Pos} (x : Str) (t : Tok) (e it : Addr) :
    Turn P w K (.Tuple elts kk tpos) (Ites x) [e, it] e (fun i h => (∃ old, IsEnum h e it ((i : Nat) : Int) old) ∧ h.IsStrIter it (strIterType x) x t i ∧ e ≠ it) where
  mem := by simp
  obj := fun i h st b hb => by
    obtain ⟨⟨old, he⟩, ⟨o, ho, hc, hd⟩, _⟩ := st
    have e' : b = e ∨ b = it := by simpa using hb
    rcases e' with z | z
    · rw [z]; exact ⟨_, he, fun v q => nomatch q⟩
    · rw [z]; exact ⟨o, ho, fun v q => by rw [hd] at q; cases q⟩
  keep := fun i h h' st k => by
    obtain ⟨⟨old, he⟩, ⟨o, ho, r⟩, hne⟩ := st
    exact ⟨⟨old, k e (by simp) _ he⟩, ⟨o, k it (by simp) o ho, r⟩, hne⟩
  item := by
    intro X hP hw hK hc i pins s σ H E I hf st hg
    subst hP hw hK
    obtain ⟨⟨old, he⟩, hit, hne⟩ := st
    have hg : i < x.cps.size := hg
    have hel : e < s.heap.objs.size := Heap.lt_size he
    have hil : it < s.heap.objs.size := by obtain ⟨_, q, _⟩ := hit; exact Heap.lt_size q
    have hh : X.A.in1.handled = none := I.ok.hd hc
    refine wpAny_pyNext_enum_itemD (draws_str hh it x t) he hit hg hne (by simpa using hne) fun y h' tk hy ho hit' hT hsz hk => ?_
    obtain ⟨c, u, hcx, rfl⟩ := hy
    refine ⟨_, rfl, wpAny_letOwnedTupleGo_enum (s := { s with heap := h', toks := tk + 1 }) ho fun h'' he' sb => ?_⟩
    have hT2 : h''.get? s.heap.objs.size = some { cls := .type "tuple", data := .seq #[.int i tk, .str ⟨#[c]⟩ u] } := (sb.2 _ (Nat.ne_of_gt hel)).trans hT
    have new : ObjOk X.prog X.w (upd H s.heap.objs.size (.tup [.int (i : Nat), .str ⟨#[c]⟩])) h'' s.heap.objs.size (.tup [.int (i : Nat), .str ⟨#[c]⟩]) :=
      ⟨by show 2 ≤ sizeLine; decide, [.int i tk, .str ⟨#[c]⟩ u], .cons ⟨_, rfl⟩ (.cons ⟨_, rfl⟩ .nil), ⟨_, hT2, rfl, _, rfl⟩⟩
    have I1 : Inv X pins σ (upd H s.heap.objs.size (.tup [.int (i : Nat), .str ⟨#[c]⟩])) { s with heap := h'', toks := tk + 1 } :=
      I.turnedNew (ch := [e, it]) (fun b ob hb q => (sb.2 b (fun z => hb (by simp [z]))).trans (hk b ob (fun z => hb (by simp [z])) (fun z => hb (by simp [z])) q)) hf (Nat.le_refl _) new
    refine ⟨.ref s.heap.objs.size, _, I1, rfl, ⟨_, c, rfl, I.hok.fresh (Nat.le_refl _), rfl, hcx⟩, ⟨⟨.str ⟨#[c]⟩ u, ?_⟩, ?_, hne⟩, fun b hb => ?_⟩
    · have e1 : ((i + 1 : Nat) : Int) = (i : Int) + 1 := by omega
      rw [e1]; exact he'
    · obtain ⟨o, hO, r⟩ := hit'
      exact ⟨o, (sb.2 it (Ne.symm hne)).trans hO, r⟩
    · have hb' : b < s.heap.objs.size := by
        have e' : b = e ∨ b = it := by simpa using hb
        rcases e' with z | z
        · rw [z]; exact hel
        · rw [z]; exact hil
      rw [upd_ne (Nat.ne_of_lt hb')]
      exact (hf b hb).1
  done := by
    intro X hP hw hK hc i pins s σ H E I hf st hg
    subst hP hw hK
    obtain ⟨⟨old, he⟩, hit, hne⟩ := st
    have hg : x.cps.size ≤ i := hg
    obtain ⟨f0, f1, f2, f3, f4, f5⟩ := hf it (by simp)
    have hh : X.A.in1.handled = none := I.ok.hd hc
    -- the walk never comes behind the end
    have hx : x.cps[i]? = none := Array.getElem?_eq_none hg
    have D : ∀ (s' : Shared) (Q : Value → Shared → Prop) (E : Value → Shared → Prop), s'.heap.IsStrIter it (strIterType x) x t i →
        (∀ h' e', Heap.ExtBut it s'.heap h' → (∃ o, h'.get? e' = some o ∧ o.cls = .type "StopIteration") → E (.ref e') { s' with heap := h' }) → wpAny (model X.prog X.w) X.A.in1 (Builtin.SmallTypes.nextOf (.ref it)) Q E s' := by
      intro s' Q E' st' hE
      unfold strIterType at st'
      cases ha : x.cps.all (· < 128)
      · rw [ha] at st'; exact wpAny_nextOf_wide_end hh st' hx hE
      · rw [ha] at st'; exact wpAny_nextOf_ascii_end hh st' hx hE
    have dr := draws_str (prog := X.prog) (w := X.w) hh it x t
    have dr' : Draws X.prog X.w X.A.in1 it [it] i (fun _ _ => False) (fun j h => j = i ∧ h.IsStrIter it (strIterType x) x t i) :=
      ⟨fun _ h st => dr.live _ h st.2, fun _ h h' st k => ⟨st.1, dr.frame _ h h' st.2 k⟩, fun j s' Q E' hj st' _ => absurd st'.1 (Nat.ne_of_lt hj), fun s' Q E' st' hE => D s' Q E' st'.2 hE⟩
    exact wpAny_pyNext_enum_endD dr' he ⟨rfl, hit⟩ fun h' eb => ⟨rfl, I.turned (t' := s.toks) (fun b o hb q => eb b o hb q) f0 f1 f3 f4 f5⟩
  self := fun A i s Q E st h => let ⟨⟨_, he⟩, _⟩ := st; wpAny_pyIter_enum he h
def iEnumS (ta : TA) : TI := fun σ H R => ta σ H fun vs H1 => ∃ x, vs = [.str x] ∧ R (Ites x) H1
theorem pi_enumS {X : Cx} {e : Expr} {ta : TA} {p pos tpos : Pos} {elts : List Expr} {kk : Nat} (hg : Gl X "enumerate") (hm : X.mg "enumerate" = none) (ha : PA X [e] ta) (hs : starEach [e] X.env = [(false, eval e X.env)] := by rfl) :
    PI X (.Tuple elts kk tpos) (.Call (.Name "enumerate" p) [e] [] pos) (iEnumS ta) := by
  refine ⟨fun pins s σ H R I h => ?_⟩
  refine Call_ (ld_blt I hg hm boot_enumerate (PyProof.Rows.callWith_type1 (thn (ha.run pos pins s σ H _ I h) fun us s1 ⟨vs, H1, I1, r1, q1⟩ => ?_) hs rfl))
  obtain ⟨x, ex, q⟩ := q1
  subst ex
  cases r1 with
  | cons r rr =>
    cases rr
    obtain ⟨t, rfl⟩ := r
    refine call_enumerate_str fun h' he hit hsz hk => wpAny_pyIter_enum he ?_
    have I2 : Inv X pins σ H1 { s1 with heap := h' } := I1.kept (t' := s1.toks) hk
    refine ⟨s1.heap.objs.size + 1, [s1.heap.objs.size + 1, s1.heap.objs.size], _, _, H1, rfl, I2, turn_enumS x t (s1.heap.objs.size + 1) s1.heap.objs.size, ⟨⟨.none, he⟩, hit, Nat.succ_ne_self _⟩, fun b hb => ?_, q⟩
    have e' : b = s1.heap.objs.size + 1 ∨ b = s1.heap.objs.size := by simpa using hb
    have hle : s1.heap.objs.size ≤ b := by
      rcases e' with z | z
      · rw [z]; exact Nat.le_add_right _ _
      · rw [z]; exact Nat.le_refl _
    exact I1.fpOk hle (I1.hok.fresh hle)
/-- a list or a text -/
theorem PI.or {X : Cx} {tg e : Expr} {t t' : TI} (h : PI X tg e t) (h' : PI X tg e t') : PI X tg e (fun σ H R => t σ H R ∨ t' σ H R) := ⟨fun pins s σ H R I q => q.elim (h.run pins s σ H R I) (h'.run pins s σ H R I)⟩
end CK

/-! CK: targets, statements. -/
namespace CK
open PySem L2
variable {X : Cx} {cc : Nat → Addr}

/-! ### targets -/
abbrev CG := CV → CS → CH → Option (CS × CH)
abbrev CGs := List CV → CS → CH → Option (CS × CH)
def gOf (cc : Nat → Addr) (c : CG) : TG := fun v σ H Q => ∃ η h s u, RV η u v ∧ RS η s σ ∧ HR cc η h H ∧ ∃ s' h', c u s h = some (s', h') ∧ ∀ η' H' σ', Stp η H η' H' → HR cc η' h' H' → RS η' s' σ' → Q σ' H'
def gsOf (cc : Nat → Addr) (c : CGs) : TGs := fun v σ H Q => ∃ η h s u, RVs η u v ∧ RS η s σ ∧ HR cc η h H ∧ ∃ s' h', c u s h = some (s', h') ∧ ∀ η' H' σ', Stp η H η' H' → HR cc η' h' H' → RS η' s' σ' → Q σ' H'
theorem pgs_imp {e : List Expr} {t t' : TGs} (h : PGs X e t) (i : ∀ v σ H Q, t' v σ H Q → t v σ H Q) : PGs X e t' := ⟨fun pins s σ H v u Q I r q => h.run pins s σ H v u Q I r (i _ _ _ _ q)⟩
def cgN (i : Nat) : CG := fun v s h => some (s.set i (some v), h)
def cgNil : CGs := fun vs s h => match vs with | [] => some (s, h) | _ => none
def cgCons (g : CG) (r : CGs) : CGs := fun vs s h => match vs with
  | v :: vr => (match g v s h with
    | some (s1, h1) => r vr s1 h1
    | none => none)
  | [] => none
def cgTup (n : Nat) (g : CGs) : CG := fun v s h => match v with
  | .ref a => (match h.get a with
    | some (.tup xs) => if xs.length = n then g xs s h else none
    | _ => none)
  | _ => none
def cgIx (o i : CE) : CG := fun v s h => match o s h with
  | some (.ref a, h1) => (match i s h1 with
    | some (.int k, h2) => (match h2.get a with
      | some (.lst xs) => (match ixN xs.length k with
        | some j => some (s, h2.set a (.lst (xs.set j v)))
        | none => none)
      | _ => none)
    | _ => none)
  | _ => none
theorem name_of {i : Nat} {v : V} {σ : L2.St} {H : Hp} {Q : L2.St → Hp → Prop} (q : gOf cc (cgN i) v σ H Q) : gName i v σ H Q := by
  obtain ⟨η, h, s, u, rv, rs, hr, s', h', e, k⟩ := q
  cases e
  exact k η H _ (Stp.refl _ _) hr (rs.set i rv)
section
variable {pos : Pos}
theorem kg_name {i : Nat} {x : Str} (hN : X.N.Nodup) (hi : X.N[i]? = some x) (hx : Loc X.env.scope x) (hf : X.fn x = true ∨ X.env.scope.names.lookup x = some .local := by first | exact .inl rfl | exact .inr rfl | assumption) : PG X (.Name x pos) (gOf cc (cgN i)) :=
  pg_imp (pg_name hN hi hx hf) fun _ _ _ _ q => name_of q
theorem kgs_nil : PGs X [] (gsOf cc cgNil) := pgs_imp pgs_nil fun v σ H Q q => by
  obtain ⟨η, h, s, u, rv, rs, hr, s', h', e, k⟩ := q
  unfold cgNil at e
  split at e
  · cases e
    cases rv
    exact ⟨rfl, k η H σ (Stp.refl _ _) hr rs⟩
  · cases e
theorem kgs_cons {e : Expr} {es : List Expr} {g : CG} {r : CGs} (h1 : PG X e (gOf cc g)) (h2 : PGs X es (gsOf cc r))
    (hs : (assignEach (e :: es) X.env).map (·.2) = assign e X.env :: (assignEach es X.env).map (·.2) := by rfl) : PGs X (e :: es) (gsOf cc (cgCons g r)) := pgs_imp (pgs_cons h1 h2 hs) fun v σ H Q q => by
  obtain ⟨η, h, s, u, rv, rs, hr, s', h', e, k⟩ := q
  unfold cgCons at e
  split at e
  · rename_i v1 vr
    split at e
    · rename_i s1 h1 e1
      cases rv with
      | cons r1 rr =>
        exact ⟨_, _, rfl, η, h, s, _, r1, rs, hr, s1, h1, e1, fun η1 H1 σ1 S1 R1 rs1 => ⟨η1, h1, s1, _, RVs.mono S1.le rr, rs1, R1, s', h', e, fun η2 H2 σ2 S2 R2 rs2 => k η2 H2 σ2 (Stp.trans S1 R1 S2) R2 rs2⟩⟩
    · cases e
  · cases e
theorem kg_tup {es : List Expr} {k : Nat} {g : CGs} {n : Nat} (hc : X.calm = true) (h : PGs X es (gsOf cc g))
    (hn : (assignEach es X.env).length = n := by rfl) (hst : (assignEach es X.env).findIdx? (·.1) = none := by rfl) : PG X (.Tuple es k pos) (gOf cc (cgTup n g)) := pg_imp (pg_tup hc h hn hst) fun v σ H Q q => by
  obtain ⟨η, h, s, u, rv, rs, hr, s', h', e, k⟩ := q
  unfold cgTup at e
  split at e
  · rename_i a
    obtain ⟨b, eb, rfl⟩ := rv
    split at e
    · rename_i xs e1
      split at e
      · rename_i hl
        obtain ⟨ys, q1, p1⟩ := hr.tup e1 eb
        exact ⟨b, ys, rfl, SqT.of q1, by rw [← p1.length]; exact hl, η, h, s, xs, p1, rs, hr, s', h', e, k⟩
      · cases e
    · cases e
  · cases e
theorem ixset_pd {η : Em} {xs : List CV} {ys : List V} (p : RVs η xs ys) {u : CV} {y : V} (r : RV η u y) (j : Nat) : RVs η (xs.set j u) (ys.set j y) := Pd.set r j p
theorem kg_ix {o i : Expr} {co ci : CE} (ho : PE X o (eOf cc co)) (hi : PE X i (eOf cc ci))
    (ha : ∀ v, assign (.Subscript o i pos) X.env v = (do
      let ov ← holding [v] (eval o X.env)
      let iv ← holding [v, ov] (eval i X.env)
      standAt pos
      holding [v, ov, iv] (setItem ov iv v)
      release [v, ov, iv] []) := by intro _; rfl) : PG X (.Subscript o i pos) (gOf cc (cgIx co ci)) := pg_imp (pg_sub ho hi set_list ha) fun v σ H Q q => by
  obtain ⟨η, h, s, u, rv, rs, hr, s', h', e, k⟩ := q
  unfold cgIx at e
  split at e
  · rename_i a h1 e1
    split at e
    · rename_i kk h2 e2
      split at e
      · rename_i xs e3
        split at e
        · rename_i j ej
          cases e
          refine ⟨η, h, s, rs, hr, _, _, e1, fun η1 H1 x S1 R1 rx => ⟨η1, h1, s, RS.mono S1.le rs, R1, _, _, e2, fun η2 H2 y S2 R2 ry => ?_⟩⟩
          obtain ⟨b, eb, rfl⟩ := RV.mono S2.le rx
          obtain ⟨ys, q1, p1⟩ := R2.lst e3 eb
          refine ⟨b, ys, kk, j, rfl, ry, q1, by rw [← p1.length]; exact ej, ?_⟩
          obtain ⟨R3, S3⟩ := R2.put (o := .lst (xs.set j u)) (O := .lst (ys.set j v)) eb ⟨_, rfl, Pd.set (RV.mono (S1.le.trans S2.le) rv) j p1⟩
          exact k η2 _ σ (Stp.trans (Stp.trans S1 R1 S2) R2 S3) R3 (RS.mono (S1.le.trans S2.le) rs)
        · cases e
      · cases e
    · cases e
  · cases e
end

/-! ### statements -/
def cSkip : CP := fun s h => some (.nx, s, h)
def cSeq (a b : CP) : CP := fun s h => match a s h with
  | some (.nx, s1, h1) => b s1 h1
  | r => r
def cNever : CP := fun _ _ => none
def cRet (e : CE) : CP := fun s h => match e s h with
  | some (v, h1) => some (.rt v, s, h1)
  | none => none
def cRetN : CP := fun s h => some (.rt .non, s, h)
def cDrop (e : CE) : CP := fun s h => match e s h with
  | some (_, h1) => some (.nx, s, h1)
  | none => none
def cIf (t : CT) (a b : CP) : CP := fun s h => match t s h with
  | some (true, h1) => a s h1
  | some (false, h1) => b s h1
  | none => none
def cAsg (e : CE) (g : CG) : CP := fun s h => match e s h with
  | some (v, h1) => (match g v s h1 with
    | some (s2, h2) => some (.nx, s2, h2)
    | none => none)
  | none => none
section
variable {pos : Pos}
theorem kss_nil : PSs X [] (sOf cc cSkip) := pss_imp pss_nil fun D σ H q => by
  obtain ⟨η, h, s, rs, hr, fl, s', h', e, k⟩ := q
  cases e
  exact k η H σ (Stp.refl _ _) hr rs
theorem kss_one {st : Stmt} {c : CP} (h1 : PS X st (sOf cc c)) : PSs X [st] (sOf cc c) := pss_one h1
theorem post_nx {D : Ends} {R : L2.St → Hp → Prop} {η : Em} {fl : Fl} {σ : L2.St} {H : Hp} (hn : fl ≠ .nx) (p : Post D η fl σ H) : Post { D with nx := R } η fl σ H := by
  cases fl with
  | nx => exact absurd rfl hn
  | rt v => exact p
  | bk => exact p
  | ct => exact p
theorem seq_of {a b : CP} {D : Ends} {σ : L2.St} {H : Hp} (q : sOf cc (cSeq a b) D σ H) : tSeq (sOf cc a) (sOf cc b) D σ H := by
  obtain ⟨η, h, s, rs, hr, fl, s', h', e, k⟩ := q
  unfold cSeq at e
  split at e
  · rename_i s1 h1 e1
    exact ⟨η, h, s, rs, hr, .nx, s1, h1, e1, fun η1 H1 σ1 S1 R1 rs1 => ⟨η1, h1, s1, rs1, R1, fl, s', h', e, fun η2 H2 σ2 S2 R2 rs2 => k η2 H2 σ2 (Stp.trans S1 R1 S2) R2 rs2⟩⟩
  · rename_i hn
    refine ⟨η, h, s, rs, hr, fl, s', h', e, fun η1 H1 σ1 S1 R1 rs1 => post_nx (fun z => ?_) (k η1 H1 σ1 S1 R1 rs1)⟩
    subst z
    exact hn _ _ e
theorem kss_cons {st : Stmt} {rest : List Stmt} {a b : CP} (h1 : PS X st (sOf cc a)) (h2 : PSs X rest (sOf cc b)) : PSs X (st :: rest) (sOf cc (cSeq a b)) := pss_imp (pss_cons h1 h2) fun _ _ _ q => seq_of q
theorem ks_never {st : Stmt} : PS X st (sOf cc cNever) := ps_imp ps_never fun D σ H q => by
  obtain ⟨η, h, s, rs, hr, fl, s', h', e, k⟩ := q
  cases e
theorem kss_never {sts : List Stmt} : PSs X sts (sOf cc cNever) := pss_imp pss_never fun D σ H q => by
  obtain ⟨η, h, s, rs, hr, fl, s', h', e, k⟩ := q
  cases e
theorem ks_pass : PS X (.Pass pos) (sOf cc cSkip) := ps_imp ps_pass fun D σ H q => by
  obtain ⟨η, h, s, rs, hr, fl, s', h', e, k⟩ := q
  cases e
  exact k η H σ (Stp.refl _ _) hr rs
theorem ks_ret {e : Expr} {c : CE} (he : PE X e (eOf cc c)) : PS X (.Return (some e) pos) (sOf cc (cRet c)) := ps_imp (ps_ret he) fun D σ H q => by
  obtain ⟨η, h, s, rs, hr, fl, s', h', e, k⟩ := q
  unfold cRet at e
  split at e
  · rename_i v h1 e1
    cases e
    exact ⟨η, h, s, rs, hr, _, _, e1, fun η1 H1 x S1 R1 rx => k η1 H1 σ S1 R1 (RS.mono S1.le rs) x rx⟩
  · cases e
theorem ks_retN : PS X (.Return none pos) (sOf cc cRetN) := ps_imp ps_retN fun D σ H q => by
  obtain ⟨η, h, s, rs, hr, fl, s', h', e, k⟩ := q
  cases e
  exact k η H σ (Stp.refl _ _) hr rs _ rfl
theorem ks_expr {e : Expr} {c : CE} (he : PE X e (eOf cc c)) (hs : swapsWith e none pos.line X.env = pure false := by rfl) : PS X (.Expr e pos) (sOf cc (cDrop c)) := ps_imp (ps_expr he hs) fun D σ H q => by
  obtain ⟨η, h, s, rs, hr, fl, s', h', e, k⟩ := q
  unfold cDrop at e
  split at e
  · rename_i v h1 e1
    cases e
    exact ⟨η, h, s, rs, hr, v, h', e1, fun η1 H1 x S1 R1 rx => k η1 H1 σ S1 R1 (RS.mono S1.le rs)⟩
  · cases e
theorem ks_if {c : Expr} {a b : List Stmt} {ct : CT} {ca cb : CP} (hc : PT X c (bOf cc ct)) (ha : PSs X a (sOf cc ca)) (hb : PSs X b (sOf cc cb)) : PS X (.If c a b pos) (sOf cc (cIf ct ca cb)) := ps_imp (ps_if hc ha hb) fun D σ H q => by
  obtain ⟨η, h, s, rs, hr, fl, s', h', e, k⟩ := q
  unfold cIf at e
  split at e
  · rename_i h1 e1
    refine ⟨η, h, s, rs, hr, _, _, e1, fun η1 H1 S1 R1 => iteT ?_⟩
    exact ⟨η1, h1, s, RS.mono S1.le rs, R1, fl, s', h', e, fun η2 H2 σ2 S2 R2 rs2 => k η2 H2 σ2 (Stp.trans S1 R1 S2) R2 rs2⟩
  · rename_i h1 e1
    refine ⟨η, h, s, rs, hr, _, _, e1, fun η1 H1 S1 R1 => iteF ?_⟩
    exact ⟨η1, h1, s, RS.mono S1.le rs, R1, fl, s', h', e, fun η2 H2 σ2 S2 R2 rs2 => k η2 H2 σ2 (Stp.trans S1 R1 S2) R2 rs2⟩
  · cases e
theorem asg_of {c : CE} {g : CG} {D : Ends} {σ : L2.St} {H : Hp} (q : sOf cc (cAsg c g) D σ H) : tAsg (eOf cc c) (gOf cc g) D σ H := by
  obtain ⟨η, h, s, rs, hr, fl, s', h', e, k⟩ := q
  unfold cAsg at e
  split at e
  · rename_i v h1 e1
    split at e
    · rename_i s2 h2 e2
      cases e
      exact ⟨η, h, s, rs, hr, v, h1, e1, fun η1 H1 x S1 R1 rx => ⟨η1, h1, s, v, rx, RS.mono S1.le rs, R1, _, _, e2, fun η2 H2 σ2 S2 R2 rs2 => k η2 H2 σ2 (Stp.trans S1 R1 S2) R2 rs2⟩⟩
    · cases e
  · cases e
theorem ks_asg {tg e : Expr} {c : CE} {g : CG} (he : PE X e (eOf cc c)) (hg : PG X tg (gOf cc g)) (hs : swapsWithSole [tg] e pos.line X.env = pure false := by rfl) (hw : swappedStores [tg] e X.env = pure none := by rfl)
    (h1 : (assignEach [tg] X.env).map (·.2) = [assign tg X.env] := by rfl) : PS X (.Assign [tg] e pos) (sOf cc (cAsg c g)) := ps_imp (ps_asg he hg hs hw h1) fun _ _ _ q => asg_of q
theorem ks_set {i : Nat} {x : Str} {e : Expr} {c : CE} {pos' : Pos} (hN : X.N.Nodup) (hi : X.N[i]? = some x) (hx : Loc X.env.scope x) (he : PE X e (eOf cc c)) (hs : swapsWith e (some (.Name x pos')) pos.line X.env = pure false := by rfl) (hf : X.fn x = true ∨ X.env.scope.names.lookup x = some .local := by first | exact .inl rfl | exact .inr rfl | assumption) :
    PS X (.Assign [.Name x pos'] e pos) (sOf cc (cAsg c (cgN i))) := ps_imp (ps_set hN hi hx he hs hf) fun D σ H q => by
  have q := asg_of q
  obtain ⟨η, h, s, rs, hr, v, h1, e1, k⟩ := q
  exact ⟨η, h, s, rs, hr, v, h1, e1, fun η1 H1 x S1 R1 rx => name_of (k η1 H1 x S1 R1 rx)⟩
end
end CK

/-! CK: loops. -/
namespace CK
open PySem L2
variable {X : Cx} {cc : Nat → Addr}

/-- what a loop walks -/
inductive CIt where
  | rng (lo : Int) (n : Nat) | lst (a : Nat) | tup (a : Nat) | enu (a : Nat) | enuS (x : List Nat) | zip (a b : Nat) | sgn (x : List Nat)
/-- the i-th turn: none (nothing is known), no more, an item -/
def cnext : CIt → Nat → CH → Option (Option (CV × CH))
  | .rng lo n, i, h => if i < n then some (some (.int (lo + i), h)) else some none
  | .lst a, i, h => match h.get a with
    | some (.lst xs) => (match xs[i]? with | some x => some (some (x, h)) | none => some none)
    | _ => none
  | .tup a, i, h => match h.get a with
    | some (.tup xs) => (match xs[i]? with | some x => some (some (x, h)) | none => some none)
    | _ => none
  | .enu a, i, h => match h.get a with
    | some (.lst xs) => (match xs[i]? with | some x => some (some (.ref h.length, h.new (.tup [.int i, x]))) | none => some none)
    | _ => none
  | .enuS x, i, h => match x[i]? with | some c => some (some (.ref h.length, h.new (.tup [.int i, .str [c]]))) | none => some none
  | .zip a b, i, h => match h.get a, h.get b with
    | some (.lst xs), some (.lst ys) => (match xs[i]?, ys[i]? with | some x, some y => some (some (.ref h.length, h.new (.tup [x, y]))) | _, _ => some none)
    | _, _ => none
  | .sgn x, i, h => match x[i]? with | some c => some (some (.str [c], h)) | none => some none
/-- the walk of the hand layer that stands for it -/
inductive JR (K : PySem.W.Frag) (η : Em) : CIt → It → Prop where
  | rng (lo : Int) (n : Nat) : JR K η (.rng lo n) (Itr lo n)
  | lst {a : Nat} {p : Addr} : η.as[a]? = some p → JR K η (.lst a) (Itl K p)
  | tup {a : Nat} {p : Addr} : η.as[a]? = some p → JR K η (.tup a) (Itt K p)
  | enu {a : Nat} {p : Addr} : η.as[a]? = some p → JR K η (.enu a) (Ite K p)
  | enuS (x : List Nat) : JR K η (.enuS x) (Ites (Tx x))
  | zip {a b : Nat} {p q : Addr} : η.as[a]? = some p → η.as[b]? = some q → JR K η (.zip a b) (Itz K p q)
  | sgn (x : List Nat) : JR K η (.sgn x) (Its (Tx x))
theorem JR.mono {K : PySem.W.Frag} {η η' : Em} (l : Le η η') {c : CIt} {J : It} (j : JR K η c J) : JR K η' c J := by
  cases j with
  | rng lo n => exact .rng lo n
  | lst e => exact .lst (l.get e)
  | tup e => exact .tup (l.get e)
  | enu e => exact .enu (l.get e)
  | enuS x => exact .enuS x
  | zip e f => exact .zip (l.get e) (l.get f)
  | sgn x => exact .sgn x
theorem pd_none {α β : Type} {F : α → β → Prop} {xs : List α} {ys : List β} (p : Paired F xs ys) {i : Nat} (e : xs[i]? = none) : ys.length ≤ i := by
  rw [← p.length]
  exact List.getElem?_eq_none_iff.mp e
theorem Tx_get (x : List Nat) (i : Nat) : (Tx x).cps[i]? = x[i]? := by simp [Tx]
theorem Tx_size (x : List Nat) : (Tx x).cps.size = x.length := by simp [Tx]
theorem next_stop {K : PySem.W.Frag} {η : Em} {h : CH} {H : Hp} (hr : HR cc η h H) {c : CIt} {J : It} (j : JR K η c J) {i : Nat} (e : cnext c i h = some none) : J.stop i H := by
  cases j with
  | rng lo n =>
    simp only [cnext] at e
    split at e
    · cases e
    · rename_i hn; exact Nat.le_of_not_lt hn
  | lst ea =>
    simp only [cnext] at e
    split at e
    · rename_i xs e1
      obtain ⟨ys, q1, p1⟩ := hr.lst e1 ea
      split at e
      · cases e
      · rename_i en; exact ⟨ys, SqL.of q1, pd_none p1 en⟩
    · cases e
  | tup ea =>
    simp only [cnext] at e
    split at e
    · rename_i xs e1
      obtain ⟨ys, q1, p1⟩ := hr.tup e1 ea
      split at e
      · cases e
      · rename_i en; exact ⟨ys, SqT.of q1, pd_none p1 en⟩
    · cases e
  | enu ea =>
    simp only [cnext] at e
    split at e
    · rename_i xs e1
      obtain ⟨ys, q1, p1⟩ := hr.lst e1 ea
      split at e
      · cases e
      · rename_i en; exact ⟨ys, SqL.of q1, pd_none p1 en⟩
    · cases e
  | enuS x =>
    simp only [cnext] at e
    split at e
    · cases e
    · rename_i en
      show (Tx x).cps.size ≤ i
      rw [Tx_size]; exact List.getElem?_eq_none_iff.mp en
  | zip ea eb =>
    simp only [cnext] at e
    split at e
    · rename_i xs ys e1 e2
      obtain ⟨xs', q1, p1⟩ := hr.lst e1 ea
      obtain ⟨ys', q2, p2⟩ := hr.lst e2 eb
      split at e
      · cases e
      · rename_i en
        refine ⟨xs', ys', SqL.of q1, SqL.of q2, ?_⟩
        cases z1 : xs[i]? with
        | none => exact .inl (pd_none p1 z1)
        | some x =>
          cases z2 : ys[i]? with
          | none => exact .inr (pd_none p2 z2)
          | some y => exact absurd z2 (en x y z1)
    · cases e
  | sgn x =>
    simp only [cnext] at e
    split at e
    · cases e
    · rename_i en
      show (Tx x).cps.size ≤ i
      rw [Tx_size]; exact List.getElem?_eq_none_iff.mp en
theorem next_item {K : PySem.W.Frag} {η : Em} {h : CH} {H : Hp} (hr : HR cc η h H) {c : CIt} {J : It} (j : JR K η c J) {i : Nat} {x : CV} {h1 : CH} (e : cnext c i h = some (some (x, h1))) : J.go i H ∧
    ∀ v H', J.yld i H v H' → ∃ η', Stp η H η' H' ∧ HR cc η' h1 H' ∧ RV η' x v := by
  cases j with
  | rng lo n =>
    simp only [cnext] at e
    split at e
    · rename_i hn
      cases e
      refine ⟨hn, fun v H' y => ?_⟩
      obtain ⟨rfl, rfl⟩ := y
      exact ⟨η, Stp.refl _ _, hr, rfl⟩
    · cases e
  | lst ea =>
    simp only [cnext] at e
    split at e
    · rename_i xs e1
      obtain ⟨ys, q1, p1⟩ := hr.lst e1 ea
      split at e
      · rename_i z ez
        cases e
        obtain ⟨y, ey, ry⟩ := Pd.get p1 ez
        refine ⟨⟨ys, y, SqL.of q1, ey⟩, fun v H' w => ?_⟩
        obtain ⟨rfl, w⟩ := w
        have := w ys (SqL.of q1)
        rw [ey] at this
        cases this
        exact ⟨η, Stp.refl _ _, hr, ry⟩
      · cases e
    · cases e
  | tup ea =>
    simp only [cnext] at e
    split at e
    · rename_i xs e1
      obtain ⟨ys, q1, p1⟩ := hr.tup e1 ea
      split at e
      · rename_i z ez
        cases e
        obtain ⟨y, ey, ry⟩ := Pd.get p1 ez
        refine ⟨⟨ys, y, SqT.of q1, ey⟩, fun v H' w => ?_⟩
        obtain ⟨rfl, w⟩ := w
        have := w ys (SqT.of q1)
        rw [ey] at this
        cases this
        exact ⟨η, Stp.refl _ _, hr, ry⟩
      · cases e
    · cases e
  | enu ea =>
    simp only [cnext] at e
    split at e
    · rename_i xs e1
      obtain ⟨ys, q1, p1⟩ := hr.lst e1 ea
      split at e
      · rename_i z ez
        cases e
        obtain ⟨y, ey, ry⟩ := Pd.get p1 ez
        refine ⟨⟨ys, y, SqL.of q1, ey⟩, fun v H' w => ?_⟩
        obtain ⟨T, x', rfl, hT, rfl, w⟩ := w
        have := w ys (SqL.of q1)
        rw [ey] at this
        cases this
        obtain ⟨R2, S2⟩ := hr.new (o := .tup [.int i, z]) (O := .tup [.int (i : Nat), y]) ⟨_, rfl, .cons rfl (.cons ry .nil)⟩ hT
        exact ⟨_, S2, R2, T, Em.push_new η T hr.len, rfl⟩
      · cases e
    · cases e
  | enuS l =>
    simp only [cnext] at e
    split at e
    · rename_i z ez
      cases e
      refine ⟨?_, fun v H' w => ?_⟩
      · show i < (Tx l).cps.size
        rw [Tx_size]; exact (List.getElem?_eq_some_iff.mp ez).1
      · obtain ⟨T, c', rfl, hT, rfl, w⟩ := w
        rw [Tx_get, ez] at w
        cases w
        obtain ⟨R2, S2⟩ := hr.new (o := .tup [.int i, .str [z]]) (O := .tup [.int (i : Nat), .str ⟨#[z]⟩]) ⟨_, rfl, .cons rfl (.cons rfl .nil)⟩ hT
        exact ⟨_, S2, R2, T, Em.push_new η T hr.len, rfl⟩
    · cases e
  | zip ea eb =>
    simp only [cnext] at e
    split at e
    · rename_i xs ys e1 e2
      obtain ⟨xs', q1, p1⟩ := hr.lst e1 ea
      obtain ⟨ys', q2, p2⟩ := hr.lst e2 eb
      split at e
      · rename_i z z2 ez ez2
        cases e
        obtain ⟨y, ey, ry⟩ := Pd.get p1 ez
        obtain ⟨y2, ey2, ry2⟩ := Pd.get p2 ez2
        refine ⟨⟨xs', ys', y, y2, SqL.of q1, SqL.of q2, ey, ey2⟩, fun v H' w => ?_⟩
        obtain ⟨T, x', y', rfl, hT, rfl, w1, w2⟩ := w
        have w1 := w1 xs' (SqL.of q1)
        rw [ey] at w1
        cases w1
        have w2 := w2 ys' (SqL.of q2)
        rw [ey2] at w2
        cases w2
        obtain ⟨R2, S2⟩ := hr.new (o := .tup [z, z2]) (O := .tup [y, y2]) ⟨_, rfl, .cons ry (.cons ry2 .nil)⟩ hT
        exact ⟨_, S2, R2, T, Em.push_new η T hr.len, rfl⟩
      · cases e
    · cases e
  | sgn l =>
    simp only [cnext] at e
    split at e
    · rename_i z ez
      cases e
      refine ⟨?_, fun v H' w => ?_⟩
      · show i < (Tx l).cps.size
        rw [Tx_size]; exact (List.getElem?_eq_some_iff.mp ez).1
      · obtain ⟨rfl, c', w, rfl⟩ := w
        rw [Tx_get, ez] at w
        cases w
        exact ⟨η, Stp.refl _ _, hr, rfl⟩
    · cases e

/-! ### what is walked -/
abbrev CI := CS → CH → Option (CIt × CH)
def iOf (cc : Nat → Addr) (K : PySem.W.Frag) (c : CI) : TI := fun σ H R => ∃ η h s, RS η s σ ∧ HR cc η h H ∧ ∃ it h', c s h = some (it, h') ∧ ∀ η' H' J, Stp η H η' H' → HR cc η' h' H' → JR K η' it J → R J H'
def ciR1 (a : CA) : CI := fun s h => match a s h with
  | some ([.int j], h1) => if decide (-1000000 ≤ j) && decide (j ≤ 1000000) then some (.rng 0 j.toNat, h1) else none
  | _ => none
def ciR2 (a : CA) : CI := fun s h => match a s h with
  | some ([.int i, .int j], h1) => if (decide (-1000000 ≤ i) && decide (i ≤ 1000000)) && (decide (-1000000 ≤ j) && decide (j ≤ 1000000)) then some (.rng i (j - i).toNat, h1) else none
  | _ => none
def isLst (h : CH) (a : Nat) : Bool := match h.get a with | some (.lst _) => true | _ => false
def ciL (e : CE) : CI := fun s h => match e s h with
  | some (.ref a, h1) => if isLst h1 a then some (.lst a, h1) else none
  | _ => none
def ciE (a : CA) : CI := fun s h => match a s h with
  | some ([.ref a], h1) => if isLst h1 a then some (.enu a, h1) else none
  | some ([.str x], h1) => some (.enuS x, h1)
  | _ => none
def ciZ (a : CA) : CI := fun s h => match a s h with
  | some ([.ref a, .ref b], h1) => if isLst h1 a && isLst h1 b then some (.zip a b, h1) else none
  | _ => none
def ciS (e : CE) : CI := fun s h => match e s h with
  | some (.str x, h1) => some (.sgn x, h1)
  | _ => none
theorem isLst_of {η : Em} {h : CH} {H : Hp} (hr : HR cc η h H) {a : Nat} {p : Addr} (ea : η.as[a]? = some p) (e : isLst h a = true) : ∃ ys, H p = some (.lst ys) := by
  unfold isLst at e
  split at e
  · rename_i xs e1
    obtain ⟨ys, q, _⟩ := hr.lst e1 ea
    exact ⟨ys, q⟩
  · cases e
section
variable {tg : Expr} {p pos : Pos}
theorem ki_range1 {a : Expr} {ca : CA} (hg : Gl X "range") (hm : X.mg "range" = none) (ha : PA X [a] (aOf cc ca)) (hs : starEach [a] X.env = [(false, eval a X.env)] := by rfl) : PI X tg (.Call (.Name "range" p) [a] [] pos) (iOf cc X.K (ciR1 ca)) := pi_imp (pi_range1 hg hm ha hs) fun σ H R q => by
  obtain ⟨η, h, s, rs, hr, it, h', e, k⟩ := q
  unfold ciR1 at e
  split at e
  · rename_i j h1 e1
    split at e
    · rename_i hc
      simp only [Bool.and_eq_true, decide_eq_true_eq] at hc
      cases e
      refine ⟨η, h, s, rs, hr, _, _, e1, fun η1 H1 xs S1 R1 rx => ?_⟩
      obtain ⟨y, rfl, ry⟩ := pd1 rx
      exact ⟨j, by rw [show y = .int j from ry], by omega, by omega, k η1 H1 _ S1 R1 (.rng _ _)⟩
    · cases e
  · cases e
theorem ki_range2 {a b : Expr} {ca : CA} (hg : Gl X "range") (hm : X.mg "range" = none) (ha : PA X [a, b] (aOf cc ca)) (hs : starEach [a, b] X.env = [(false, eval a X.env), (false, eval b X.env)] := by rfl) (hs2 : starEach [b] X.env = [(false, eval b X.env)] := by rfl) :
    PI X tg (.Call (.Name "range" p) [a, b] [] pos) (iOf cc X.K (ciR2 ca)) := pi_imp (pi_range2 hg hm ha hs hs2) fun σ H R q => by
  obtain ⟨η, h, s, rs, hr, it, h', e, k⟩ := q
  unfold ciR2 at e
  split at e
  · rename_i i j h1 e1
    split at e
    · rename_i hc
      simp only [Bool.and_eq_true, decide_eq_true_eq] at hc
      cases e
      refine ⟨η, h, s, rs, hr, _, _, e1, fun η1 H1 xs S1 R1 rx => ?_⟩
      obtain ⟨y, y2, rfl, ry, ry2⟩ := pd2 rx
      exact ⟨i, j, by rw [show y = .int i from ry, show y2 = .int j from ry2], ⟨by omega, by omega, by omega, by omega⟩, k η1 H1 _ S1 R1 (.rng _ _)⟩
    · cases e
  · cases e
theorem ki_list {e : Expr} {c : CE} (he : PE X e (eOf cc c)) : PI X tg e (iOf cc X.K (ciL c)) := pi_imp (pi_list he) fun σ H R q => by
  obtain ⟨η, h, s, rs, hr, it, h', e, k⟩ := q
  unfold ciL at e
  split at e
  · rename_i a h1 e1
    split at e
    · rename_i hl
      cases e
      refine ⟨η, h, s, rs, hr, _, _, e1, fun η1 H1 x S1 R1 rx => ?_⟩
      obtain ⟨b, eb, rfl⟩ := rx
      obtain ⟨ys, q⟩ := isLst_of R1 eb hl
      exact ⟨b, rfl, ⟨ys, SqL.of q⟩, k η1 H1 _ S1 R1 (.lst eb)⟩
    · cases e
  · cases e
theorem ki_str {e : Expr} {c : CE} (he : PE X e (eOf cc c)) : PI X tg e (iOf cc X.K (ciS c)) := pi_imp (pi_str he) fun σ H R q => by
  obtain ⟨η, h, s, rs, hr, it, h', e, k⟩ := q
  unfold ciS at e
  split at e
  · rename_i x h1 e1
    cases e
    exact ⟨η, h, s, rs, hr, _, _, e1, fun η1 H1 y S1 R1 rx => ⟨Tx x, rx, k η1 H1 _ S1 R1 (.sgn x)⟩⟩
  · cases e
theorem ki_enum {e : Expr} {ca : CA} {tpos : Pos} {elts : List Expr} {kk : Nat} (hg : Gl X "enumerate") (hm : X.mg "enumerate" = none) (ha : PA X [e] (aOf cc ca)) (hs : starEach [e] X.env = [(false, eval e X.env)] := by rfl) :
    PI X (.Tuple elts kk tpos) (.Call (.Name "enumerate" p) [e] [] pos) (iOf cc X.K (ciE ca)) := pi_imp (CK.PI.or (pi_enum hg hm ha hs) (pi_enumS hg hm ha hs)) fun σ H R q => by
  obtain ⟨η, h, s, rs, hr, it, h', e, k⟩ := q
  unfold ciE at e
  split at e
  · rename_i a h1 e1
    split at e
    · rename_i hl
      cases e
      refine .inl ⟨η, h, s, rs, hr, _, _, e1, fun η1 H1 xs S1 R1 rx => ?_⟩
      obtain ⟨y, rfl, b, eb, rfl⟩ := pd1 rx
      obtain ⟨ys, q⟩ := isLst_of R1 eb hl
      exact ⟨b, ys, rfl, SqL.of q, k η1 H1 _ S1 R1 (.enu eb)⟩
    · cases e
  · rename_i x h1 e1
    cases e
    refine .inr ⟨η, h, s, rs, hr, _, _, e1, fun η1 H1 xs S1 R1 rx => ?_⟩
    obtain ⟨y, rfl, ry⟩ := pd1 rx
    exact ⟨Tx x, by rw [show y = .str (Tx x) from ry], k η1 H1 _ S1 R1 (.enuS x)⟩
  · cases e
theorem ki_zip {e e2 : Expr} {ca : CA} {tpos : Pos} {elts : List Expr} {kk : Nat} (hg : Gl X "zip") (hm : X.mg "zip" = none) (ha : PA X [e, e2] (aOf cc ca))
    (hs : starEach [e, e2] X.env = (false, eval e X.env) :: starEach [e2] X.env := by rfl) (hpl : (backTo pos (starEach [e2] X.env)).any (·.1) = false := by rfl) :
    PI X (.Tuple elts kk tpos) (.Call (.Name "zip" p) [e, e2] [] pos) (iOf cc X.K (ciZ ca)) := pi_imp (pi_zip hg hm ha hs hpl) fun σ H R q => by
  obtain ⟨η, h, s, rs, hr, it, h', e, k⟩ := q
  unfold ciZ at e
  split at e
  · rename_i a b h1 e1
    split at e
    · rename_i hl
      simp only [Bool.and_eq_true] at hl
      cases e
      refine ⟨η, h, s, rs, hr, _, _, e1, fun η1 H1 xs S1 R1 rx => ?_⟩
      obtain ⟨y, y2, rfl, ⟨p1, ep, rfl⟩, ⟨p2, eq, rfl⟩⟩ := pd2 rx
      obtain ⟨ys, q⟩ := isLst_of R1 ep hl.1
      obtain ⟨ys2, q2⟩ := isLst_of R1 eq hl.2
      exact ⟨p1, p2, ys, ys2, rfl, SqL.of q, SqL.of q2, k η1 H1 _ S1 R1 (.zip ep eq)⟩
    · cases e
  · cases e
end

/-! ### for, while -/
def forGo (it : CIt) (g : CG) (b : CP) : Nat → Nat → CP
  | 0, _, _, _ => none
  | m + 1, i, s, h => match cnext it i h with
    | none => none
    | some none => some (.nx, s, h)
    | some (some (x, h1)) => match g x s h1 with
      | none => none
      | some (s1, h2) => match b s1 h2 with
        | some (.nx, s2, h3) => forGo it g b m (i + 1) s2 h3
        | some (.ct, s2, h3) => forGo it g b m (i + 1) s2 h3
        | some (.bk, s2, h3) => some (.nx, s2, h3)
        | some (.rt v, s2, h3) => some (.rt v, s2, h3)
        | none => none
def cFor (fuel : Nat) (ci : CI) (g : CG) (b : CP) : CP := fun s h => match ci s h with
  | none => none
  | some (it, h1) => forGo it g b fuel 0 s h1
theorem for_of {K : PySem.W.Frag} {fuel : Nat} {ci : CI} {g : CG} {b : CP} {D : Ends} {σ : L2.St} {H : Hp} (q : sOf cc (cFor fuel ci g b) D σ H) : tFor (iOf cc K ci) (gOf cc g) (sOf cc b) D σ H := by
  obtain ⟨η, h, s, rs, hr, fl, s', h', e, k⟩ := q
  unfold cFor at e
  split at e
  · cases e
  · rename_i it h1 e1
    refine ⟨η, h, s, rs, hr, it, h1, e1, fun η1 H1 J S1 R1 j1 => ?_⟩
    refine ⟨fun i m σ' H' => ∃ η2 h2 s2, Stp η H η2 H' ∧ HR cc η2 h2 H' ∧ RS η2 s2 σ' ∧ JR K η2 it J ∧ forGo it g b m i s2 h2 = some (fl, s', h'), ⟨fuel, η1, h1, s, S1, R1, RS.mono S1.le rs, j1, e⟩, ?_⟩
    rintro i m σ2 H2 ⟨η2, h2, s2, S2, R2, rs2, j2, e2⟩
    cases m with
    | zero => cases e2
    | succ m =>
      unfold forGo at e2
      split at e2
      · cases e2
      · rename_i en
        cases e2
        exact .inl ⟨next_stop R2 j2 en, k η2 H2 σ2 S2 R2 rs2⟩
      · rename_i x h3 en
        obtain ⟨go, yl⟩ := next_item R2 j2 en
        refine .inr ⟨go, fun σ' H' => ∃ η4 h4 s4, Stp η H η4 H' ∧ HR cc η4 h4 H' ∧ RS η4 s4 σ' ∧ JR K η4 it J ∧ forGo it g b m (i + 1) s4 h4 = some (fl, s', h'), fun σ' H' w => ⟨m, Nat.lt_succ_self m, w⟩, fun v H3 y => ?_⟩
        obtain ⟨η3, S3, R3, rv⟩ := yl v H3 y
        split at e2
        · cases e2
        · rename_i s4 h4 eg
          refine ⟨η3, h3, s2, x, rv, RS.mono S3.le rs2, R3, s4, h4, eg, fun η4 H4 σ4 S4 R4 rs4 => ?_⟩
          have S24 := Stp.trans (Stp.trans S2 R2 S3) R3 S4
          have j4 := JR.mono S4.le (JR.mono S3.le j2)
          split at e2
          · rename_i s5 h5 eb
            exact ⟨η4, h4, s4, rs4, R4, .nx, s5, h5, eb, fun η5 H5 σ5 S5 R5 rs5 => ⟨η5, h5, s5, Stp.trans S24 R4 S5, R5, rs5, JR.mono S5.le j4, e2⟩⟩
          · rename_i s5 h5 eb
            exact ⟨η4, h4, s4, rs4, R4, .ct, s5, h5, eb, fun η5 H5 σ5 S5 R5 rs5 => ⟨η5, h5, s5, Stp.trans S24 R4 S5, R5, rs5, JR.mono S5.le j4, e2⟩⟩
          · rename_i s5 h5 eb
            cases e2
            exact ⟨η4, h4, s4, rs4, R4, .bk, _, _, eb, fun η5 H5 σ5 S5 R5 rs5 => k η5 H5 σ5 (Stp.trans S24 R4 S5) R5 rs5⟩
          · rename_i v' s5 h5 eb
            cases e2
            exact ⟨η4, h4, s4, rs4, R4, .rt v', _, _, eb, fun η5 H5 σ5 S5 R5 rs5 => k η5 H5 σ5 (Stp.trans S24 R4 S5) R5 rs5⟩
          · cases e2
theorem ks_for {tg iter : Expr} {body : List Stmt} {ci : CI} {g : CG} {b : CP} {pos : Pos} (fuel : Nat) (hp : PassesOwn (model X.prog X.w) X.A X.env X.xe) (hc : X.calm = true) (hi : PI X tg iter (iOf cc X.K ci)) (hg : PG X tg (gOf cc g)) (hb : PSs X body (sOf cc b))
    (hs : ∀ x, foldedSetIterable iter X.env x = pure x := by intro _; rfl) : PS X (.For tg iter body [] pos) (sOf cc (cFor fuel ci g b)) := ps_imp (ps_for hp hc hi hg hb hs) fun _ _ _ q => for_of q
def whileGo (t : CT) (b : CP) : Nat → CP
  | 0, _, _ => none
  | m + 1, s, h => match t s h with
    | none => none
    | some (false, h1) => some (.nx, s, h1)
    | some (true, h1) => match b s h1 with
      | some (.nx, s2, h3) => whileGo t b m s2 h3
      | some (.ct, s2, h3) => whileGo t b m s2 h3
      | some (.bk, s2, h3) => some (.nx, s2, h3)
      | some (.rt v, s2, h3) => some (.rt v, s2, h3)
      | none => none
theorem while_of {fuel : Nat} {t : CT} {b : CP} {D : Ends} {σ : L2.St} {H : Hp} (q : sOf cc (whileGo t b fuel) D σ H) : tWhile (bOf cc t) (sOf cc b) D σ H := by
  obtain ⟨η, h, s, rs, hr, fl, s', h', e, k⟩ := q
  refine ⟨fun m σ' H' => ∃ η2 h2 s2, Stp η H η2 H' ∧ HR cc η2 h2 H' ∧ RS η2 s2 σ' ∧ whileGo t b m s2 h2 = some (fl, s', h'), ⟨fuel, η, h, s, Stp.refl _ _, hr, rs, e⟩, ?_⟩
  rintro m σ2 H2 ⟨η2, h2, s2, S2, R2, rs2, e2⟩
  cases m with
  | zero => cases e2
  | succ m =>
    unfold whileGo at e2
    split at e2
    · cases e2
    · rename_i h3 et
      cases e2
      refine ⟨η2, h2, _, rs2, R2, _, _, et, fun η3 H3 S3 R3 => iteF ?_⟩
      exact k η3 H3 σ2 (Stp.trans S2 R2 S3) R3 (RS.mono S3.le rs2)
    · rename_i h3 et
      refine ⟨η2, h2, s2, rs2, R2, _, _, et, fun η3 H3 S3 R3 => iteT ?_⟩
      refine ⟨fun σ' H' => ∃ η4 h4 s4, Stp η H η4 H' ∧ HR cc η4 h4 H' ∧ RS η4 s4 σ' ∧ whileGo t b m s4 h4 = some (fl, s', h'), fun σ' H' w => ⟨m, Nat.lt_succ_self m, w⟩, ?_⟩
      have S23 := Stp.trans S2 R2 S3
      split at e2
      · rename_i s5 h5 eb
        exact ⟨η3, h3, s2, RS.mono S3.le rs2, R3, .nx, s5, h5, eb, fun η5 H5 σ5 S5 R5 rs5 => ⟨η5, h5, s5, Stp.trans S23 R3 S5, R5, rs5, e2⟩⟩
      · rename_i s5 h5 eb
        exact ⟨η3, h3, s2, RS.mono S3.le rs2, R3, .ct, s5, h5, eb, fun η5 H5 σ5 S5 R5 rs5 => ⟨η5, h5, s5, Stp.trans S23 R3 S5, R5, rs5, e2⟩⟩
      · rename_i s5 h5 eb
        cases e2
        exact ⟨η3, h3, s2, RS.mono S3.le rs2, R3, .bk, _, _, eb, fun η5 H5 σ5 S5 R5 rs5 => k η5 H5 σ5 (Stp.trans S23 R3 S5) R5 rs5⟩
      · rename_i v' s5 h5 eb
        cases e2
        exact ⟨η3, h3, s2, RS.mono S3.le rs2, R3, .rt v', _, _, eb, fun η5 H5 σ5 S5 R5 rs5 => k η5 H5 σ5 (Stp.trans S23 R3 S5) R5 rs5⟩
      · cases e2
theorem ks_while {c : Expr} {body : List Stmt} {t : CT} {b : CP} {pos : Pos} (fuel : Nat) (hp : PassesOwn (model X.prog X.w) X.A X.env X.xe) (hc : PT X c (bOf cc t)) (hb : PSs X body (sOf cc b)) : PS X (.While c body [] pos) (sOf cc (whileGo t b fuel)) := ps_imp (ps_while hp hc hb) fun _ _ _ q => while_of q
end CK

/-! CK: comprehensions. -/
namespace CK
open PySem L2
variable {X : Cx} {cc : Nat → Addr}

/-- the targets of a comprehension: a name, or names in a tuple -/
inductive CTg where
  | nm (i : Nat) | tp (is : List Nat)
def CTg.ix : CTg → List Nat
  | .nm i => [i]
  | .tp is => is
def namesR : List Nat → TGs
  | [] => gNil
  | i :: r => gCons (gName i) (namesR r)
def tgR (K : PySem.W.Frag) : CTg → TG
  | .nm i => gName i
  | .tp is => gTup K is.length (namesR is)
def namesC : List Nat → List CV → CS → Option CS
  | [], [], s => some s
  | i :: r, v :: vs, s => namesC r vs (s.set i (some v))
  | _, _, _ => none
def tgC : CTg → CV → CS → CH → Option CS
  | .nm i, v, s, _ => some (s.set i (some v))
  | .tp is, .ref a, s, h => (match h.get a with
    | some (.tup xs) => namesC is xs s
    | _ => none)
  | .tp _, _, _, _ => none
structure OutEq (vs : List Nat) (a b : L2.St) : Prop where
  len : a.length = b.length
  at_ : ∀ i : Nat, i ∉ vs → a[i]? = b[i]?
theorem OutEq.set {vs : List Nat} {a b : L2.St} (q : OutEq vs a b) {i : Nat} (hi : i ∈ vs) (v : Option V) : OutEq vs (a.set i v) b := by
  refine ⟨by rw [List.length_set]; exact q.len, fun j hj => ?_⟩
  have : i ≠ j := fun z => hj (by rw [← z]; exact hi)
  rw [List.getElem?_set_ne this]
  exact q.at_ j hj
theorem wipe_in {σ : L2.St} {i : Nat} : ∀ {vs : List Nat}, i ∈ vs → (wipe σ vs)[i]? = if i < σ.length then some none else none
  | v :: vs, h => by
    unfold wipe
    by_cases e : v = i
    · subst e
      rw [List.getElem?_set, if_pos rfl, wipe_length]
    · rw [List.getElem?_set_ne e]
      rcases List.mem_cons.mp h with z | z
      · exact absurd z.symm e
      · exact wipe_in z
theorem wipe_eq {vs : List Nat} {a b : L2.St} (q : OutEq vs a b) : wipe a vs = wipe b vs := by
  refine List.ext_getElem? fun i => ?_
  by_cases h : i ∈ vs
  · rw [wipe_in h, wipe_in h, q.len]
  · rw [wipe_out h, wipe_out h, q.at_ i h]
theorem outEq_wipe (vs : List Nat) (σ : L2.St) : OutEq vs (wipe σ vs) σ := ⟨wipe_length σ vs, fun i h => wipe_out h⟩
theorem names_of {η : Em} {H : Hp} : ∀ {is : List Nat} {us : List CV} {vs : List V} {s s' : CS} {σ : L2.St} {Q : L2.St → Hp → Prop}, RVs η us vs → RS η s σ → namesC is us s = some s' →
    (∀ σ2, RS η s' σ2 → (∀ ws τ, (∀ i ∈ is, i ∈ ws) → OutEq ws σ τ → OutEq ws σ2 τ) → Q σ2 H) → namesR is vs σ H Q
  | [], _, _, _, _, _, _, .nil, rs, e, k => by
    cases e
    exact ⟨rfl, k _ rs fun _ _ _ q => q⟩
  | i :: r, _, _, _, _, _, _, .cons rv rr, rs, e, k => by
    have e : namesC r _ _ = some _ := e
    refine ⟨_, _, rfl, ?_⟩
    show namesR r _ _ H _
    exact names_of rr (rs.set i rv) e fun σ2 rs2 hq => k σ2 rs2 fun ws τ hw q => hq ws τ (fun j hj => hw j (List.mem_cons_of_mem _ hj)) (q.set (hw i List.mem_cons_self) _)
  | [], _, _, _, _, _, _, .cons _ _, _, e, _ => by cases e
  | _ :: _, _, _, _, _, _, _, .nil, _, e, _ => by cases e
theorem namesC_len : ∀ {is : List Nat} {us : List CV} {s s' : CS}, namesC is us s = some s' → us.length = is.length
  | [], [], _, _, _ => rfl
  | _ :: r, _ :: vs, s, s', e => by
    have := namesC_len (is := r) (us := vs) (s' := s') (s := _) (show namesC r vs _ = some s' from e)
    rw [List.length_cons, List.length_cons, this]
  | [], _ :: _, _, _, e => by cases e
  | _ :: _, [], _, _, e => by cases e
theorem tg_of {K : PySem.W.Frag} {η : Em} {h : CH} {H : Hp} (hr : HR cc η h H) {t : CTg} {u : CV} {v : V} {s s' : CS} {σ : L2.St} {Q : L2.St → Hp → Prop} (rv : RV η u v) (rs : RS η s σ) (e : tgC t u s h = some s')
    (k : ∀ σ2, RS η s' σ2 → (∀ ws τ, (∀ i ∈ t.ix, i ∈ ws) → OutEq ws σ τ → OutEq ws σ2 τ) → Q σ2 H) : tgR K t v σ H Q := by
  cases t with
  | nm i =>
    cases e
    exact k _ (rs.set i rv) fun ws τ hw q => q.set (hw i (List.mem_singleton.mpr rfl)) _
  | tp is =>
    unfold tgC at e
    split at e
    · rename_i z; cases z
    · rename_i is' a _ _ z
      cases z
      obtain ⟨b, eb, rfl⟩ := rv
      split at e
      · rename_i xs e1
        obtain ⟨ys, q1, p1⟩ := hr.tup e1 eb
        exact ⟨b, ys, rfl, SqT.of q1, by rw [← p1.length]; exact namesC_len e, names_of p1 rs e k⟩
      · cases e
    · cases e
def cwipe (s : CS) : List Nat → CS
  | [] => s
  | v :: vs => (cwipe s vs).set v none
theorem RS.unset {η : Em} {s : CS} {σ : L2.St} (r : RS η s σ) (i : Nat) : RS η (s.set i none) (σ.set i none) := by
  refine ⟨by rw [List.length_set, List.length_set]; exact r.len, fun j u e => ?_⟩
  by_cases hj : j = i
  · subst hj
    have hl : j < s.length := by have := (List.getElem?_eq_some_iff.mp e).1; rwa [List.length_set] at this
    rw [List.getElem?_set_self hl] at e
    cases e
  · rw [List.getElem?_set_ne (fun q => hj q.symm)] at e ⊢
    exact r.at_ j u e
theorem RS.wipe {η : Em} {s : CS} {σ : L2.St} (r : RS η s σ) : ∀ vs : List Nat, RS η (cwipe s vs) (L2.wipe σ vs)
  | [] => r
  | v :: vs => (RS.wipe r vs).unset v
/-- the tests -/
def cYes : CT := fun _ h => some (true, h)
theorem pts_imp {e : List Expr} {t t' : TT} (h : PTs X e t) (i : ∀ σ H Q, t' σ H Q → t σ H Q) : PTs X e t' := ⟨fun pins s σ H Q I q => h.run pins s σ H Q I (i _ _ _ q)⟩
theorem kts_nil : PTs X [] (bOf cc cYes) := pts_imp pts_nil fun σ H Q q => by
  obtain ⟨η, h, s, rs, hr, v, h', e, k⟩ := q
  cases e
  exact k η H (Stp.refl _ _) hr
theorem kts_one {c : Expr} {t : CT} (h : PT X c (bOf cc t)) : PTs X [c] (bOf cc t) := pts_one h
/-- the turns: the new list stands at D -/
def lcGo (it : CIt) (t : CTg) (ct : CT) (ce : CE) (D : Nat) (s0 : CS) : Nat → Nat → CH → Option CH
  | 0, _, _ => none
  | m + 1, i, h => match cnext it i h with
    | none => none
    | some none => some h
    | some (some (x, h1)) => match tgC t x s0 h1 with
      | none => none
      | some s1 => match ct s1 h1 with
        | none => none
        | some (false, h3) => lcGo it t ct ce D s0 m (i + 1) h3
        | some (true, h3) => match ce s1 h3 with
          | none => none
          | some (y, h4) => match h4.get D with
            | some (.lst acc) => if acc.length ≤ 4000 then lcGo it t ct ce D s0 m (i + 1) (h4.set D (.lst (acc ++ [y]))) else none
            | _ => none
def cLc (fuel : Nat) (ci : CI) (t : CTg) (ct : CT) (ce : CE) (vs : List Nat) : CE := fun s h => match ci s h with
  | none => none
  | some (it, h1) => match lcGo it t ct ce h1.length (cwipe s vs) fuel 0 (h1.new (.lst [])) with
    | none => none
    | some h2 => some (.ref h1.length, h2)
theorem lc_of {K : PySem.W.Frag} {fuel : Nat} {ci : CI} {t : CTg} {ct : CT} {ce : CE} {vs : List Nat} (hsub : ∀ i ∈ t.ix, i ∈ vs) {σ : L2.St} {H : Hp} {Q : VK} (q : eOf cc (cLc fuel ci t ct ce vs) σ H Q) :
    tLc (iOf cc K ci) (tgR K t) (bOf cc ct) (eOf cc ce) vs σ H Q := by
  obtain ⟨η, h, s, rs, hr, w, h', e, k⟩ := q
  unfold cLc at e
  split at e
  · cases e
  · rename_i it h1 e1
    split at e
    · cases e
    · rename_i h2 e2
      cases e
      refine ⟨η, h, s, rs, hr, it, h1, e1, fun η1 H1 J S1 R1 j1 D hD => ?_⟩
      obtain ⟨R2, S2⟩ := R1.new (o := .lst []) (O := .lst []) ⟨[], rfl, .nil⟩ hD
      have hix : (η1.push D).as[h1.length]? = some D := Em.push_new η1 D R1.len
      refine ⟨fun i m H' => ∃ η2 h3, Stp η H η2 H' ∧ HR cc η2 h3 H' ∧ η2.as[h1.length]? = some D ∧ JR K η2 it J ∧ Le η η2 ∧ lcGo it t ct ce h1.length (cwipe s vs) m i h3 = some h',
        ⟨fuel, η1.push D, _, Stp.trans S1 R1 S2, R2, hix, JR.mono S2.le j1, S1.le.trans S2.le, e2⟩, ?_⟩
      rintro i m H2 ⟨η2, h3, S3, R3, x2, j2, l2, e3⟩
      cases m with
      | zero => cases e3
      | succ m =>
        unfold lcGo at e3
        split at e3
        · cases e3
        · rename_i en
          cases e3
          exact .inl ⟨next_stop R3 j2 en, k η2 H2 _ S3 R3 ⟨D, x2, rfl⟩⟩
        · rename_i x h4 en
          obtain ⟨go, yl⟩ := next_item R3 j2 en
          refine .inr ⟨go, fun H' => ∃ η4 h5, Stp η H η4 H' ∧ HR cc η4 h5 H' ∧ η4.as[h1.length]? = some D ∧ JR K η4 it J ∧ Le η η4 ∧ lcGo it t ct ce h1.length (cwipe s vs) m (i + 1) h5 = some h', fun H' z => ⟨m, Nat.lt_succ_self m, z⟩, fun v H3 y => ?_⟩
          obtain ⟨η3, S4, R4, rv⟩ := yl v H3 y
          split at e3
          · cases e3
          · rename_i s1 eg
            have l3 : Le η η3 := l2.trans S4.le
            refine tg_of R4 rv (RS.mono l3 (rs.wipe vs)) eg fun σ2 rs2 hq => ⟨wipe_eq (hq vs σ hsub (outEq_wipe vs σ)), ?_⟩
            have S34 := Stp.trans S3 R3 S4
            split at e3
            · cases e3
            · rename_i h5 et
              refine ⟨η3, h4, s1, rs2, R4, _, _, et, fun η5 H5 S5 R5 => iteF ?_⟩
              exact ⟨η5, h5, Stp.trans S34 R4 S5, R5, S5.le.get (S4.le.get x2), JR.mono S5.le (JR.mono S4.le j2), l3.trans S5.le, e3⟩
            · rename_i h5 et
              refine ⟨η3, h4, s1, rs2, R4, _, _, et, fun η5 H5 S5 R5 => iteT ?_⟩
              split at e3
              · cases e3
              · rename_i y6 h6 ee
                refine ⟨η5, h5, s1, RS.mono S5.le rs2, R5, _, _, ee, fun η6 H6 y' S6 R6 ry => ?_⟩
                split at e3
                · rename_i acc ea
                  split at e3
                  · rename_i hz
                    have x6 := S6.le.get (S5.le.get (S4.le.get x2))
                    obtain ⟨acc', q1, p1⟩ := R6.lst ea x6
                    refine ⟨acc', q1, by rw [← p1.length]; exact Nat.lt_of_le_of_lt hz (by rw [sizeLine_eq]; decide), ?_⟩
                    obtain ⟨R7, S7⟩ := R6.put (o := .lst (acc ++ [y6])) (O := .lst (acc' ++ [y'])) x6 ⟨_, rfl, Pd.app p1 (.cons ry .nil)⟩
                    exact ⟨η6, _, Stp.trans (Stp.trans (Stp.trans S34 R4 S5) R5 S6) R6 S7, R7, x6, JR.mono S6.le (JR.mono S5.le (JR.mono S4.le j2)), (l3.trans S5.le).trans S6.le, e3⟩
                  · cases e3
                · cases e3
section
variable {elt tg iter : Expr} {ifs : List Expr} {scope : Scope} {own : List (Str × Nat)} {pos spos : Pos} {ci : CI} {ct : CT} {ce : CE}
theorem ke_lc (fuel : Nat) (t : CTg) (hc : X.calm = true) (hN : X.N.Nodup) (hi : PI X tg iter (iOf cc X.K ci)) (ok : BlkOk X.N X.env.scope scope own)
    (hg : ∀ (s : Shared) (H : Hp) (C : Addr) (cl : List (Str × Addr)) (fp : List Addr), PG (X.blk s H scope (compEnvC scope cl C X.env) fp) tg (tgR X.K t)) (ht : ∀ (s : Shared) (H : Hp) (C : Addr) (cl : List (Str × Addr)) (fp : List Addr), PTs (X.blk s H scope (compEnvC scope cl C X.env) fp) ifs (bOf cc ct))
    (he : ∀ (s : Shared) (H : Hp) (C : Addr) (cl : List (Str × Addr)) (fp : List Addr), PE (X.blk s H scope (compEnvC scope cl C X.env) fp) elt (eOf cc ce)) (hsub : ∀ i ∈ t.ix, i ∈ own.map (·.2) := by decide) (hs : ∀ x, foldedSetIterable iter X.env x = pure x := by intro _; rfl) :
    PE X (.ListComp elt [⟨tg, iter, ifs, 0⟩] scope pos) (eOf cc (cLc fuel ci t ct ce (own.map (·.2)))) := pe_imp (pe_lc hc hN hi ok hg ht he hs) fun _ _ _ q => lc_of hsub q
theorem ks_setLc (fuel : Nat) (t : CTg) {i : Nat} {y : Str} {py : Pos} (hc : X.calm = true) (hN : X.N.Nodup) (hy : X.N[i]? = some y) (hyl : X.env.scope.names.lookup y = some .local)
    (hsw : swapsWith (.ListComp elt [⟨tg, iter, ifs, 0⟩] scope pos) (some (.Name y py)) spos.line X.env = pure true) (hi : PI X tg iter (iOf cc X.K ci)) (ok : BlkOk X.N X.env.scope scope own)
    (hg : ∀ (s : Shared) (H : Hp) (C : Addr) (cl : List (Str × Addr)) (fp : List Addr), PG (X.blk s H scope (compEnvC scope cl C X.env) fp) tg (tgR X.K t)) (ht : ∀ (s : Shared) (H : Hp) (C : Addr) (cl : List (Str × Addr)) (fp : List Addr), PTs (X.blk s H scope (compEnvC scope cl C X.env) fp) ifs (bOf cc ct))
    (he : ∀ (s : Shared) (H : Hp) (C : Addr) (cl : List (Str × Addr)) (fp : List Addr), PE (X.blk s H scope (compEnvC scope cl C X.env) fp) elt (eOf cc ce)) (hsub : ∀ i ∈ t.ix, i ∈ own.map (·.2) := by decide) (hs : ∀ x, foldedSetIterable iter X.env x = pure x := by intro _; rfl) :
    PS X (.Assign [.Name y py] (.ListComp elt [⟨tg, iter, ifs, 0⟩] scope pos) spos) (sOf cc (cAsg (cLc fuel ci t ct ce (own.map (·.2))) (cgN i))) := ps_imp (ps_setLc hc hN hy hyl hsw hi ok hg ht he hs) fun D σ H q => by
  have q := asg_of q
  refine lc_of (fuel := fuel) hsub ?_
  obtain ⟨η, h, s, rs, hr, v, h1, e1, k⟩ := q
  exact ⟨η, h, s, rs, hr, v, h1, e1, fun η1 H1 x S1 R1 rx => name_of (k η1 H1 x S1 R1 rx)⟩
end
end CK

/-! CK: built-in methods, own objects, a def as a whole. -/
namespace CK
open PySem L2 PyProof.Rows
variable {X : Cx} {cc : Nat → Addr}

/-! ### built-in methods -/
def isL (v : CV) (h : CH) : Bool := match v with | .ref a => isLst h a | _ => false
def isS (v : CV) (_ : CH) : Bool := match v with | .str _ => true | _ => false
def cMt (ck : CV → CH → Bool) (f : CV → List CV → CH → Option (CV × CH)) (o : CE) (a : CA) : CE := fun s h => match o s h with
  | none => none
  | some (v, h1) => if ck v h1 then (match a s h1 with
    | none => none
    | some (vs, h2) => f v vs h2) else none
def VMt (cc : Nat → Addr) (f : CV → List CV → CH → Option (CV × CH)) (r : V → List V → Hp → VK → Prop) : Prop :=
  ∀ {η : Em} {h : CH} {H : Hp} {v : CV} {vs : List CV} {x : V} {xs : List V} {w : CV} {h' : CH} {Q : VK}, HR cc η h H → RV η v x → RVs η vs xs → f v vs h = some (w, h') → Kn cc η H w h' Q → r x xs H Q
def Ck (cc : Nat → Addr) (K : PySem.W.Frag) (T : String) (ck : CV → CH → Bool) : Prop := ∀ {η : Em} {h : CH} {H : Hp} {v : CV} {x : V}, HR cc η h H → RV η v x → ck v h = true → tyV K T x H
theorem ck_list {K : PySem.W.Frag} : Ck cc K "list" isL := by
  intro η h H v x hr r e
  unfold isL at e
  split at e
  · obtain ⟨a, ea, rfl⟩ := r
    obtain ⟨ys, q⟩ := isLst_of hr ea e
    exact .inl ⟨rfl, ys, SqL.of q⟩
  · cases e
theorem ck_str {K : PySem.W.Frag} : Ck cc K "str" isS := by
  intro η h H v x hr r e
  unfold isS at e
  split at e
  · obtain rfl : x = .str (Tx _) := r
    rfl
  · cases e
theorem mt_of {K : PySem.W.Frag} {T : String} {ck : CV → CH → Bool} {f : CV → List CV → CH → Option (CV × CH)} {r : V → List V → Hp → VK → Prop} (hc : Ck cc K T ck) (hf : VMt cc f r) {o : CE} {a : CA} {σ : L2.St} {H : Hp} {Q : VK} (q : eOf cc (cMt ck f o a) σ H Q) :
    tBM K T r (eOf cc o) (aOf cc a) σ H Q := by
  obtain ⟨η, h, s, rs, hr, w, h', e, k⟩ := q
  unfold cMt at e
  split at e
  · cases e
  · rename_i v h1 e1
    split at e
    · rename_i hck
      split at e
      · cases e
      · rename_i vs h2 e2
        refine ⟨η, h, s, rs, hr, _, _, e1, fun η1 H1 x S1 R1 rx => ⟨hc R1 rx hck, η1, h1, s, RS.mono S1.le rs, R1, _, _, e2, fun η2 H2 xs S2 R2 rxs => ?_⟩⟩
        exact hf R2 (RV.mono S2.le rx) rxs e fun η3 H3 z S3 R3 rz => k η3 H3 z (Stp.trans (Stp.trans S1 R1 S2) R2 S3) R3 rz
    · cases e
theorem mt0_of {K : PySem.W.Frag} {T : String} {ck : CV → CH → Bool} {f : CV → List CV → CH → Option (CV × CH)} {r : V → List V → Hp → VK → Prop} (hc : Ck cc K T ck) (hf : VMt cc f r) {o : CE} {σ : L2.St} {H : Hp} {Q : VK} (q : eOf cc (cMt ck f o cNil) σ H Q) :
    tBM0 K T r (eOf cc o) σ H Q := by
  obtain ⟨η, h, s, rs, hr, w, h', e, k⟩ := q
  unfold cMt at e
  split at e
  · cases e
  · rename_i v h1 e1
    split at e
    · rename_i hck
      have e : f v [] h1 = some (w, h') := e
      refine ⟨η, h, s, rs, hr, _, _, e1, fun η1 H1 x S1 R1 rx => ⟨hc R1 rx hck, ?_⟩⟩
      exact hf R1 rx .nil e fun η3 H3 z S3 R3 rz => k η3 H3 z (Stp.trans S1 R1 S3) R3 rz
    · cases e
theorem kn_put {η : Em} {h : CH} {H : Hp} {n : Nat} {a : Addr} {xs : List CV} {ys : List V} {w : CV} {y : V} {Q : VK} (hr : HR cc η h H) (ea : η.as[n]? = some a) (r : RVs η xs ys) (rw' : RV η w y) (k : Kn cc η H w (h.set n (.lst xs)) Q) : Q y (upd H a (.lst ys)) := by
  obtain ⟨R, S⟩ := hr.put (o := .lst xs) (O := .lst ys) ea ⟨ys, rfl, r⟩
  exact k η _ y S R rw'
def mAppend : CV → List CV → CH → Option (CV × CH)
  | .ref a, [y], h => match h.get a with
    | some (.lst xs) => if xs.length ≤ 4000 then some (.non, h.set a (.lst (xs ++ [y]))) else none
    | _ => none
  | _, _, _ => none
theorem vAppend : VMt cc mAppend rAppend := by
  intro η h H v vs x xs w h' Q hr r1 r2 e k
  unfold mAppend at e
  split at e
  · obtain ⟨a, ea, rfl⟩ := r1
    obtain ⟨y, rfl, ry⟩ := pd1 r2
    split at e
    · rename_i zs e1
      split at e
      · rename_i hz
        cases e
        obtain ⟨ys, q1, p1⟩ := hr.lst e1 ea
        exact ⟨a, ys, y, rfl, rfl, q1, by rw [← p1.length]; exact Nat.lt_of_le_of_lt hz (by rw [sizeLine_eq]; decide), kn_put (w := .non) (y := .non) hr ea (Pd.app p1 (.cons ry .nil)) rfl k⟩
      · cases e
    · cases e
  · cases e
def mInsert : CV → List CV → CH → Option (CV × CH)
  | .ref a, [.int i, y], h => match h.get a with
    | some (.lst xs) => if decide (xs.length ≤ 4000) && (decide (0 ≤ i) && decide (i ≤ 1000000)) then some (.non, h.set a (.lst (xs.take i.toNat ++ [y] ++ xs.drop i.toNat))) else none
    | _ => none
  | _, _, _ => none
theorem vInsert : VMt cc mInsert (fun x vs H Q => ∃ (l : Addr) (xs : List V) (i : Int) (y : V), x = .ref l ∧ vs = [.int i, y] ∧ H l = some (.lst xs) ∧ xs.length < sizeLine ∧ 0 ≤ i ∧ i < 2 ^ 63 ∧
    Q .non (upd H l (.lst (xs.take i.toNat ++ [y] ++ xs.drop i.toNat)))) := by
  intro η h H v vs x xs w h' Q hr r1 r2 e k
  unfold mInsert at e
  split at e
  · obtain ⟨a, ea, rfl⟩ := r1
    obtain ⟨yi, y, rfl, ri, ry⟩ := pd2 r2
    obtain rfl : yi = .int _ := ri
    split at e
    · rename_i zs e1
      split at e
      · rename_i hz
        simp only [Bool.and_eq_true, decide_eq_true_eq] at hz
        cases e
        obtain ⟨ys, q1, p1⟩ := hr.lst e1 ea
        exact ⟨a, ys, _, y, rfl, rfl, q1, by rw [← p1.length]; exact Nat.lt_of_le_of_lt hz.1 (by rw [sizeLine_eq]; decide), hz.2.1, by omega, kn_put (w := .non) (y := .non) hr ea (Pd.app (Pd.app (Pd.take _ p1) (.cons ry .nil)) (Pd.drop _ p1)) rfl k⟩
      · cases e
    · cases e
  · cases e
def mPop : CV → List CV → CH → Option (CV × CH)
  | .ref a, [.int i], h => match h.get a with
    | some (.lst xs) => if decide (-1000000 ≤ i) && decide (i ≤ 1000000) then (match seqIndex? i xs.length with
      | some j => (match xs[j]? with
        | some y => some (y, h.set a (.lst (xs.eraseIdx j)))
        | none => none)
      | none => none) else none
    | _ => none
  | _, _, _ => none
theorem vPop : VMt cc mPop rPopAt := by
  intro η h H v vs x xs w h' Q hr r1 r2 e k
  unfold mPop at e
  split at e
  · obtain ⟨a, ea, rfl⟩ := r1
    obtain ⟨yi, rfl, ri⟩ := pd1 r2
    obtain rfl : yi = .int _ := ri
    split at e
    · rename_i zs e1
      split at e
      · rename_i hz
        simp only [Bool.and_eq_true, decide_eq_true_eq] at hz
        split at e
        · rename_i j ej
          split at e
          · rename_i y ey
            cases e
            obtain ⟨ys, q1, p1⟩ := hr.lst e1 ea
            obtain ⟨y', ey', ry⟩ := Pd.get p1 ey
            exact ⟨a, ys, _, j, y', rfl, rfl, q1, by omega, by omega, by rw [← p1.length]; exact ej, ey', kn_put hr ea (Pd.erase j p1) ry k⟩
          · cases e
        · cases e
      · cases e
    · cases e
  · cases e
def mPopEnd : CV → List CV → CH → Option (CV × CH)
  | .ref a, [], h => match h.get a with
    | some (.lst xs) => (match xs[xs.length - 1]? with
      | some y => some (y, h.set a (.lst xs.dropLast))
      | none => none)
    | _ => none
  | _, _, _ => none
theorem vPopEnd : VMt cc mPopEnd rPop := by
  intro η h H v vs x xs w h' Q hr r1 r2 e k
  unfold mPopEnd at e
  split at e
  · obtain ⟨a, ea, rfl⟩ := r1
    cases r2
    split at e
    · rename_i zs e1
      split at e
      · rename_i y ey
        cases e
        obtain ⟨ys, q1, p1⟩ := hr.lst e1 ea
        obtain ⟨y', ey', ry⟩ := Pd.get p1 ey
        exact ⟨a, ys, y', rfl, rfl, q1, by rw [← p1.length]; exact ey', kn_put hr ea (Pd.dropLast p1) ry k⟩
      · cases e
    · cases e
  · cases e
/-- the first place of an equal item, all kinds told apart up to it -/
def cIdx (y : CV) : List CV → Nat → Option Nat
  | [], _ => none
  | z :: zs, j => match ceq z y with
    | some true => some j
    | some false => cIdx y zs (j + 1)
    | none => none
theorem cIdx_of {η : Em} {h : CH} {H : Hp} (hr : HR cc η h H) {y : CV} {y' : V} (ry : RV η y y') : ∀ {zs : List CV} {ys : List V} {j0 j : Nat}, RVs η zs ys → cIdx y zs j0 = some j →
    ∃ m z, j = j0 + m ∧ ys[m]? = some z ∧ eqV z y' = true ∧ ∀ (n : Nat) (z' : V), n < m → ys[n]? = some z' → eqV z' y' = false
  | _, _, _, _, .nil, e => by cases e
  | a :: as, b :: bs, j0, j, .cons r rs, e => by
    unfold cIdx at e
    split at e
    · rename_i ec
      cases e
      have q := ceq_of hr r ry ec
      exact ⟨0, b, rfl, rfl, q.e1, fun n z' hn => absurd hn (Nat.not_lt_zero n)⟩
    · rename_i ec
      have q := ceq_of hr r ry ec
      obtain ⟨m, z, h1, h2, h3, h4⟩ := cIdx_of hr ry rs e
      refine ⟨m + 1, z, by omega, h2, h3, fun n z' hn hz => ?_⟩
      cases n with
      | zero => cases hz; exact q.e1
      | succ n => exact h4 n z' (by omega) hz
    · cases e
theorem allFlat_of {η : Em} : ∀ {zs : List CV} {ys : List V}, RVs η zs ys → zs.all isFlat = true → ys.all flatV = true
  | _, _, .nil, _ => rfl
  | a :: as, b :: bs, .cons r rs, e => by
    rw [List.all_cons, Bool.and_eq_true] at e
    rw [List.all_cons, flat_of r e.1, allFlat_of rs e.2]; rfl
def mIndex : CV → List CV → CH → Option (CV × CH)
  | .ref a, [y], h => match h.get a with
    | some (.lst xs) => if isFlat y && xs.all isFlat then (match cIdx y xs 0 with
      | some j => some (.int j, h)
      | none => none) else none
    | _ => none
  | _, _, _ => none
theorem vIndex {K : PySem.W.Frag} : VMt cc mIndex (rIndex K) := by
  intro η h H v vs x xs w h' Q hr r1 r2 e k
  unfold mIndex at e
  split at e
  · obtain ⟨a, ea, rfl⟩ := r1
    obtain ⟨y', rfl, ry⟩ := pd1 r2
    split at e
    · rename_i zs e1
      split at e
      · rename_i hf
        rw [Bool.and_eq_true] at hf
        split at e
        · rename_i j ej
          cases e
          obtain ⟨ys, q1, p1⟩ := hr.lst e1 ea
          obtain ⟨m, z, h1, h2, h3, h4⟩ := cIdx_of hr ry p1 ej
          have hj : j = m := by omega
          subst hj
          exact ⟨a, ys, y', j, z, rfl, rfl, SqL.of q1, flat_of ry hf.1, allFlat_of p1 hf.2, h2, h3, h4, kn_same hr k rfl⟩
        · cases e
      · cases e
    · cases e
  · cases e
/-- the texts of a list -/
def strsOf : List CV → Option (List (List Nat))
  | [] => some []
  | .str x :: r => (match strsOf r with | some xs => some (x :: xs) | none => none)
  | _ :: _ => none
theorem strsOf_of {η : Em} : ∀ {zs : List CV} {ys : List V} {xs : List (List Nat)}, RVs η zs ys → strsOf zs = some xs → ys = (xs.map Tx).map V.str
  | _, _, xs, .nil, e => by cases e; rfl
  | a :: as, b :: bs, xs, .cons r rs, e => by
    cases a with
    | str x =>
      unfold strsOf at e
      split at e
      · rename_i ys ey
        cases e
        rw [strsOf_of rs ey, show b = .str (Tx x) from r]
        rfl
      · cases e
    | _ => cases e
def mJoin : CV → List CV → CH → Option (CV × CH)
  | .str a, [.ref p], h => match h.get p with
    | some (.lst zs) => (match strsOf zs with
      | some xs => if (xs.map List.length).sum + xs.length * a.length ≤ 4000 then some (.str (TL.joinL a xs), h) else none
      | none => none)
    | _ => none
  | _, _, _ => none
theorem tl_Tx (l : List Nat) : TL.tl (Tx l) = l := by simp [TL.tl, Tx]
theorem Tx_tl (x : Str) : Tx (TL.tl x) = x := by simp [TL.tl, Tx]
theorem join_Tx (a : List Nat) (xs : List (List Nat)) : Txt.join (Tx a) (xs.map Tx) = Tx (TL.joinL a xs) := by
  rw [TL.join_eq, ← Tx_tl (Str.join (Tx a) (xs.map Tx)), TL.tl_join, tl_Tx, List.map_map]
  have e : (TL.tl ∘ Tx) = id := funext fun l => tl_Tx l
  rw [e, List.map_id]
theorem vJoin {K : PySem.W.Frag} : VMt cc mJoin (fun x xs H Q => ∃ a p, ∃ ys : List Str, x = .str a ∧ xs = [.ref p] ∧ (SqL K H p (ys.map V.str) ∨ SqT K H p (ys.map V.str)) ∧
    (ys.map (·.length)).sum + ys.length * a.length ≤ 16777216 ∧ Q (.str (Txt.join a ys)) H) := by
  intro η h H v vs x xs w h' Q hr r1 r2 e k
  unfold mJoin at e
  split at e
  · obtain ⟨y', rfl, p, ep, rfl⟩ := pd1 r2
    split at e
    · rename_i zs e1
      split at e
      · rename_i xs es
        split at e
        · rename_i hz
          cases e
          obtain ⟨ys, q1, p1⟩ := hr.lst e1 ep
          refine ⟨_, p, xs.map Tx, r1, rfl, .inl (SqL.of (by rw [q1, strsOf_of p1 es])), ?_, ?_⟩
          · rw [List.map_map, List.length_map, Tx_len]
            have e3 : ((fun y : Str => y.length) ∘ Tx) = List.length := funext fun l => Tx_len l
            rw [e3]
            omega
          · rw [join_Tx]
            exact kn_same hr k rfl
        · cases e
      · cases e
    · cases e
  · cases e
def mCount : CV → List CV → CH → Option (CV × CH)
  | .str a, [.str b], h => some (.int (Txt.count (Tx a) (Tx b)), h)
  | _, _, _ => none
theorem vCount : VMt cc mCount (fun x xs H Q => ∃ a b, x = .str a ∧ xs = [.str b] ∧ Q (.int (Txt.count a b)) H) := by
  intro η h H v vs x xs w h' Q hr r1 r2 e k
  unfold mCount at e
  split at e
  · obtain ⟨y', rfl, ry⟩ := pd1 r2
    cases e
    exact ⟨_, _, r1, by rw [show y' = _ from ry], kn_same hr k rfl⟩
  · cases e
section
variable {o e e2 : Expr} {co : CE} {ca : CA} {apos cpos : Pos}
theorem ke_append (ho : PE X o (eOf cc co)) (ha : PA X [e] (aOf cc ca)) (hbase : attributeBase o "append" X.env (eval o X.env) = eval o X.env := by rfl)
    (hfew : ((backTo cpos (starEach [e] X.env)).all (fun x => !x.1) && (backToKw cpos (keywordEach [] X.env)).all (fun x => x.1.isSome) && decide (([e] : List Expr).length + ([] : List Keyword).length + (if ([] : List Keyword).isEmpty then 0 else 1) < 30)) = true := by rfl)
    (hline : (apos.endLine == cpos.line) = true := by rfl) (hs : starEach [e] X.env = (false, eval e X.env) :: starEach [] X.env := by rfl) : PE X (.Call (.Attribute o "append" apos) [e] [] cpos) (eOf cc (cMt isL mAppend co ca)) :=
  pe_imp (pe_bm PySem.F.plainAttrs_list PySem.F.slot_list_append PySem.F.type_list_append mt_append ho ha hbase hfew hline hs) fun _ _ _ q => mt_of ck_list vAppend q
theorem ke_popAt (ho : PE X o (eOf cc co)) (ha : PA X [e] (aOf cc ca)) (hbase : attributeBase o "pop" X.env (eval o X.env) = eval o X.env := by rfl)
    (hfew : ((backTo cpos (starEach [e] X.env)).all (fun x => !x.1) && (backToKw cpos (keywordEach [] X.env)).all (fun x => x.1.isSome) && decide (([e] : List Expr).length + ([] : List Keyword).length + (if ([] : List Keyword).isEmpty then 0 else 1) < 30)) = true := by rfl)
    (hline : (apos.endLine == cpos.line) = true := by rfl) (hs : starEach [e] X.env = (false, eval e X.env) :: starEach [] X.env := by rfl) : PE X (.Call (.Attribute o "pop" apos) [e] [] cpos) (eOf cc (cMt isL mPop co ca)) :=
  pe_imp (pe_bm PySem.F.plainAttrs_list PySem.F.slot_list_pop PySem.F.type_list_pop mt_popAt ho ha hbase hfew hline hs) fun _ _ _ q => mt_of ck_list vPop q
theorem ke_pop0 (ho : PE X o (eOf cc co)) (hbase : attributeBase o "pop" X.env (eval o X.env) = eval o X.env := by rfl) (hline : (apos.endLine == cpos.line) = true := by rfl) : PE X (.Call (.Attribute o "pop" apos) [] [] cpos) (eOf cc (cMt isL mPopEnd co cNil)) :=
  pe_imp (pe_bm0 PySem.F.plainAttrs_list PySem.F.slot_list_pop PySem.F.type_list_pop mt_pop ho hbase hline) fun _ _ _ q => mt0_of ck_list vPopEnd q
theorem ke_insert (ho : PE X o (eOf cc co)) (ha : PA X [e, e2] (aOf cc ca)) (hbase : attributeBase o "insert" X.env (eval o X.env) = eval o X.env := by rfl)
    (hfew : ((backTo cpos (starEach [e, e2] X.env)).all (fun x => !x.1) && (backToKw cpos (keywordEach [] X.env)).all (fun x => x.1.isSome) && decide (([e, e2] : List Expr).length + ([] : List Keyword).length + (if ([] : List Keyword).isEmpty then 0 else 1) < 30)) = true := by rfl)
    (hline : (apos.endLine == cpos.line) = true := by rfl) (hs : starEach [e, e2] X.env = (false, eval e X.env) :: starEach [e2] X.env := by rfl) (hplain : (backTo cpos (starEach [e2] X.env)).any (·.1) = false := by rfl) : PE X (.Call (.Attribute o "insert" apos) [e, e2] [] cpos) (eOf cc (cMt isL mInsert co ca)) :=
  pe_imp (pe_bm PySem.F.plainAttrs_list PySem.F.slot_list_insert PySem.F.type_list_insert mt_insert ho ha hbase hfew hline hs hplain) fun _ _ _ q => mt_of ck_list vInsert q
theorem ke_index (ho : PE X o (eOf cc co)) (ha : PA X [e] (aOf cc ca)) (hbase : attributeBase o "index" X.env (eval o X.env) = eval o X.env := by rfl)
    (hfew : ((backTo cpos (starEach [e] X.env)).all (fun x => !x.1) && (backToKw cpos (keywordEach [] X.env)).all (fun x => x.1.isSome) && decide (([e] : List Expr).length + ([] : List Keyword).length + (if ([] : List Keyword).isEmpty then 0 else 1) < 30)) = true := by rfl)
    (hline : (apos.endLine == cpos.line) = true := by rfl) (hs : starEach [e] X.env = (false, eval e X.env) :: starEach [] X.env := by rfl) : PE X (.Call (.Attribute o "index" apos) [e] [] cpos) (eOf cc (cMt isL mIndex co ca)) :=
  pe_imp (pe_bm PySem.F.plainAttrs_list PySem.F.slot_list_index PySem.F.type_list_index mt_index ho ha hbase hfew hline hs) fun _ _ _ q => mt_of ck_list vIndex q
theorem ke_join (ho : PE X o (eOf cc co)) (ha : PA X [e] (aOf cc ca)) (hbase : attributeBase o "join" X.env (eval o X.env) = eval o X.env := by rfl)
    (hfew : ((backTo cpos (starEach [e] X.env)).all (fun x => !x.1) && (backToKw cpos (keywordEach [] X.env)).all (fun x => x.1.isSome) && decide (([e] : List Expr).length + ([] : List Keyword).length + (if ([] : List Keyword).isEmpty then 0 else 1) < 30)) = true := by rfl)
    (hline : (apos.endLine == cpos.line) = true := by rfl) (hs : starEach [e] X.env = (false, eval e X.env) :: starEach [] X.env := by rfl) : PE X (.Call (.Attribute o "join" apos) [e] [] cpos) (eOf cc (cMt isS mJoin co ca)) :=
  pe_imp (pe_bm PySem.F.plainAttrs_str PySem.F.slot_str_join PySem.F.type_str_join mt_join ho ha hbase hfew hline hs) fun _ _ _ q => mt_of ck_str vJoin q
theorem ke_count (ho : PE X o (eOf cc co)) (ha : PA X [e] (aOf cc ca)) (hbase : attributeBase o "count" X.env (eval o X.env) = eval o X.env := by rfl)
    (hfew : ((backTo cpos (starEach [e] X.env)).all (fun x => !x.1) && (backToKw cpos (keywordEach [] X.env)).all (fun x => x.1.isSome) && decide (([e] : List Expr).length + ([] : List Keyword).length + (if ([] : List Keyword).isEmpty then 0 else 1) < 30)) = true := by rfl)
    (hline : (apos.endLine == cpos.line) = true := by rfl) (hs : starEach [e] X.env = (false, eval e X.env) :: starEach [] X.env := by rfl) : PE X (.Call (.Attribute o "count" apos) [e] [] cpos) (eOf cc (cMt isS mCount co ca)) :=
  pe_imp (pe_bm PySem.F.plainAttrs_str PySem.F.slot_str_count PySem.F.type_str_count mt_count ho ha hbase hfew hline hs) fun _ _ _ q => mt_of ck_str vCount q
end

/-! ### a def as a whole -/
def cstart (n : Nat) (xs : List CV) : CS := xs.map some ++ List.replicate (n - xs.length) none
def cDef (k n : Nat) (b : CP) : List CV → CH → Option (CV × CH) := fun xs h => if xs.length = k then (match b (cstart n xs) h with
  | some (.nx, _, h1) => some (.non, h1)
  | some (.rt v, _, h1) => some (v, h1)
  | _ => none) else none
theorem start_rs {η : Em} {N : List Str} {xs : List CV} {vs : List V} (p : RVs η xs vs) : RS η (cstart N.length xs) (L2.start N vs) := by
  unfold cstart L2.start
  refine ⟨by rw [List.length_append, List.length_append, List.length_map, List.length_map, List.length_replicate, List.length_replicate, p.length], fun i v e => ?_⟩
  by_cases hi : i < xs.length
  · rw [List.getElem?_append_left (by rw [List.length_map]; exact hi), List.getElem?_map] at e
    cases q : xs[i]? with
    | none => rw [q] at e; cases e
    | some u =>
      rw [q] at e
      cases e
      obtain ⟨y, ey, ry⟩ := Pd.get p q
      refine ⟨y, ?_, ry⟩
      rw [List.getElem?_append_left (by rw [List.length_map, ← p.length]; exact hi), List.getElem?_map, ey]
      rfl
  · rw [List.getElem?_append_right (by rw [List.length_map]; omega), List.getElem?_replicate] at e
    split at e <;> cases e
theorem spOf_len {k n : Nat} {b : CP} {vs : List V} {H : Hp} {Q : VK} {E : XK} (q : spOf cc (cDef k n b) vs H Q E) : vs.length = k := by
  obtain ⟨η, h, xs, p, hr, v, h', e, _⟩ := q
  unfold cDef at e
  split at e
  · rename_i hl; rw [← p.length]; exact hl
  · cases e
theorem def_of {N : List Str} {k : Nat} {b : CP} {vs : List V} {H : Hp} {Q : VK} {E : XK} (q : spOf cc (cDef k N.length b) vs H Q E) : sOf cc b { nx := fun _ H' => Q .non H', rt := Q } (L2.start N vs) H := by
  obtain ⟨η, h, xs, p, hr, v, h', e, kk⟩ := q
  unfold cDef at e
  split at e
  · split at e
    · rename_i s1 h1 e1
      cases e
      exact ⟨η, h, _, start_rs p, hr, _, _, _, e1, fun η' H' σ' S R rs => kk η' H' _ S R rfl⟩
    · rename_i v1 s1 h1 e1
      cases e
      exact ⟨η, h, _, start_rs p, hr, _, _, _, e1, fun η' H' σ' S R rs v' rv => kk η' H' v' S R rv⟩
    · cases e
  · cases e
/-- a def keeps the promise of its plain function -/
theorem def_ok {P : Program} {w : World} {K : PySem.W.Frag} {mg : Str → Option Value} {base : Heap} {x qual : Str} {st : Stmt} {f : Addr} {fd : FuncData} {N ps : List Str} {k : Nat} {b : CP} (F : Fun K x qual st f fd) (S : FnScope N ps (defScope st))
    (hb : ∀ (cdv : Value) (A : Around) (outer : List Env) (s : Shared) (H : Hp) (E : XK), Room k (A.deeper (envOfC qual (defScope st) s.heap.objs.size f cdv)) → PSs (cxOf CX0 P w K mg base N qual (defScope st) f cdv A outer s H E).nox (defBody st) (sOf cc b)) :
    FnOk P w K mg base CX0 (k + 1) f fd ps (spOf cc (cDef ps.length N.length b)) :=
  F.ok S (fun vs H Q E q => spOf_len q) fun cdv A outer s H vs Q E hr q => ⟨sOf cc b, hb cdv A outer s H E hr, def_of q⟩
end CK

/-! CK: own defs, bundled. -/
namespace CK
open PySem L2 PyProof.Rows
variable {X : Cx} {cc : Nat → Addr}
/-- an own def of the module that keeps the promise sp -/
structure OwnS (P : Program) (w : World) (K : PySem.W.Frag) (mg : Str → Option Value) (base : Heap) (k : Nat) (x : Str) (ps : List Str) (sp : Sp) : Prop where
  ex : ∃ f fd, FnOk P w K mg base CX0 k f fd ps sp ∧ mg x = some (.ref f) ∧ PySem.W.keepIn K (.ref f) = true ∧ Binds K fd ps []
abbrev Own (P : Program) (w : World) (K : PySem.W.Frag) (mg : Str → Option Value) (base : Heap) (cc : Nat → Addr) (k : Nat) (x : Str) (ps : List Str) (g : List CV → CH → Option (CV × CH)) : Prop := OwnS P w K mg base k x ps (spOf cc g)
theorem ke_own {k : Nat} {x : Str} {p pos : Pos} {e : Expr} {es : List Expr} {ca : CA} {ps : List Str} {g : List CV → CH → Option (CV × CH)} (O : Own X.prog X.w X.K X.mg X.base cc k x ps g) (hr : Room k X.A) (ha : PA X (e :: es) (aOf cc ca)) (hg : Gl X x := by rfl)
    (hdb : (x == ("__debug__" : Str)) = false := by decide) (he : starEach (e :: es) X.env = (false, eval e X.env) :: starEach es X.env := by rfl) (hpl : (backTo pos (starEach es X.env)).any (·.1) = false := by rfl) :
    PE X (.Call (.Name x p) (e :: es) [] pos) (eOf cc (cCb g ca)) := by
  obtain ⟨f, fd, F, hm, hk, hb⟩ := O.ex
  exact ke_call F hr hg hm hk hb ha hdb he hpl
def tOwn (sp : Sp) (ta : TA) : TE := fun σ H Q => ta σ H fun vs H1 => sp vs H1 Q E0
/-- the same over readings -/
theorem pe_own {k : Nat} {x : Str} {p pos : Pos} {e : Expr} {es : List Expr} {ta : TA} {ps : List Str} {sp : Sp} (O : OwnS X.prog X.w X.K X.mg X.base k x ps sp) (hr : Room k X.A) (ha : PA X (e :: es) ta) (hg : Gl X x := by rfl)
    (hdb : (x == ("__debug__" : Str)) = false := by decide) (he : starEach (e :: es) X.env = (false, eval e X.env) :: starEach es X.env := by rfl) (hpl : (backTo pos (starEach es X.env)).any (·.1) = false := by rfl) :
    PE X (.Call (.Name x p) (e :: es) [] pos) (tOwn sp ta) := by
  obtain ⟨f, fd, F, hm, hk, hb⟩ := O.ex
  exact pe_imp (pe_call F hr hg hm hk hb .nil pass0 ha hdb he hpl) fun σ H Q q => by
    show ta σ H fun vs H1 => sp (vs ++ []) H1 Q E0
    simp only [List.append_nil]
    exact q
theorem kt_notInK {e : Expr} {ce : CE} {x : Str} {xs : List CV} {ys : List V} {aT : Addr} {p pos : Pos} (he : PE X e (eOf cc ce)) (hg : Gl X x) (hm : X.mg x = some (.ref aT)) (hT : ∀ H, SqT X.K H aT ys) (r : ∀ η, RVs η xs ys)
    (hd : (x == ("__debug__" : Str)) = false := by decide) (hmk : behindInMarks .NotIn (.Name x p) = false := by with_unfolding_all rfl) : PT X (.Compare e [.NotIn] [.Name x p] pos) (bOf cc (cTst (cUn (fNotInC xs) ce))) := by
  refine pt_imp (pt_cmpR op_notIn_seq he (pe_glob (v := .ref aT) hg hm rfl hd) hmk) fun σ H Q q => tst_of (fun σ H Q z => ?_) q
  refine un_of (r := fun x H1 Q' => rIn X.K true x (.ref aT) H1 Q') (f := fNotInC xs) ?_ z
  intro η h H v x w h' Q' hr r1 e k
  unfold fNotInC at e
  split at e
  · rename_i hf
    split at e
    · rename_i b eb
      cases e
      obtain ⟨h1, h2, _⟩ := cIn_of hr r1 (r η) eb
      refine ⟨aT, ys, rfl, .inr (hT _), flat_of r1 hf, h2, ?_⟩
      rw [h1]
      exact kn_same hr k rfl
    · cases e
  · cases e
end CK

/-! CK: a chain of three comparisons. -/
namespace CK
open PySem L2 PyProof.Rows
variable {X : Cx} {cc : Nat → Addr}
/-- a o b o' c o'' d, read -/
def tChain3 (r r' r'' : R2) (ta tb tc td : TE) : TE := fun σ H Q => ta σ H fun x H1 => tb σ H1 fun y H2 => r x y H2 fun z H3 => ∃ k, z = .bl k ∧
  (if k = true then tc σ H3 fun x' H4 => r' y x' H4 fun z' H5 => ∃ k', z' = .bl k' ∧ (if k' = true then td σ H5 fun y' H6 => r'' x' y' H6 Q else Q (.bl false) H5) else Q (.bl false) H3)
section
variable {a b c d : Expr} {pos : Pos}
theorem pe_chain3 {o1 o2 o3 : CmpOp} {r r' r'' : R2} {ta tb tc td : TE} (h1 : OpR X (compareOp o1) r) (h2 : OpR X (compareOp o2) r') (h3 : OpR X (compareOp o3) r'') (ha : PE X a ta) (hb : PE X b tb) (hc : PE X c tc) (hd : PE X d td)
    (hm : lastMarks [o1, o2, o3] [b, c, d] = false) : PE X (.Compare a [o1, o2, o3] [b, c, d] pos) (tChain3 r r' r'' ta tb tc td) := by
  refine ⟨fun pins s σ H Q I h => ?_⟩
  refine Compare_chain (thn (ha.run pins s σ H _ I h) fun v s1 ⟨x, H1, I1, r1, q1⟩ => chain_link (thn (hb.run pins s1 σ H1 _ I1 q1) fun u s2 ⟨y, H2, I2, r2, q2⟩ =>
    thn (h1 pins s2 σ H2 x y v u _ I2 r1 r2 q2) fun e s3 ⟨z, H3, I3, r3, k, e1, q3⟩ => ?_)) hm
  subst e1
  cases r3
  refine wpAny_truthy_bool ?_
  cases k with
  | false => exact ite_ff ⟨.bl false, H3, I3, rfl, q3⟩
  | true =>
    refine ite_tt (chain_link (thn (hc.run pins s3 σ H3 _ I3 q3) fun w1 s4 ⟨x', H4, I4, r4, q4⟩ => thn (h2 pins s4 σ H4 y x' u w1 _ I4 r2 r4 q4) fun e' s5 ⟨z', H5, I5, r5, k', e2, q5⟩ => ?_))
    subst e2
    cases r5
    refine wpAny_truthy_bool ?_
    cases k' with
    | false => exact ite_ff ⟨.bl false, H5, I5, rfl, q5⟩
    | true => exact ite_tt (chain_last (thn (hd.run pins s5 σ H5 _ I5 q5) fun w2 s6 ⟨y', H6, I6, r6, q6⟩ => h3 pins s6 σ H6 x' y' w1 w2 Q I6 r4 r6 q6))
end
def cChain3 (f g k : CV → CV → CH → Option (CV × CH)) (a b c d : CE) : CE := fun s h =>
  match a s h with
  | none => none
  | some (v, h1) => match b s h1 with
    | none => none
    | some (u, h2) => match f v u h2 with
      | some (.bl true, h3) => (match c s h3 with
        | none => none
        | some (w, h4) => match g u w h4 with
          | some (.bl true, h5) => (match d s h5 with
            | none => none
            | some (z, h6) => k w z h6)
          | some (.bl false, h5) => some (.bl false, h5)
          | _ => none)
      | some (.bl false, h3) => some (.bl false, h3)
      | _ => none
theorem chain3_of {f g k : CV → CV → CH → Option (CV × CH)} {r r' r'' : R2} (hf : VOp cc f r) (hg : VOp cc g r') (hk : VOp cc k r'') {a b c d : CE} {σ : L2.St} {H : Hp} {Q : VK}
    (q : eOf cc (cChain3 f g k a b c d) σ H Q) : tChain3 r r' r'' (eOf cc a) (eOf cc b) (eOf cc c) (eOf cc d) σ H Q := by
  obtain ⟨η, h, s, rs, hr, w, h', e, kk⟩ := q
  unfold cChain3 at e
  split at e
  · cases e
  · rename_i v h1 e1
    split at e
    · cases e
    · rename_i u h2 e2
      refine ⟨η, h, s, rs, hr, v, h1, e1, fun η1 H1 x S1 R1 rx => ⟨η1, h1, s, RS.mono S1.le rs, R1, u, h2, e2, fun η2 H2 y S2 R2 ry => ?_⟩⟩
      split at e
      · rename_i h3 e3
        split at e
        · cases e
        · rename_i z h4 e4
          refine hf R2 (RV.mono S2.le rx) ry e3 fun η3 H3 z3 S3 R3 rz => ⟨true, rz, ?_⟩
          refine iteT ?_
          refine ⟨η3, h3, s, RS.mono S3.le (RS.mono S2.le (RS.mono S1.le rs)), R3, _, _, e4, fun η4 H4 z4 S4 R4 rz4 => ?_⟩
          split at e
          · rename_i h5 e5
            split at e
            · cases e
            · rename_i z6 h6 e6
              refine hg R4 (RV.mono S4.le (RV.mono S3.le ry)) rz4 e5 fun η5 H5 z5 S5 R5 rz5 => ⟨true, rz5, ?_⟩
              refine iteT ?_
              refine ⟨η5, h5, s, RS.mono S5.le (RS.mono S4.le (RS.mono S3.le (RS.mono S2.le (RS.mono S1.le rs)))), R5, _, _, e6, fun η6 H6 z7 S6 R6 rz6 => ?_⟩
              exact hk R6 (RV.mono S6.le (RV.mono S5.le rz4)) rz6 e fun η7 H7 z8 S7 R7 rz8 => kk η7 H7 z8 (Stp.trans (Stp.trans (Stp.trans (Stp.trans (Stp.trans (Stp.trans S1 R1 S2) R2 S3) R3 S4) R4 S5) R5 S6) R6 S7) R7 rz8
          · rename_i h5 e5
            cases e
            refine hg R4 (RV.mono S4.le (RV.mono S3.le ry)) rz4 e5 fun η5 H5 z5 S5 R5 rz5 => ⟨false, rz5, ?_⟩
            refine iteF ?_
            exact kk η5 H5 _ (Stp.trans (Stp.trans (Stp.trans (Stp.trans S1 R1 S2) R2 S3) R3 S4) R4 S5) R5 rfl
          · cases e
      · rename_i h3 e3
        cases e
        refine hf R2 (RV.mono S2.le rx) ry e3 fun η3 H3 z3 S3 R3 rz => ⟨false, rz, ?_⟩
        refine iteF ?_
        exact kk η3 H3 _ (Stp.trans (Stp.trans S1 R1 S2) R2 S3) R3 rfl
      · cases e
section
variable {a b c d : Expr} {ca cb c3 c4 : CE} {pos : Pos} {o1 o2 o3 : CmpOp}
theorem ke_chain3 {f g k : CV → CV → CH → Option (CV × CH)} (m : Cmp cc X o1 f) (m' : Cmp cc X o2 g) (m'' : Cmp cc X o3 k) (ha : PE X a (eOf cc ca)) (hb : PE X b (eOf cc cb)) (h3 : PE X c (eOf cc c3)) (h4 : PE X d (eOf cc c4))
    (hm : lastMarks [o1, o2, o3] [b, c, d] = false := by with_unfolding_all rfl) :
    PE X (.Compare a [o1, o2, o3] [b, c, d] pos) (eOf cc (cChain3 f g k ca cb c3 c4)) := by
  obtain ⟨r, o, v⟩ := m.ex
  obtain ⟨r', o', v'⟩ := m'.ex
  obtain ⟨r'', o'', v''⟩ := m''.ex
  exact pe_imp (pe_chain3 o o' o'' ha hb h3 h4 hm) fun _ _ _ q => chain3_of v v' v'' q
end
end CK

/-! CK: the law's own comparison, at any depth. -/
namespace CK
open PySem L2 PyProof.Rows

/-- the same data, n deep -/
def Alk (H : Hp) : Nat → V → V → Prop
  | 0, x, y => x = y ∧ (x = .non ∨ (∃ b, x = .bl b) ∨ (∃ i, x = .int i) ∨ ∃ s, x = .str s)
  | n + 1, x, y => Alk H n x y ∨ ∃ a b xs ys, x = .ref a ∧ y = .ref b ∧ ((H a = some (.lst xs) ∧ H b = some (.lst ys)) ∨ (H a = some (.tup xs) ∧ H b = some (.tup ys))) ∧ Paired (Alk H n) xs ys ∧ xs.length ≤ 4000
theorem Alk.same {H H' : Hp} (s : Same H H') : ∀ {n : Nat} {x y : V}, Alk H n x y → Alk H' n x y
  | 0, _, _, h => h
  | n + 1, x, y, h => by
    rcases h with h | ⟨a, b, xs, ys, ex, ey, ho, p, hl⟩
    · exact .inl (Alk.same s h)
    · refine .inr ⟨a, b, xs, ys, ex, ey, ?_, Paired.mapP p fun _ _ q => Alk.same s q, hl⟩
      rcases ho with ⟨h1, h2⟩ | ⟨h1, h2⟩
      · exact .inl ⟨s _ _ h1, s _ _ h2⟩
      · exact .inr ⟨s _ _ h1, s _ _ h2⟩
def spAlk (n : Nat) : Sp := fun vs H Q _ => ∃ x y, vs = [x, y] ∧ Alk H n x y ∧ ∀ H', Same H H' → Q (.bl true) H'
/-- isinstance of a slot's value -/
theorem isi_rd {K : PySem.W.Frag} {σ : L2.St} {H : Hp} {Q : VK} {i : Nat} {x : V} {n m : String} {b : Bool} (hv : σ[i]? = some (some x)) (ty : TyOf K H x (.type n)) (k : kitB n m = some b) (q : Q (.bl b) H) :
    tCB (rIsi K) (tCons (tVar i) (tCons (tC (.ty m)) tNil)) σ H Q := ⟨x, hv, x, .ty m, .type n, .type m, b, rfl, .ty m, .base ty, kit_ty k, q⟩
theorem yes_rd {σ : L2.St} {H : Hp} {A B : Hp → Prop} (h : A H) : tYes σ H (fun b H3 => if b = true then A H3 else B H3) := by
  show if true = true then A H else B H
  rw [if_pos rfl]
  exact h
theorem kb1 : kitB "bool" "bool" = some true := by decide +kernel
theorem kb2 : kitB "int" "bool" = some false := by decide +kernel
theorem kb3 : kitB "int" "int" = some true := by decide +kernel
theorem kb4 : kitB "str" "bool" = some false := by decide +kernel
theorem kb5 : kitB "str" "int" = some false := by decide +kernel
theorem kb6 : kitB "str" "str" = some true := by decide +kernel
theorem kb7 : kitB "list" "bool" = some false := by decide +kernel
theorem kb8 : kitB "list" "int" = some false := by decide +kernel
theorem kb9 : kitB "list" "str" = some false := by decide +kernel
theorem kb10 : kitB "list" "tuple" = some false := by decide +kernel
theorem kb11 : kitB "list" "list" = some true := by decide +kernel
theorem kb12 : kitB "tuple" "bool" = some false := by decide +kernel
theorem kb13 : kitB "tuple" "int" = some false := by decide +kernel
theorem kb14 : kitB "tuple" "str" = some false := by decide +kernel
theorem kb15 : kitB "tuple" "tuple" = some true := by decide +kernel
theorem kb16 : kitB "tuple" "list" = some false := by decide +kernel
theorem boot_all' : bootBuiltins "all" = some (.builtin "all") := by decide +kernel
theorem boot_isi : bootBuiltins "isinstance" = some (.builtin "isinstance") := by decide +kernel
theorem boot_bool' : bootBuiltins "bool" = some (.type "bool") := by decide +kernel
theorem boot_int' : bootBuiltins "int" = some (.type "int") := by decide +kernel
theorem boot_str' : bootBuiltins "str" = some (.type "str") := by decide +kernel
theorem boot_tuple' : bootBuiltins "tuple" = some (.type "tuple") := by decide +kernel
theorem boot_list' : bootBuiltins "list" = some (.type "list") := by decide +kernel
end CK

/-! CK: calls that leave what was there; reading results. -/
namespace CK
open PySem L2 PyProof.Rows
variable {cc : Nat → Addr}

theorem RV.fn {η : Em} {v : CV} {x y : V} (a : RV η v x) (b : RV η v y) : x = y := by
  cases v with
  | ref n =>
    obtain ⟨p, e, rfl⟩ := a
    obtain ⟨q, f, rfl⟩ := b
    rw [e] at f
    cases f
    rfl
  | non => exact (show x = _ from a).trans (show y = _ from b).symm
  | bl z => exact (show x = _ from a).trans (show y = _ from b).symm
  | int z => exact (show x = _ from a).trans (show y = _ from b).symm
  | str z => exact (show x = _ from a).trans (show y = _ from b).symm
  | ty z => exact (show x = _ from a).trans (show y = _ from b).symm
  | off z => exact (show x = _ from a).trans (show y = _ from b).symm
  | opq => exact (show x = _ from a).trans (show y = _ from b).symm
  | key z => exact (show x = _ from a).trans (show y = _ from b).symm
theorem RVs.fn {η : Em} : ∀ {vs : List CV} {xs ys : List V}, RVs η vs xs → RVs η vs ys → xs = ys
  | _, _, _, .nil, .nil => rfl
  | _, _, _, .cons a s, .cons b t => by rw [RV.fn a b, RVs.fn s t]
def noIns : CO → Bool
  | .ins _ _ => false
  | _ => true
theorem RO.fn {η : Em} {o : CO} {x y : HO} (n : noIns o = true) (a : RO η o x) (b : RO η o y) : x = y := by
  cases o with
  | lst xs =>
    obtain ⟨p, rfl, r⟩ := a
    obtain ⟨q, rfl, s⟩ := b
    rw [RVs.fn r s]
  | tup xs =>
    obtain ⟨p, rfl, r⟩ := a
    obtain ⟨q, rfl, s⟩ := b
    rw [RVs.fn r s]
  | ins _ _ => cases n
/-- every old object is as it was -/
def Keeps (h h' : CH) : Prop := ∀ (i : Nat) (o : CO), h.get i = some o → noIns o = true ∧ h'.get i = some o
theorem keeps_same {η η' : Em} {h h' : CH} {H H' : Hp} (hr : HR cc η h H) (S : Stp η H η' H') (R : HR cc η' h' H') (k : Keeps h h') : Same H H' := fun b O e => by
  by_cases m : b ∈ η.as
  · obtain ⟨n, hn⟩ := List.getElem?_of_mem m
    have hl : n < h.length := by rw [← hr.len]; exact (List.getElem?_eq_some_iff.mp hn).1
    obtain ⟨o, eo⟩ := CH.get_some hr.wf hl
    obtain ⟨O1, q1, r1⟩ := hr.ob n b o hn eo
    rw [e] at q1
    cases q1
    obtain ⟨ni, ek⟩ := k n o eo
    obtain ⟨O2, q2, r2⟩ := R.ob n b o (S.le.get hn) ek
    rw [q2, RO.fn ni (RO.mono S.le r1) r2]
  · exact S.fr b O m e
/-- structural equality, as a test -/
def cveq : CV → CV → Bool
  | .non, .non => true
  | .bl a, .bl b => a == b
  | .int a, .int b => a == b
  | .str a, .str b => a == b
  | .ref a, .ref b => Nat.beq a b
  | .key a, .key b => Nat.beq a b
  | .off a, .off b => a == b
  | _, _ => false
theorem cveq_eq {a b : CV} (h : cveq a b = true) : a = b := by
  cases a <;> cases b <;> first
    | rfl
    | (exact absurd h Bool.false_ne_true)
    | (rw [show _ = _ from eq_of_beq (show (_ == _) = true from h)])
    | (rw [Nat.eq_of_beq_eq_true (show Nat.beq _ _ = true from h)])
def cvseq : List CV → List CV → Bool
  | [], [] => true
  | a :: as, b :: bs => cveq a b && cvseq as bs
  | _, _ => false
theorem cvseq_eq : ∀ {a b : List CV}, cvseq a b = true → a = b
  | [], [], _ => rfl
  | a :: as, b :: bs, h => by
    have h : (cveq a b && cvseq as bs) = true := h
    rw [Bool.and_eq_true] at h
    rw [cveq_eq h.1, cvseq_eq h.2]
  | [], _ :: _, h => absurd h Bool.false_ne_true
  | _ :: _, [], h => absurd h Bool.false_ne_true
def coeq : CO → CO → Bool
  | .lst a, .lst b => cvseq a b
  | .tup a, .tup b => cvseq a b
  | _, _ => false
theorem coeq_eq {a b : CO} (h : coeq a b = true) : a = b ∧ noIns a = true := by
  cases a <;> cases b <;> first
    | (exact absurd h Bool.false_ne_true)
    | (exact ⟨by rw [cvseq_eq (show cvseq _ _ = true from h)], rfl⟩)
/-- the first objects of h' are os -/
def kept (h' : CH) : Nat → List CO → Bool
  | _, [] => true
  | i, o :: os => (match h'.get i with
    | some o' => coeq o o'
    | none => false) && kept h' (i + 1) os
theorem kept_get {h' : CH} : ∀ {os : List CO} {i : Nat}, kept h' i os = true → ∀ (j : Nat) (o : CO), os[j]? = some o → noIns o = true ∧ h'.get (i + j) = some o
  | [], _, _, j, o, e => by simp at e
  | o :: os, i, h, j, o', e => by
    unfold kept at h
    rw [Bool.and_eq_true] at h
    cases j with
    | zero =>
      cases e
      have h1 := h.1
      split at h1
      · rename_i q eq
        obtain ⟨e1, e2⟩ := coeq_eq h1
        rw [e1] at e2 ⊢
        exact ⟨e2, eq⟩
      · cases h1
    | succ j =>
      have q := kept_get h.2 j o' (by simpa using e)
      have e3 : i + 1 + j = i + (j + 1) := by omega
      rw [e3] at q
      exact q
theorem CH.of_get (os : List CO) (i : Nat) : (CH.of os).get i = os[i]? := by
  rw [CH.get_eq]
  show (if i < os.length then os.reverse[os.length - 1 - i]? else none) = _
  by_cases c : i < os.length
  · rw [if_pos c, List.getElem?_reverse (by omega)]
    congr 1
    omega
  · rw [if_neg c, List.getElem?_eq_none (by omega)]
theorem keeps_of {os : List CO} {h' : CH} (k : kept h' 0 os = true) : Keeps (CH.of os) h' := fun i o e => by
  rw [CH.of_get] at e
  have q := kept_get k i o e
  rw [Nat.zero_add] at q
  exact q
/-- some objects that stand in H -/
theorem HR.of {t : Int} {κ : Nat → Int} (hκ : ∀ i j, i < j → κ i < κ j) {as : List Addr} {os : List CO} {H : Hp} (nd : as.Nodup) (ln : as.length = os.length)
    (ob : ∀ (n : Nat) (a : Addr) (o : CO), as[n]? = some a → os[n]? = some o → ∃ O, H a = some O ∧ RO ⟨κ, cc, as, t⟩ o O) : HR cc ⟨κ, cc, as, t⟩ (CH.of os) H :=
  ⟨rfl, nd, by show os.reverse.length = os.length; rw [List.length_reverse], ln, hκ, fun n a o e1 e2 => ob n a o e1 (by rw [← CH.of_get]; exact e2)⟩
def k0 (i : Nat) : Int := i
theorem k0_mo : ∀ i j, i < j → k0 i < k0 j := fun i j h => by unfold k0; omega
theorem ints_rv {η : Em} : ∀ (ns : List Int), RVs η (ns.map CV.int) (ns.map V.int)
  | [] => .nil
  | n :: ns => .cons rfl (ints_rv ns)
theorem rv_ints {η : Em} : ∀ {ns : List Int} {ys : List V}, RVs η (ns.map CV.int) ys → ys = ns.map V.int := fun h => RVs.fn h (ints_rv _)
/-- THE CALL of a plain function that keeps what was there: the answer, more objects -/
theorem sp_keeps {g : List CV → CH → Option (CV × CH)} {η : Em} {os : List CO} {H : Hp} {xs : List CV} {vs : List V} {Q : VK} {E : XK} {v : CV} {h' : CH} (hr : HR cc η (CH.of os) H) (r : RVs η xs vs) (e : g xs (CH.of os) = some (v, h')) (k : kept h' 0 os = true)
    (q : ∀ η' H' v', Same H H' → Stp η H η' H' → HR cc η' h' H' → RV η' v v' → Q v' H') : spOf cc g vs H Q E :=
  ⟨η, CH.of os, xs, r, hr, v, h', e, fun η' H' v' S R rv => q η' H' v' (keeps_same hr S R (keeps_of k)) S R rv⟩
theorem HR.nil {H : Hp} : HR cc ⟨k0, cc, [], 0⟩ (CH.of []) H := HR.of k0_mo List.nodup_nil rfl fun n a o e _ => by simp at e
theorem HR.one {H : Hp} {a : Addr} {o : CO} {O : HO} (ha : H a = some O) (r : RO ⟨k0, cc, [a], 0⟩ o O) : HR cc ⟨k0, cc, [a], 0⟩ (CH.of [o]) H := HR.of k0_mo (by simp) rfl fun n b u e1 e2 => by
  match n, e1, e2 with
  | 0, e1, e2 => cases e1; cases e2; exact ⟨O, ha, r⟩
  | n + 1, e1, _ => simp at e1
theorem HR.two {H : Hp} {a b : Addr} {o u : CO} {O U : HO} (n : a ≠ b) (ha : H a = some O) (hb : H b = some U) (r : RO ⟨k0, cc, [a, b], 0⟩ o O) (s : RO ⟨k0, cc, [a, b], 0⟩ u U) : HR cc ⟨k0, cc, [a, b], 0⟩ (CH.of [o, u]) H := HR.of k0_mo (by simp [n]) rfl fun m c z e1 e2 => by
  match m, e1, e2 with
  | 0, e1, e2 => cases e1; cases e2; exact ⟨O, ha, r⟩
  | 1, e1, e2 => cases e1; cases e2; exact ⟨U, hb, s⟩
  | n + 2, e1, _ => simp at e1
end CK

namespace CK
open PySem L2 PyProof.Rows
theorem rvS {η : Em} (x : List Nat) : RV η (.str x) (.str (Tx x)) := rfl
theorem rvI {η : Em} (i : Int) : RV η (.int i) (.int i) := rfl
theorem rvR {η : Em} {n : Nat} {a : Addr} (h : η.as[n]? = some a) : RV η (.ref n) (.ref a) := ⟨a, h, rfl⟩
/-- for over enumerate of a list that the body leaves as it is -/
theorem for_enum {K : PySem.W.Frag} {a : Addr} {xs : List V} {g : TG} {tb : TS} {D : Ends} {σ : L2.St} {H : Hp} (Pv : Nat → L2.St → Hp → Prop) (h0 : Pv 0 σ H) (hl : ∀ i σ H, i ≤ xs.length → Pv i σ H → SqL K H a xs)
    (hs : ∀ i x σ H T, xs[i]? = some x → Pv i σ H → H T = none → g (.ref T) σ (upd H T (.tup [.int (i : Nat), x])) fun σ2 H2 => tb { D with nx := Pv (i + 1), ct := Pv (i + 1), bk := D.nx } σ2 H2) (hd : ∀ σ H, Pv xs.length σ H → D.nx σ H) :
    ∃ W : Nat → Nat → L2.St → Hp → Prop, (∃ m, W 0 m σ H) ∧ ∀ i m σ H, W i m σ H →
      ((Ite K a).stop i H ∧ D.nx σ H) ∨ ((Ite K a).go i H ∧ ∃ N : L2.St → Hp → Prop, (∀ σ' H', N σ' H' → ∃ m', m' < m ∧ W (i + 1) m' σ' H') ∧ ∀ x H', (Ite K a).yld i H x H' → g x σ H' fun σ2 H2 => tb { D with nx := N, ct := N, bk := D.nx } σ2 H2) := by
  refine ⟨fun i m σ H => m = xs.length - i ∧ i ≤ xs.length ∧ Pv i σ H, ⟨xs.length, by simp, Nat.zero_le _, h0⟩, ?_⟩
  rintro i m σ H ⟨rfl, hi, p⟩
  have q := hl i σ H hi p
  by_cases hlt : i < xs.length
  · refine .inr ⟨⟨xs, xs[i], q, by simp [hlt]⟩, Pv (i + 1), fun σ' H' p' => ⟨xs.length - (i + 1), by omega, rfl, hlt, p'⟩, fun v H' y => ?_⟩
    obtain ⟨T, x, rfl, hT, rfl, y⟩ := y
    exact hs i x σ H T (y xs q) p hT
  · have e : i = xs.length := by omega
    subst e
    exact .inl ⟨⟨xs, q, Nat.le_refl _⟩, hd σ H p⟩
end CK

/-! CK: own objects. -/
namespace CK
open PySem L2 PyProof.Rows
variable {X : Cx} {cc : Nat → Addr}
def clook (k : List Nat) : List (List Nat × CV) → Option CV
  | [] => none
  | (g, v) :: r => match g == k with
    | true => some v
    | false => clook k r
def cput (k : List Nat) (v : CV) : List (List Nat × CV) → List (List Nat × CV)
  | [] => [(k, v)]
  | (g, x) :: r => match g == k with
    | true => (g, v) :: r
    | false => (g, x) :: cput k v r
theorem Tx_beq2 (a b : List Nat) : (Tx b == Tx a) = (a == b) := by rw [Tx_beq, beq_comm']
theorem look_some {η : Em} {k : List Nat} {v : CV} : ∀ {fs : List (List Nat × CV)} {ys : List (Str × V)}, RF η fs ys → clook k fs = some v → ∃ y, ys.lookup (Tx k) = some y ∧ RV η v y
  | _, _, .nil, e => by cases e
  | (g, x) :: r, (g', y) :: ys, .cons q rs, e => by
    obtain ⟨e1, rv⟩ := q
    have e1 : g' = Tx g := e1
    have e : (match g == k with | true => some x | false => clook k r) = some v := e
    show ∃ z, (match Tx k == g' with | true => some y | false => ys.lookup (Tx k)) = some z ∧ RV η v z
    rw [e1, Tx_beq2]
    cases c : g == k with
    | true => rw [c] at e; cases e; exact ⟨y, rfl, rv⟩
    | false => rw [c] at e; exact look_some rs e
theorem look_no {η : Em} {k : List Nat} : ∀ {fs : List (List Nat × CV)} {ys : List (Str × V)}, RF η fs ys → clook k fs = none → ys.lookup (Tx k) = none
  | _, _, .nil, _ => rfl
  | (g, x) :: r, (g', y) :: ys, .cons q rs, e => by
    obtain ⟨e1, rv⟩ := q
    have e1 : g' = Tx g := e1
    have e : (match g == k with | true => some x | false => clook k r) = none := e
    show (match Tx k == g' with | true => some y | false => ys.lookup (Tx k)) = none
    rw [e1, Tx_beq2]
    cases c : g == k with
    | true => rw [c] at e; cases e
    | false => rw [c] at e; exact look_no rs e
theorem put_rf {η : Em} {k : List Nat} {v : CV} {y : V} (rv : RV η v y) : ∀ {fs : List (List Nat × CV)} {ys : List (Str × V)}, RF η fs ys → RF η (cput k v fs) (putF (Tx k) y ys)
  | _, _, .nil => .cons ⟨rfl, rv⟩ .nil
  | (g, x) :: r, (g', z) :: ys, .cons q rs => by
    obtain ⟨e1, rx⟩ := q
    have e1 : g' = Tx g := e1
    subst e1
    show RF η (match g == k with | true => (g, v) :: r | false => (g, x) :: cput k v r) (if Tx g = Tx k then (Tx g, y) :: ys else (Tx g, z) :: putF (Tx k) y ys)
    cases c : g == k with
    | true =>
      rw [if_pos (Tx_inj.mpr (eq_of_beq c))]
      exact .cons ⟨rfl, rv⟩ rs
    | false =>
      rw [if_neg fun q => by rw [Tx_inj.mp q, beq_self_eq_true] at c; cases c]
      exact .cons ⟨rfl, rx⟩ (put_rf rv rs)
theorem HR.ins {η : Em} {h : CH} {H : Hp} (r : HR cc η h H) {n c : Nat} {fs : List (List Nat × CV)} {a : Addr} (e : h.get n = some (.ins c fs)) (ea : η.as[n]? = some a) : ∃ dx ys, H a = some (.ins (cc c) dx ys) ∧ RF η fs ys := by
  obtain ⟨O, q, dx, ys, e2, rv⟩ := r.ob n a _ ea e
  exact ⟨dx, ys, by rw [q, e2, r.cl], rv⟩
def cFld (c : Nat) (k : List Nat) (o : CE) : CE := fun s h => match o s h with
  | some (.ref n, h1) => (match h1.get n with
    | some (.ins c' fs) => (match Nat.beq c' c with
      | true => (match clook k fs with | some v => some (v, h1) | none => none)
      | false => none)
    | _ => none)
  | _ => none
theorem ke_fld {e : Expr} {f : Str} {pos : Pos} {co : CE} {c : Nat} {k : List Nat} (he : PE X e (eOf cc co)) (cl : Cls X.K (cc c)) (na : NoAttr X.K (cc c) f) (hf : f = Tx k := by decide +kernel) (hb : attributeBase e f X.env (eval e X.env) = eval e X.env := by rfl) :
    PE X (.Attribute e f pos) (eOf cc (cFld c k co)) := pe_imp (pe_fld he hb) fun σ H Q q => by
  obtain ⟨η, h, s, rs, hr, w, h', e, kk⟩ := q
  unfold cFld at e
  split at e
  · rename_i n h1 e1
    split at e
    · rename_i c' fs e2
      split at e
      · rename_i ec
        split at e
        · rename_i v ev
          cases e
          have ec := Nat.eq_of_beq_eq_true ec
          subst ec
          refine ⟨η, h, s, rs, hr, _, _, e1, fun η1 H1 x S1 R1 rx => ?_⟩
          obtain ⟨a, ea, rfl⟩ := rx
          obtain ⟨dx, ys, q1, p1⟩ := R1.ins e2 ea
          obtain ⟨y, ey, ry⟩ := look_some p1 ev
          exact ⟨a, _, dx, ys, y, rfl, q1, cl, na, by rw [hf]; exact ey, kk η1 H1 y S1 R1 ry⟩
        · cases e
      · cases e
    · cases e
  · cases e
/-- o.f = v, behind both -/
def setF (c : Nat) (k : List Nat) (v : CV) (n : Nat) (h : CH) : Option CH := match h.get n with
  | some (.ins c' fs) => (match Nat.beq c' c && Nat.ble fs.length 900 with
    | true => some (h.set n (.ins c (cput k v fs)))
    | false => none)
  | _ => none
theorem setF_of {η : Em} {h h' : CH} {H : Hp} (hr : HR cc η h H) {c : Nat} {k : List Nat} {v : CV} {y : V} {n : Nat} {a : Addr} (e : setF c k v n h = some h') (ea : η.as[n]? = some a) (rv : RV η v y) : ∃ dx ys, H a = some (.ins (cc c) dx ys) ∧ ys.length < 1000 ∧
    HR cc η h' (upd H a (.ins (cc c) dx (putF (Tx k) y ys))) ∧ Stp η H η (upd H a (.ins (cc c) dx (putF (Tx k) y ys))) := by
  unfold setF at e
  split at e
  · rename_i c' fs e2
    split at e
    · rename_i ec
      rw [Bool.and_eq_true] at ec
      cases e
      have ec1 := Nat.eq_of_beq_eq_true ec.1
      subst ec1
      obtain ⟨dx, ys, q1, p1⟩ := hr.ins e2 ea
      have hl : fs.length ≤ 900 := Nat.le_of_ble_eq_true ec.2
      refine ⟨dx, ys, q1, by rw [← p1.length]; omega, ?_⟩
      exact hr.put (o := .ins c' (cput k v fs)) (O := .ins (cc c') dx (putF (Tx k) y ys)) ea ⟨dx, _, by rw [hr.cl], put_rf rv p1⟩
    · cases e
  · cases e
def cSetF (c : Nat) (k : List Nat) (o v : CE) : CP := fun s h => match v s h with
  | some (y, h1) => (match o s h1 with
    | some (.ref n, h2) => (match setF c k y n h2 with
      | some h3 => some (.nx, s, h3)
      | none => none)
    | _ => none)
  | none => none
theorem ks_fld {o value : Expr} {f : Str} {pos pos' : Pos} {co cv : CE} {c : Nat} {k : List Nat} (ho : PE X o (eOf cc co)) (hv : PE X value (eOf cc cv)) (cl : Cls X.K (cc c)) (na : NoAttr X.K (cc c) f) (hf : f = Tx k := by decide +kernel) (hs : swapsWith value (some (.Attribute o f pos')) pos.line X.env = pure false := by rfl) :
    PS X (.Assign [.Attribute o f pos'] value pos) (sOf cc (cSetF c k co cv)) := ps_imp (ps_fld ho hv hs) fun D σ H q => by
  obtain ⟨η, h, s, rs, hr, fl, s', h', e, kk⟩ := q
  unfold cSetF at e
  split at e
  · rename_i y h1 e1
    split at e
    · rename_i n h2 e2
      split at e
      · rename_i h3 e3
        cases e
        refine ⟨η, h, s, rs, hr, _, _, e1, fun η1 H1 x S1 R1 rx => ⟨η1, h1, s, RS.mono S1.le rs, R1, _, _, e2, fun η2 H2 z S2 R2 rz => ?_⟩⟩
        obtain ⟨a, ea, rfl⟩ := rz
        obtain ⟨dx, ys, q1, hl, R3, S3⟩ := setF_of R2 e3 ea (RV.mono S2.le rx)
        refine ⟨a, _, dx, ys, rfl, q1, cl, na, hl, ?_⟩
        rw [hf]
        exact kk η2 _ σ (Stp.trans (Stp.trans S1 R1 S2) R2 S3) R3 (RS.mono (S1.le.trans S2.le) rs)
      · cases e
    · cases e
  · cases e
/-- an attribute as a target -/
def gFldR (K : PySem.W.Frag) (to : TE) (f : Str) : TG := fun v σ H Q => to σ H fun x H1 => ∃ a C dx fs, x = .ref a ∧ H1 a = some (.ins C dx fs) ∧ Cls K C ∧ NoAttr K C f ∧ fs.length < 1000 ∧ Q σ (upd H1 a (.ins C dx (putF f v fs)))
theorem pg_attr {o : Expr} {f : Str} {pos : Pos} {to : TE} (ho : PE X o to) : PG X (.Attribute o f pos) (gFldR X.K to f) := by
  refine ⟨fun pins s σ H v u Q I r h => ?_⟩
  rw [assign_Attribute]
  refine wpAny_bind (wpAny_holding (thn (ho.run pins s σ H _ I h) fun ov s1 ⟨x, H1, I1, rx, a, C, dx, fs, ex, ea, c, n, hl, q⟩ => ?_))
  subst ex
  obtain rfl : ov = Value.ref a := rx
  refine wpAny_bind (wpAny_standAt (wpAny_bind (wpAny_holding (setattr_ok I1 ea c n hl r fun s2 I2 => ?_))))
  exact wpAny_release ⟨σ, _, I2, q⟩
def cgFld (c : Nat) (k : List Nat) (o : CE) : CG := fun v s h => match o s h with
  | some (.ref n, h1) => (match setF c k v n h1 with
    | some h2 => some (s, h2)
    | none => none)
  | _ => none
theorem kg_fld {o : Expr} {f : Str} {pos : Pos} {co : CE} {c : Nat} {k : List Nat} (ho : PE X o (eOf cc co)) (cl : Cls X.K (cc c)) (na : NoAttr X.K (cc c) f) (hf : f = Tx k := by decide +kernel) : PG X (.Attribute o f pos) (gOf cc (cgFld c k co)) := pg_imp (pg_attr ho) fun v σ H Q q => by
  obtain ⟨η, h, s, u, rv, rs, hr, s', h', e, kk⟩ := q
  unfold cgFld at e
  split at e
  · rename_i n h1 e1
    split at e
    · rename_i h2 e2
      cases e
      refine ⟨η, h, _, rs, hr, _, _, e1, fun η1 H1 x S1 R1 rx => ?_⟩
      obtain ⟨a, ea, rfl⟩ := rx
      obtain ⟨dx, ys, q1, hl, R3, S3⟩ := setF_of R1 e2 ea (RV.mono S1.le rv)
      refine ⟨a, _, dx, ys, rfl, q1, cl, na, hl, ?_⟩
      rw [hf]
      exact kk η1 _ σ (Stp.trans S1 R1 S3) R3 (RS.mono S1.le rs)
    · cases e
  · cases e
/-- a sum of ints, of one whose base is not known -/
def augI : CV → CV → Option CV
  | .int i, .int j => some (.int (i + j))
  | .off i, .int j => some (.off (i + j))
  | _, _ => none
theorem augI_of {η : Em} {u v w : CV} {x y : V} (e : augI u v = some w) (r : RV η u x) (s : RV η v y) : ∃ i j, x = .int i ∧ y = .int j ∧ RV η w (.int (i + j)) := by
  unfold augI at e
  split at e
  · cases e; exact ⟨_, _, r, s, rfl⟩
  · rename_i i j
    cases e
    refine ⟨_, _, r, s, ?_⟩
    show V.int (η.t + i + j) = V.int (η.t + (i + j))
    rw [Int.add_assoc]
  · cases e
/-- o.f += v, ints -/
def cAugF (c : Nat) (k : List Nat) (o v : CE) : CP := fun s h => match o s h with
  | some (.ref n, h1) => (match h1.get n with
    | some (.ins c' fs) => (match Nat.beq c' c with
      | true => (match clook k fs with
        | some i => (match v s h1 with
          | some (j, h2) => (match augI i j with
            | some m => (match setF c k m n h2 with
              | some h3 => some (.nx, s, h3)
              | none => none)
            | none => none)
          | none => none)
        | none => none)
      | false => none)
    | _ => none)
  | _ => none
theorem ks_augF {o value : Expr} {f : Str} {pos tpos : Pos} {co cv : CE} {c : Nat} {k : List Nat} (ho : PE X o (eOf cc co)) (hv : PE X value (eOf cc cv)) (cl : Cls X.K (cc c)) (na : NoAttr X.K (cc c) f) (hf : f = Tx k := by decide +kernel) :
    PS X (.AugAssign (.Attribute o f tpos) .Add value pos) (sOf cc (cAugF c k co cv)) := ps_imp (ps_fldaug ho hv in_add) fun D σ H q => by
  obtain ⟨η, h, s, rs, hr, fl, s', h', e, kk⟩ := q
  unfold cAugF at e
  split at e
  · rename_i n h1 e1
    split at e
    · rename_i c' fs e2
      split at e
      · rename_i ec
        split at e
        · rename_i i ei
          split at e
          · rename_i j h2 e3
            split at e
            · rename_i m em
              split at e
              · rename_i h3 e4
                cases e
                have ec := Nat.eq_of_beq_eq_true ec
                subst ec
                refine ⟨η, h, _, rs, hr, _, _, e1, fun η1 H1 x S1 R1 rx => ?_⟩
                obtain ⟨a, ea, rfl⟩ := rx
                obtain ⟨dx, ys, q1, p1⟩ := R1.ins e2 ea
                obtain ⟨y, ey, ry⟩ := look_some p1 ei
                refine ⟨a, _, dx, ys, y, rfl, q1, cl, na, by rw [hf]; exact ey, η1, h1, _, RS.mono S1.le rs, R1, _, _, e3, fun η2 H2 z S2 R2 rz => ?_⟩
                obtain ⟨i', j', rfl, rfl, rm⟩ := augI_of em (RV.mono S2.le ry) rz
                obtain ⟨dx', ys', q2, hl, R3, S3⟩ := setF_of R2 e4 (S2.le.get ea) rm
                refine ⟨i', j', rfl, rfl, dx', ys', q2, hl, ?_⟩
                rw [hf]
                exact kk η2 _ σ (Stp.trans (Stp.trans S1 R1 S2) R2 S3) R3 (RS.mono (S1.le.trans S2.le) rs)
              · cases e
            · cases e
          · cases e
        · cases e
      · cases e
    · cases e
  · cases e
/-- del xs[i] -/
def cDel (o i : CE) : CP := fun s h => match o s h with
  | some (.ref n, h1) => (match i s h1 with
    | some (.int j, h2) => (match h2.get n with
      | some (.lst xs) => (match decide (-1000000 ≤ j) && decide (j ≤ 1000000) with
        | true => (match seqIndex? j xs.length with
          | some k => some (.nx, s, h2.set n (.lst (xs.eraseIdx k)))
          | none => none)
        | false => none)
      | _ => none)
    | _ => none)
  | _ => none
theorem ks_del {o i : Expr} {co ci : CE} {pos tpos : Pos} (ho : PE X o (eOf cc co)) (hi : PE X i (eOf cc ci)) : PS X (.Delete [.Subscript o i tpos] pos) (sOf cc (cDel co ci)) := ps_imp (ps_delL ho hi) fun D σ H q => by
  obtain ⟨η, h, s, rs, hr, fl, s', h', e, kk⟩ := q
  unfold cDel at e
  split at e
  · rename_i n h1 e1
    split at e
    · rename_i j h2 e2
      split at e
      · rename_i xs e3
        split at e
        · rename_i hj
          simp only [Bool.and_eq_true, decide_eq_true_eq] at hj
          split at e
          · rename_i k ek
            cases e
            refine ⟨η, h, _, rs, hr, _, _, e1, fun η1 H1 x S1 R1 rx => ⟨η1, h1, _, RS.mono S1.le rs, R1, _, _, e2, fun η2 H2 y S2 R2 ry => ?_⟩⟩
            obtain ⟨a, ea, rfl⟩ := RV.mono S2.le rx
            obtain ⟨ys, q1, p1⟩ := R2.lst e3 ea
            obtain ⟨R3, S3⟩ := R2.put (o := .lst (xs.eraseIdx k)) (O := .lst (ys.eraseIdx k)) ea ⟨_, rfl, Pd.erase k p1⟩
            exact ⟨a, ys, j, k, rfl, ry, q1, by omega, by omega, by rw [← p1.length]; exact ek, kk η2 _ σ (Stp.trans (Stp.trans S1 R1 S2) R2 S3) R3 (RS.mono (S1.le.trans S2.le) rs)⟩
          · cases e
        · cases e
      · cases e
    · cases e
  · cases e
end CK

/-! CK: a list taken apart into names; the greatest of three. -/
namespace CK
open PySem L2 PyProof.Rows
variable {X : Cx} {cc : Nat → Addr}
def cgUnl (n : Nat) (g : CGs) : CG := fun v s h => match v with
  | .ref a => (match h.get a with
    | some (.lst xs) => if xs.length = n then g xs s h else none
    | _ => none)
  | _ => none
theorem kg_unl {pos : Pos} {es : List Expr} {k : Nat} {g : CGs} {n : Nat} (hc : X.calm = true) (h : PGs X es (gsOf cc g))
    (hn : (assignEach es X.env).length = n := by rfl) (hst : (assignEach es X.env).findIdx? (·.1) = none := by rfl) : PG X (.Tuple es k pos) (gOf cc (cgUnl n g)) := pg_imp (pg_unl hc h hn hst) fun v σ H Q q => by
  obtain ⟨η, h, s, u, rv, rs, hr, s', h', e, k⟩ := q
  unfold cgUnl at e
  split at e
  · rename_i a
    obtain ⟨b, eb, rfl⟩ := rv
    split at e
    · rename_i xs e1
      split at e
      · rename_i hl
        obtain ⟨ys, q1, p1⟩ := hr.lst e1 eb
        exact ⟨b, ys, rfl, SqL.of q1, by rw [← p1.length]; exact hl, η, h, s, xs, p1, rs, hr, s', h', e, k⟩
      · cases e
    · cases e
  · cases e
def fMax3 : List CV → CH → Option (CV × CH)
  | [.int i, .int j, .int k], h => some (.int (if (if i < j then j else i) < k then k else (if i < j then j else i)), h)
  | _, _ => none
theorem vMax3 : VCall cc fMax3 (rNuC3 nuMax3) := by
  intro η h H vs xs w h' Q hr r e k
  unfold fMax3 at e
  split at e
  · rename_i a b c
    cases r with
    | cons ra r =>
    cases r with
    | cons rb r =>
    cases r with
    | cons rc r =>
    cases r
    obtain rfl := (show _ = V.int a from ra)
    obtain rfl := (show _ = V.int b from rb)
    obtain rfl := (show _ = V.int c from rc)
    cases e
    refine ⟨.int a, .int b, .int c, .int (if (if a < b then b else a) < c then c else (if a < b then b else a)), rfl, ?_, kn_same hr k rfl⟩
    by_cases h1 : a < b
    · by_cases h2 : b < c
      · simp [nuMax3, nuMax2, nuLt, nuCB, h1, h2]
      · simp [nuMax3, nuMax2, nuLt, nuCB, h1, h2]
    · by_cases h2 : a < c
      · simp [nuMax3, nuMax2, nuLt, nuCB, h1, h2]
      · simp [nuMax3, nuMax2, nuLt, nuCB, h1, h2]
  · cases e
theorem boot_maxQ : bootBuiltins "max" = some (.builtin "max") := by decide +kernel
theorem ke_max3 {p pos : Pos} {e : Expr} {es : List Expr} {ca : CA} (hcm : X.calm = true) (hg : Gl X "max") (hm : X.mg "max" = none) (ha : PA X (e :: es) (aOf cc ca)) (he : starEach (e :: es) X.env = (false, eval e X.env) :: starEach es X.env := by rfl) (hpl : (backTo pos (starEach es X.env)).any (·.1) = false := by rfl) :
    PE X (.Call (.Name "max" p) (e :: es) [] pos) (eOf cc (cCb fMax3 ca)) :=
  pe_imp (pe_callB (call_max3Nu hcm) hg hm boot_maxQ ha (he := he) (hpl := hpl)) fun _ _ _ q => cb_of vMax3 q
end CK

namespace CK
open PySem L2 PyProof.Rows
def top (i : Nat) : Stmt := PySem.Challenge.pw_looseshelf_k09_whole_rules_beside_one_an.main.body.getD i (.Pass ⟨0, 0, 0, 0⟩)
/-- what the top has left -/
structure Txt (K : PySem.W.Frag) (mg : Str → Option Value) (cc : Nat → Addr) : Prop where
  n_abs : mg "abs" = none
  n_all : mg "all" = none
  n_bool : mg "bool" = none
  n_enumerate : mg "enumerate" = none
  n_int : mg "int" = none
  n_isinstance : mg "isinstance" = none
  n_len : mg "len" = none
  n_list : mg "list" = none
  n_max : mg "max" = none
  n_range : mg "range" = none
  n_str : mg "str" = none
  n_sum : mg "sum" = none
  n_tuple : mg "tuple" = none
  n_zip : mg "zip" = none
  cl : Cls K (cc 0)
  f_places : NoAttr K (cc 0) "places"
  f_ranked : NoAttr K (cc 0) "ranked"
  f_rule : NoAttr K (cc 0) "rule"
  f_total : NoAttr K (cc 0) "total"
  f_wide : NoAttr K (cc 0) "wide"
  x_MOST_PLACES : ∃ t, mg "MOST_PLACES" = some (.int 6 t)
  x_RULES : ∃ aT, mg "RULES" = some (.ref aT) ∧ ∀ H, SqT K H aT [.str (Tx [110, 101, 97, 114]), .str (Tx [108, 101, 102, 116]), .str (Tx [101, 118, 101, 110])]
section
variable {P : Program} {w : World} {K : PySem.W.Frag} {mg : Str → Option Value} {base : Heap} {cc : Nat → Addr}
abbrev s_inserted : Stmt := top 9
theorem sc_inserted : FnScope ["places", "rank", "at"] ["places", "rank", "at"] (defScope s_inserted) := ⟨rfl, rfl, rfl, by decide +kernel, rfl, by decide +kernel, by decide +kernel⟩
def b_inserted : CP := (cRet (cBin fAdd (cBin fAdd (cSl (cVar 0) pNo (pYes (cVar 1))) (cLst (cCons (cVar 2) cNil))) (cSl (cVar 0) (pYes (cVar 1)) pNo)))
def c_inserted : List CV → CH → Option (CV × CH) := cDef 3 3 b_inserted
theorem ok_inserted {f : Addr} {fd : FuncData} (F : Fun K "inserted" "inserted" s_inserted f fd) (T : Txt K mg cc) : FnOk P w K mg base CX0 1 f fd ["places", "rank", "at"] (spOf cc c_inserted) := by
  refine def_ok (N := ["places", "rank", "at"]) (ps := ["places", "rank", "at"]) (b := b_inserted) F sc_inserted fun cdv A outer s H E hr => ?_
  exact (kss_one (ks_ret (ke_add (ke_add (ke_slice (kv 0) kp_no (kp_yes (kv 1))) (ke_lst (ka_cons (kv 2) ka_nil))) (ke_slice (kv 0) (kp_yes (kv 1)) kp_no))))

abbrev s_laid_evenly : Stmt := top 10
theorem sc_laid_evenly : FnScope ["wide", "many", "rank"] ["wide", "many"] (defScope s_laid_evenly) := ⟨rfl, rfl, rfl, by decide +kernel, rfl, by decide +kernel, by decide +kernel⟩
def b_laid_evenly : CP := (cRet (cLc 200 (ciR1 (cCons (cVar 1) cNil)) (.nm 2) cYes (cBin (fIntC cDivOk fun i j => i / j) (cBin fMul (cVar 2) (cVar 0)) (cVar 1)) [2]))
def c_laid_evenly : List CV → CH → Option (CV × CH) := cDef 2 3 b_laid_evenly
theorem ok_laid_evenly {f : Addr} {fd : FuncData} (F : Fun K "laid_evenly" "laid_evenly" s_laid_evenly f fd) (T : Txt K mg cc) : FnOk P w K mg base CX0 1 f fd ["wide", "many"] (spOf cc c_laid_evenly) := by
  refine def_ok (N := ["wide", "many", "rank"]) (ps := ["wide", "many"]) (b := b_laid_evenly) F sc_laid_evenly fun cdv A outer s H E hr => ?_
  exact (kss_one (ks_ret (ke_lc (own := [("rank", 2)]) 200 (.nm 2) rfl sc_laid_evenly.nd (ki_range1 rfl T.n_range (ka_cons (kv 1) ka_nil)) (blkOk_by (N := ["wide", "many", "rank"]) (sc := defScope s_laid_evenly) (by decide +kernel)) (fun _ _ _ _ _ => pg_name (i := 2) sc_laid_evenly.nd rfl (Or.inl rfl)) (fun _ _ _ _ _ => kts_nil) (fun _ _ _ _ _ => (ke_div (ke_mul (kv 2) (kv 0)) (kv 1))))))

abbrev s_free_ahead : Stmt := top 11
theorem sc_free_ahead : FnScope ["places", "low", "free", "at"] ["places", "low"] (defScope s_free_ahead) := ⟨rfl, rfl, rfl, by decide +kernel, rfl, by decide +kernel, by decide +kernel⟩
def b_free_ahead : CP := (cSeq (cAsg (cLc 200 (ciR1 (cCons (cVar 1) cNil)) (.nm 3) (cTst (cBin (fIn true) (cVar 3) (cVar 0))) (cVar 3) [3]) (cgN 2))
    (cRet (cIfE (cTru (cVar 2)) (cBin fIx (cVar 2) (cUn fNeg (cC (.int 1)))) (cC .non))))
def c_free_ahead : List CV → CH → Option (CV × CH) := cDef 2 4 b_free_ahead
theorem ok_free_ahead {f : Addr} {fd : FuncData} (F : Fun K "free_ahead" "free_ahead" s_free_ahead f fd) (T : Txt K mg cc) : FnOk P w K mg base CX0 1 f fd ["places", "low"] (spOf cc c_free_ahead) := by
  refine def_ok (N := ["places", "low", "free", "at"]) (ps := ["places", "low"]) (b := b_free_ahead) F sc_free_ahead fun cdv A outer s H E hr => ?_
  exact (kss_cons (ks_setLc (i := 2) (own := [("at", 3)]) 200 (.nm 3) rfl sc_free_ahead.nd rfl rfl (sw_true rfl rfl rfl (by decide +kernel)) (ki_range1 rfl T.n_range (ka_cons (kv 1) ka_nil)) (blkOk_by (N := ["places", "low", "free", "at"]) (sc := defScope s_free_ahead) (by decide +kernel)) (fun _ _ _ _ _ => pg_name (i := 3) sc_free_ahead.nd rfl (Or.inl rfl)) (fun _ _ _ _ _ => kts_one (kt_notIn (kv 3) (kv 0))) (fun _ _ _ _ _ => (kv 3)))
    (kss_one (ks_ret (ke_if (kt_tru (kv 2)) (ke_ix (kv 2) (ke_neg ke_int)) ke_non))))

abbrev s_free_behind : Stmt := top 12
theorem sc_free_behind : FnScope ["wide", "places", "high", "free", "at"] ["wide", "places", "high"] (defScope s_free_behind) := ⟨rfl, rfl, rfl, by decide +kernel, rfl, by decide +kernel, by decide +kernel⟩
def b_free_behind : CP := (cSeq (cAsg (cLc 200 (ciR2 (cCons (cBin fAdd (cVar 2) (cC (.int 1))) (cCons (cVar 0) cNil))) (.nm 4) (cTst (cBin (fIn true) (cVar 4) (cVar 1))) (cVar 4) [4]) (cgN 3))
    (cRet (cIfE (cTru (cVar 3)) (cBin fIx (cVar 3) (cC (.int 0))) (cC .non))))
def c_free_behind : List CV → CH → Option (CV × CH) := cDef 3 5 b_free_behind
theorem ok_free_behind {f : Addr} {fd : FuncData} (F : Fun K "free_behind" "free_behind" s_free_behind f fd) (T : Txt K mg cc) : FnOk P w K mg base CX0 1 f fd ["wide", "places", "high"] (spOf cc c_free_behind) := by
  refine def_ok (N := ["wide", "places", "high", "free", "at"]) (ps := ["wide", "places", "high"]) (b := b_free_behind) F sc_free_behind fun cdv A outer s H E hr => ?_
  exact (kss_cons (ks_setLc (i := 3) (own := [("at", 4)]) 200 (.nm 4) rfl sc_free_behind.nd rfl rfl (sw_true rfl rfl rfl (by decide +kernel)) (ki_range2 rfl T.n_range (ka_cons (ke_add (kv 2) ke_int) (ka_cons (kv 0) ka_nil))) (blkOk_by (N := ["wide", "places", "high", "free", "at"]) (sc := defScope s_free_behind) (by decide +kernel)) (fun _ _ _ _ _ => pg_name (i := 4) sc_free_behind.nd rfl (Or.inl rfl)) (fun _ _ _ _ _ => kts_one (kt_notIn (kv 4) (kv 1))) (fun _ _ _ _ _ => (kv 4)))
    (kss_one (ks_ret (ke_if (kt_tru (kv 3)) (ke_ix (kv 3) ke_int) ke_non))))

abbrev s_is_taken_ahead : Stmt := top 13
theorem sc_is_taken_ahead : FnScope ["rule", "low", "high", "ahead", "behind"] ["rule", "low", "high", "ahead", "behind"] (defScope s_is_taken_ahead) := ⟨rfl, rfl, rfl, by decide +kernel, rfl, by decide +kernel, by decide +kernel⟩
def b_is_taken_ahead : CP := (cSeq (cIf (cTst (cBin fIsN (cVar 3) (cC .non))) (cRet (cC (.bl false))) cSkip)
    (cSeq (cIf (cOr (cTst (cBin fIsN (cVar 4) (cC .non))) (cTst (cBin fEq (cVar 0) (cC (.str [108, 101, 102, 116]))))) (cRet (cC (.bl true))) cSkip)
    (cRet (cBin fLe (cBin (fInt2 fun i j => i - j) (cVar 1) (cVar 3)) (cBin (fInt2 fun i j => i - j) (cVar 4) (cVar 2))))))
def c_is_taken_ahead : List CV → CH → Option (CV × CH) := cDef 5 5 b_is_taken_ahead
theorem ok_is_taken_ahead {f : Addr} {fd : FuncData} (F : Fun K "is_taken_ahead" "is_taken_ahead" s_is_taken_ahead f fd) (T : Txt K mg cc) : FnOk P w K mg base CX0 1 f fd ["rule", "low", "high", "ahead", "behind"] (spOf cc c_is_taken_ahead) := by
  refine def_ok (N := ["rule", "low", "high", "ahead", "behind"]) (ps := ["rule", "low", "high", "ahead", "behind"]) (b := b_is_taken_ahead) F sc_is_taken_ahead fun cdv A outer s H E hr => ?_
  exact (kss_cons (ks_if (kt_isN (kv 3) ke_non) (kss_one (ks_ret ke_bl)) kss_nil)
    (kss_cons (ks_if (PW.pt (kw_or (kt_isN (kv 4) ke_non) (kw_or1 (kt_eq (kv 0) (ke_str [108, 101, 102, 116] (by decide +kernel)))))) (kss_one (ks_ret ke_bl)) kss_nil)
    (kss_one (ks_ret (ke_le (ke_sub (kv 1) (kv 3)) (ke_sub (kv 4) (kv 2)))))))

abbrev s_count_moved : Stmt := top 14
theorem sc_count_moved : FnScope ["places", "laid", "rank", "others", "was", "now"] ["places", "laid", "rank"] (defScope s_count_moved) := ⟨rfl, rfl, rfl, by decide +kernel, rfl, by decide +kernel, by decide +kernel⟩
def b_count_moved : CP := (cSeq (cAsg (cBin fAdd (cSl (cVar 1) pNo (pYes (cVar 2))) (cSl (cVar 1) (pYes (cBin fAdd (cVar 2) (cC (.int 1)))) pNo)) (cgN 3))
    (cRet (cCb fLen (cCons (cLc 200 (ciZ (cCons (cVar 0) (cCons (cVar 3) cNil))) (.tp [4, 5]) (cTst (cBin fNe (cVar 4) (cVar 5))) (cVar 4) [4, 5]) cNil))))
def c_count_moved : List CV → CH → Option (CV × CH) := cDef 3 6 b_count_moved
theorem ok_count_moved {f : Addr} {fd : FuncData} (F : Fun K "count_moved" "count_moved" s_count_moved f fd) (T : Txt K mg cc) : FnOk P w K mg base CX0 1 f fd ["places", "laid", "rank"] (spOf cc c_count_moved) := by
  refine def_ok (N := ["places", "laid", "rank", "others", "was", "now"]) (ps := ["places", "laid", "rank"]) (b := b_count_moved) F sc_count_moved fun cdv A outer s H E hr => ?_
  exact (kss_cons (ks_set (i := 3) sc_count_moved.nd rfl (by first | exact Or.inl rfl | exact Or.inr rfl) (ke_add (ke_slice (kv 1) kp_no (kp_yes (kv 2))) (ke_slice (kv 1) (kp_yes (ke_add (kv 2) ke_int)) kp_no)))
    (kss_one (ks_ret (ke_len rfl T.n_len (ka_cons (ke_lc (own := [("was", 4), ("now", 5)]) 200 (.tp [4, 5]) rfl sc_count_moved.nd (ki_zip rfl T.n_zip (ka_cons (kv 0) (ka_cons (kv 3) ka_nil))) (blkOk_by (N := ["places", "laid", "rank", "others", "was", "now"]) (sc := defScope s_count_moved) (by decide +kernel)) (fun _ _ _ _ _ => pg_tup rfl (pgs_cons (pg_name (i := 4) sc_count_moved.nd rfl (Or.inl rfl)) (pgs_cons (pg_name (i := 5) sc_count_moved.nd rfl (Or.inl rfl)) (pgs_nil)))) (fun _ _ _ _ _ => kts_one (kt_ne (kv 4) (kv 5))) (fun _ _ _ _ _ => (kv 4))) ka_nil)))))

abbrev s_with_new_one : Stmt := top 8
theorem sc_with_new_one : FnScope ["rule", "wide", "places", "rank", "low", "high", "ahead", "behind", "at"] ["rule", "wide", "places", "rank"] (defScope s_with_new_one) := ⟨rfl, rfl, rfl, by decide +kernel, rfl, by decide +kernel, by decide +kernel⟩
def b_with_new_one : CP := (cSeq (cAsg (cIfE (cTst (cBin fGt (cVar 3) (cC (.int 0)))) (cBin fIx (cVar 2) (cBin (fInt2 fun i j => i - j) (cVar 3) (cC (.int 1)))) (cUn fNeg (cC (.int 1)))) (cgN 4))
    (cSeq (cAsg (cIfE (cTst (cBin fLt (cVar 3) (cCb fLen (cCons (cVar 2) cNil)))) (cBin fIx (cVar 2) (cVar 3)) (cVar 1)) (cgN 5))
    (cSeq (cIf (cTst (cBin fGt (cBin (fInt2 fun i j => i - j) (cVar 5) (cVar 4)) (cC (.int 1)))) (cRet (cCb c_inserted (cCons (cVar 2) (cCons (cVar 3) (cCons (cBin (fIntC cDivOk fun i j => i / j) (cBin fAdd (cVar 4) (cVar 5)) (cC (.int 2))) cNil))))) cSkip)
    (cSeq (cIf (cTst (cBin fEq (cVar 0) (cC (.str [101, 118, 101, 110])))) (cRet (cCb c_laid_evenly (cCons (cVar 1) (cCons (cBin fAdd (cCb fLen (cCons (cVar 2) cNil)) (cC (.int 1))) cNil)))) cSkip)
    (cSeq (cAsg (cCb c_free_ahead (cCons (cVar 2) (cCons (cVar 4) cNil))) (cgN 6))
    (cSeq (cAsg (cCb c_free_behind (cCons (cVar 1) (cCons (cVar 2) (cCons (cVar 5) cNil)))) (cgN 7))
    (cSeq (cIf (cTru (cCb c_is_taken_ahead (cCons (cVar 0) (cCons (cVar 4) (cCons (cVar 5) (cCons (cVar 6) (cCons (cVar 7) cNil))))))) (cRet (cCb c_inserted (cCons (cLc 200 (ciL (cVar 2)) (.nm 8) cYes (cIfE (cTst (cChain fLt fLe (cVar 6) (cVar 8) (cVar 4))) (cBin (fInt2 fun i j => i - j) (cVar 8) (cC (.int 1))) (cVar 8)) [8]) (cCons (cVar 3) (cCons (cVar 4) cNil))))) cSkip)
    (cRet (cCb c_inserted (cCons (cLc 200 (ciL (cVar 2)) (.nm 8) cYes (cIfE (cTst (cChain fLe fLt (cVar 5) (cVar 8) (cVar 7))) (cBin fAdd (cVar 8) (cC (.int 1))) (cVar 8)) [8]) (cCons (cVar 3) (cCons (cVar 5) cNil))))))))))))
def c_with_new_one : List CV → CH → Option (CV × CH) := cDef 4 9 b_with_new_one
theorem ok_with_new_one {f : Addr} {fd : FuncData} (F : Fun K "with_new_one" "with_new_one" s_with_new_one f fd) (T : Txt K mg cc) (O_inserted : Own P w K mg base cc 1 "inserted" ["places", "rank", "at"] c_inserted) (O_laid_evenly : Own P w K mg base cc 1 "laid_evenly" ["wide", "many"] c_laid_evenly) (O_free_ahead : Own P w K mg base cc 1 "free_ahead" ["places", "low"] c_free_ahead) (O_free_behind : Own P w K mg base cc 1 "free_behind" ["wide", "places", "high"] c_free_behind) (O_is_taken_ahead : Own P w K mg base cc 1 "is_taken_ahead" ["rule", "low", "high", "ahead", "behind"] c_is_taken_ahead) : FnOk P w K mg base CX0 2 f fd ["rule", "wide", "places", "rank"] (spOf cc c_with_new_one) := by
  refine def_ok (N := ["rule", "wide", "places", "rank", "low", "high", "ahead", "behind", "at"]) (ps := ["rule", "wide", "places", "rank"]) (b := b_with_new_one) F sc_with_new_one fun cdv A outer s H E hr => ?_
  exact (kss_cons (ks_set (i := 4) sc_with_new_one.nd rfl (by first | exact Or.inl rfl | exact Or.inr rfl) (ke_if (kt_gt (kv 3) ke_int) (ke_ix (kv 2) (ke_sub (kv 3) ke_int)) (ke_neg ke_int)))
    (kss_cons (ks_set (i := 5) sc_with_new_one.nd rfl (by first | exact Or.inl rfl | exact Or.inr rfl) (ke_if (kt_lt (kv 3) (ke_len rfl T.n_len (ka_cons (kv 2) ka_nil))) (ke_ix (kv 2) (kv 3)) (kv 1)))
    (kss_cons (ks_if (kt_gt (ke_sub (kv 5) (kv 4)) ke_int) (kss_one (ks_ret (ke_own O_inserted (hr.mono (by decide)) (ka_cons (kv 2) (ka_cons (kv 3) (ka_cons (ke_div (ke_add (kv 4) (kv 5)) ke_int) ka_nil)))))) kss_nil)
    (kss_cons (ks_if (kt_eq (kv 0) (ke_str [101, 118, 101, 110] (by decide +kernel))) (kss_one (ks_ret (ke_own O_laid_evenly (hr.mono (by decide)) (ka_cons (kv 1) (ka_cons (ke_add (ke_len rfl T.n_len (ka_cons (kv 2) ka_nil)) ke_int) ka_nil))))) kss_nil)
    (kss_cons (ks_set (i := 6) sc_with_new_one.nd rfl (by first | exact Or.inl rfl | exact Or.inr rfl) (ke_own O_free_ahead (hr.mono (by decide)) (ka_cons (kv 2) (ka_cons (kv 4) ka_nil))))
    (kss_cons (ks_set (i := 7) sc_with_new_one.nd rfl (by first | exact Or.inl rfl | exact Or.inr rfl) (ke_own O_free_behind (hr.mono (by decide)) (ka_cons (kv 1) (ka_cons (kv 2) (ka_cons (kv 5) ka_nil)))))
    (kss_cons (ks_if (kt_tru (ke_own O_is_taken_ahead (hr.mono (by decide)) (ka_cons (kv 0) (ka_cons (kv 4) (ka_cons (kv 5) (ka_cons (kv 6) (ka_cons (kv 7) ka_nil))))))) (kss_one (ks_ret (ke_own O_inserted (hr.mono (by decide)) (ka_cons (ke_lc (own := [("at", 8)]) 200 (.nm 8) rfl sc_with_new_one.nd (ki_list (kv 2)) (blkOk_by (N := ["rule", "wide", "places", "rank", "low", "high", "ahead", "behind", "at"]) (sc := defScope s_with_new_one) (by decide +kernel)) (fun _ _ _ _ _ => pg_name (i := 8) sc_with_new_one.nd rfl (Or.inl rfl)) (fun _ _ _ _ _ => kts_nil) (fun _ _ _ _ _ => (ke_if (kt_chain m_lt m_le (kv 6) (kv 8) (kv 4)) (ke_sub (kv 8) ke_int) (kv 8)))) (ka_cons (kv 3) (ka_cons (kv 4) ka_nil)))))) kss_nil)
    (kss_one (ks_ret (ke_own O_inserted (hr.mono (by decide)) (ka_cons (ke_lc (own := [("at", 8)]) 200 (.nm 8) rfl sc_with_new_one.nd (ki_list (kv 2)) (blkOk_by (N := ["rule", "wide", "places", "rank", "low", "high", "ahead", "behind", "at"]) (sc := defScope s_with_new_one) (by decide +kernel)) (fun _ _ _ _ _ => pg_name (i := 8) sc_with_new_one.nd rfl (Or.inl rfl)) (fun _ _ _ _ _ => kts_nil) (fun _ _ _ _ _ => (ke_if (kt_chain m_le m_lt (kv 5) (kv 8) (kv 7)) (ke_add (kv 8) ke_int) (kv 8)))) (ka_cons (kv 3) (ka_cons (kv 5) ka_nil)))))))))))))

abbrev s_check_rule : Stmt := top 20
theorem sc_check_rule : FnScope ["rule"] ["rule"] (defScope s_check_rule) := ⟨rfl, rfl, rfl, by decide +kernel, rfl, by decide +kernel, by decide +kernel⟩
def b_check_rule : CP := (cIf (cTst (cUn (fNotInC [.str [110, 101, 97, 114], .str [108, 101, 102, 116], .str [101, 118, 101, 110]]) (cVar 0))) cNever cSkip)
def c_check_rule : List CV → CH → Option (CV × CH) := cDef 1 1 b_check_rule
theorem ok_check_rule {f : Addr} {fd : FuncData} (F : Fun K "check_rule" "check_rule" s_check_rule f fd) (T : Txt K mg cc) : FnOk P w K mg base CX0 1 f fd ["rule"] (spOf cc c_check_rule) := by
  refine def_ok (N := ["rule"]) (ps := ["rule"]) (b := b_check_rule) F sc_check_rule fun cdv A outer s H E hr => ?_
  obtain ⟨_, m_RULES, t_RULES⟩ := T.x_RULES
  exact (kss_one (ks_if (kt_notInK (kv 0) rfl m_RULES t_RULES (fun _ => (.cons rfl (.cons rfl (.cons rfl .nil))))) (kss_one ks_never) kss_nil))

abbrev s_check_width : Stmt := top 21
theorem sc_check_width : FnScope ["wide"] ["wide"] (defScope s_check_width) := ⟨rfl, rfl, rfl, by decide +kernel, rfl, by decide +kernel, by decide +kernel⟩
def b_check_width : CP := (cIf (cNot (cTst (cChain fLe fLe (cC (.int 1)) (cVar 0) (cC (.int (6)))))) cNever cSkip)
def c_check_width : List CV → CH → Option (CV × CH) := cDef 1 1 b_check_width
theorem ok_check_width {f : Addr} {fd : FuncData} (F : Fun K "check_width" "check_width" s_check_width f fd) (T : Txt K mg cc) : FnOk P w K mg base CX0 1 f fd ["wide"] (spOf cc c_check_width) := by
  refine def_ok (N := ["wide"]) (ps := ["wide"]) (b := b_check_width) F sc_check_width fun cdv A outer s H E hr => ?_
  obtain ⟨_, m_MOST_PLACES⟩ := T.x_MOST_PLACES
  exact (kss_one (ks_if (kt_not (kt_chain m_le m_le ke_int (kv 0) (ke_glob (v := .int (6)) (y := .int (6)) (fun _ => rfl) rfl m_MOST_PLACES ⟨_, rfl⟩))) (kss_one ks_never) kss_nil))

abbrev s_check_pattern : Stmt := top 22
theorem sc_check_pattern : FnScope ["pattern", "at", "sign"] ["pattern"] (defScope s_check_pattern) := ⟨rfl, rfl, rfl, by decide +kernel, rfl, by decide +kernel, by decide +kernel⟩
def b_check_pattern : CP := (cSeq (cIf (cTst (cBin fEq (cVar 0) (cC (.str [])))) cNever cSkip)
    (cFor 200 (ciE (cCons (cVar 0) cNil)) (cgTup 2 (cgCons (cgN 1) (cgCons (cgN 2) cgNil))) (cIf (cOr (cTst (cBin fEq (cVar 1) (cC (.int (6))))) (cTst (cBin (fIn true) (cVar 2) (cTup (cCons (cC (.str [48])) (cCons (cC (.str [49])) cNil)))))) cNever cSkip)))
def c_check_pattern : List CV → CH → Option (CV × CH) := cDef 1 3 b_check_pattern
theorem ok_check_pattern {f : Addr} {fd : FuncData} (F : Fun K "check_pattern" "check_pattern" s_check_pattern f fd) (T : Txt K mg cc) : FnOk P w K mg base CX0 1 f fd ["pattern"] (spOf cc c_check_pattern) := by
  refine def_ok (N := ["pattern", "at", "sign"]) (ps := ["pattern"]) (b := b_check_pattern) F sc_check_pattern fun cdv A outer s H E hr => ?_
  obtain ⟨_, m_MOST_PLACES⟩ := T.x_MOST_PLACES
  exact (kss_cons (ks_if (kt_eq (kv 0) (ke_str [] (by decide +kernel))) (kss_one ks_never) kss_nil)
    (kss_one (ks_for 200 PassesOwn.never rfl (ki_enum rfl T.n_enumerate (ka_cons (kv 0) ka_nil)) (kg_tup rfl (kgs_cons (kg_name (i := 1) sc_check_pattern.nd rfl (by first | exact Or.inl rfl | exact Or.inr rfl)) (kgs_cons (kg_name (i := 2) sc_check_pattern.nd rfl (by first | exact Or.inl rfl | exact Or.inr rfl)) kgs_nil))) (kss_one (ks_if (PW.pt (kw_or (kt_eq (kv 1) (ke_glob (v := .int (6)) (y := .int (6)) (fun _ => rfl) rfl m_MOST_PLACES ⟨_, rfl⟩)) (kw_or1 (kt_notIn (kv 2) (ke_tup (ka_cons (ke_str [48] (by decide +kernel)) (ka_cons (ke_str [49] (by decide +kernel)) ka_nil))))))) (kss_one ks_never) kss_nil)))))

abbrev s_places_of : Stmt := top 23
theorem sc_places_of : FnScope ["pattern", "at", "sign"] ["pattern"] (defScope s_places_of) := ⟨rfl, rfl, rfl, by decide +kernel, rfl, by decide +kernel, by decide +kernel⟩
def b_places_of : CP := (cRet (cLc 200 (ciE (cCons (cVar 0) cNil)) (.tp [1, 2]) (cTst (cBin fEq (cVar 2) (cC (.str [49])))) (cVar 1) [1, 2]))
def c_places_of : List CV → CH → Option (CV × CH) := cDef 1 3 b_places_of
theorem ok_places_of {f : Addr} {fd : FuncData} (F : Fun K "places_of" "places_of" s_places_of f fd) (T : Txt K mg cc) : FnOk P w K mg base CX0 1 f fd ["pattern"] (spOf cc c_places_of) := by
  refine def_ok (N := ["pattern", "at", "sign"]) (ps := ["pattern"]) (b := b_places_of) F sc_places_of fun cdv A outer s H E hr => ?_
  exact (kss_one (ks_ret (ke_lc (own := [("at", 1), ("sign", 2)]) 200 (.tp [1, 2]) rfl sc_places_of.nd (ki_enum rfl T.n_enumerate (ka_cons (kv 0) ka_nil)) (blkOk_by (N := ["pattern", "at", "sign"]) (sc := defScope s_places_of) (by decide +kernel)) (fun _ _ _ _ _ => pg_tup rfl (pgs_cons (pg_name (i := 1) sc_places_of.nd rfl (Or.inl rfl)) (pgs_cons (pg_name (i := 2) sc_places_of.nd rfl (Or.inl rfl)) (pgs_nil)))) (fun _ _ _ _ _ => kts_one (kt_eq (kv 2) (ke_str [49] (by decide +kernel)))) (fun _ _ _ _ _ => (kv 1)))))

abbrev s_pattern_of : Stmt := top 24
theorem sc_pattern_of : FnScope ["wide", "places", "at"] ["wide", "places"] (defScope s_pattern_of) := ⟨rfl, rfl, rfl, by decide +kernel, rfl, by decide +kernel, by decide +kernel⟩
def b_pattern_of : CP := (cRet (cMt isS mJoin (cC (.str [])) (cCons (cLc 200 (ciR1 (cCons (cVar 0) cNil)) (.nm 2) cYes (cIfE (cTst (cBin (fIn false) (cVar 2) (cVar 1))) (cC (.str [49])) (cC (.str [48]))) [2]) cNil)))
def c_pattern_of : List CV → CH → Option (CV × CH) := cDef 2 3 b_pattern_of
theorem ok_pattern_of {f : Addr} {fd : FuncData} (F : Fun K "pattern_of" "pattern_of" s_pattern_of f fd) (T : Txt K mg cc) : FnOk P w K mg base CX0 1 f fd ["wide", "places"] (spOf cc c_pattern_of) := by
  refine def_ok (N := ["wide", "places", "at"]) (ps := ["wide", "places"]) (b := b_pattern_of) F sc_pattern_of fun cdv A outer s H E hr => ?_
  exact (kss_one (ks_ret (ke_join (ke_str [] (by decide +kernel)) (ka_cons (ke_lc (own := [("at", 2)]) 200 (.nm 2) rfl sc_pattern_of.nd (ki_range1 rfl T.n_range (ka_cons (kv 0) ka_nil)) (blkOk_by (N := ["wide", "places", "at"]) (sc := defScope s_pattern_of) (by decide +kernel)) (fun _ _ _ _ _ => pg_name (i := 2) sc_pattern_of.nd rfl (Or.inl rfl)) (fun _ _ _ _ _ => kts_nil) (fun _ _ _ _ _ => (ke_if (kt_in (kv 2) (kv 1)) (ke_str [49] (by decide +kernel)) (ke_str [48] (by decide +kernel))))) ka_nil))))

abbrev s_can_be_done : Stmt := top 25
theorem sc_can_be_done : FnScope ["wide", "many", "deed", "what", "rank"] ["wide", "many", "deed"] (defScope s_can_be_done) := ⟨rfl, rfl, rfl, by decide +kernel, rfl, by decide +kernel, by decide +kernel⟩
def b_can_be_done : CP := (cSeq (cAsg (cVar 2) (cgTup 2 (cgCons (cgN 3) (cgCons (cgN 4) cgNil))))
    (cSeq (cIf (cTst (cBin fEq (cVar 3) (cC (.str [112, 117, 116])))) (cRet (cChain3 fLe fLe fLt (cC (.int 0)) (cVar 4) (cVar 1) (cVar 0))) cSkip)
    (cRet (cAndV (cBin fEq (cVar 3) (cC (.str [116, 97, 107, 101]))) (cChain fLe fLt (cC (.int 0)) (cVar 4) (cVar 1))))))
def c_can_be_done : List CV → CH → Option (CV × CH) := cDef 3 5 b_can_be_done
theorem ok_can_be_done {f : Addr} {fd : FuncData} (F : Fun K "can_be_done" "can_be_done" s_can_be_done f fd) (T : Txt K mg cc) : FnOk P w K mg base CX0 1 f fd ["wide", "many", "deed"] (spOf cc c_can_be_done) := by
  refine def_ok (N := ["wide", "many", "deed", "what", "rank"]) (ps := ["wide", "many", "deed"]) (b := b_can_be_done) F sc_can_be_done fun cdv A outer s H E hr => ?_
  exact (kss_cons (ks_asg (kv 2) (kg_tup rfl (kgs_cons (kg_name (i := 3) sc_can_be_done.nd rfl (by first | exact Or.inl rfl | exact Or.inr rfl)) (kgs_cons (kg_name (i := 4) sc_can_be_done.nd rfl (by first | exact Or.inl rfl | exact Or.inr rfl)) kgs_nil))))
    (kss_cons (ks_if (kt_eq (kv 3) (ke_str [112, 117, 116] (by decide +kernel))) (kss_one (ks_ret (ke_chain3 m_le m_le m_lt ke_int (kv 4) (kv 1) (kv 0)))) kss_nil)
    (kss_one (ks_ret (ke_and (ke_eq (kv 3) (ke_str [116, 97, 107, 101] (by decide +kernel))) (ke_one (ke_chain m_le m_lt ke_int (kv 4) (kv 1))))))))

abbrev s_after_deed : Stmt := top 26
theorem sc_after_deed : FnScope ["rule", "wide", "places", "deed", "what", "rank", "laid"] ["rule", "wide", "places", "deed"] (defScope s_after_deed) := ⟨rfl, rfl, rfl, by decide +kernel, rfl, by decide +kernel, by decide +kernel⟩
def b_after_deed : CP := (cSeq (cAsg (cVar 3) (cgTup 2 (cgCons (cgN 4) (cgCons (cgN 5) cgNil))))
    (cSeq (cIf (cTst (cBin fEq (cVar 4) (cC (.str [116, 97, 107, 101])))) (cRet (cTup (cCons (cC (.int 0)) (cCons (cBin fAdd (cSl (cVar 2) pNo (pYes (cVar 5))) (cSl (cVar 2) (pYes (cBin fAdd (cVar 5) (cC (.int 1)))) pNo)) cNil)))) cSkip)
    (cSeq (cAsg (cCb c_with_new_one (cCons (cVar 0) (cCons (cVar 1) (cCons (cVar 2) (cCons (cVar 5) cNil))))) (cgN 6))
    (cRet (cTup (cCons (cCb c_count_moved (cCons (cVar 2) (cCons (cVar 6) (cCons (cVar 5) cNil)))) (cCons (cVar 6) cNil)))))))
def c_after_deed : List CV → CH → Option (CV × CH) := cDef 4 7 b_after_deed
theorem ok_after_deed {f : Addr} {fd : FuncData} (F : Fun K "after_deed" "after_deed" s_after_deed f fd) (T : Txt K mg cc) (O_with_new_one : Own P w K mg base cc 2 "with_new_one" ["rule", "wide", "places", "rank"] c_with_new_one) (O_count_moved : Own P w K mg base cc 1 "count_moved" ["places", "laid", "rank"] c_count_moved) : FnOk P w K mg base CX0 3 f fd ["rule", "wide", "places", "deed"] (spOf cc c_after_deed) := by
  refine def_ok (N := ["rule", "wide", "places", "deed", "what", "rank", "laid"]) (ps := ["rule", "wide", "places", "deed"]) (b := b_after_deed) F sc_after_deed fun cdv A outer s H E hr => ?_
  exact (kss_cons (ks_asg (kv 3) (kg_tup rfl (kgs_cons (kg_name (i := 4) sc_after_deed.nd rfl (by first | exact Or.inl rfl | exact Or.inr rfl)) (kgs_cons (kg_name (i := 5) sc_after_deed.nd rfl (by first | exact Or.inl rfl | exact Or.inr rfl)) kgs_nil))))
    (kss_cons (ks_if (kt_eq (kv 4) (ke_str [116, 97, 107, 101] (by decide +kernel))) (kss_one (ks_ret (ke_tup (ka_cons ke_int (ka_cons (ke_add (ke_slice (kv 2) kp_no (kp_yes (kv 5))) (ke_slice (kv 2) (kp_yes (ke_add (kv 5) ke_int)) kp_no)) ka_nil))))) kss_nil)
    (kss_cons (ks_set (i := 6) sc_after_deed.nd rfl (by first | exact Or.inl rfl | exact Or.inr rfl) (ke_own O_with_new_one (hr.mono (by decide)) (ka_cons (kv 0) (ka_cons (kv 1) (ka_cons (kv 2) (ka_cons (kv 5) ka_nil))))))
    (kss_one (ks_ret (ke_tup (ka_cons (ke_own O_count_moved (hr.mono (by decide)) (ka_cons (kv 2) (ka_cons (kv 6) (ka_cons (kv 5) ka_nil)))) (ka_cons (kv 6) ka_nil))))))))

abbrev s_done : Stmt := top 18
theorem sc_done : FnScope ["rule", "pattern", "deed", "wide", "places", "moves", "laid"] ["rule", "pattern", "deed"] (defScope s_done) := ⟨rfl, rfl, rfl, by decide +kernel, rfl, by decide +kernel, by decide +kernel⟩
def b_done : CP := (cSeq (cDrop (cCb c_check_rule (cCons (cVar 0) cNil)))
    (cSeq (cDrop (cCb c_check_pattern (cCons (cVar 1) cNil)))
    (cSeq (cAsg (cCb fLen (cCons (cVar 1) cNil)) (cgN 3))
    (cSeq (cAsg (cCb c_places_of (cCons (cVar 1) cNil)) (cgN 4))
    (cSeq (cIf (cNot (cTru (cCb c_can_be_done (cCons (cVar 3) (cCons (cCb fLen (cCons (cVar 4) cNil)) (cCons (cVar 2) cNil)))))) cNever cSkip)
    (cSeq (cAsg (cCb c_after_deed (cCons (cVar 0) (cCons (cVar 3) (cCons (cVar 4) (cCons (cVar 2) cNil))))) (cgTup 2 (cgCons (cgN 5) (cgCons (cgN 6) cgNil))))
    (cRet (cTup (cCons (cVar 5) (cCons (cCb c_pattern_of (cCons (cVar 3) (cCons (cVar 6) cNil))) cNil))))))))))
def c_done : List CV → CH → Option (CV × CH) := cDef 3 7 b_done
theorem ok_done {f : Addr} {fd : FuncData} (F : Fun K "done" "done" s_done f fd) (T : Txt K mg cc) (O_check_rule : Own P w K mg base cc 1 "check_rule" ["rule"] c_check_rule) (O_check_pattern : Own P w K mg base cc 1 "check_pattern" ["pattern"] c_check_pattern) (O_places_of : Own P w K mg base cc 1 "places_of" ["pattern"] c_places_of) (O_pattern_of : Own P w K mg base cc 1 "pattern_of" ["wide", "places"] c_pattern_of) (O_can_be_done : Own P w K mg base cc 1 "can_be_done" ["wide", "many", "deed"] c_can_be_done) (O_after_deed : Own P w K mg base cc 3 "after_deed" ["rule", "wide", "places", "deed"] c_after_deed) : FnOk P w K mg base CX0 4 f fd ["rule", "pattern", "deed"] (spOf cc c_done) := by
  refine def_ok (N := ["rule", "pattern", "deed", "wide", "places", "moves", "laid"]) (ps := ["rule", "pattern", "deed"]) (b := b_done) F sc_done fun cdv A outer s H E hr => ?_
  exact (kss_cons (ks_expr (ke_own O_check_rule (hr.mono (by decide)) (ka_cons (kv 0) ka_nil)))
    (kss_cons (ks_expr (ke_own O_check_pattern (hr.mono (by decide)) (ka_cons (kv 1) ka_nil)))
    (kss_cons (ks_set (i := 3) sc_done.nd rfl (by first | exact Or.inl rfl | exact Or.inr rfl) (ke_len rfl T.n_len (ka_cons (kv 1) ka_nil)))
    (kss_cons (ks_set (i := 4) sc_done.nd rfl (by first | exact Or.inl rfl | exact Or.inr rfl) (ke_own O_places_of (hr.mono (by decide)) (ka_cons (kv 1) ka_nil)))
    (kss_cons (ks_if (kt_not (kt_tru (ke_own O_can_be_done (hr.mono (by decide)) (ka_cons (kv 3) (ka_cons (ke_len rfl T.n_len (ka_cons (kv 4) ka_nil)) (ka_cons (kv 2) ka_nil)))))) (kss_one ks_never) kss_nil)
    (kss_cons (ks_asg (ke_own O_after_deed (hr.mono (by decide)) (ka_cons (kv 0) (ka_cons (kv 3) (ka_cons (kv 4) (ka_cons (kv 2) ka_nil))))) (kg_tup rfl (kgs_cons (kg_name (i := 5) sc_done.nd rfl (by first | exact Or.inl rfl | exact Or.inr rfl)) (kgs_cons (kg_name (i := 6) sc_done.nd rfl (by first | exact Or.inl rfl | exact Or.inr rfl)) kgs_nil))))
    (kss_one (ks_ret (ke_tup (ka_cons (kv 5) (ka_cons (ke_own O_pattern_of (hr.mono (by decide)) (ka_cons (kv 3) (ka_cons (kv 6) ka_nil))) ka_nil)))))))))))

abbrev s_Shelf___init__ : Stmt := inClass (top 28) 0
theorem sc_Shelf___init__ : FnScope ["self", "rule", "wide"] ["self", "rule", "wide"] (defScope s_Shelf___init__) := ⟨rfl, rfl, rfl, by decide +kernel, rfl, by decide +kernel, by decide +kernel⟩
def b_Shelf___init__ : CP := (cSeq (cDrop (cCb c_check_rule (cCons (cVar 1) cNil)))
    (cSeq (cDrop (cCb c_check_width (cCons (cVar 2) cNil)))
    (cSeq (cSetF 0 [114, 117, 108, 101] (cVar 0) (cVar 1))
    (cSeq (cSetF 0 [119, 105, 100, 101] (cVar 0) (cVar 2))
    (cSeq (cSetF 0 [114, 97, 110, 107, 101, 100] (cVar 0) (cLst cNil))
    (cSeq (cSetF 0 [112, 108, 97, 99, 101, 115] (cVar 0) (cLst cNil))
    (cSetF 0 [116, 111, 116, 97, 108] (cVar 0) (cC (.int 0)))))))))
def c_Shelf___init__ : List CV → CH → Option (CV × CH) := cDef 3 3 b_Shelf___init__
theorem ok_Shelf___init__ {f : Addr} {fd : FuncData} (F : Fun K "__init__" "Shelf.__init__" s_Shelf___init__ f fd) (T : Txt K mg cc) (O_check_rule : Own P w K mg base cc 1 "check_rule" ["rule"] c_check_rule) (O_check_width : Own P w K mg base cc 1 "check_width" ["wide"] c_check_width) : FnOk P w K mg base CX0 2 f fd ["self", "rule", "wide"] (spOf cc c_Shelf___init__) := by
  refine def_ok (N := ["self", "rule", "wide"]) (ps := ["self", "rule", "wide"]) (b := b_Shelf___init__) F sc_Shelf___init__ fun cdv A outer s H E hr => ?_
  exact (kss_cons (ks_expr (ke_own O_check_rule (hr.mono (by decide)) (ka_cons (kv 1) ka_nil)))
    (kss_cons (ks_expr (ke_own O_check_width (hr.mono (by decide)) (ka_cons (kv 2) ka_nil)))
    (kss_cons (ks_fld (kv 0) (kv 1) T.cl T.f_rule)
    (kss_cons (ks_fld (kv 0) (kv 2) T.cl T.f_wide)
    (kss_cons (ks_fld (kv 0) (ke_lst ka_nil) T.cl T.f_ranked)
    (kss_cons (ks_fld (kv 0) (ke_lst ka_nil) T.cl T.f_places)
    (kss_one (ks_fld (kv 0) ke_int T.cl T.f_total))))))))

abbrev s_Shelf_put_in : Stmt := inClass (top 28) 1
theorem sc_Shelf_put_in : FnScope ["self", "key", "rank", "other", "deed", "moves"] ["self", "key"] (defScope s_Shelf_put_in) := ⟨rfl, rfl, rfl, by decide +kernel, rfl, by decide +kernel, by decide +kernel⟩
def b_Shelf_put_in : CP := (cSeq (cIf (cTst (cBin (fIn false) (cVar 1) (cFld 0 [114, 97, 110, 107, 101, 100] (cVar 0)))) cNever cSkip)
    (cSeq (cAsg (cCb fLen (cCons (cLc 200 (ciL (cFld 0 [114, 97, 110, 107, 101, 100] (cVar 0))) (.nm 3) (cTst (cBin fLt (cVar 3) (cVar 1))) (cVar 3) [3]) cNil)) (cgN 2))
    (cSeq (cAsg (cTup (cCons (cC (.str [112, 117, 116])) (cCons (cVar 2) cNil))) (cgN 4))
    (cSeq (cIf (cNot (cTru (cCb c_can_be_done (cCons (cFld 0 [119, 105, 100, 101] (cVar 0)) (cCons (cCb fLen (cCons (cFld 0 [112, 108, 97, 99, 101, 115] (cVar 0)) cNil)) (cCons (cVar 4) cNil)))))) cNever cSkip)
    (cSeq (cAsg (cCb c_after_deed (cCons (cFld 0 [114, 117, 108, 101] (cVar 0)) (cCons (cFld 0 [119, 105, 100, 101] (cVar 0)) (cCons (cFld 0 [112, 108, 97, 99, 101, 115] (cVar 0)) (cCons (cVar 4) cNil))))) (cgTup 2 (cgCons (cgN 5) (cgCons (cgFld 0 [112, 108, 97, 99, 101, 115] (cVar 0)) cgNil))))
    (cSeq (cDrop (cMt isL mInsert (cFld 0 [114, 97, 110, 107, 101, 100] (cVar 0)) (cCons (cVar 2) (cCons (cVar 1) cNil))))
    (cSeq (cAugF 0 [116, 111, 116, 97, 108] (cVar 0) (cVar 5))
    (cRet (cVar 5)))))))))
def c_Shelf_put_in : List CV → CH → Option (CV × CH) := cDef 2 6 b_Shelf_put_in
theorem ok_Shelf_put_in {f : Addr} {fd : FuncData} (F : Fun K "put_in" "Shelf.put_in" s_Shelf_put_in f fd) (T : Txt K mg cc) (O_can_be_done : Own P w K mg base cc 1 "can_be_done" ["wide", "many", "deed"] c_can_be_done) (O_after_deed : Own P w K mg base cc 3 "after_deed" ["rule", "wide", "places", "deed"] c_after_deed) : FnOk P w K mg base CX0 4 f fd ["self", "key"] (spOf cc c_Shelf_put_in) := by
  refine def_ok (N := ["self", "key", "rank", "other", "deed", "moves"]) (ps := ["self", "key"]) (b := b_Shelf_put_in) F sc_Shelf_put_in fun cdv A outer s H E hr => ?_
  exact (kss_cons (ks_if (kt_in (kv 1) (ke_fld (kv 0) T.cl T.f_ranked)) (kss_one ks_never) kss_nil)
    (kss_cons (ks_set (i := 2) sc_Shelf_put_in.nd rfl (by first | exact Or.inl rfl | exact Or.inr rfl) (ke_len rfl T.n_len (ka_cons (ke_lc (own := [("other", 3)]) 200 (.nm 3) rfl sc_Shelf_put_in.nd (ki_list (ke_fld (kv 0) T.cl T.f_ranked)) (blkOk_by (N := ["self", "key", "rank", "other", "deed", "moves"]) (sc := defScope s_Shelf_put_in) (by decide +kernel)) (fun _ _ _ _ _ => pg_name (i := 3) sc_Shelf_put_in.nd rfl (Or.inl rfl)) (fun _ _ _ _ _ => kts_one (kt_lt (kv 3) (kv 1))) (fun _ _ _ _ _ => (kv 3))) ka_nil)))
    (kss_cons (ks_set (i := 4) sc_Shelf_put_in.nd rfl (by first | exact Or.inl rfl | exact Or.inr rfl) (ke_tup (ka_cons (ke_str [112, 117, 116] (by decide +kernel)) (ka_cons (kv 2) ka_nil))))
    (kss_cons (ks_if (kt_not (kt_tru (ke_own O_can_be_done (hr.mono (by decide)) (ka_cons (ke_fld (kv 0) T.cl T.f_wide) (ka_cons (ke_len rfl T.n_len (ka_cons (ke_fld (kv 0) T.cl T.f_places) ka_nil)) (ka_cons (kv 4) ka_nil)))))) (kss_one ks_never) kss_nil)
    (kss_cons (ks_asg (ke_own O_after_deed (hr.mono (by decide)) (ka_cons (ke_fld (kv 0) T.cl T.f_rule) (ka_cons (ke_fld (kv 0) T.cl T.f_wide) (ka_cons (ke_fld (kv 0) T.cl T.f_places) (ka_cons (kv 4) ka_nil))))) (kg_tup rfl (kgs_cons (kg_name (i := 5) sc_Shelf_put_in.nd rfl (by first | exact Or.inl rfl | exact Or.inr rfl)) (kgs_cons (kg_fld (kv 0) T.cl T.f_places) kgs_nil))))
    (kss_cons (ks_expr (ke_insert (ke_fld (kv 0) T.cl T.f_ranked) (ka_cons (kv 2) (ka_cons (kv 1) ka_nil))))
    (kss_cons (ks_augF (kv 0) (kv 5) T.cl T.f_total)
    (kss_one (ks_ret (kv 5))))))))))

abbrev s_Shelf_take_out : Stmt := inClass (top 28) 2
theorem sc_Shelf_take_out : FnScope ["self", "key", "rank"] ["self", "key"] (defScope s_Shelf_take_out) := ⟨rfl, rfl, rfl, by decide +kernel, rfl, by decide +kernel, by decide +kernel⟩
def b_Shelf_take_out : CP := (cSeq (cIf (cTst (cBin (fIn true) (cVar 1) (cFld 0 [114, 97, 110, 107, 101, 100] (cVar 0)))) cNever cSkip)
    (cSeq (cAsg (cMt isL mIndex (cFld 0 [114, 97, 110, 107, 101, 100] (cVar 0)) (cCons (cVar 1) cNil)) (cgN 2))
    (cSeq (cDel (cFld 0 [114, 97, 110, 107, 101, 100] (cVar 0)) (cVar 2))
    (cDel (cFld 0 [112, 108, 97, 99, 101, 115] (cVar 0)) (cVar 2)))))
def c_Shelf_take_out : List CV → CH → Option (CV × CH) := cDef 2 3 b_Shelf_take_out
theorem ok_Shelf_take_out {f : Addr} {fd : FuncData} (F : Fun K "take_out" "Shelf.take_out" s_Shelf_take_out f fd) (T : Txt K mg cc) : FnOk P w K mg base CX0 1 f fd ["self", "key"] (spOf cc c_Shelf_take_out) := by
  refine def_ok (N := ["self", "key", "rank"]) (ps := ["self", "key"]) (b := b_Shelf_take_out) F sc_Shelf_take_out fun cdv A outer s H E hr => ?_
  exact (kss_cons (ks_if (kt_notIn (kv 1) (ke_fld (kv 0) T.cl T.f_ranked)) (kss_one ks_never) kss_nil)
    (kss_cons (ks_set (i := 2) sc_Shelf_take_out.nd rfl (by first | exact Or.inl rfl | exact Or.inr rfl) (ke_index (ke_fld (kv 0) T.cl T.f_ranked) (ka_cons (kv 1) ka_nil)))
    (kss_cons (ks_del (ke_fld (kv 0) T.cl T.f_ranked) (kv 2))
    (kss_one (ks_del (ke_fld (kv 0) T.cl T.f_places) (kv 2))))))

abbrev s_Shelf_standing : Stmt := inClass (top 28) 3
theorem sc_Shelf_standing : FnScope ["self", "row", "at", "key"] ["self"] (defScope s_Shelf_standing) := ⟨rfl, rfl, rfl, by decide +kernel, rfl, by decide +kernel, by decide +kernel⟩
def b_Shelf_standing : CP := (cSeq (cAsg (cBin fMul (cLst (cCons (cC .non) cNil)) (cFld 0 [119, 105, 100, 101] (cVar 0))) (cgN 1))
    (cSeq (cFor 200 (ciZ (cCons (cFld 0 [112, 108, 97, 99, 101, 115] (cVar 0)) (cCons (cFld 0 [114, 97, 110, 107, 101, 100] (cVar 0)) cNil))) (cgTup 2 (cgCons (cgN 2) (cgCons (cgN 3) cgNil))) (cAsg (cVar 3) (cgIx (cVar 1) (cVar 2))))
    (cRet (cVar 1))))
def c_Shelf_standing : List CV → CH → Option (CV × CH) := cDef 1 4 b_Shelf_standing
theorem ok_Shelf_standing {f : Addr} {fd : FuncData} (F : Fun K "standing" "Shelf.standing" s_Shelf_standing f fd) (T : Txt K mg cc) : FnOk P w K mg base CX0 1 f fd ["self"] (spOf cc c_Shelf_standing) := by
  refine def_ok (N := ["self", "row", "at", "key"]) (ps := ["self"]) (b := b_Shelf_standing) F sc_Shelf_standing fun cdv A outer s H E hr => ?_
  exact (kss_cons (ks_set (i := 1) sc_Shelf_standing.nd rfl (by first | exact Or.inl rfl | exact Or.inr rfl) (ke_mul (ke_lst (ka_cons ke_non ka_nil)) (ke_fld (kv 0) T.cl T.f_wide)))
    (kss_cons (ks_for 200 PassesOwn.never rfl (ki_zip rfl T.n_zip (ka_cons (ke_fld (kv 0) T.cl T.f_places) (ka_cons (ke_fld (kv 0) T.cl T.f_ranked) ka_nil))) (kg_tup rfl (kgs_cons (kg_name (i := 2) sc_Shelf_standing.nd rfl (by first | exact Or.inl rfl | exact Or.inr rfl)) (kgs_cons (kg_name (i := 3) sc_Shelf_standing.nd rfl (by first | exact Or.inl rfl | exact Or.inr rfl)) kgs_nil))) (kss_one (ks_asg (kv 3) (kg_ix (kv 1) (kv 2)))))
    (kss_one (ks_ret (kv 1)))))

abbrev s_Shelf_moved : Stmt := inClass (top 28) 4
theorem sc_Shelf_moved : FnScope ["self"] ["self"] (defScope s_Shelf_moved) := ⟨rfl, rfl, rfl, by decide +kernel, rfl, by decide +kernel, by decide +kernel⟩
def b_Shelf_moved : CP := (cRet (cFld 0 [116, 111, 116, 97, 108] (cVar 0)))
def c_Shelf_moved : List CV → CH → Option (CV × CH) := cDef 1 1 b_Shelf_moved
theorem ok_Shelf_moved {f : Addr} {fd : FuncData} (F : Fun K "moved" "Shelf.moved" s_Shelf_moved f fd) (T : Txt K mg cc) : FnOk P w K mg base CX0 1 f fd ["self"] (spOf cc c_Shelf_moved) := by
  refine def_ok (N := ["self"]) (ps := ["self"]) (b := b_Shelf_moved) F sc_Shelf_moved fun cdv A outer s H E hr => ?_
  exact (kss_one (ks_ret (ke_fld (kv 0) T.cl T.f_total)))

abbrev s__law_deeds : Stmt := top 33
theorem sc__law_deeds : FnScope ["_law_pattern", "_law_many", "_law_found", "_law_rank"] ["_law_pattern"] (defScope s__law_deeds) := ⟨rfl, rfl, rfl, by decide +kernel, rfl, by decide +kernel, by decide +kernel⟩
def b__law_deeds : CP := (cSeq (cAsg (cMt isS mCount (cVar 0) (cCons (cC (.str [49])) cNil)) (cgN 1))
    (cSeq (cAsg (cLc 200 (ciR1 (cCons (cVar 1) cNil)) (.nm 3) cYes (cTup (cCons (cC (.str [116, 97, 107, 101])) (cCons (cVar 3) cNil))) [3]) (cgN 2))
    (cRet (cBin fAdd (cVar 2) (cLc 200 (ciR1 (cCons (cBin fAdd (cVar 1) (cC (.int 1))) cNil)) (.nm 3) (cTst (cBin fLt (cVar 1) (cCb fLen (cCons (cVar 0) cNil)))) (cTup (cCons (cC (.str [112, 117, 116])) (cCons (cVar 3) cNil))) [3])))))
def c__law_deeds : List CV → CH → Option (CV × CH) := cDef 1 4 b__law_deeds
theorem ok__law_deeds {f : Addr} {fd : FuncData} (F : Fun K "_law_deeds" "_law_deeds" s__law_deeds f fd) (T : Txt K mg cc) : FnOk P w K mg base CX0 1 f fd ["_law_pattern"] (spOf cc c__law_deeds) := by
  refine def_ok (N := ["_law_pattern", "_law_many", "_law_found", "_law_rank"]) (ps := ["_law_pattern"]) (b := b__law_deeds) F sc__law_deeds fun cdv A outer s H E hr => ?_
  exact (kss_cons (ks_set (i := 1) sc__law_deeds.nd rfl (by first | exact Or.inl rfl | exact Or.inr rfl) (ke_count (kv 0) (ka_cons (ke_str [49] (by decide +kernel)) ka_nil)))
    (kss_cons (ks_setLc (i := 2) (own := [("_law_rank", 3)]) 200 (.nm 3) rfl sc__law_deeds.nd rfl rfl (sw_true rfl rfl rfl (by decide +kernel)) (ki_range1 rfl T.n_range (ka_cons (kv 1) ka_nil)) (blkOk_by (N := ["_law_pattern", "_law_many", "_law_found", "_law_rank"]) (sc := defScope s__law_deeds) (by decide +kernel)) (fun _ _ _ _ _ => pg_name (i := 3) sc__law_deeds.nd rfl (Or.inl rfl)) (fun _ _ _ _ _ => kts_nil) (fun _ _ _ _ _ => (ke_tup (ka_cons (ke_str [116, 97, 107, 101] (by decide +kernel)) (ka_cons (kv 3) ka_nil)))))
    (kss_one (ks_ret (ke_add (kv 2) (ke_lc (own := [("_law_rank", 3)]) 200 (.nm 3) rfl sc__law_deeds.nd (ki_range1 rfl T.n_range (ka_cons (ke_add (kv 1) ke_int) ka_nil)) (blkOk_by (N := ["_law_pattern", "_law_many", "_law_found", "_law_rank"]) (sc := defScope s__law_deeds) (by decide +kernel)) (fun _ _ _ _ _ => pg_name (i := 3) sc__law_deeds.nd rfl (Or.inl rfl)) (fun _ _ _ _ _ => kts_one (kt_lt (kv 1) (ke_len rfl T.n_len (ka_cons (kv 0) ka_nil)))) (fun _ _ _ _ _ => (ke_tup (ka_cons (ke_str [112, 117, 116] (by decide +kernel)) (ka_cons (kv 3) ka_nil))))))))))
def f_for : CP := (cFor 200 (ciL (cCb c__law_deeds (cCons (cVar 4) cNil))) (cgN 6) (cSeq (cAsg (cLc 200 (ciL (cLst (cCons (cC (.str [110, 101, 97, 114])) (cCons (cC (.str [108, 101, 102, 116])) (cCons (cC (.str [101, 118, 101, 110])) cNil))))) (.nm 10) cYes (cCb c_done (cCons (cVar 10) (cCons (cVar 4) (cCons (cVar 6) cNil)))) [10]) (cgUnl 3 (cgCons (cgN 7) (cgCons (cgN 8) (cgCons (cgN 9) cgNil)))))
    (cSeq (cAsg (cMt isS mCount (cVar 4) (cCons (cC (.str [49])) cNil)) (cgN 11))
    (cSeq (cIf (cOr (cTst (cBin fGt (cBin fIx (cVar 7) (cC (.int 0))) (cBin fIx (cVar 8) (cC (.int 0))))) (cTst (cBin fGt (cCb fMax3 (cCons (cBin fIx (cVar 7) (cC (.int 0))) (cCons (cBin fIx (cVar 8) (cC (.int 0))) (cCons (cBin fIx (cVar 9) (cC (.int 0))) cNil)))) (cVar 11)))) (cRet (cC (.bl false))) cSkip)
    (cSeq (cFor 200 (ciL (cLst (cCons (cVar 7) (cCons (cVar 8) (cCons (cVar 9) cNil))))) (cgN 12) (cIf (cTst (cBin fNe (cMt isS mCount (cBin fIx (cVar 12) (cC (.int 1))) (cCons (cC (.str [49])) cNil)) (cBin fAdd (cVar 11) (cBin fIx (cLst (cCons (cC (.int 1)) (cCons (cUn fNeg (cC (.int 1))) cNil))) (cCb fIntOf (cCons (cBin fEq (cBin fIx (cVar 6) (cC (.int 0))) (cC (.str [116, 97, 107, 101]))) cNil)))))) (cRet (cC (.bl false))) cSkip))
    (cFor 200 (ciL (cLst (cCons (cVar 7) (cCons (cVar 8) cNil)))) (cgN 12) (cIf (cTst (cBin fNe (cCb fLen (cCons (cLc 200 (ciR1 (cCons (cVar 3) cNil)) (.nm 5) (cTst (cBin fNe (cBin fIx (cBin fIx (cVar 12) (cC (.int 1))) (cVar 5)) (cBin fIx (cVar 4) (cVar 5)))) (cVar 5) [5]) cNil)) (cC (.int 1)))) (cRet (cC (.bl false))) cSkip)))))))
end
end CK

namespace CK
open PySem L2 PyProof.Rows
/-! a shelf and the deeds, for each pattern of at most six places: what is run -/
def bits : Nat → List (List Nat)
  | 0 => [[]]
  | n + 1 => (bits n).map (48 :: ·) ++ (bits n).map (49 :: ·)
def rules : List (List Nat) := [[110, 101, 97, 114], [108, 101, 102, 116], [101, 118, 101, 110]]
def many : List Nat → Nat
  | [] => 0
  | 49 :: r => many r + 1
  | _ :: r => many r
def plFrom : Nat → List Nat → List Int
  | _, [] => []
  | i, 49 :: r => (i : Int) :: plFrom (i + 1) r
  | i, _ :: r => plFrom (i + 1) r
/-- the taken places -/
def pl (p : List Nat) : List Int := plFrom 0 p
def isBits : List Nat → Bool
  | [] => true
  | 48 :: r => isBits r
  | 49 :: r => isBits r
  | _ :: _ => false
/-- things on a pattern -/
def fill {α : Type} (z : α) : List Nat → List α → List α
  | [], _ => []
  | 49 :: r, k :: ks => k :: fill z r ks
  | 49 :: r, [] => z :: fill z r []
  | _ :: r, ks => z :: fill z r ks
def lab (n : Nat) : List CV := (List.range n).map CV.key
def patOf : List CV → List Nat
  | [] => []
  | .non :: r => 48 :: patOf r
  | _ :: r => 49 :: patOf r
/-- the fields -/
def shO (r : List Nat) (n : Nat) (b c : Nat) (t : CV) : CO := .ins 0 [([114, 117, 108, 101], .str r), ([119, 105, 100, 101], .int n), ([114, 97, 110, 107, 101, 100], .ref b), ([112, 108, 97, 99, 101, 115], .ref c), ([116, 111, 116, 97, 108], t)]
def plO (p : List Nat) : CO := .lst ((pl p).map CV.int)
def rowO (p : List Nat) (ks : List CV) : CO := .lst (fill .non p ks)
def shH (r p : List Nat) (ks : List CV) : List CO := [shO r p.length 1 2 (.off 0), .lst ks, plO p]
/-- structural equality of objects -/
def fseq : List (List Nat × CV) → List (List Nat × CV) → Bool
  | [], [] => true
  | (a, x) :: as, (b, y) :: bs => (a == b && cveq x y) && fseq as bs
  | _, _ => false
theorem fseq_eq : ∀ {a b : List (List Nat × CV)}, fseq a b = true → a = b
  | [], [], _ => rfl
  | (a, x) :: as, (b, y) :: bs, h => by
    have h : ((a == b && cveq x y) && fseq as bs) = true := h
    rw [Bool.and_eq_true, Bool.and_eq_true] at h
    rw [eq_of_beq h.1.1, cveq_eq h.1.2, fseq_eq h.2]
  | [], _ :: _, h => absurd h Bool.false_ne_true
  | _ :: _, [], h => absurd h Bool.false_ne_true
def oeq : CO → CO → Bool
  | .lst a, .lst b => cvseq a b
  | .tup a, .tup b => cvseq a b
  | .ins c a, .ins d b => Nat.beq c d && fseq a b
  | _, _ => false
theorem oeq_eq {a b : CO} (h : oeq a b = true) : a = b := by
  cases a with
  | lst a => cases b with
    | lst b => rw [cvseq_eq (show cvseq a b = true from h)]
    | tup _ => cases h
    | ins _ _ => cases h
  | tup a => cases b with
    | lst _ => cases h
    | tup b => rw [cvseq_eq (show cvseq a b = true from h)]
    | ins _ _ => cases h
  | ins c a => cases b with
    | lst _ => cases h
    | tup _ => cases h
    | ins d b =>
      have h : (Nat.beq c d && fseq a b) = true := h
      rw [Bool.and_eq_true] at h
      rw [Nat.eq_of_beq_eq_true h.1, fseq_eq h.2]
def at_ (h : CH) (n : Nat) (o : CO) : Bool := match h.get n with
  | some o' => oeq o o'
  | none => false
theorem at_get {h : CH} {n : Nat} {o : CO} (e : at_ h n o = true) : h.get n = some o := by
  unfold at_ at e
  split at e
  · rename_i o' q
    rw [oeq_eq e, q]
  · cases e
/-- a list told, new or not; what must stand, with its places -/
def rdL (os : List CO) : Option (CV × CH) → Option (List CV)
  | some (.ref n, h) => (match h.get n with
    | some (.lst xs) => (match kept h 0 os && Nat.ble os.length n with | true => some xs | false => none)
    | _ => none)
  | _ => none
theorem rdL_some {os : List CO} {o : Option (CV × CH)} {xs : List CV} (e : rdL os o = some xs) : ∃ n h, o = some (.ref n, h) ∧ h.get n = some (.lst xs) ∧ kept h 0 os = true ∧ os.length ≤ n := by
  unfold rdL at e
  split at e
  · split at e
    · split at e
      · rename_i hk
        rw [Bool.and_eq_true] at hk
        cases e
        exact ⟨_, _, rfl, by assumption, hk.1, Nat.le_of_ble_eq_true hk.2⟩
      · cases e
    · cases e
  · cases e
def rdI (os : List CO) : Option (CV × CH) → Option Int
  | some (.int i, h) => (match kept h 0 os with | true => some i | false => none)
  | _ => none
theorem rdI_some {os : List CO} {o : Option (CV × CH)} {i : Int} (e : rdI os o = some i) : ∃ h, o = some (.int i, h) ∧ kept h 0 os = true := by
  unfold rdI at e
  split at e
  · split at e
    · rename_i hk
      cases e
      exact ⟨_, rfl, hk⟩
    · cases e
  · cases e
/-- the answer m; the shelf as it must stand behind it -/
def isPut (m : Int) (r p : List Nat) (ks : List CV) : Option (CV × CH) → Bool
  | some (.int i, h) => i == m && (match h.get 0 with
    | some (.ins c [_, _, _, (k, .ref x), f]) => at_ h 0 (shO r p.length 1 x (.off m)) && (at_ h 1 (.lst ks) && (at_ h x (plO p) && !Nat.beq x 1))
    | _ => false)
  | _ => false
theorem isPut_some {m : Int} {r p : List Nat} {ks : List CV} {o : Option (CV × CH)} (e : isPut m r p ks o = true) : ∃ h x, o = some (.int m, h) ∧ h.get 0 = some (shO r p.length 1 x (.off m)) ∧ h.get 1 = some (.lst ks) ∧ h.get x = some (plO p) ∧ x ≠ 1 := by
  unfold isPut at e
  split at e
  · rw [Bool.and_eq_true] at e
    obtain ⟨e0, e⟩ := e
    cases eq_of_beq e0
    split at e
    · simp only [Bool.and_eq_true] at e
      exact ⟨_, _, rfl, at_get e.1, at_get e.2.1, at_get e.2.2.1, fun z => by have q := e.2.2.2; rw [z] at q; cases q⟩
    · cases e
  · cases e
/-- the shelf as it must stand behind an answer None -/
def isTook (r p : List Nat) (ks : List CV) : Option (CV × CH) → Bool
  | some (.non, h) => at_ h 0 (shO r p.length 1 2 (.off 0)) && (at_ h 1 (.lst ks) && at_ h 2 (plO p))
  | _ => false
theorem isTook_some {r p : List Nat} {ks : List CV} {o : Option (CV × CH)} (e : isTook r p ks o = true) : ∃ h, o = some (.non, h) ∧ h.get 0 = some (shO r p.length 1 2 (.off 0)) ∧ h.get 1 = some (.lst ks) ∧ h.get 2 = some (plO p) := by
  unfold isTook at e
  split at e
  · rw [Bool.and_eq_true, Bool.and_eq_true] at e
    exact ⟨_, rfl, at_get e.1, at_get e.2.1, at_get e.2.2⟩
  · cases e
def isStand (r p : List Nat) (ks : List CV) : Option (CV × CH) → Bool
  | some (.ref n, h) => at_ h n (rowO p ks) && (Nat.ble 3 n && (at_ h 0 (shO r p.length 1 2 (.off 0)) && (at_ h 1 (.lst ks) && at_ h 2 (plO p))))
  | _ => false
theorem isStand_some {r p : List Nat} {ks : List CV} {o : Option (CV × CH)} (e : isStand r p ks o = true) : ∃ n h, o = some (.ref n, h) ∧ 3 ≤ n ∧ h.get n = some (rowO p ks) ∧ h.get 0 = some (shO r p.length 1 2 (.off 0)) ∧ h.get 1 = some (.lst ks) ∧ h.get 2 = some (plO p) := by
  unfold isStand at e
  split at e
  · simp only [Bool.and_eq_true] at e
    exact ⟨_, _, rfl, Nat.le_of_ble_eq_true e.2.1, at_get e.1, at_get e.2.2.1, at_get e.2.2.2.1, at_get e.2.2.2.2⟩
  · cases e
def word : Bool → List Nat
  | true => [112, 117, 116]
  | false => [116, 97, 107, 101]
abbrev Deed := Bool × Nat
def deeds (p : List Nat) : List Deed := (List.range (many p)).map (fun r => (false, r)) ++ (match Nat.blt (many p) p.length with | true => (List.range (many p + 1)).map (fun r => (true, r)) | false => [])
def dT (d : Deed) : CO := .tup [.str (word d.1), .int d.2]
def intsC : List CV → Option (List Int)
  | [] => some []
  | .int i :: r => (match intsC r with | some l => some (i :: l) | none => none)
  | _ :: _ => none
theorem intsC_some : ∀ {xs : List CV} {l : List Int}, intsC xs = some l → xs = l.map CV.int
  | [], _, e => by cases e; rfl
  | .int i :: r, l, e => by
    unfold intsC at e
    split at e
    · rename_i q eq
      cases e
      rw [intsC_some eq]; rfl
    · cases e
  | .non :: _, _, e => by cases e
  | .bl _ :: _, _, e => by cases e
  | .str _ :: _, _, e => by cases e
  | .ref _ :: _, _, e => by cases e
  | .ty _ :: _, _, e => by cases e
  | .key _ :: _, _, e => by cases e
  | .off _ :: _, _, e => by cases e
  | .opq :: _, _, e => by cases e
/-- a pair of a number and a new list of ints -/
def rdTL (os : List CO) : Option (CV × CH) → Option (Int × List Int)
  | some (.ref n, h) => (match h.get n with
    | some (.tup [.int m, .ref k]) => (match h.get k with
      | some (.lst xs) => (match intsC xs with
        | some l => (match kept h 0 os with | true => some (m, l) | false => none)
        | none => none)
      | _ => none)
    | _ => none)
  | _ => none
theorem rdTL_some {os : List CO} {o : Option (CV × CH)} {m : Int} {l : List Int} (e : rdTL os o = some (m, l)) : ∃ n k h, o = some (.ref n, h) ∧ h.get n = some (.tup [.int m, .ref k]) ∧ h.get k = some (.lst (l.map CV.int)) ∧ kept h 0 os = true := by
  unfold rdTL at e
  split at e
  · split at e
    · split at e
      · split at e
        · split at e
          · rename_i hk
            cases e
            refine ⟨_, _, _, rfl, by assumption, ?_, hk⟩
            rw [← intsC_some (by assumption)]
            assumption
          · cases e
        · cases e
      · cases e
    · cases e
  · cases e
def isT (os : List CO) : Option (CV × CH) → Bool
  | some (.bl true, h) => kept h 0 os
  | _ => false
theorem isT_some {os : List CO} {o : Option (CV × CH)} (e : isT os o = true) : ∃ h, o = some (.bl true, h) ∧ kept h 0 os = true := by
  unfold isT at e
  split at e
  · exact ⟨_, rfl, e⟩
  · cases e
def isN (os : List CO) : Option (CV × CH) → Bool
  | some (.non, h) => kept h 0 os
  | _ => false
theorem isN_some {os : List CO} {o : Option (CV × CH)} (e : isN os o = true) : ∃ h, o = some (.non, h) ∧ kept h 0 os = true := by
  unfold isN at e
  split at e
  · exact ⟨_, rfl, e⟩
  · cases e
def isStr (os : List CO) (t : List Nat) : Option (CV × CH) → Bool
  | some (.str s, h) => s == t && kept h 0 os
  | _ => false
theorem isStr_some {os : List CO} {t : List Nat} {o : Option (CV × CH)} (e : isStr os t o = true) : ∃ h, o = some (.str t, h) ∧ kept h 0 os = true := by
  unfold isStr at e
  split at e
  · rw [Bool.and_eq_true] at e
    rw [eq_of_beq e.1]
    exact ⟨_, rfl, e.2⟩
  · cases e
def ileq : List Int → List Int → Bool
  | [], [] => true
  | a :: as, b :: bs => a == b && ileq as bs
  | _, _ => false
theorem ileq_eq : ∀ {a b : List Int}, ileq a b = true → a = b
  | [], [], _ => rfl
  | a :: as, b :: bs, h => by
    have h : (a == b && ileq as bs) = true := h
    rw [Bool.and_eq_true] at h
    rw [eq_of_beq h.1, ileq_eq h.2]
  | [], _ :: _, h => absurd h Bool.false_ne_true
  | _ :: _, [], h => absurd h Bool.false_ne_true
def runPut (r p : List Nat) (j : Nat) := c_Shelf_put_in [.ref 0, .key j] (CH.of (shH r p ((lab (many p + 1)).eraseIdx j)))
def runTake (r p : List Nat) (i : Nat) := c_Shelf_take_out [.ref 0, .key i] (CH.of (shH r p (lab (many p))))
def runStand (r p : List Nat) := c_Shelf_standing [.ref 0] (CH.of (shH r p (lab (many p))))
def plL (p : List Nat) : CO := plO p
def runCan (p : List Nat) (d : Deed) := c_can_be_done [.int p.length, .int (many p), .ref 0] (CH.of [dT d])
def runAfter (r p : List Nat) (d : Deed) := c_after_deed [.str r, .int p.length, .ref 0, .ref 1] (CH.of [plL p, dT d])
def mem1 (i : Int) : List Int → Bool
  | [] => false
  | j :: r => match i == j with | true => true | false => mem1 i r
def patF : Nat → Nat → List Int → List Nat
  | 0, _, _ => []
  | n + 1, i, l => (match mem1 (i : Int) l with | true => 49 | false => 48) :: patF n (i + 1) l
/-- what a deed does, as the places behind tell it -/
def ansA (r p : List Nat) (d : Deed) : Option (Int × List Nat) := match rdTL [plL p, dT d] (runAfter r p d) with
  | some (m, l) => (match ileq l (pl (patF p.length 0 l)) with
    | true => some (m, patF p.length 0 l)
    | false => none)
  | none => none
def goodS (r p : List Nat) (d : Deed) (m : Int) (q : List Nat) : Bool := match d.1 with
  | true => Nat.beq (many q) (many p + 1) && isPut m r q (lab (many p + 1)) (runPut r p d.2)
  | false => Nat.beq (many q + 1) (many p) && (m == 0 && isTook r q ((lab (many p)).eraseIdx d.2) (runTake r p d.2))
def goodD (r p : List Nat) (d : Deed) : Bool := isT [dT d] (runCan p d) && (match ansA r p d with
  | some (m, q) => Nat.beq q.length p.length && (isBits q && goodS r p d m q)
  | none => false)
/-- the law's slots ahead of its first loop over deeds -/
def slotsF (p : List Nat) : CS := [none, some .opq, none, some (.int p.length), some (.str p), none, none, none, none, none, none, none, none, none, none, none, none, none, none, none, none, none, none, none]
def isF : Option (Fl × CS × CH) → Bool
  | some (.nx, _ :: some .opq :: s, _) => Nat.beq s.length 22
  | _ => false
theorem isF_some {o : Option (Fl × CS × CH)} (e : isF o = true) : ∃ x s h, o = some (.nx, x :: some .opq :: s, h) ∧ s.length = 22 := by
  unfold isF at e
  split at e
  · exact ⟨_, _, _, rfl, Nat.eq_of_beq_eq_true e⟩
  · cases e
def goodF (p : List Nat) : Bool := isF (f_for (slotsF p) (CH.of []))
def goodP (p : List Nat) : Bool := rules.all (fun r => isStand r p (lab (many p)) (runStand r p) && (deeds p).all (goodD r p)) && (goodF p && isStr [plL p] p (c_pattern_of [.int p.length, .ref 0] (CH.of [plL p])))
def goodR (r : List Nat) : Bool := isN [] (c_check_rule [.str r] (CH.of []))
def goodW (n : Nat) : Bool := isN [] (c_check_width [.int n] (CH.of []))
/-- a new shelf -/
def runMake (r : List Nat) (n : Nat) := c_Shelf___init__ [.ref 0, .str r, .int n] (CH.of [.ins 0 []])
def isMade (r : List Nat) (n : Nat) : Option (CV × CH) → Bool
  | some (.non, h) => at_ h 0 (shO r n 1 2 (.int 0)) && (at_ h 1 (.lst []) && at_ h 2 (.lst []))
  | _ => false
theorem isMade_some {r : List Nat} {n : Nat} {o : Option (CV × CH)} (e : isMade r n o = true) : ∃ h, o = some (.non, h) ∧ h.get 0 = some (shO r n 1 2 (.int 0)) ∧ h.get 1 = some (.lst []) ∧ h.get 2 = some (.lst []) := by
  unfold isMade at e
  split at e
  · simp only [Bool.and_eq_true] at e
    exact ⟨_, rfl, at_get e.1, at_get e.2.1, at_get e.2.2⟩
  · cases e
def goodM (n : Nat) : Bool := rules.all fun r => isMade r n (runMake r n)
end CK

namespace CK
theorem g3_small : ((bits 1).all goodP && (bits 2).all goodP && (bits 3).all goodP && ([1,2,3,4,5,6] : List Nat).all goodM) = true := by decide +kernel
theorem gp_r : rules.all goodR = true := by decide +kernel
theorem gp_w : ([1, 2, 3, 4, 5, 6] : List Nat).all goodW = true := by decide +kernel
theorem g6_15 : (((bits 6).drop 60).take 4).all goodP = true := by decide +kernel
theorem g6_11 : (((bits 6).drop 44).take 4).all goodP = true := by decide +kernel
theorem g6_7 : (((bits 6).drop 28).take 4).all goodP = true := by decide +kernel
theorem g6_3 : (((bits 6).drop 12).take 4).all goodP = true := by decide +kernel
theorem g5_7 : (((bits 5).drop 28).take 4).all goodP = true := by decide +kernel
theorem g5_3 : (((bits 5).drop 12).take 4).all goodP = true := by decide +kernel
theorem g4_3 : (((bits 4).drop 12).take 4).all goodP = true := by decide +kernel
end CK

namespace CK
theorem g6_14 : (((bits 6).drop 56).take 4).all goodP = true := by decide +kernel
theorem g6_10 : (((bits 6).drop 40).take 4).all goodP = true := by decide +kernel
theorem g6_6 : (((bits 6).drop 24).take 4).all goodP = true := by decide +kernel
theorem g6_2 : (((bits 6).drop 8).take 4).all goodP = true := by decide +kernel
theorem g5_6 : (((bits 5).drop 24).take 4).all goodP = true := by decide +kernel
theorem g5_2 : (((bits 5).drop 8).take 4).all goodP = true := by decide +kernel
theorem g4_2 : (((bits 4).drop 8).take 4).all goodP = true := by decide +kernel
end CK

namespace CK
theorem g6_13 : (((bits 6).drop 52).take 4).all goodP = true := by decide +kernel
theorem g6_9 : (((bits 6).drop 36).take 4).all goodP = true := by decide +kernel
theorem g6_5 : (((bits 6).drop 20).take 4).all goodP = true := by decide +kernel
theorem g6_1 : (((bits 6).drop 4).take 4).all goodP = true := by decide +kernel
theorem g5_5 : (((bits 5).drop 20).take 4).all goodP = true := by decide +kernel
theorem g5_1 : (((bits 5).drop 4).take 4).all goodP = true := by decide +kernel
theorem g4_1 : (((bits 4).drop 4).take 4).all goodP = true := by decide +kernel
end CK

namespace CK
theorem g6_12 : (((bits 6).drop 48).take 4).all goodP = true := by decide +kernel
theorem g6_8 : (((bits 6).drop 32).take 4).all goodP = true := by decide +kernel
theorem g6_4 : (((bits 6).drop 16).take 4).all goodP = true := by decide +kernel
theorem g6_0 : (((bits 6).drop 0).take 4).all goodP = true := by decide +kernel
theorem g5_4 : (((bits 5).drop 16).take 4).all goodP = true := by decide +kernel
theorem g5_0 : (((bits 5).drop 0).take 4).all goodP = true := by decide +kernel
theorem g4_0 : (((bits 4).drop 0).take 4).all goodP = true := by decide +kernel
end CK

namespace CK
open PySem L2 PyProof.Rows
/-! shelves in the abstract heap -/
def flds (r : List Nat) (n : Nat) (b c : Addr) (t : Int) : List (Str × V) := [(Tx [114, 117, 108, 101], .str (Tx r)), (Tx [119, 105, 100, 101], .int n), (Tx [114, 97, 110, 107, 101, 100], .ref b), (Tx [112, 108, 97, 99, 101, 115], .ref c), (Tx [116, 111, 116, 97, 108], .int t)]
structure Sh (C : Addr) (H : Hp) (a b c : Addr) (r p : List Nat) (ks : List Int) (t : Int) : Prop where
  o : ∃ dx, H a = some (.ins C dx (flds r p.length b c t))
  k : H b = some (.lst (ks.map V.int))
  p : H c = some (.lst ((pl p).map V.int))
theorem rf_flds {η : Em} {r : List Nat} {n nb nc : Nat} {b c : Addr} {tv : CV} {t : Int} (eb : η.as[nb]? = some b) (ec : η.as[nc]? = some c) (rt : RV η tv (.int t)) :
    RF η [([114, 117, 108, 101], .str r), ([119, 105, 100, 101], .int n), ([114, 97, 110, 107, 101, 100], .ref nb), ([112, 108, 97, 99, 101, 115], .ref nc), ([116, 111, 116, 97, 108], tv)] (flds r n b c t) :=
  .cons ⟨rfl, rfl⟩ (.cons ⟨rfl, rfl⟩ (.cons ⟨rfl, b, eb, rfl⟩ (.cons ⟨rfl, c, ec, rfl⟩ (.cons ⟨rfl, rt⟩ .nil))))
theorem RF.fn {η : Em} : ∀ {fs : List (List Nat × CV)} {xs ys : List (Str × V)}, RF η fs xs → RF η fs ys → xs = ys
  | _, _, _, .nil, .nil => rfl
  | _, _, _, .cons (b := x) a s, .cons (b := y) b t => by
    obtain ⟨x1, x2⟩ := x
    obtain ⟨y1, y2⟩ := y
    have e1 : x1 = y1 := a.1.trans b.1.symm
    have e2 : x2 = y2 := RV.fn a.2 b.2
    rw [e1, e2, RF.fn s t]
theorem keys_rv {η : Em} : ∀ ls : List Nat, RVs η (ls.map CV.key) ((ls.map η.k).map V.int)
  | [] => .nil
  | l :: ls => .cons rfl (keys_rv ls)
theorem fill_no {α : Type} {z : α} {c : Nat} (hc : c ≠ 49) (p : List Nat) (xs : List α) : fill z (c :: p) xs = z :: fill z p xs := by cases xs <;> simp [fill, hc]
theorem fill_rv {η : Em} : ∀ {p : List Nat} {xs : List CV} {ys : List V}, RVs η xs ys → RVs η (fill .non p xs) (fill .non p ys)
  | [], _, _, _ => .nil
  | c :: p, xs, ys, r => by
    by_cases hc : c = 49
    · subst hc
      cases r with
      | nil => exact .cons rfl (fill_rv .nil)
      | cons q rs => exact .cons q (fill_rv rs)
    · rw [fill_no hc, fill_no hc]
      exact .cons rfl (fill_rv r)
theorem top_of : ∀ ks : List Int, ∃ B : Int, ∀ x ∈ ks, x < B
  | [] => ⟨0, fun _ h => by cases h⟩
  | k :: ks => by
    obtain ⟨B, hB⟩ := top_of ks
    refine ⟨max (k + 1) B, fun x hx => ?_⟩
    rcases List.mem_cons.mp hx with rfl | hx
    · omega
    · have := hB x hx; omega
/-- the labels' ints -/
theorem kap {ks : List Int} (so : ks.Pairwise (· < ·)) : ∃ κ : Nat → Int, (∀ i j, i < j → κ i < κ j) ∧ ks = (List.range ks.length).map κ := by
  obtain ⟨B, hB⟩ := top_of ks
  refine ⟨fun i => if h : i < ks.length then ks[i] else B + i, fun i j hij => ?_, ?_⟩
  · show (if h : i < ks.length then ks[i] else B + i) < (if h : j < ks.length then ks[j] else B + j)
    by_cases hj : j < ks.length
    · rw [dif_pos hj, dif_pos (Nat.lt_trans hij hj)]
      exact List.pairwise_iff_getElem.mp so i j _ hj hij
    · rw [dif_neg hj]
      by_cases hi : i < ks.length
      · rw [dif_pos hi]
        have := hB ks[i] (List.getElem_mem hi)
        omega
      · rw [dif_neg hi]; omega
  · apply List.ext_getElem
    · simp
    · intro i h1 h2
      simp [h1]
theorem map_er {α β : Type} (f : α → β) : ∀ (l : List α) (j : Nat), (l.map f).eraseIdx j = (l.eraseIdx j).map f
  | [], _ => rfl
  | _ :: _, 0 => rfl
  | a :: l, j + 1 => by
    show f a :: (l.map f).eraseIdx j = f a :: (l.eraseIdx j).map f
    rw [map_er f l j]
/-- a new one finds its place -/
theorem put_sorted {x : Int} : ∀ {ks : List Int}, ks.Pairwise (· < ·) → x ∉ ks → ∃ (ks' : List Int) (j : Nat), ks'.Pairwise (· < ·) ∧ j < ks'.length ∧ ks'[j]? = some x ∧ ks'.eraseIdx j = ks ∧ ks'.length = ks.length + 1 ∧ ∀ y ∈ ks', y = x ∨ y ∈ ks
  | [], _, _ => ⟨[x], 0, by simp, by simp, rfl, rfl, rfl, fun y h => .inl (by simpa using h)⟩
  | k :: ks, so, ni => by
    have so' := List.pairwise_cons.mp so
    by_cases hx : x < k
    · refine ⟨x :: k :: ks, 0, List.pairwise_cons.mpr ⟨fun y hy => ?_, so⟩, by simp, rfl, rfl, rfl, fun y hy => List.mem_cons.mp hy⟩
      rcases List.mem_cons.mp hy with rfl | hy
      · exact hx
      · have := so'.1 y hy; omega
    · have hk : k < x := by
        have : x ≠ k := fun z => ni (by rw [z]; exact List.mem_cons_self)
        omega
      obtain ⟨ks', j, s1, hj, e1, e2, e3, m⟩ := put_sorted so'.2 (fun z => ni (List.mem_cons_of_mem _ z))
      refine ⟨k :: ks', j + 1, List.pairwise_cons.mpr ⟨fun y hy => ?_, s1⟩, by simp [hj], e1, by show k :: ks'.eraseIdx j = _; rw [e2], by simp [e3], fun y hy => ?_⟩
      · rcases m y hy with rfl | h
        · exact hk
        · exact so'.1 y h
      · rcases List.mem_cons.mp hy with rfl | h
        · exact .inr List.mem_cons_self
        · rcases m y h with rfl | h
          · exact .inl rfl
          · exact .inr (List.mem_cons_of_mem _ h)
theorem sh_hr {C a b c : Addr} {H : Hp} {r p : List Nat} {ks : List Int} {t : Int} {κ : Nat → Int} {labs : List CV} (mo : ∀ i j, i < j → κ i < κ j) (s : Sh C H a b c r p ks t) (nbc : b ≠ c) (rv : RVs ⟨κ, fun _ => C, [a, b, c], t⟩ labs (ks.map V.int)) :
    HR (fun _ => C) ⟨κ, fun _ => C, [a, b, c], t⟩ (CH.of (shH r p labs)) H := by
  obtain ⟨dx, ha⟩ := s.o
  have nab : a ≠ b := fun z => by have := s.k; rw [← z, ha] at this; cases this
  have nac : a ≠ c := fun z => by have := s.p; rw [← z, ha] at this; cases this
  refine HR.of mo (by simp [nab, nac, nbc]) rfl fun n x o e1 e2 => ?_
  match n, e1, e2 with
  | 0, e1, e2 =>
    cases e1; cases e2
    exact ⟨_, ha, dx, _, rfl, rf_flds rfl rfl (by show V.int t = V.int (t + 0); rw [Int.add_zero])⟩
  | 1, e1, e2 => cases e1; cases e2; exact ⟨_, s.k, _, rfl, rv⟩
  | 2, e1, e2 => cases e1; cases e2; exact ⟨_, s.p, _, rfl, ints_rv _⟩
  | n + 3, e1, _ => simp at e1
theorem sh_of {C a b : Addr} {η : Em} {h : CH} {H : Hp} {r p : List Nat} {ks : List Int} {t : Int} {labs : List CV} {x : Nat} {tv : CV} (R : HR (fun _ => C) η h H) (e0 : h.get 0 = some (shO r p.length 1 x tv)) (e1 : h.get 1 = some (.lst labs)) (ex : h.get x = some (plO p))
    (ea : η.as[0]? = some a) (eb : η.as[1]? = some b) (rv : RVs η labs (ks.map V.int)) (rt : RV η tv (.int t)) : ∃ c, η.as[x]? = some c ∧ Sh C H a b c r p ks t := by
  obtain ⟨c, O, ec, hc, rc⟩ := R.at ex
  obtain ⟨ys, eO, ry⟩ := (show RO η (.lst ((pl p).map CV.int)) O from rc)
  obtain ⟨dx, zs, ha, rf⟩ := R.ins (show h.get 0 = some (.ins 0 _) from e0) ea
  obtain ⟨us, hb, ru⟩ := R.lst e1 eb
  refine ⟨c, ec, ⟨dx, ?_⟩, ?_, ?_⟩
  · rw [ha, RF.fn rf (rf_flds eb ec rt)]
  · rw [hb, RVs.fn ru rv]
  · rw [hc, eO, rv_ints ry]
theorem lab_rv {η : Em} {ks : List Int} (e : ks = (List.range ks.length).map η.k) : RVs η (lab ks.length) (ks.map V.int) := by
  have q := keys_rv (η := η) (List.range ks.length)
  rw [← e] at q
  exact q
theorem labX_rv {η : Em} {ks : List Int} (e : ks = (List.range ks.length).map η.k) (j : Nat) : RVs η ((lab ks.length).eraseIdx j) ((ks.eraseIdx j).map V.int) := by
  have q := keys_rv (η := η) ((List.range ks.length).eraseIdx j)
  have e2 : ks.eraseIdx j = ((List.range ks.length).eraseIdx j).map η.k := by rw [← map_er, ← e]
  unfold lab
  rw [map_er, e2]
  exact q
end CK

namespace CK
open PySem L2 PyProof.Rows
theorem bits_mem : ∀ {p : List Nat}, isBits p = true → p ∈ bits p.length
  | [], _ => List.mem_singleton.mpr rfl
  | 48 :: r, h => List.mem_append_left _ (List.mem_map.mpr ⟨r, bits_mem (p := r) h, rfl⟩)
  | 49 :: r, h => List.mem_append_right _ (List.mem_map.mpr ⟨r, bits_mem (p := r) h, rfl⟩)
theorem of_bits {n : Nat} {f : List Nat → Bool} (h : (bits n).all f = true) {p : List Nat} (hb : isBits p = true) (hl : p.length = n) : f p = true := List.all_eq_true.mp h p (by rw [← hl]; exact bits_mem hb)
theorem all4 {α : Type} {f : α → Bool} {l : List α} {k : Nat} (a : ((l.drop k).take 4).all f = true) (b : (l.drop (k + 4)).all f = true) : (l.drop k).all f = true := by
  have e : l.drop k = (l.drop k).take 4 ++ l.drop (k + 4) := by
    rw [← List.drop_drop]
    exact (List.take_append_drop 4 _).symm
  rw [e, List.all_append, a, b]
  rfl
theorem g3_4 : (bits 4).all goodP = true := all4 (k := 0) g4_0 (all4 (k := 4) g4_1 (all4 (k := 8) g4_2 (all4 (k := 12) g4_3 rfl)))
theorem g3_5 : (bits 5).all goodP = true := all4 (k := 0) g5_0 (all4 (k := 4) g5_1 (all4 (k := 8) g5_2 (all4 (k := 12) g5_3 (all4 (k := 16) g5_4 (all4 (k := 20) g5_5 (all4 (k := 24) g5_6 (all4 (k := 28) g5_7 rfl)))))))
theorem g3_6 : (bits 6).all goodP = true := all4 (k := 0) g6_0 (all4 (k := 4) g6_1 (all4 (k := 8) g6_2 (all4 (k := 12) g6_3 (all4 (k := 16) g6_4 (all4 (k := 20) g6_5 (all4 (k := 24) g6_6 (all4 (k := 28) g6_7 (all4 (k := 32) g6_8 (all4 (k := 36) g6_9 (all4 (k := 40) g6_10 (all4 (k := 44) g6_11 (all4 (k := 48) g6_12 (all4 (k := 52) g6_13 (all4 (k := 56) g6_14 (all4 (k := 60) g6_15 rfl)))))))))))))))
theorem goodP_all {p : List Nat} (hb : isBits p = true) (h1 : 1 ≤ p.length) (h6 : p.length ≤ 6) : goodP p = true := by
  have hl : p.length = 1 ∨ p.length = 2 ∨ p.length = 3 ∨ p.length = 4 ∨ p.length = 5 ∨ p.length = 6 := by omega
  have g := g3_small
  simp only [Bool.and_eq_true] at g
  rcases hl with hl | hl | hl | hl | hl | hl
  · exact of_bits g.1.1.1 hb hl
  · exact of_bits g.1.1.2 hb hl
  · exact of_bits g.1.2 hb hl
  · exact of_bits g3_4 hb hl
  · exact of_bits g3_5 hb hl
  · exact of_bits g3_6 hb hl
def step1 (w n : Nat) (d : Deed) : Option Nat := match d.1 with
  | true => if d.2 ≤ n ∧ n < w then some (n + 1) else none
  | false => if d.2 < n then some (n - 1) else none
def cnt (w : Nat) : Nat → List Deed → Option Nat
  | n, [] => some n
  | n, d :: ds => match step1 w n d with
    | some m => cnt w m ds
    | none => none
theorem cnt_snoc {w : Nat} {d : Deed} {m' : Nat} : ∀ {ds : List Deed} {n m : Nat}, cnt w n ds = some m → step1 w m d = some m' → cnt w n (ds ++ [d]) = some m'
  | [], n, m, h, s => by
    cases h
    show (match step1 w n d with | some m => cnt w m [] | none => none) = some m'
    rw [s]
    rfl
  | e :: ds, n, m, h, s => by
    show (match step1 w n e with | some m => cnt w m (ds ++ [d]) | none => none) = some m'
    have h : (match step1 w n e with | some m => cnt w m ds | none => none) = some m := h
    cases q : step1 w n e with
    | none => rw [q] at h; cases h
    | some k =>
      rw [q] at h
      exact cnt_snoc h s
theorem cnt_take {w : Nat} : ∀ {ds : List Deed} {n m i : Nat} {d : Deed}, cnt w n ds = some m → ds[i]? = some d → ∃ k k', cnt w n (ds.take i) = some k ∧ step1 w k d = some k'
  | e :: ds, n, m, i, d, h, g => by
    have h : (match step1 w n e with | some m => cnt w m ds | none => none) = some m := h
    cases q : step1 w n e with
    | none => rw [q] at h; cases h
    | some k =>
      rw [q] at h
      cases i with
      | zero => cases g; exact ⟨n, k, rfl, q⟩
      | succ i =>
        obtain ⟨a, b, h1, h2⟩ := cnt_take (i := i) h (by simpa using g)
        refine ⟨a, b, ?_, h2⟩
        show (match step1 w n e with | some m => cnt w m (ds.take i) | none => none) = some a
        rw [q]
        exact h1
structure Good (r p : List Nat) (d : Deed) (m : Int) (q : List Nat) : Prop where
  after : rdTL [plL p, dT d] (runAfter r p d) = some (m, pl q)
  can : isT [dT d] (runCan p d) = true
  len : q.length = p.length
  bits : isBits q = true
  cnt : step1 p.length (many p) d = some (many q)
  put : d.1 = true → isPut m r q (lab (many p + 1)) (runPut r p d.2) = true ∧ many q = many p + 1
  tk : d.1 = false → m = 0 ∧ isTook r q ((lab (many p)).eraseIdx d.2) (runTake r p d.2) = true ∧ many q + 1 = many p
theorem many_le : ∀ p : List Nat, many p ≤ p.length
  | [] => Nat.le_refl _
  | x :: r => by
    have := many_le r
    unfold many
    split
    · rename_i e; cases e
    · rename_i e; cases e; simp; omega
    · rename_i e; cases e; simp; omega
theorem deed_mem {p : List Nat} {d : Deed} {k : Nat} (h : step1 p.length (many p) d = some k) : d ∈ deeds p := by
  obtain ⟨b, r⟩ := d
  unfold deeds
  cases b with
  | true =>
    have h : (if r ≤ many p ∧ many p < p.length then some (many p + 1) else none) = some k := h
    split at h
    · rename_i hc
      have e : Nat.blt (many p) p.length = true := Nat.ble_eq_true_of_le (show many p + 1 ≤ p.length by omega)
      rw [e]
      exact List.mem_append_right _ (List.mem_map.mpr ⟨r, List.mem_range.mpr (by omega), rfl⟩)
    · cases h
  | false =>
    have h : (if r < many p then some (many p - 1) else none) = some k := h
    split at h
    · rename_i hc
      exact List.mem_append_left _ (List.mem_map.mpr ⟨r, List.mem_range.mpr hc, rfl⟩)
    · cases h
theorem good_of {r p : List Nat} {d : Deed} {k : Nat} (hr : r ∈ rules) (hb : isBits p = true) (h1 : 1 ≤ p.length) (h6 : p.length ≤ 6) (hd : step1 p.length (many p) d = some k) : ∃ m q, ansA r p d = some (m, q) ∧ Good r p d m q := by
  have g := goodP_all hb h1 h6
  unfold goodP at g
  rw [Bool.and_eq_true] at g
  have g1 := List.all_eq_true.mp g.1 r hr
  rw [Bool.and_eq_true] at g1
  have g1 := List.all_eq_true.mp g1.2 d (deed_mem hd)
  unfold goodD at g1
  rw [Bool.and_eq_true] at g1
  obtain ⟨gc, gs⟩ := g1
  cases es : ansA r p d with
  | none => rw [es] at gs; cases gs
  | some mq =>
    obtain ⟨m, q⟩ := mq
    rw [es] at gs
    simp only [Bool.and_eq_true] at gs
    obtain ⟨gl, gi, gm⟩ := gs
    have ga : rdTL [plL p, dT d] (runAfter r p d) = some (m, pl q) := by
      unfold ansA at es
      split at es
      · rename_i m' l e
        split at es
        · rename_i ei
          cases es
          rw [e]
          exact congrArg (fun u => some (m, u)) (ileq_eq ei)
        · cases es
      · cases es
    obtain ⟨b, n⟩ := d
    unfold goodS at gm
    refine ⟨m, q, rfl, ga, gc, Nat.eq_of_beq_eq_true gl, gi, ?_, ?_, ?_⟩
    · cases b with
      | true =>
        have gm : (Nat.beq (many q) (many p + 1) && isPut m r q (lab (many p + 1)) (runPut r p n)) = true := gm
        rw [Bool.and_eq_true] at gm
        have gm := Nat.eq_of_beq_eq_true gm.1
        have hd : (if n ≤ many p ∧ many p < p.length then some (many p + 1) else none) = some k := hd
        show (if n ≤ many p ∧ many p < p.length then some (many p + 1) else none) = some (many q)
        split at hd
        · rename_i hc; rw [if_pos hc, gm]
        · cases hd
      | false =>
        have gm : (Nat.beq (many q + 1) (many p) && (m == 0 && isTook r q ((lab (many p)).eraseIdx n) (runTake r p n))) = true := gm
        rw [Bool.and_eq_true] at gm
        have gm := Nat.eq_of_beq_eq_true gm.1
        have hd : (if n < many p then some (many p - 1) else none) = some k := hd
        show (if n < many p then some (many p - 1) else none) = some (many q)
        split at hd
        · rename_i hc; rw [if_pos hc]; congr 1; omega
        · cases hd
    · intro eb
      cases (show b = true from eb)
      have gm : (Nat.beq (many q) (many p + 1) && isPut m r q (lab (many p + 1)) (runPut r p n)) = true := gm
      rw [Bool.and_eq_true] at gm
      exact ⟨gm.2, Nat.eq_of_beq_eq_true gm.1⟩
    · intro eb
      cases (show b = false from eb)
      have gm : (Nat.beq (many q + 1) (many p) && (m == 0 && isTook r q ((lab (many p)).eraseIdx n) (runTake r p n))) = true := gm
      rw [Bool.and_eq_true, Bool.and_eq_true] at gm
      exact ⟨eq_of_beq gm.2.1, gm.2.2, Nat.eq_of_beq_eq_true gm.1⟩
/-- what a step tells -/
def stepM (r p : List Nat) (d : Deed) : Int × List Nat := (ansA r p d).getD (0, [])
theorem good_step {r p : List Nat} {d : Deed} {k : Nat} (hr : r ∈ rules) (hb : isBits p = true) (h1 : 1 ≤ p.length) (h6 : p.length ≤ 6) (hd : step1 p.length (many p) d = some k) : Good r p d (stepM r p d).1 (stepM r p d).2 := by
  obtain ⟨m, q, e1, g⟩ := good_of hr hb h1 h6 hd
  have e : stepM r p d = (m, q) := by unfold stepM; rw [e1]; rfl
  rw [e]
  exact g
/-- many steps -/
def runM (r : List Nat) : List Nat → List Deed → List Int × List Nat
  | p, [] => ([], p)
  | p, d :: ds => ((stepM r p d).1 :: (runM r (stepM r p d).2 ds).1, (runM r (stepM r p d).2 ds).2)
theorem runM_snoc (r : List Nat) (d : Deed) : ∀ (ds : List Deed) (p : List Nat), runM r p (ds ++ [d]) = ((runM r p ds).1 ++ [(stepM r (runM r p ds).2 d).1], (stepM r (runM r p ds).2 d).2)
  | [], p => rfl
  | e :: ds, p => by
    show ((stepM r p e).1 :: (runM r (stepM r p e).2 (ds ++ [d])).1, (runM r (stepM r p e).2 (ds ++ [d])).2) = _
    rw [runM_snoc r d ds]
    rfl
theorem runM_len (r : List Nat) : ∀ (ds : List Deed) (p : List Nat), (runM r p ds).1.length = ds.length
  | [], _ => rfl
  | d :: ds, p => by
    show (runM r (stepM r p d).2 ds).1.length + 1 = _
    rw [runM_len r ds]
    rfl
def zeros (w : Nat) : List Nat := List.replicate w 48
theorem zeros_ok : ∀ w : Nat, isBits (zeros w) = true ∧ many (zeros w) = 0 ∧ (zeros w).length = w
  | 0 => ⟨rfl, rfl, rfl⟩
  | w + 1 => by
    obtain ⟨a, b, c⟩ := zeros_ok w
    exact ⟨a, b, by unfold zeros; rw [List.length_replicate]⟩
theorem plFrom_zeros : ∀ (w i : Nat), plFrom i (zeros w) = []
  | 0, _ => rfl
  | w + 1, i => plFrom_zeros w (i + 1)
/-- the state behind some deeds that can be done -/
theorem run_state {r : List Nat} {w : Nat} (hr : r ∈ rules) (h1 : 1 ≤ w) (h6 : w ≤ 6) : ∀ (ds : List Deed) {p : List Nat} {k : Nat}, isBits p = true → p.length = w → cnt w (many p) ds = some k →
    isBits (runM r p ds).2 = true ∧ (runM r p ds).2.length = w ∧ many (runM r p ds).2 = k
  | [], p, k, hb, hl, hc => by cases hc; exact ⟨hb, hl, rfl⟩
  | d :: ds, p, k, hb, hl, hc => by
    have hc : (match step1 w (many p) d with | some m => cnt w m ds | none => none) = some k := hc
    cases q : step1 w (many p) d with
    | none => rw [q] at hc; cases hc
    | some m =>
      rw [q] at hc
      have g := good_step hr hb (by omega) (by omega) (by rw [hl]; exact q)
      have gc := g.cnt
      rw [hl, q] at gc
      cases gc
      exact run_state hr h1 h6 ds g.bits (g.len.trans hl) hc
section
variable {p : List Nat} (hb : isBits p = true) (h1 : 1 ≤ p.length) (h6 : p.length ≤ 6)
include hb h1 h6
theorem stand_of {r : List Nat} (hr : r ∈ rules) : isStand r p (lab (many p)) (runStand r p) = true := by
  have g := goodP_all hb h1 h6
  unfold goodP at g
  rw [Bool.and_eq_true] at g
  have g := List.all_eq_true.mp g.1 r hr
  rw [Bool.and_eq_true] at g
  exact g.1
theorem first_of : goodF p = true := by
  have g := goodP_all hb h1 h6
  unfold goodP at g
  simp only [Bool.and_eq_true] at g
  exact g.2.1
theorem pattern_good : ∃ h', c_pattern_of [.int p.length, .ref 0] (CH.of [plL p]) = some (.str p, h') ∧ kept h' 0 [plL p] = true := by
  have g := goodP_all hb h1 h6
  unfold goodP at g
  simp only [Bool.and_eq_true] at g
  exact isStr_some g.2.2
end
/-- all but some stay -/
def Frm (l : List Addr) (H H' : Hp) : Prop := ∀ y o, y ∉ l → H y = some o → H' y = some o
section
variable {C a b c : Addr} {r p : List Nat} {t : Int} {H : Hp} {Q : VK} {E : XK}
theorem kget {ks : List Int} {κ : Nat → Int} (e : ks = (List.range ks.length).map κ) {j : Nat} {x : Int} (h : ks[j]? = some x) : κ j = x := by
  have hj : j < ks.length := (List.getElem?_eq_some_iff.mp h).1
  rw [e, List.getElem?_map, List.getElem?_range hj] at h
  exact Option.some.inj h
theorem put_call {j : Nat} {m x : Int} {q : List Nat} {ks : List Int} (gpt : isPut m r q (lab (many p + 1)) (runPut r p j) = true) (gln : q.length = p.length) (so : ks.Pairwise (· < ·)) (kl : ks.length = many p + 1) (ej : ks[j]? = some x) (s : Sh C H a b c r p (ks.eraseIdx j) t) (nbc : b ≠ c)
    (k : ∀ H' c', Sh C H' a b c' r q ks (t + m) → b ≠ c' → (c' = c ∨ H c' = none) → Frm [a, b, c] H H' → Q (.int m) H') : spOf (fun _ => C) c_Shelf_put_in [.ref a, .int x] H Q E := by
  obtain ⟨κ, mo, ek⟩ := kap so
  have rvx := labX_rv (η := ⟨κ, fun _ => C, [a, b, c], t⟩) (ks := ks) ek j
  rw [kl] at rvx
  have hr := sh_hr mo s nbc rvx
  obtain ⟨h', x', e, e0, e1, ex, hx⟩ := isPut_some gpt
  have e : c_Shelf_put_in [.ref 0, .key j] (CH.of (shH r p ((lab (many p + 1)).eraseIdx j))) = some (.int m, h') := e
  have rk : RV ⟨κ, fun _ => C, [a, b, c], t⟩ (.key j) (.int x) := by show V.int x = V.int (κ j); rw [kget ek ej]
  refine ⟨_, _, _, .cons (rvR (n := 0) rfl) (.cons rk .nil), hr, _, _, e, fun η' H' v' S R rv => ?_⟩
  cases (show v' = .int m from rv)
  have ek' : ks = (List.range ks.length).map η'.k := by rw [S.le.k]; exact ek
  have rl := lab_rv (η := η') ek'
  rw [kl] at rl
  have eb : η'.as[1]? = some b := S.le.get rfl
  obtain ⟨c', ec, s'⟩ := sh_of (a := a) (b := b) (t := t + m) R (by rw [gln] at *; exact e0) e1 ex (S.le.get rfl) eb rl (by show V.int (t + m) = V.int (η'.t + m); rw [S.le.t])
  refine k H' c' s' (fun z => hx ?_) ?_ (fun y o ny hy => S.fr y o ny hy)
  · exact nd_ix R.nd ec (by rw [← z]; exact eb)
  · by_cases m1 : c' ∈ [a, b, c]
    · have nb : c' ≠ b := fun z => hx (nd_ix R.nd ec (by rw [z]; exact eb))
      obtain ⟨dx, ho⟩ := s'.o
      have na : c' ≠ a := fun z => by have := s'.p; rw [z, ho] at this; cases this
      rcases List.mem_cons.mp m1 with z | m1
      · exact absurd z na
      · rcases List.mem_cons.mp m1 with z | m1
        · exact absurd z nb
        · exact .inl (by simpa using m1)
    · exact .inr (S.nw c' (List.mem_of_getElem? ec) m1)
theorem take_call {i : Nat} {x : Int} {q : List Nat} {ks : List Int} (gtk : isTook r q ((lab (many p)).eraseIdx i) (runTake r p i) = true) (gln : q.length = p.length) (so : ks.Pairwise (· < ·)) (kl : ks.length = many p) (ei : ks[i]? = some x) (s : Sh C H a b c r p ks t) (nbc : b ≠ c)
    (k : ∀ H', Sh C H' a b c r q (ks.eraseIdx i) t → Frm [a, b, c] H H' → Q .non H') : spOf (fun _ => C) c_Shelf_take_out [.ref a, .int x] H Q E := by
  obtain ⟨κ, mo, ek⟩ := kap so
  have rvl := lab_rv (η := ⟨κ, fun _ => C, [a, b, c], t⟩) (ks := ks) ek
  rw [kl] at rvl
  have hr := sh_hr mo s nbc rvl
  obtain ⟨h', e, e0, e1, ex⟩ := isTook_some gtk
  have e : c_Shelf_take_out [.ref 0, .key i] (CH.of (shH r p (lab (many p)))) = some (.non, h') := e
  have rk : RV ⟨κ, fun _ => C, [a, b, c], t⟩ (.key i) (.int x) := by show V.int x = V.int (κ i); rw [kget ek ei]
  refine ⟨_, _, _, .cons (rvR (n := 0) rfl) (.cons rk .nil), hr, _, _, e, fun η' H' v' S R rv => ?_⟩
  cases (show v' = .non from rv)
  have ek' : ks = (List.range ks.length).map η'.k := by rw [S.le.k]; exact ek
  have rl := labX_rv (η := η') ek' i
  rw [kl] at rl
  obtain ⟨c', ec, s'⟩ := sh_of (a := a) (b := b) (t := t) R (by rw [gln] at *; exact e0) e1 ex (S.le.get rfl) (S.le.get rfl) rl (by show V.int t = V.int (η'.t + 0); rw [S.le.t, Int.add_zero])
  have e2 : η'.as[2]? = some c := S.le.get rfl
  rw [e2] at ec
  cases ec
  exact k H' s' fun y o ny hy => S.fr y o ny hy
def rowV (p : List Nat) (ks : List Int) : List V := fill .non p (ks.map V.int)
theorem stand_call {ks : List Int} (hr0 : r ∈ rules) (hb : isBits p = true) (h1 : 1 ≤ p.length) (h6 : p.length ≤ 6) (so : ks.Pairwise (· < ·)) (kl : ks.length = many p) (s : Sh C H a b c r p ks t) (nbc : b ≠ c)
    (k : ∀ H' D, Sh C H' a b c r p ks t → H' D = some (.lst (rowV p ks)) → H D = none → Frm [a, b, c] H H' → Q (.ref D) H') : spOf (fun _ => C) c_Shelf_standing [.ref a] H Q E := by
  obtain ⟨κ, mo, ek⟩ := kap so
  have rvl := lab_rv (η := ⟨κ, fun _ => C, [a, b, c], t⟩) (ks := ks) ek
  rw [kl] at rvl
  have hr := sh_hr mo s nbc rvl
  obtain ⟨n, h', e, hn, en, e0, e1, ex⟩ := isStand_some (stand_of hb h1 h6 hr0)
  refine ⟨_, _, _, .cons (rvR (n := 0) rfl) .nil, hr, _, _, e, fun η' H' v' S R rv => ?_⟩
  obtain ⟨D, eD, rfl⟩ := rv
  have ek' : ks = (List.range ks.length).map η'.k := by rw [S.le.k]; exact ek
  have rl := lab_rv (η := η') ek'
  rw [kl] at rl
  obtain ⟨c', ec, s'⟩ := sh_of (a := a) (b := b) (t := t) R e0 e1 ex (S.le.get rfl) (S.le.get rfl) rl (by show V.int t = V.int (η'.t + 0); rw [S.le.t, Int.add_zero])
  have e2 : η'.as[2]? = some c := S.le.get rfl
  have e2' := e2
  rw [ec] at e2
  cases e2
  obtain ⟨ys, hD, ry⟩ := R.lst en eD
  refine k H' D s' (by rw [hD, RVs.fn ry (fill_rv rl)]; rfl) (S.nw D (List.mem_of_getElem? eD) fun z => ?_) fun y o ny hy => S.fr y o ny hy
  obtain ⟨i, hi⟩ := List.getElem?_of_mem z
  have hi3 : i < 3 := (List.getElem?_eq_some_iff.mp hi).1
  have := nd_ix R.nd eD (S.le.get hi)
  omega
theorem moved_call {ks : List Int} {labs : List CV} {κ : Nat → Int} (mo : ∀ i j, i < j → κ i < κ j) (rv : RVs ⟨κ, fun _ => C, [a, b, c], t⟩ labs (ks.map V.int)) (s : Sh C H a b c r p ks t) (nbc : b ≠ c)
    (k : ∀ H', Sh C H' a b c r p ks t → Frm [a, b, c] H H' → Q (.int t) H') : spOf (fun _ => C) c_Shelf_moved [.ref a] H Q E := by
  have hr := sh_hr mo s nbc rv
  refine ⟨_, _, _, .cons (rvR (n := 0) rfl) .nil, hr, .off 0, CH.of (shH r p labs), by rfl, fun η' H' v' S R rv' => ?_⟩
  have rv' : v' = .int (η'.t + 0) := rv'
  rw [S.le.t, Int.add_zero] at rv'
  subst rv'
  obtain ⟨c', ec, s'⟩ := sh_of (a := a) (b := b) (t := t) (labs := labs) (x := 2) (tv := .off 0) R (by rw [CH.of_get]; rfl) (by rw [CH.of_get]; rfl) (by rw [CH.of_get]; rfl) (S.le.get rfl) (S.le.get rfl) (RVs.mono S.le rv) (by show V.int t = V.int (η'.t + 0); rw [S.le.t, Int.add_zero])
  have e2 : η'.as[2]? = some c := S.le.get rfl
  rw [e2] at ec
  cases ec
  exact k H' s' fun y o ny hy => S.fr y o ny hy
end
end CK

namespace CK
open PySem L2 PyProof.Rows
section
variable {P : Program} {w : World} {K : PySem.W.Frag} {mg : Str → Option Value} {base : Heap} {cc : Nat → Addr}
/-- the draws' list: two numbers, then more -/
def Dice (ns : List Int) : Prop := 2 ≤ ns.length ∧ ns.length ≤ 1000
def DiceAt (H : Hp) (a : Addr) : Prop := ∃ ns, Dice ns ∧ H a = some (.lst (ns.map V.int))
abbrev s__law_off : Stmt := top 31
theorem sc__law_off : FnScope ["_law_d", "_law_most", "_law_found"] ["_law_d", "_law_most"] (defScope s__law_off) := ⟨rfl, rfl, rfl, by decide +kernel, rfl, by decide +kernel, by decide +kernel⟩
def spOff : Sp := fun vs H Q _ => ∃ a m ns, vs = [.ref a, .int m] ∧ 0 < m ∧ m < 1073741824 ∧ Dice ns ∧ H a = some (.lst (ns.map V.int)) ∧ ∀ r ns', 0 ≤ r → r < m → Dice ns' → Q (.int r) (upd H a (.lst (ns'.map V.int)))
theorem ix_rd {H : Hp} {Q : VK} {a : Addr} {xs : List V} {i : Int} {j : Nat} {v : V} (h : H a = some (.lst xs)) (e : i = (j : Int)) (g : xs[j]? = some v) (q : Q v H) : rIxL K (.ref a) (.int i) H Q := ⟨a, xs, i, v, rfl, rfl, SqL.of h, at_of e g, q⟩
theorem upd_id {H : Hp} {a : Addr} {o : HO} (h : H a = some o) : upd H a o = H := by
  funext b
  unfold upd
  split
  · rename_i e; rw [e, h]
  · rfl
theorem mod_lt' {r m : Int} (h : 0 < m) : 0 ≤ r % m ∧ r % m < m := ⟨Int.emod_nonneg _ (by omega), Int.emod_lt_of_pos _ h⟩
theorem ok_off {f : Addr} {fd : FuncData} (F : Fun K "_law_off" "_law_off" s__law_off f fd) (T : Txt K mg cc) : FnOk P w K mg base CX0 1 f fd ["_law_d", "_law_most"] spOff := by
  refine F.ok sc__law_off (fun vs H Q E h => ?_) (fun cdv A outer s H vs Q E hr h => ?_)
  · obtain ⟨a, m, ns, rfl, _⟩ := h
    rfl
  · obtain ⟨a, m, ns, rfl, hm, hm2, hd, ha, kq⟩ := h
    have nd := sc__law_off.nd
    refine ⟨_, pss_cons (ps_if (PW.pt (pw_and (pt_cmpR op_eq (pe_ix (r := rIxL K) ix_list (pv 0) pe_int (fun _ _ => rfl)) pe_int (nomark _)) (pw_and1 (pt_cmpR op_gt (pe_callB call_len_seq (by rfl) T.n_len boot_len (pa_cons (pv 0) pa_nil)) pe_int (nomark _)))))
        (pss_one (ps_asg (pe_bm PySem.F.plainAttrs_list PySem.F.slot_list_pop PySem.F.type_list_pop mt_popAt (pv 0) (pa_cons pe_int pa_nil)) (pg_sub (pv 0) pe_int set_list))) pss_nil)
      (pss_cons (ps_if (pt_cmpR op_gt (pe_ix (r := rIxL K) ix_list (pv 0) pe_int (fun _ _ => rfl)) pe_int (nomark _))
        (pss_cons (ps_set (i := 2) nd rfl (Or.inl rfl) (pe_op op_mod (pe_ix (r := rIxL K) ix_list (pv 0) pe_int (fun _ _ => rfl)) (pv 1)))
        (pss_cons (ps_asg (pe_op op_fdiv (pe_ix (r := rIxL K) ix_list (pv 0) pe_int (fun _ _ => rfl)) (pv 1)) (pg_sub (pv 0) pe_int set_list))
        (pss_one (ps_ret (pv 2))))) pss_nil)
      (pss_cons (ps_asg (pe_op op_mod (pe_op op_add (pe_op op_mul (pe_ix (r := rIxL K) ix_list (pv 0) pe_int (fun _ _ => rfl)) pe_int) pe_int) pe_int) (pg_sub (pv 0) pe_int set_list))
      (pss_one (ps_ret (pe_op op_mod (pe_op op_fdiv (pe_ix (r := rIxL K) ix_list (pv 0) pe_int (fun _ _ => rfl)) pe_int) (pv 1)))))), ?_⟩
    -- the part behind the first if, at any list
    have part : ∀ (ns1 : List Int) (H1 : Hp), Dice ns1 → H1 a = some (.lst (ns1.map V.int)) → (∀ r ns', 0 ≤ r → r < m → Dice ns' → Q (.int r) (upd H1 a (.lst (ns'.map V.int)))) →
        tSeq (tIfS (tTest (tOp (rI0 fun i j => V.bl (decide (j < i))) (tOp (rIxL K) (tVar 0) (tC (.int 1))) (tC (.int 0))))
          (tSeq (tAsg (tOp (rI (fun _ j => 0 < j) fun i j => V.int (i % j)) (tOp (rIxL K) (tVar 0) (tC (.int 1))) (tVar 1)) (gName 2))
          (tSeq (tAsg (tOp (rI CDiv fun i j => V.int (i / j)) (tOp (rIxL K) (tVar 0) (tC (.int 1))) (tVar 1)) (gSub (tVar 0) (tC (.int 1)) rSetL)) (tRet (tVar 2)))) tNext)
        (tSeq (tAsg (tOp (rI (fun _ j => 0 < j) fun i j => V.int (i % j)) (tOp (rI0 fun i j => V.int (i + j)) (tOp (rI CMul fun i j => V.int (i * j)) (tOp (rIxL K) (tVar 0) (tC (.int 0))) (tC (.int 48271))) (tC (.int 11))) (tC (.int 2147483647))) (gSub (tVar 0) (tC (.int 0)) rSetL))
          (tRet (tOp (rI (fun _ j => 0 < j) fun i j => V.int (i % j)) (tOp (rI CDiv fun i j => V.int (i / j)) (tOp (rIxL K) (tVar 0) (tC (.int 0))) (tC (.int 64))) (tVar 1)))) { nx := fun _ H' => Q .non H', rt := Q } [some (.ref a), some (.int m), none] H1 := by
      intro ns1 H1 hd1 h1 k1
      obtain ⟨x, y, zs, rfl⟩ : ∃ x y zs, ns1 = x :: y :: zs := by
        match ns1, hd1 with
        | x :: y :: zs, _ => exact ⟨x, y, zs, rfl⟩
        | [_], h => exact absurd h.1 (by simp)
        | [], h => exact absurd h.1 (by simp)
      refine ⟨_, rfl, a, _, _, _, rfl, rfl, SqL.of h1, at_of (j := 1) rfl rfl, _, _, rfl, rfl, _, rfl, ?_⟩
      refine ite2 (fun hy => ?_) (fun hy => ?_)
      · refine ⟨_, rfl, a, _, _, _, rfl, rfl, SqL.of h1, at_of (j := 1) rfl rfl, _, rfl, _, _, rfl, rfl, hm, ?_⟩
        refine ⟨_, rfl, a, _, _, _, rfl, rfl, SqL.of h1, at_of (j := 1) rfl rfl, _, rfl, _, _, rfl, rfl, ⟨hm, hm2⟩, ?_⟩
        refine ⟨_, rfl, a, _, 1, 1, rfl, rfl, h1, ?_, ?_⟩
        · unfold ixN
          rw [if_pos (by decide), if_pos (by rw [List.length_map, List.length_cons, List.length_cons]; omega)]
          rfl
        · exact ⟨_, rfl, k1 _ (x :: (y / m) :: zs) (mod_lt' hm).1 (mod_lt' hm).2 ⟨by simp, by have := hd1.2; simpa using this⟩⟩
      · refine ⟨_, rfl, a, _, _, _, rfl, rfl, SqL.of h1, at_of (j := 0) rfl rfl, _, _, rfl, rfl, .inr ⟨by decide, by decide⟩, _, _, rfl, rfl, _, _, rfl, rfl, (show (0 : Int) < 2147483647 by decide), ?_⟩
        refine ⟨_, rfl, a, _, 0, 0, rfl, rfl, h1, ?_, ?_⟩
        · unfold ixN
          rw [if_pos (by decide), if_pos (by rw [List.length_map, List.length_cons, List.length_cons]; omega)]
          rfl
        · refine ⟨_, rfl, a, _, _, _, rfl, rfl, SqL.of upd_same, at_of (j := 0) rfl rfl, _, _, rfl, rfl, ⟨by decide, by decide⟩, _, rfl, _, _, rfl, rfl, hm, ?_⟩
          exact k1 _ (((x * 48271 + 11) % 2147483647) :: y :: zs) (mod_lt' hm).1 (mod_lt' hm).2 ⟨by simp, by have := hd1.2; simpa using this⟩
    obtain ⟨x, y, zs, rfl⟩ : ∃ x y zs, ns = x :: y :: zs := by
      match ns, hd with
      | x :: y :: zs, _ => exact ⟨x, y, zs, rfl⟩
      | [_], h => exact absurd h.1 (by simp)
      | [], h => exact absurd h.1 (by simp)
    refine ⟨_, rfl, a, _, _, _, rfl, rfl, SqL.of ha, at_of (j := 1) rfl rfl, rfl, _, rfl, ?_⟩
    refine ite2 (fun hy => ?_) (fun hy => iteF ?_)
    · refine ⟨_, rfl, a, _, rfl, .inl (SqL.of ha), _, _, rfl, rfl, _, rfl, ?_⟩
      refine ite2 (fun hl => ?_) (fun hl => part _ H hd ha kq)
      cases zs with
      | nil => exact absurd (show (2 : Int) < ((2 : Nat) : Int) from of_decide_eq_true hl) (by decide)
      | cons z zs =>
        refine ⟨_, rfl, .inl ⟨rfl, _, SqL.of ha⟩, a, _, 2, 2, .int z, rfl, rfl, ha, by decide, by decide, ?_, rfl, ?_⟩
        · rw [seqIndex_of (by decide) (by rw [List.length_map, List.length_cons, List.length_cons, List.length_cons]; omega)]
          rfl
        · refine ⟨_, rfl, a, _, 1, 1, rfl, rfl, upd_same, ?_, ?_⟩
          · unfold ixN
            rw [if_pos (by decide), if_pos (by show (1 : Int) < ((((x :: y :: z :: zs).map V.int).eraseIdx 2).length : Nat); show (1 : Int) < ((zs.map V.int).length + 1 + 1 : Nat); omega)]
            rfl
          · rw [upd_upd]
            have hd1 : Dice (x :: z :: zs) := ⟨by simp, by have := hd.2; simp at this ⊢; omega⟩
            refine part (x :: z :: zs) _ hd1 upd_same fun r ns' h1 h2 h3 => ?_
            rw [upd_upd]
            exact kq r ns' h1 h2 h3
    · exact part _ H hd ha kq
end
end CK

namespace CK
open PySem L2 PyProof.Rows
section
variable {P : Program} {w : World} {K : PySem.W.Frag} {mg : Str → Option Value} {base : Heap} {cc : Nat → Addr}
/-- all but a stays -/
def But (a : Addr) (H H' : Hp) : Prop := ∀ b o, b ≠ a → H b = some o → H' b = some o
theorem But.trans {a : Addr} {H H1 H2 : Hp} (x : But a H H1) (y : But a H1 H2) : But a H H2 := fun b o n e => y b o n (x b o n e)
theorem But.refl (a : Addr) (H : Hp) : But a H H := fun _ _ _ e => e
theorem But.upd {a : Addr} {H : Hp} {o : HO} : But a H (L2.upd H a o) := fun b u n e => by rw [upd_ne n]; exact e
theorem But.same {a : Addr} {H H' : Hp} (s : Same H H') : But a H H' := fun b o _ e => s b o e
theorem But.new {a p : Addr} {H H' : Hp} {o : HO} (x : But a H H') (hp : H' p = none) : But a H (L2.upd H' p o) := fun b u n e => by
  have q := x b u n e
  rw [upd_ne (ne_of_none q hp)]
  exact q
theorem Same.new' {H H' : Hp} {p : Addr} {o : HO} (s : Same H H') (hp : H' p = none) : Same H (L2.upd H' p o) := fun b u e => by
  have q := s b u e
  rw [upd_ne (ne_of_none q hp)]
  exact q
def spDraw : Sp := fun vs H Q _ => ∃ a m, vs = [.ref a, .int m] ∧ 0 < m ∧ m < 1073741824 ∧ DiceAt H a ∧ ∀ r H', 0 ≤ r → r < m → DiceAt H' a → But a H H' → Q (.int r) H'
theorem draw_of {k : Nat} (O : OwnS P w K mg base k "_law_off" ["_law_d", "_law_most"] spOff) : OwnS P w K mg base k "_law_off" ["_law_d", "_law_most"] spDraw := by
  obtain ⟨f, fd, F, hm, hk, hb⟩ := O.ex
  refine ⟨f, fd, F.imp fun vs H Q E h => ?_, hm, hk, hb⟩
  obtain ⟨a, m, ev, h1, h2, ⟨ns, hd, ha⟩, k⟩ := h
  exact ⟨a, m, ns, ev, h1, h2, hd, ha, fun r ns' r0 rm hd' => k r _ r0 rm ⟨ns', hd', upd_same⟩ But.upd⟩
/-! ### the draws' list -/
abbrev s__law_dice : Stmt := top 30
theorem sc__law_dice : FnScope ["_law_script", "_law_k", "_law_found", "_law_cell"] ["_law_script", "_law_k"] (defScope s__law_dice) := ⟨rfl, rfl, rfl, by decide +kernel, rfl, by decide +kernel, by decide +kernel⟩
def spDice (K : PySem.W.Frag) : Sp := fun vs H Q _ => ∃ (a : Addr) (ns : List Int) (k : Int), vs = [.ref a, .int k] ∧ SqL K H a (ns.map V.int) ∧ ns.length ≤ 63 ∧ ∀ H' p, Same H H' → H p = none → DiceAt H' p → Q (.ref p) H'
theorem boot_abs' : bootBuiltins "abs" = some (.builtin "abs") := by decide +kernel
theorem ints_get {ns : List Int} {i : Nat} {x : V} (h : (ns.map V.int)[i]? = some x) : ∃ z, ns[i]? = some z ∧ x = .int z := by
  rw [List.getElem?_map] at h
  cases e : ns[i]? with
  | none => rw [e] at h; cases h
  | some z => rw [e] at h; exact ⟨z, rfl, (Option.some.inj h).symm⟩
theorem ok_dice {f : Addr} {fd : FuncData} (F : Fun K "_law_dice" "_law_dice" s__law_dice f fd) (T : Txt K mg cc) : FnOk P w K mg base CX0 1 f fd ["_law_script", "_law_k"] (spDice K) := by
  refine F.ok sc__law_dice (fun vs H Q E h => ?_) (fun cdv A outer s H vs Q E hr h => ?_)
  · obtain ⟨a, ns, k, rfl, _⟩ := h
    rfl
  · obtain ⟨a, ns, k, rfl, hS, hlen, kq⟩ := h
    have nd := sc__law_dice.nd
    refine ⟨_, pss_cons (ps_set (i := 2) nd rfl (Or.inl rfl) (pv 1))
      (pss_cons (ps_for PassesOwn.never rfl (pi_list (pv 0)) (pg_name (i := 3) nd rfl (Or.inl rfl))
        (pss_one (ps_set (i := 2) nd rfl (Or.inl rfl) (pe_op op_mod (pe_op op_add (pe_op op_mul (pv 2) pe_int) (pe_callB call_abs (by rfl) T.n_abs boot_abs' (pa_cons (pv 3) pa_nil))) pe_int))))
      (pss_one (ps_ret (pe_op op_cat (pe_lst (pa_cons (pv 2) (pa_cons pe_int pa_nil))) (pe_lc (own := [("_law_cell", 3)]) (g := gName 3) rfl nd (pi_list (pv 0)) (blkOk_by (N := ["_law_script", "_law_k", "_law_found", "_law_cell"]) (sc := defScope s__law_dice) (by decide +kernel))
        (fun _ _ _ _ _ => pg_name (i := 3) nd rfl (Or.inl rfl)) (fun _ _ _ _ _ => pts_one (pt_cmpR op_ge (pv 3) (pe_op op_pow pe_int pe_int) (nomark _))) (fun _ _ _ _ _ => pv 3)))))), ?_⟩
    refine ⟨_, rfl, ?_⟩
    refine ⟨_, rfl, a, rfl, ⟨_, hS⟩, for_list (K := K) (a := a) (xs := ns.map V.int) (fun i σ H' => ∃ (z : Int) (c : Option V), σ = [some (.ref a), some (.int k), some (.int z), c] ∧ H' = H) ⟨k, none, rfl, rfl⟩ (fun i σ H' _ ⟨_, _, _, e⟩ => by rw [e]; exact hS) ?_ ?_⟩
    · rintro i x σ H' hi ⟨z, c, rfl, rfl⟩
      obtain ⟨u, hu, rfl⟩ := ints_get hi
      refine ⟨_, rfl, _, _, rfl, rfl, .inr ⟨by decide, by decide⟩, _, rfl, u, rfl, _, _, rfl, rfl, _, _, rfl, rfl, (show (0 : Int) < 2147483647 by decide), ?_⟩
      exact ⟨_, _, rfl, rfl⟩
    · rintro σ H' ⟨z, c, rfl, rfl⟩
      refine ⟨_, rfl, (show 2 ≤ sizeLine by decide), fun p hp => ?_⟩
      have s1 : Same H' (upd H' p (.lst [.int z, .int 0])) := Same.new' (Same.refl H') hp
      refine ⟨_, rfl, a, rfl, ⟨_, s1.seq hS⟩, fun D hD => lc_list (K := K) (a := a) (xs := ns.map V.int) (g := gName 3) (fun i H1 => Same (upd H' p (.lst [.int z, .int 0])) H1 ∧ ∃ ms : List Int, ms.length ≤ i ∧ H1 D = some (.lst (ms.map V.int)))
        ⟨Same.new' (Same.refl _) hD, [], Nat.le_refl _, upd_same⟩ (fun i H1 _ ⟨s2, _⟩ => (s1.trans s2).seq hS) ?_ ?_⟩
      · rintro i x H1 hi ⟨s2, ms, hl, hD1⟩
        obtain ⟨u, hu, rfl⟩ := ints_get hi
        have hi' : i < ns.length := (List.getElem?_eq_some_iff.mp hu).1
        refine ⟨rfl, _, rfl, _, _, rfl, rfl, ⟨by decide, by decide, by decide⟩, _, _, rfl, rfl, _, rfl, ?_⟩
        refine ite2 (fun hc => ?_) (fun hc => ?_)
        · refine ⟨_, rfl, _, hD1, by rw [List.length_map, sizeLine_eq]; omega, fun b o e => ?_, ms ++ [u], by rw [List.length_append, List.length_singleton]; omega, by rw [upd_same, List.map_append]; rfl⟩
          rw [upd_ne (ne_of_none e hD)]
          exact s2 b o e
        · exact ⟨s2, ms, by omega, hD1⟩
      · rintro H1 ⟨s2, ms, hl, hD1⟩
        rw [List.length_map] at hl
        have hp1 : H1 p = some (.lst [.int z, .int 0]) := s2 _ _ upd_same
        refine ⟨p, D, _, _, rfl, rfl, hp1, hD1, ?_, fun q hq => ?_⟩
        · rw [List.length_map, sizeLine_eq]
          show 2 + ms.length ≤ 16777216
          omega
        · have sq := s1.trans s2
          refine kq _ q (Same.new' sq hq) (sq.free hq) ⟨z :: 0 :: ms, ⟨by simp, by simp; omega⟩, by rw [upd_same]; rfl⟩
/-! ### a rule -/
abbrev s__law_rule : Stmt := top 32
theorem sc__law_rule : FnScope ["_law_d"] ["_law_d"] (defScope s__law_rule) := ⟨rfl, rfl, rfl, by decide +kernel, rfl, by decide +kernel, by decide +kernel⟩
def ruleS : Nat → Str
  | 0 => "near" | 1 => "left" | _ => "even"
def spRule : Sp := fun vs H Q _ => ∃ a, vs = [.ref a] ∧ DiceAt H a ∧ ∀ (r : Nat) H', r < 3 → DiceAt H' a → But a H H' → Q (.str (ruleS r)) H'
theorem ok_rule {f : Addr} {fd : FuncData} (F : Fun K "_law_rule" "_law_rule" s__law_rule f fd) (T : Txt K mg cc) (O : OwnS P w K mg base 1 "_law_off" ["_law_d", "_law_most"] spDraw) : FnOk P w K mg base CX0 2 f fd ["_law_d"] spRule := by
  refine F.ok sc__law_rule (fun vs H Q E h => ?_) (fun cdv A outer s H vs Q E hr h => ?_)
  · obtain ⟨a, rfl, _⟩ := h
    rfl
  · obtain ⟨a, rfl, hd, kq⟩ := h
    refine ⟨_, pss_one (ps_ret (pe_ix (r := rIxL K) ix_list (pe_lst (pa_cons pe_str (pa_cons pe_str (pa_cons pe_str pa_nil)))) (pe_own O hr (pa_cons (pv 0) (pa_cons pe_int pa_nil))) (fun _ _ => rfl))), ?_⟩
    refine ⟨(show 3 ≤ sizeLine by decide), fun p hp => ?_⟩
    obtain ⟨ns, hn, ha⟩ := hd
    have nap : a ≠ p := ne_of_none ha hp
    refine ⟨_, rfl, a, 3, rfl, by decide, by decide, ⟨ns, hn, by rw [upd_ne nap]; exact ha⟩, fun r H' r0 r3 hd' hb => ?_⟩
    obtain ⟨j, rfl⟩ : ∃ j : Nat, r = (j : Int) := ⟨r.toNat, by omega⟩
    have hp' : H' p = some (.lst [.str "near", .str "left", .str "even"]) := hb p _ (Ne.symm nap) upd_same
    have hb' : But a H H' := (But.new (But.refl a H) hp).trans hb
    have hj : j < 3 := by omega
    refine ⟨p, _, _, .str (ruleS j), rfl, rfl, SqL.of hp', at_of (j := j) rfl ?_, kq j H' hj hd' hb'⟩
    match j, hj with
    | 0, _ => rfl
    | 1, _ => rfl
    | 2, _ => rfl
end
end CK

namespace CK
open PySem L2 PyProof.Rows
theorem zeros_len (n : Nat) : (zeros n).length = n := List.length_replicate
theorem zeros_plF : ∀ n i, plFrom i (zeros n) = [] := plFrom_zeros
theorem zeros_fill {α : Type} {z : α} : ∀ n, fill z (zeros n) [] = List.replicate n z
  | 0 => rfl
  | n + 1 => by
    show fill z (48 :: zeros n) [] = z :: List.replicate n z
    rw [fill_no (by decide), zeros_fill n]
theorem make_call {C x dx : Addr} {r : List Nat} {n : Nat} {i : Int} {H : Hp} {Q : VK} {E : XK} (hi : i = (n : Nat)) (hr0 : r ∈ rules) (h1 : 1 ≤ n) (h6 : n ≤ 6) (hx : H x = some (.ins C dx []))
    (k : ∀ H' b c, Sh C H' x b c r (zeros n) [] 0 → H b = none → H c = none → b ≠ c → Frm [x] H H' → Q .non H') : spOf (fun _ => C) c_Shelf___init__ [.ref x, .str (Tx r), .int i] H Q E := by
  subst hi
  have hr : HR (fun _ => C) ⟨k0, fun _ => C, [x], 0⟩ (CH.of [.ins 0 []]) H := HR.one hx ⟨dx, [], rfl, .nil⟩
  have g := g3_small
  simp only [Bool.and_eq_true] at g
  have gm : goodM n = true := List.all_eq_true.mp g.2 n (by
    have : n = 1 ∨ n = 2 ∨ n = 3 ∨ n = 4 ∨ n = 5 ∨ n = 6 := by omega
    rcases this with rfl | rfl | rfl | rfl | rfl | rfl <;> simp)
  obtain ⟨h', e, e0, e1, e2⟩ := isMade_some (List.all_eq_true.mp gm r hr0)
  have e : c_Shelf___init__ [.ref 0, .str r, .int n] (CH.of [.ins 0 []]) = some (.non, h') := e
  refine ⟨_, _, _, .cons (rvR (n := 0) rfl) (.cons (rvS r) (.cons (rvI _) .nil)), hr, _, _, e, fun η' H' v' S R rv => ?_⟩
  cases (show v' = .non from rv)
  have ea : η'.as[0]? = some x := S.le.get rfl
  obtain ⟨b, O, eb, hb, rb⟩ := R.at e1
  obtain ⟨c, O', ec, hc, rc⟩ := R.at e2
  obtain ⟨ys, eO, ry⟩ := (show RO η' (.lst []) O from rb)
  obtain ⟨zs, eO', rz⟩ := (show RO η' (.lst []) O' from rc)
  cases ry
  cases rz
  obtain ⟨dx', us, ha, rf⟩ := R.ins (show h'.get 0 = some (.ins 0 _) from e0) ea
  have nw : ∀ {i : Nat} {y : Addr}, 0 < i → η'.as[i]? = some y → H y = none := fun {i y} hi ey => S.nw y (List.mem_of_getElem? ey) fun m => by
    have hm : y = x := by simpa using m
    subst hm
    have := nd_ix R.nd ey ea
    omega
  refine k H' b c ⟨⟨dx', ?_⟩, by rw [hb, eO]; rfl, by rw [hc, eO']; show _ = some (HO.lst ((plFrom 0 (zeros n)).map V.int)); rw [zeros_plF]; rfl⟩ (nw (by decide) eb) (nw (by decide) ec) (fun z => ?_) (fun y o ny hy => S.fr y o ny hy)
  · rw [ha, RF.fn rf (rf_flds (t := 0) eb ec rfl), zeros_len]
  · have := nd_ix R.nd eb (by rw [z]; exact ec)
    omega
theorem ruleS_in (i : Nat) (h : i < 3) : ∃ r, r ∈ rules ∧ ruleS i = Tx r := by
  match i, h with
  | 0, _ => exact ⟨[110, 101, 97, 114], by decide, by decide +kernel⟩
  | 1, _ => exact ⟨[108, 101, 102, 116], by decide, by decide +kernel⟩
  | 2, _ => exact ⟨[101, 118, 101, 110], by decide, by decide +kernel⟩
def spRuleT : Sp := fun vs H Q _ => ∃ a, vs = [.ref a] ∧ DiceAt H a ∧ ∀ r H', r ∈ rules → DiceAt H' a → But a H H' → Q (.str (Tx r)) H'
theorem rule_of {P : Program} {w : World} {K : PySem.W.Frag} {mg : Str → Option Value} {base : Heap} {k : Nat} (O : OwnS P w K mg base k "_law_rule" ["_law_d"] spRule) : OwnS P w K mg base k "_law_rule" ["_law_d"] spRuleT := by
  obtain ⟨f, fd, F, hm, hk, hb⟩ := O.ex
  refine ⟨f, fd, F.imp fun vs H Q E h => ?_, hm, hk, hb⟩
  obtain ⟨a, ev, h1, k⟩ := h
  refine ⟨a, ev, h1, fun r H' hr d b => ?_⟩
  obtain ⟨q, hq, e⟩ := ruleS_in r hr
  rw [e]
  exact k q H' hq d b
theorem upd_keep {H : Hp} {p y : Addr} {v o : HO} (hp : H p = none) (e : H y = some o) : (L2.upd H p v) y = some o := by rw [upd_ne (ne_of_none e hp)]; exact e
theorem none_of {H H' : Hp} {y : Addr} (f : ∀ o, H y = some o → H' y = some o) (e : H' y = none) : H y = none := by
  cases q : H y with
  | none => rfl
  | some o => rw [f o q] at e; cases e
theorem rep_flat {α : Type} {v : α} : ∀ n, (List.replicate n [v]).flatten = List.replicate n v
  | 0 => rfl
  | n + 1 => by rw [List.replicate_succ, List.flatten_cons, rep_flat n]; rfl
theorem dp_ints {K : PySem.W.Frag} {H : Hp} : ∀ ks : List Int, DpAll K H (ks.map V.int) (ks.map PyData.int)
  | [] => .nil
  | k :: ks => .cons (.int k) (dp_ints ks)
theorem lay_ints : ∀ ks : List Int, PyData.canLayAll0 (ks.map PyData.int) = true
  | [] => by simp [PyData.canLayAll0]
  | k :: ks => by simp [PyData.canLayAll0, PyData.canLay0, lay_ints ks]
theorem depth_ints : ∀ ks : List Int, PyData.depthAll (ks.map PyData.int) ≤ 5
  | [] => by simp [PyData.depthAll]
  | k :: ks => by
    have := depth_ints ks
    simp [PyData.depthAll, PyData.depth]
    omega
theorem shaped_ints (ks : List Int) : SeqAt.shaped (.list (ks.map PyData.int)) = true := by
  have a := lay_ints ks
  have b := depth_ints ks
  simp [SeqAt.shaped, PyData.canLay0, PyData.depth, a]
  omega
theorem many_no {c : Nat} (hc : c ≠ 49) (p : List Nat) : many (c :: p) = many p := by simp [many, hc]
theorem inV_mem {x : Int} {ks : List Int} (h : x ∈ ks) : inV (.int x) (ks.map V.int) = true := by
  unfold inV
  rw [List.any_eq_true]
  exact ⟨.int x, List.mem_map.mpr ⟨x, h, rfl⟩, by show (x == x) = true; exact beq_self_eq_true x⟩
theorem flat_ints : ∀ ks : List Int, (ks.map V.int).all flatV = true
  | [] => rfl
  | k :: ks => by rw [List.map_cons, List.all_cons, flat_ints ks]; rfl
theorem row_all {P : V → Prop} (h0 : P .non) (hi : ∀ i, P (.int i)) : ∀ (p : List Nat) (ks : List Int), ∀ v ∈ rowV p ks, P v
  | [], ks, v, hv => by cases ks <;> cases hv
  | c :: p, ks, v, hv => by
    by_cases hc : c = 49
    · subst hc
      cases ks with
      | nil =>
        rcases List.mem_cons.mp (show v ∈ V.non :: fill V.non p [] from hv) with rfl | m
        · exact h0
        · exact row_all h0 hi p [] v m
      | cons k ks =>
        rcases List.mem_cons.mp (show v ∈ V.int k :: fill V.non p (ks.map V.int) from hv) with rfl | m
        · exact hi k
        · exact row_all h0 hi p ks v m
    · have hv : v ∈ fill V.non (c :: p) (ks.map V.int) := hv
      rw [fill_no hc] at hv
      rcases List.mem_cons.mp hv with rfl | m
      · exact h0
      · exact row_all h0 hi p ks v m
theorem row_flat (p : List Nat) (ks : List Int) : (rowV p ks).all flatV = true := List.all_eq_true.mpr (row_all (P := fun v => flatV v = true) rfl (fun _ => rfl) p ks)
theorem fill_len {α : Type} {z : α} : ∀ (p : List Nat) (ks : List α), (fill z p ks).length = p.length
  | [], ks => by cases ks <;> rfl
  | c :: p, ks => by
    by_cases hc : c = 49
    · subst hc
      cases ks with
      | nil => show (fill z p []).length + 1 = _; rw [fill_len p []]; rfl
      | cons k ks => show (fill z p ks).length + 1 = _; rw [fill_len p ks]; rfl
    · rw [fill_no hc, List.length_cons, fill_len p ks, List.length_cons]
theorem DiceAt.frm {H H' : Hp} {d : Addr} (h : DiceAt H d) (f : ∀ o, H d = some o → H' d = some o) : DiceAt H' d := let ⟨ns, a, b⟩ := h; ⟨ns, a, f _ b⟩
theorem Sh.frm {C a b c : Addr} {H H' : Hp} {r p : List Nat} {ks : List Int} {t : Int} (s : Sh C H a b c r p ks t) (f : ∀ x ∈ [a, b, c], ∀ o, H x = some o → H' x = some o) : Sh C H' a b c r p ks t := by
  obtain ⟨dx, ho⟩ := s.o
  exact ⟨⟨dx, f a (by simp) _ ho⟩, f b (by simp) _ s.k, f c (by simp) _ s.p⟩
theorem new_at {cc : Nat → Addr} {η η' : Em} {h' : CH} {H H' : Hp} {n : Nat} {D : Addr} (S : Stp η H η' H') (R : HR cc η' h' H') (e : η'.as[n]? = some D) (hn : η.as.length ≤ n) : H D = none := S.nw D (List.mem_of_getElem? e) fun m => by
  obtain ⟨i, hi⟩ := List.getElem?_of_mem m
  have hl : i < η.as.length := (List.getElem?_eq_some_iff.mp hi).1
  have := nd_ix R.nd e (S.le.get hi)
  omega
theorem flds_no {r : List Nat} {n : Nat} {b c : Addr} {t : Int} {x : Str} (h : (x == Tx [114, 117, 108, 101]) = false ∧ (x == Tx [119, 105, 100, 101]) = false ∧ (x == Tx [114, 97, 110, 107, 101, 100]) = false ∧ (x == Tx [112, 108, 97, 99, 101, 115]) = false ∧ (x == Tx [116, 111, 116, 97, 108]) = false := by decide +kernel) : (flds r n b c t).lookup x = none := by
  obtain ⟨h1, h2, h3, h4, h5⟩ := h
  simp [flds, List.lookup, h1, h2, h3, h4, h5]
theorem moved_call' {C a b c : Addr} {r p : List Nat} {ks : List Int} {t : Int} {H : Hp} {Q : VK} {E : XK} (so : ks.Pairwise (· < ·)) (s : Sh C H a b c r p ks t) (nbc : b ≠ c)
    (k : ∀ H', Sh C H' a b c r p ks t → Frm [a, b, c] H H' → Q (.int t) H') : spOf (fun _ => C) c_Shelf_moved [.ref a] H Q E := by
  obtain ⟨κ, mo, ek⟩ := kap so
  exact moved_call mo (lab_rv (η := ⟨κ, fun _ => C, [a, b, c], t⟩) ek) s nbc k

end CK

namespace CK
open PySem L2 PyProof.Rows
section
variable {X : Cx} {cc : Nat → Addr} {tg iter elt : Expr} {ifs : List Expr} {scope : Scope} {own : List (Str × Nat)} {pos spos : Pos} {ci : CI} {ct : CT} {ce : CE}
theorem ps_setLcC (fuel : Nat) (t : CTg) {i : Nat} {y : Str} {py : Pos} (hc : X.calm = true) (hN : X.N.Nodup) (hy : X.N[i]? = some y) (hyl : X.env.scope.names.lookup y = some .local)
    (hsw : swapsWith (.ListComp elt [⟨tg, iter, ifs, 0⟩] scope pos) (some (.Name y py)) spos.line X.env = pure true) (hi : PI X tg iter (iOf cc X.K ci)) (ok : BlkOk X.N X.env.scope scope own)
    (hg : ∀ (s : Shared) (H : Hp) (C : Addr) (cl : List (Str × Addr)) (fp : List Addr), PG (X.blk s H scope (compEnvC scope cl C X.env) fp) tg (tgR X.K t)) (ht : ∀ (s : Shared) (H : Hp) (C : Addr) (cl : List (Str × Addr)) (fp : List Addr), PTs (X.blk s H scope (compEnvC scope cl C X.env) fp) ifs (bOf cc ct))
    (he : ∀ (s : Shared) (H : Hp) (C : Addr) (cl : List (Str × Addr)) (fp : List Addr), PE (X.blk s H scope (compEnvC scope cl C X.env) fp) elt (eOf cc ce)) (hsub : ∀ i ∈ t.ix, i ∈ own.map (·.2) := by decide) (hs : ∀ x, foldedSetIterable iter X.env x = pure x := by intro _; rfl) :
    PS X (.Assign [.Name y py] (.ListComp elt [⟨tg, iter, ifs, 0⟩] scope pos) spos) (tAsg (eOf cc (cLc fuel ci t ct ce (own.map (·.2)))) (gName i)) := ps_imp (ps_setLc hc hN hy hyl hsw hi ok hg ht he hs) fun D σ H q => by
  refine lc_of (fuel := fuel) hsub ?_
  exact q
end
/-- a method of the class -/
structure MethS (P : Program) (w : World) (K : PySem.W.Frag) (mg : Str → Option Value) (base : Heap) (k : Nat) (C : Addr) (m : Str) (ps : List Str) (sp : Sp) : Prop where
  ex : ∃ f fd, FnOk P w K mg base CX0 k f fd ps sp ∧ Meth K C m f ∧ Binds K fd ps []
structure MkS (P : Program) (w : World) (K : PySem.W.Frag) (mg : Str → Option Value) (base : Heap) (k : Nat) (C : Addr) (x : Str) (ps : List Str) (sp : Sp) : Prop where
  ex : ∃ f fd, FnOk P w K mg base CX0 k f fd ps sp ∧ Mk K C f ∧ Binds K fd ps [] ∧ mg x = some (.ref C)
end CK

namespace CK
open PySem L2 PyProof.Rows
/-! ### deeds that can be done -/
def wd : Bool → Str
  | true => "put"
  | false => "take"
theorem wd_eq (b : Bool) : wd b = Tx (word b) := by cases b <;> decide +kernel
def Tups (H : Hp) (as : List Addr) (ds : List Deed) : Prop := Paired (fun t (d : Deed) => H t = some (.tup [.str (wd d.1), .int d.2])) as ds
/-- the tuples stay -/
def TS (H H' : Hp) : Prop := ∀ t xs, H t = some (.tup xs) → H' t = some (.tup xs)
theorem Tups.mono {H H' : Hp} (s : TS H H') {as : List Addr} {ds : List Deed} (t : Tups H as ds) : Tups H' as ds := Paired.mapP t fun _ _ q => s _ _ q
theorem TS.same {H H' : Hp} (s : Same H H') : TS H H' := fun t xs e => s t _ e
theorem TS.but {a : Addr} {H H' : Hp} {l : List V} (ha : H a = some (.lst l)) (b : But a H H') : TS H H' := fun t xs e => b t _ (fun z => by rw [z, ha] at e; cases e) e
theorem TS.put {a : Addr} {H : Hp} {l : List V} {o : HO} (ha : H a = some (.lst l)) : TS H (L2.upd H a o) := TS.but ha But.upd
theorem TS.trans {H H1 H2 : Hp} (x : TS H H1) (y : TS H1 H2) : TS H H2 := fun t xs e => y t xs (x t xs e)
section
variable {P : Program} {w : World} {K : PySem.W.Frag} {mg : Str → Option Value} {base : Heap} {cc : Nat → Addr}
abbrev s__law_drawn : Stmt := top 34
theorem sc__law_drawn : FnScope ["_law_d", "_law_wide", "_law_most", "_law_many", "_law_found", "_law_turn", "_law_is_put"] ["_law_d", "_law_wide", "_law_most"] (defScope s__law_drawn) := ⟨rfl, rfl, rfl, by decide +kernel, rfl, by decide +kernel, by decide +kernel⟩
def spDrawn : Sp := fun vs H Q _ => ∃ (a : Addr) (w m : Nat), vs = [.ref a, .int w, .int m] ∧ 1 ≤ w ∧ w ≤ 6 ∧ m ≤ 1000 ∧ DiceAt H a ∧ ∀ H' p ds as n, DiceAt H' a → But a H H' → H p = none → p ≠ a → cnt w 0 ds = some n → H' p = some (.lst (as.map V.ref)) → Tups H' as ds → ds.length ≤ m → Q (.ref p) H'
theorem isput_rd {a : Addr} {n w : Nat} {σ : L2.St} {H : Hp} {k : VK} (h0 : σ[0]? = some (some (.ref a))) (h1 : σ[1]? = some (some (.int w))) (h3 : σ[3]? = some (some (.int n))) (hw : 1 ≤ w) (hd : DiceAt H a)
    (hk : ∀ b H3, DiceAt H3 a → But a H H3 → (b = true → n < w) → (b = false → 0 < n) → k (.bl b) H3) :
    tOrV (tOp rEq (tVar 3) (tC (.int 0))) (tAndV (tOp (rI0 fun i j => .bl (decide (i < j))) (tVar 3) (tVar 1)) (tOp (rI0 fun i j => .bl (decide (j < i))) (tOwn spDraw (tCons (tVar 0) (tCons (tC (.int 3)) tNil))) (tC (.int 0)))) σ H k := by
  refine ⟨_, h3, rfl, _, rfl, ite2 (fun c => ?_) (fun c => ?_)⟩
  · have e : (V.int n) = V.int 0 := of_decide_eq_true c
    have e : (n : Int) = 0 := V.int.inj e
    exact hk true H hd (But.refl a H) (fun _ => by omega) (fun z => by cases z)
  · have ne : ¬ (n : Int) = 0 := fun z => c (decide_eq_true (by rw [z]))
    refine ⟨_, h3, _, h1, _, _, rfl, rfl, _, rfl, ite2 (fun c2 => ?_) (fun c2 => ?_)⟩
    · have lt : (n : Int) < w := of_decide_eq_true c2
      refine ⟨_, h0, a, 3, rfl, by decide, by decide, hd, fun r H' r0 r3 hd' hb => ⟨_, _, rfl, rfl, ?_⟩⟩
      exact hk _ H' hd' hb (fun _ => by omega) (fun _ => by omega)
    · have lt : ¬ (n : Int) < w := fun z => c2 (decide_eq_true z)
      exact hk false H hd (But.refl a H) (fun z => by cases z) (fun _ => by omega)
def InvDr (a F : Addr) (w' m : Nat) (H : Hp) (i : Nat) (σ : L2.St) (H2 : Hp) : Prop := ∃ (n : Nat) (ds : List Deed) (as : List Addr) (t ip : Option V), σ = [some (.ref a), some (.int w'), some (.int m), some (.int n), some (.ref F), t, ip] ∧ cnt w' 0 ds = some n ∧ n ≤ w' ∧ ds.length = i ∧ DiceAt H2 a ∧ H2 F = some (.lst (as.map V.ref)) ∧ Tups H2 as ds ∧ But a H H2
theorem more_dr {a F : Addr} {w' m : Nat} {H H3 H5 : Hp} {i n n' : Nat} {ds : List Deed} {as : List Addr} {tt ip : Option V} {d : Deed} {T5 : Addr} (na : a ≠ F) (hF : H F = none) (hc : cnt w' 0 ds = some n) (hl : ds.length = i) (hF3 : H3 F = some (.lst (as.map V.ref))) (ht3 : Tups H3 as ds) (hb03 : But a H H3) (hd3 : DiceAt H3 a)
    (hs : step1 w' n d = some n') (hn' : n' ≤ w') (hd5 : DiceAt H5 a) (hb5 : But a H3 H5) (hT : H5 T5 = none) :
    InvDr a F w' m H (i + 1) [some (.ref a), some (.int w'), some (.int m), some (.int n'), some (.ref F), tt, ip] (upd (upd H5 T5 (.tup [.str (wd d.1), .int d.2])) F (.lst (as.map V.ref ++ [.ref T5]))) := by
  have hF5 : H5 F = some (.lst (as.map V.ref)) := hb5 F _ (Ne.symm na) hF3
  obtain ⟨l3, _, ha3⟩ := id hd3
  obtain ⟨ns, hdn, ha5⟩ := hd5
  have nTF : T5 ≠ F := fun z => by rw [z, hF5] at hT; cases hT
  have nTa : a ≠ T5 := ne_of_none ha5 hT
  have ts : TS H5 (upd (upd H5 T5 (.tup [.str (wd d.1), .int d.2])) F (.lst (as.map V.ref ++ [.ref T5]))) := fun t xs e => by
    rw [upd_ne (fun z => by rw [z, hF5] at e; cases e), upd_ne (ne_of_none e hT)]
    exact e
  refine ⟨n', ds ++ [d], as ++ [T5], tt, ip, rfl, cnt_snoc hc hs, hn', by rw [List.length_append, hl]; rfl, ⟨ns, hdn, by rw [upd_ne na, upd_ne nTa]; exact ha5⟩, by rw [upd_same, List.map_append]; rfl, ?_, fun b o hb e => ?_⟩
  · refine Pd.app (Tups.mono ts (Tups.mono (TS.but ha3 hb5) ht3)) (.cons ?_ .nil)
    rw [upd_ne nTF, upd_same]
  · have e5 := hb5 b o hb (hb03 b o hb e)
    rw [upd_ne (ne_of_none e hF), upd_ne (ne_of_none e5 hT)]
    exact e5
theorem ok_drawn {f : Addr} {fd : FuncData} (F : Fun K "_law_drawn" "_law_drawn" s__law_drawn f fd) (T : Txt K mg cc) (O : OwnS P w K mg base 1 "_law_off" ["_law_d", "_law_most"] spDraw) : FnOk P w K mg base CX0 2 f fd ["_law_d", "_law_wide", "_law_most"] spDrawn := by
  refine F.ok sc__law_drawn (fun vs H Q E h => ?_) (fun cdv A outer s H vs Q E hr h => ?_)
  · obtain ⟨a, w, m, rfl, _⟩ := h
    rfl
  · obtain ⟨a, w', m, rfl, hw1, hw6, hm, hd, kq⟩ := h
    have nd := sc__law_drawn.nd
    refine ⟨_, pss_cons (ps_set (i := 3) nd rfl (Or.inl rfl) pe_int)
      (pss_cons (ps_set (i := 4) nd rfl (Or.inl rfl) (pe_lst pa_nil))
      (pss_cons (ps_for PassesOwn.never rfl (pi_range1 (by rfl) T.n_range (pa_cons (pe_own O hr (pa_cons (pv 0) (pa_cons (pe_op op_add (pv 2) pe_int) pa_nil))) pa_nil)) (pg_name (i := 5) nd rfl (Or.inl rfl))
        (pss_cons (ps_set (i := 6) nd rfl (Or.inl rfl) (pe_or (pe_cmpR op_eq (pv 3) pe_int (nomark _)) (pe_one (pe_and (pe_cmpR op_lt (pv 3) (pv 1) (nomark _)) (pe_one (pe_cmpR op_gt (pe_own O hr (pa_cons (pv 0) (pa_cons pe_int pa_nil))) pe_int (nomark _)))))))
        (pss_one (ps_if (pt_val (pv 6))
          (pss_cons (ps_expr (pe_bm PySem.F.plainAttrs_list PySem.F.slot_list_append PySem.F.type_list_append mt_append (pv 4) (pa_cons (pe_tup (pa_cons pe_str (pa_cons (pe_ix (r := rIxL K) ix_list (pe_lst (pa_cons pe_int (pa_cons (pv 3) (pa_cons (pe_own O hr (pa_cons (pv 0) (pa_cons (pe_op op_add (pv 3) pe_int) pa_nil))) pa_nil)))) (pe_own O hr (pa_cons (pv 0) (pa_cons pe_int pa_nil))) (fun _ _ => rfl)) pa_nil))) pa_nil)))
          (pss_one (ps_set (i := 3) nd rfl (Or.inl rfl) (pe_op op_add (pv 3) pe_int))))
          (pss_cons (ps_expr (pe_bm PySem.F.plainAttrs_list PySem.F.slot_list_append PySem.F.type_list_append mt_append (pv 4) (pa_cons (pe_tup (pa_cons pe_str (pa_cons (pe_own O hr (pa_cons (pv 0) (pa_cons (pv 3) pa_nil))) pa_nil))) pa_nil)))
          (pss_one (ps_set (i := 3) nd rfl (Or.inl rfl) (pe_op op_sub (pv 3) pe_int))))))))
      (pss_one (ps_ret (pv 4))))), ?_⟩
    refine ⟨(show 0 ≤ sizeLine by decide), fun F hF => ?_⟩
    have na : a ≠ F := by obtain ⟨_, _, e⟩ := hd; exact ne_of_none e hF
    have hd0 : DiceAt (upd H F (.lst [])) a := by obtain ⟨ns, h1, h2⟩ := hd; exact ⟨ns, h1, by rw [upd_ne na]; exact h2⟩
    refine ⟨_, rfl, _, rfl, _, _, rfl, rfl, a, _, rfl, by omega, by omega, hd0, fun r H1 r0 rm hd1 hb1 => ⟨r, rfl, by omega, by omega, ?_⟩⟩
    refine for_range (lo := 0) (n := r.toNat) (InvDr a F w' m H)
      ⟨0, [], [], none, none, rfl, rfl, Nat.zero_le _, rfl, hd1, hb1 F _ (Ne.symm na) upd_same, .nil, (But.new (But.refl a H) hF).trans hb1⟩ ?_ ?_
    · rintro i σ H2 hi ⟨n, ds, as, t, ip, rfl, hc, hn, hl, hd2, hF2, ht, hb2⟩
      refine isput_rd (a := a) (n := n) (w := w') rfl rfl rfl hw1 hd2 fun b H3 hd3 hb3 hput htake => ?_
      have hF3 : H3 F = some (.lst (as.map V.ref)) := hb3 F _ (Ne.symm na) hF2
      obtain ⟨l2, _, ha2⟩ := id hd2
      have ht3 : Tups H3 as ds := ht.mono (TS.but ha2 hb3)
      have hb03 : But a H H3 := hb2.trans hb3
      have hlen : as.length = ds.length := ht.length
      cases b with
      | true =>
        have hlt := hput rfl
        refine ⟨_, rfl, _, rfl, iteT ?_⟩
        -- found.append(("put", [0, many, draw][draw]))
        refine ⟨_, rfl, .inl ⟨rfl, _, SqL.of hF3⟩, ?_⟩
        refine ⟨_, rfl, _, rfl, _, rfl, _, _, rfl, rfl, a, _, rfl, by omega, by omega, hd3, fun r1 H4 q0 qm hd4 hb4 => ⟨(show 3 ≤ sizeLine by decide), fun L hL => ?_⟩⟩
        obtain ⟨j1, rfl⟩ : ∃ j : Nat, r1 = (j : Int) := ⟨r1.toNat, by omega⟩
        obtain ⟨ns4, hn4, ha4⟩ := hd4
        have naL : a ≠ L := ne_of_none ha4 hL
        refine ⟨_, rfl, a, 3, rfl, by decide, by decide, ⟨ns4, hn4, by rw [upd_ne naL]; exact ha4⟩, fun r2 H5 z0 z3 hd5 hb5 => ?_⟩
        obtain ⟨j2, rfl⟩ : ∃ j : Nat, r2 = (j : Int) := ⟨r2.toNat, by omega⟩
        have hL5 : H5 L = some (.lst [.int 0, .int n, .int j1]) := hb5 L _ (Ne.symm naL) upd_same
        obtain ⟨jv, hjv, hjn⟩ : ∃ jv : Nat, ([.int 0, .int n, .int j1] : List V)[j2]? = some (.int jv) ∧ jv ≤ n := by
          have hj : j2 < 3 := by omega
          match j2, hj with
          | 0, _ => exact ⟨0, rfl, Nat.zero_le _⟩
          | 1, _ => exact ⟨n, rfl, Nat.le_refl _⟩
          | 2, _ => exact ⟨j1, rfl, by omega⟩
        have hb35 : But a H3 H5 := (But.new hb4 hL).trans hb5
        refine ⟨L, _, _, .int jv, rfl, rfl, SqL.of hL5, at_of (j := j2) rfl hjv, (show 2 ≤ sizeLine by decide), fun T5 hT5 => ?_⟩
        have hF5 : H5 F = some (.lst (as.map V.ref)) := hb35 F _ (Ne.symm na) hF3
        have nF : F ≠ T5 := ne_of_none hF5 hT5
        refine ⟨F, _, _, rfl, rfl, by rw [upd_ne nF]; exact hF5, by rw [List.length_map, sizeLine_eq]; omega, ?_⟩
        refine ⟨_, rfl, _, _, rfl, rfl, ?_⟩
        exact more_dr (d := (true, jv)) (n' := n + 1) na hF hc hl hF3 ht3 hb03 hd3 (by show (if jv ≤ n ∧ n < w' then some (n + 1) else none) = _; rw [if_pos ⟨hjn, hlt⟩]) (by omega) hd5 hb35 hT5
      | false =>
        have hlt := htake rfl
        refine ⟨_, rfl, _, rfl, iteF ?_⟩
        refine ⟨_, rfl, .inl ⟨rfl, _, SqL.of hF3⟩, ?_⟩
        refine ⟨_, rfl, _, rfl, a, _, rfl, by omega, by omega, hd3, fun r1 H4 q0 qm hd4 hb4 => ⟨(show 2 ≤ sizeLine by decide), fun T5 hT5 => ?_⟩⟩
        have hF4 : H4 F = some (.lst (as.map V.ref)) := hb4 F _ (Ne.symm na) hF3
        obtain ⟨j, rfl⟩ : ∃ j : Nat, r1 = (j : Int) := ⟨r1.toNat, by omega⟩
        have nF : F ≠ T5 := ne_of_none hF4 hT5
        refine ⟨F, _, _, rfl, rfl, by rw [upd_ne nF]; exact hF4, by rw [List.length_map, sizeLine_eq]; omega, ?_⟩
        refine ⟨_, rfl, _, _, rfl, rfl, ?_⟩
        have e : ((n - 1 : Nat) : Int) = ((n : Nat) : Int) - 1 := by omega
        have fin := more_dr (m := m) (tt := some (.int (0 + (i : Nat)))) (ip := some (.bl false)) (d := (false, j)) (n' := n - 1) na hF hc hl hF3 ht3 hb03 hd3 (by show (if j < n then some (n - 1) else none) = _; rw [if_pos (by omega)]) (by omega) hd4 hb4 hT5
        rw [e] at fin
        exact fin
    · rintro σ H2 ⟨n, ds, as, t, ip, rfl, hc, hn, hl, hd2, hF2, ht, hb2⟩
      exact ⟨_, rfl, kq H2 F ds as n hd2 hb2 hF (Ne.symm na) hc hF2 ht (by omega)⟩
end
end CK

namespace CK
open PySem L2 PyProof.Rows
theorem dT_ro {η : Em} (d : Deed) : RO η (dT d) (.tup [.str (wd d.1), .int d.2]) := ⟨_, rfl, .cons (by rw [wd_eq]; rfl) (.cons rfl .nil)⟩
theorem ints_ro {η : Em} (l : List Int) : RO η (.lst (l.map CV.int)) (.lst (l.map V.int)) := ⟨_, rfl, ints_rv l⟩
section
variable {P : Program} {w : World} {K : PySem.W.Frag} {mg : Str → Option Value} {base : Heap} {cc : Nat → Addr}
abbrev s_played : Stmt := top 19
theorem sc_played : FnScope ["rule", "wide", "deeds", "told", "places", "number", "deed", "moves"] ["rule", "wide", "deeds"] (defScope s_played) := ⟨rfl, rfl, rfl, by decide +kernel, rfl, by decide +kernel, by decide +kernel⟩
def spPlayed : Sp := fun vs H Q _ => ∃ (r : List Nat) (wd' : Nat) (a : Addr) (ds : List Deed) (as : List Addr) (n : Nat), vs = [.str (Tx r), .int wd', .ref a] ∧ r ∈ rules ∧ 1 ≤ wd' ∧ wd' ≤ 6 ∧ cnt wd' 0 ds = some n ∧ H a = some (.lst (as.map V.ref)) ∧ Tups H as ds ∧ ds.length ≤ 1000 ∧
  ∀ H' p To, Same H H' → H p = none → H' p = some (.tup [.ref To, .str (Tx (runM r (zeros wd') ds).2)]) → H' To = some (.lst ((runM r (zeros wd') ds).1.map V.int)) → H To = none → Q (.ref p) H'
theorem goodR_of {r : List Nat} (h : r ∈ rules) : ∃ h', c_check_rule [.str r] (CH.of []) = some (.non, h') ∧ kept h' 0 [] = true := isN_some (List.all_eq_true.mp gp_r r h)
theorem goodW_of {n : Nat} (h1 : 1 ≤ n) (h6 : n ≤ 6) : ∃ h', c_check_width [.int n] (CH.of []) = some (.non, h') ∧ kept h' 0 [] = true := isN_some (List.all_eq_true.mp gp_w n (by
  have : n = 1 ∨ n = 2 ∨ n = 3 ∨ n = 4 ∨ n = 5 ∨ n = 6 := by omega
  rcases this with rfl | rfl | rfl | rfl | rfl | rfl <;> decide))
theorem plFrom_len : ∀ (p : List Nat) (i : Nat), (plFrom i p).length = many p
  | [], _ => rfl
  | x :: r, i => by
    by_cases h : x = 49
    · subst h
      show (plFrom (i + 1) r).length + 1 = many r + 1
      rw [plFrom_len r]
    · have e1 : plFrom i (x :: r) = plFrom (i + 1) r := by simp [plFrom, h]
      have e2 : many (x :: r) = many r := by simp [many, h]
      rw [e1, e2, plFrom_len r]
theorem pl_len (p : List Nat) : (pl p).length = many p := plFrom_len p 0
/-- behind i deeds -/
def InvPl (r : List Nat) (wd' : Nat) (a : Addr) (ds : List Deed) (H : Hp) (i : Nat) (σ : L2.St) (H2 : Hp) : Prop := ∃ (To Pl : Addr) (x y z : Option V), σ = [some (.str (Tx r)), some (.int wd'), some (.ref a), some (.ref To), some (.ref Pl), x, y, z] ∧ Same H H2 ∧
  H2 To = some (.lst ((runM r (zeros wd') (ds.take i)).1.map V.int)) ∧ H2 Pl = some (.lst ((pl (runM r (zeros wd') (ds.take i)).2).map V.int)) ∧ To ≠ Pl ∧ H To = none
theorem take_succ' {α : Type} {l : List α} {i : Nat} {x : α} (h : l[i]? = some x) : l.take (i + 1) = l.take i ++ [x] := by
  obtain ⟨hl, e⟩ := List.getElem?_eq_some_iff.mp h
  rw [List.take_succ_eq_append_getElem hl, e]
theorem ok_played {f : Addr} {fd : FuncData} (F : Fun K "played" "played" s_played f fd) (T : Txt K mg cc) (OR : Own P w K mg base cc 1 "check_rule" ["rule"] c_check_rule) (OW : Own P w K mg base cc 1 "check_width" ["wide"] c_check_width)
    (OC : Own P w K mg base cc 1 "can_be_done" ["wide", "many", "deed"] c_can_be_done) (OA : Own P w K mg base cc 3 "after_deed" ["rule", "wide", "places", "deed"] c_after_deed) (OP : Own P w K mg base cc 1 "pattern_of" ["wide", "places"] c_pattern_of) : FnOk P w K mg base CX0 4 f fd ["rule", "wide", "deeds"] spPlayed := by
  refine F.ok sc_played (fun vs H Q E h => ?_) (fun cdv A outer s H vs Q E hr h => ?_)
  · obtain ⟨r, w', a, ds, as, n, rfl, _⟩ := h
    rfl
  · obtain ⟨r, wd', a, ds, as, n, rfl, hrr, h1, h6, hc, ha, ht, hlen, kq⟩ := h
    have nd := sc_played.nd
    have hr1 : Room 1 _ := hr.mono (by decide)
    refine ⟨_, pss_cons (ps_expr (pe_own OR hr1 (pa_cons (pv 0) pa_nil)))
      (pss_cons (ps_expr (pe_own OW hr1 (pa_cons (pv 1) pa_nil)))
      (pss_cons (ps_set (i := 3) nd rfl (Or.inl rfl) (pe_lst pa_nil))
      (pss_cons (ps_set (i := 4) nd rfl (Or.inl rfl) (pe_lst pa_nil))
      (pss_cons (ps_for PassesOwn.never rfl (pi_enum (by rfl) T.n_enumerate (pa_cons (pv 2) pa_nil)) (pg_tup rfl (pgs_cons (pg_name (i := 5) nd rfl (Or.inl rfl)) (pgs_cons (pg_name (i := 6) nd rfl (Or.inl rfl)) pgs_nil)))
        (pss_cons (ps_if (pt_not (pt_val (pe_own OC hr1 (pa_cons (pv 1) (pa_cons (pe_callB call_len_seq (by rfl) T.n_len boot_len (pa_cons (pv 4) pa_nil)) (pa_cons (pv 6) pa_nil)))))) (pss_one ps_never) pss_nil)
        (pss_cons (ps_asg (pe_own OA hr (pa_cons (pv 0) (pa_cons (pv 1) (pa_cons (pv 4) (pa_cons (pv 6) pa_nil))))) (pg_tup rfl (pgs_cons (pg_name (i := 7) nd rfl (Or.inl rfl)) (pgs_cons (pg_name (i := 4) nd rfl (Or.inl rfl)) pgs_nil))))
        (pss_one (ps_expr (pe_bm PySem.F.plainAttrs_list PySem.F.slot_list_append PySem.F.type_list_append mt_append (pv 3) (pa_cons (pv 7) pa_nil)))))))
      (pss_one (ps_ret (pe_tup (pa_cons (pv 3) (pa_cons (pe_own OP hr1 (pa_cons (pv 1) (pa_cons (pv 4) pa_nil))) pa_nil))))))))), ?_⟩
    -- check_rule(rule)
    obtain ⟨hR, eR, kR⟩ := goodR_of hrr
    refine ⟨_, rfl, sp_keeps (cc := cc) (E := E0) HR.nil (.cons (rvS r) .nil) eR kR fun η1 H1 v1 s1 _ R1 rv1 => ?_⟩
    obtain ⟨hW, eW, kW⟩ := goodW_of h1 h6
    refine ⟨_, rfl, sp_keeps (cc := cc) (E := E0) HR.nil (.cons (rvI _) .nil) eW kW fun η2 H2 v2 s2 _ R2 rv2 => ?_⟩
    have s12 : Same H H2 := s1.trans s2
    refine ⟨(show 0 ≤ sizeLine by decide), fun To hTo => ⟨(show 0 ≤ sizeLine by decide), fun Pl hPl => ?_⟩⟩
    have sT : Same H (upd H2 To (.lst [])) := Same.new' s12 hTo
    have sP : Same H (upd (upd H2 To (.lst [])) Pl (.lst [])) := Same.new' sT hPl
    have nTP : To ≠ Pl := ne_of_none upd_same hPl
    refine ⟨_, rfl, a, _, rfl, SqL.of (sP _ _ ha), ?_⟩
    refine for_enum (K := K) (a := a) (xs := as.map V.ref) (InvPl r wd' a ds H) ⟨To, Pl, none, none, none, rfl, sP, by rw [upd_ne nTP]; exact upd_same, ?_, nTP, s12.free hTo⟩ (fun i σ H3 _ ⟨_, _, _, _, _, _, s3, _⟩ => SqL.of (s3 _ _ ha)) ?_ ?_
    · show upd (upd H2 To (.lst [])) Pl (.lst []) Pl = some (.lst ((pl (zeros wd')).map V.int))
      rw [show pl (zeros wd') = [] from plFrom_zeros wd' 0]
      exact upd_same
    · rintro i x σ H3 T3 hx ⟨To, Pl, x5, x6, x7, rfl, s3, hTo, hPl, nTP, hTo0⟩ hT3
      obtain ⟨t, hti, rfl⟩ : ∃ t, as[i]? = some t ∧ x = V.ref t := by
        rw [List.getElem?_map] at hx
        cases e : as[i]? with
        | none => rw [e] at hx; cases hx
        | some t => rw [e] at hx; exact ⟨t, rfl, (Option.some.inj hx).symm⟩
      obtain ⟨d, hdi, htd⟩ := Pd.get ht hti
      obtain ⟨k, k', hk, hk'⟩ := cnt_take hc hdi
      obtain ⟨zb, zm, zl⟩ := zeros_ok wd'
      obtain ⟨pb, pll, pm⟩ := run_state hrr h1 h6 (ds.take i) zb zl (by rw [zm]; exact hk)
      generalize hp : (runM r (zeros wd') (ds.take i)).2 = p at *
      have g := good_step (d := d) hrr pb (by omega) (by omega) (by rw [pll, pm]; exact hk')
      have s4 : Same H3 (upd H3 T3 (.tup [.int (i : Nat), .ref t])) := Same.new' (Same.refl _) hT3
      generalize hH4 : upd H3 T3 (.tup [.int (i : Nat), .ref t]) = H4 at s4
      have hT4 : H4 T3 = some (.tup [.int (i : Nat), .ref t]) := by rw [← hH4]; exact upd_same
      refine ⟨T3, _, rfl, SqT.of hT4, rfl, _, _, rfl, _, _, rfl, rfl, ?_⟩
      have hPl4 := s4 _ _ hPl
      have ht4 : H4 t = some (.tup [.str (wd d.1), .int d.2]) := s4 _ _ (s3 _ _ htd)
      have nPt : Pl ≠ t := ne_of hPl4 ht4 (by intro z; cases z)
      have hr4 : HR cc ⟨k0, cc, [t], 0⟩ (CH.of [dT d]) H4 := HR.one ht4 (dT_ro d)
      -- can it be done
      obtain ⟨hC, eC, kC⟩ := isT_some g.can
      have eC : c_can_be_done [.int p.length, .int (many p), .ref 0] (CH.of [dT d]) = some (.bl true, hC) := eC
      refine ⟨_, rfl, _, rfl, Pl, _, rfl, .inl (SqL.of hPl4), _, rfl, sp_keeps (cc := cc) (E := E0) hr4 (.cons (by rw [← pll]; exact rvI _) (.cons (by rw [List.length_map, pl_len]; exact rvI _) (.cons (rvR (n := 0) rfl) .nil))) eC kC fun η5 H5 v5 s5 _ R5 rv5 => ⟨true, rv5, iteF ?_⟩⟩
      have hPl5 := s5 _ _ hPl4
      have ht5 := s5 _ _ ht4
      have hr5 : HR cc ⟨k0, cc, [Pl, t], 0⟩ (CH.of [plL p, dT d]) H5 := HR.two nPt hPl5 ht5 (ints_ro _) (dT_ro d)
      obtain ⟨nA, kA, hA, eA, gA, gL, kkA⟩ := rdTL_some g.after
      have eA : c_after_deed [.str r, .int p.length, .ref 0, .ref 1] (CH.of [plL p, dT d]) = some (.ref nA, hA) := eA
      refine ⟨_, rfl, _, rfl, _, rfl, _, rfl, sp_keeps (cc := cc) (E := E0) hr5 (.cons (rvS r) (.cons (by rw [← pll]; exact rvI _) (.cons (rvR (n := 0) rfl) (.cons (rvR (n := 1) rfl) .nil)))) eA kkA fun η6 H6 v6 s6 S6 R6 rv6 => ?_⟩
      obtain ⟨T6, eT6, rfl⟩ := rv6
      obtain ⟨ys, hT6, rys⟩ := R6.tup gA eT6
      cases rys with
      | cons ry1 rys =>
      cases rys with
      | cons ry2 rys =>
      cases rys
      obtain rfl := (show _ = V.int _ from ry1)
      obtain ⟨Pk, ePk, rfl⟩ := ry2
      obtain ⟨ys2, hPk, rys2⟩ := R6.lst gL ePk
      rw [rv_ints rys2] at hPk
      refine ⟨T6, _, rfl, SqT.of hT6, rfl, _, _, rfl, _, _, rfl, rfl, ?_⟩
      have s36 : Same H3 H6 := (s4.trans s5).trans s6
      have hTo6 := s36 _ _ hTo
      have hTo5 := s5 _ _ (s4 _ _ hTo)
      have nTt : To ≠ t := ne_of hTo5 ht5 (by intro z; cases z)
      have nTk : To ≠ Pk := fun z => by
        have m6 : Pk ∈ η6.as := List.mem_of_getElem? ePk
        by_cases m5 : Pk ∈ ([Pl, t] : List Addr)
        · rw [← z] at m5
          rcases List.mem_cons.mp m5 with e | m5
          · exact nTP e
          · exact nTt (by simpa using m5)
        · have := S6.nw Pk m6 m5
          rw [← z, hTo5] at this
          cases this
      have hi1000 : i < 1000 := Nat.lt_of_lt_of_le (List.getElem?_eq_some_iff.mp hdi).1 hlen
      refine ⟨_, rfl, .inl ⟨rfl, _, SqL.of hTo6⟩, _, rfl, To, _, _, rfl, rfl, hTo6, ?_, ?_⟩
      · rw [List.length_map, runM_len, sizeLine_eq, List.length_take]; omega
      · have e1 := runM_snoc r d (ds.take i) (zeros wd')
        rw [← take_succ' hdi, hp] at e1
        refine ⟨To, Pk, _, _, _, rfl, fun b o e => ?_, ?_, ?_, nTk, hTo0⟩
        · rw [upd_ne (ne_of_none e hTo0)]
          exact s36 _ _ (s3 _ _ e)
        · rw [upd_same, e1, List.map_append]; rfl
        · rw [upd_ne (Ne.symm nTk), e1]; exact hPk
    · rintro σ H3 ⟨To, Pl, x5, x6, x7, rfl, s3, hTo, hPl, nTP, hTo0⟩
      have el : as.length = ds.length := ht.length
      rw [List.length_map, el, List.take_length] at hTo hPl
      obtain ⟨zb, zm, zl⟩ := zeros_ok wd'
      obtain ⟨pb, pll, pm⟩ := run_state hrr h1 h6 ds zb zl (by rw [zm]; exact hc)
      obtain ⟨hP, eP, kP⟩ := pattern_good pb (by omega) (by omega)
      refine ⟨_, rfl, _, rfl, _, rfl, sp_keeps (cc := cc) (E := E0) (HR.one hPl (ints_ro _)) (.cons (by rw [pll]; exact rvI _) (.cons (rvR (n := 0) rfl) .nil)) eP kP fun η4 H4 v4 s4 _ R4 rv4 => ⟨(show 2 ≤ sizeLine by decide), fun p hp => ?_⟩⟩
      obtain rfl := (show v4 = V.str _ from rv4)
      have s34 := s3.trans s4
      exact kq _ p To (Same.new' s34 hp) (s34.free hp) upd_same (by rw [upd_ne (ne_of_none (s4 _ _ hTo) hp)]; exact s4 _ _ hTo) hTo0
end
end CK

namespace CK
open PySem L2 PyProof.Rows
theorem boot_sumQ : bootBuiltins "sum" = some (.builtin "sum") := by decide +kernel
theorem boot_intQ : bootBuiltins "int" = some (.type "int") := by decide +kernel
/-! ### keys, halved -/
def BB : Int := 10 ^ 30
def Gp (e : Nat) (lo : Int) (l : List Int) : Prop := List.Pairwise (fun x y : Int => x + 2 ^ e ≤ y) (lo :: l)
theorem two_pos (e : Nat) : (0 : Int) < 2 ^ e := Int.pow_pos (by decide)
theorem two_s (e : Nat) : (2 : Int) ^ (e + 1) = 2 ^ e + 2 ^ e := by rw [Int.pow_succ]; omega
theorem gp_weak {e : Nat} {lo : Int} {l : List Int} (h : Gp (e + 1) lo l) : Gp e lo l := List.Pairwise.imp (fun {x y} q => by have := two_s e; have := two_pos e; omega) h
theorem gp_put (e : Nat) (B : Int) : ∀ (ks : List Int) (lo : Int) (j : Nat), Gp (e + 1) lo (ks ++ [B]) → j ≤ ks.length → ∃ low high, (lo :: ks)[j]? = some low ∧ (ks ++ [B])[j]? = some high ∧ Gp e lo ((ks.take j ++ [(low + high) / 2] ++ ks.drop j) ++ [B])
  | ks, lo, 0, h, _ => by
    obtain ⟨hd, tl, e1⟩ : ∃ hd tl, ks ++ [B] = hd :: tl := by
      cases ks with
      | nil => exact ⟨B, [], rfl⟩
      | cons a r => exact ⟨a, r ++ [B], rfl⟩
    refine ⟨lo, hd, rfl, by rw [e1]; rfl, ?_⟩
    have h1 := List.pairwise_cons.mp h
    have w := List.pairwise_cons.mp (gp_weak h)
    have hh := h1.1 hd (by rw [e1]; exact List.mem_cons_self)
    have ts := two_s e
    have tp := two_pos e
    have q1 : lo + 2 ^ e ≤ (lo + hd) / 2 := by omega
    have q2 : (lo + hd) / 2 + 2 ^ e ≤ hd := by omega
    have ge : ∀ y ∈ ks ++ [B], hd ≤ y := by
      intro y hy
      have w2 := w.2
      rw [e1] at hy w2
      rcases List.mem_cons.mp hy with q | q
      · omega
      · have := (List.pairwise_cons.mp w2).1 y q; omega
    show List.Pairwise (fun x y : Int => x + 2 ^ e ≤ y) (lo :: (lo + hd) / 2 :: (ks ++ [B]))
    refine List.pairwise_cons.mpr ⟨fun y hy => ?_, List.pairwise_cons.mpr ⟨fun y hy => ?_, w.2⟩⟩
    · rcases List.mem_cons.mp hy with q | q
      · omega
      · exact w.1 y q
    · have := ge y hy; omega
  | [], lo, j + 1, h, hj => absurd hj (by simp)
  | k :: ks, lo, j + 1, h, hj => by
    have h1 := List.pairwise_cons.mp (show List.Pairwise (fun x y : Int => x + 2 ^ (e + 1) ≤ y) (lo :: k :: (ks ++ [B])) from h)
    obtain ⟨low, high, a, b, g⟩ := gp_put e B ks k j h1.2 (by simpa using hj)
    refine ⟨low, high, by simpa using a, by simpa using b, ?_⟩
    have ts := two_s e
    have tp := two_pos e
    have hk := h1.1 k List.mem_cons_self
    have g1 := List.pairwise_cons.mp g
    show List.Pairwise (fun x y : Int => x + 2 ^ e ≤ y) (lo :: k :: ((ks.take j ++ [(low + high) / 2] ++ ks.drop j) ++ [B]))
    refine List.pairwise_cons.mpr ⟨fun y hy => ?_, g⟩
    rcases List.mem_cons.mp hy with q | q
    · omega
    · have := g1.1 y q; omega
theorem gp_take {e : Nat} {lo B : Int} {ks : List Int} (h : Gp (e + 1) lo (ks ++ [B])) (i : Nat) : Gp e lo (ks.eraseIdx i ++ [B]) :=
  List.Pairwise.sublist ((List.Sublist.append (List.eraseIdx_sublist ks i) (List.Sublist.refl [B])).cons_cons lo) (gp_weak h)
theorem gp_sorted {e : Nat} {lo B : Int} {ks : List Int} (h : Gp e lo (ks ++ [B])) : ks.Pairwise (· < ·) := by
  have h1 := (List.pairwise_append.mp (List.pairwise_cons.mp h).2).1
  exact h1.imp fun {x y} q => by have := two_pos e; omega
theorem ins_at {x : Int} : ∀ {ks : List Int} {j : Nat}, j ≤ ks.length → (ks.take j ++ [x] ++ ks.drop j)[j]? = some x ∧ (ks.take j ++ [x] ++ ks.drop j).eraseIdx j = ks ∧ (ks.take j ++ [x] ++ ks.drop j).length = ks.length + 1
  | ks, 0, _ => ⟨rfl, rfl, rfl⟩
  | [], j + 1, h => absurd h (by simp)
  | k :: ks, j + 1, h => by
    obtain ⟨a, b, c⟩ := ins_at (x := x) (ks := ks) (j := j) (by simpa using h)
    refine ⟨by simpa using a, ?_, by simpa using c⟩
    show k :: (ks.take j ++ [x] ++ ks.drop j).eraseIdx j = k :: ks
    rw [b]
theorem seq_at {n j : Nat} (h : j < n) : seqIndex? (j : Int) n = some j := by
  unfold seqIndex?
  simp
  omega
/-! ### texts -/
theorem bit_cases {x : Nat} {r : List Nat} (h : isBits (x :: r) = true) : (x = 48 ∨ x = 49) ∧ isBits r = true := by
  unfold isBits at h
  split at h
  · rename_i e; cases e
  · rename_i e; cases e; exact ⟨.inl rfl, h⟩
  · rename_i e; cases e; exact ⟨.inr rfl, h⟩
  · cases h
theorem empty_Tx : ("" : Str) = Tx [] := by decide +kernel
theorem ones_join : ∀ p : List Nat, TL.joinL [] (p.map fun c => [c]) = p
  | [] => rfl
  | [c] => rfl
  | c :: d :: r => by
    show [c] ++ ([] ++ TL.joinL [] ((d :: r).map fun c => [c])) = _
    rw [ones_join (d :: r)]
    rfl
theorem join_bits (p : List Nat) : Txt.join "" (p.map fun c => Tx [c]) = Tx p := by
  have e : (p.map fun c => Tx [c]) = (p.map fun c => [c]).map Tx := by rw [List.map_map]; rfl
  rw [e, empty_Tx, join_Tx, ones_join]
theorem ones_len : ∀ p : List Nat, ((p.map fun c => Tx [c]).map (·.length)).sum = p.length
  | [] => rfl
  | c :: r => by
    rw [List.map_cons, List.map_cons, List.sum_cons, ones_len r, List.length_cons]
    show 1 + _ = _
    omega
theorem isBits_snoc : ∀ {p : List Nat} {c : Nat}, isBits p = true → (c = 48 ∨ c = 49) → isBits (p ++ [c]) = true
  | [], c, _, hc => by rcases hc with rfl | rfl <;> rfl
  | x :: r, c, h, hc => by
    obtain ⟨hx, hr⟩ := bit_cases h
    have ih := isBits_snoc hr hc
    rcases hx with rfl | rfl
    · exact ih
    · exact ih
/-- a thing's sign -/
def sgn (v : V) : Nat := if v = .non then 48 else 49
theorem row_sgn : ∀ {p : List Nat} {ks : List Int}, isBits p = true → ks.length = many p → (rowV p ks).map sgn = p
  | [], _, _, _ => rfl
  | 48 :: p, ks, hb, hk => by
    show (fill V.non (48 :: p) (ks.map V.int)).map sgn = _
    rw [fill_no (by decide)]
    show sgn .non :: (rowV p ks).map sgn = _
    rw [row_sgn (p := p) hb (by simpa [many] using hk)]
    rfl
  | 49 :: p, [], _, hk => by
    have hk : 0 = many p + 1 := hk
    omega
  | 49 :: p, k :: ks, hb, hk => by
    have hk : ks.length + 1 = many p + 1 := hk
    show sgn (.int k) :: (rowV p ks).map sgn = _
    rw [row_sgn (p := p) hb (by omega)]
    rfl
theorem cut_take {α : Type} (as : List α) (f : α → V) (i : Nat) : cutV (as.map f) none (some ((i : Int) + 1)) = (as.take (i + 1)).map f := by
  unfold cutV
  rw [HT.sIx_none, show ((i : Int) + 1) = ((i + 1 : Nat) : Int) by omega, HT.sIx_nat, List.drop_zero, Nat.sub_zero, List.map_take]
  by_cases h : i + 1 ≤ (as.map f).length
  · rw [Nat.min_eq_left h]
  · rw [Nat.min_eq_right (by omega), List.take_length, List.take_of_length_le (by omega)]
theorem pd_take {α β : Type} {F : α → β → Prop} : ∀ {xs : List α} {ys : List β}, Paired F xs ys → ∀ n, Paired F (xs.take n) (ys.take n)
  | _, _, .nil, n => by rw [List.take_nil, List.take_nil]; exact .nil
  | _, _, .cons a r, 0 => .nil
  | _, _, .cons a r, n + 1 => .cons a (pd_take r n)
theorem cnt_upto {w n m : Nat} {ds : List Deed} (h : cnt w n ds = some m) {i : Nat} (hi : i ≤ ds.length) : ∃ k, cnt w n (ds.take i) = some k := by
  by_cases c : i < ds.length
  · obtain ⟨k, _, a, _⟩ := cnt_take h (List.getElem?_eq_getElem c)
    exact ⟨k, a⟩
  · rw [List.take_of_length_le (by omega)]
    exact ⟨m, h⟩
/-! ### the law's state -/
structure Fx where
  r : List Nat
  n : Nat
  DL : Addr
  KL : Addr
  a : Addr
  b : Addr
  as : List Addr
  ds : List Deed
  m : Nat
structure FxOk (z : Fx) : Prop where
  rr : z.r ∈ rules
  n1 : 1 ≤ z.n
  n6 : z.n ≤ 6
  cn : cnt z.n 0 z.ds = some z.m
  le : z.ds.length ≤ 40
def Pt (z : Fx) (i : Nat) : List Nat := (runM z.r (zeros z.n) (z.ds.take i)).2
def Tt (z : Fx) (i : Nat) : Int := (runM z.r (zeros z.n) (z.ds.take i)).1.sum
structure Inv9 (C : Addr) (z : Fx) (i : Nat) (c : Addr) (ks : List Int) (H : Hp) : Prop where
  sh : Sh C H z.a z.b c z.r (Pt z i) ks (Tt z i)
  kl : H z.KL = some (.lst (ks.map V.int))
  dl : H z.DL = some (.lst (z.as.map V.ref))
  tu : Tups H z.as z.ds
  kn : ks.length = many (Pt z i)
  gp : Gp (99 - i) 0 (ks ++ [BB])
  nd : [z.KL, z.DL, z.a, z.b, c].Nodup
abbrev SL (z : Fx) (t : Int) (x0 x1 x2 x4 x5 x6 x7 x8 x9 x11 x12 x17 x18 x19 x20 x21 x22 x23 : Option V) : L2.St := [x0, x1, x2, some (.int z.n), x4, x5, x6, x7, x8, x9, some (.str (Tx z.r)), x11, x12, some (.ref z.DL), some (.ref z.a), some (.ref z.KL), some (.int t), x17, x18, x19, x20, x21, x22, x23]
def StX (C : Addr) (z : Fx) (i : Nat) (f : Option V → Option V → Option V → Prop) (σ : L2.St) (H : Hp) : Prop := ∃ c ks x0 x1 x2 x4 x5 x6 x7 x8 x9 x11 x12 x17 x18 x19 x20 x21 x22 x23, σ = SL z (Tt z i) x0 x1 x2 x4 x5 x6 x7 x8 x9 x11 x12 x17 x18 x19 x20 x21 x22 x23 ∧ Inv9 C z i c ks H ∧ f x17 x18 x19
def tDeed (C : Addr) (b : Bool) : L2.TS := fun D σ H => ∃ z i j, FxOk z ∧ z.ds[i]? = some (b, j) ∧ StX C z i (fun x17 x18 x19 => x17 = some (.int (i : Nat)) ∧ x18 = some (.str (wd b)) ∧ x19 = some (.int (j : Nat))) σ H ∧ ∀ σ' H', StX C z (i + 1) (fun x17 _ _ => x17 = some (.int (i : Nat))) σ' H' → D.nx σ' H'
def tShow (C : Addr) : L2.TS := fun D σ H => ∃ z i, FxOk z ∧ i < z.ds.length ∧ StX C z (i + 1) (fun x17 _ _ => x17 = some (.int (i : Nat))) σ H ∧ ∀ σ' H', StX C z (i + 1) (fun _ _ _ => True) σ' H' → D.nx σ' H'
def StO (dd : Addr) (σ : L2.St) (H : Hp) : Prop := σ.length = 24 ∧ σ[1]? = some (some (.ref dd)) ∧ DiceAt H dd
def tFirst (C : Addr) : L2.TS := fun D σ H => ∃ dd p, isBits p = true ∧ 1 ≤ p.length ∧ p.length ≤ 6 ∧ StO dd σ H ∧ σ[3]? = some (some (.int p.length)) ∧ σ[4]? = some (some (.str (Tx p))) ∧ ∀ σ' H', StO dd σ' H' → D.nx σ' H'
theorem st24 {σ : L2.St} (h : σ.length = 24) : ∃ x0 x1 x2 x3 x4 x5 x6 x7 x8 x9 x10 x11 x12 x13 x14 x15 x16 x17 x18 x19 x20 x21 x22 x23, σ = [x0, x1, x2, x3, x4, x5, x6, x7, x8, x9, x10, x11, x12, x13, x14, x15, x16, x17, x18, x19, x20, x21, x22, x23] := by
  match σ, h with
  | [x0, x1, x2, x3, x4, x5, x6, x7, x8, x9, x10, x11, x12, x13, x14, x15, x16, x17, x18, x19, x20, x21, x22, x23], _ => exact ⟨_, _, _, _, _, _, _, _, _, _, _, _, _, _, _, _, _, _, _, _, _, _, _, _, rfl⟩
section
variable {C : Addr} {z : Fx} {i : Nat} {c : Addr} {ks : List Int} {H H' : Hp}
theorem nbc_of (h : Inv9 C z i c ks H) : z.b ≠ c := by
  have := h.nd
  simp at this
  exact this.2.2.2
theorem Inv9.same (h : Inv9 C z i c ks H) (e : Same H H') : Inv9 C z i c ks H' :=
  ⟨h.sh.frm fun x _ o q => e x o q, e _ _ h.kl, e _ _ h.dl, h.tu.mono (TS.same e), h.kn, h.gp, h.nd⟩
/-- a tuple is none of the shelf's objects -/
theorem tup_off (h : Inv9 C z i c ks H) {t : Addr} {xs : List V} (e : H t = some (.tup xs)) : t ∉ [z.a, z.b, c] := by
  intro m
  obtain ⟨dx, ho⟩ := h.sh.o
  simp at m
  rcases m with q | q | q
  · rw [← q, e] at ho; cases ho
  · have := h.sh.k; rw [← q, e] at this; cases this
  · have := h.sh.p; rw [← q, e] at this; cases this
theorem Inv9.keep (h : Inv9 C z i c ks H) (fr : Frm [z.a, z.b, c] H H') (sh : Sh C H' z.a z.b c z.r (Pt z i) ks (Tt z i)) : Inv9 C z i c ks H' := by
  have nd := h.nd
  simp at nd
  exact ⟨sh, fr _ _ (by simp; exact nd.1.2) h.kl, fr _ _ (by simp; exact nd.2.1) h.dl, h.tu.mono fun t xs e => fr t _ (tup_off h e) e, h.kn, h.gp, h.nd⟩
theorem pt_ok (ok : FxOk z) {d : Deed} (hd : z.ds[i]? = some d) : ∃ k, isBits (Pt z i) = true ∧ (Pt z i).length = z.n ∧ step1 (Pt z i).length (many (Pt z i)) d = some k := by
  obtain ⟨k, k', hk, hk'⟩ := cnt_take ok.cn hd
  obtain ⟨zb, zm, zl⟩ := zeros_ok z.n
  obtain ⟨pb, pll, pm⟩ := run_state ok.rr ok.n1 ok.n6 (z.ds.take i) zb zl (by rw [zm]; exact hk)
  exact ⟨k', pb, pll, by unfold Pt; rw [pll, pm]; exact hk'⟩
theorem pt_all (ok : FxOk z) (hi : i ≤ z.ds.length) : isBits (Pt z i) = true ∧ (Pt z i).length = z.n := by
  by_cases h : i < z.ds.length
  · obtain ⟨k, a, b, _⟩ := pt_ok ok (List.getElem?_eq_getElem h)
    exact ⟨a, b⟩
  · have e : i = z.ds.length := by omega
    obtain ⟨zb, zm, zl⟩ := zeros_ok z.n
    obtain ⟨pb, pll, pm⟩ := run_state ok.rr ok.n1 ok.n6 z.ds zb zl (by rw [zm]; exact ok.cn)
    unfold Pt
    rw [e, List.take_length]
    exact ⟨pb, pll⟩
theorem sum_app (l : List Int) (m : Int) : (l ++ [m]).sum = l.sum + m := by
  induction l with
  | nil => simp
  | cons a r ih => simp only [List.cons_append, List.sum_cons, ih]; omega
theorem pt_s {d : Deed} (hd : z.ds[i]? = some d) : Pt z (i + 1) = (stepM z.r (Pt z i) d).2 ∧ Tt z (i + 1) = Tt z i + (stepM z.r (Pt z i) d).1 := by
  unfold Pt Tt
  rw [take_succ' hd, runM_snoc]
  exact ⟨rfl, sum_app _ _⟩
end
section
variable {P : Program} {w : World} {K : PySem.W.Frag} {mg : Str → Option Value} {base : Heap} {C : Addr}
abbrev s_law : Stmt := top 35
theorem sc_law : FnScope ["_law_script", "_law_d", "_law_turn", "_law_wide", "_law_pattern", "_law_at", "_law_deed", "_law_near", "_law_left", "_law_even", "_law_rule_here", "_law_many", "_law_told", "_law_deeds_here", "_law_shelf", "_law_keys", "_law_total", "_law_number", "_law_word", "_law_rank", "_law_low", "_law_high", "_law_moves", "_law_key"] ["_law_script"] (defScope s_law) := ⟨rfl, rfl, rfl, by decide +kernel, rfl, by decide +kernel, by decide +kernel⟩
def spLaw (K : PySem.W.Frag) : Sp := fun vs H Q _ => ∃ (a : Addr) (ns : List Int), vs = [.ref a] ∧ SqL K H a (ns.map V.int) ∧ ns.length ≤ 63 ∧ ∀ H', Q (.bl true) H'
theorem ok_law {f : Addr} {fd : FuncData} (F : Fun K "law" "law" s_law f fd) (T : Txt K mg (fun _ => C)) (OD : OwnS P w K mg base 1 "_law_dice" ["_law_script", "_law_k"] (spDice K)) (OO : OwnS P w K mg base 1 "_law_off" ["_law_d", "_law_most"] spDraw) (OU : OwnS P w K mg base 2 "_law_rule" ["_law_d"] spRuleT)
    (ON : OwnS P w K mg base 2 "_law_drawn" ["_law_d", "_law_wide", "_law_most"] spDrawn) (OY : OwnS P w K mg base 4 "played" ["rule", "wide", "deeds"] spPlayed)
    (O_done : Own P w K mg base (fun _ => C) 4 "done" ["rule", "pattern", "deed"] c_done) (O__law_deeds : Own P w K mg base (fun _ => C) 1 "_law_deeds" ["_law_pattern"] c__law_deeds)
    (MI : MkS P w K mg base 2 C "Shelf" ["self", "rule", "wide"] (spOf (fun _ => C) c_Shelf___init__)) (MP : MethS P w K mg base 4 C "put_in" ["self", "key"] (spOf (fun _ => C) c_Shelf_put_in)) (MT : MethS P w K mg base 1 C "take_out" ["self", "key"] (spOf (fun _ => C) c_Shelf_take_out))
    (MS : MethS P w K mg base 1 C "standing" ["self"] (spOf (fun _ => C) c_Shelf_standing)) : FnOk P w K mg base CX0 5 f fd ["_law_script"] (spLaw K) := by
  refine F.ok sc_law (fun vs H Q E h => ?_) (fun cdv A outer s H vs Q E hr h => ?_)
  · obtain ⟨a, ns, rfl, _⟩ := h
    rfl
  · obtain ⟨a0, ns, rfl, hS, hlen, kq⟩ := h
    have nd := sc_law.nd
    have r1 : Room 1 _ := hr.mono (by decide)
    have r2 : Room 2 _ := hr.mono (by decide)
    obtain ⟨fI, fdI, FI, M, bI, hC⟩ := MI.ex
    obtain ⟨fP, fdP, FP, mP, bP⟩ := MP.ex
    obtain ⟨fT, fdT, FT, mT, bT⟩ := MT.ex
    obtain ⟨fS, fdS, FS, mS, bS⟩ := MS.ex
    refine ⟨_, (pss_cons (ps_set (i := 1) nd rfl (by first | exact Or.inl rfl | exact Or.inr rfl) (pe_own OD r1 (pa_cons (pv 0) (pa_cons pe_int pa_nil))))
      (pss_cons (ps_for PassesOwn.never rfl (pi_range1 (by rfl) T.n_range (pa_cons pe_int pa_nil)) (pg_name (i := 2) nd rfl (by first | exact Or.inl rfl | exact Or.inr rfl))
      (pss_cons (ps_set (i := 3) nd rfl (by first | exact Or.inl rfl | exact Or.inr rfl) (pe_op op_add pe_int (pe_own OO r1 (pa_cons (pv 1) (pa_cons pe_int pa_nil)))))
      (pss_cons (ps_set (i := 4) nd rfl (by first | exact Or.inl rfl | exact Or.inr rfl) (pe_bm PySem.F.plainAttrs_str PySem.F.slot_str_join PySem.F.type_str_join mt_join pe_str (pa_cons (pe_lc (own := [("_law_at", 5)]) (g := gName 5) (tt := tYes) rfl nd (pi_range1 (by rfl) T.n_range (pa_cons (pv 3) pa_nil)) (blkOk_by (N := ["_law_script", "_law_d", "_law_turn", "_law_wide", "_law_pattern", "_law_at", "_law_deed", "_law_near", "_law_left", "_law_even", "_law_rule_here", "_law_many", "_law_told", "_law_deeds_here", "_law_shelf", "_law_keys", "_law_total", "_law_number", "_law_word", "_law_rank", "_law_low", "_law_high", "_law_moves", "_law_key"]) (sc := defScope s_law) (by decide +kernel)) (fun _ _ _ _ _ => pg_name (i := 5) nd rfl (Or.inl rfl)) (fun _ _ _ _ _ => pts_nil) (fun _ _ _ _ _ => (pe_ix (r := rIxS) (by exact ix_str) pe_str (pe_own OO r1 (pa_cons (pv 1) (pa_cons pe_int pa_nil))) (fun _ _ => rfl)))) pa_nil)))
      (pss_one (ps_imp (t' := tFirst C) (ks_for 200 PassesOwn.never rfl (ki_list (ke_own O__law_deeds (hr.mono (by decide)) (ka_cons (kv 4) ka_nil))) (kg_name (i := 6) nd rfl (by first | exact Or.inl rfl | exact Or.inr rfl)) (kss_cons (ks_asg (ke_lc (cc := fun _ => C) (own := [("_law_rule_here", 10)]) 200 (.nm 10) rfl nd (ki_list (ke_lst (ka_cons (ke_str [110, 101, 97, 114] (by decide +kernel)) (ka_cons (ke_str [108, 101, 102, 116] (by decide +kernel)) (ka_cons (ke_str [101, 118, 101, 110] (by decide +kernel)) ka_nil))))) (blkOk_by (N := ["_law_script", "_law_d", "_law_turn", "_law_wide", "_law_pattern", "_law_at", "_law_deed", "_law_near", "_law_left", "_law_even", "_law_rule_here", "_law_many", "_law_told", "_law_deeds_here", "_law_shelf", "_law_keys", "_law_total", "_law_number", "_law_word", "_law_rank", "_law_low", "_law_high", "_law_moves", "_law_key"]) (sc := defScope s_law) (by decide +kernel)) (fun _ _ _ _ _ => pg_name (i := 10) nd rfl (Or.inl rfl)) (fun _ _ _ _ _ => kts_nil) (fun _ _ _ _ _ => (ke_own O_done (hr.mono (by decide)) (ka_cons (kv 10) (ka_cons (kv 4) (ka_cons (kv 6) ka_nil)))))) (kg_unl rfl (kgs_cons (kg_name (i := 7) nd rfl (by first | exact Or.inl rfl | exact Or.inr rfl)) (kgs_cons (kg_name (i := 8) nd rfl (by first | exact Or.inl rfl | exact Or.inr rfl)) (kgs_cons (kg_name (i := 9) nd rfl (by first | exact Or.inl rfl | exact Or.inr rfl)) kgs_nil)))))
    (kss_cons (ks_set (i := 11) nd rfl (by first | exact Or.inl rfl | exact Or.inr rfl) (ke_count (kv 4) (ka_cons (ke_str [49] (by decide +kernel)) ka_nil)))
    (kss_cons (ks_if (PW.pt (kw_or (kt_gt (ke_ix (kv 7) ke_int) (ke_ix (kv 8) ke_int)) (kw_or1 (kt_gt (ke_max3 rfl rfl T.n_max (ka_cons (ke_ix (kv 7) ke_int) (ka_cons (ke_ix (kv 8) ke_int) (ka_cons (ke_ix (kv 9) ke_int) ka_nil)))) (kv 11))))) (kss_one (ks_ret ke_bl)) kss_nil)
    (kss_cons (ks_for 200 PassesOwn.never rfl (ki_list (ke_lst (ka_cons (kv 7) (ka_cons (kv 8) (ka_cons (kv 9) ka_nil))))) (kg_name (i := 12) nd rfl (by first | exact Or.inl rfl | exact Or.inr rfl)) (kss_one (ks_if (kt_ne (ke_count (ke_ix (kv 12) ke_int) (ka_cons (ke_str [49] (by decide +kernel)) ka_nil)) (ke_add (kv 11) (ke_ix (ke_lst (ka_cons ke_int (ka_cons (ke_neg ke_int) ka_nil))) (ke_intOf rfl T.n_int (ka_cons (ke_eq (ke_ix (kv 6) ke_int) (ke_str [116, 97, 107, 101] (by decide +kernel))) ka_nil))))) (kss_one (ks_ret ke_bl)) kss_nil)))
    (kss_one (ks_for 200 PassesOwn.never rfl (ki_list (ke_lst (ka_cons (kv 7) (ka_cons (kv 8) ka_nil)))) (kg_name (i := 12) nd rfl (by first | exact Or.inl rfl | exact Or.inr rfl)) (kss_one (ks_if (kt_ne (ke_len rfl T.n_len (ka_cons (ke_lc (cc := fun _ => C) (own := [("_law_at", 5)]) 200 (.nm 5) rfl nd (ki_range1 rfl T.n_range (ka_cons (kv 3) ka_nil)) (blkOk_by (N := ["_law_script", "_law_d", "_law_turn", "_law_wide", "_law_pattern", "_law_at", "_law_deed", "_law_near", "_law_left", "_law_even", "_law_rule_here", "_law_many", "_law_told", "_law_deeds_here", "_law_shelf", "_law_keys", "_law_total", "_law_number", "_law_word", "_law_rank", "_law_low", "_law_high", "_law_moves", "_law_key"]) (sc := defScope s_law) (by decide +kernel)) (fun _ _ _ _ _ => pg_name (i := 5) nd rfl (Or.inl rfl)) (fun _ _ _ _ _ => kts_one (kt_ne (ke_ix (ke_ix (kv 12) ke_int) (kv 5)) (ke_ix (kv 4) (kv 5)))) (fun _ _ _ _ _ => (kv 5))) ka_nil)) ke_int) (kss_one (ks_ret ke_bl)) kss_nil))))))))) ?b0)))))
      (pss_cons (ps_par (i := 10) (j := 3) rfl nd rfl rfl (by decide) rfl rfl (pa_cons (pe_own OU r2 (pa_cons (pv 1) pa_nil)) (pa_cons (pe_op op_add pe_int (pe_own OO r1 (pa_cons (pv 1) (pa_cons pe_int pa_nil)))) pa_nil)) rfl)
      (pss_cons (ps_set (i := 13) nd rfl (by first | exact Or.inl rfl | exact Or.inr rfl) (pe_own ON r2 (pa_cons (pv 1) (pa_cons (pv 3) (pa_cons pe_int pa_nil)))))
      (pss_cons (ps_set (i := 14) nd rfl (by first | exact Or.inl rfl | exact Or.inr rfl) (pe_make M FI (hr.mono (by decide)) (by rfl) hC bI .nil pass0 (pa_cons (pv 10) (pa_cons (pv 3) pa_nil))))
      (pss_cons (ps_set (i := 15) nd rfl (by first | exact Or.inl rfl | exact Or.inr rfl) (pe_lst pa_nil))
      (pss_cons (ps_set (i := 16) nd rfl (by first | exact Or.inl rfl | exact Or.inr rfl) pe_int)
      (pss_cons (ps_for PassesOwn.never rfl (pi_range1 (by rfl) T.n_range (pa_cons (pe_callB call_len_seq (by rfl) T.n_len boot_len (pa_cons (pv 13) pa_nil)) pa_nil)) (pg_name (i := 17) nd rfl (by first | exact Or.inl rfl | exact Or.inr rfl))
      (pss_cons (ps_asg (pe_ix (r := rIxL K) ix_list (pv 13) (pv 17) (fun _ _ => rfl)) (pg_tup rfl (pgs_cons (pg_name (i := 18) nd rfl (by first | exact Or.inl rfl | exact Or.inr rfl)) (pgs_cons (pg_name (i := 19) nd rfl (by first | exact Or.inl rfl | exact Or.inr rfl)) pgs_nil))))
   (pss_cons (ps_if (pt_cmpR op_eq (pv 18) pe_str (nomark _)) (pss_imp (t' := tDeed C false) (pss_one (ps_expr (pe_meth (pv 14) T.cl mT FT (hr.mono (by decide)) bT .nil pass0 (pa_cons (pe_bm PySem.F.plainAttrs_list PySem.F.slot_list_pop PySem.F.type_list_pop mt_popAt (pv 15) (pa_cons (pv 19) pa_nil)) pa_nil)))) ?th) (pss_imp (t' := tDeed C true) (pss_cons (ps_set (i := 20) nd rfl (by first | exact Or.inl rfl | exact Or.inr rfl) (pe_ix (r := rIxL K) ix_list (pe_op op_cat (pe_lst (pa_cons pe_int pa_nil)) (pv 15)) (pv 19) (fun _ _ => rfl)))
      (pss_cons (ps_set (i := 21) nd rfl (by first | exact Or.inl rfl | exact Or.inr rfl) (pe_ix (r := rIxL K) ix_list (pe_op op_cat (pv 15) (pe_lst (pa_cons (pe_op op_pow pe_int pe_int) pa_nil))) (pv 19) (fun _ _ => rfl)))
      (pss_cons (ps_expr (pe_bm PySem.F.plainAttrs_list PySem.F.slot_list_insert PySem.F.type_list_insert mt_insert (pv 15) (pa_cons (pv 19) (pa_cons (pe_op op_fdiv (pe_op op_add (pv 20) (pv 21)) pe_int) pa_nil))))
      (pss_one (ps_set (i := 16) nd rfl (by first | exact Or.inl rfl | exact Or.inr rfl) (pe_op op_add (pv 16) (pe_meth (pv 14) T.cl mP FP (hr.mono (by decide)) bP .nil pass0 (pa_cons (pe_ix (r := rIxL K) ix_list (pv 15) (pv 19) (fun _ _ => rfl)) pa_nil)))))))) ?el))
   (pss_imp (t' := tShow C) (pss_cons (ps_asg (pe_own OY (hr.mono (by decide)) (pa_cons (pv 10) (pa_cons (pv 3) (pa_cons (pe_slice sl_list (pv 13) po_none (po_some (pe_op op_add (pv 17) pe_int))) pa_nil)))) (pg_tup rfl (pgs_cons (pg_name (i := 22) nd rfl (by first | exact Or.inl rfl | exact Or.inr rfl)) (pgs_cons (pg_name (i := 4) nd rfl (by first | exact Or.inl rfl | exact Or.inr rfl)) pgs_nil)))) (pss_one (ps_if (PW.pt (pw_or (pt_cmpR op_ne (pe_bm PySem.F.plainAttrs_str PySem.F.slot_str_join PySem.F.type_str_join mt_join pe_str (pa_cons (pe_lc (own := [("_law_key", 23)]) (g := gName 23) (tt := tYes) rfl nd (pi_list (pe_meth0 (pv 14) T.cl mS FS (hr.mono (by decide)) bS .nil pass0)) (blkOk_by (N := ["_law_script", "_law_d", "_law_turn", "_law_wide", "_law_pattern", "_law_at", "_law_deed", "_law_near", "_law_left", "_law_even", "_law_rule_here", "_law_many", "_law_told", "_law_deeds_here", "_law_shelf", "_law_keys", "_law_total", "_law_number", "_law_word", "_law_rank", "_law_low", "_law_high", "_law_moves", "_law_key"]) (sc := defScope s_law) (by decide +kernel)) (fun _ _ _ _ _ => pg_name (i := 23) nd rfl (Or.inl rfl)) (fun _ _ _ _ _ => pts_nil) (fun _ _ _ _ _ => (pe_ix (r := rIxS) (by exact ix_str) pe_str (pe_callTy call_int1 (by rfl) T.n_int boot_intQ (pa_cons (pe_cmpR op_notN (pv 23) pe_non (nomark _)) pa_nil)) (fun _ _ => rfl)))) pa_nil)) (pv 4) (nomark _)) (pw_or1 (pt_cmpR op_ne (pe_callB (cr_sum (by rfl)) (by rfl) T.n_sum boot_sumQ (pa_cons (pv 22) pa_nil)) (pv 16) (nomark _))))) (pss_one ps_never) pss_nil))) ?b4))))
      (pss_one (ps_ret pe_bl)))))))))), ?main⟩
    case main =>
      refine ⟨_, rfl, a0, ns, 0, rfl, hS, hlen, fun H1 dd s1 hdd0 hd1 => ?_⟩
      refine ⟨4, rfl, by decide, by decide, for_range (lo := 0) (n := 4) (fun i σ H' => StO dd σ H') ⟨rfl, rfl, hd1⟩ ?_ ?_⟩
      · rintro i σ H2 hi ⟨hl, h1, hd2⟩
        obtain ⟨x0, x1, x2, x3, x4, x5, x6, x7, x8, x9, x10, x11, x12, x13, x14, x15, x16, x17, x18, x19, x20, x21, x22, x23, rfl⟩ := st24 hl
        cases (show x1 = some (V.ref dd) from Option.some.inj h1)
        refine ⟨_, rfl, dd, 6, rfl, by decide, by decide, hd2, fun q H3 q0 q6 hd3 hb3 => ⟨_, _, rfl, rfl, ?_⟩⟩
        obtain ⟨j, rfl⟩ : ∃ j : Nat, q = (j : Int) := ⟨q.toNat, by omega⟩
        refine ⟨rfl, _, rfl, 1 + (j : Int), rfl, by omega, by omega, fun D hD => ?_⟩
        have nD : dd ≠ D := by obtain ⟨_, _, e⟩ := hd3; exact ne_of_none e hD
        refine lc_range (lo := 0) (n := (1 + (j : Int)).toNat) (g := gName 5) (fun i H' => DiceAt H' dd ∧ ∃ p, isBits p = true ∧ p.length = i ∧ H' D = some (.lst (p.map fun c => V.str (Tx [c])))) ⟨?_, [], rfl, rfl, upd_same⟩ ?_ ?_
        · obtain ⟨ms, hm, e⟩ := hd3
          exact ⟨ms, hm, by rw [upd_ne nD]; exact e⟩
        · rintro i H4 hi4 ⟨hd4, p, pb, pl', hD4⟩
          refine ⟨rfl, yes_rd ?_⟩
          refine ⟨_, rfl, dd, 2, rfl, by decide, by decide, hd4, fun z H5 z0 z2 hd5 hb5 => ?_⟩
          have hD5 := hb5 D _ (Ne.symm nD) hD4
          obtain ⟨c, hc, ec⟩ : ∃ c : Nat, (c = 48 ∨ c = 49) ∧ atI ("01" : Str).cps.toList z = some c := by
            have : z = 0 ∨ z = 1 := by omega
            rcases this with rfl | rfl
            · exact ⟨48, .inl rfl, by decide +kernel⟩
            · exact ⟨49, .inr rfl, by decide +kernel⟩
          refine ⟨_, _, c, rfl, rfl, (show ("01" : Str).length ≤ sizeLine by decide +kernel), ec, _, hD5, ?_, ?_, p ++ [c], isBits_snoc pb hc, by rw [List.length_append, pl']; rfl, ?_⟩
          · rw [List.length_map, sizeLine_eq]; omega
          · obtain ⟨ms, hm, e⟩ := hd5
            exact ⟨ms, hm, by rw [upd_ne nD]; exact e⟩
          · rw [upd_same, List.map_append]; rfl
        · rintro H4 ⟨hd4, p, pb, pl', hD4⟩
          have hD4' : H4 D = some (.lst ((p.map fun c => Tx [c]).map V.str)) := by rw [hD4, List.map_map]; rfl
          refine ⟨"", D, p.map fun c => Tx [c], rfl, rfl, .inl (SqL.of hD4'), ?_, ?_⟩
          · rw [ones_len, List.length_map]
            show p.length + p.length * 0 ≤ 16777216
            omega
          · rw [join_bits]
            have en : 1 + (j : Int) = (p.length : Int) := by omega
            exact ⟨dd, p, pb, by omega, by omega, ⟨rfl, rfl, hd4⟩, congrArg (fun u => some (some (V.int u))) en, rfl, fun σ' H' q => q⟩
      · rintro σ H2 ⟨hl, h1, hd2⟩
        obtain ⟨x0, x1, x2, x3, x4, x5, x6, x7, x8, x9, x10, x11, x12, x13, x14, x15, x16, x17, x18, x19, x20, x21, x22, x23, rfl⟩ := st24 hl
        cases (show x1 = some (V.ref dd) from Option.some.inj h1)
        refine ⟨_, rfl, dd, rfl, hd2, fun r H3 hrr hd3 hb3 => ?_⟩
        refine ⟨_, rfl, dd, 6, rfl, by decide, by decide, hd3, fun q H4 q0 q6 hd4 hb4 => ?_⟩
        obtain ⟨wn, hw, hw1, hw6⟩ : ∃ wn : Nat, (1 + q : Int) = (wn : Int) ∧ 1 ≤ wn ∧ wn ≤ 6 := ⟨(1 + q).toNat, by omega, by omega, by omega⟩
        refine ⟨_, _, rfl, rfl, _, _, rfl, ?_⟩
        refine ⟨_, rfl, _, rfl, dd, wn, 40, congrArg (fun u => [V.ref dd, V.int u, V.int 40]) hw, hw1, hw6, by decide, hd4, fun H5 DL ds as m hd5 hb5 hDLn nDL hc hDL ht hle => ?_⟩
        refine ⟨_, rfl, _, rfl, fun x dx hx hdx ndx => ?_⟩
        have e5 : (upd (upd H5 dx (.own x)) x (.ins C dx [])) x = some (.ins C dx []) := upd_same
        have f5 : ∀ y o, y ≠ x → y ≠ dx → H5 y = some o → (upd (upd H5 dx (.own x)) x (.ins C dx [])) y = some o := fun y o n1 n2 e => by rw [upd_ne n1, upd_ne n2]; exact e
        generalize upd (upd H5 dx (.own x)) x (.ins C dx []) = H6 at *
        refine make_call (E := E0) hw hrr hw1 hw6 e5 fun H7 b c sh7 hb7 hc7 nbc fr7 => ⟨rfl, ?_⟩
        refine ⟨(show 0 ≤ sizeLine by decide), fun KL hKL => ?_⟩
        have o7 : ∀ y o, H5 y = some o → H7 y = some o := fun y o e => fr7 y o (by simp; exact ne_of_none e hx) (f5 y o (ne_of_none e hx) (ne_of_none e hdx) e)
        have n6 : ∀ y, H6 y = none → H5 y = none := fun y e => none_of (fun o z => f5 y o (ne_of_none z hx) (ne_of_none z hdx) z) e
        obtain ⟨dx7, ho7⟩ := sh7.o
        have nxb : x ≠ b := fun z => by have := sh7.k; rw [← z, ho7] at this; cases this
        have nxc : x ≠ c := fun z => by have := sh7.p; rw [← z, ho7] at this; cases this
        have ok : FxOk ⟨r, wn, DL, KL, x, b, as, ds, m⟩ := ⟨hrr, hw1, hw6, hc, hle⟩
        have hDL7 := o7 _ _ hDL
        have I : Inv9 C ⟨r, wn, DL, KL, x, b, as, ds, m⟩ 0 c [] (upd H7 KL (.lst [])) := by
          refine ⟨sh7.frm fun y hy o e => upd_keep hKL e, upd_same, upd_keep hKL hDL7, ht.mono fun t xs e => upd_keep hKL (o7 _ _ e), (zeros_ok wn).2.1.symm, ?_, ?_⟩
          · exact List.pairwise_cons.mpr ⟨fun y hy => by
              cases (show y = BB by simpa using hy)
              decide +kernel, List.pairwise_singleton _ _⟩
          · have d1 : KL ≠ DL := (ne_of_none hDL7 hKL).symm
            have d2 : KL ≠ x := (ne_of_none ho7 hKL).symm
            have d3 : KL ≠ b := (ne_of_none sh7.k hKL).symm
            have d4 : KL ≠ c := (ne_of_none sh7.p hKL).symm
            have i1 := ne_of_none hDL hx
            have i2 : DL ≠ b := ne_of_none hDL (n6 _ hb7)
            have i3 : DL ≠ c := ne_of_none hDL (n6 _ hc7)
            simp [d1, d2, d3, d4, i1, i2, i3, nxb, nxc, nbc]
        generalize upd H7 KL (.lst []) = H8 at *
        have el : as.length = ds.length := I.tu.length
        refine ⟨_, rfl, DL, _, rfl, .inl (SqL.of I.dl), ((as.map V.ref).length : Nat), rfl, by rw [List.length_map, el]; omega, by rw [List.length_map, el]; omega, for_range (lo := 0) (n := (((as.map V.ref).length : Nat) : Int).toNat) (fun i σ H => StX C ⟨r, wn, DL, KL, x, b, as, ds, m⟩ i (fun _ _ _ => True) σ H) ⟨c, [], x0, some (.ref dd), x2, x4, x5, x6, x7, x8, x9, x11, x12, x17, x18, x19, x20, x21, x22, x23, ?_, I, trivial⟩ ?_ ?_⟩
        · show [x0, some (V.ref dd), x2, some (V.int (1 + q)), x4, x5, x6, x7, x8, x9, some (V.str (Tx r)), x11, x12, some (V.ref DL), some (V.ref x), some (V.ref KL), some (V.int 0), x17, x18, x19, x20, x21, x22, x23] = _
          rw [hw]; rfl
        · rintro i σ H9 hi ⟨c, ks, x0, x1, x2, x4, x5, x6, x7, x8, x9, x11, x12, x17, x18, x19, x20, x21, x22, x23, rfl, I, _⟩
          rw [Int.toNat_natCast, List.length_map] at hi
          obtain ⟨t, hti⟩ : ∃ t, as[i]? = some t := ⟨_, List.getElem?_eq_getElem hi⟩
          obtain ⟨d, hdi, htd⟩ := Pd.get I.tu hti
          obtain ⟨dw, dj⟩ := d
          refine ⟨_, rfl, _, rfl, DL, _, _, .ref t, rfl, rfl, SqL.of I.dl, at_of (j := i) (by omega) (by rw [List.getElem?_map, hti]; rfl), ?_⟩
          refine ⟨t, _, rfl, SqT.of htd, rfl, _, _, rfl, _, _, rfl, rfl, ?_⟩
          have e0 : (0 : Int) + (i : Int) = (i : Nat) := by omega
          have hids : i < ds.length := by omega
          refine ⟨_, rfl, rfl, _, rfl, ite2 (fun hv => ?_) (fun hv => ?_)⟩
          · have hv := of_decide_eq_true hv
            cases dw with
            | true => exact absurd (show V.str (wd true) = V.str "take" from hv) (by decide +kernel)
            | false => exact ⟨⟨r, wn, DL, KL, x, b, as, ds, m⟩, i, dj, ok, hdi, ⟨c, ks, x0, x1, x2, x4, x5, x6, x7, x8, x9, x11, x12, _, _, _, x20, x21, x22, x23, rfl, I, congrArg (fun u => some (V.int u)) e0, rfl, rfl⟩, fun σ' H' q => ⟨_, i, ok, hids, q, fun σ' H' q => q⟩⟩
          · cases dw with
            | true => exact ⟨⟨r, wn, DL, KL, x, b, as, ds, m⟩, i, dj, ok, hdi, ⟨c, ks, x0, x1, x2, x4, x5, x6, x7, x8, x9, x11, x12, _, _, _, x20, x21, x22, x23, rfl, I, congrArg (fun u => some (V.int u)) e0, rfl, rfl⟩, fun σ' H' q => ⟨_, i, ok, hids, q, fun σ' H' q => q⟩⟩
            | false => exact absurd (show decide (V.str (wd false) = V.str "take") = true by decide +kernel) hv
        · intro σ H9 _
          exact kq H9
    case b0 =>
      intro D σ H ⟨dd, p, pb, p1, p6, ⟨hl, h1, hd⟩, h3, h4, kn⟩
      obtain ⟨x, s', h', e, ls⟩ := isF_some (first_of pb p1 p6)
      have e : f_for (slotsF p) (CH.of []) = some (.nx, x :: some .opq :: s', h') := e
      refine ⟨⟨fun k => (dd : Int) + (k : Int), fun _ => C, [], 0⟩, CH.of [], slotsF p, ⟨hl.symm, fun i v e => ?_⟩, HR.of (fun i j h => by show (dd : Int) + (i : Int) < (dd : Int) + (j : Int); omega) List.nodup_nil rfl (fun n a o e _ => by simp at e), .nx, _, _, e, fun η' H' σ' S R rs => ?_⟩
      · match i, e with
        | 0, e => cases e
        | 1, e => cases e; exact ⟨_, h1, by show V.ref dd = V.ref ((dd : Int) + ((0 : Nat) : Int)).toNat; congr 1⟩
        | 2, e => cases e
        | 3, e => cases e; exact ⟨_, h3, rfl⟩
        | 4, e => cases e; exact ⟨_, h4, rfl⟩
        | n + 5, e =>
          exfalso
          have hn : n < 19 := by
            have := (List.getElem?_eq_some_iff.mp e).1
            simp [slotsF] at this
            omega
          simp only [slotsF, List.getElem?_cons_succ] at e
          have : (List.replicate 19 (none : Option CV))[n]? = some (some v) := e
          rw [List.getElem?_replicate] at this
          split at this <;> cases this
      · obtain ⟨y, ey, ry⟩ := rs.at_ 1 .opq rfl
        have ry : y = V.ref (η'.k 0).toNat := ry
        rw [S.le.k] at ry
        have ey2 : y = .ref dd := by rw [ry]; show V.ref ((dd : Int) + ((0 : Nat) : Int)).toNat = V.ref dd; congr 1
        exact kn σ' H' ⟨by rw [← rs.len, List.length_cons, List.length_cons, ls], by rw [ey, ey2], hd.frm fun o q => S.fr dd o (by simp) q⟩
    case th =>
      intro D σ H ⟨z, i, j, ok, hd, ⟨c, ks, x0, x1, x2, x4, x5, x6, x7, x8, x9, x11, x12, x17, x18, x19, x20, x21, x22, x23, e, I, e17, e18, e19⟩, kn⟩
      subst e e17 e18 e19
      obtain ⟨k, pb, pll, hs⟩ := pt_ok ok hd
      have g := good_step (d := (false, j)) ok.rr pb (by rw [pll]; exact ok.n1) (by rw [pll]; exact ok.n6) hs
      obtain ⟨em, gtk, gmn⟩ := g.tk rfl
      obtain ⟨eP, eT⟩ := pt_s hd
      have hj : j < many (Pt z i) := by
        have hs : (if j < many (Pt z i) then some (many (Pt z i) - 1) else none) = some k := hs
        split at hs
        · assumption
        · cases hs
      have hjk : j < ks.length := by rw [I.kn]; exact hj
      obtain ⟨x, ex⟩ : ∃ x, ks[j]? = some x := ⟨_, List.getElem?_eq_getElem hjk⟩
      obtain ⟨dx, ho⟩ := I.sh.o
      have nd := I.nd
      simp at nd
      have pn := many_le (Pt z i)
      have n6 := ok.n6
      refine ⟨_, rfl, _, _, _, rfl, ho, flds_no, _, rfl, .inl ⟨rfl, _, SqL.of I.kl⟩, _, rfl, z.KL, _, (j : Nat), j, .int x, rfl, rfl, I.kl, by omega, by omega, seq_at (by rw [List.length_map]; exact hjk), by rw [List.getElem?_map, ex]; rfl, ?_⟩
      have e1 : (upd H z.KL (.lst ((ks.map V.int).eraseIdx j))) z.KL = some (.lst ((ks.eraseIdx j).map V.int)) := by rw [upd_same, map_er]
      have f1 : ∀ y o, y ≠ z.KL → H y = some o → (upd H z.KL (.lst ((ks.map V.int).eraseIdx j))) y = some o := fun y o n q => by rw [upd_ne n]; exact q
      generalize upd H z.KL (.lst ((ks.map V.int).eraseIdx j)) = H1 at *
      have sh1 : Sh C H1 z.a z.b c z.r (Pt z i) ks (Tt z i) := I.sh.frm fun y hy o q => f1 y o (fun w => by
        rw [w] at hy
        simp at hy
        rcases hy with q1 | q1 | q1
        · exact nd.1.2.1 q1
        · exact nd.1.2.2.1 q1
        · exact nd.1.2.2.2 q1) q
      refine take_call (E := E0) gtk g.len (gp_sorted I.gp) I.kn ex sh1 (nbc_of I) fun H2 sh2 fr2 => ?_
      have I2 : Inv9 C z (i + 1) c (ks.eraseIdx j) H2 := by
        refine ⟨?_, fr2 _ _ (by simp; exact nd.1.2) e1, fr2 _ _ (by simp; exact nd.2.1) (f1 _ _ (fun w => nd.1.1 w.symm) I.dl), I.tu.mono fun t xs q => fr2 t _ (tup_off I q) (f1 t _ (fun w => by rw [w, I.kl] at q; cases q) q), ?_, ?_, I.nd⟩
        · rw [eP, eT, em, Int.add_zero]; exact sh2
        · rw [eP, List.length_eraseIdx_of_lt hjk, I.kn]; omega
        · have hi : i < z.ds.length := (List.getElem?_eq_some_iff.mp hd).1
          have hl := ok.le
          have gp := I.gp
          rw [show 99 - i = (99 - (i + 1)) + 1 by omega] at gp
          exact gp_take gp j
      refine kn _ _ ⟨c, ks.eraseIdx j, x0, x1, x2, x4, x5, x6, x7, x8, x9, x11, x12, some (.int (i : Nat)), some (.str (wd false)), some (.int (j : Nat)), x20, x21, x22, x23, ?_, I2, rfl⟩
      rw [eT, em, Int.add_zero]
    case el =>
      intro D σ H ⟨z, i, j, ok, hd, ⟨c, ks, x0, x1, x2, x4, x5, x6, x7, x8, x9, x11, x12, x17, x18, x19, x20, x21, x22, x23, e, I, e17, e18, e19⟩, kn⟩
      subst e e17 e18 e19
      obtain ⟨k, pb, pll, hs⟩ := pt_ok ok hd
      have g := good_step (d := (true, j)) ok.rr pb (by rw [pll]; exact ok.n1) (by rw [pll]; exact ok.n6) hs
      obtain ⟨gpt, gmn⟩ := g.put rfl
      obtain ⟨eP, eT⟩ := pt_s hd
      have hj : j ≤ many (Pt z i) ∧ many (Pt z i) < (Pt z i).length := by
        have hs : (if j ≤ many (Pt z i) ∧ many (Pt z i) < (Pt z i).length then some (many (Pt z i) + 1) else none) = some k := hs
        split at hs
        · assumption
        · cases hs
      have hjk : j ≤ ks.length := by rw [I.kn]; exact hj.1
      obtain ⟨dx, ho⟩ := I.sh.o
      have nd := I.nd
      simp at nd
      have n6 := ok.n6
      have hi : i < z.ds.length := (List.getElem?_eq_some_iff.mp hd).1
      have hl := ok.le
      have kl6 : ks.length ≤ 6 := by rw [I.kn]; omega
      have gp := I.gp
      rw [show 99 - i = (99 - (i + 1)) + 1 by omega] at gp
      obtain ⟨low, high, elo, ehi, gp'⟩ := gp_put (99 - (i + 1)) BB ks 0 j gp hjk
      generalize hx : (low + high) / 2 = x at gp'
      obtain ⟨ax, er, ln⟩ := ins_at (x := x) hjk
      -- low
      refine ⟨(show 1 ≤ sizeLine by decide), fun L0 hL0 => ?_⟩
      have I1 := I.same (Same.new' (o := .lst [.int 0]) (Same.refl H) hL0)
      have eL0 : (upd H L0 (.lst [.int 0])) L0 = some (.lst [.int 0]) := upd_same
      generalize upd H L0 (.lst [.int 0]) = H1 at *
      refine ⟨_, rfl, L0, z.KL, _, _, rfl, rfl, eL0, I1.kl, by rw [List.length_map, sizeLine_eq]; show 1 + ks.length ≤ 16777216; omega, fun L1 hL1 => ?_⟩
      have eL1 : (upd H1 L1 (.lst ([.int 0] ++ ks.map V.int))) L1 = some (.lst ((0 :: ks).map V.int)) := upd_same
      have I2 := I1.same (Same.new' (o := .lst ([.int 0] ++ ks.map V.int)) (Same.refl H1) hL1)
      generalize upd H1 L1 (.lst ([.int 0] ++ ks.map V.int)) = H2 at *
      refine ⟨_, rfl, L1, _, _, .int low, rfl, rfl, SqL.of eL1, at_of (j := j) rfl (by rw [List.getElem?_map, elo]; rfl), ?_⟩
      -- high
      refine ⟨_, rfl, _, _, rfl, rfl, ⟨by decide, by decide, by decide⟩, (show 1 ≤ sizeLine by decide), fun L2 hL2 => ?_⟩
      have I3 := I2.same (Same.new' (o := .lst [(fun i j : Int => V.int (i ^ j.toNat)) 10 30]) (Same.refl H2) hL2)
      have eL2 : (upd H2 L2 (.lst [(fun i j : Int => V.int (i ^ j.toNat)) 10 30])) L2 = some (.lst [.int BB]) := upd_same
      generalize upd H2 L2 (.lst [(fun i j : Int => V.int (i ^ j.toNat)) 10 30]) = H3 at *
      refine ⟨z.KL, L2, _, _, rfl, rfl, I3.kl, eL2, by rw [List.length_map, sizeLine_eq]; show ks.length + 1 ≤ 16777216; omega, fun L3 hL3 => ?_⟩
      have eL3 : (upd H3 L3 (.lst (ks.map V.int ++ [.int BB]))) L3 = some (.lst ((ks ++ [BB]).map V.int)) := by rw [upd_same, List.map_append]; rfl
      have I4 := I3.same (Same.new' (o := .lst (ks.map V.int ++ [.int BB])) (Same.refl H3) hL3)
      generalize upd H3 L3 (.lst (ks.map V.int ++ [.int BB])) = H4 at *
      refine ⟨_, rfl, L3, _, _, .int high, rfl, rfl, SqL.of eL3, at_of (j := j) rfl (by rw [List.getElem?_map, ehi]; rfl), ?_⟩
      -- the new key
      refine ⟨_, rfl, .inl ⟨rfl, _, SqL.of I4.kl⟩, _, rfl, _, rfl, _, rfl, low, high, rfl, rfl, _, _, rfl, rfl, ⟨by decide, by decide⟩, z.KL, _, (j : Nat), .int ((low + high) / 2), rfl, rfl, I4.kl, by rw [List.length_map, sizeLine_eq]; omega, by omega, by omega, ?_⟩
      rw [hx]
      have eN : (upd H4 z.KL (.lst ((ks.map V.int).take (j : Int).toNat ++ [.int x] ++ (ks.map V.int).drop (j : Int).toNat))) z.KL = some (.lst ((ks.take j ++ [x] ++ ks.drop j).map V.int)) := by
        rw [upd_same, Int.toNat_natCast, List.map_append, List.map_append, List.map_take, List.map_drop]; rfl
      have fN : ∀ y o, y ≠ z.KL → H4 y = some o → (upd H4 z.KL (.lst ((ks.map V.int).take (j : Int).toNat ++ [.int x] ++ (ks.map V.int).drop (j : Int).toNat))) y = some o := fun y o n q => by rw [upd_ne n]; exact q
      generalize upd H4 z.KL (.lst ((ks.map V.int).take (j : Int).toNat ++ [.int x] ++ (ks.map V.int).drop (j : Int).toNat)) = H5 at *
      generalize ks.take j ++ [x] ++ ks.drop j = ks' at *
      have sh5 : Sh C H5 z.a z.b c z.r (Pt z i) ks (Tt z i) := I4.sh.frm fun y hy o q => fN y o (fun w => by
        rw [w] at hy
        simp at hy
        rcases hy with q1 | q1 | q1
        · exact nd.1.2.1 q1
        · exact nd.1.2.2.1 q1
        · exact nd.1.2.2.2 q1) q
      obtain ⟨dx5, ho5⟩ := sh5.o
      refine ⟨_, rfl, _, rfl, _, _, _, rfl, ho5, flds_no, _, rfl, _, rfl, z.KL, _, _, .int x, rfl, rfl, SqL.of eN, at_of (j := j) rfl (by rw [List.getElem?_map, ax]; rfl), ?_⟩
      refine put_call (E := E0) gpt g.len (gp_sorted gp') (by rw [ln, I.kn]) ax (by rw [er]; exact sh5) (nbc_of I) fun H6 c' sh6 nbc' hc' fr6 => ⟨_, _, rfl, rfl, ?_⟩
      have eK := fr6 z.KL _ (by simp; exact nd.1.2) eN
      have eD5 := fN _ _ (fun w => nd.1.1 w.symm) I4.dl
      have eD := fr6 z.DL _ (by simp; exact nd.2.1) eD5
      obtain ⟨dx6, ho6⟩ := sh6.o
      have I6 : Inv9 C z (i + 1) c' ks' H6 := by
        refine ⟨?_, eK, eD, I4.tu.mono fun t xs q => fr6 t _ (tup_off I4 q) (fN t _ (fun w => by rw [w, I4.kl] at q; cases q) q), ?_, gp', ?_⟩
        · rw [eP, eT]; exact sh6
        · rw [eP, ln, I.kn, gmn]
        · have n1 : z.KL ≠ c' := fun w => by
            rcases hc' with q1 | q1
            · exact nd.1.2.2.2 (w.trans q1)
            · rw [← w, eN] at q1; cases q1
          have n2 : z.DL ≠ c' := fun w => by
            rcases hc' with q1 | q1
            · exact nd.2.1.2.2 (w.trans q1)
            · rw [← w, eD5] at q1; cases q1
          have n3 : z.a ≠ c' := fun w => by have := sh6.p; rw [← w, ho6] at this; cases this
          simp [nd, n1, n2, n3, nbc']
      refine kn _ _ ⟨c', ks', x0, x1, x2, x4, x5, x6, x7, x8, x9, x11, x12, some (.int (i : Nat)), some (.str (wd true)), some (.int (j : Nat)), some (.int low), some (.int high), x22, x23, ?_, I6, rfl⟩
      rw [eT]
      rfl
    case b4 =>
      intro D σ H ⟨z, i, ok, hi, ⟨c, ks, x0, x1, x2, x4, x5, x6, x7, x8, x9, x11, x12, x17, x18, x19, x20, x21, x22, x23, e, I, e17⟩, kn⟩
      subst e e17
      have hl := ok.le
      have n6 := ok.n6
      obtain ⟨pb, pll⟩ := pt_all ok (show i + 1 ≤ z.ds.length by omega)
      refine ⟨_, rfl, _, rfl, _, rfl, _, rfl, _, _, rfl, rfl, _, rfl, z.DL, _, rfl, SqL.of I.dl, fun p hp => ?_⟩
      have I1 := I.same (Same.new' (o := .lst (cutV (z.as.map V.ref) none (some ((i : Int) + 1)))) (Same.refl H) hp)
      have ep : (upd H p (.lst (cutV (z.as.map V.ref) none (some ((i : Int) + 1))))) p = some (.lst ((z.as.take (i + 1)).map V.ref)) := by rw [upd_same, cut_take]
      generalize upd H p (.lst (cutV (z.as.map V.ref) none (some ((i : Int) + 1)))) = H1 at *
      obtain ⟨kk, hkk⟩ := cnt_upto ok.cn (show i + 1 ≤ z.ds.length by omega)
      refine ⟨z.r, z.n, p, z.ds.take (i + 1), z.as.take (i + 1), kk, rfl, ok.rr, ok.n1, ok.n6, hkk, ep, pd_take I1.tu (i + 1), by rw [List.length_take]; omega, fun H2 pp To s2 hpp hp2 hTo hTo0 => ?_⟩
      refine ⟨pp, _, rfl, SqT.of hp2, rfl, _, _, rfl, _, _, rfl, rfl, ?_⟩
      have I2 := I1.same s2
      obtain ⟨dx, ho⟩ := I2.sh.o
      refine ⟨rfl, _, rfl, _, _, _, rfl, ho, flds_no, ?_⟩
      refine stand_call (E := E0) ok.rr pb (by rw [pll]; exact ok.n1) (by rw [pll]; exact ok.n6) (gp_sorted I2.gp) I2.kn I2.sh (nbc_of I2) fun H3 R sh3 hR hRn fr3 => ?_
      have I3 := I2.keep fr3 sh3
      have nTo : To ∉ [z.a, z.b, c] := by
        obtain ⟨dx1, ho1⟩ := I1.sh.o
        intro m
        simp at m
        rcases m with w | w | w
        · rw [← w, hTo0] at ho1; cases ho1
        · have := I1.sh.k; rw [← w, hTo0] at this; cases this
        · have := I1.sh.p; rw [← w, hTo0] at this; cases this
      have hTo3 := fr3 To _ nTo hTo
      refine ⟨R, rfl, ⟨_, SqL.of hR⟩, fun Dn hDn => ?_⟩
      refine lc_list (K := K) (a := R) (xs := rowV (Pt z (i + 1)) ks) (g := gName 23) (fun i' H' => Same H3 H' ∧ H' Dn = some (.lst (((rowV (Pt z (i + 1)) ks).take i').map fun v => V.str (Tx [sgn v])))) ⟨Same.new' (Same.refl _) hDn, upd_same⟩ (fun i' H' _ q => SqL.of (q.1 _ _ hR)) ?_ ?_
      · rintro i' x H4 hi' ⟨s4, hD4⟩
        have st : (rowV (Pt z (i + 1)) ks).take (i' + 1) = (rowV (Pt z (i + 1)) ks).take i' ++ [x] := take_succ' hi'
        have hlr : (rowV (Pt z (i + 1)) ks).length = (Pt z (i + 1)).length := fill_len _ _
        obtain ⟨cc', hcc, ec⟩ : ∃ cc', cc' = sgn x ∧ atI ("01" : Str).cps.toList (if (!decide (x = V.non)) = true then 1 else 0) = some cc' := by
          by_cases hx : x = V.non
          · refine ⟨48, by rw [hx]; rfl, ?_⟩
            rw [hx]
            decide +kernel
          · refine ⟨49, by unfold sgn; rw [if_neg hx], ?_⟩
            rw [decide_eq_false hx]
            decide +kernel
        refine ⟨rfl, yes_rd ?_⟩
        refine ⟨_, rfl, rfl, .inr ⟨_, rfl, _, _, cc', rfl, rfl, (show ("01" : Str).length ≤ sizeLine by decide +kernel), ec, _, hD4, by rw [List.length_map, List.length_take, sizeLine_eq]; omega, fun y o q => ?_, ?_⟩⟩
        · rw [upd_ne (ne_of_none q hDn)]; exact s4 _ _ q
        · rw [upd_same, st, List.map_append, hcc]; rfl
      · rintro H4 ⟨s4, hD4⟩
        rw [List.take_length] at hD4
        have hD5 : H4 Dn = some (.lst (((Pt z (i + 1)).map fun c => Tx [c]).map V.str)) := by
          rw [hD4]
          have := row_sgn pb I.kn
          rw [← this, List.map_map, List.map_map, this]
          rfl
        refine ⟨"", Dn, (Pt z (i + 1)).map fun c => Tx [c], rfl, rfl, .inl (SqL.of hD5), ?_, ?_⟩
        · rw [ones_len, List.length_map]
          show (Pt z (i + 1)).length + (Pt z (i + 1)).length * 0 ≤ 16777216
          omega
        · rw [join_bits]
          have I4 := I3.same s4
          refine ⟨_, rfl, rfl, false, (by show V.bl (!decide (V.str (Tx (Pt z (i + 1))) = V.str (Tx (Pt z (i + 1))))) = V.bl false; rw [decide_eq_true rfl]; rfl), iteF ?_⟩
          refine ⟨_, rfl, To, _, rfl, SqL.of (s4 _ _ hTo3), _, rfl, rfl, false, (by show V.bl (!decide (V.int (Tt z (i + 1)) = V.int (Tt z (i + 1)))) = V.bl false; rw [decide_eq_true rfl]; rfl), iteF ?_⟩
          exact kn _ _ ⟨c, ks, _, _, _, _, _, _, _, _, _, _, _, _, _, _, _, _, _, _, rfl, I4, trivial⟩
end
end CK

namespace CK
open PySem L2 PyProof.Rows
/-! ### what the top has written, and the end -/
theorem all_mk {l : PySem.W.OpenLaw} {w : World} {K : PySem.W.Frag} {h : Heap} {mg : Str → Option Value} {fa : Addr} (X : K.In h) (G : h.Ns mainGlobals mg) (hfa : mg "law" = some (.ref fa))
    {C : Addr}
    {od0 an0 : Option Addr} {sl0 : Array (Option Value)} {oc0 kV0 dc0 pm0 cd0 ct0 : Value} {f0 : Addr}
    {od1 an1 : Option Addr} {sl1 : Array (Option Value)} {oc1 kV1 dc1 pm1 cd1 ct1 : Value} {f1 : Addr}
    {od2 an2 : Option Addr} {sl2 : Array (Option Value)} {oc2 kV2 dc2 pm2 cd2 ct2 : Value} {f2 : Addr}
    {od3 an3 : Option Addr} {sl3 : Array (Option Value)} {oc3 kV3 dc3 pm3 cd3 ct3 : Value} {f3 : Addr}
    {od4 an4 : Option Addr} {sl4 : Array (Option Value)} {oc4 kV4 dc4 pm4 cd4 ct4 : Value} {f4 : Addr}
    {od5 an5 : Option Addr} {sl5 : Array (Option Value)} {oc5 kV5 dc5 pm5 cd5 ct5 : Value} {f5 : Addr}
    {od6 an6 : Option Addr} {sl6 : Array (Option Value)} {oc6 kV6 dc6 pm6 cd6 ct6 : Value} {f6 : Addr}
    {od7 an7 : Option Addr} {sl7 : Array (Option Value)} {oc7 kV7 dc7 pm7 cd7 ct7 : Value} {f7 : Addr}
    {od8 an8 : Option Addr} {sl8 : Array (Option Value)} {oc8 kV8 dc8 pm8 cd8 ct8 : Value} {f8 : Addr}
    {od9 an9 : Option Addr} {sl9 : Array (Option Value)} {oc9 kV9 dc9 pm9 cd9 ct9 : Value} {f9 : Addr}
    {od10 an10 : Option Addr} {sl10 : Array (Option Value)} {oc10 kV10 dc10 pm10 cd10 ct10 : Value} {f10 : Addr}
    {od11 an11 : Option Addr} {sl11 : Array (Option Value)} {oc11 kV11 dc11 pm11 cd11 ct11 : Value} {f11 : Addr}
    {od12 an12 : Option Addr} {sl12 : Array (Option Value)} {oc12 kV12 dc12 pm12 cd12 ct12 : Value} {f12 : Addr}
    {od13 an13 : Option Addr} {sl13 : Array (Option Value)} {oc13 kV13 dc13 pm13 cd13 ct13 : Value} {f13 : Addr}
    {od14 an14 : Option Addr} {sl14 : Array (Option Value)} {oc14 kV14 dc14 pm14 cd14 ct14 : Value} {f14 : Addr}
    {od15 an15 : Option Addr} {sl15 : Array (Option Value)} {oc15 kV15 dc15 pm15 cd15 ct15 : Value} {f15 : Addr}
    {od16 an16 : Option Addr} {sl16 : Array (Option Value)} {oc16 kV16 dc16 pm16 cd16 ct16 : Value} {f16 : Addr}
    {od17 an17 : Option Addr} {sl17 : Array (Option Value)} {oc17 kV17 dc17 pm17 cd17 ct17 : Value} {f17 : Addr}
    {od18 an18 : Option Addr} {sl18 : Array (Option Value)} {oc18 kV18 dc18 pm18 cd18 ct18 : Value} {f18 : Addr}
    {od19 an19 : Option Addr} {sl19 : Array (Option Value)} {oc19 kV19 dc19 pm19 cd19 ct19 : Value} {f19 : Addr}
    {od20 an20 : Option Addr} {sl20 : Array (Option Value)} {oc20 kV20 dc20 pm20 cd20 ct20 : Value} {f20 : Addr}
    {od21 an21 : Option Addr} {sl21 : Array (Option Value)} {oc21 kV21 dc21 pm21 cd21 ct21 : Value} {f21 : Addr}
    {od22 an22 : Option Addr} {sl22 : Array (Option Value)} {oc22 kV22 dc22 pm22 cd22 ct22 : Value} {f22 : Addr}
    {od23 an23 : Option Addr} {sl23 : Array (Option Value)} {oc23 kV23 dc23 pm23 cd23 ct23 : Value} {f23 : Addr}
    {od24 an24 : Option Addr} {sl24 : Array (Option Value)} {oc24 kV24 dc24 pm24 cd24 ct24 : Value} {f24 : Addr}
    {od25 an25 : Option Addr} {sl25 : Array (Option Value)} {oc25 kV25 dc25 pm25 cd25 ct25 : Value} {f25 : Addr}
    {od26 an26 : Option Addr} {sl26 : Array (Option Value)} {oc26 kV26 dc26 pm26 cd26 ct26 : Value} {f26 : Addr}
    {t_MOST_PLACES : Tok}
    {a_RULES : Addr} {dd_RULES : Option Addr} {nn_RULES : Nat} {sl_RULES : Array (Option Value)} {t_RULES_0 t_RULES_1 t_RULES_2 : Tok}
    (a0 : PySem.W.nsIn K mainGlobals "inserted" = some (some (.ref f0))) (l0 : K.lookup f0 = some ⟨oc0, od0, .func (PySem.W.fnOf "inserted" "inserted" (defArgs s_inserted) (defBody s_inserted) (defScope s_inserted) .none kV0 dc0 pm0 an0 cd0 ct0), sl0⟩) (c0 : PySem.W.codeIn K cd0 "inserted" = true) (k0 : PySem.W.keepIn K (.ref f0) = true)
    (a1 : PySem.W.nsIn K mainGlobals "laid_evenly" = some (some (.ref f1))) (l1 : K.lookup f1 = some ⟨oc1, od1, .func (PySem.W.fnOf "laid_evenly" "laid_evenly" (defArgs s_laid_evenly) (defBody s_laid_evenly) (defScope s_laid_evenly) .none kV1 dc1 pm1 an1 cd1 ct1), sl1⟩) (c1 : PySem.W.codeIn K cd1 "laid_evenly" = true) (k1 : PySem.W.keepIn K (.ref f1) = true)
    (a2 : PySem.W.nsIn K mainGlobals "free_ahead" = some (some (.ref f2))) (l2 : K.lookup f2 = some ⟨oc2, od2, .func (PySem.W.fnOf "free_ahead" "free_ahead" (defArgs s_free_ahead) (defBody s_free_ahead) (defScope s_free_ahead) .none kV2 dc2 pm2 an2 cd2 ct2), sl2⟩) (c2 : PySem.W.codeIn K cd2 "free_ahead" = true) (k2 : PySem.W.keepIn K (.ref f2) = true)
    (a3 : PySem.W.nsIn K mainGlobals "free_behind" = some (some (.ref f3))) (l3 : K.lookup f3 = some ⟨oc3, od3, .func (PySem.W.fnOf "free_behind" "free_behind" (defArgs s_free_behind) (defBody s_free_behind) (defScope s_free_behind) .none kV3 dc3 pm3 an3 cd3 ct3), sl3⟩) (c3 : PySem.W.codeIn K cd3 "free_behind" = true) (k3 : PySem.W.keepIn K (.ref f3) = true)
    (a4 : PySem.W.nsIn K mainGlobals "is_taken_ahead" = some (some (.ref f4))) (l4 : K.lookup f4 = some ⟨oc4, od4, .func (PySem.W.fnOf "is_taken_ahead" "is_taken_ahead" (defArgs s_is_taken_ahead) (defBody s_is_taken_ahead) (defScope s_is_taken_ahead) .none kV4 dc4 pm4 an4 cd4 ct4), sl4⟩) (c4 : PySem.W.codeIn K cd4 "is_taken_ahead" = true) (k4 : PySem.W.keepIn K (.ref f4) = true)
    (a5 : PySem.W.nsIn K mainGlobals "count_moved" = some (some (.ref f5))) (l5 : K.lookup f5 = some ⟨oc5, od5, .func (PySem.W.fnOf "count_moved" "count_moved" (defArgs s_count_moved) (defBody s_count_moved) (defScope s_count_moved) .none kV5 dc5 pm5 an5 cd5 ct5), sl5⟩) (c5 : PySem.W.codeIn K cd5 "count_moved" = true) (k5 : PySem.W.keepIn K (.ref f5) = true)
    (a6 : PySem.W.nsIn K mainGlobals "with_new_one" = some (some (.ref f6))) (l6 : K.lookup f6 = some ⟨oc6, od6, .func (PySem.W.fnOf "with_new_one" "with_new_one" (defArgs s_with_new_one) (defBody s_with_new_one) (defScope s_with_new_one) .none kV6 dc6 pm6 an6 cd6 ct6), sl6⟩) (c6 : PySem.W.codeIn K cd6 "with_new_one" = true) (k6 : PySem.W.keepIn K (.ref f6) = true)
    (a7 : PySem.W.nsIn K mainGlobals "check_rule" = some (some (.ref f7))) (l7 : K.lookup f7 = some ⟨oc7, od7, .func (PySem.W.fnOf "check_rule" "check_rule" (defArgs s_check_rule) (defBody s_check_rule) (defScope s_check_rule) .none kV7 dc7 pm7 an7 cd7 ct7), sl7⟩) (c7 : PySem.W.codeIn K cd7 "check_rule" = true) (k7 : PySem.W.keepIn K (.ref f7) = true)
    (a8 : PySem.W.nsIn K mainGlobals "check_width" = some (some (.ref f8))) (l8 : K.lookup f8 = some ⟨oc8, od8, .func (PySem.W.fnOf "check_width" "check_width" (defArgs s_check_width) (defBody s_check_width) (defScope s_check_width) .none kV8 dc8 pm8 an8 cd8 ct8), sl8⟩) (c8 : PySem.W.codeIn K cd8 "check_width" = true) (k8 : PySem.W.keepIn K (.ref f8) = true)
    (a9 : PySem.W.nsIn K mainGlobals "check_pattern" = some (some (.ref f9))) (l9 : K.lookup f9 = some ⟨oc9, od9, .func (PySem.W.fnOf "check_pattern" "check_pattern" (defArgs s_check_pattern) (defBody s_check_pattern) (defScope s_check_pattern) .none kV9 dc9 pm9 an9 cd9 ct9), sl9⟩) (c9 : PySem.W.codeIn K cd9 "check_pattern" = true) (k9 : PySem.W.keepIn K (.ref f9) = true)
    (a10 : PySem.W.nsIn K mainGlobals "places_of" = some (some (.ref f10))) (l10 : K.lookup f10 = some ⟨oc10, od10, .func (PySem.W.fnOf "places_of" "places_of" (defArgs s_places_of) (defBody s_places_of) (defScope s_places_of) .none kV10 dc10 pm10 an10 cd10 ct10), sl10⟩) (c10 : PySem.W.codeIn K cd10 "places_of" = true) (k10 : PySem.W.keepIn K (.ref f10) = true)
    (a11 : PySem.W.nsIn K mainGlobals "pattern_of" = some (some (.ref f11))) (l11 : K.lookup f11 = some ⟨oc11, od11, .func (PySem.W.fnOf "pattern_of" "pattern_of" (defArgs s_pattern_of) (defBody s_pattern_of) (defScope s_pattern_of) .none kV11 dc11 pm11 an11 cd11 ct11), sl11⟩) (c11 : PySem.W.codeIn K cd11 "pattern_of" = true) (k11 : PySem.W.keepIn K (.ref f11) = true)
    (a12 : PySem.W.nsIn K mainGlobals "can_be_done" = some (some (.ref f12))) (l12 : K.lookup f12 = some ⟨oc12, od12, .func (PySem.W.fnOf "can_be_done" "can_be_done" (defArgs s_can_be_done) (defBody s_can_be_done) (defScope s_can_be_done) .none kV12 dc12 pm12 an12 cd12 ct12), sl12⟩) (c12 : PySem.W.codeIn K cd12 "can_be_done" = true) (k12 : PySem.W.keepIn K (.ref f12) = true)
    (a13 : PySem.W.nsIn K mainGlobals "after_deed" = some (some (.ref f13))) (l13 : K.lookup f13 = some ⟨oc13, od13, .func (PySem.W.fnOf "after_deed" "after_deed" (defArgs s_after_deed) (defBody s_after_deed) (defScope s_after_deed) .none kV13 dc13 pm13 an13 cd13 ct13), sl13⟩) (c13 : PySem.W.codeIn K cd13 "after_deed" = true) (k13 : PySem.W.keepIn K (.ref f13) = true)
    (a14 : PySem.W.nsIn K mainGlobals "done" = some (some (.ref f14))) (l14 : K.lookup f14 = some ⟨oc14, od14, .func (PySem.W.fnOf "done" "done" (defArgs s_done) (defBody s_done) (defScope s_done) .none kV14 dc14 pm14 an14 cd14 ct14), sl14⟩) (c14 : PySem.W.codeIn K cd14 "done" = true) (k14 : PySem.W.keepIn K (.ref f14) = true)
    (a15 : PySem.W.findIn K (.ref C) "__init__" = some (some (.ref f15))) (i15 : PySem.W.isFn K (.ref f15) = true) (l15 : K.lookup f15 = some ⟨oc15, od15, .func (PySem.W.fnOf "__init__" "Shelf.__init__" (defArgs s_Shelf___init__) (defBody s_Shelf___init__) (defScope s_Shelf___init__) .none kV15 dc15 pm15 an15 cd15 ct15), sl15⟩) (c15 : PySem.W.codeIn K cd15 "Shelf.__init__" = true) (k15 : PySem.W.keepIn K (.ref f15) = true)
    (a16 : PySem.W.findIn K (.ref C) "put_in" = some (some (.ref f16))) (i16 : PySem.W.isFn K (.ref f16) = true) (l16 : K.lookup f16 = some ⟨oc16, od16, .func (PySem.W.fnOf "put_in" "Shelf.put_in" (defArgs s_Shelf_put_in) (defBody s_Shelf_put_in) (defScope s_Shelf_put_in) .none kV16 dc16 pm16 an16 cd16 ct16), sl16⟩) (c16 : PySem.W.codeIn K cd16 "Shelf.put_in" = true) (k16 : PySem.W.keepIn K (.ref f16) = true)
    (a17 : PySem.W.findIn K (.ref C) "take_out" = some (some (.ref f17))) (i17 : PySem.W.isFn K (.ref f17) = true) (l17 : K.lookup f17 = some ⟨oc17, od17, .func (PySem.W.fnOf "take_out" "Shelf.take_out" (defArgs s_Shelf_take_out) (defBody s_Shelf_take_out) (defScope s_Shelf_take_out) .none kV17 dc17 pm17 an17 cd17 ct17), sl17⟩) (c17 : PySem.W.codeIn K cd17 "Shelf.take_out" = true) (k17 : PySem.W.keepIn K (.ref f17) = true)
    (a18 : PySem.W.findIn K (.ref C) "standing" = some (some (.ref f18))) (i18 : PySem.W.isFn K (.ref f18) = true) (l18 : K.lookup f18 = some ⟨oc18, od18, .func (PySem.W.fnOf "standing" "Shelf.standing" (defArgs s_Shelf_standing) (defBody s_Shelf_standing) (defScope s_Shelf_standing) .none kV18 dc18 pm18 an18 cd18 ct18), sl18⟩) (c18 : PySem.W.codeIn K cd18 "Shelf.standing" = true) (k18 : PySem.W.keepIn K (.ref f18) = true)
    (a19 : PySem.W.findIn K (.ref C) "moved" = some (some (.ref f19))) (i19 : PySem.W.isFn K (.ref f19) = true) (l19 : K.lookup f19 = some ⟨oc19, od19, .func (PySem.W.fnOf "moved" "Shelf.moved" (defArgs s_Shelf_moved) (defBody s_Shelf_moved) (defScope s_Shelf_moved) .none kV19 dc19 pm19 an19 cd19 ct19), sl19⟩) (c19 : PySem.W.codeIn K cd19 "Shelf.moved" = true) (k19 : PySem.W.keepIn K (.ref f19) = true)
    (a20 : PySem.W.nsIn K mainGlobals "_law_deeds" = some (some (.ref f20))) (l20 : K.lookup f20 = some ⟨oc20, od20, .func (PySem.W.fnOf "_law_deeds" "_law_deeds" (defArgs s__law_deeds) (defBody s__law_deeds) (defScope s__law_deeds) .none kV20 dc20 pm20 an20 cd20 ct20), sl20⟩) (c20 : PySem.W.codeIn K cd20 "_law_deeds" = true) (k20 : PySem.W.keepIn K (.ref f20) = true)
    (a21 : PySem.W.nsIn K mainGlobals "_law_dice" = some (some (.ref f21))) (l21 : K.lookup f21 = some ⟨oc21, od21, .func (PySem.W.fnOf "_law_dice" "_law_dice" (defArgs s__law_dice) (defBody s__law_dice) (defScope s__law_dice) .none kV21 dc21 pm21 an21 cd21 ct21), sl21⟩) (c21 : PySem.W.codeIn K cd21 "_law_dice" = true) (k21 : PySem.W.keepIn K (.ref f21) = true)
    (a22 : PySem.W.nsIn K mainGlobals "_law_off" = some (some (.ref f22))) (l22 : K.lookup f22 = some ⟨oc22, od22, .func (PySem.W.fnOf "_law_off" "_law_off" (defArgs s__law_off) (defBody s__law_off) (defScope s__law_off) .none kV22 dc22 pm22 an22 cd22 ct22), sl22⟩) (c22 : PySem.W.codeIn K cd22 "_law_off" = true) (k22 : PySem.W.keepIn K (.ref f22) = true)
    (a23 : PySem.W.nsIn K mainGlobals "_law_rule" = some (some (.ref f23))) (l23 : K.lookup f23 = some ⟨oc23, od23, .func (PySem.W.fnOf "_law_rule" "_law_rule" (defArgs s__law_rule) (defBody s__law_rule) (defScope s__law_rule) .none kV23 dc23 pm23 an23 cd23 ct23), sl23⟩) (c23 : PySem.W.codeIn K cd23 "_law_rule" = true) (k23 : PySem.W.keepIn K (.ref f23) = true)
    (a24 : PySem.W.nsIn K mainGlobals "_law_drawn" = some (some (.ref f24))) (l24 : K.lookup f24 = some ⟨oc24, od24, .func (PySem.W.fnOf "_law_drawn" "_law_drawn" (defArgs s__law_drawn) (defBody s__law_drawn) (defScope s__law_drawn) .none kV24 dc24 pm24 an24 cd24 ct24), sl24⟩) (c24 : PySem.W.codeIn K cd24 "_law_drawn" = true) (k24 : PySem.W.keepIn K (.ref f24) = true)
    (a25 : PySem.W.nsIn K mainGlobals "played" = some (some (.ref f25))) (l25 : K.lookup f25 = some ⟨oc25, od25, .func (PySem.W.fnOf "played" "played" (defArgs s_played) (defBody s_played) (defScope s_played) .none kV25 dc25 pm25 an25 cd25 ct25), sl25⟩) (c25 : PySem.W.codeIn K cd25 "played" = true) (k25 : PySem.W.keepIn K (.ref f25) = true)
    (a26 : PySem.W.nsIn K mainGlobals "law" = some (some (.ref f26))) (l26 : K.lookup f26 = some ⟨oc26, od26, .func (PySem.W.fnOf "law" "law" (defArgs s_law) (defBody s_law) (defScope s_law) .none kV26 dc26 pm26 an26 cd26 ct26), sl26⟩) (c26 : PySem.W.codeIn K cd26 "law" = true) (k26 : PySem.W.keepIn K (.ref f26) = true)
    (aC : PySem.W.nsIn K mainGlobals "Shelf" = some (some (.ref C))) (pg : PySem.W.plainGet K C Str.empty = true) (hd : PySem.W.hasDictIn K C = true) (po : PySem.W.plainOver K C = true) (sa : PySem.W.findIn K (.ref C) "__setattr__" = some (some (.builtin "object.__setattr__"))) (mk : PySem.W.makesIn K C = true) (kc : PySem.W.keepIn K (.ref C) = true)
    (nf_places : PySem.W.findIn K (.ref C) "places" = some none)
    (nf_ranked : PySem.W.findIn K (.ref C) "ranked" = some none)
    (nf_rule : PySem.W.findIn K (.ref C) "rule" = some none)
    (nf_total : PySem.W.findIn K (.ref C) "total" = some none)
    (nf_wide : PySem.W.findIn K (.ref C) "wide" = some none)
    (n_abs : PySem.W.nsIn K mainGlobals "abs" = some none)
    (n_all : PySem.W.nsIn K mainGlobals "all" = some none)
    (n_bool : PySem.W.nsIn K mainGlobals "bool" = some none)
    (n_enumerate : PySem.W.nsIn K mainGlobals "enumerate" = some none)
    (n_int : PySem.W.nsIn K mainGlobals "int" = some none)
    (n_isinstance : PySem.W.nsIn K mainGlobals "isinstance" = some none)
    (n_len : PySem.W.nsIn K mainGlobals "len" = some none)
    (n_list : PySem.W.nsIn K mainGlobals "list" = some none)
    (n_max : PySem.W.nsIn K mainGlobals "max" = some none)
    (n_range : PySem.W.nsIn K mainGlobals "range" = some none)
    (n_str : PySem.W.nsIn K mainGlobals "str" = some none)
    (n_sum : PySem.W.nsIn K mainGlobals "sum" = some none)
    (n_tuple : PySem.W.nsIn K mainGlobals "tuple" = some none)
    (n_zip : PySem.W.nsIn K mainGlobals "zip" = some none)
    (x_MOST_PLACES : PySem.W.nsIn K mainGlobals "MOST_PLACES" = some (some (.int 6 t_MOST_PLACES)))
    (x_RULES : PySem.W.nsIn K mainGlobals "RULES" = some (some (.ref a_RULES))) (y_RULES : K.lookup a_RULES = some ⟨.type "tuple", dd_RULES, .seq #[.str "near" t_RULES_0, .str "left" t_RULES_1, .str "even" t_RULES_2] nn_RULES, sl_RULES⟩)
    : ∃ fd : FuncData, (∀ (s : Shared) (v : Value), BindsTo s fd ⟨[v], []⟩ [("_law_script", v)]) ∧ ∀ base : Heap, K.In base → base.Ns mainGlobals mg → FnOk l.prog w K mg base CX0 5 fa fd ["_law_script"] (spLaw K) := by
  have e := hfa.symm.trans (PySem.W.mg_of X G a26)
  cases e
  have T : Txt K mg (fun _ => C) := ⟨PySem.W.mg_none_of X G n_abs, PySem.W.mg_none_of X G n_all, PySem.W.mg_none_of X G n_bool, PySem.W.mg_none_of X G n_enumerate, PySem.W.mg_none_of X G n_int, PySem.W.mg_none_of X G n_isinstance, PySem.W.mg_none_of X G n_len, PySem.W.mg_none_of X G n_list, PySem.W.mg_none_of X G n_max, PySem.W.mg_none_of X G n_range, PySem.W.mg_none_of X G n_str, PySem.W.mg_none_of X G n_sum, PySem.W.mg_none_of X G n_tuple, PySem.W.mg_none_of X G n_zip, ⟨pg, hd, po, sa⟩, nf_places, nf_ranked, nf_rule, nf_total, nf_wide, ⟨_, PySem.W.mg_of X G x_MOST_PLACES⟩, ⟨_, PySem.W.mg_of X G x_RULES, fun H => .inr ⟨_, _, _, y_RULES, rfl, rfl, by show 3 ≤ sizeLine; decide, .cons ⟨_, congrArg (fun z => Value.str z _) (by decide +kernel)⟩ (.cons ⟨_, congrArg (fun z => Value.str z _) (by decide +kernel)⟩ (.cons ⟨_, congrArg (fun z => Value.str z _) (by decide +kernel)⟩ (.nil)))⟩⟩⟩
  have F0 := fun_mk (st := s_inserted) l0 c0 k0
  have m0 := PySem.W.mg_of X G a0
  have b0 := F0.binds (ps := ["places", "rank", "at"]) fun _ _ _ _ _ _ us hl => match us, hl with | [_, _, _], _ => rfl
  have F1 := fun_mk (st := s_laid_evenly) l1 c1 k1
  have m1 := PySem.W.mg_of X G a1
  have b1 := F1.binds (ps := ["wide", "many"]) fun _ _ _ _ _ _ us hl => match us, hl with | [_, _], _ => rfl
  have F2 := fun_mk (st := s_free_ahead) l2 c2 k2
  have m2 := PySem.W.mg_of X G a2
  have b2 := F2.binds (ps := ["places", "low"]) fun _ _ _ _ _ _ us hl => match us, hl with | [_, _], _ => rfl
  have F3 := fun_mk (st := s_free_behind) l3 c3 k3
  have m3 := PySem.W.mg_of X G a3
  have b3 := F3.binds (ps := ["wide", "places", "high"]) fun _ _ _ _ _ _ us hl => match us, hl with | [_, _, _], _ => rfl
  have F4 := fun_mk (st := s_is_taken_ahead) l4 c4 k4
  have m4 := PySem.W.mg_of X G a4
  have b4 := F4.binds (ps := ["rule", "low", "high", "ahead", "behind"]) fun _ _ _ _ _ _ us hl => match us, hl with | [_, _, _, _, _], _ => rfl
  have F5 := fun_mk (st := s_count_moved) l5 c5 k5
  have m5 := PySem.W.mg_of X G a5
  have b5 := F5.binds (ps := ["places", "laid", "rank"]) fun _ _ _ _ _ _ us hl => match us, hl with | [_, _, _], _ => rfl
  have F6 := fun_mk (st := s_with_new_one) l6 c6 k6
  have m6 := PySem.W.mg_of X G a6
  have b6 := F6.binds (ps := ["rule", "wide", "places", "rank"]) fun _ _ _ _ _ _ us hl => match us, hl with | [_, _, _, _], _ => rfl
  have F7 := fun_mk (st := s_check_rule) l7 c7 k7
  have m7 := PySem.W.mg_of X G a7
  have b7 := F7.binds (ps := ["rule"]) fun _ _ _ _ _ _ us hl => match us, hl with | [_], _ => rfl
  have F8 := fun_mk (st := s_check_width) l8 c8 k8
  have m8 := PySem.W.mg_of X G a8
  have b8 := F8.binds (ps := ["wide"]) fun _ _ _ _ _ _ us hl => match us, hl with | [_], _ => rfl
  have F9 := fun_mk (st := s_check_pattern) l9 c9 k9
  have m9 := PySem.W.mg_of X G a9
  have b9 := F9.binds (ps := ["pattern"]) fun _ _ _ _ _ _ us hl => match us, hl with | [_], _ => rfl
  have F10 := fun_mk (st := s_places_of) l10 c10 k10
  have m10 := PySem.W.mg_of X G a10
  have b10 := F10.binds (ps := ["pattern"]) fun _ _ _ _ _ _ us hl => match us, hl with | [_], _ => rfl
  have F11 := fun_mk (st := s_pattern_of) l11 c11 k11
  have m11 := PySem.W.mg_of X G a11
  have b11 := F11.binds (ps := ["wide", "places"]) fun _ _ _ _ _ _ us hl => match us, hl with | [_, _], _ => rfl
  have F12 := fun_mk (st := s_can_be_done) l12 c12 k12
  have m12 := PySem.W.mg_of X G a12
  have b12 := F12.binds (ps := ["wide", "many", "deed"]) fun _ _ _ _ _ _ us hl => match us, hl with | [_, _, _], _ => rfl
  have F13 := fun_mk (st := s_after_deed) l13 c13 k13
  have m13 := PySem.W.mg_of X G a13
  have b13 := F13.binds (ps := ["rule", "wide", "places", "deed"]) fun _ _ _ _ _ _ us hl => match us, hl with | [_, _, _, _], _ => rfl
  have F14 := fun_mk (st := s_done) l14 c14 k14
  have m14 := PySem.W.mg_of X G a14
  have b14 := F14.binds (ps := ["rule", "pattern", "deed"]) fun _ _ _ _ _ _ us hl => match us, hl with | [_, _, _], _ => rfl
  have F15 := fun_mk (st := s_Shelf___init__) l15 c15 k15
  have b15 := F15.binds (ps := ["self", "rule", "wide"]) fun _ _ _ _ _ _ us hl => match us, hl with | [_, _, _], _ => rfl
  have F16 := fun_mk (st := s_Shelf_put_in) l16 c16 k16
  have b16 := F16.binds (ps := ["self", "key"]) fun _ _ _ _ _ _ us hl => match us, hl with | [_, _], _ => rfl
  have F17 := fun_mk (st := s_Shelf_take_out) l17 c17 k17
  have b17 := F17.binds (ps := ["self", "key"]) fun _ _ _ _ _ _ us hl => match us, hl with | [_, _], _ => rfl
  have F18 := fun_mk (st := s_Shelf_standing) l18 c18 k18
  have b18 := F18.binds (ps := ["self"]) fun _ _ _ _ _ _ us hl => match us, hl with | [_], _ => rfl
  have F19 := fun_mk (st := s_Shelf_moved) l19 c19 k19
  have b19 := F19.binds (ps := ["self"]) fun _ _ _ _ _ _ us hl => match us, hl with | [_], _ => rfl
  have F20 := fun_mk (st := s__law_deeds) l20 c20 k20
  have m20 := PySem.W.mg_of X G a20
  have b20 := F20.binds (ps := ["_law_pattern"]) fun _ _ _ _ _ _ us hl => match us, hl with | [_], _ => rfl
  have F21 := fun_mk (st := s__law_dice) l21 c21 k21
  have m21 := PySem.W.mg_of X G a21
  have b21 := F21.binds (ps := ["_law_script", "_law_k"]) fun _ _ _ _ _ _ us hl => match us, hl with | [_, _], _ => rfl
  have F22 := fun_mk (st := s__law_off) l22 c22 k22
  have m22 := PySem.W.mg_of X G a22
  have b22 := F22.binds (ps := ["_law_d", "_law_most"]) fun _ _ _ _ _ _ us hl => match us, hl with | [_, _], _ => rfl
  have F23 := fun_mk (st := s__law_rule) l23 c23 k23
  have m23 := PySem.W.mg_of X G a23
  have b23 := F23.binds (ps := ["_law_d"]) fun _ _ _ _ _ _ us hl => match us, hl with | [_], _ => rfl
  have F24 := fun_mk (st := s__law_drawn) l24 c24 k24
  have m24 := PySem.W.mg_of X G a24
  have b24 := F24.binds (ps := ["_law_d", "_law_wide", "_law_most"]) fun _ _ _ _ _ _ us hl => match us, hl with | [_, _, _], _ => rfl
  have F25 := fun_mk (st := s_played) l25 c25 k25
  have m25 := PySem.W.mg_of X G a25
  have b25 := F25.binds (ps := ["rule", "wide", "deeds"]) fun _ _ _ _ _ _ us hl => match us, hl with | [_, _, _], _ => rfl
  have F26 := fun_mk (st := s_law) l26 c26 k26
  have m26 := PySem.W.mg_of X G a26
  have b26 := F26.binds (ps := ["_law_script"]) fun _ _ _ _ _ _ us hl => match us, hl with | [_], _ => rfl
  have mC := PySem.W.mg_of X G aC
  refine ⟨PySem.W.fnOf "law" "law" (defArgs s_law) (defBody s_law) (defScope s_law) .none kV26 dc26 pm26 an26 cd26 ct26, fun s v => .of_eq rfl, fun base _ _ => ?_⟩
  have O_inserted : OwnS l.prog w K mg base 1 "inserted" ["places", "rank", "at"] (spOf (fun _ => C) c_inserted) := ⟨f0, _, ok_inserted F0 T, m0, k0, b0⟩
  have O_laid_evenly : OwnS l.prog w K mg base 1 "laid_evenly" ["wide", "many"] (spOf (fun _ => C) c_laid_evenly) := ⟨f1, _, ok_laid_evenly F1 T, m1, k1, b1⟩
  have O_free_ahead : OwnS l.prog w K mg base 1 "free_ahead" ["places", "low"] (spOf (fun _ => C) c_free_ahead) := ⟨f2, _, ok_free_ahead F2 T, m2, k2, b2⟩
  have O_free_behind : OwnS l.prog w K mg base 1 "free_behind" ["wide", "places", "high"] (spOf (fun _ => C) c_free_behind) := ⟨f3, _, ok_free_behind F3 T, m3, k3, b3⟩
  have O_is_taken_ahead : OwnS l.prog w K mg base 1 "is_taken_ahead" ["rule", "low", "high", "ahead", "behind"] (spOf (fun _ => C) c_is_taken_ahead) := ⟨f4, _, ok_is_taken_ahead F4 T, m4, k4, b4⟩
  have O_count_moved : OwnS l.prog w K mg base 1 "count_moved" ["places", "laid", "rank"] (spOf (fun _ => C) c_count_moved) := ⟨f5, _, ok_count_moved F5 T, m5, k5, b5⟩
  have O_with_new_one : OwnS l.prog w K mg base 2 "with_new_one" ["rule", "wide", "places", "rank"] (spOf (fun _ => C) c_with_new_one) := ⟨f6, _, ok_with_new_one F6 T O_inserted O_laid_evenly O_free_ahead O_free_behind O_is_taken_ahead, m6, k6, b6⟩
  have O_check_rule : OwnS l.prog w K mg base 1 "check_rule" ["rule"] (spOf (fun _ => C) c_check_rule) := ⟨f7, _, ok_check_rule F7 T, m7, k7, b7⟩
  have O_check_width : OwnS l.prog w K mg base 1 "check_width" ["wide"] (spOf (fun _ => C) c_check_width) := ⟨f8, _, ok_check_width F8 T, m8, k8, b8⟩
  have O_check_pattern : OwnS l.prog w K mg base 1 "check_pattern" ["pattern"] (spOf (fun _ => C) c_check_pattern) := ⟨f9, _, ok_check_pattern F9 T, m9, k9, b9⟩
  have O_places_of : OwnS l.prog w K mg base 1 "places_of" ["pattern"] (spOf (fun _ => C) c_places_of) := ⟨f10, _, ok_places_of F10 T, m10, k10, b10⟩
  have O_pattern_of : OwnS l.prog w K mg base 1 "pattern_of" ["wide", "places"] (spOf (fun _ => C) c_pattern_of) := ⟨f11, _, ok_pattern_of F11 T, m11, k11, b11⟩
  have O_can_be_done : OwnS l.prog w K mg base 1 "can_be_done" ["wide", "many", "deed"] (spOf (fun _ => C) c_can_be_done) := ⟨f12, _, ok_can_be_done F12 T, m12, k12, b12⟩
  have O_after_deed : OwnS l.prog w K mg base 3 "after_deed" ["rule", "wide", "places", "deed"] (spOf (fun _ => C) c_after_deed) := ⟨f13, _, ok_after_deed F13 T O_with_new_one O_count_moved, m13, k13, b13⟩
  have O_done : OwnS l.prog w K mg base 4 "done" ["rule", "pattern", "deed"] (spOf (fun _ => C) c_done) := ⟨f14, _, ok_done F14 T O_check_rule O_check_pattern O_places_of O_pattern_of O_can_be_done O_after_deed, m14, k14, b14⟩
  have O_Shelf___init__ : MkS l.prog w K mg base 2 C "Shelf" ["self", "rule", "wide"] (spOf (fun _ => C) c_Shelf___init__) := ⟨f15, _, ok_Shelf___init__ F15 T O_check_rule O_check_width, ⟨mk, a15, i15, kc⟩, b15, mC⟩
  have O_Shelf_put_in : MethS l.prog w K mg base 4 C "put_in" ["self", "key"] (spOf (fun _ => C) c_Shelf_put_in) := ⟨f16, _, ok_Shelf_put_in F16 T O_can_be_done O_after_deed, ⟨a16, i16, k16⟩, b16⟩
  have O_Shelf_take_out : MethS l.prog w K mg base 1 C "take_out" ["self", "key"] (spOf (fun _ => C) c_Shelf_take_out) := ⟨f17, _, ok_Shelf_take_out F17 T, ⟨a17, i17, k17⟩, b17⟩
  have O_Shelf_standing : MethS l.prog w K mg base 1 C "standing" ["self"] (spOf (fun _ => C) c_Shelf_standing) := ⟨f18, _, ok_Shelf_standing F18 T, ⟨a18, i18, k18⟩, b18⟩
  have O_Shelf_moved : MethS l.prog w K mg base 1 C "moved" ["self"] (spOf (fun _ => C) c_Shelf_moved) := ⟨f19, _, ok_Shelf_moved F19 T, ⟨a19, i19, k19⟩, b19⟩
  have O__law_deeds : OwnS l.prog w K mg base 1 "_law_deeds" ["_law_pattern"] (spOf (fun _ => C) c__law_deeds) := ⟨f20, _, ok__law_deeds F20 T, m20, k20, b20⟩
  have O__law_dice : OwnS l.prog w K mg base 1 "_law_dice" ["_law_script", "_law_k"] (spDice K) := ⟨f21, _, ok_dice F21 T, m21, k21, b21⟩
  have O__law_off : OwnS l.prog w K mg base 1 "_law_off" ["_law_d", "_law_most"] (spOff) := ⟨f22, _, ok_off F22 T, m22, k22, b22⟩
  have O__law_rule : OwnS l.prog w K mg base 2 "_law_rule" ["_law_d"] (spRule) := ⟨f23, _, ok_rule F23 T (draw_of O__law_off), m23, k23, b23⟩
  have O__law_drawn : OwnS l.prog w K mg base 2 "_law_drawn" ["_law_d", "_law_wide", "_law_most"] (spDrawn) := ⟨f24, _, ok_drawn F24 T (draw_of O__law_off), m24, k24, b24⟩
  have O_played : OwnS l.prog w K mg base 4 "played" ["rule", "wide", "deeds"] (spPlayed) := ⟨f25, _, ok_played (cc := fun _ => C) F25 T O_check_rule O_check_width O_can_be_done O_after_deed O_pattern_of, m25, k25, b25⟩
  exact ok_law (C := C) F26 T O__law_dice (draw_of O__law_off) (rule_of O__law_rule) O__law_drawn O_played O_done O__law_deeds O_Shelf___init__ O_Shelf_put_in O_Shelf_take_out O_Shelf_standing
theorem walk {l : PySem.W.OpenLaw} {q : Program} {loose : List Str} {XP : (Str → Option Value) → Heap → Prop} {YP : World → Heap → Prop} {d : DefRec} {K : Params → PySem.W.Frag} (hn : l.most = some 63) (hdf : d.params.defaults = [])
    (hY : ∀ (w : World) (h : Heap), YP w h → (K w.params).In h)
    (F : ∀ (w : World) (mg : Str → Option Value) (fa : Addr) (h : Heap), (K w.params).In h → h.Ns mainGlobals mg → mg d.name = some (.ref fa) →
      ∃ fd : FuncData, (∀ (s : Shared) (u : Value), BindsTo s fd ⟨[u], []⟩ [("_law_script", u)]) ∧ ∀ base : Heap, (K w.params).In base → base.Ns mainGlobals mg → FnOk l.prog w (K w.params) mg base CX0 5 fa fd ["_law_script"] (spLaw (K w.params))) :
    PySem.W.WalkO q loose XP YP l.row.toRowW d [] (fun f vs => PySem.call f vs) :=
  L2.walk_of (n := 63) (k := 5) (x := "_law_script") (CX := fun _ => CX0) (sp := fun w => spLaw (K w.params)) hn (by decide) hdf ⟨rfl, by decide, by decide⟩ hY F (fun _ _ a ns hl _ hS => ⟨a, ns, rfl, hS, hl, fun _ => rfl⟩) fun _ _ _ _ _ z => z
end CK
open PySem PySem.W PyProof.Rows
set_option maxRecDepth 100000 in
set_option maxHeartbeats 0 in
theorem PySem.Challenge.cw_looseshelf_k09_whole_rules_beside_one_an_holds : PySem.Challenge.rw_looseshelf_k09_whole_rules_beside_one_an.Holds := by
  w_on; o_law; k_head; (case hw => w_witness2)
  k_fill
  refine CK.walk (l := PySem.Challenge.rw_looseshelf_k09_whole_rules_beside_one_an) rfl rfl (fun w h Y => PySem.W.kIn_of Y) ?F
  case F =>
    intro w mg fa h KX G hmg
    refine' CK.all_mk KX G hmg ?a0 ?l0 ?c0 ?k0 ?a1 ?l1 ?c1 ?k1 ?a2 ?l2 ?c2 ?k2 ?a3 ?l3 ?c3 ?k3 ?a4 ?l4 ?c4 ?k4 ?a5 ?l5 ?c5 ?k5 ?a6 ?l6 ?c6 ?k6 ?a7 ?l7 ?c7 ?k7 ?a8 ?l8 ?c8 ?k8 ?a9 ?l9 ?c9 ?k9 ?a10 ?l10 ?c10 ?k10 ?a11 ?l11 ?c11 ?k11 ?a12 ?l12 ?c12 ?k12 ?a13 ?l13 ?c13 ?k13 ?a14 ?l14 ?c14 ?k14 ?a15 ?i15 ?l15 ?c15 ?k15 ?a16 ?i16 ?l16 ?c16 ?k16 ?a17 ?i17 ?l17 ?c17 ?k17 ?a18 ?i18 ?l18 ?c18 ?k18 ?a19 ?i19 ?l19 ?c19 ?k19 ?a20 ?l20 ?c20 ?k20 ?a21 ?l21 ?c21 ?k21 ?a22 ?l22 ?c22 ?k22 ?a23 ?l23 ?c23 ?k23 ?a24 ?l24 ?c24 ?k24 ?a25 ?l25 ?c25 ?k25 ?a26 ?l26 ?c26 ?k26 ?aC ?pg ?hd ?po ?sa ?mk ?kc ?nf_places ?nf_ranked ?nf_rule ?nf_total ?nf_wide ?n_abs ?n_all ?n_bool ?n_enumerate ?n_int ?n_isinstance ?n_len ?n_list ?n_max ?n_range ?n_str ?n_sum ?n_tuple ?n_zip ?x_MOST_PLACES ?x_RULES ?y_RULES
    (case aC => k_is)
    (case a0 => k_is)
    (case l0 => k_is)
    (case c0 => k_is)
    (case k0 => k_is)
    (case a1 => k_is)
    (case l1 => k_is)
    (case c1 => k_is)
    (case k1 => k_is)
    (case a2 => k_is)
    (case l2 => k_is)
    (case c2 => k_is)
    (case k2 => k_is)
    (case a3 => k_is)
    (case l3 => k_is)
    (case c3 => k_is)
    (case k3 => k_is)
    (case a4 => k_is)
    (case l4 => k_is)
    (case c4 => k_is)
    (case k4 => k_is)
    (case a5 => k_is)
    (case l5 => k_is)
    (case c5 => k_is)
    (case k5 => k_is)
    (case a6 => k_is)
    (case l6 => k_is)
    (case c6 => k_is)
    (case k6 => k_is)
    (case a7 => k_is)
    (case l7 => k_is)
    (case c7 => k_is)
    (case k7 => k_is)
    (case a8 => k_is)
    (case l8 => k_is)
    (case c8 => k_is)
    (case k8 => k_is)
    (case a9 => k_is)
    (case l9 => k_is)
    (case c9 => k_is)
    (case k9 => k_is)
    (case a10 => k_is)
    (case l10 => k_is)
    (case c10 => k_is)
    (case k10 => k_is)
    (case a11 => k_is)
    (case l11 => k_is)
    (case c11 => k_is)
    (case k11 => k_is)
    (case a12 => k_is)
    (case l12 => k_is)
    (case c12 => k_is)
    (case k12 => k_is)
    (case a13 => k_is)
    (case l13 => k_is)
    (case c13 => k_is)
    (case k13 => k_is)
    (case a14 => k_is)
    (case l14 => k_is)
    (case c14 => k_is)
    (case k14 => k_is)
    (case a15 => k_is)
    (case i15 => k_is)
    (case l15 => k_is)
    (case c15 => k_is)
    (case k15 => k_is)
    (case a16 => k_is)
    (case i16 => k_is)
    (case l16 => k_is)
    (case c16 => k_is)
    (case k16 => k_is)
    (case a17 => k_is)
    (case i17 => k_is)
    (case l17 => k_is)
    (case c17 => k_is)
    (case k17 => k_is)
    (case a18 => k_is)
    (case i18 => k_is)
    (case l18 => k_is)
    (case c18 => k_is)
    (case k18 => k_is)
    (case a19 => k_is)
    (case i19 => k_is)
    (case l19 => k_is)
    (case c19 => k_is)
    (case k19 => k_is)
    (case a20 => k_is)
    (case l20 => k_is)
    (case c20 => k_is)
    (case k20 => k_is)
    (case a21 => k_is)
    (case l21 => k_is)
    (case c21 => k_is)
    (case k21 => k_is)
    (case a22 => k_is)
    (case l22 => k_is)
    (case c22 => k_is)
    (case k22 => k_is)
    (case a23 => k_is)
    (case l23 => k_is)
    (case c23 => k_is)
    (case k23 => k_is)
    (case a24 => k_is)
    (case l24 => k_is)
    (case c24 => k_is)
    (case k24 => k_is)
    (case a25 => k_is)
    (case l25 => k_is)
    (case c25 => k_is)
    (case k25 => k_is)
    (case a26 => k_is)
    (case l26 => k_is)
    (case c26 => k_is)
    (case k26 => k_is)
    (case pg => k_is)
    (case hd => k_is)
    (case po => k_is)
    (case sa => k_is)
    (case mk => k_is)
    (case kc => k_is)
    (case nf_places => k_is)
    (case nf_ranked => k_is)
    (case nf_rule => k_is)
    (case nf_total => k_is)
    (case nf_wide => k_is)
    (case n_abs => k_is)
    (case n_all => k_is)
    (case n_bool => k_is)
    (case n_enumerate => k_is)
    (case n_int => k_is)
    (case n_isinstance => k_is)
    (case n_len => k_is)
    (case n_list => k_is)
    (case n_max => k_is)
    (case n_range => k_is)
    (case n_str => k_is)
    (case n_sum => k_is)
    (case n_tuple => k_is)
    (case n_zip => k_is)
    (case x_MOST_PLACES => k_is)
    (case x_RULES => k_is)
    (case y_RULES => k_is)
