import PyProof.Rows.All
import Wide.All
import OpenK.AllK
import Wide.FinOn
import HandS.ForMost
import HandS.ForExc
import HandS.IsInst
import HandS.TupAny
import HandS.TupMul
import HandS.Wide
import HandS.Walk
import HandS.TupLe
import HandS.Conv
import KE.KDictKeyed
import KE.KDictWalk
import KE.GoesMore
import HandS.Iter
import KE.DataCmp
import KE.SortData
import KE.KEqDeep
import HandS.Exc
import HandS.ExcInit
import HandS.ExcOwn
import HandS.ExcField
import HandS.ExcIs
import HandS.WordsExc
import HandS.Strs
import KE.DataMinMax
import PyProof.Claim2Refuses
import HandS.Rev
import HandS.RevRange
import HandS.Zip
import PyProof.AutoSeq1
import HandS.Style
import KE.DataEq
import HandS.Zip0
import KE.DataFind
import PyProof.Rows.TupReads
import KE.KDictZip
import KE.KItemsList
import PyProof.ListNew
import HandS.Keys
import KE.KDictDisplayH
import HandS.DictTup
import KE.KDictItemsList
import PySem.Challenge.RW_surepast_k17_least_tables
set_option Elab.async false
set_option maxRecDepth 100000
set_option maxHeartbeats 4000000
set_option linter.all false
namespace Y
open PySem L2

/-! ### data, values of slots, the store, what a run gives -/
inductive D where
  | non | bl (b : Bool) | int (i : Int) | str (x : Str) | tup (ds : List D) | lst (ds : List D) | frz (ds : List D) | tux (ds : List D)
inductive W where
  | d (x : D) | h (n : Nat) | r (n : Nat) | k (n : Nat)
abbrev Loc := List (Option W)
abbrev Sto := List (Option (List D))
structure XC where
  cls : Str
  fs : List (Str × D)
inductive Res (α : Type) where
  | ok (a : α) (s : Sto) | err (e : XC) (s : Sto) | bad
abbrev M (α : Type) := Sto → Res α
def M.bnd {α β : Type} (x : M α) (f : α → M β) : M β := fun s => match x s with
  | .ok a s' => f a s'
  | .err e s' => .err e s'
  | .bad => .bad
def M.ret {α : Type} (a : α) : M α := fun s => .ok a s
def M.bad {α : Type} : M α := fun _ => .bad

end Y
namespace Y
open PySem L2
def Res.sat {α : Type} (r : Res α) (P : α → Sto → Prop) (E : XC → Sto → Prop) : Prop := match r with
  | .ok a s => P a s
  | .err e s => E e s
  | .bad => False
theorem sat_bnd {α β : Type} {x : M α} {f : α → M β} {s : Sto} {P : β → Sto → Prop} {E : XC → Sto → Prop} : (M.bnd x f s).sat P E ↔ (x s).sat (fun a s' => (f a s').sat P E) E := by
  unfold M.bnd
  cases x s <;> exact Iff.rfl
theorem sat_ret {α : Type} {a : α} {s : Sto} {P : α → Sto → Prop} {E : XC → Sto → Prop} : (M.ret a s).sat P E ↔ P a s := Iff.rfl
theorem sat_bad {α : Type} {s : Sto} {P : α → Sto → Prop} {E : XC → Sto → Prop} : ((M.bad : M α) s).sat P E ↔ False := Iff.rfl
theorem Res.sat.mono {α : Type} {r : Res α} {P P' : α → Sto → Prop} {E E' : XC → Sto → Prop} (h : r.sat P E) (hp : ∀ a s, P a s → P' a s) (he : ∀ e s, E e s → E' e s) : r.sat P' E' := by
  cases r with
  | ok a s => exact hp a s h
  | err e s => exact he e s h
  | bad => exact h

/-! ### worlds -/
/-- the heap, the places of the store's lists, the store, lists that grow elsewhere -/
structure Wd where
  H : Hp
  hs : List Addr
  st : Sto
  G : Addr → Prop
  dk : Addr → Prop
def Wd.hot (w : Wd) (a : Addr) : Prop := ∃ (n : Nat) (ds : List D), w.hs[n]? = some a ∧ w.st[n]? = some (some ds)
def Wd.al (w : Wd) (a : Addr) : Prop := w.hot a ∨ w.G a

section
variable (K : PySem.W.Frag)
def FzL (H : Hp) (a : Addr) (xs : List V) : Prop :=
  (∃ o, H a = some (.frz o (.lst xs))) ∨
    ∃ (o : Obj) (its : Array Value) (n : Nat), K.lookup a = some o ∧ o.cls = .type "list" ∧ o.dict = none ∧ o.data = .seq its n ∧ its.size ≤ sizeLine ∧ Vals xs its.toList
mutual
def Rep (H : Hp) (al : Addr → Prop) : D → V → Prop
  | .non, v => v = .non
  | .bl b, v => v = .bl b
  | .int i, v => v = .int i
  | .str x, v => v = .str x
  | .tup ds, v => ∃ a vs, v = .ref a ∧ SqT K H a vs ∧ RepL H al ds vs
  | .lst ds, v => ∃ a vs, v = .ref a ∧ H a = some (.lst vs) ∧ ¬ al a ∧ RepL H al ds vs
  | .frz ds, v => ∃ a vs, v = .ref a ∧ FzL K H a vs ∧ RepL H al ds vs
  | .tux ds, v => ∃ a vs, v = .ref a ∧ (∃ o, H a = some (.frz o (.tup vs)) ∧ o.dict = none) ∧ RepL H al ds vs
def RepL (H : Hp) (al : Addr → Prop) : List D → List V → Prop
  | [], vs => vs = []
  | d :: ds, vs => ∃ v us, vs = v :: us ∧ Rep H al d v ∧ RepL H al ds us
end
/-! ### dicts of the store: keys of ints and None and tuples of them -/
mutual
def nk : D → Option NestedKey
  | .non => some .none
  | .int i => some (.num i)
  | .tup ds => (nks ds).map .tup
  | .tux ds => (nks ds).map .tup
  | _ => none
def nks : List D → Option (List NestedKey)
  | [] => some []
  | d :: ds => (nk d).bind fun k => (nks ds).map fun r => k :: r
end
mutual
/-- the hash of a key with no text in it -/
def hash0 : NestedKey → Int
  | .none => reduceHash 0xFCA86420
  | .num i => hashInt i
  | .text _ => 0
  | .tup ks => reduceHash (Builtin.Tuple.tupleHashOf (hashes0 ks))
def hashes0 : List NestedKey → List Int
  | [] => []
  | k :: ks => hash0 k :: hashes0 ks
end
/-- the dict's object: its entries, as they stand -/
def DkO (a : Addr) (es : List DictEntry) (ep : Nat) : HO := .ext fun h => (a == sysModules) = false ∧ es.length ≤ sizeLine ∧ ∃ o, h.get? a = some o ∧ o.ExactDict ∧ o.data = .dict es.toArray ep
/-- entries as data: pairs of a key and a value -/
def DEnt (H : Hp) (al : Addr → Prop) : List D → List DictEntry → Prop
  | [], es => es = []
  | d :: ds, es => ∃ k v q e r kv vv, d = .tup [k, v] ∧ es = e :: r ∧ (nk k = some q ∧ q.depth ≤ 8) ∧ e.hash = hash0 q ∧ RelV kv e.key ∧ RelV vv e.val ∧ Rep K H al k kv ∧ Rep K H al v vv ∧ DEnt H al ds r
/-- the key and the value of an entry -/
def keyD : D → D
  | .tup [k, _] => k
  | d => d
def valD : D → D
  | .tup [_, v] => v
  | d => d
def NodK (ds : List D) : Prop := (ds.map fun e => nk (keyD e)).Nodup
def DRep (H : Hp) (al : Addr → Prop) (a : Addr) (ds : List D) : Prop := ∃ es ep, H a = some (DkO a es ep) ∧ DEnt K H al ds es ∧ NodK ds
def RepW (w : Wd) : W → V → Prop
  | .d x, v => Rep K w.H w.al x v
  | .h n, v => ∃ a, w.hs[n]? = some a ∧ v = .ref a ∧ ¬ w.dk a
  | .k n, v => ∃ a, w.hs[n]? = some a ∧ v = .ref a ∧ w.dk a
  | .r n, v => ∃ a, v = .ref a ∧ w.H a = some (.rng 0 n)
def RepWs (w : Wd) : List W → List V → Prop
  | [], vs => vs = []
  | x :: xs, vs => ∃ v us, vs = v :: us ∧ RepW K w x v ∧ RepWs w xs us
structure Ok (w : Wd) : Prop where
  len : w.hs.length = w.st.length
  nd : w.hs.Nodup
  cell : ∀ (n : Nat) (a : Addr) (ds : List D), w.hs[n]? = some a → w.st[n]? = some (some ds) → ¬ w.dk a → ∃ vs, w.H a = some (.lst vs) ∧ RepL K w.H w.al ds vs
  celd : ∀ (n : Nat) (a : Addr) (ds : List D), w.hs[n]? = some a → w.st[n]? = some (some ds) → w.dk a → DRep K w.H w.al a ds
  dkh : ∀ a, w.dk a → a ∈ w.hs
  trk : ∀ a, a ∈ w.hs → w.H a ≠ none
  gst : ∀ a, w.G a → a ∉ w.hs ∧ ∃ vs, w.H a = some (.lst vs)
end
/-- nothing that is not hot changes, the store's places stay, what becomes hot is new -/
structure Nxt (w w' : Wd) : Prop where
  keep : ∀ a o, w.H a = some o → ¬ w.al a → w'.H a = some o
  ext : ∃ t, w'.hs = w.hs ++ t
  al : ∀ a, w'.al a → w.al a ∨ w.H a = none
  dk : ∀ a, w.H a ≠ none → (w'.dk a ↔ w.dk a)
  lv : ∀ a, w.H a ≠ none → w'.H a ≠ none
/-- .. and the lists that grow elsewhere are as they were -/
structure Stp (w w' : Wd) : Prop extends Nxt w w' where
  g : w'.G = w.G
  gk : ∀ a o, w.G a → w.H a = some o → w'.H a = some o
theorem Nxt.refl (w : Wd) : Nxt w w := ⟨fun _ _ h _ => h, ⟨[], by simp⟩, fun _ h => .inl h, fun _ _ => Iff.rfl, fun _ h => h⟩
theorem Stp.refl (w : Wd) : Stp w w := ⟨Nxt.refl w, rfl, fun _ _ _ h => h⟩
theorem Nxt.trans {a b c : Wd} (x : Nxt a b) (y : Nxt b c) : Nxt a c where
  keep := fun p o h n => y.keep p o (x.keep p o h n) fun z => by
    rcases x.al p z with q | q
    · exact n q
    · rw [h] at q; cases q
  ext := by
    obtain ⟨t, e⟩ := x.ext
    obtain ⟨u, f⟩ := y.ext
    exact ⟨t ++ u, by rw [f, e, List.append_assoc]⟩
  al := fun p h => by
    rcases y.al p h with q | q
    · exact x.al p q
    · by_cases n : a.al p
      · exact .inl n
      · cases e : a.H p with
        | none => exact .inr rfl
        | some o =>
          rw [x.keep p o e n] at q
          cases q
  dk := fun p h => (y.dk p (x.lv p h)).trans (x.dk p h)
  lv := fun p h => y.lv p (x.lv p h)
theorem Stp.trans {a b c : Wd} (x : Stp a b) (y : Stp b c) : Stp a c :=
  ⟨x.toNxt.trans y.toNxt, y.g.trans x.g, fun p o g h => y.gk p o (by rw [x.g]; exact g) (x.gk p o g h)⟩

/-- an object that never changes: no list, nothing told by a property -/
def Fx (o : HO) : Prop := (∀ ys, o ≠ .lst ys) ∧ ∀ φ, o ≠ .ext φ
section
variable {K : PySem.W.Frag}
theorem fx_tup {ys : List V} : Fx (.tup ys) := ⟨(fun _ z => by cases z), (fun _ z => by cases z)⟩
theorem fx_frz {o : Obj} {u : HO} : Fx (.frz o u) := ⟨(fun _ z => by cases z), (fun _ z => by cases z)⟩
theorem fx_rng {i j : Int} : Fx (.rng i j) := ⟨(fun _ z => by cases z), (fun _ z => by cases z)⟩
theorem Rd.keepT {H H' : Hp} {a : Addr} {u : HO} (k : ∀ o, H a = some o → H' a = some o) (h : Rd H a u) : Rd H' a u := by
  rcases h with h | ⟨o, h⟩
  · exact .inl (k _ h)
  · exact .inr ⟨o, k _ h⟩
theorem SqT.keep {H H' : Hp} {a : Addr} {xs : List V} (k : ∀ o, H a = some o → Fx o → H' a = some o) (h : SqT K H a xs) : SqT K H' a xs := by
  rcases h with (h | ⟨o, h⟩) | h
  · exact .inl (.inl (k _ h fx_tup))
  · exact .inl (.inr ⟨o, k _ h fx_frz⟩)
  · exact .inr h
theorem FzL.keep {H H' : Hp} {a : Addr} {xs : List V} (k : ∀ o, H a = some o → Fx o → H' a = some o) (h : FzL K H a xs) : FzL K H' a xs := by
  rcases h with ⟨o, h⟩ | h
  · exact .inl ⟨o, k _ h fx_frz⟩
  · exact .inr h
mutual
theorem Rep.keep {H H' : Hp} {al al' : Addr → Prop} (k1 : ∀ a o, H a = some o → Fx o → H' a = some o) (k2 : ∀ a vs, H a = some (.lst vs) → ¬ al a → H' a = some (.lst vs) ∧ ¬ al' a) : ∀ (d : D) (v : V), Rep K H al d v → Rep K H' al' d v
  | .non, _, h => h
  | .bl _, _, h => h
  | .int _, _, h => h
  | .str _, _, h => h
  | .tup ds, v, h => by
    obtain ⟨a, vs, e, s, r⟩ := h
    exact ⟨a, vs, e, SqT.keep (k1 a) s, RepL.keep k1 k2 ds vs r⟩
  | .lst ds, v, h => by
    obtain ⟨a, vs, e, s, n, r⟩ := h
    exact ⟨a, vs, e, (k2 a vs s n).1, (k2 a vs s n).2, RepL.keep k1 k2 ds vs r⟩
  | .frz ds, v, h => by
    obtain ⟨a, vs, e, s, r⟩ := h
    exact ⟨a, vs, e, FzL.keep (k1 a) s, RepL.keep k1 k2 ds vs r⟩
  | .tux ds, v, h => by
    obtain ⟨a, vs, e, ⟨o, s, t⟩, r⟩ := h
    exact ⟨a, vs, e, ⟨o, k1 a _ s fx_frz, t⟩, RepL.keep k1 k2 ds vs r⟩
theorem RepL.keep {H H' : Hp} {al al' : Addr → Prop} (k1 : ∀ a o, H a = some o → Fx o → H' a = some o) (k2 : ∀ a vs, H a = some (.lst vs) → ¬ al a → H' a = some (.lst vs) ∧ ¬ al' a) : ∀ (ds : List D) (vs : List V), RepL K H al ds vs → RepL K H' al' ds vs
  | [], _, h => h
  | d :: ds, vs, h => by
    obtain ⟨v, us, e, r, q⟩ := h
    exact ⟨v, us, e, Rep.keep k1 k2 d v r, RepL.keep k1 k2 ds us q⟩
end
theorem Ok.alL {w : Wd} (ok : Ok K w) {a : Addr} (h : w.al a) : (∃ vs, w.H a = some (.lst vs)) ∨ ∃ es ep, w.H a = some (DkO a es ep) := by
  rcases h with ⟨n, ds, h1, h2⟩ | h
  · by_cases hd : w.dk a
    · obtain ⟨es, ep, e, _⟩ := ok.celd n a ds h1 h2 hd
      exact .inr ⟨es, ep, e⟩
    · obtain ⟨vs, e, _⟩ := ok.cell n a ds h1 h2 hd
      exact .inl ⟨vs, e⟩
  · exact .inl (ok.gst a h).2
theorem Nxt.k1 {w w' : Wd} (x : Nxt w w') (ok : Ok K w) : ∀ a o, w.H a = some o → Fx o → w'.H a = some o := fun a o h n => x.keep a o h fun z => by
  rcases ok.alL z with ⟨vs, e⟩ | ⟨es, ep, e⟩
  · rw [h] at e
    exact n.1 vs (Option.some.inj e)
  · rw [h] at e
    exact n.2 _ (Option.some.inj e)
theorem Nxt.k2 {w w' : Wd} (x : Nxt w w') : ∀ a vs, w.H a = some (.lst vs) → ¬ w.al a → w'.H a = some (.lst vs) ∧ ¬ w'.al a := fun a vs h n => ⟨x.keep a _ h n, fun z => by
  rcases x.al a z with q | q
  · exact n q
  · rw [h] at q; cases q⟩
theorem Rep.nxt {w w' : Wd} (x : Nxt w w') (ok : Ok K w) {d : D} {v : V} (h : Rep K w.H w.al d v) : Rep K w'.H w'.al d v := Rep.keep (x.k1 ok) x.k2 d v h
theorem RepL.nxt {w w' : Wd} (x : Nxt w w') (ok : Ok K w) {d : List D} {v : List V} (h : RepL K w.H w.al d v) : RepL K w'.H w'.al d v := RepL.keep (x.k1 ok) x.k2 d v h
theorem RepW.nxt {w w' : Wd} (x : Nxt w w') (ok : Ok K w) {d : W} {v : V} (h : RepW K w d v) : RepW K w' d v := by
  cases d with
  | d y => exact Rep.nxt x ok h
  | r n =>
    obtain ⟨a, e, q⟩ := h
    exact ⟨a, e, x.k1 ok a _ q fx_rng⟩
  | h n =>
    obtain ⟨a, e, r, hd⟩ := h
    obtain ⟨t, e2⟩ := x.ext
    refine ⟨a, ?_, r, fun z => hd ((x.dk a (ok.trk a (List.mem_of_getElem? e))).mp z)⟩
    rw [e2, List.getElem?_append_left (List.getElem?_eq_some_iff.mp e).1]
    exact e
  | k n =>
    obtain ⟨a, e, r, hd⟩ := h
    obtain ⟨t, e2⟩ := x.ext
    refine ⟨a, ?_, r, (x.dk a (ok.trk a (List.mem_of_getElem? e))).mpr hd⟩
    rw [e2, List.getElem?_append_left (List.getElem?_eq_some_iff.mp e).1]
    exact e
theorem RepWs.nxt {w w' : Wd} (x : Nxt w w') (ok : Ok K w) : ∀ {ds : List W} {vs : List V}, RepWs K w ds vs → RepWs K w' ds vs
  | [], _, h => h
  | _ :: _, _, ⟨v, us, e, r, q⟩ => ⟨v, us, e, r.nxt x ok, RepWs.nxt x ok q⟩
theorem DEnt.keep {H H' : Hp} {al al' : Addr → Prop} (k1 : ∀ a o, H a = some o → Fx o → H' a = some o) (k2 : ∀ a vs, H a = some (.lst vs) → ¬ al a → H' a = some (.lst vs) ∧ ¬ al' a) : ∀ (ds : List D) (es : List DictEntry), DEnt K H al ds es → DEnt K H' al' ds es
  | [], _, h => h
  | d :: ds, es, h => by
    obtain ⟨k, v, q, e, r, kv, vv, h1, h2, h3, h4, h5, h6, h7, h8, h9⟩ := h
    exact ⟨k, v, q, e, r, kv, vv, h1, h2, h3, h4, h5, h6, Rep.keep k1 k2 k kv h7, Rep.keep k1 k2 v vv h8, DEnt.keep k1 k2 ds r h9⟩
theorem DEnt.nxt {w w' : Wd} (x : Nxt w w') (ok : Ok K w) {ds : List D} {es : List DictEntry} (h : DEnt K w.H w.al ds es) : DEnt K w'.H w'.al ds es := DEnt.keep (x.k1 ok) x.k2 ds es h
theorem RepL.length {H : Hp} {al : Addr → Prop} : ∀ {ds : List D} {vs : List V}, RepL K H al ds vs → vs.length = ds.length
  | [], _, h => by rw [show _ = [] from h]; rfl
  | _ :: _, _, ⟨v, us, e, _, q⟩ => by rw [e]; simp [RepL.length q]
theorem RepL.get {H : Hp} {al : Addr → Prop} : ∀ {ds : List D} {vs : List V} {i : Nat} {d : D}, RepL K H al ds vs → ds[i]? = some d → ∃ v, vs[i]? = some v ∧ Rep K H al d v
  | [], _, _, _, _, h => by simp at h
  | _ :: _, _, 0, _, ⟨v, us, e, r, q⟩, h => by
    simp at h
    subst h e
    exact ⟨v, rfl, r⟩
  | _ :: _, _, i + 1, _, ⟨v, us, e, r, q⟩, h => by
    subst e
    simpa using RepL.get q (by simpa using h)
theorem RepL.getV {H : Hp} {al : Addr → Prop} {ds : List D} {vs : List V} {i : Nat} {v : V} (h : RepL K H al ds vs) (e : vs[i]? = some v) : ∃ d, ds[i]? = some d ∧ Rep K H al d v := by
  have hl := h.length
  have hi : i < vs.length := (List.getElem?_eq_some_iff.mp e).1
  have hd : ds[i]? = some (ds[i]'(by omega)) := by simp [show i < ds.length by omega]
  obtain ⟨u, e2, r⟩ := h.get hd
  rw [e] at e2
  cases e2
  exact ⟨_, hd, r⟩
theorem RepL.append {H : Hp} {al : Addr → Prop} : ∀ {ds es : List D} {vs us : List V}, RepL K H al ds vs → RepL K H al es us → RepL K H al (ds ++ es) (vs ++ us)
  | [], _, _, _, h, q => by
    rw [show _ = [] from h]
    exact q
  | _ :: _, _, _, _, ⟨v, us, e, r, p⟩, q => by
    subst e
    exact ⟨v, us ++ _, rfl, r, RepL.append p q⟩
theorem RepL.drop {H : Hp} {al : Addr → Prop} : ∀ {ds : List D} {vs : List V} (n : Nat), RepL K H al ds vs → RepL K H al (ds.drop n) (vs.drop n)
  | _, _, 0, h => h
  | [], _, _ + 1, h => by
    rw [show _ = [] from h]
    rfl
  | _ :: _, _, n + 1, ⟨v, us, e, r, p⟩ => by
    subst e
    exact RepL.drop n p
theorem RepL.take {H : Hp} {al : Addr → Prop} : ∀ {ds : List D} {vs : List V} (n : Nat), RepL K H al ds vs → RepL K H al (ds.take n) (vs.take n)
  | _, _, 0, _ => rfl
  | [], _, _ + 1, h => by
    rw [show _ = [] from h]
    rfl
  | _ :: _, _, n + 1, ⟨v, us, e, r, p⟩ => by
    subst e
    exact ⟨v, us.take n, rfl, r, RepL.take n p⟩
theorem RepL.set {H : Hp} {al : Addr → Prop} {d : D} {v : V} (r : Rep K H al d v) : ∀ {ds : List D} {vs : List V} (n : Nat), RepL K H al ds vs → RepL K H al (ds.set n d) (vs.set n v)
  | [], _, _, h => by
    rw [show _ = [] from h]
    rfl
  | _ :: _, _, 0, ⟨v, us, e, _, p⟩ => by
    subst e
    exact ⟨_, _, rfl, r, p⟩
  | _ :: _, _, n + 1, ⟨v, us, e, q, p⟩ => by
    subst e
    exact ⟨_, _, rfl, q, RepL.set r n p⟩
end
end Y

namespace Y
open PySem L2

/-! ### judgements: what a reading does -/
section
variable (K : PySem.W.Frag) (mg : Str → Option Value)
def ROk (w : Wd) (σ : L2.St) (ρ : Loc) : Prop := σ.length = ρ.length ∧ ∀ (i : Nat) (x : W), ρ[i]? = some (some x) → ∃ v, σ[i]? = some (some v) ∧ RepW K w x v
structure Gd (w : Wd) (s' : Sto) (w' : Wd) : Prop where
  stp : Stp w w'
  st : w'.st = s'
  ok : Ok K w'
def RepF (w : Wd) : List (Str × D) → List (Str × V) → Prop
  | [], vs => vs = []
  | (f, d) :: ds, vs => ∃ v us, vs = (f, v) :: us ∧ Rep K w.H w.al d v ∧ RepF w ds us
def RepX (w : Wd) (e : XC) (c : Value) (d : Option Addr) : Prop := ∃ C p fs, mg e.cls = some (.ref C) ∧ c = .ref C ∧ d = some p ∧ w.H p = some (.xd fs) ∧ RepF K w e.fs fs
def EOk (E : XK) (w : Wd) : XC → Sto → Prop := fun e s' => ∀ c d w', Gd K w s' w' → RepX K mg w' e c d → E c d w'.H
def PW (w : Wd) (Q : VK) : W → Sto → Prop := fun x s' => ∀ v w', Gd K w s' w' → RepW K w' x v → Q v w'.H
def PWs (w : Wd) (Q : List V → Hp → Prop) : List W → Sto → Prop := fun x s' => ∀ v w', Gd K w s' w' → RepWs K w' x v → Q v w'.H
def PB (w : Wd) (Q : Bool → Hp → Prop) : Bool → Sto → Prop := fun b s' => ∀ w', Gd K w s' w' → Q b w'.H
def PO' (w : Wd) (Q : Option Int → Hp → Prop) : Option Int → Sto → Prop := fun b s' => ∀ w', Gd K w s' w' → Q b w'.H
def EvE (E : XK) (te : TE) (F : Loc → M W) : Prop := ∀ σ ρ w, Ok K w → ROk K w σ ρ → ∀ Q : VK, (F ρ w.st).sat (PW K w Q) (EOk K mg E w) → te σ w.H Q
def EvT (E : XK) (te : TT) (F : Loc → M Bool) : Prop := ∀ σ ρ w, Ok K w → ROk K w σ ρ → ∀ Q : Bool → Hp → Prop, (F ρ w.st).sat (PB K w Q) (EOk K mg E w) → te σ w.H Q
def EvA (E : XK) (te : TA) (F : Loc → M (List W)) : Prop := ∀ σ ρ w, Ok K w → ROk K w σ ρ → ∀ Q : List V → Hp → Prop, (F ρ w.st).sat (PWs K w Q) (EOk K mg E w) → te σ w.H Q
def EvO (E : XK) (te : TO) (F : Loc → M (Option Int)) : Prop := ∀ σ ρ w, Ok K w → ROk K w σ ρ → ∀ Q : Option Int → Hp → Prop, (F ρ w.st).sat (PO' K w Q) (EOk K mg E w) → te σ w.H Q
def NoE : XC → Sto → Prop := fun _ _ => False
/-- an operation on two values, on one, on a list -/
def SemR2 (r : R2) (g : W → W → M W) : Prop := ∀ w a b x y, Ok K w → RepW K w a x → RepW K w b y → ∀ Q : VK, (g a b w.st).sat (PW K w Q) NoE → r x y w.H Q
def SemR1 (r : V → Hp → VK → Prop) (g : W → M W) : Prop := ∀ w a x, Ok K w → RepW K w a x → ∀ Q : VK, (g a w.st).sat (PW K w Q) NoE → r x w.H Q
def SemRL (r : List V → Hp → VK → Prop) (g : List W → M W) : Prop := ∀ w a x, Ok K w → RepWs K w a x → ∀ Q : VK, (g a w.st).sat (PW K w Q) NoE → r x w.H Q
end

section
variable {K : PySem.W.Frag} {mg : Str → Option Value} {E : XK} {w w' w'' : Wd} {s s' : Sto}
theorem Gd.refl (ok : Ok K w) : Gd K w w.st w := ⟨Stp.refl w, rfl, ok⟩
theorem Gd.trans (a : Gd K w s w') (b : Gd K w' s' w'') : Gd K w s' w'' := ⟨a.stp.trans b.stp, b.st, b.ok⟩
theorem ROk.nxt {σ : L2.St} {ρ : Loc} (h : ROk K w σ ρ) (x : Nxt w w') (ok : Ok K w) : ROk K w' σ ρ := ⟨h.1, fun i y e => by
  obtain ⟨v, e2, r⟩ := h.2 i y e
  exact ⟨v, e2, r.nxt x ok⟩⟩
theorem EOk.of (a : Gd K w s w') {e : XC} {s2 : Sto} (h : EOk K mg E w e s2) : EOk K mg E w' e s2 := fun c d w2 g r => h c d w2 (a.trans g) r
theorem PW.of {Q : VK} (a : Gd K w s w') {e : W} {s2 : Sto} (h : PW K w Q e s2) : PW K w' Q e s2 := fun c w2 g r => h c w2 (a.trans g) r
theorem PWs.of {Q : List V → Hp → Prop} (a : Gd K w s w') {e : List W} {s2 : Sto} (h : PWs K w Q e s2) : PWs K w' Q e s2 := fun c w2 g r => h c w2 (a.trans g) r
theorem PB.of {Q : Bool → Hp → Prop} (a : Gd K w s w') {e : Bool} {s2 : Sto} (h : PB K w Q e s2) : PB K w' Q e s2 := fun w2 g => h w2 (a.trans g)
/-- a step, then the rest -/
theorem ev1 {te : TE} {F : Loc → M W} (h : EvE K mg E te F) {σ : L2.St} {ρ : Loc} (ok : Ok K w) (r : ROk K w σ ρ) {α : Type} {f : W → M α} {P : α → Sto → Prop} {Q : VK}
    (hs : (M.bnd (F ρ) f w.st).sat P (EOk K mg E w)) (k : ∀ x v w', Gd K w w'.st w' → Ok K w' → ROk K w' σ ρ → RepW K w' x v → (f x w'.st).sat P (EOk K mg E w') → Q v w'.H) : te σ w.H Q := by
  refine h σ ρ w ok r Q ((sat_bnd.mp hs).mono (fun x s1 q v w1 g rv => ?_) fun _ _ z => z)
  obtain rfl := g.st
  exact k x v w1 g g.ok (r.nxt g.stp.toNxt ok) rv (q.mono (fun _ _ z => z) fun _ _ z => z.of g)
theorem evT1 {te : TT} {F : Loc → M Bool} (h : EvT K mg E te F) {σ : L2.St} {ρ : Loc} (ok : Ok K w) (r : ROk K w σ ρ) {α : Type} {f : Bool → M α} {P : α → Sto → Prop} {Q : Bool → Hp → Prop}
    (hs : (M.bnd (F ρ) f w.st).sat P (EOk K mg E w)) (k : ∀ x w', Gd K w w'.st w' → Ok K w' → ROk K w' σ ρ → (f x w'.st).sat P (EOk K mg E w') → Q x w'.H) : te σ w.H Q := by
  refine h σ ρ w ok r Q ((sat_bnd.mp hs).mono (fun x s1 q w1 g => ?_) fun _ _ z => z)
  obtain rfl := g.st
  exact k x w1 g g.ok (r.nxt g.stp.toNxt ok) (q.mono (fun _ _ z => z) fun _ _ z => z.of g)
theorem evA1 {te : TA} {F : Loc → M (List W)} (h : EvA K mg E te F) {σ : L2.St} {ρ : Loc} (ok : Ok K w) (r : ROk K w σ ρ) {α : Type} {f : List W → M α} {P : α → Sto → Prop} {Q : List V → Hp → Prop}
    (hs : (M.bnd (F ρ) f w.st).sat P (EOk K mg E w)) (k : ∀ x v w', Gd K w w'.st w' → Ok K w' → ROk K w' σ ρ → RepWs K w' x v → (f x w'.st).sat P (EOk K mg E w') → Q v w'.H) : te σ w.H Q := by
  refine h σ ρ w ok r Q ((sat_bnd.mp hs).mono (fun x s1 q v w1 g rv => ?_) fun _ _ z => z)
  obtain rfl := g.st
  exact k x v w1 g g.ok (r.nxt g.stp.toNxt ok) rv (q.mono (fun _ _ z => z) fun _ _ z => z.of g)
theorem evO1 {te : TO} {F : Loc → M (Option Int)} (h : EvO K mg E te F) {σ : L2.St} {ρ : Loc} (ok : Ok K w) (r : ROk K w σ ρ) {α : Type} {f : Option Int → M α} {P : α → Sto → Prop} {Q : Option Int → Hp → Prop}
    (hs : (M.bnd (F ρ) f w.st).sat P (EOk K mg E w)) (k : ∀ x w', Gd K w w'.st w' → Ok K w' → ROk K w' σ ρ → (f x w'.st).sat P (EOk K mg E w') → Q x w'.H) : te σ w.H Q := by
  refine h σ ρ w ok r Q ((sat_bnd.mp hs).mono (fun x s1 q w1 g => ?_) fun _ _ z => z)
  obtain rfl := g.st
  exact k x w1 g g.ok (r.nxt g.stp.toNxt ok) (q.mono (fun _ _ z => z) fun _ _ z => z.of g)
/-- the end of a chain of steps -/
theorem pw_end {Q : VK} (a : Gd K w s w') {r : Res W} (h : r.sat (PW K w Q) NoE) : r.sat (PW K w' Q) NoE := h.mono (fun _ _ z => z.of a) fun _ _ z => z

/-! ### what changes a world -/
theorem upd_off {H : Hp} {a b : Addr} {o u : HO} (e : H b = some u) (h : b ≠ a) : upd H a o b = some u := by
  rw [upd_ne h]
  exact e
def Wd.lay (w : Wd) (p : Addr) (o : HO) : Wd := { w with H := upd w.H p o }
theorem Ok.hotT {w : Wd} (ok : Ok K w) {a : Addr} (h : w.hot a) : a ∈ w.hs := by
  obtain ⟨n, ds, h1, _⟩ := h
  exact List.mem_of_getElem? h1
theorem upd_lv {H : Hp} {p : Addr} {o : HO} {a : Addr} (h : H a ≠ none) : upd H p o a ≠ none := by
  by_cases ha : a = p
  · rw [ha, upd_same]; exact fun z => nomatch z
  · rw [upd_ne ha]; exact h
theorem DRep.lay {H : Hp} {al : Addr → Prop} {H' : Hp} {al' : Addr → Prop} {a : Addr} {ds : List D} (h : DRep K H al a ds) (k : ∀ u, H a = some u → H' a = some u) (e : ∀ es, DEnt K H al ds es → DEnt K H' al' ds es) : DRep K H' al' a ds := by
  obtain ⟨es, ep, h1, h2, h3⟩ := h
  exact ⟨es, ep, k _ h1, e es h2, h3⟩
theorem nxt_lay (ok : Ok K w) {p : Addr} {o : HO} (hp : w.H p = none) : Nxt w (w.lay p o) :=
  ⟨fun a u h _ => by
    show upd w.H p o a = some u
    rw [upd_ne (ne_of_none h hp)]
    exact h, ⟨[], by simp [Wd.lay]⟩, fun a h => .inl h, fun _ _ => Iff.rfl, fun _ h => upd_lv h⟩
theorem gd_lay (ok : Ok K w) {p : Addr} {o : HO} (hp : w.H p = none) : Gd K w w.st (w.lay p o) := by
  have x := nxt_lay (o := o) ok hp
  refine ⟨⟨x, rfl, fun a u _ h => ?_⟩, rfl, ok.len, ok.nd, fun n a ds h1 h2 hd => ?_, fun n a ds h1 h2 hd => ?_, ok.dkh, fun a h => ?_, fun a h => ?_⟩
  · show upd w.H p o a = some u
    rw [upd_ne (ne_of_none h hp)]
    exact h
  · obtain ⟨vs, e, r⟩ := ok.cell n a ds h1 h2 hd
    refine ⟨vs, ?_, r.nxt x ok⟩
    show upd w.H p o a = _
    rw [upd_ne (ne_of_none e hp)]
    exact e
  · exact (ok.celd n a ds h1 h2 hd).lay (fun u e => by show upd w.H p o a = _; rw [upd_ne (ne_of_none e hp)]; exact e) fun es z => z.nxt x ok
  · show upd w.H p o a ≠ none
    cases e : w.H a with
    | none => exact absurd e (ok.trk a h)
    | some u => rw [upd_ne (ne_of_none e hp), e]; exact fun z => nomatch z
  · obtain ⟨h1, vs, e⟩ := ok.gst a h
    refine ⟨h1, vs, ?_⟩
    show upd w.H p o a = _
    rw [upd_ne (ne_of_none e hp)]
    exact e
theorem lay_al {p : Addr} {o : HO} {a : Addr} : (w.lay p o).al a ↔ w.al a := Iff.rfl
theorem Ok.al_some (ok : Ok K w) {a : Addr} (h : w.al a) : w.H a ≠ none := by
  rcases ok.alL h with ⟨vs, e⟩ | ⟨es, ep, e⟩ <;> rw [e] <;> exact fun z => nomatch z
theorem rep_tup (ok : Ok K w) {p : Addr} (hp : w.H p = none) {ds : List D} {vs : List V} (r : RepL K w.H w.al ds vs) : RepW K (w.lay p (.tup vs)) (.d (.tup ds)) (.ref p) :=
  ⟨p, vs, rfl, .inl (.inl upd_same), r.nxt (nxt_lay ok hp) ok⟩
theorem rep_lst (ok : Ok K w) {p : Addr} (hp : w.H p = none) {ds : List D} {vs : List V} (r : RepL K w.H w.al ds vs) : RepW K (w.lay p (.lst vs)) (.d (.lst ds)) (.ref p) :=
  ⟨p, vs, rfl, upd_same, fun z => ok.al_some (lay_al.mp z) hp, r.nxt (nxt_lay ok hp) ok⟩
/-- a new list of the store -/
def Wd.hnd (w : Wd) (p : Addr) (ds : List D) (vs : List V) : Wd := { w with H := upd w.H p (.lst vs), hs := w.hs ++ [p], st := w.st ++ [some ds] }
theorem gd_hnd (ok : Ok K w) {p : Addr} {ds : List D} {vs : List V} (hp : w.H p = none) (r : RepL K w.H w.al ds vs) : Gd K w (w.st ++ [some ds]) (w.hnd p ds vs) := by
  have hph : p ∉ w.hs := fun h => ok.trk p h hp
  have hot : ∀ a, (w.hnd p ds vs).hot a → w.hot a ∨ a = p := by
    rintro a ⟨n, es, h1, h2⟩
    have h1' : (w.hs ++ [p])[n]? = some a := h1
    have h2' : (w.st ++ [some ds])[n]? = some (some es) := h2
    by_cases hn : n < w.hs.length
    · rw [List.getElem?_append_left hn] at h1'
      rw [List.getElem?_append_left (by rw [← ok.len]; exact hn)] at h2'
      exact .inl ⟨n, es, h1', h2'⟩
    · rw [List.getElem?_append_right (by omega)] at h1'
      have : n - w.hs.length = 0 := by
        have := (List.getElem?_eq_some_iff.mp h1').1
        simp at this
        omega
      rw [this] at h1'
      simp at h1'
      exact .inr h1'.symm
  have x : Nxt w (w.hnd p ds vs) := ⟨fun a u h _ => by
      show upd w.H p _ a = some u
      rw [upd_ne (ne_of_none h hp)]
      exact h, ⟨[p], rfl⟩, fun a h => by
      rcases h with h | h
      · rcases hot a h with h | h
        · exact .inl (.inl h)
        · rw [h]; exact .inr hp
      · exact .inl (.inr h), fun _ _ => Iff.rfl, fun _ h => upd_lv h⟩
  have hpd : ¬ w.dk p := fun z => hph (ok.dkh p z)
  refine ⟨⟨x, rfl, fun a u _ h => ?_⟩, rfl, ?_, ?_, fun n a es h1 h2 hd => ?_, fun n a es h1 h2 hd => ?_, fun a h => List.mem_append_left _ (ok.dkh a h), fun a h => ?_, fun a h => ?_⟩
  · show upd w.H p _ a = some u
    rw [upd_ne (ne_of_none h hp)]
    exact h
  · show (w.hs ++ [p]).length = (w.st ++ [some ds]).length
    simp [ok.len]
  · show (w.hs ++ [p]).Nodup
    rw [List.nodup_append]
    refine ⟨ok.nd, by simp, fun a ha b hb => ?_⟩
    simp at hb
    rw [hb]
    rintro rfl
    exact hph ha
  · have h1' : (w.hs ++ [p])[n]? = some a := h1
    have h2' : (w.st ++ [some ds])[n]? = some (some es) := h2
    by_cases hn : n < w.hs.length
    · rw [List.getElem?_append_left hn] at h1'
      rw [List.getElem?_append_left (by rw [← ok.len]; exact hn)] at h2'
      obtain ⟨us, e, q⟩ := ok.cell n a es h1' h2' hd
      refine ⟨us, ?_, q.nxt x ok⟩
      show upd w.H p _ a = _
      rw [upd_ne (ne_of_none e hp)]
      exact e
    · rw [List.getElem?_append_right (by omega)] at h1'
      rw [List.getElem?_append_right (by rw [← ok.len]; omega), ← ok.len] at h2'
      have : n - w.hs.length = 0 := by
        have := (List.getElem?_eq_some_iff.mp h1').1
        simp at this
        omega
      rw [this] at h1' h2'
      simp at h1' h2'
      subst h1' h2'
      exact ⟨vs, upd_same, r.nxt x ok⟩
  · have h1' : (w.hs ++ [p])[n]? = some a := h1
    have h2' : (w.st ++ [some ds])[n]? = some (some es) := h2
    have hd' : w.dk a := hd
    by_cases hn : n < w.hs.length
    · rw [List.getElem?_append_left hn] at h1'
      rw [List.getElem?_append_left (by rw [← ok.len]; exact hn)] at h2'
      exact (ok.celd n a es h1' h2' hd').lay (fun u e => by show upd w.H p _ a = _; rw [upd_ne (ne_of_none e hp)]; exact e) fun es z => z.nxt x ok
    · rw [List.getElem?_append_right (by omega)] at h1'
      have : n - w.hs.length = 0 := by
        have := (List.getElem?_eq_some_iff.mp h1').1
        simp at this
        omega
      rw [this] at h1'
      simp at h1'
      exact absurd (h1' ▸ hd') hpd
  · have h' : a ∈ w.hs ++ [p] := h
    show upd w.H p _ a ≠ none
    by_cases ha : a = p
    · rw [ha, upd_same]; exact fun z => nomatch z
    · rw [upd_ne ha]
      refine ok.trk a ?_
      simpa [ha] using h'
  · obtain ⟨h1, us, e⟩ := ok.gst a h
    refine ⟨fun z => ?_, us, ?_⟩
    · have z' : a ∈ w.hs ++ [p] := z
      rcases List.mem_append.mp z' with z' | z'
      · exact h1 z'
      · simp at z'
        rw [z', hp] at e
        cases e
    · show upd w.H p _ a = _
      rw [upd_ne (ne_of_none e hp)]
      exact e
theorem rep_hnd (ok : Ok K w) {p : Addr} {ds : List D} {vs : List V} (hp : w.H p = none) : RepW K (w.hnd p ds vs) (.h w.st.length) (.ref p) :=
  ⟨p, by show (w.hs ++ [p])[w.st.length]? = some p; rw [← ok.len]; simp, rfl, fun z => ok.trk p (ok.dkh p z) hp⟩
/-- a list of the store is changed -/
def Wd.put (w : Wd) (n : Nat) (p : Addr) (ds : List D) (vs : List V) : Wd := { w with H := upd w.H p (.lst vs), st := w.st.set n (some ds) }
theorem nd_get {hs : List Addr} (nd : hs.Nodup) {i j : Nat} {a : Addr} (h1 : hs[i]? = some a) (h2 : hs[j]? = some a) : i = j := by
  exact (List.getElem?_inj (List.getElem?_eq_some_iff.mp h1).1 nd).mp (h1.trans h2.symm)
theorem gd_put (ok : Ok K w) {n : Nat} {p : Addr} {es ds : List D} {vs : List V} (h1 : w.hs[n]? = some p) (h2 : w.st[n]? = some (some es)) (hnd : ¬ w.dk p) (r : RepL K w.H w.al ds vs) : Gd K w (w.st.set n (some ds)) (w.put n p ds vs) := by
  have hh : w.hot p := ⟨n, es, h1, h2⟩
  have hot : ∀ a, (w.put n p ds vs).hot a → w.hot a := by
    rintro a ⟨m, us, q1, q2⟩
    have q2' : (w.st.set n (some ds))[m]? = some (some us) := q2
    by_cases hm : n = m
    · subst hm
      have q1' : w.hs[n]? = some a := q1
      exact ⟨n, es, q1', h2⟩
    · rw [List.getElem?_set_ne hm] at q2'
      exact ⟨m, us, q1, q2'⟩
  have x : Nxt w (w.put n p ds vs) := ⟨fun a u h na => by
      show upd w.H p _ a = some u
      exact upd_off h fun z => na (.inl (by rw [z]; exact hh)), ⟨[], by simp [Wd.put]⟩, fun a h => by
      rcases h with h | h
      · exact .inl (.inl (hot a h))
      · exact .inl (.inr h), fun _ _ => Iff.rfl, fun _ h => upd_lv h⟩
  refine ⟨⟨x, rfl, fun a u g h => ?_⟩, rfl, ?_, ok.nd, fun m a us q1 q2 hd => ?_, fun m a us q1 q2 hd => ?_, ok.dkh, fun a h => ?_, fun a h => ?_⟩
  · show upd w.H p _ a = some u
    exact upd_off h fun z => (ok.gst a g).1 (by rw [z]; exact ok.hotT hh)
  · show w.hs.length = (w.st.set n (some ds)).length
    rw [List.length_set]
    exact ok.len
  · have q1' : w.hs[m]? = some a := q1
    have q2' : (w.st.set n (some ds))[m]? = some (some us) := q2
    by_cases hm : n = m
    · subst hm
      rw [h1] at q1'
      cases q1'
      rw [List.getElem?_set_self (List.getElem?_eq_some_iff.mp h2).1] at q2'
      cases q2'
      exact ⟨vs, upd_same, r.nxt x ok⟩
    · rw [List.getElem?_set_ne hm] at q2'
      obtain ⟨zs, e, q⟩ := ok.cell m a us q1' q2' hd
      refine ⟨zs, ?_, q.nxt x ok⟩
      show upd w.H p _ a = _
      exact upd_off e fun z => hm (nd_get ok.nd h1 (by rw [← z]; exact q1'))
  · have q1' : w.hs[m]? = some a := q1
    have q2' : (w.st.set n (some ds))[m]? = some (some us) := q2
    have hd' : w.dk a := hd
    have hap : a ≠ p := fun z => hnd (z ▸ hd')
    have hm : n ≠ m := fun z => by subst z; rw [h1] at q1'; exact hap (Option.some.inj q1').symm
    rw [List.getElem?_set_ne hm] at q2'
    exact (ok.celd m a us q1' q2' hd').lay (fun u e => by show upd w.H p _ a = _; exact upd_off e hap) fun es z => z.nxt x ok
  · show upd w.H p _ a ≠ none
    by_cases ha : a = p
    · rw [ha, upd_same]; exact fun z => nomatch z
    · rw [upd_ne ha]
      exact ok.trk a h
  · obtain ⟨q1, us, e⟩ := ok.gst a h
    refine ⟨q1, us, ?_⟩
    show upd w.H p _ a = _
    exact upd_off e fun z => q1 (by rw [z]; exact ok.hotT hh)
/-- a list of the store is left as it is for ever -/
def Wd.cold (w : Wd) (n : Nat) : Wd := { w with st := w.st.set n none }
theorem gd_cold (ok : Ok K w) (n : Nat) : Gd K w (w.st.set n none) (w.cold n) := by
  have hot : ∀ a, (w.cold n).hot a → w.hot a ∧ ∀ p, w.hs[n]? = some p → a ≠ p := by
    rintro a ⟨m, us, q1, q2⟩
    have q2' : (w.st.set n none)[m]? = some (some us) := q2
    have q1' : w.hs[m]? = some a := q1
    by_cases hm : n = m
    · subst hm
      have hl : n < w.st.length := by rw [← ok.len]; exact (List.getElem?_eq_some_iff.mp q1').1
      rw [List.getElem?_set_self hl] at q2'
      cases q2'
    · rw [List.getElem?_set_ne hm] at q2'
      exact ⟨⟨m, us, q1, q2'⟩, fun p hp z => hm (nd_get ok.nd hp (z ▸ q1'))⟩
  have x : Nxt w (w.cold n) := ⟨fun a u h _ => h, ⟨[], by simp [Wd.cold]⟩, fun a h => by
      rcases h with h | h
      · exact .inl (.inl (hot a h).1)
      · exact .inl (.inr h), fun _ _ => Iff.rfl, fun _ h => h⟩
  refine ⟨⟨x, rfl, fun a u g h => h⟩, rfl, ?_, ok.nd, fun m a us q1 q2 hd => ?_, fun m a us q1 q2 hd => ?_, ok.dkh, ok.trk, ok.gst⟩
  · show w.hs.length = (w.st.set n none).length
    rw [List.length_set]
    exact ok.len
  · have q2' : (w.st.set n none)[m]? = some (some us) := q2
    have q1' : w.hs[m]? = some a := q1
    by_cases hm : n = m
    · subst hm
      have hl : n < w.st.length := by rw [← ok.len]; exact (List.getElem?_eq_some_iff.mp q1').1
      rw [List.getElem?_set_self hl] at q2'
      cases q2'
    · rw [List.getElem?_set_ne hm] at q2'
      obtain ⟨zs, e, q⟩ := ok.cell m a us q1' q2' hd
      exact ⟨zs, e, q.nxt x ok⟩
  · have q2' : (w.st.set n none)[m]? = some (some us) := q2
    have q1' : w.hs[m]? = some a := q1
    by_cases hm : n = m
    · subst hm
      have hl : n < w.st.length := by rw [← ok.len]; exact (List.getElem?_eq_some_iff.mp q1').1
      rw [List.getElem?_set_self hl] at q2'
      cases q2'
    · rw [List.getElem?_set_ne hm] at q2'
      exact (ok.celd m a us q1' q2' hd).lay (fun u e => e) fun es z => z.nxt x ok
theorem rep_cold (ok : Ok K w) {n : Nat} {p : Addr} {ds : List D} (h1 : w.hs[n]? = some p) (h2 : w.st[n]? = some (some ds)) (hnd : ¬ w.dk p) : RepW K (w.cold n) (.d (.lst ds)) (.ref p) := by
  obtain ⟨vs, e, r⟩ := ok.cell n p ds h1 h2 hnd
  refine ⟨p, vs, rfl, e, ?_, r.nxt (gd_cold ok n).stp.toNxt ok⟩
  rintro (⟨m, us, q1, q2⟩ | g)
  · have q2' : (w.st.set n none)[m]? = some (some us) := q2
    have q1' : w.hs[m]? = some p := q1
    have hm := nd_get ok.nd h1 q1'
    subst hm
    rw [List.getElem?_set_self (List.getElem?_eq_some_iff.mp h2).1] at q2'
    cases q2'
  · exact (ok.gst p g).1 (List.mem_of_getElem? h1)
end
end Y

namespace Y
open PySem L2

/-! ### what a run is made of -/
def vw (s : Sto) : W → Option D
  | .d x => some x
  | .r _ => none
  | .k _ => none
  | .h n => match s[n]? with
    | some (some ds) => some (.lst ds)
    | _ => none
def seqOf : D → Option (List D)
  | .tup ds => some ds
  | .lst ds => some ds
  | .frz ds => some ds
  | .tux ds => some ds
  | _ => none
def getL (i : Nat) : Loc → M W := fun ρ s => match ρ[i]? with
  | some (some x) => .ok x s
  | _ => .bad
/-- a name whose list is never changed again -/
def getF (i : Nat) : Loc → M W := fun ρ s => match ρ[i]? with
  | some (some (.d x)) => .ok (.d x) s
  | some (some (.h n)) => match s[n]? with
    | some (some ds) => .ok (.d (.lst ds)) (s.set n none)
    | _ => .bad
  | _ => .bad
def gB (x : W) : M Bool := fun s => match x with
  | .d (.bl b) => .ok b s
  | _ => .bad
def gI (x : W) : M Int := fun s => match x with
  | .d (.int b) => .ok b s
  | _ => .bad
def cst (d : D) : Loc → M W := fun _ => M.ret (.d d)
def andV (F G : Loc → M W) : Loc → M W := fun ρ => M.bnd (F ρ) fun x => M.bnd (gB x) fun c => if c = true then G ρ else M.ret (.d (.bl false))
def orV (F G : Loc → M W) : Loc → M W := fun ρ => M.bnd (F ρ) fun x => M.bnd (gB x) fun c => if c = true then M.ret (.d (.bl true)) else G ρ
def notV (F : Loc → M W) : Loc → M W := fun ρ => M.bnd (F ρ) fun x => M.bnd (gB x) fun c => M.ret (.d (.bl (!c)))
def tstV (F : Loc → M W) : Loc → M Bool := fun ρ => M.bnd (F ρ) gB
def andT (F G : Loc → M Bool) : Loc → M Bool := fun ρ => M.bnd (F ρ) fun c => if c = true then G ρ else M.ret false
def orT (F G : Loc → M Bool) : Loc → M Bool := fun ρ => M.bnd (F ρ) fun c => if c = true then M.ret true else G ρ
def notT (F : Loc → M Bool) : Loc → M Bool := fun ρ => M.bnd (F ρ) fun c => M.ret (!c)
def ifE (T : Loc → M Bool) (F G : Loc → M W) : Loc → M W := fun ρ => M.bnd (T ρ) fun c => if c = true then F ρ else G ρ
def op1 (g : W → M W) (F : Loc → M W) : Loc → M W := fun ρ => M.bnd (F ρ) g
def op2 (g : W → W → M W) (F G : Loc → M W) : Loc → M W := fun ρ => M.bnd (F ρ) fun a => M.bnd (G ρ) fun b => g a b
def opL (g : List W → M W) (F : Loc → M (List W)) : Loc → M W := fun ρ => M.bnd (F ρ) g
def chn (g g' : W → W → M W) (F G L : Loc → M W) : Loc → M W := fun ρ => M.bnd (F ρ) fun a => M.bnd (G ρ) fun b => M.bnd (g a b) fun z => M.bnd (gB z) fun k =>
  if k = true then M.bnd (L ρ) fun c => g' b c else M.ret (.d (.bl false))
def argN : Loc → M (List W) := fun _ => M.ret []
def argC (F : Loc → M W) (G : Loc → M (List W)) : Loc → M (List W) := fun ρ => M.bnd (F ρ) fun a => M.bnd (G ρ) fun as => M.ret (a :: as)
/-- what stands in a display: data alone -/
def dats : List W → Option (List D)
  | [] => some []
  | .d x :: r => (dats r).map (x :: ·)
  | .h _ :: _ => none
  | .r _ :: _ => none
  | .k _ :: _ => none
def cap : Nat := 100000
def gTup (xs : List W) : M W := fun s => match dats xs with
  | some ds => if ds.length ≤ cap then .ok (.d (.tup ds)) s else .bad
  | none => .bad
def gLst (xs : List W) : M W := fun s => match dats xs with
  | some ds => if ds.length ≤ cap then .ok (.d (.lst ds)) s else .bad
  | none => .bad
/-- a new list that will be changed -/
def gNew (xs : List W) : M W := fun s => match dats xs with
  | some ds => if ds.length ≤ cap then .ok (.h s.length) (s ++ [some ds]) else .bad
  | none => .bad
def truD : D → Option Bool
  | .non => some false
  | .bl b => some b
  | .int i => some (i != 0)
  | .str y => if y.length ≤ cap then some ((y.length : Int) != 0) else none
  | .tup ds => some (!ds.isEmpty)
  | .lst ds => some (!ds.isEmpty)
  | .frz ds => some (!ds.isEmpty)
  | .tux ds => some (!ds.isEmpty)
def gTru (x : W) : M Bool := fun s => match (vw s x).bind truD with
  | some b => .ok b s
  | none => .bad
def truT (F : Loc → M W) : Loc → M Bool := fun ρ => M.bnd (F ρ) gTru
def slN : Loc → M (Option Int) := fun _ => M.ret none
def slS (F : Loc → M W) : Loc → M (Option Int) := fun ρ => M.bnd (F ρ) fun a => M.bnd (gI a) fun i => M.ret (some i)
def opS (g : W → Option Int → Option Int → M W) (F : Loc → M W) (A B : Loc → M (Option Int)) : Loc → M W := fun ρ => M.bnd (F ρ) fun a => M.bnd (A ρ) fun l => M.bnd (B ρ) fun u => g a l u

section
variable {K : PySem.W.Frag} {mg : Str → Option Value} {E : XK} {w : Wd}
theorem capS {n : Nat} (h : n ≤ cap) : n ≤ sizeLine := Nat.le_trans h (by decide)
theorem capL {n : Nat} (h : n < cap) : n < sizeLine := Nat.lt_of_lt_of_le h (by decide)
theorem rd_vw (ok : Ok K w) {x : W} {d : D} {v : V} (h : vw w.st x = some d) (r : RepW K w x v) : (x = .d d) ∨ ∃ ds a vs, d = .lst ds ∧ v = .ref a ∧ w.H a = some (.lst vs) ∧ RepL K w.H w.al ds vs := by
  cases x with
  | r n => cases h
  | k n => cases h
  | d y =>
    have h' : some y = some d := h
    exact .inl (by rw [Option.some.inj h'])
  | h n =>
    obtain ⟨a, e, rfl, hnd⟩ := r
    simp only [vw] at h
    split at h
    · rename_i ds hd
      cases h
      obtain ⟨vs, e2, q⟩ := ok.cell n a ds e hd hnd
      exact .inr ⟨ds, a, vs, rfl, rfl, e2, q⟩
    · cases h
theorem rd_lst (ok : Ok K w) {x : W} {ds : List D} {v : V} (h : vw w.st x = some (.lst ds)) (r : RepW K w x v) : ∃ a vs, v = .ref a ∧ w.H a = some (.lst vs) ∧ RepL K w.H w.al ds vs := by
  rcases rd_vw ok h r with rfl | ⟨es, a, vs, e, h1, h2, h3⟩
  · obtain ⟨a, vs, e, h1, _, h2⟩ := r
    exact ⟨a, vs, e, h1, h2⟩
  · cases e
    exact ⟨a, vs, h1, h2, h3⟩
theorem fz_sq {H : Hp} {a : Addr} {xs : List V} (h : FzL K H a xs) : SqL K H a xs := by
  rcases h with ⟨o, h⟩ | h
  · exact .inl (.inr ⟨o, h⟩)
  · exact .inr h
theorem tux_sq {H : Hp} {a : Addr} {vs : List V} (h : ∃ o, H a = some (.frz o (.tup vs)) ∧ o.dict = none) : SqT K H a vs := by
  obtain ⟨o, h, _⟩ := h
  exact .inl (.inr ⟨o, h⟩)
theorem rd_seq (ok : Ok K w) {x : W} {d : D} {ds : List D} {v : V} (h : vw w.st x = some d) (hs : seqOf d = some ds) (r : RepW K w x v) : ∃ a vs, v = .ref a ∧ (SqL K w.H a vs ∨ SqT K w.H a vs) ∧ RepL K w.H w.al ds vs := by
  rcases rd_vw ok h r with rfl | ⟨es, a, vs, rfl, h1, h2, h3⟩
  · cases d with
    | tup es =>
      cases hs
      obtain ⟨a, vs, e, h1, h2⟩ := r
      exact ⟨a, vs, e, .inr h1, h2⟩
    | lst es =>
      cases hs
      obtain ⟨a, vs, e, h1, _, h2⟩ := r
      exact ⟨a, vs, e, .inl (SqL.of h1), h2⟩
    | frz es =>
      cases hs
      obtain ⟨a, vs, e, h1, h2⟩ := r
      exact ⟨a, vs, e, .inl (fz_sq h1), h2⟩
    | tux es =>
      cases hs
      obtain ⟨a, vs, e, h1, h2⟩ := r
      exact ⟨a, vs, e, .inr (tux_sq h1), h2⟩
    | _ => cases hs
  · cases hs
    exact ⟨a, vs, h1, .inl (SqL.of h2), h3⟩
theorem rd_sqL (ok : Ok K w) {x : W} {d : D} {ds : List D} {v : V} (h : vw w.st x = some d) (hs : d = .lst ds ∨ d = .frz ds) (r : RepW K w x v) : ∃ a vs, v = .ref a ∧ SqL K w.H a vs ∧ RepL K w.H w.al ds vs := by
  rcases hs with rfl | rfl
  · obtain ⟨a, vs, e, h1, h2⟩ := rd_lst ok h r
    exact ⟨a, vs, e, SqL.of h1, h2⟩
  · rcases rd_vw ok h r with rfl | ⟨es, a, vs, e, _⟩
    · obtain ⟨a, vs, e, h1, h2⟩ := r
      exact ⟨a, vs, e, fz_sq h1, h2⟩
    · cases e
theorem rd_tup (ok : Ok K w) {x : W} {ds : List D} {v : V} (h : vw w.st x = some (.tup ds)) (r : RepW K w x v) : ∃ a vs, v = .ref a ∧ SqT K w.H a vs ∧ RepL K w.H w.al ds vs := by
  rcases rd_vw ok h r with rfl | ⟨es, a, vs, e, _⟩
  · exact r
  · cases e
theorem dats_rep : ∀ {xs : List W} {ds : List D} {vs : List V}, dats xs = some ds → RepWs K w xs vs → RepL K w.H w.al ds vs
  | [], ds, vs, h, r => by
    cases h
    exact r
  | .d x :: xs, ds, vs, h, ⟨v, us, e, r, q⟩ => by
    simp only [dats] at h
    cases hx : dats xs with
    | none => rw [hx] at h; cases h
    | some es =>
      rw [hx] at h
      cases h
      exact ⟨v, us, e, r, dats_rep hx q⟩
  | .h n :: xs, ds, vs, h, _ => by cases h
  | .r n :: xs, ds, vs, h, _ => by cases h
  | .k n :: xs, ds, vs, h, _ => by cases h
theorem pw_here {Q : VK} {x : W} {v : V} (ok : Ok K w) (r : RepW K w x v) (h : PW K w Q x w.st) : Q v w.H := h v w (Gd.refl ok) r

/-! ### expressions -/
theorem ev_var {i : Nat} : EvE K mg E (tVar i) (getL i) := by
  intro σ ρ w ok r Q h
  unfold getL at h
  split at h
  · rename_i x hx
    obtain ⟨v, e, rv⟩ := r.2 i x hx
    exact ⟨v, e, pw_here ok rv h⟩
  · exact h.elim
theorem ev_frz {i : Nat} : EvE K mg E (tVar i) (getF i) := by
  intro σ ρ w ok r Q h
  unfold getF at h
  split at h
  · rename_i x hx
    obtain ⟨v, e, rv⟩ := r.2 i _ hx
    exact ⟨v, e, pw_here ok rv h⟩
  · rename_i n hx
    obtain ⟨v, e, rv⟩ := r.2 i _ hx
    split at h
    · rename_i ds hd
      obtain ⟨a, ea, rfl, hnd⟩ := rv
      exact ⟨_, e, h _ (w.cold n) (gd_cold ok n) (rep_cold ok ea hd hnd)⟩
    · exact h.elim
  · exact h.elim
theorem ev_c {v : V} {d : D} (hr : ∀ H al, Rep K H al d v) : EvE K mg E (tC v) (cst d) := fun σ ρ w ok r Q h => pw_here (x := .d d) ok (hr _ _) h
theorem ev_int {i : Int} : EvE K mg E (tC (.int i)) (cst (.int i)) := ev_c fun _ _ => rfl
theorem ev_bl {i : Bool} : EvE K mg E (tC (.bl i)) (cst (.bl i)) := ev_c fun _ _ => rfl
theorem ev_non : EvE K mg E (tC .non) (cst .non) := ev_c fun _ _ => rfl
theorem ev_str {i : Str} : EvE K mg E (tC (.str i)) (cst (.str i)) := ev_c fun _ _ => rfl
theorem gB_sat {α : Type} {x : W} {v : V} {f : Bool → M α} {s : Sto} {P : α → Sto → Prop} {E : XC → Sto → Prop} (h : (M.bnd (gB x) f s).sat P E) (r : RepW K w x v) : ∃ c, v = .bl c ∧ x = .d (.bl c) ∧ (f c s).sat P E := by
  rw [sat_bnd] at h
  unfold gB at h
  split at h
  · rename_i b
    exact ⟨b, r, rfl, h⟩
  · exact h.elim
theorem gI_sat {α : Type} {x : W} {v : V} {f : Int → M α} {s : Sto} {P : α → Sto → Prop} {E : XC → Sto → Prop} (h : (M.bnd (gI x) f s).sat P E) (r : RepW K w x v) : ∃ c, v = .int c ∧ x = .d (.int c) ∧ (f c s).sat P E := by
  rw [sat_bnd] at h
  unfold gI at h
  split at h
  · rename_i b
    exact ⟨b, r, rfl, h⟩
  · exact h.elim
theorem ev_and {ta tb : TE} {F G : Loc → M W} (ha : EvE K mg E ta F) (hb : EvE K mg E tb G) : EvE K mg E (tAndV ta tb) (andV F G) := by
  intro σ ρ w ok r Q h
  refine ev1 ha ok r h fun x v w1 g1 ok1 r1 rv h1 => ?_
  obtain ⟨c, rfl, rfl, h2⟩ := gB_sat h1 rv
  refine ⟨c, rfl, ?_⟩
  cases c with
  | true => exact hb σ ρ w1 ok1 r1 Q (h2.mono (fun _ _ z => PW.of g1 z) fun _ _ z => z)
  | false => exact h2 _ w1 (g1) rfl
theorem ev_or {ta tb : TE} {F G : Loc → M W} (ha : EvE K mg E ta F) (hb : EvE K mg E tb G) : EvE K mg E (tOrV ta tb) (orV F G) := by
  intro σ ρ w ok r Q h
  refine ev1 ha ok r h fun x v w1 g1 ok1 r1 rv h1 => ?_
  obtain ⟨c, rfl, rfl, h2⟩ := gB_sat h1 rv
  refine ⟨c, rfl, ?_⟩
  cases c with
  | false => exact hb σ ρ w1 ok1 r1 Q (h2.mono (fun _ _ z => PW.of g1 z) fun _ _ z => z)
  | true => exact h2 _ w1 (g1) rfl
theorem ev_not {ta : TE} {F : Loc → M W} (ha : EvE K mg E ta F) : EvE K mg E (tNotV ta) (notV F) := by
  intro σ ρ w ok r Q h
  refine ev1 ha ok r h fun x v w1 g1 ok1 r1 rv h1 => ?_
  obtain ⟨c, rfl, rfl, h2⟩ := gB_sat h1 rv
  exact ⟨c, rfl, h2 _ w1 g1 rfl⟩
theorem et_val {ta : TE} {F : Loc → M W} (ha : EvE K mg E ta F) : EvT K mg E (tB ta) (tstV F) := by
  intro σ ρ w ok r Q h
  refine ev1 ha ok r h fun x v w1 g1 ok1 r1 rv h1 => ?_
  have h1' : (M.bnd (gB x) M.ret w1.st).sat (PB K w Q) (EOk K mg E w1) := sat_bnd.mpr (h1.mono (fun _ _ z => z) fun _ _ z => z)
  obtain ⟨c, rfl, rfl, h2⟩ := gB_sat h1' rv
  exact ⟨c, rfl, h2 w1 g1⟩
theorem et_tst {ta : TE} {F : Loc → M W} (ha : EvE K mg E ta F) : EvT K mg E (tTest ta) (tstV F) := et_val ha
theorem et_and {ta tb : TT} {F G : Loc → M Bool} (ha : EvT K mg E ta F) (hb : EvT K mg E tb G) : EvT K mg E (tAnd ta tb) (andT F G) := by
  intro σ ρ w ok r Q h
  refine evT1 ha ok r h fun c w1 g1 ok1 r1 h2 => ?_
  cases c with
  | true => exact hb σ ρ w1 ok1 r1 Q (h2.mono (fun _ _ z => PB.of g1 z) fun _ _ z => z)
  | false => exact h2 w1 g1
theorem et_or {ta tb : TT} {F G : Loc → M Bool} (ha : EvT K mg E ta F) (hb : EvT K mg E tb G) : EvT K mg E (tOr ta tb) (orT F G) := by
  intro σ ρ w ok r Q h
  refine evT1 ha ok r h fun c w1 g1 ok1 r1 h2 => ?_
  cases c with
  | false => exact hb σ ρ w1 ok1 r1 Q (h2.mono (fun _ _ z => PB.of g1 z) fun _ _ z => z)
  | true => exact h2 w1 g1
theorem et_not {ta : TT} {F : Loc → M Bool} (ha : EvT K mg E ta F) : EvT K mg E (tNot ta) (notT F) := by
  intro σ ρ w ok r Q h
  exact evT1 ha ok r h fun c w1 g1 ok1 r1 h2 => h2 w1 g1
theorem ev_if {tt : TT} {ta tb : TE} {T : Loc → M Bool} {F G : Loc → M W} (ht : EvT K mg E tt T) (ha : EvE K mg E ta F) (hb : EvE K mg E tb G) : EvE K mg E (tIf tt ta tb) (ifE T F G) := by
  intro σ ρ w ok r Q h
  refine evT1 ht ok r h fun c w1 g1 ok1 r1 h2 => ?_
  cases c with
  | true => exact ha σ ρ w1 ok1 r1 Q (h2.mono (fun _ _ z => PW.of g1 z) fun _ _ z => z)
  | false => exact hb σ ρ w1 ok1 r1 Q (h2.mono (fun _ _ z => PW.of g1 z) fun _ _ z => z)
theorem noE {α : Type} {r : Res α} {P : α → Sto → Prop} {E' : XC → Sto → Prop} (h : r.sat P E') (n : ∀ e s, r ≠ .err e s) : r.sat P NoE := by
  cases r with
  | ok a s => exact h
  | err e s => exact absurd rfl (n e s)
  | bad => exact h
/-- an operation never raises -/
def Quiet2 (g : W → W → M W) : Prop := ∀ a b s e s', g a b s ≠ .err e s'
def Quiet1 (g : W → M W) : Prop := ∀ a s e s', g a s ≠ .err e s'
def QuietL (g : List W → M W) : Prop := ∀ a s e s', g a s ≠ .err e s'
theorem ev_op2 {r : R2} {g : W → W → M W} {ta tb : TE} {F G : Loc → M W} (hg : SemR2 K r g) (q : Quiet2 g) (ha : EvE K mg E ta F) (hb : EvE K mg E tb G) : EvE K mg E (tOp r ta tb) (op2 g F G) := by
  intro σ ρ w ok ro Q h
  refine ev1 ha ok ro h fun x v w1 g1 ok1 r1 rv h1 => ?_
  refine ev1 hb ok1 r1 h1 fun y u w2 g2 ok2 r2 ru h2 => ?_
  exact hg w2 x y v u ok2 (rv.nxt g2.stp.toNxt ok1) ru Q (noE (h2.mono (fun _ _ z => PW.of (g1.trans g2) z) fun _ _ z => z) (q x y _))
theorem ev_op1 {r : V → Hp → VK → Prop} {g : W → M W} {ta : TE} {F : Loc → M W} (hg : SemR1 K r g) (q : Quiet1 g) (ha : EvE K mg E ta F) : EvE K mg E (tUn r ta) (op1 g F) := by
  intro σ ρ w ok ro Q h
  refine ev1 ha ok ro h fun x v w1 g1 ok1 r1 rv h1 => ?_
  exact hg w1 x v ok1 rv Q (noE (h1.mono (fun _ _ z => PW.of g1 z) fun _ _ z => z) (q x _))
theorem ev_chn {r r' : R2} {g g' : W → W → M W} {ta tb tc : TE} {F G L : Loc → M W} (hg : SemR2 K r g) (q : Quiet2 g) (hg' : SemR2 K r' g') (q' : Quiet2 g') (ha : EvE K mg E ta F) (hb : EvE K mg E tb G) (hc : EvE K mg E tc L) : EvE K mg E (tChain r r' ta tb tc) (chn g g' F G L) := by
  intro σ ρ w ok ro Q h
  refine ev1 ha ok ro h fun x v w1 g1 ok1 r1 rv h1 => ?_
  refine ev1 hb ok1 r1 h1 fun y u w2 g2 ok2 r2 ru h2 => ?_
  have g12 := g1.trans g2
  refine hg w2 x y v u ok2 (rv.nxt g2.stp.toNxt ok1) ru _ ?_
  rw [sat_bnd] at h2
  refine noE (h2.mono (fun z s3 h3 vz w3 g3 rz => ?_) fun _ _ z => z) (q x y _)
  obtain rfl := g3.st
  obtain ⟨c, rfl, rfl, h4⟩ := gB_sat h3 rz
  refine ⟨c, rfl, ?_⟩
  cases c with
  | true =>
    rw [if_pos rfl] at h4 ⊢
    have r3 := r2.nxt g3.stp.toNxt ok2
    refine ev1 hc g3.ok r3 (h4.mono (fun _ _ z => z) fun _ _ z => z.of g3) fun z vz w4 g4 ok4 r4 rz h5 => ?_
    exact hg' w4 y z u vz ok4 ((ru.nxt g3.stp.toNxt ok2).nxt g4.stp.toNxt g3.ok) rz Q (noE (h5.mono (fun _ _ z => PW.of ((g12.trans g3).trans g4) z) fun _ _ z => z) (q' y z _))
  | false => exact h4 _ w3 (g12.trans g3) rfl
theorem ea_nil : EvA K mg E tNil argN := fun σ ρ w ok r Q h => h _ w (Gd.refl ok) rfl
theorem ea_cons {ta : TE} {tr : TA} {F : Loc → M W} {G : Loc → M (List W)} (ha : EvE K mg E ta F) (hb : EvA K mg E tr G) : EvA K mg E (tCons ta tr) (argC F G) := by
  intro σ ρ w ok r Q h
  refine ev1 ha ok r h fun x v w1 g1 ok1 r1 rv h1 => ?_
  refine evA1 hb ok1 r1 h1 fun y u w2 g2 ok2 r2 ru h2 => ?_
  exact h2 _ w2 (g1.trans g2) ⟨v, u, rfl, rv.nxt g2.stp.toNxt ok1, ru⟩
theorem RepWs.length : ∀ {xs : List W} {vs : List V}, RepWs K w xs vs → vs.length = xs.length
  | [], _, h => by rw [show _ = [] from h]; rfl
  | _ :: _, _, ⟨v, us, e, _, q⟩ => by rw [e]; simp [RepWs.length q]
theorem ev_tup {ta : TA} {F : Loc → M (List W)} (ha : EvA K mg E ta F) : EvE K mg E (tTup ta) (opL gTup F) := by
  intro σ ρ w ok r Q h
  refine evA1 ha ok r h fun x v w1 g1 ok1 r1 rv h1 => ?_
  unfold gTup at h1
  split at h1
  · rename_i ds hd
    split at h1
    · rename_i hc
      have rl := dats_rep hd rv
      refine ⟨by rw [rl.length]; exact capS hc, fun p hp => ?_⟩
      exact h1 _ _ (g1.trans (gd_lay ok1 hp)) (rep_tup ok1 hp rl)
    · exact h1.elim
  · exact h1.elim
theorem ev_lst {ta : TA} {F : Loc → M (List W)} (ha : EvA K mg E ta F) : EvE K mg E (tLst ta) (opL gLst F) := by
  intro σ ρ w ok r Q h
  refine evA1 ha ok r h fun x v w1 g1 ok1 r1 rv h1 => ?_
  unfold gLst at h1
  split at h1
  · rename_i ds hd
    split at h1
    · rename_i hc
      have rl := dats_rep hd rv
      refine ⟨by rw [rl.length]; exact capS hc, fun p hp => ?_⟩
      exact h1 _ _ (g1.trans (gd_lay ok1 hp)) (rep_lst ok1 hp rl)
    · exact h1.elim
  · exact h1.elim
theorem ev_new {ta : TA} {F : Loc → M (List W)} (ha : EvA K mg E ta F) : EvE K mg E (tLst ta) (opL gNew F) := by
  intro σ ρ w ok r Q h
  refine evA1 ha ok r h fun x v w1 g1 ok1 r1 rv h1 => ?_
  unfold gNew at h1
  split at h1
  · rename_i ds hd
    split at h1
    · rename_i hc
      have rl := dats_rep hd rv
      refine ⟨by rw [rl.length]; exact capS hc, fun p hp => ?_⟩
      exact h1 _ _ (g1.trans (gd_hnd ok1 hp rl)) (rep_hnd ok1 hp)
    · exact h1.elim
  · exact h1.elim
theorem ev_cb {r : List V → Hp → VK → Prop} {g : List W → M W} {ta : TA} {F : Loc → M (List W)} (hg : SemRL K r g) (q : QuietL g) (ha : EvA K mg E ta F) : EvE K mg E (tCB r ta) (opL g F) := by
  intro σ ρ w ok ro Q h
  refine evA1 ha ok ro h fun x v w1 g1 ok1 r1 rv h1 => ?_
  exact hg w1 x v ok1 rv Q (noE (h1.mono (fun _ _ z => PW.of g1 z) fun _ _ z => z) (q x _))
theorem tru_rep (ok : Ok K w) {x : W} {v : V} {d : D} {b : Bool} (h : vw w.st x = some d) (ht : truD d = some b) (r : RepW K w x v) : TruV K v w.H b := by
  have emp : ∀ {ds : List D} {vs : List V}, RepL K w.H w.al ds vs → (!ds.isEmpty) = !vs.isEmpty := fun {ds vs} q => by
    cases ds with
    | nil =>
      have e : vs = [] := q
      subst e
      rfl
    | cons d ds =>
      obtain ⟨v, us, e, _⟩ := q
      rw [e]
      rfl
  cases d with
  | tup ds =>
    obtain ⟨a, vs, rfl, h1, h2⟩ := rd_tup ok h r
    cases ht
    exact .inr (.inl ⟨vs, h1, emp h2⟩)
  | lst ds =>
    obtain ⟨a, vs, rfl, h1, h2⟩ := rd_sqL ok h (.inl rfl) r
    cases ht
    exact .inl ⟨vs, h1, emp h2⟩
  | frz ds =>
    obtain ⟨a, vs, rfl, h1, h2⟩ := rd_sqL ok h (.inr rfl) r
    cases ht
    exact .inl ⟨vs, h1, emp h2⟩
  | tux ds =>
    rcases rd_vw ok h r with rfl | ⟨es, a, vs, e, _⟩
    · obtain ⟨a, vs, rfl, h1, h2⟩ := r
      cases ht
      exact .inr (.inl ⟨vs, tux_sq h1, emp h2⟩)
    · cases e
  | non =>
    rcases rd_vw ok h r with rfl | ⟨es, a, vs, e, _⟩
    · obtain rfl : v = .non := r
      cases ht
      exact rfl
    · cases e
  | bl c =>
    rcases rd_vw ok h r with rfl | ⟨es, a, vs, e, _⟩
    · obtain rfl : v = .bl c := r
      cases ht
      exact rfl
    · cases e
  | int c =>
    rcases rd_vw ok h r with rfl | ⟨es, a, vs, e, _⟩
    · obtain rfl : v = .int c := r
      cases ht
      exact rfl
    · cases e
  | str c =>
    rcases rd_vw ok h r with rfl | ⟨es, a, vs, e, _⟩
    · obtain rfl : v = .str c := r
      simp only [truD] at ht
      split at ht
      · rename_i hc
        cases ht
        exact ⟨capS hc, rfl⟩
      · cases ht
    · cases e
theorem et_truth {ta : TE} {F : Loc → M W} (ha : EvE K mg E ta F) : EvT K mg E (fun σ H Q => ta σ H fun x H' => ∃ k, TruV K x H' k ∧ Q k H') (truT F) := by
  intro σ ρ w ok r Q h
  refine ev1 ha ok r h fun x v w1 g1 ok1 r1 rv h1 => ?_
  unfold gTru at h1
  split at h1
  · rename_i b hb
    cases hv : vw w1.st x with
    | none => rw [hv] at hb; cases hb
    | some d =>
      rw [hv] at hb
      exact ⟨b, tru_rep ok1 hv hb rv, h1 w1 g1⟩
  · exact h1.elim
theorem eo_none : EvO K mg E tNoPart slN := fun σ ρ w ok r Q h => h w (Gd.refl ok)
theorem eo_some {ta : TE} {F : Loc → M W} (ha : EvE K mg E ta F) : EvO K mg E (tPart ta) (slS F) := by
  intro σ ρ w ok r Q h
  refine ev1 ha ok r h fun x v w1 g1 ok1 r1 rv h1 => ?_
  obtain ⟨c, rfl, rfl, h2⟩ := gI_sat h1 rv
  exact ⟨c, rfl, h2 w1 g1⟩
def SemS (K : PySem.W.Frag) (r : V → Option Int → Option Int → Hp → VK → Prop) (g : W → Option Int → Option Int → M W) : Prop :=
  ∀ w a x lo hi, Ok K w → RepW K w a x → ∀ Q : VK, (g a lo hi w.st).sat (PW K w Q) NoE → r x lo hi w.H Q
theorem ev_sl {r : V → Option Int → Option Int → Hp → VK → Prop} {g : W → Option Int → Option Int → M W} {ta : TE} {tl th : TO} {F : Loc → M W} {A B : Loc → M (Option Int)} (hg : SemS K r g) (q : ∀ a lo hi s e s', g a lo hi s ≠ .err e s')
    (ha : EvE K mg E ta F) (hl : EvO K mg E tl A) (hh : EvO K mg E th B) : EvE K mg E (tSl r ta tl th) (opS g F A B) := by
  intro σ ρ w ok ro Q h
  refine ev1 ha ok ro h fun x v w1 g1 ok1 r1 rv h1 => ?_
  refine evO1 hl ok1 r1 h1 fun lo w2 g2 ok2 r2 h2 => ?_
  refine evO1 hh ok2 r2 h2 fun hi w3 g3 ok3 r3 h3 => ?_
  exact hg w3 x v lo hi ok3 ((rv.nxt g2.stp.toNxt ok1).nxt g3.stp.toNxt ok2) Q (noE (h3.mono (fun _ _ z => PW.of ((g1.trans g2).trans g3) z) fun _ _ z => z) (q x lo hi _))
end
end Y

namespace Y
open PySem L2

/-! ### operations by a function of what is read -/
def opt1 (f : Sto → W → Option W) : W → M W := fun a s => match f s a with
  | some x => .ok x s
  | none => .bad
def opt2 (f : Sto → W → W → Option W) : W → W → M W := fun a b s => match f s a b with
  | some x => .ok x s
  | none => .bad
def optL (f : Sto → List W → Option W) : List W → M W := fun a s => match f s a with
  | some x => .ok x s
  | none => .bad
def optS (f : Sto → W → Option Int → Option Int → Option W) : W → Option Int → Option Int → M W := fun a l u s => match f s a l u with
  | some x => .ok x s
  | none => .bad
theorem quiet1 {f} : Quiet1 (opt1 f) := fun a s e s' => by unfold opt1; split <;> exact fun z => nomatch z
theorem quiet2 {f} : Quiet2 (opt2 f) := fun a b s e s' => by unfold opt2; split <;> exact fun z => nomatch z
theorem quietL {f} : QuietL (optL f) := fun a s e s' => by unfold optL; split <;> exact fun z => nomatch z
theorem quietS {f} : ∀ a lo hi s e s', optS f a lo hi s ≠ .err e s' := fun a l u s e s' => by unfold optS; split <;> exact fun z => nomatch z
section
variable {K : PySem.W.Frag} {w : Wd}
theorem sem2 {r : R2} {f : Sto → W → W → Option W} (h : ∀ w a b x y z, Ok K w → RepW K w a x → RepW K w b y → f w.st a b = some z → ∀ Q : VK, PW K w Q z w.st → r x y w.H Q) : SemR2 K r (opt2 f) := fun w a b x y ok ra rb Q q => by
  unfold opt2 at q
  split at q
  · rename_i z hz
    exact h w a b x y z ok ra rb hz Q q
  · exact q.elim
theorem sem1 {r : V → Hp → VK → Prop} {f : Sto → W → Option W} (h : ∀ w a x z, Ok K w → RepW K w a x → f w.st a = some z → ∀ Q : VK, PW K w Q z w.st → r x w.H Q) : SemR1 K r (opt1 f) := fun w a x ok ra Q q => by
  unfold opt1 at q
  split at q
  · rename_i z hz
    exact h w a x z ok ra hz Q q
  · exact q.elim
theorem semL {r : List V → Hp → VK → Prop} {f : Sto → List W → Option W} (h : ∀ w a x z, Ok K w → RepWs K w a x → f w.st a = some z → ∀ Q : VK, PW K w Q z w.st → r x w.H Q) : SemRL K r (optL f) := fun w a x ok ra Q q => by
  unfold optL at q
  split at q
  · rename_i z hz
    exact h w a x z ok ra hz Q q
  · exact q.elim
theorem semS {r : V → Option Int → Option Int → Hp → VK → Prop} {f : Sto → W → Option Int → Option Int → Option W} (h : ∀ w a x lo hi z, Ok K w → RepW K w a x → f w.st a lo hi = some z → ∀ Q : VK, PW K w Q z w.st → r x lo hi w.H Q) : SemS K r (optS f) := fun w a x lo hi ok ra Q q => by
  unfold optS at q
  split at q
  · rename_i z hz
    exact h w a x lo hi z ok ra hz Q q
  · exact q.elim
theorem rd_int (ok : Ok K w) {x : W} {i : Int} {v : V} (h : vw w.st x = some (.int i)) (r : RepW K w x v) : v = .int i := by
  rcases rd_vw ok h r with rfl | ⟨es, a, vs, e, _⟩
  · exact r
  · cases e
theorem rd_bl (ok : Ok K w) {x : W} {i : Bool} {v : V} (h : vw w.st x = some (.bl i)) (r : RepW K w x v) : v = .bl i := by
  rcases rd_vw ok h r with rfl | ⟨es, a, vs, e, _⟩
  · exact r
  · cases e
theorem rd_str (ok : Ok K w) {x : W} {i : Str} {v : V} (h : vw w.st x = some (.str i)) (r : RepW K w x v) : v = .str i := by
  rcases rd_vw ok h r with rfl | ⟨es, a, vs, e, _⟩
  · exact r
  · cases e
theorem rd_non (ok : Ok K w) {x : W} {v : V} (h : vw w.st x = some .non) (r : RepW K w x v) : v = .non := by
  rcases rd_vw ok h r with rfl | ⟨es, a, vs, e, _⟩
  · exact r
  · cases e
theorem pw_d {Q : VK} {d : D} {v : V} (ok : Ok K w) (r : Rep K w.H w.al d v) (h : PW K w Q (.d d) w.st) : Q v w.H := h v w (Gd.refl ok) r
theorem pw_tup {Q : VK} {ds : List D} {vs : List V} (ok : Ok K w) (r : RepL K w.H w.al ds vs) (h : PW K w Q (.d (.tup ds)) w.st) : ∀ p, w.H p = none → Q (.ref p) (upd w.H p (.tup vs)) := fun p hp => h _ _ (gd_lay ok hp) (rep_tup ok hp r)
theorem pw_lst {Q : VK} {ds : List D} {vs : List V} (ok : Ok K w) (r : RepL K w.H w.al ds vs) (h : PW K w Q (.d (.lst ds)) w.st) : ∀ p, w.H p = none → Q (.ref p) (upd w.H p (.lst vs)) := fun p hp => h _ _ (gd_lay ok hp) (rep_lst ok hp r)

/-! ### + - * // % ** and - -/
def fAdd : Sto → W → W → Option W := fun s a b => match vw s a, vw s b with
  | some (.int i), some (.int j) => some (.d (.int (i + j)))
  | some (.tup xs), some (.tup ys) => if xs.length + ys.length ≤ cap then some (.d (.tup (xs ++ ys))) else none
  | some (.lst xs), some (.lst ys) => if xs.length + ys.length ≤ cap then some (.d (.lst (xs ++ ys))) else none
  | some (.str x), some (.str y) => if x.length + y.length ≤ cap then some (.d (.str (x ++ y))) else none
  | _, _ => none
def rAddY (K : PySem.W.Frag) : R2 := fun x y H Q => rI0 (fun i j => .int (i + j)) x y H Q ∨ rCatA K x y H Q ∨ rCat x y H Q ∨ (∃ i j, x = .str i ∧ y = .str j ∧ i.length + j.length ≤ sizeLine ∧ Q (.str (i ++ j)) H)
theorem op_addY {X : Cx} : OpR X (binaryOp .Add) (rAddY X.K) := op_add.or (op_catA.or (op_cat.or op_add_str))
theorem sem_add : SemR2 K (rAddY K) (opt2 fAdd) := sem2 fun w a b x y z ok ra rb h Q q => by
  unfold fAdd at h
  split at h
  · rename_i i j e1 e2
    cases h
    exact .inl ⟨i, j, rd_int ok e1 ra, rd_int ok e2 rb, pw_d (d := .int (i + j)) ok rfl q⟩
  · rename_i xs ys e1 e2
    split at h
    · rename_i hc
      cases h
      obtain ⟨p, vs, rfl, h1, r1⟩ := rd_tup ok e1 ra
      obtain ⟨p', us, rfl, h2, r2⟩ := rd_tup ok e2 rb
      refine .inr (.inl ⟨p, p', vs, us, rfl, rfl, h1, h2, by rw [r1.length, r2.length]; exact capS hc, fun z => ?_, fun _ z => ?_, fun _ _ => pw_tup ok (r1.append r2) q⟩)
      · subst z
        have e : xs = [] := List.eq_nil_of_length_eq_zero r1.length.symm
        subst e
        exact pw_d (d := .tup ys) ok ⟨p', us, rfl, h2, r2⟩ q
      · subst z
        have e : ys = [] := List.eq_nil_of_length_eq_zero r2.length.symm
        subst e
        rw [List.append_nil] at q
        exact pw_d (d := .tup xs) ok ⟨p, vs, rfl, h1, r1⟩ q
    · cases h
  · rename_i xs ys e1 e2
    split at h
    · rename_i hc
      cases h
      obtain ⟨p, vs, rfl, h1, r1⟩ := rd_lst ok e1 ra
      obtain ⟨p', us, rfl, h2, r2⟩ := rd_lst ok e2 rb
      exact .inr (.inr (.inl ⟨p, p', vs, us, rfl, rfl, h1, h2, by rw [r1.length, r2.length]; exact capS hc, pw_lst ok (r1.append r2) q⟩))
    · cases h
  · rename_i xs ys e1 e2
    split at h
    · rename_i hc
      cases h
      exact .inr (.inr (.inr ⟨xs, ys, rd_str ok e1 ra, rd_str ok e2 rb, capS hc, pw_d (d := .str (xs ++ ys)) ok rfl q⟩))
    · cases h
  · cases h
/-- two ints -/
def fII (g : Int → Int → Option D) : Sto → W → W → Option W := fun _ a b => match a, b with
  | .d (.int i), .d (.int j) => (g i j).map .d
  | _, _ => none
theorem fII_some {g : Int → Int → Option D} {s : Sto} {a b z : W} (h : fII g s a b = some z) : ∃ i j d, a = .d (.int i) ∧ b = .d (.int j) ∧ g i j = some d ∧ z = .d d := by
  unfold fII at h
  split at h
  · rename_i i j
    cases e : g i j with
    | none => rw [e] at h; cases h
    | some d => rw [e] at h; cases h; exact ⟨i, j, d, rfl, rfl, e, rfl⟩
  · cases h
theorem sem_ii {C : Int → Int → Prop} [DecidableRel C] {f : Int → Int → Int} : SemR2 K (rI C fun i j => .int (f i j)) (opt2 (fII fun i j => if C i j then some (.int (f i j)) else none)) := sem2 fun w a b x y z ok ra rb h Q q => by
  obtain ⟨i, j, d, rfl, rfl, h1, rfl⟩ := fII_some h
  split at h1
  · rename_i hc
    cases h1
    exact ⟨i, j, ra, rb, hc, pw_d (d := .int _) ok rfl q⟩
  · cases h1
theorem sem_ii0 {f : Int → Int → Int} : SemR2 K (rI0 fun i j => .int (f i j)) (opt2 (fII fun i j => some (.int (f i j)))) := sem2 fun w a b x y z ok ra rb h Q q => by
  obtain ⟨i, j, d, rfl, rfl, h1, rfl⟩ := fII_some h
  cases h1
  exact ⟨i, j, ra, rb, pw_d (d := .int _) ok rfl q⟩
theorem sem_ib0 {f : Int → Int → Bool} : SemR2 K (rI0 fun i j => .bl (f i j)) (opt2 (fII fun i j => some (.bl (f i j)))) := sem2 fun w a b x y z ok ra rb h Q q => by
  obtain ⟨i, j, d, rfl, rfl, h1, rfl⟩ := fII_some h
  cases h1
  exact ⟨i, j, ra, rb, pw_d (d := .bl _) ok rfl q⟩
def fSub := fII fun i j => some (.int (i - j))
instance : DecidableRel CDivW := fun _ _ => inferInstanceAs (Decidable (_ ∧ _))
instance : DecidableRel CMulW := fun _ _ => inferInstanceAs (Decidable (_ < _))
instance : DecidableRel CPow := fun _ _ => inferInstanceAs (Decidable (_ ∧ _ ∧ _))
def fFdv := fII fun i j => if CDivW i j then some (.int (i / j)) else none
def fMod := fII fun i j => if (fun (_ j : Int) => 0 < j) i j then some (.int (i % j)) else none
def fPow := fII fun i j => if CPow i j then some (.int (i ^ j.toNat)) else none
theorem sem_sub : SemR2 K (rI0 fun i j => .int (i - j)) (opt2 fSub) := sem_ii0
theorem sem_fdv : SemR2 K (rI CDivW fun i j => .int (i / j)) (opt2 fFdv) := sem_ii
theorem sem_mod : SemR2 K (rI (fun _ j => 0 < j) fun i j => .int (i % j)) (opt2 fMod) := sem_ii
theorem sem_pow : SemR2 K (rI CPow fun i j => .int (i ^ j.toNat)) (opt2 fPow) := sem_ii
def fLt := fII fun i j => some (.bl (decide (i < j)))
def fLe := fII fun i j => some (.bl (decide (i ≤ j)))
def fGt := fII fun i j => some (.bl (decide (j < i)))
def fGe := fII fun i j => some (.bl (decide (j ≤ i)))
theorem sem_lt : SemR2 K (rI0 fun i j => .bl (decide (i < j))) (opt2 fLt) := sem_ib0
theorem sem_le : SemR2 K (rI0 fun i j => .bl (decide (i ≤ j))) (opt2 fLe) := sem_ib0
theorem sem_gt : SemR2 K (rI0 fun i j => .bl (decide (j < i))) (opt2 fGt) := sem_ib0
theorem sem_ge : SemR2 K (rI0 fun i j => .bl (decide (j ≤ i))) (opt2 fGe) := sem_ib0
def fNeg : Sto → W → Option W := fun _ a => match a with
  | .d (.int i) => some (.d (.int (-i)))
  | _ => none
theorem sem_neg : SemR1 K (rU fun i => .int (-i)) (opt1 fNeg) := sem1 fun w a x z ok ra h Q q => by
  unfold fNeg at h
  split at h
  · rename_i i
    cases h
    exact ⟨i, ra, pw_d (d := .int _) ok rfl q⟩
  · cases h

/-! ### == != is -/
mutual
def toPy : D → PyData
  | .non => .none
  | .bl b => .bool b
  | .int i => .int i
  | .str x => .str x
  | .tup ds => .tuple (toPys ds)
  | .lst ds => .list (toPys ds)
  | .frz ds => .list (toPys ds)
  | .tux ds => .tuple (toPys ds)
def toPys : List D → List PyData
  | [] => []
  | d :: ds => toPy d :: toPys ds
end
mutual
theorem rep_dp {H : Hp} {al : Addr → Prop} : ∀ (d : D) (v : V), Rep K H al d v → Dp K H v (toPy d)
  | .non, v, h => by obtain rfl : v = .non := h; exact .non
  | .bl b, v, h => by obtain rfl : v = .bl b := h; exact .bl b
  | .int b, v, h => by obtain rfl : v = .int b := h; exact .int b
  | .str b, v, h => by obtain rfl : v = .str b := h; exact .str b
  | .tup ds, v, h => by
    obtain ⟨a, vs, rfl, h1, h2⟩ := h
    exact .tup h1 (rep_dps ds vs h2)
  | .lst ds, v, h => by
    obtain ⟨a, vs, rfl, h1, _, h2⟩ := h
    exact .lst (SqL.of h1) (rep_dps ds vs h2)
  | .frz ds, v, h => by
    obtain ⟨a, vs, rfl, h1, h2⟩ := h
    exact .lst (fz_sq h1) (rep_dps ds vs h2)
  | .tux ds, v, h => by
    obtain ⟨a, vs, rfl, h1, h2⟩ := h
    exact .tup (tux_sq h1) (rep_dps ds vs h2)
theorem rep_dps {H : Hp} {al : Addr → Prop} : ∀ (ds : List D) (vs : List V), RepL K H al ds vs → DpAll K H vs (toPys ds)
  | [], vs, h => by obtain rfl : vs = [] := h; exact .nil
  | d :: ds, vs, h => by
    obtain ⟨v, us, rfl, h1, h2⟩ := h
    exact .cons (rep_dp d v h1) (rep_dps ds us h2)
end
theorem rd_dp (ok : Ok K w) {x : W} {d : D} {v : V} (h : vw w.st x = some d) (r : RepW K w x v) : Dp K w.H v (toPy d) := by
  rcases rd_vw ok h r with rfl | ⟨ds, a, vs, rfl, rfl, h1, h2⟩
  · exact rep_dp d v r
  · exact .lst (SqL.of h1) (rep_dps ds vs h2)
def fEqv (neg : Bool) : Sto → W → W → Option W := fun s a b => match vw s a, vw s b with
  | some d, some e => if SeqAt.shaped (toPy d) = true ∧ SeqAt.shaped (toPy e) = true then some (.d (.bl (if neg then !PyData.eqv (toPy d) (toPy e) else PyData.eqv (toPy d) (toPy e)))) else none
  | _, _ => none
def fEq := fEqv false
def fNe := fEqv true
theorem sem_eq : SemR2 K (rEqD K) (opt2 fEq) := sem2 fun w a b x y z ok ra rb h Q q => by
  unfold fEq fEqv at h
  split at h
  · rename_i d e h1 h2
    split at h
    · rename_i hc
      cases h
      exact ⟨_, _, rd_dp ok h1 ra, rd_dp ok h2 rb, hc.1, hc.2, pw_d (d := .bl _) ok rfl q⟩
    · cases h
  · cases h
theorem sem_ne : SemR2 K (rNeD K) (opt2 fNe) := sem2 fun w a b x y z ok ra rb h Q q => by
  unfold fNe fEqv at h
  split at h
  · rename_i d e h1 h2
    split at h
    · rename_i hc
      cases h
      exact ⟨_, _, rd_dp ok h1 ra, rd_dp ok h2 rb, hc.1, hc.2, pw_d (d := .bl _) ok rfl q⟩
    · cases h
  · cases h
def isNon : W → Bool
  | .d .non => true
  | _ => false
theorem rep_non {x : W} {v : V} (r : RepW K w x v) : decide (v = .non) = isNon x := by
  cases x with
  | r n =>
    obtain ⟨a, rfl, _⟩ := r
    rfl
  | h n =>
    obtain ⟨a, _, rfl, _⟩ := r
    rfl
  | k n =>
    obtain ⟨a, _, rfl, _⟩ := r
    rfl
  | d y =>
    cases y with
    | non => obtain rfl : v = .non := r; rfl
    | bl b => obtain rfl : v = .bl b := r; rfl
    | int b => obtain rfl : v = .int b := r; rfl
    | str b => obtain rfl : v = .str b := r; rfl
    | tup ds => obtain ⟨a, vs, rfl, _⟩ := r; rfl
    | lst ds => obtain ⟨a, vs, rfl, _⟩ := r; rfl
    | frz ds => obtain ⟨a, vs, rfl, _⟩ := r; rfl
    | tux ds => obtain ⟨a, vs, rfl, _⟩ := r; rfl
def fIs (neg : Bool) : Sto → W → W → Option W := fun _ a b => match b with
  | .d .non => some (.d (.bl (if neg then !isNon a else isNon a)))
  | _ => none
theorem sem_is : SemR2 K (fun x y H Q => y = .non ∧ Q (.bl (decide (x = .non))) H) (opt2 (fIs false)) := sem2 fun w a b x y z ok ra rb h Q q => by
  unfold fIs at h
  split at h
  · cases h
    refine ⟨rb, ?_⟩
    rw [rep_non ra]
    exact pw_d (d := .bl _) ok rfl q
  · cases h
theorem sem_isnot : SemR2 K (fun x y H Q => y = .non ∧ Q (.bl (!decide (x = .non))) H) (opt2 (fIs true)) := sem2 fun w a b x y z ok ra rb h Q q => by
  unfold fIs at h
  split at h
  · cases h
    refine ⟨rb, ?_⟩
    rw [rep_non ra]
    exact pw_d (d := .bl _) ok rfl q
  · cases h

/-! ### in -/
def flatD : D → Bool
  | .non => true
  | .bl _ => true
  | .int _ => true
  | .str _ => true
  | _ => false
def eqF : D → D → Bool
  | .non, .non => true
  | .bl a, .bl b => a == b
  | .bl a, .int b => (if a then 1 else 0) == b
  | .int a, .bl b => a == (if b then 1 else 0)
  | .int a, .int b => a == b
  | .str a, .str b => a == b
  | _, _ => false
theorem rep_flat {H : Hp} {al : Addr → Prop} {d : D} {v : V} (r : Rep K H al d v) (f : flatD d = true) : flatV v = true := by
  cases d with
  | non => obtain rfl : v = .non := r; rfl
  | bl b => obtain rfl : v = .bl b := r; rfl
  | int b => obtain rfl : v = .int b := r; rfl
  | str b => obtain rfl : v = .str b := r; rfl
  | _ => cases f
theorem rep_eqF {H : Hp} {al : Addr → Prop} {d e : D} {v u : V} (r : Rep K H al d v) (r' : Rep K H al e u) (f : flatD d = true) (f' : flatD e = true) : eqV v u = eqF d e := by
  cases d with
  | non =>
    obtain rfl : v = .non := r
    cases e with
    | non => obtain rfl : u = .non := r'; rfl
    | bl b => obtain rfl : u = .bl b := r'; rfl
    | int b => obtain rfl : u = .int b := r'; rfl
    | str b => obtain rfl : u = .str b := r'; rfl
    | _ => cases f'
  | bl c =>
    obtain rfl : v = .bl c := r
    cases e with
    | non => obtain rfl : u = .non := r'; rfl
    | bl b => obtain rfl : u = .bl b := r'; rfl
    | int b => obtain rfl : u = .int b := r'; rfl
    | str b => obtain rfl : u = .str b := r'; rfl
    | _ => cases f'
  | int c =>
    obtain rfl : v = .int c := r
    cases e with
    | non => obtain rfl : u = .non := r'; rfl
    | bl b => obtain rfl : u = .bl b := r'; rfl
    | int b => obtain rfl : u = .int b := r'; rfl
    | str b => obtain rfl : u = .str b := r'; rfl
    | _ => cases f'
  | str c =>
    obtain rfl : v = .str c := r
    cases e with
    | non => obtain rfl : u = .non := r'; rfl
    | bl b => obtain rfl : u = .bl b := r'; rfl
    | int b => obtain rfl : u = .int b := r'; rfl
    | str b => obtain rfl : u = .str b := r'; rfl
    | _ => cases f'
  | _ => cases f
theorem rep_flats {H : Hp} {al : Addr → Prop} : ∀ {ds : List D} {vs : List V}, RepL K H al ds vs → ds.all flatD = true → vs.all flatV = true
  | [], vs, h, _ => by obtain rfl : vs = [] := h; rfl
  | d :: ds, vs, ⟨v, us, e, r, q⟩, f => by
    subst e
    rw [List.all_cons, Bool.and_eq_true] at f ⊢
    exact ⟨rep_flat r f.1, rep_flats q f.2⟩
def inD (x : D) (ds : List D) : Bool := ds.any fun y => eqF y x
theorem rep_in {H : Hp} {al : Addr → Prop} {x : D} {v : V} (r : Rep K H al x v) (fx : flatD x = true) : ∀ {ds : List D} {vs : List V}, RepL K H al ds vs → ds.all flatD = true → inV v vs = inD x ds
  | [], vs, h, _ => by obtain rfl : vs = [] := h; rfl
  | d :: ds, vs, ⟨u, us, e, r', q⟩, f => by
    subst e
    rw [List.all_cons, Bool.and_eq_true] at f
    have ih := rep_in r fx q f.2
    unfold inV inD at ih ⊢
    rw [List.any_cons, List.any_cons, rep_eqF r' r f.1 fx, ih]
def fIn (neg : Bool) : Sto → W → W → Option W := fun s a b => match a, (vw s b).bind seqOf with
  | .d x, some ds => if flatD x = true ∧ ds.all flatD = true then some (.d (.bl (if neg then !inD x ds else inD x ds))) else none
  | _, _ => none
theorem sem_in {neg : Bool} : SemR2 K (rIn K neg) (opt2 (fIn neg)) := sem2 fun w a b x y z ok ra rb h Q q => by
  unfold fIn at h
  split at h
  · rename_i d ds hb
    split at h
    · rename_i hc
      cases h
      cases e : vw w.st b with
      | none => rw [e] at hb; cases hb
      | some t =>
        rw [e] at hb
        obtain ⟨p, vs, rfl, hs, r⟩ := rd_seq ok e hb rb
        refine ⟨p, vs, rfl, hs, rep_flat ra hc.1, rep_flats r hc.2, ?_⟩
        rw [rep_in ra hc.1 r hc.2]
        exact pw_d (d := .bl _) ok rfl q
    · cases h
  · cases h

/-! ### a[i], a[i:j] -/
def fIx : Sto → W → W → Option W := fun s a b => match vw s a, b with
  | some (.str z), .d (.int i) => if z.length ≤ cap then (atI z.cps.toList i).map fun c => .d (.str ⟨#[c]⟩) else none
  | some d, .d (.int i) => ((seqOf d).bind fun ds => atI ds i).map .d
  | _, _ => none
theorem atI_rep {H : Hp} {al : Addr → Prop} {ds : List D} {vs : List V} {i : Int} {d : D} (r : RepL K H al ds vs) (h : atI ds i = some d) : ∃ v, atI vs i = some v ∧ Rep K H al d v := by
  unfold atI at h ⊢
  rw [r.length]
  cases e : ixN ds.length i with
  | none => rw [e] at h; cases h
  | some j =>
    rw [e] at h
    exact r.get h
theorem sem_ix : SemR2 K (rIx K) (opt2 fIx) := sem2 fun w a b x y z ok ra rb h Q q => by
  unfold fIx at h
  split at h
  · rename_i t i e
    split at h
    · rename_i hc
      cases e2 : atI t.cps.toList i with
      | none => rw [e2] at h; cases h
      | some c =>
        rw [e2] at h
        cases h
        exact .inr (.inr ⟨t, i, c, rd_str ok e ra, rb, capS hc, e2, pw_d (d := .str _) ok rfl q⟩)
    · cases h
  · rename_i d i _ e
    cases e2 : seqOf d with
    | none => rw [e2] at h; cases h
    | some ds =>
      rw [e2] at h
      cases e3 : atI ds i with
      | none => simp [e3] at h
      | some t =>
        simp [e3] at h
        subst h
        obtain ⟨p, vs, rfl, hs, r⟩ := rd_seq ok e e2 ra
        obtain ⟨v, h1, h2⟩ := atI_rep r e3
        rcases hs with hs | hs
        · exact .inl ⟨p, vs, i, v, rfl, rb, hs, h1, pw_d ok h2 q⟩
        · exact .inr (.inl ⟨p, vs, i, v, rfl, rb, hs, h1, pw_d ok h2 q⟩)
  · cases h
def cutD (xs : List D) (lo hi : Option Int) : List D := (xs.drop (HT.sIx xs.length 0 lo)).take (HT.sIx xs.length xs.length hi - HT.sIx xs.length 0 lo)
theorem cut_rep {H : Hp} {al : Addr → Prop} {ds : List D} {vs : List V} (r : RepL K H al ds vs) (lo hi : Option Int) : RepL K H al (cutD ds lo hi) (cutV vs lo hi) := by
  unfold cutD cutV
  rw [r.length]
  exact (r.drop _).take _
def fSl : Sto → W → Option Int → Option Int → Option W := fun s a lo hi => match vw s a with
  | some (.tup ds) => some (.d (.tup (cutD ds lo hi)))
  | some (.lst ds) => some (.d (.lst (cutD ds lo hi)))
  | some (.frz ds) => some (.d (.lst (cutD ds lo hi)))
  | some (.str z) => if z.length ≤ cap then some (.d (.str (cutS z lo hi))) else none
  | _ => none
def rSlY (K : PySem.W.Frag) : V → Option Int → Option Int → Hp → VK → Prop := fun x lo hi H Q => rSlA K x lo hi H Q ∨ rSlL K x lo hi H Q ∨ rSlS x lo hi H Q
theorem sl_Y {X : Cx} : SlR X (rSlY X.K) := sl_tupA.or (sl_list.or sl_str)
theorem sem_sl : SemS K (rSlY K) (optS fSl) := semS fun w a x lo hi z ok ra h Q q => by
  unfold fSl at h
  split at h
  · rename_i ds e
    cases h
    obtain ⟨p, vs, rfl, hs, r⟩ := rd_tup ok e ra
    refine .inl ⟨p, vs, rfl, hs, fun c => ?_, fun _ => pw_tup ok (cut_rep r lo hi) q⟩
    have e2 : cutD ds lo hi = ds := by
      unfold cutD
      rw [← r.length, c.1, c.2, List.drop_zero, r.length, Nat.sub_zero, List.take_length]
    rw [e2] at q
    exact pw_d (d := .tup ds) ok ⟨p, vs, rfl, hs, r⟩ q
  · rename_i ds e
    cases h
    obtain ⟨p, vs, rfl, hs, r⟩ := rd_sqL ok e (.inl rfl) ra
    exact .inr (.inl ⟨p, vs, rfl, hs, pw_lst ok (cut_rep r lo hi) q⟩)
  · rename_i ds e
    cases h
    obtain ⟨p, vs, rfl, hs, r⟩ := rd_sqL ok e (.inr rfl) ra
    exact .inr (.inl ⟨p, vs, rfl, hs, pw_lst ok (cut_rep r lo hi) q⟩)
  · rename_i t e
    split at h
    · rename_i hc
      cases h
      exact .inr (.inr ⟨t, rd_str ok e ra, capS hc, pw_d (d := .str _) ok rfl q⟩)
    · cases h
  · cases h

/-! ### built-in functions -/
def fLen : Sto → List W → Option W := fun s xs => match xs with
  | [a] => (match vw s a with
    | some (.str z) => if z.length ≤ cap then some (.d (.int z.length)) else none
    | some d => (seqOf d).map fun ds => .d (.int ds.length)
    | none => none)
  | _ => none
theorem RepWs.one {x : W} {vs : List V} (h : RepWs K w [x] vs) : ∃ v, vs = [v] ∧ RepW K w x v := by
  obtain ⟨v, us, rfl, r, e⟩ := h
  obtain rfl : us = [] := e
  exact ⟨v, rfl, r⟩
theorem RepWs.two {x y : W} {vs : List V} (h : RepWs K w [x, y] vs) : ∃ v u, vs = [v, u] ∧ RepW K w x v ∧ RepW K w y u := by
  obtain ⟨v, us, rfl, r, e⟩ := h
  obtain ⟨u, rfl, r2⟩ := RepWs.one e
  exact ⟨v, u, rfl, r, r2⟩
def rLenY (K : PySem.W.Frag) : List V → Hp → VK → Prop := fun xs H Q => (∃ p ys, xs = [.ref p] ∧ (SqL K H p ys ∨ SqT K H p ys) ∧ Q (.int ys.length) H) ∨ ∃ z, xs = [.str z] ∧ z.length ≤ sizeLine ∧ Q (.int z.length) H
theorem call_lenY {X : Cx} : CallR X (.builtin "len") (rLenY X.K) := call_len_seq.or call_len_str
theorem sem_len : SemRL K (rLenY K) (optL fLen) := semL fun w a x z ok ra h Q q => by
  unfold fLen at h
  split at h
  · rename_i y
    obtain ⟨v, rfl, rv⟩ := ra.one
    split at h
    · rename_i t e
      split at h
      · rename_i hc
        cases h
        exact .inr ⟨t, by rw [rd_str ok e rv], capS hc, pw_d (d := .int _) ok rfl q⟩
      · cases h
    · rename_i d _ e
      cases e2 : seqOf d with
      | none => rw [e2] at h; cases h
      | some ds =>
        rw [e2] at h
        cases h
        obtain ⟨p, vs, rfl, hs, r⟩ := rd_seq ok e e2 rv
        refine .inl ⟨p, vs, rfl, hs, ?_⟩
        rw [r.length]
        exact pw_d (d := .int _) ok rfl q
    · cases h
  · cases h
def f1I (g : Int → Int) : Sto → List W → Option W := fun _ xs => match xs with
  | [.d (.int i)] => some (.d (.int (g i)))
  | _ => none
def fAbs := f1I fun i => if i < 0 then -i else i
theorem sem_abs : SemRL K (fun xs H Q => ∃ i, xs = [.int i] ∧ Q (.int (if i < 0 then -i else i)) H) (optL fAbs) := semL fun w a x z ok ra h Q q => by
  unfold fAbs f1I at h
  split at h
  · rename_i i
    cases h
    obtain ⟨v, rfl, rv⟩ := ra.one
    obtain rfl : v = .int i := rv
    exact ⟨i, rfl, pw_d (d := .int _) ok rfl q⟩
  · cases h
def fInt : Sto → List W → Option W := fun _ xs => match xs with
  | [.d (.int i)] => some (.d (.int i))
  | [.d (.bl k)] => some (.d (.int (if k then 1 else 0)))
  | _ => none
theorem sem_int : SemRL K (fun xs H Q => (∃ i, xs = [.int i] ∧ Q (.int i) H) ∨ ∃ k, xs = [.bl k] ∧ Q (.int (if k then 1 else 0)) H) (optL fInt) := semL fun w a x z ok ra h Q q => by
  unfold fInt at h
  split at h
  · rename_i i
    cases h
    obtain ⟨v, rfl, rv⟩ := ra.one
    obtain rfl : v = .int i := rv
    exact .inl ⟨i, rfl, pw_d (d := .int _) ok rfl q⟩
  · rename_i i
    cases h
    obtain ⟨v, rfl, rv⟩ := ra.one
    obtain rfl : v = .bl i := rv
    exact .inr ⟨i, rfl, pw_d (d := .int _) ok rfl q⟩
  · cases h
def blsOf : List D → Option (List Bool)
  | [] => some []
  | .bl b :: r => (blsOf r).map (b :: ·)
  | _ => none
def intsOf : List D → Option (List Int)
  | [] => some []
  | .int b :: r => (intsOf r).map (b :: ·)
  | _ => none
theorem rep_bls {H : Hp} {al : Addr → Prop} : ∀ {ds : List D} {vs : List V} {bs : List Bool}, RepL K H al ds vs → blsOf ds = some bs → vs = bs.map V.bl
  | [], vs, bs, h, e => by cases e; exact h
  | .bl b :: r, vs, bs, ⟨v, us, e1, r1, q⟩, e => by
    simp only [blsOf] at e
    cases e2 : blsOf r with
    | none => rw [e2] at e; cases e
    | some cs =>
      rw [e2] at e
      cases e
      obtain rfl : v = .bl b := r1
      rw [e1, rep_bls q e2]
      rfl
  | .non :: _, _, _, _, e => by cases e
  | .int _ :: _, _, _, _, e => by cases e
  | .str _ :: _, _, _, _, e => by cases e
  | .tup _ :: _, _, _, _, e => by cases e
  | .lst _ :: _, _, _, _, e => by cases e
  | .frz _ :: _, _, _, _, e => by cases e
  | .tux _ :: _, _, _, _, e => by cases e
theorem rep_ints {H : Hp} {al : Addr → Prop} : ∀ {ds : List D} {vs : List V} {bs : List Int}, RepL K H al ds vs → intsOf ds = some bs → vs = bs.map V.int
  | [], vs, bs, h, e => by cases e; exact h
  | .int b :: r, vs, bs, ⟨v, us, e1, r1, q⟩, e => by
    simp only [intsOf] at e
    cases e2 : intsOf r with
    | none => rw [e2] at e; cases e
    | some cs =>
      rw [e2] at e
      cases e
      obtain rfl : v = .int b := r1
      rw [e1, rep_ints q e2]
      rfl
  | .non :: _, _, _, _, e => by cases e
  | .bl _ :: _, _, _, _, e => by cases e
  | .str _ :: _, _, _, _, e => by cases e
  | .tup _ :: _, _, _, _, e => by cases e
  | .lst _ :: _, _, _, _, e => by cases e
  | .frz _ :: _, _, _, _, e => by cases e
  | .tux _ :: _, _, _, _, e => by cases e
def lstOf : D → Option (List D)
  | .lst ds => some ds
  | .frz ds => some ds
  | _ => none
theorem lstOf_is {d : D} {ds : List D} (h : lstOf d = some ds) : d = .lst ds ∨ d = .frz ds := by
  cases d with
  | lst es => cases h; exact .inl rfl
  | frz es => cases h; exact .inr rfl
  | _ => cases h
/-- a built-in over one list -/
def fOvr (g : List D → Option D) : Sto → List W → Option W := fun s xs => match xs with
  | [a] => (((vw s a).bind lstOf).bind g).map .d
  | _ => none
theorem fOvr_some {g : List D → Option D} {xs : List W} {vs : List V} {z : W} (ok : Ok K w) (ra : RepWs K w xs vs) (h : fOvr g w.st xs = some z) : ∃ p us ds d, vs = [.ref p] ∧ SqL K w.H p us ∧ RepL K w.H w.al ds us ∧ g ds = some d ∧ z = .d d := by
  unfold fOvr at h
  split at h
  · rename_i y
    obtain ⟨v, rfl, rv⟩ := ra.one
    cases e1 : vw w.st y with
    | none => rw [e1] at h; cases h
    | some d =>
      rw [e1] at h
      cases e2 : lstOf d with
      | none => simp [e2] at h
      | some ds =>
        cases e3 : g ds with
        | none => simp [e2, e3] at h
        | some t =>
          simp [e2, e3] at h
          subst h
          obtain ⟨p, us, rfl, hs, r⟩ := rd_sqL ok e1 (lstOf_is e2) rv
          exact ⟨p, us, ds, t, rfl, hs, r, e3, rfl⟩
  · cases h
def fAll := fOvr fun ds => (blsOf ds).map fun bs => .bl (bs.all id)
def fAny := fOvr fun ds => (blsOf ds).map fun bs => .bl (bs.any id)
def fSum := fOvr fun ds => (intsOf ds).map fun bs => .int bs.sum
theorem sem_all : SemRL K (rAll K) (optL fAll) := semL fun w a x z ok ra h Q q => by
  obtain ⟨p, us, ds, d, rfl, hs, r, e, rfl⟩ := fOvr_some ok ra h
  cases e2 : blsOf ds with
  | none => rw [e2] at e; cases e
  | some bs =>
    rw [e2] at e
    cases e
    rw [rep_bls r e2] at hs
    exact ⟨p, bs, rfl, hs, pw_d (d := .bl _) ok rfl q⟩
theorem sem_any : SemRL K (rAny K) (optL fAny) := semL fun w a x z ok ra h Q q => by
  obtain ⟨p, us, ds, d, rfl, hs, r, e, rfl⟩ := fOvr_some ok ra h
  cases e2 : blsOf ds with
  | none => rw [e2] at e; cases e
  | some bs =>
    rw [e2] at e
    cases e
    rw [rep_bls r e2] at hs
    exact ⟨p, bs, rfl, hs, pw_d (d := .bl _) ok rfl q⟩
theorem sem_sum : SemRL K (rSum K) (optL fSum) := semL fun w a x z ok ra h Q q => by
  obtain ⟨p, us, ds, d, rfl, hs, r, e, rfl⟩ := fOvr_some ok ra h
  cases e2 : intsOf ds with
  | none => rw [e2] at e; cases e
  | some bs =>
    rw [e2] at e
    cases e
    rw [rep_ints r e2] at hs
    exact ⟨p, bs, rfl, hs, pw_d (d := .int _) ok rfl q⟩
def fList : Sto → List W → Option W := fun s xs => match xs with
  | [a] => ((vw s a).bind seqOf).map fun ds => .d (.lst ds)
  | _ => none
def fListH : List W → M W := fun xs s => match xs with
  | [a] => (match (vw s a).bind seqOf with
    | some ds => .ok (.h s.length) (s ++ [some ds])
    | none => .bad)
  | _ => .bad
theorem bind_seq {a : Option D} {ds : List D} (h : a.bind seqOf = some ds) : ∃ d, a = some d ∧ seqOf d = some ds := by
  cases a with
  | none => cases h
  | some d => exact ⟨d, rfl, h⟩
def rListY (K : PySem.W.Frag) : List V → Hp → VK → Prop := fun xs H Q => ∃ p ys, xs = [.ref p] ∧ (SqL K H p ys ∨ SqT K H p ys) ∧ ∀ l, H l = none → Q (.ref l) (upd H l (.lst ys))
theorem call_listY {X : Cx} : CallR X (.type "list") (rListY X.K) := call_list_of
theorem sem_list : SemRL K (rListY K) (optL fList) := semL fun w a x z ok ra h Q q => by
  unfold fList at h
  split at h
  · rename_i y
    obtain ⟨v, rfl, rv⟩ := ra.one
    cases e : (vw w.st y).bind seqOf with
    | none => rw [e] at h; cases h
    | some ds =>
      rw [e] at h
      cases h
      obtain ⟨d, e1, e2⟩ := bind_seq e
      obtain ⟨p, vs, rfl, hs, r⟩ := rd_seq ok e1 e2 rv
      exact ⟨p, vs, rfl, hs, pw_lst ok r q⟩
  · cases h
theorem sem_listH : SemRL K (rListY K) fListH := fun w a x ok ra Q q => by
  unfold fListH at q
  split at q
  · rename_i y
    obtain ⟨v, rfl, rv⟩ := ra.one
    split at q
    · rename_i ds e
      obtain ⟨d, e1, e2⟩ := bind_seq e
      obtain ⟨p, vs, rfl, hs, r⟩ := rd_seq ok e1 e2 rv
      exact ⟨p, vs, rfl, hs, fun l hl => q _ _ (gd_hnd ok hl r) (rep_hnd ok hl)⟩
    · exact q.elim
  · exact q.elim
def fTuple : Sto → List W → Option W := fun s xs => match xs with
  | [a] => ((vw s a).bind seqOf).map fun ds => .d (.tup ds)
  | _ => none
def rTupY (K : PySem.W.Frag) : List V → Hp → VK → Prop := fun xs H Q => ∃ p ys, xs = [.ref p] ∧ ((SqL K H p ys ∧ ∀ l, H l = none → Q (.ref l) (upd H l (.tup ys))) ∨ (SqT K H p ys ∧ Q (.ref p) H))
theorem call_tupY {X : Cx} : CallR X (.type "tuple") (rTupY X.K) := call_tuple_of
theorem sem_tuple : SemRL K (rTupY K) (optL fTuple) := semL fun w a x z ok ra h Q q => by
  unfold fTuple at h
  split at h
  · rename_i y
    obtain ⟨v, rfl, rv⟩ := ra.one
    cases e : (vw w.st y).bind seqOf with
    | none => rw [e] at h; cases h
    | some ds =>
      rw [e] at h
      cases h
      obtain ⟨d, e1, e2⟩ := bind_seq e
      obtain ⟨p, vs, rfl, hs, r⟩ := rd_seq ok e1 e2 rv
      rcases hs with hs | hs
      · exact ⟨p, vs, rfl, .inl ⟨hs, pw_tup ok r q⟩⟩
      · exact ⟨p, vs, rfl, .inr ⟨hs, pw_d (d := .tup ds) ok ⟨p, vs, rfl, hs, r⟩ q⟩⟩
  · cases h
end
end Y

namespace Y
open PySem L2

/-! ### what is walked -/
structure Its (K : PySem.W.Frag) (w : Wd) (J : It) (ds : List D) : Prop where
  go : ∀ w', Nxt w w' → Ok K w' → ∀ i, i < ds.length → J.go i w'.H
  stop : ∀ w', Nxt w w' → Ok K w' → J.stop ds.length w'.H
  yld : ∀ w', Nxt w w' → Ok K w' → ∀ i x H', i < ds.length → J.yld i w'.H x H' → ∃ w'' d, Gd K w' w'.st w'' ∧ w''.H = H' ∧ ds[i]? = some d ∧ Rep K w''.H w''.al d x
def EvI (K : PySem.W.Frag) (mg : Str → Option Value) (E : XK) (wi : TI) (F : Loc → M (List D)) : Prop :=
  ∀ σ ρ w, Ok K w → ROk K w σ ρ → ∀ R : It → Hp → Prop, (F ρ w.st).sat (fun ds s' => ∀ J w', Gd K w s' w' → Its K w' J ds → R J w'.H) (EOk K mg E w) → wi σ w.H R
theorem PI.or {X : Cx} {tg e : PySem.Expr} {w1 w2 : TI} (h1 : PI X tg e w1) (h2 : PI X tg e w2) : PI X tg e (fun σ H R => w1 σ H R ∨ w2 σ H R) := ⟨fun pins s σ H R I h => by
  rcases h with h | h
  · exact h1.run pins s σ H R I h
  · exact h2.run pins s σ H R I h⟩
def iSeq (K : PySem.W.Frag) (tl : TE) : TI := fun σ H R => iList K tl σ H R ∨ iTup K tl σ H R
theorem pi_seq {X : Cx} {tg l : PySem.Expr} {tl : TE} (hl : PE X l tl) : PI X tg l (iSeq X.K tl) := PI.or (pi_list hl) (pi_tup hl)
def gSeq (x : W) : M (List D) := fun s => match x with
  | .d y => (match seqOf y with
    | some ds => .ok ds s
    | none => .bad)
  | _ => .bad
def itS (F : Loc → M W) : Loc → M (List D) := fun ρ => M.bnd (F ρ) gSeq
def rngD (lo : Int) (n : Nat) : List D := (List.range n).map fun i => .int (lo + (i : Nat))
def gRg1 (a : Int) : M (List D) := fun s => if -(100000 : Int) ≤ a ∧ a ≤ 100000 then .ok (rngD 0 a.toNat) s else .bad
def gRg2 (a b : Int) : M (List D) := fun s => if (-(100000 : Int) ≤ a ∧ a ≤ 100000) ∧ -(100000 : Int) ≤ b ∧ b ≤ 100000 then .ok (rngD a (b - a).toNat) s else .bad
def itR1 (F : Loc → M W) : Loc → M (List D) := fun ρ => M.bnd (F ρ) fun x => M.bnd (gI x) gRg1
def itR2 (F G : Loc → M W) : Loc → M (List D) := fun ρ => M.bnd (F ρ) fun x => M.bnd (G ρ) fun y => M.bnd (gI x) fun i => M.bnd (gI y) fun j => gRg2 i j
section
variable {K : PySem.W.Frag} {mg : Str → Option Value} {E : XK} {w : Wd}
theorem its_list {a : Addr} {vs : List V} {ds : List D} (ok : Ok K w) (st : ∀ w', Nxt w w' → SqL K w'.H a vs) (r : RepL K w.H w.al ds vs) : Its K w (Itl K a) ds := by
  refine ⟨fun w' x ok' i hi => ?_, fun w' x ok' => ?_, fun w' x ok' i y H' hi q => ?_⟩
  · exact ⟨vs, vs[i]'(by rw [r.length]; exact hi), st w' x, by simp [r.length, hi]⟩
  · exact ⟨vs, st w' x, by rw [r.length]; exact Nat.le_refl _⟩
  · obtain ⟨rfl, q⟩ := q
    obtain ⟨d, hd, rd⟩ := (r.nxt x ok).getV (q vs (st w' x))
    exact ⟨w', d, Gd.refl ok', rfl, hd, rd⟩
theorem its_tup {a : Addr} {vs : List V} {ds : List D} (ok : Ok K w) (h : SqT K w.H a vs) (r : RepL K w.H w.al ds vs) : Its K w (Itt K a) ds := by
  have st : ∀ w', Nxt w w' → SqT K w'.H a vs := fun w' x => SqT.keep (x.k1 ok a) h
  refine ⟨fun w' x ok' i hi => ?_, fun w' x ok' => ?_, fun w' x ok' i y H' hi q => ?_⟩
  · exact ⟨vs, vs[i]'(by rw [r.length]; exact hi), st w' x, by simp [r.length, hi]⟩
  · exact ⟨vs, st w' x, by rw [r.length]; exact Nat.le_refl _⟩
  · obtain ⟨rfl, q⟩ := q
    obtain ⟨d, hd, rd⟩ := (r.nxt x ok).getV (q vs (st w' x))
    exact ⟨w', d, Gd.refl ok', rfl, hd, rd⟩
theorem its_rng {lo : Int} {n : Nat} : Its K w (Itr lo n) (rngD lo n) := by
  have hl : (rngD lo n).length = n := by unfold rngD; rw [List.length_map, List.length_range]
  refine ⟨fun w' x ok' i hi => ?_, fun w' x ok' => ?_, fun w' x ok' i y H' hi q => ?_⟩
  · rw [hl] at hi; exact hi
  · rw [hl]; exact Nat.le_refl _
  · rw [hl] at hi
    obtain ⟨rfl, rfl⟩ := q
    exact ⟨w', .int (lo + i), Gd.refl ok', rfl, by unfold rngD; rw [List.getElem?_map, List.getElem?_range hi]; rfl, rfl⟩
theorem ei_seq {tl : TE} {F : Loc → M W} (ha : EvE K mg E tl F) : EvI K mg E (iSeq K tl) (itS F) := by
  intro σ ρ w ok r R h
  unfold itS at h
  rw [sat_bnd] at h
  cases e : F ρ w.st with
  | bad => rw [e] at h; exact h.elim
  | err x s1 =>
    rw [e] at h
    exact .inl (ha σ ρ w ok r _ (by rw [e]; exact h))
  | ok x s1 =>
    rw [e] at h
    cases x with
    | r n => exact h.elim
    | k n => exact h.elim
    | h n => exact h.elim
    | d y =>
      cases y with
      | tup ds =>
        refine .inr (ha σ ρ w ok r _ ?_)
        rw [e]
        rintro v w1 g ⟨a, vs, rfl, hs, rl⟩
        exact ⟨a, rfl, ⟨vs, hs⟩, h _ w1 g (its_tup g.ok hs rl)⟩
      | lst ds =>
        refine .inl (ha σ ρ w ok r _ ?_)
        rw [e]
        rintro v w1 g ⟨a, vs, rfl, hs, na, rl⟩
        exact ⟨a, rfl, ⟨vs, SqL.of hs⟩, h _ w1 g (its_list g.ok (fun w2 x => SqL.of (x.keep a _ hs na)) rl)⟩
      | frz ds =>
        refine .inl (ha σ ρ w ok r _ ?_)
        rw [e]
        rintro v w1 g ⟨a, vs, rfl, hs, rl⟩
        exact ⟨a, rfl, ⟨vs, fz_sq hs⟩, h _ w1 g (its_list g.ok (fun w2 x => fz_sq (FzL.keep (x.k1 g.ok a) hs)) rl)⟩
      | tux ds =>
        refine .inr (ha σ ρ w ok r _ ?_)
        rw [e]
        rintro v w1 g ⟨a, vs, rfl, hs, rl⟩
        exact ⟨a, rfl, ⟨vs, tux_sq hs⟩, h _ w1 g (its_tup g.ok (tux_sq hs) rl)⟩
      | _ => exact h.elim
theorem ei_rg1 {ta : TE} {F : Loc → M W} (ha : EvE K mg E ta F) : EvI K mg E (iRng1 (tCons ta tNil)) (itR1 F) := by
  intro σ ρ w ok r R h
  refine ev1 ha ok r h fun x v w1 g1 ok1 r1 rv h1 => ?_
  obtain ⟨j, rfl, rfl, h2⟩ := gI_sat h1 rv
  unfold gRg1 at h2
  split at h2
  · rename_i hc
    refine ⟨j, rfl, by omega, by omega, h2 _ w1 g1 ?_⟩
    exact its_rng
  · exact h2.elim
theorem ei_rg2 {ta tb : TE} {F G : Loc → M W} (ha : EvE K mg E ta F) (hb : EvE K mg E tb G) : EvI K mg E (iRng2 (tCons ta (tCons tb tNil))) (itR2 F G) := by
  intro σ ρ w ok r R h
  refine ev1 ha ok r h fun x v w1 g1 ok1 r1 rv h1 => ?_
  refine ev1 hb ok1 r1 h1 fun y u w2 g2 ok2 r2 ru h2 => ?_
  obtain ⟨i, rfl, rfl, h3⟩ := gI_sat h2 rv
  obtain ⟨j, rfl, rfl, h4⟩ := gI_sat h3 ru
  unfold gRg2 at h4
  split at h4
  · rename_i hc
    refine ⟨i, j, rfl, ⟨by omega, by omega, by omega, by omega⟩, h4 _ w2 (g1.trans g2) ?_⟩
    exact its_rng
  · exact h4.elim

/-! ### targets -/
structure EvG (K : PySem.W.Frag) (g : TG) (is : List Nat) (B : D → Loc → Option Loc) : Prop where
  run : ∀ d ρ ρ' σ w v, Ok K w → ROk K w σ ρ → Rep K w.H w.al d v → B d ρ = some ρ' → ∀ Q : L2.St → Hp → Prop, (∀ σ', ROk K w σ' ρ' → (∀ vs : List Nat, (∀ i ∈ is, i ∈ vs) → wipe σ' vs = wipe σ vs) → Q σ' w.H) → g v σ w.H Q
structure EvGs (K : PySem.W.Frag) (g : TGs) (is : List Nat) (B : List D → Loc → Option Loc) : Prop where
  run : ∀ ds ρ ρ' σ w vs, Ok K w → ROk K w σ ρ → RepL K w.H w.al ds vs → B ds ρ = some ρ' → ∀ Q : L2.St → Hp → Prop, (∀ σ', ROk K w σ' ρ' → (∀ vs : List Nat, (∀ i ∈ is, i ∈ vs) → wipe σ' vs = wipe σ vs) → Q σ' w.H) → g vs σ w.H Q
def bName (i : Nat) : D → Loc → Option Loc := fun d ρ => some (ρ.set i (some (.d d)))
def bNil : List D → Loc → Option Loc := fun ds ρ => match ds with
  | [] => some ρ
  | _ => none
def bCons (B : D → Loc → Option Loc) (C : List D → Loc → Option Loc) : List D → Loc → Option Loc := fun ds ρ => match ds with
  | d :: r => (B d ρ).bind (C r)
  | [] => none
def bTup (n : Nat) (B : List D → Loc → Option Loc) : D → Loc → Option Loc := fun d ρ => match d with
  | .tup ds => if ds.length = n then B ds ρ else none
  | _ => none
theorem ROk.set {σ : L2.St} {ρ : Loc} (h : ROk K w σ ρ) (i : Nat) {x : W} {v : V} (r : RepW K w x v) : ROk K w (σ.set i (some v)) (ρ.set i (some x)) := by
  refine ⟨by rw [List.length_set, List.length_set]; exact h.1, fun j y e => ?_⟩
  by_cases hij : i = j
  · subst hij
    have hl : i < ρ.length := by
      have := (List.getElem?_eq_some_iff.mp e).1
      rwa [List.length_set] at this
    rw [List.getElem?_set_self hl] at e
    cases e
    exact ⟨v, List.getElem?_set_self (by rw [h.1]; exact hl), r⟩
  · rw [List.getElem?_set_ne hij] at e
    obtain ⟨u, e2, r2⟩ := h.2 j y e
    exact ⟨u, by rw [List.getElem?_set_ne hij]; exact e2, r2⟩
theorem wipe_get (σ : L2.St) : ∀ (vs : List Nat) (i : Nat), (wipe σ vs)[i]? = if i ∈ vs ∧ i < σ.length then some none else σ[i]?
  | [], i => by simp [wipe]
  | v :: vs, i => by
    unfold wipe
    by_cases h : v = i
    · subst h
      by_cases hl : v < σ.length
      · rw [List.getElem?_set_self (by rw [wipe_length]; exact hl), if_pos ⟨List.mem_cons_self, hl⟩]
      · rw [if_neg (fun z => hl z.2), List.getElem?_eq_none (by rw [List.length_set, wipe_length]; omega), List.getElem?_eq_none (by omega)]
    · rw [List.getElem?_set_ne h, wipe_get σ vs i]
      have : (i ∈ v :: vs) ↔ i ∈ vs := by simp [show i ≠ v from fun z => h z.symm]
      simp only [this]
theorem wipe_set {σ : L2.St} {vs : List Nat} {i : Nat} (x : Option V) (hi : i ∈ vs) : wipe (σ.set i x) vs = wipe σ vs := by
  apply List.ext_getElem?
  intro j
  rw [wipe_get, wipe_get, List.length_set]
  by_cases h : i = j
  · subst h
    by_cases hl : i < σ.length
    · rw [if_pos ⟨hi, hl⟩, if_pos ⟨hi, hl⟩]
    · rw [if_neg (fun z => hl z.2), if_neg (fun z => hl z.2), List.getElem?_eq_none (by rw [List.length_set]; omega), List.getElem?_eq_none (by omega)]
  · rw [List.getElem?_set_ne h]
theorem wipe_wipe (σ : L2.St) (vs : List Nat) : wipe (wipe σ vs) vs = wipe σ vs := by
  apply List.ext_getElem?
  intro j
  rw [wipe_get, wipe_get, wipe_length]
  split <;> rfl
def wipeL (ρ : Loc) : List Nat → Loc
  | [] => ρ
  | v :: vs => (wipeL ρ vs).set v none
theorem ROk.wipe {σ : L2.St} {ρ : Loc} (h : ROk K w σ ρ) : ∀ vs : List Nat, ROk K w (L2.wipe σ vs) (wipeL ρ vs)
  | [] => h
  | v :: vs => by
    have ih := ROk.wipe h vs
    unfold L2.wipe wipeL
    refine ⟨by rw [List.length_set, List.length_set]; exact ih.1, fun j y e => ?_⟩
    by_cases hij : v = j
    · subst hij
      by_cases hl : v < (wipeL ρ vs).length
      · rw [List.getElem?_set_self hl] at e
        cases e
      · rw [List.getElem?_eq_none (by rw [List.length_set]; omega)] at e
        cases e
    · rw [List.getElem?_set_ne hij] at e
      obtain ⟨u, e2, r2⟩ := ih.2 j y e
      exact ⟨u, by rw [List.getElem?_set_ne hij]; exact e2, r2⟩
theorem eg_name {i : Nat} : EvG K (gName i) [i] (bName i) := ⟨fun d ρ ρ' σ w v ok r rd h Q q => by
  cases h
  exact q _ (r.set i (x := .d d) rd) fun vs hv => wipe_set _ (hv i List.mem_cons_self)⟩
theorem eg_nil : EvGs K gNil [] bNil := ⟨fun ds ρ ρ' σ w vs ok r rd h Q q => by
  unfold bNil at h
  split at h
  · cases h
    exact ⟨rd, q σ r fun _ _ => rfl⟩
  · cases h⟩
theorem eg_cons {g : TG} {gs : TGs} {is js : List Nat} {B : D → Loc → Option Loc} {C : List D → Loc → Option Loc} (h1 : EvG K g is B) (h2 : EvGs K gs js C) : EvGs K (gCons g gs) (is ++ js) (bCons B C) := ⟨fun ds ρ ρ' σ w vs ok r rd h Q q => by
  unfold bCons at h
  split at h
  · rename_i d rest
    obtain ⟨v, us, rfl, rv, rr⟩ := rd
    cases e : B d ρ with
    | none => rw [e] at h; cases h
    | some ρ1 =>
      rw [e] at h
      refine ⟨v, us, rfl, h1.run d ρ ρ1 σ w v ok r rv e _ fun σ1 r1 z1 => ?_⟩
      refine h2.run rest ρ1 ρ' σ1 w us ok r1 rr h _ fun σ2 r2 z2 => ?_
      exact q σ2 r2 fun xs hx => (z2 xs fun i hi => hx i (List.mem_append_right _ hi)).trans (z1 xs fun i hi => hx i (List.mem_append_left _ hi))
  · cases h⟩
theorem eg_tup {gs : TGs} {is : List Nat} {n : Nat} {B : List D → Loc → Option Loc} (h1 : EvGs K gs is B) : EvG K (L2.gTup K n gs) is (bTup n B) := ⟨fun d ρ ρ' σ w v ok r rd h Q q => by
  unfold bTup at h
  split at h
  · rename_i ds
    split at h
    · rename_i hn
      obtain ⟨a, vs, rfl, hs, rl⟩ := rd
      exact ⟨a, vs, rfl, hs, by rw [rl.length, hn], h1.run ds ρ ρ' σ w vs ok r rl h Q q⟩
    · cases h
  · cases h⟩

/-! ### list comprehensions -/
def nox {α : Type} (m : M α) : M α := fun s => match m s with
  | .ok a s' => .ok a s'
  | _ => .bad
theorem nox_sat {α : Type} {m : M α} {s : Sto} {P : α → Sto → Prop} {E E' : XC → Sto → Prop} (h : (nox m s).sat P E) : (m s).sat P E' := by
  unfold nox at h
  cases e : m s with
  | ok a s1 => rw [e] at h; exact h
  | err a s1 => rw [e] at h; exact h.elim
  | bad => rw [e] at h; exact h.elim
def gD (x : W) : M D := fun s => match x with
  | .d y => .ok y s
  | _ => .bad
def lcGo (vs : List Nat) (B : D → Loc → Option Loc) (T : Loc → M Bool) (F : Loc → M W) (ρ : Loc) : List D → M (List D)
  | [] => M.ret []
  | d :: ds => match B d (wipeL ρ vs) with
    | none => M.bad
    | some ρ1 => M.bnd (nox (T ρ1)) fun b => if b = true then M.bnd (nox (F ρ1)) fun x => M.bnd (gD x) fun y => M.bnd (lcGo vs B T F ρ ds) fun r => M.ret (y :: r) else lcGo vs B T F ρ ds
def lcE (vs : List Nat) (I : Loc → M (List D)) (B : D → Loc → Option Loc) (T : Loc → M Bool) (F : Loc → M W) : Loc → M W := fun ρ => M.bnd (I ρ) fun ds => if ds.length ≤ cap then M.bnd (lcGo vs B T F ρ ds) fun r => M.ret (.d (.lst r)) else M.bad
def yes : Loc → M Bool := fun _ => M.ret true
theorem et_yes : EvT K mg E tYes yes := fun σ ρ w ok r Q h => h w (Gd.refl ok)
/-- the list that grows elsewhere is changed -/
def Wd.gup (w : Wd) (p : Addr) (vs : List V) : Wd := { w with H := upd w.H p (.lst vs) }
theorem gup_al {p a : Addr} {vs : List V} : (w.gup p vs).al a ↔ w.al a := Iff.rfl
theorem nxt_gup (ok : Ok K w) {p : Addr} {vs : List V} (g : w.G p) : Nxt w (w.gup p vs) :=
  ⟨fun a o h n => upd_off h fun z => n (.inr (by rw [z]; exact g)), ⟨[], by simp [Wd.gup]⟩, fun a h => .inl h, fun _ _ => Iff.rfl, fun _ h => upd_lv h⟩
theorem ok_gup (ok : Ok K w) {p : Addr} {vs : List V} (g : w.G p) : Ok K (w.gup p vs) := by
  have x := nxt_gup (vs := vs) ok g
  have hp := (ok.gst p g).1
  refine ⟨ok.len, ok.nd, fun n a ds h1 h2 hd => ?_, fun n a ds h1 h2 hd => ?_, ok.dkh, fun a h => ?_, fun a h => ?_⟩
  · obtain ⟨us, e, r⟩ := ok.cell n a ds h1 h2 hd
    exact ⟨us, upd_off e fun z => hp (by rw [← z]; exact List.mem_of_getElem? h1), r.nxt x ok⟩
  · exact (ok.celd n a ds h1 h2 hd).lay (fun u e => upd_off e fun z => hp (by rw [← z]; exact List.mem_of_getElem? h1)) fun es z => z.nxt x ok
  · show upd w.H p _ a ≠ none
    by_cases ha : a = p
    · rw [ha, upd_same]; exact fun z => nomatch z
    · rw [upd_ne ha]; exact ok.trk a h
  · obtain ⟨h1, us, e⟩ := ok.gst a h
    by_cases ha : a = p
    · rw [ha]; exact ⟨hp, vs, upd_same⟩
    · exact ⟨h1, us, upd_off e ha⟩
theorem ev_lc {wi : TI} {g : TG} {tt : TT} {te : TE} {vs is : List Nat} {I : Loc → M (List D)} {B : D → Loc → Option Loc} {T : Loc → M Bool} {F : Loc → M W} (hi : EvI K mg E wi I) (hg : EvG K g is B) (hs : is.all (fun i => vs.contains i) = true)
    (ht : EvT K mg E0 tt T) (he : EvE K mg E0 te F) : EvE K mg E (tLc wi g tt te vs) (lcE vs I B T F) := by
  intro σ ρ w ok r Q h
  unfold lcE at h
  rw [sat_bnd] at h
  refine hi σ ρ w ok r _ (h.mono (fun ds s1 h1 J w1 g1 J1 => ?_) fun _ _ z => z)
  obtain rfl := g1.st
  have r1 := r.nxt g1.stp.toNxt ok
  have ok1 := g1.ok
  by_cases hcap : ds.length ≤ cap
  case neg =>
    rw [if_neg hcap] at h1
    exact h1.elim
  rw [if_pos hcap, sat_bnd] at h1
  have hsub : ∀ i ∈ is, i ∈ vs := fun i hm => by
    have := List.all_eq_true.mp hs i hm
    simpa using this
  intro D hD
  have noG : ¬ w1.G D := fun z => by
    obtain ⟨_, us, e⟩ := ok1.gst D z
    rw [hD] at e; cases e
  let Post : List Y.D → Sto → Prop := fun l s' => ∀ v w', Gd K w1 s' w' → RepW K w' (.d (.lst l)) v → Q v w'.H
  let Pv : Nat → Hp → Prop := fun i H => ∃ (w' : Wd) (acc : List V) (dacc : List Y.D), w'.H = H ∧ Nxt w1 w' ∧ Ok K w' ∧ (∀ a, w'.G a ↔ (w1.G a ∨ a = D)) ∧ w'.H D = some (.lst acc) ∧ RepL K w'.H w'.al dacc acc ∧
    dacc.length ≤ i ∧ (∀ a o, w1.G a → w1.H a = some o → w'.H a = some o) ∧ i ≤ ds.length ∧ (lcGo vs B T F ρ (ds.drop i) w'.st).sat (fun l s' => Post (dacc ++ l) s') (EOk K mg E w1)
  have start : Pv 0 (upd w1.H D (.lst [])) := by
    let w2 : Wd := { w1 with H := upd w1.H D (.lst []), G := fun a => w1.G a ∨ a = D }
    have x : Nxt w1 w2 := ⟨fun a o e _ => upd_off e (ne_of_none e hD), ⟨[], by simp [w2]⟩, fun a z => by
      rcases z with z | z | z
      · exact .inl (.inl z)
      · exact .inl (.inr z)
      · rw [z]; exact .inr hD, fun _ _ => Iff.rfl, fun _ h => upd_lv h⟩
    have ok2 : Ok K w2 := by
      refine ⟨ok1.len, ok1.nd, fun n a es q1 q2 hd => ?_, fun n a es q1 q2 hd => ?_, ok1.dkh, fun a z => ?_, fun a z => ?_⟩
      · obtain ⟨us, e, q⟩ := ok1.cell n a es q1 q2 hd
        exact ⟨us, upd_off e (ne_of_none e hD), q.nxt x ok1⟩
      · exact (ok1.celd n a es q1 q2 hd).lay (fun u e => upd_off e (ne_of_none e hD)) fun es z => z.nxt x ok1
      · cases e : w1.H a with
        | none => exact absurd e (ok1.trk a z)
        | some o =>
          show upd w1.H D _ a ≠ none
          rw [upd_off e (ne_of_none e hD)]
          exact fun z => nomatch z
      · rcases z with z | z
        · obtain ⟨q1, us, e⟩ := ok1.gst a z
          exact ⟨q1, us, upd_off e (ne_of_none e hD)⟩
        · rw [z]
          exact ⟨fun q => ok1.trk D q hD, [], upd_same⟩
    exact ⟨w2, [], [], rfl, x, ok2, fun a => Iff.rfl, upd_same, rfl, Nat.le_refl _, fun a o _ e => upd_off e (ne_of_none e hD), Nat.zero_le _, h1.mono (fun l s' z v w' q1 q2 => z v w' (g1.trans q1) q2) fun _ _ z => z.of g1⟩
  refine ⟨fun i m H => m = ds.length - i ∧ Pv i H, ⟨ds.length, by simp, start⟩, ?_⟩
  rintro i m H ⟨rfl, w', acc, dacc, rfl, x, ok', hG, hDa, hr, hl, gk, hile, hsat⟩
  by_cases hlt : i < ds.length
  · refine .inr ⟨J1.go w' x ok' i hlt, Pv (i + 1), fun H' p => ⟨ds.length - (i + 1), by omega, rfl, p⟩, fun y H' hy => ?_⟩
    obtain ⟨w2, d, g2, rfl, hd, rd⟩ := J1.yld w' x ok' i y H' hlt hy
    have ed : ds.drop i = d :: ds.drop (i + 1) := by
      obtain ⟨hlt', e⟩ := List.getElem?_eq_some_iff.mp hd
      rw [← e]
      exact List.drop_eq_getElem_cons hlt
    rw [ed] at hsat
    unfold lcGo at hsat
    rw [← g2.st] at hsat
    have hG2 : w2.G D := by rw [g2.stp.g]; exact (hG D).mpr (.inr rfl)
    have hD2 : w2.H D = some (.lst acc) := g2.stp.gk D _ ((hG D).mpr (.inr rfl)) hDa
    have hr2 := hr.nxt g2.stp.toNxt ok'
    have rw2 : ROk K w2 (wipe σ vs) (wipeL ρ vs) := ((r1.nxt x ok1).nxt g2.stp.toNxt ok').wipe vs
    cases eB : B d (wipeL ρ vs) with
    | none => rw [eB] at hsat; exact hsat.elim
    | some ρ1 =>
      rw [eB] at hsat
      refine hg.run d _ ρ1 _ w2 y g2.ok rw2 rd eB _ fun σ2 rσ hw => ?_
      refine ⟨(hw vs hsub).trans (wipe_wipe σ vs), ?_⟩
      have hsat' := sat_bnd.mp hsat
      refine ht σ2 ρ1 w2 g2.ok rσ _ ((nox_sat hsat').mono (fun b s3 h3 w3 g3 => ?_) fun _ _ z => z)
      obtain rfl := g3.st
      have rσ3 := rσ.nxt g3.stp.toNxt g2.ok
      have x3 : Nxt w1 w3 := (x.trans g2.stp.toNxt).trans g3.stp.toNxt
      have hG3 : ∀ a, w3.G a ↔ (w1.G a ∨ a = D) := fun a => by rw [g3.stp.g, g2.stp.g]; exact hG a
      have hD3 : w3.H D = some (.lst acc) := g3.stp.gk D _ hG2 hD2
      have hr3 := hr2.nxt g3.stp.toNxt g2.ok
      have gk3 : ∀ a o, w1.G a → w1.H a = some o → w3.H a = some o := fun a o z e => g3.stp.gk a o (by rw [g2.stp.g]; exact (hG a).mpr (.inl z)) (g2.stp.gk a o ((hG a).mpr (.inl z)) (gk a o z e))
      cases b with
      | false =>
        rw [if_neg Bool.false_ne_true] at h3 ⊢
        exact ⟨w3, acc, dacc, rfl, x3, g3.ok, hG3, hD3, hr3, by omega, gk3, hlt, h3⟩
      | true =>
        rw [if_pos rfl] at h3 ⊢
        rw [sat_bnd] at h3
        refine he σ2 ρ1 w3 g3.ok rσ3 _ ((nox_sat h3).mono (fun z s4 h4 v w4 g4 rz => ?_) fun _ _ z => z)
        obtain rfl := g4.st
        rw [sat_bnd] at h4
        cases z with
        | r n => exact h4.elim
        | k n => exact h4.elim
        | h n => exact h4.elim
        | d yd =>
          have h4' : (M.bnd (lcGo vs B T F ρ (ds.drop (i + 1))) (fun r => M.ret (yd :: r)) w4.st).sat (fun l s' => Post (dacc ++ l) s') (EOk K mg E w1) := h4
          rw [sat_bnd] at h4'
          have hG4 : ∀ a, w4.G a ↔ (w1.G a ∨ a = D) := fun a => by rw [g4.stp.g]; exact hG3 a
          have hD4 : w4.H D = some (.lst acc) := g4.stp.gk D _ ((hG3 D).mpr (.inr rfl)) hD3
          have hr4 := hr3.nxt g4.stp.toNxt g3.ok
          have gD4 : w4.G D := (hG4 D).mpr (.inr rfl)
          refine ⟨acc, hD4, capL (by rw [hr4.length]; omega), ?_⟩
          have x4 := nxt_gup (vs := acc ++ [v]) g4.ok gD4
          have rz' : Rep K w4.H w4.al yd v := rz
          have hr5 : RepL K w4.H w4.al (dacc ++ [yd]) (acc ++ [v]) := hr4.append ⟨v, [], rfl, rz', rfl⟩
          refine ⟨w4.gup D (acc ++ [v]), acc ++ [v], dacc ++ [yd], rfl, (x3.trans g4.stp.toNxt).trans x4, ok_gup g4.ok gD4, hG4, upd_same, hr5.nxt x4 g4.ok, by simp; omega, fun a o z e => ?_, hlt, ?_⟩
          · exact upd_off (g4.stp.gk a o ((hG3 a).mpr (.inl z)) (gk3 a o z e)) fun q => noG (by rw [← q]; exact z)
          · refine h4'.mono (fun l s' z => ?_) fun _ _ z => z
            have z' : Post (dacc ++ (yd :: l)) s' := z
            rw [List.append_assoc]
            exact z'
  · have e : i = ds.length := by omega
    subst e
    refine .inl ⟨J1.stop w' x ok', ?_⟩
    rw [List.drop_length] at hsat
    have hp : Post (dacc ++ []) w'.st := hsat
    rw [List.append_nil] at hp
    let wf : Wd := { w' with G := w1.G }
    have al' : ∀ a, wf.al a → w'.al a := fun a z => by
      rcases z with z | z
      · exact .inl z
      · exact .inr ((hG a).mpr (.inl z))
    have kp : ∀ {d : List Y.D} {u : List V}, RepL K w'.H w'.al d u → RepL K wf.H wf.al d u := fun {d u} q => RepL.keep (fun a o e _ => e) (fun a us e n => ⟨e, fun z => n (al' a z)⟩) d u q
    have okf : Ok K wf := by
      refine ⟨ok'.len, ok'.nd, fun n a es q1 q2 hd => ?_, fun n a es q1 q2 hd => ?_, ok'.dkh, ok'.trk, fun a z => ok'.gst a ((hG a).mpr (.inl z))⟩
      · obtain ⟨us, e, q⟩ := ok'.cell n a es q1 q2 hd
        exact ⟨us, e, kp q⟩
      · exact (ok'.celd n a es q1 q2 hd).lay (fun u e => e) fun es z => DEnt.keep (fun a o e _ => e) (fun a us e n => ⟨e, fun z => n (al' a z)⟩) _ es z
    have gf : Gd K w1 w'.st wf := ⟨⟨⟨x.keep, x.ext, fun a z => x.al a (al' a z), x.dk, x.lv⟩, rfl, gk⟩, rfl, okf⟩
    refine hp _ wf gf ⟨D, acc, rfl, hDa, fun z => ?_, kp hr⟩
    rcases z with ⟨n, es, q1, q2⟩ | z
    · exact (ok'.gst D ((hG D).mpr (.inr rfl))).1 (List.mem_of_getElem? q1)
    · exact noG z
end
end Y

namespace Y
open PySem L2

/-! ### statements -/
inductive Fl where
  | nx | rt (x : W) | bk | ct
def PFl (K : PySem.W.Frag) (w : Wd) (D : Ends) : (Loc × Fl) → Sto → Prop := fun r s' => match r.2 with
  | .nx => ∀ σ' w', Gd K w s' w' → ROk K w' σ' r.1 → D.nx σ' w'.H
  | .bk => ∀ σ' w', Gd K w s' w' → ROk K w' σ' r.1 → D.bk σ' w'.H
  | .ct => ∀ σ' w', Gd K w s' w' → ROk K w' σ' r.1 → D.ct σ' w'.H
  | .rt x => ∀ v w', Gd K w s' w' → RepW K w' x v → D.rt v w'.H
def EvS (K : PySem.W.Frag) (mg : Str → Option Value) (E : XK) (ts : TS) (S : Loc → M (Loc × Fl)) : Prop :=
  ∀ σ ρ w, Ok K w → ROk K w σ ρ → ∀ D : Ends, (S ρ w.st).sat (PFl K w D) (EOk K mg E w) → ts D σ w.H
def nxt (ρ : Loc) : M (Loc × Fl) := M.ret (ρ, .nx)
def seqS (S T : Loc → M (Loc × Fl)) : Loc → M (Loc × Fl) := fun ρ => M.bnd (S ρ) fun r => match r.2 with
  | .nx => T r.1
  | _ => M.ret r
def setS (i : Nat) (F : Loc → M W) : Loc → M (Loc × Fl) := fun ρ => M.bnd (F ρ) fun x => nxt (ρ.set i (some x))
def asgS (B : D → Loc → Option Loc) (F : Loc → M W) : Loc → M (Loc × Fl) := fun ρ => M.bnd (F ρ) fun x => M.bnd (gD x) fun d => match B d ρ with
  | some ρ' => nxt ρ'
  | none => M.bad
def ifS (T : Loc → M Bool) (S U : Loc → M (Loc × Fl)) : Loc → M (Loc × Fl) := fun ρ => M.bnd (T ρ) fun c => if c = true then S ρ else U ρ
def retS (F : Loc → M W) : Loc → M (Loc × Fl) := fun ρ => M.bnd (F ρ) fun x => M.ret (ρ, .rt x)
def retN : Loc → M (Loc × Fl) := fun ρ => M.ret (ρ, .rt (.d .non))
def expS (F : Loc → M W) : Loc → M (Loc × Fl) := fun ρ => M.bnd (F ρ) fun _ => nxt ρ
def badS : Loc → M (Loc × Fl) := fun _ => M.bad
def forGo (B : D → Loc → Option Loc) (S : Loc → M (Loc × Fl)) : List D → Loc → M (Loc × Fl)
  | [], ρ => nxt ρ
  | d :: ds, ρ => match B d ρ with
    | none => M.bad
    | some ρ1 => M.bnd (S ρ1) fun r => match r.2 with
      | .nx => forGo B S ds r.1
      | .ct => forGo B S ds r.1
      | .bk => nxt r.1
      | .rt x => M.ret (r.1, .rt x)
def forS (I : Loc → M (List D)) (B : D → Loc → Option Loc) (S : Loc → M (Loc × Fl)) : Loc → M (Loc × Fl) := fun ρ => M.bnd (I ρ) fun ds => forGo B S ds ρ
/-- o[i] = e -/
def gPut (o i x : W) : M Unit := fun s => match o, i, x with
  | .h n, .d (.int k), .d y => (match s[n]? with
    | some (some ds) => (match ixN ds.length k with
      | some j => .ok () (s.set n (some (ds.set j y)))
      | none => .bad)
    | _ => .bad)
  | _, _, _ => .bad
def putS (F O I : Loc → M W) : Loc → M (Loc × Fl) := fun ρ => M.bnd (F ρ) fun x => M.bnd (O ρ) fun o => M.bnd (I ρ) fun i => M.bnd (gPut o i x) fun _ => nxt ρ
section
variable {K : PySem.W.Frag} {mg : Str → Option Value} {E : XK} {w w' : Wd} {s : Sto}
theorem PFl.of {D : Ends} (a : Gd K w s w') {r : Loc × Fl} {s2 : Sto} (h : PFl K w D r s2) : PFl K w' D r s2 := by
  obtain ⟨ρ, f⟩ := r
  cases f with
  | nx => exact fun σ' w2 g q => h σ' w2 (a.trans g) q
  | bk => exact fun σ' w2 g q => h σ' w2 (a.trans g) q
  | ct => exact fun σ' w2 g q => h σ' w2 (a.trans g) q
  | rt x => exact fun σ' w2 g q => h σ' w2 (a.trans g) q
theorem es_nil : EvS K mg E tNext nxt := fun σ ρ w ok r D h => h σ w (Gd.refl ok) r
theorem es_seq {t u : TS} {S T : Loc → M (Loc × Fl)} (h1 : EvS K mg E t S) (h2 : EvS K mg E u T) : EvS K mg E (tSeq t u) (seqS S T) := by
  intro σ ρ w ok r D h
  unfold seqS at h
  rw [sat_bnd] at h
  refine h1 σ ρ w ok r _ (h.mono (fun x s1 q => ?_) fun _ _ z => z)
  obtain ⟨ρ1, f⟩ := x
  cases f with
  | nx =>
    intro σ1 w1 g1 r1
    obtain rfl := g1.st
    exact h2 σ1 ρ1 w1 g1.ok r1 D (q.mono (fun _ _ z => z.of g1) fun _ _ z => z.of g1)
  | bk => exact q
  | ct => exact q
  | rt x => exact q
theorem es_set {te : TE} {i : Nat} {F : Loc → M W} (ha : EvE K mg E te F) : EvS K mg E (tAsg te (gName i)) (setS i F) := by
  intro σ ρ w ok r D h
  exact ev1 ha ok r h fun x v w1 g1 ok1 r1 rv h1 => h1 _ w1 g1 (r1.set i rv)
theorem es_asg {te : TE} {g : TG} {is : List Nat} {B : D → Loc → Option Loc} {F : Loc → M W} (ha : EvE K mg E te F) (hg : EvG K g is B) : EvS K mg E (tAsg te g) (asgS B F) := by
  intro σ ρ w ok r D h
  refine ev1 ha ok r h fun x v w1 g1 ok1 r1 rv h1 => ?_
  cases x with
  | r n => exact h1.elim
  | k n => exact h1.elim
  | h n => exact h1.elim
  | d y =>
    have h1' : ((match B y ρ with | some ρ' => nxt ρ' | none => M.bad) w1.st).sat (PFl K w D) (EOk K mg E w1) := h1
    cases eB : B y ρ with
    | none => rw [eB] at h1'; exact h1'.elim
    | some ρ' =>
      rw [eB] at h1'
      exact hg.run y ρ ρ' σ w1 v ok1 r1 rv eB _ fun σ' r' _ => h1' σ' w1 g1 r'
theorem es_if {tt : TT} {t u : TS} {T : Loc → M Bool} {S U : Loc → M (Loc × Fl)} (ht : EvT K mg E tt T) (h1 : EvS K mg E t S) (h2 : EvS K mg E u U) : EvS K mg E (tIfS tt t u) (ifS T S U) := by
  intro σ ρ w ok r D h
  refine evT1 ht ok r h fun c w1 g1 ok1 r1 q => ?_
  cases c with
  | true => exact h1 σ ρ w1 ok1 r1 D (q.mono (fun _ _ z => z.of g1) fun _ _ z => z)
  | false => exact h2 σ ρ w1 ok1 r1 D (q.mono (fun _ _ z => z.of g1) fun _ _ z => z)
theorem es_ret {te : TE} {F : Loc → M W} (ha : EvE K mg E te F) : EvS K mg E (tRet te) (retS F) := by
  intro σ ρ w ok r D h
  exact ev1 ha ok r h fun x v w1 g1 ok1 r1 rv h1 => h1 v w1 g1 rv
theorem es_retN : EvS K mg E tRetN retN := fun σ ρ w ok r D h => h .non w (Gd.refl ok) rfl
theorem es_exp {te : TE} {F : Loc → M W} (ha : EvE K mg E te F) : EvS K mg E (tDrop te) (expS F) := by
  intro σ ρ w ok r D h
  exact ev1 ha ok r h fun x v w1 g1 ok1 r1 rv h1 => h1 σ w1 g1 r1
theorem es_bad : EvS K mg E tNever badS := fun σ ρ w ok r D h => h.elim
theorem es_break : EvS K mg E tBreak (fun ρ => M.ret (ρ, .bk)) := fun σ ρ w ok r D h => h σ w (Gd.refl ok) r
theorem es_cont : EvS K mg E tCont (fun ρ => M.ret (ρ, .ct)) := fun σ ρ w ok r D h => h σ w (Gd.refl ok) r
theorem es_for {wi : TI} {g : TG} {tb : TS} {is : List Nat} {I : Loc → M (List D)} {B : D → Loc → Option Loc} {S : Loc → M (Loc × Fl)} (hi : EvI K mg E wi I) (hg : EvG K g is B) (hb : EvS K mg E tb S) : EvS K mg E (tFor wi g tb) (forS I B S) := by
  intro σ ρ w ok r D h
  unfold forS at h
  rw [sat_bnd] at h
  refine hi σ ρ w ok r _ (h.mono (fun ds s1 h1 J w1 g1 J1 => ?_) fun _ _ z => z)
  obtain rfl := g1.st
  have r1 := r.nxt g1.stp.toNxt ok
  have ok1 := g1.ok
  let Pv : Nat → L2.St → Hp → Prop := fun i σ' H => ∃ w' ρ', w'.H = H ∧ Gd K w1 w'.st w' ∧ ROk K w' σ' ρ' ∧ i ≤ ds.length ∧ (forGo B S (ds.drop i) ρ' w'.st).sat (PFl K w1 D) (EOk K mg E w1)
  refine ⟨fun i m σ' H => m = ds.length - i ∧ Pv i σ' H, ⟨ds.length, by simp, w1, ρ, rfl, Gd.refl ok1, r1, Nat.zero_le _, h1.mono (fun _ _ z => z.of g1) fun _ _ z => z.of g1⟩, ?_⟩
  rintro i m σ' H ⟨rfl, w', ρ', rfl, g', r', hile, hsat⟩
  by_cases hlt : i < ds.length
  · refine .inr ⟨J1.go w' g'.stp.toNxt g'.ok i hlt, Pv (i + 1), fun σ2 H' p => ⟨ds.length - (i + 1), by omega, rfl, p⟩, fun y H' hy => ?_⟩
    obtain ⟨w2, d, g2, rfl, hd, rd⟩ := J1.yld w' g'.stp.toNxt g'.ok i y H' hlt hy
    have ed : ds.drop i = d :: ds.drop (i + 1) := by
      obtain ⟨hlt', e⟩ := List.getElem?_eq_some_iff.mp hd
      rw [← e]
      exact List.drop_eq_getElem_cons hlt
    rw [ed] at hsat
    unfold forGo at hsat
    rw [← g2.st] at hsat
    have r2 := r'.nxt g2.stp.toNxt g'.ok
    cases eB : B d ρ' with
    | none => rw [eB] at hsat; exact hsat.elim
    | some ρ1 =>
      rw [eB] at hsat
      refine hg.run d ρ' ρ1 σ' w2 y g2.ok r2 rd eB _ fun σ2 rσ _ => ?_
      have hsat' := sat_bnd.mp hsat
      have g12 : Gd K w1 w2.st w2 := by
        have := g'.trans g2
        rw [← g2.st] at this
        exact this
      refine hb σ2 ρ1 w2 g2.ok rσ _ (hsat'.mono (fun x s3 h3 => ?_) fun _ _ z => z.of g12)
      obtain ⟨ρ3, f⟩ := x
      cases f with
      | nx =>
        intro σ3 w3 g3 r3
        obtain rfl := g3.st
        exact ⟨w3, ρ3, rfl, g12.trans g3, r3, hlt, h3⟩
      | ct =>
        intro σ3 w3 g3 r3
        obtain rfl := g3.st
        exact ⟨w3, ρ3, rfl, g12.trans g3, r3, hlt, h3⟩
      | bk => exact fun σ3 w3 g3 r3 => h3 σ3 w3 (g12.trans g3) r3
      | rt x => exact fun v w3 g3 r3 => h3 v w3 (g12.trans g3) r3
  · have e : i = ds.length := by omega
    subst e
    rw [List.drop_length] at hsat
    exact .inl ⟨J1.stop w' g'.stp.toNxt g'.ok, hsat σ' w' g' r'⟩
theorem es_put {te to ti : TE} {F O I : Loc → M W} (ha : EvE K mg E te F) (ho : EvE K mg E to O) (hi : EvE K mg E ti I) : EvS K mg E (tAsg te (gSub to ti rSetL)) (putS F O I) := by
  intro σ ρ w ok r D h
  refine ev1 ha ok r h fun x v w1 g1 ok1 r1 rv h1 => ?_
  refine ev1 ho ok1 r1 h1 fun y u w2 g2 ok2 r2 ru h2 => ?_
  refine ev1 hi ok2 r2 h2 fun z t w3 g3 ok3 r3 rt h3 => ?_
  rw [sat_bnd] at h3
  have ru3 := ru.nxt g3.stp.toNxt ok2
  have rv3 := (rv.nxt g2.stp.toNxt ok1).nxt g3.stp.toNxt ok2
  unfold gPut at h3
  split at h3
  · rename_i n k d
    split at h3
    · rename_i ds hds
      split at h3
      · rename_i j hj
        obtain ⟨a, ea, rfl, hnd⟩ := ru3
        obtain ⟨vs, hvs, rl⟩ := ok3.cell n a ds ea hds hnd
        obtain rfl : t = .int k := rt
        have gp := gd_put ok3 ea hds hnd (rl.set (d := d) (v := v) rv3 j)
        refine ⟨a, vs, k, j, rfl, rfl, hvs, by rw [rl.length]; exact hj, ?_⟩
        exact h3 σ _ (((g1.trans g2).trans g3).trans gp) (r3.nxt gp.stp.toNxt ok3)
      · exact h3.elim
    · exact h3.elim
  · exact h3.elim

/-! ### methods of lists that change them -/
/-- what a method makes of a list of the store and its arguments: the list behind it, the answer -/
def gMth (g : List D → List W → Option (List D × D)) (o : W) (as : List W) : M W := fun s => match o with
  | .h n => (match s[n]? with
    | some (some ds) => (match g ds as with
      | some (es, d) => .ok (.d d) (s.set n (some es))
      | none => .bad)
    | _ => .bad)
  | _ => .bad
def isHot (o : W) (s : Sto) : Bool := match o with
  | .h n => (match s[n]? with
    | some (some _) => true
    | _ => false)
  | _ => false
def gHot (o : W) : M Unit := fun s => if isHot o s = true then .ok () s else .bad
def mthE (g : List D → List W → Option (List D × D)) (O : Loc → M W) (A : Loc → M (List W)) : Loc → M W := fun ρ => M.bnd (O ρ) fun o => M.bnd (gHot o) fun _ => M.bnd (A ρ) fun as => gMth g o as
def SemM (K : PySem.W.Frag) (r : V → List V → Hp → VK → Prop) (g : List D → List W → Option (List D × D)) : Prop :=
  ∀ w n a ds as vs es d, Ok K w → w.hs[n]? = some a → w.st[n]? = some (some ds) → ¬ w.dk a → RepWs K w as vs → g ds as = some (es, d) → ∀ Q : VK, PW K w Q (.d d) (w.st.set n (some es)) → r (.ref a) vs w.H Q
theorem hot_is {o : W} {s : Sto} (h : isHot o s = true) : ∃ n ds, o = .h n ∧ s[n]? = some (some ds) := by
  unfold isHot at h
  split at h
  · rename_i n
    split at h
    · rename_i ds e
      exact ⟨n, ds, rfl, e⟩
    · cases h
  · cases h
theorem ev_mth {r : V → List V → Hp → VK → Prop} {g : List D → List W → Option (List D × D)} {to : TE} {ta : TA} {O : Loc → M W} {A : Loc → M (List W)} (hm : SemM K r g) (ho : EvE K mg E to O) (ha : EvA K mg E ta A) : EvE K mg E (tBM K "list" r to ta) (mthE g O A) := by
  intro σ ρ w ok ro Q h
  refine ev1 ho ok ro h fun x v w1 g1 ok1 r1 rv h1 => ?_
  rw [sat_bnd] at h1
  unfold gHot at h1
  split at h1
  · rename_i hh
    obtain ⟨n, ds, rfl, hd⟩ := hot_is hh
    obtain ⟨a, ea, rfl, hnd⟩ := rv
    obtain ⟨vs, hvs, rl⟩ := ok1.cell n a ds ea hd hnd
    have h1' : (M.bnd (A ρ) (fun as => gMth g (.h n) as) w1.st).sat (PW K w Q) (EOk K mg E w1) := h1
    refine ⟨.inl ⟨rfl, vs, SqL.of hvs⟩, evA1 ha ok1 r1 h1' fun as us w2 g2 ok2 r2 ru h2 => ?_⟩
    have ea2 : w2.hs[n]? = some a := by
      obtain ⟨t, et⟩ := g2.stp.ext
      rw [et, List.getElem?_append_left (List.getElem?_eq_some_iff.mp ea).1]
      exact ea
    unfold gMth at h2
    dsimp only at h2
    split at h2
    · rename_i es hes
      split at h2
      · rename_i zs d hg
        exact hm w2 n a es as us zs d ok2 ea2 hes (fun z => hnd ((g2.stp.toNxt.dk a (by rw [hvs]; exact fun z => nomatch z)).mp z)) ru hg Q (PW.of (g1.trans g2) h2)
      · exact h2.elim
    · exact h2.elim
  · exact h1.elim
theorem ev_mth0 {r : V → List V → Hp → VK → Prop} {g : List D → List W → Option (List D × D)} {to : TE} {O : Loc → M W} (hm : SemM K r g) (ho : EvE K mg E to O) : EvE K mg E (tBM0 K "list" r to) (mthE g O argN) := by
  intro σ ρ w ok ro Q h
  refine ev1 ho ok ro h fun x v w1 g1 ok1 r1 rv h1 => ?_
  rw [sat_bnd] at h1
  unfold gHot at h1
  split at h1
  · rename_i hh
    obtain ⟨n, ds, rfl, hd⟩ := hot_is hh
    obtain ⟨a, ea, rfl, hnd⟩ := rv
    obtain ⟨vs, hvs, rl⟩ := ok1.cell n a ds ea hd hnd
    refine ⟨.inl ⟨rfl, vs, SqL.of hvs⟩, ?_⟩
    have h2 : (gMth g (.h n) [] w1.st).sat (PW K w Q) (EOk K mg E w1) := h1
    unfold gMth at h2
    dsimp only at h2
    split at h2
    · rename_i es hes
      split at h2
      · rename_i zs d hg
        exact hm w1 n a es [] [] zs d ok1 ea hes hnd rfl hg Q (PW.of g1 h2)
      · exact h2.elim
    · exact h2.elim
  · exact h1.elim
def fApp : List D → List W → Option (List D × D) := fun ds as => match as with
  | [.d x] => if ds.length < cap then some (ds ++ [x], .non) else none
  | _ => none
def fExt : List D → List W → Option (List D × D) := fun ds as => match as with
  | [.d (.lst es)] => if ds.length + es.length ≤ cap then some (ds ++ es, .non) else none
  | _ => none
def fPopAt : List D → List W → Option (List D × D) := fun ds as => match as with
  | [.d (.int i)] => if 0 ≤ i ∧ i < 100000 then (match ds[i.toNat]? with
    | some d => some (ds.eraseIdx i.toNat, d)
    | none => none) else none
  | _ => none
def fPop : List D → List W → Option (List D × D) := fun ds as => match as with
  | [] => (match ds[ds.length - 1]? with
    | some d => some (ds.dropLast, d)
    | none => none)
  | _ => none
theorem RepL.erase {H : Hp} {al : Addr → Prop} : ∀ {ds : List D} {vs : List V} (n : Nat), RepL K H al ds vs → RepL K H al (ds.eraseIdx n) (vs.eraseIdx n)
  | [], _, _, h => by
    rw [show _ = [] from h]
    rfl
  | _ :: _, _, 0, ⟨v, us, e, _, p⟩ => by
    subst e
    exact p
  | _ :: _, _, n + 1, ⟨v, us, e, q, p⟩ => by
    subst e
    exact ⟨_, _, rfl, q, RepL.erase n p⟩
theorem sm_app : SemM K rAppend fApp := by
  intro w n a ds as vs es d ok ha hd hnd ra hg Q q
  obtain ⟨us, hus, rl⟩ := ok.cell n a ds ha hd hnd
  unfold fApp at hg
  split at hg
  · rename_i x
    split at hg
    · rename_i hc
      cases hg
      obtain ⟨v, rfl, rv⟩ := ra.one
      have gp := gd_put ok ha hd hnd (rl.append (es := [x]) (us := [v]) ⟨v, [], rfl, rv, rfl⟩)
      exact ⟨a, us, v, rfl, rfl, hus, by rw [rl.length]; exact capL hc, q .non _ gp rfl⟩
    · cases hg
  · cases hg
theorem sm_ext : SemM K rExtend fExt := by
  intro w n a ds as vs es d ok ha hd hnd ra hg Q q
  obtain ⟨us, hus, rl⟩ := ok.cell n a ds ha hd hnd
  unfold fExt at hg
  split at hg
  · rename_i xs
    split at hg
    · rename_i hc
      cases hg
      obtain ⟨v, rfl, rv⟩ := ra.one
      obtain ⟨b, zs, rfl, hb, _, rz⟩ := rv
      have gp := gd_put ok ha hd hnd (rl.append rz)
      exact ⟨a, b, us, zs, rfl, rfl, hus, hb, by rw [rl.length, rz.length]; exact capS hc, q .non _ gp rfl⟩
    · cases hg
  · cases hg
theorem sm_popAt : SemM K rPopAt fPopAt := by
  intro w n a ds as vs es d ok ha hd hnd ra hg Q q
  obtain ⟨us, hus, rl⟩ := ok.cell n a ds ha hd hnd
  unfold fPopAt at hg
  split at hg
  · rename_i i
    split at hg
    · rename_i hc
      split at hg
      · rename_i x hx
        cases hg
        obtain ⟨v, rfl, rv⟩ := ra.one
        obtain rfl : v = .int i := rv
        obtain ⟨y, hy, ry⟩ := rl.get hx
        have hlt := (List.getElem?_eq_some_iff.mp hy).1
        have hi : i < (us.length : Int) := by omega
        have gp := gd_put ok ha hd hnd (rl.erase i.toNat)
        refine ⟨a, us, i, i.toNat, y, rfl, rfl, hus, by omega, by omega, ?_, hy, q y _ gp (ry.nxt gp.stp.toNxt ok)⟩
        have e := (ixN_seq (n := us.length) (i := i) (j := i.toNat) (by unfold ixN; rw [if_pos hc.1, if_pos hi])).1
        exact e
      · cases hg
    · cases hg
  · cases hg
theorem dropLast_rep {H : Hp} {al : Addr → Prop} {ds : List D} {vs : List V} (r : RepL K H al ds vs) : RepL K H al ds.dropLast vs.dropLast := by
  rw [List.dropLast_eq_take, List.dropLast_eq_take, r.length]
  exact r.take _
theorem sm_pop : SemM K rPop fPop := by
  intro w n a ds as vs es d ok ha hd hnd ra hg Q q
  obtain ⟨us, hus, rl⟩ := ok.cell n a ds ha hd hnd
  unfold fPop at hg
  split at hg
  · split at hg
    · rename_i x hx
      cases hg
      obtain rfl : vs = [] := ra
      obtain ⟨y, hy, ry⟩ := rl.get hx
      have gp := gd_put ok ha hd hnd (dropLast_rep rl)
      exact ⟨a, us, y, rfl, rfl, hus, by rw [rl.length]; exact hy, q y _ gp (ry.nxt gp.stp.toNxt ok)⟩
    · cases hg
  · cases hg

/-! ### calls of own defs -/
def Prom (K : PySem.W.Frag) (mg : Str → Option Value) (n : Nat) (F : List W → M W) : Sp := fun vs H Q E => ∃ as w, w.H = H ∧ Ok K w ∧ RepWs K w as vs ∧ as.length = n ∧ (F as w.st).sat (PW K w Q) (EOk K mg E w)
theorem Prom.len {n : Nat} {F : List W → M W} {vs : List V} {H : Hp} {Q : VK} (h : Prom K mg n F vs H Q E) : vs.length = n := by
  obtain ⟨as, w, _, _, r, e, _⟩ := h
  rw [r.length, e]
def calL (n : Nat) (F : List W → M W) (A : Loc → M (List W)) : Loc → M W := fun ρ => M.bnd (A ρ) fun as => if as.length = n then F as else M.bad
theorem ev_call {n : Nat} {F : List W → M W} {ta : TA} {A : Loc → M (List W)} (ha : EvA K mg E ta A) : EvE K mg E (tCall (Prom K mg n F) [] E ta) (calL n F A) := by
  intro σ ρ w ok r Q h
  refine evA1 ha ok r h fun as vs w1 g1 ok1 r1 rv h1 => ?_
  split at h1
  · rename_i hn
    refine ⟨as, w1, rfl, ok1, by rw [List.append_nil]; exact rv, hn, h1.mono (fun _ _ z => PW.of g1 z) fun _ _ z => z⟩
  · exact h1.elim
/-- the same, its way out wished for otherwise -/
theorem prom_imp {n : Nat} {F G : List W → M W} (h : ∀ as s, G as s = .bad ∨ G as s = F as s) (vs : List V) (H : Hp) (Q : VK) (E : XK) (q : Prom K mg n G vs H Q E) : Prom K mg n F vs H Q E := by
  obtain ⟨as, w, e1, e2, e3, e4, e5⟩ := q
  refine ⟨as, w, e1, e2, e3, e4, ?_⟩
  rcases h as w.st with z | z
  · rw [z] at e5; exact e5.elim
  · rw [← z]; exact e5

/-! ### a def's body -/
def okW (n : Nat) : W → Bool
  | .d _ => true
  | .r _ => true
  | .h k => decide (k < n)
  | .k k => decide (k < n)
def leave (n : Nat) (x : W) : M W := fun s => if okW n x = true then .ok x (s.take n) else .bad
/-- a def whose body is S; m of its new lists are its caller's -/
def runD (m N : Nat) (S : Loc → M (Loc × Fl)) (as : List W) : M W := fun s => match S (as.map some ++ List.replicate (N - as.length) none) s with
  | .ok (_, .rt x) s' => leave (s.length + m) x s'
  | .ok (_, .nx) s' => leave (s.length + m) (.d .non) s'
  | .err e s' => .err e (s'.take (s.length + m))
  | _ => .bad
def Wd.cut (w : Wd) (n : Nat) : Wd := { w with hs := w.hs.take n, st := w.st.take n, dk := fun a => w.dk a ∧ a ∈ w.hs.take n }
theorem cut_hot {n : Nat} {a : Addr} (h : (w.cut n).hot a) : w.hot a := by
  obtain ⟨k, ds, h1, h2⟩ := h
  have h1' : (w.hs.take n)[k]? = some a := h1
  have h2' : (w.st.take n)[k]? = some (some ds) := h2
  refine ⟨k, ds, ?_, ?_⟩
  · have hk : k < n := by
      have := (List.getElem?_eq_some_iff.mp h1').1
      rw [List.length_take] at this
      omega
    rwa [List.getElem?_take_of_lt hk] at h1'
  · have hk : k < n := by
      have := (List.getElem?_eq_some_iff.mp h2').1
      rw [List.length_take] at this
      omega
    rwa [List.getElem?_take_of_lt hk] at h2'
theorem cut_al {n : Nat} {a : Addr} (h : (w.cut n).al a) : w.al a := by
  rcases h with h | h
  · exact .inl (cut_hot h)
  · exact .inr h
theorem cuts_rep {n : Nat} {d : D} {v : V} (h : Rep K w.H w.al d v) : Rep K (w.cut n).H (w.cut n).al d v := Rep.keep (fun a o e _ => e) (fun a us e q => ⟨e, fun z => q (cut_al z)⟩) d v h
theorem cuts_reps {n : Nat} {d : List D} {v : List V} (h : RepL K w.H w.al d v) : RepL K (w.cut n).H (w.cut n).al d v := RepL.keep (fun a o e _ => e) (fun a us e q => ⟨e, fun z => q (cut_al z)⟩) d v h
theorem ok_cut {n : Nat} (ok : Ok K w) : Ok K (w.cut n) := by
  refine ⟨?_, ?_, fun k a ds h1 h2 hd => ?_, fun k a ds h1 h2 hd => ?_, fun a h => h.2, fun a h => ok.trk a (List.mem_of_mem_take h), fun a h => ⟨fun z => (ok.gst a h).1 (List.mem_of_mem_take z), (ok.gst a h).2⟩⟩
  · show (w.hs.take n).length = (w.st.take n).length
    rw [List.length_take, List.length_take, ok.len]
  · exact ok.nd.sublist (List.take_sublist n w.hs)
  · have h1' : (w.hs.take n)[k]? = some a := h1
    have h2' : (w.st.take n)[k]? = some (some ds) := h2
    have hk : k < n := by
      have := (List.getElem?_eq_some_iff.mp h1').1
      rw [List.length_take] at this
      omega
    have hm := List.mem_of_getElem? h1'
    rw [List.getElem?_take_of_lt hk] at h1' h2'
    obtain ⟨us, e, r⟩ := ok.cell k a ds h1' h2' fun z => hd ⟨z, hm⟩
    exact ⟨us, e, cuts_reps r⟩
  · have h1' : (w.hs.take n)[k]? = some a := h1
    have h2' : (w.st.take n)[k]? = some (some ds) := h2
    have hk : k < n := by
      have := (List.getElem?_eq_some_iff.mp h1').1
      rw [List.length_take] at this
      omega
    rw [List.getElem?_take_of_lt hk] at h1' h2'
    exact (ok.celd k a ds h1' h2' hd.1).lay (fun u e => e) fun es z => DEnt.keep (fun a o e _ => e) (fun a us e q => ⟨e, fun z => q (cut_al z)⟩) _ es z
theorem gd_cut {n : Nat} {s' : Sto} (ok : Ok K w) (g : Gd K w s' w') (hn : w.hs.length ≤ n) : Gd K w (s'.take n) (w'.cut n) := by
  refine ⟨⟨⟨g.stp.keep, ?_, fun a h => g.stp.al a (cut_al h), fun a h => ⟨fun z => (g.stp.toNxt.dk a h).mp z.1, fun z => ⟨(g.stp.toNxt.dk a h).mpr z, ?_⟩⟩, g.stp.toNxt.lv⟩, g.stp.g, g.stp.gk⟩, ?_, ok_cut g.ok⟩
  rotate_left
  · obtain ⟨t, e⟩ := g.stp.ext
    rw [e, List.take_append, List.take_of_length_le hn]
    exact List.mem_append_left _ (ok.dkh a z)
  rotate_left
  · obtain ⟨t, e⟩ := g.stp.ext
    refine ⟨t.take (n - w.hs.length), ?_⟩
    show w'.hs.take n = _
    rw [e, List.take_append, List.take_of_length_le hn]
  · show w'.st.take n = _
    rw [g.st]
theorem repW_cut {n : Nat} {x : W} {v : V} (h : okW n x = true) (r : RepW K w x v) : RepW K (w.cut n) x v := by
  cases x with
  | r k => exact r
  | d y => exact cuts_rep r
  | h k =>
    have hk : k < n := of_decide_eq_true h
    obtain ⟨a, e, rfl, hnd⟩ := r
    exact ⟨a, by show (w.hs.take n)[k]? = _; rw [List.getElem?_take_of_lt hk]; exact e, rfl, fun z => hnd z.1⟩
  | k k =>
    have hk : k < n := of_decide_eq_true h
    obtain ⟨a, e, rfl, hnd⟩ := r
    have e2 : (w.hs.take n)[k]? = some a := by rw [List.getElem?_take_of_lt hk]; exact e
    exact ⟨a, e2, rfl, hnd, List.mem_of_getElem? e2⟩
theorem repF_cut {n : Nat} : ∀ {ds : List (Str × D)} {vs : List (Str × V)}, RepF K w ds vs → RepF K (w.cut n) ds vs
  | [], _, h => h
  | (f, d) :: ds, _, ⟨v, us, e, r, q⟩ => ⟨v, us, e, cuts_rep r, repF_cut q⟩
theorem repX_cut {n : Nat} {e : XC} {c : Value} {d : Option Addr} (h : RepX K mg w e c d) : RepX K mg (w.cut n) e c d := by
  obtain ⟨C, p, fs, h1, h2, h3, h4, h5⟩ := h
  exact ⟨C, p, fs, h1, h2, h3, h4, repF_cut h5⟩
theorem ros_start : ∀ {as : List W} {vs : List V} (n : Nat), RepWs K w as vs → ROk K w (vs.map some ++ List.replicate n none) (as.map some ++ List.replicate n none)
  | as, vs, n, r => by
    have hl := r.length
    refine ⟨by simp [hl], fun i x e => ?_⟩
    have aux : ∀ {as : List W} {vs : List V} {i : Nat} {x : W}, RepWs K w as vs → as[i]? = some x → ∃ v, vs[i]? = some v ∧ RepW K w x v := by
      intro as
      induction as with
      | nil => intro vs i x _ h; simp at h
      | cons a as ih =>
        rintro vs i x ⟨v, us, rfl, r1, r2⟩ h
        cases i with
        | zero =>
          simp at h
          subst h
          exact ⟨v, rfl, r1⟩
        | succ i =>
          simpa using ih r2 (by simpa using h)
    by_cases hi : i < as.length
    · rw [List.getElem?_append_left (by simpa using hi), List.getElem?_map] at e
      cases ea : as[i]? with
      | none => rw [ea] at e; cases e
      | some y =>
        rw [ea] at e
        cases e
        obtain ⟨v, hv, rv⟩ := aux r ea
        refine ⟨v, ?_, rv⟩
        rw [List.getElem?_append_left (by simpa [hl] using hi), List.getElem?_map, hv]
        rfl
    · rw [List.getElem?_append_right (by simpa using hi)] at e
      obtain ⟨_, e2⟩ := List.getElem?_eq_some_iff.mp e
      simp at e2
/-- from the body's run to the def's promise -/
theorem body_prom {m : Nat} {N : List Str} {n : Nat} {S : Loc → M (Loc × Fl)} {ts : TS} {vs : List V} {H : Hp} {Q : VK} (hS : EvS K mg E ts S) (hn : n ≤ N.length) (h : Prom K mg n (runD m N.length S) vs H Q E) :
    ts { nx := fun _ H' => Q .non H', rt := Q } (L2.start N vs) H := by
  obtain ⟨as, w, rfl, ok, r, hl, hsat⟩ := h
  unfold L2.start
  have hv : vs.length = as.length := r.length
  rw [hv]
  refine hS _ _ w ok (ros_start (N.length - as.length) r) _ ?_
  unfold runD at hsat
  have hlen : w.hs.length ≤ w.st.length + m := by rw [ok.len]; omega
  cases e : S (as.map some ++ List.replicate (N.length - as.length) none) w.st with
  | bad => rw [e] at hsat; exact hsat.elim
  | err x s' =>
    rw [e] at hsat
    intro c d w' g rx
    exact hsat c d (w'.cut (w.st.length + m)) (gd_cut ok g hlen) (repX_cut rx)
  | ok x s' =>
    obtain ⟨ρ', f⟩ := x
    rw [e] at hsat
    cases f with
    | nx =>
      intro σ' w' g r'
      have hs2 : (leave (w.st.length + m) (.d .non) s').sat (PW K w Q) (EOk K mg E w) := hsat
      exact hs2 .non (w'.cut (w.st.length + m)) (gd_cut ok g hlen) rfl
    | rt y =>
      intro v w' g ry
      have hs2 : (leave (w.st.length + m) y s').sat (PW K w Q) (EOk K mg E w) := hsat
      unfold leave at hs2
      split at hs2
      · rename_i ho
        exact hs2 v (w'.cut (w.st.length + m)) (gd_cut ok g hlen) (repW_cut ho ry)
      · exact hs2.elim
    | bk => exact hsat.elim
    | ct => exact hsat.elim
end
end Y

namespace Y
open PySem L2 PyProof.Rows

/-! ### a tuple times 1 is itself -/
theorem tuple_mul1 (l : Addr) (items : Array Value) (n : Nat) (dd : Option Addr) (sl : Array (Option Value)) (u : Tok) :
    Meets (Builtin.«tuple.__mul__» ⟨[.ref l, .int 1 u], []⟩) (fun _ R s => s.heap.get? l = some { cls := .type "tuple", dict := dd, data := .seq items n, slots := sl } ∧ R (.ok (.ret (Value.ref l))) s) :=
  .of_wp fun prog w A R s h => by
    obtain ⟨hp, g, d, tk, os⟩ := s
    obtain ⟨hl, h⟩ := h
    have f1 := AutoSeq1.idx_int
    wp_walk using PySem.AutoSeq1.wpAny_loadPart' hl
    exact ⟨_, rfl, h⟩
def rRep1 (K : PySem.W.Frag) : R2 := fun x y H Q => ∃ l xs, x = .ref l ∧ y = .int 1 ∧ SqT K H l xs ∧ Q (.ref l) H
theorem op_rep1 {X : Cx} : OpR X (binaryOp .Mult) (rRep1 X.K) := by
  intro pins s σ H x y v u Q I rx ry h
  obtain ⟨l, xs, rfl, rfl, hT, q⟩ := h
  cases rx
  obtain ⟨t, rfl⟩ := ry
  obtain ⟨its, r, ⟨⟨cls, dd, data, sl⟩, ho, hc, n, hd⟩, hs⟩ := I.tuple hT
  simp only at hc hd
  subst hc hd
  exact wpAny_binaryOp_repeat_ref (T := "tuple") (U := "int") (by decide) ⟨_, ho, rfl⟩ (fun s' => typeIs_int s' 1 t) noFill_tuple_mul F.fills_int_mul F.slot_int_rmul repeat_tuple F.slot_int_index.lookup
    (call_meets F.slot_int_rmul (typeIs_int s 1 t) F.entry_int_rmul (F.args_int_rmul_2 _ _) (int_rmul_tuple 1 t l its.toArray n dd sl)
      ⟨ho, rfl, ⟨_, ho, rfl⟩, call_meets F.slot_tuple_mul ⟨_, ho, rfl⟩ F.entry_tuple_mul (F.args_tuple_mul_2 _ _) (tuple_mul1 l its.toArray n dd sl t) ⟨ho, ⟨.ref l, H, I, rfl, q⟩⟩⟩)
def repD (k : Nat) (xs : List D) : List D := (List.replicate k xs).flatten
theorem rep_repD {K : PySem.W.Frag} {H : Hp} {al : Addr → Prop} {ds : List D} {vs : List V} (r : RepL K H al ds vs) : ∀ k : Nat, RepL K H al (repD k ds) (List.replicate k vs).flatten
  | 0 => rfl
  | k + 1 => by
    unfold repD
    rw [List.replicate_succ, List.replicate_succ, List.flatten_cons, List.flatten_cons]
    exact r.append (rep_repD r k)
instance : DecidableRel IntMulOk := fun _ _ => inferInstanceAs (Decidable (¬ _))
def fMul : Sto → W → W → Option W := fun s a b => match vw s a, b with
  | some (.int i), .d (.int j) => if IntMulOk i j then some (.d (.int (i * j))) else none
  | some (.tup xs), .d (.int j) => if (xs ≠ [] ∧ 1 ≤ j ∧ j ≤ 1000 ∧ xs.length ≤ 1000) then some (.d (.tup (repD j.toNat xs))) else none
  | some (.lst xs), .d (.int j) => if (-1000 ≤ j ∧ j ≤ 1000 ∧ xs.length ≤ 1000) then some (.d (.lst (repD j.toNat xs))) else none
  | _, _ => none
def rMulY (K : PySem.W.Frag) : R2 := fun x y H Q => rI IntMulOk (fun i j => .int (i * j)) x y H Q ∨ rRepT K x y H Q ∨ rRep1 K x y H Q ∨ rRep x y H Q
theorem op_mulI {X : Cx} : OpR X (binaryOp .Mult) (rI IntMulOk fun i j => .int (i * j)) := opI fun _ _ _ _ _ _ _ hc q => mul_int q hc
theorem op_mulY {X : Cx} : OpR X (binaryOp .Mult) (rMulY X.K) := op_mulI.or (op_repT.or (op_rep1.or op_rep))
section
variable {K : PySem.W.Frag} {mg : Str → Option Value} {E : XK} {w : Wd}
theorem sem_mul : SemR2 K (rMulY K) (opt2 fMul) := sem2 fun w a b x y z ok ra rb h Q q => by
  unfold fMul at h
  split at h
  · rename_i i j e
    split at h
    · rename_i hc
      cases h
      exact .inl ⟨i, j, rd_int ok e ra, rb, hc, pw_d (d := .int _) ok rfl q⟩
    · cases h
  · rename_i xs j e
    split at h
    · rename_i hc
      cases h
      obtain ⟨p, vs, rfl, hs, r⟩ := rd_tup ok e ra
      by_cases h1 : j = 1
      · subst h1
        refine .inr (.inr (.inl ⟨p, vs, rfl, rb, hs, ?_⟩))
        have e1 : repD (1 : Int).toNat xs = xs := by show repD 1 xs = xs; simp [repD]
        rw [e1] at q
        exact pw_d (d := .tup xs) ok ⟨p, vs, rfl, hs, r⟩ q
      · refine .inr (.inl ⟨p, j, vs, rfl, rb, hs, fun z => ?_, by omega, hc.2.2.1, by rw [r.length]; exact hc.2.2.2, pw_tup ok (rep_repD r _) q⟩)
        subst z
        exact hc.1 (List.eq_nil_of_length_eq_zero r.length.symm)
    · cases h
  · rename_i xs j e
    split at h
    · rename_i hc
      cases h
      obtain ⟨p, vs, rfl, hs, r⟩ := rd_lst ok e ra
      refine .inr (.inr (.inr ⟨p, j, vs, rfl, rb, hs, by omega, by omega, ?_, pw_lst ok (rep_repD r _) q⟩))
      rw [r.length, sizeLine_eq]
      have a1 : xs.length * j.toNat ≤ 1000 * 1000 := Nat.mul_le_mul hc.2.2 (by omega)
      omega
    · cases h
  · cases h

/-! ### isinstance -/
def tyN : D → String
  | .non => "NoneType"
  | .bl _ => "bool"
  | .int _ => "int"
  | .str _ => "str"
  | .tup _ => "tuple"
  | .lst _ => "list"
  | .frz _ => "list"
  | .tux _ => "tuple"
inductive Ty5 where
  | int | bool | str | tuple | list
def Ty5.nm : Ty5 → String
  | .int => "int"
  | .bool => "bool"
  | .str => "str"
  | .tuple => "tuple"
  | .list => "list"
def isT : Ty5 → D → Bool
  | .int, .int _ => true
  | .int, .bl _ => true
  | .bool, .bl _ => true
  | .str, .str _ => true
  | .tuple, .tup _ => true
  | .list, .lst _ => true
  | .list, .frz _ => true
  | .tuple, .tux _ => true
  | _, _ => false
theorem kit_isT (T : Ty5) (d : D) : kitB (tyN d) T.nm = some (isT T d) := by
  cases T <;> cases d <;> (show kitB _ _ = some _; first | decide +kernel | (simp only [isT, tyN, Ty5.nm]; decide +kernel))
theorem sqL_ty {H : Hp} {a : Addr} {xs : List V} (h : SqL K H a xs) : TyX K H (.ref a) (.type "list") := by
  rcases h with (h | ⟨o, h⟩) | ⟨o, its, n, h1, h2, _⟩
  · exact .base (.lst h)
  · exact .base (.frz h)
  · exact .kList h1 h2
theorem sqT_ty {H : Hp} {a : Addr} {xs : List V} (h : SqT K H a xs) : TyX K H (.ref a) (.type "tuple") := by
  rcases h with (h | ⟨o, h⟩) | ⟨o, its, n, h1, h2, _⟩
  · exact .base (.tup h)
  · exact .fTuple h
  · exact .kTuple h1 h2
theorem rep_ty {H : Hp} {al : Addr → Prop} {d : D} {v : V} (r : Rep K H al d v) : TyX K H v (.type (tyN d)) := by
  cases d with
  | non => obtain rfl : v = .non := r; exact .base .non
  | bl b => obtain rfl : v = .bl b := r; exact .base (.bl b)
  | int b => obtain rfl : v = .int b := r; exact .base (.int b)
  | str b => obtain rfl : v = .str b := r; exact .base (.str b)
  | tup ds => obtain ⟨a, vs, rfl, h, _⟩ := r; exact sqT_ty h
  | lst ds => obtain ⟨a, vs, rfl, h, _⟩ := r; exact sqL_ty (SqL.of h)
  | frz ds => obtain ⟨a, vs, rfl, h, _⟩ := r; exact sqL_ty (fz_sq h)
  | tux ds => obtain ⟨a, vs, rfl, h, _⟩ := r; exact sqT_ty (tux_sq h)
def gIsi (T : Ty5) (x : W) : M W := fun s => match vw s x with
  | some d => .ok (.d (.bl (isT T d))) s
  | none => .bad
theorem ev_isi {T : Ty5} {n : String} (hn : n = T.nm) {ta : TE} {F : Loc → M W} (ha : EvE K mg E ta F) : EvE K mg E (tCB (rIsi K) (tCons ta (tCons (tC (.ty n)) tNil))) (op1 (gIsi T) F) := by
  subst hn
  intro σ ρ w ok r Q h
  refine ev1 ha ok r h fun x v w1 g1 ok1 r1 rv h1 => ?_
  unfold gIsi at h1
  split at h1
  · rename_i d hd
    have ty : TyX K w1.H v (.type (tyN d)) := by
      rcases rd_vw ok1 hd rv with rfl | ⟨ds, a, vs, rfl, rfl, h2, _⟩
      · exact rep_ty rv
      · exact sqL_ty (SqL.of h2)
    exact ⟨v, .ty T.nm, _, _, isT T d, rfl, .ty _, ty, kit_ty (kit_isT T d), h1 _ w1 g1 rfl⟩
  · exact h1.elim

/-! ### own defs -/
structure Own (P : Program) (w : World) (K : PySem.W.Frag) (mg : Str → Option Value) (base : Heap) (CX : CXT) (k : Nat) (x : Str) (n : Nat) (F : List W → M W) : Prop where
  ex : ∃ f fd ps, FnOk P w K mg base CX k f fd ps (Prom K mg n F) ∧ Binds K fd ps [] ∧ PySem.W.keepIn K (.ref f) = true ∧ mg x = some (.ref f)
theorem pe_own {X : Cx} {CX : CXT} {k n : Nat} {x : Str} {F : List W → M W} {p pos : Pos} {e : PySem.Expr} {es : List PySem.Expr} {t : TA} (O : Own X.prog X.w X.K X.mg X.base CX k x n F) (hr : Room k X.A) (hg : Gl X x) (hx : Passes CX X E)
    (ha : PA X (e :: es) t) (hdb : (x == ("__debug__" : Str)) = false := by decide) (he : starEach (e :: es) X.env = (false, eval e X.env) :: starEach es X.env := by rfl) (hpl : (backTo pos (starEach es X.env)).any (·.1) = false := by rfl) :
    PE X (.Call (.Name x p) (e :: es) [] pos) (tCall (Prom X.K X.mg n F) [] E t) := by
  obtain ⟨f, fd, ps, G, b, hk, hm⟩ := O.ex
  exact pe_call G hr hg hm hk b .nil hx ha hdb he hpl
theorem passA {X : Cx} {E : XK} : Passes CX0 X E := fun _ _ _ _ _ _ _ h => h.elim
theorem fn_prom {P : Program} {w : World} {K : PySem.W.Frag} {mg : Str → Option Value} {base : Heap} {x qual : Str} {st : Stmt} {f : Addr} {fd : FuncData} {N ps : List Str} {k n L : Nat} {S : Loc → M (Loc × Fl)} (m : Nat) (F : Fun K x qual st f fd) (Sc : FnScope N ps (defScope st)) (hn : ps.length = n) (hL : N.length = L) (hN : n ≤ L)
    (hb : ∀ (cdv : Value) (A : Around) (outer : List Env) (s : Shared) (H : Hp) (E : XK), Room k (A.deeper (envOfC qual (defScope st) s.heap.objs.size f cdv)) →
      ∃ ts, PSs (cxOf CX0 P w K mg base N qual (defScope st) f cdv A outer s H E).nox (defBody st) ts ∧ EvS K mg E ts S) : FnOk P w K mg base CX0 (k + 1) f fd ps (Prom K mg n (runD m L S)) := by
  subst hL
  refine F.ok Sc (fun vs H Q E h => by rw [hn]; exact h.len) (fun cdv A outer s H vs Q E hr h => ?_)
  obtain ⟨ts, h1, h2⟩ := hb cdv A outer s H E hr
  exact ⟨ts, h1, body_prom h2 hN h⟩
/-- a def of the text as its callers know it -/
theorem own_mk {P : Program} {w : World} {K : PySem.W.Frag} {mg : Str → Option Value} {base : Heap} {x qual : Str} {st : Stmt} {f : Addr} {fd : FuncData} {ps : List Str} {k n : Nat} {F : List W → M W} (O : FnOk P w K mg base CX0 k f fd ps (Prom K mg n F)) (Fn : Fun K x qual st f fd) (b : Binds K fd ps []) (hm : mg x = some (.ref f)) :
    Own P w K mg base CX0 k x n F := ⟨f, fd, ps, O, b, Fn.kp, hm⟩
end
end Y

namespace Y
open PySem L2
section
variable {K : PySem.W.Frag} {mg : Str → Option Value} {E : XK} {w : Wd} {X : Cx}
theorem pe_gint {x : Str} {i : Int} {pos : Pos} (hg : Gl X x) (h : ∃ t, X.mg x = some (.int i t)) (hd : (x == ("__debug__" : Str)) = false := by decide) : PE X (.Name x pos) (tC (.int i)) := by
  obtain ⟨t, h⟩ := h
  exact pe_glob hg h ⟨_, rfl⟩ hd
theorem pgx (i : Nat) {x : Str} {pos : Pos} (hN : X.N.Nodup) (hi : X.N[i]? = some x := by rfl) (hx : L2.Loc X.env.scope x := by first | exact Or.inl rfl | exact Or.inr rfl) (hf : X.fn x = true ∨ X.env.scope.names.lookup x = some .local := by first | exact .inl rfl | exact .inr rfl) :
    PG X (.Name x pos) (gName i) := pg_name hN hi hx hf
theorem psx (i : Nat) {x : Str} {e : PySem.Expr} {te : TE} {pos pos' : Pos} (hN : X.N.Nodup) (he : PE X e te) (hi : X.N[i]? = some x := by rfl) (hx : L2.Loc X.env.scope x := by first | exact Or.inl rfl | exact Or.inr rfl) (hs : swapsWith e (some (.Name x pos')) pos.line X.env = pure false := by rfl)
    (hf : X.fn x = true ∨ X.env.scope.names.lookup x = some .local := by first | exact .inl rfl | exact .inr rfl) : PS X (.Assign [.Name x pos'] e pos) (tAsg te (gName i)) := ps_set hN hi hx he hs hf
theorem quietH : QuietL fListH := fun a s e s' => by
  unfold fListH
  split
  · split <;> exact fun z => nomatch z
  · exact fun z => nomatch z
theorem fn_bad {P : Program} {w : World} {base : Heap} {CX : CXT} {k n : Nat} {f : Addr} {fd : FuncData} {ps : List Str} : FnOk P w K mg base CX k f fd ps (Prom K mg n fun _ => M.bad) := by
  have no : ∀ vs H Q E, ¬ Prom K mg n (fun _ => M.bad) vs H Q E := fun vs H Q E h => by
    obtain ⟨as, w, _, _, _, _, z⟩ := h
    exact z
  exact ⟨fun vs H Q E h => absurd h (no vs H Q E), fun A outer s H args us vs Q E _ _ _ _ h => absurd h (no vs H Q E)⟩

/-! ### list(range(n)), tuple(range(n)) -/
def listRg (F : Loc → M W) : Loc → M W := fun ρ => M.bnd (F ρ) fun x => M.bnd (gI x) fun n => M.bnd (gRg1 n) fun ds => M.ret (.d (.lst ds))
def tupRg (F : Loc → M W) : Loc → M W := fun ρ => M.bnd (F ρ) fun x => M.bnd (gI x) fun n => M.bnd (gRg1 n) fun ds => M.ret (.d (.tup ds))
def listRgH (F : Loc → M W) : Loc → M W := fun ρ => M.bnd (F ρ) fun x => M.bnd (gI x) fun n => M.bnd (gRg1 n) fun ds => fun s => .ok (.h s.length) (s ++ [some ds])
theorem rep_rng {H : Hp} {al : Addr → Prop} (lo : Int) : ∀ n : Nat, RepL K H al (rngD lo n) ((List.range n).map fun i => V.int (lo + (i : Nat))) := fun n => by
  unfold rngD
  generalize List.range n = l
  induction l with
  | nil => rfl
  | cons a r ih => exact ⟨_, _, rfl, rfl, ih⟩
theorem rgV_eq (n : Int) : rgV 0 n = (List.range n.toNat).map fun i => V.int (0 + (i : Nat)) := by
  unfold rgV
  rw [Int.sub_zero]
theorem gRg1_sat {α : Type} {n : Int} {f : List D → M α} {s : Sto} {P : α → Sto → Prop} {E : XC → Sto → Prop} (h : (M.bnd (gRg1 n) f s).sat P E) : RgOk 0 n ∧ (f (rngD 0 n.toNat) s).sat P E := by
  rw [sat_bnd] at h
  unfold gRg1 at h
  split at h
  · rename_i hc
    exact ⟨⟨by omega, by omega, by omega, by omega, by omega⟩, h⟩
  · exact h.elim
theorem ev_listRg {ta : TE} {F : Loc → M W} (ha : EvE K mg E ta F) : EvE K mg E (tLstRg (tRg1 ta)) (listRg F) := by
  intro σ ρ w ok r Q h
  refine ev1 ha ok r h fun x v w1 g1 ok1 r1 rv h1 => ?_
  obtain ⟨n, rfl, rfl, h2⟩ := gI_sat h1 rv
  obtain ⟨hr, h3⟩ := gRg1_sat h2
  refine ⟨n, rfl, hr, fun q hq => ?_⟩
  rw [rgV_eq]
  exact h3 _ _ (g1.trans (gd_lay ok1 hq)) (rep_lst ok1 hq (rep_rng 0 _))
theorem ev_tupRg {ta : TE} {F : Loc → M W} (ha : EvE K mg E ta F) : EvE K mg E (tTupRg (tRg1 ta)) (tupRg F) := by
  intro σ ρ w ok r Q h
  refine ev1 ha ok r h fun x v w1 g1 ok1 r1 rv h1 => ?_
  obtain ⟨n, rfl, rfl, h2⟩ := gI_sat h1 rv
  obtain ⟨hr, h3⟩ := gRg1_sat h2
  refine ⟨n, rfl, hr, fun q hq => ?_⟩
  rw [rgV_eq]
  exact h3 _ _ (g1.trans (gd_lay ok1 hq)) (rep_tup ok1 hq (rep_rng 0 _))
theorem ev_listRgH {ta : TE} {F : Loc → M W} (ha : EvE K mg E ta F) : EvE K mg E (tLstRg (tRg1 ta)) (listRgH F) := by
  intro σ ρ w ok r Q h
  refine ev1 ha ok r h fun x v w1 g1 ok1 r1 rv h1 => ?_
  obtain ⟨n, rfl, rfl, h2⟩ := gI_sat h1 rv
  obtain ⟨hr, h3⟩ := gRg1_sat h2
  refine ⟨n, rfl, hr, fun q hq => ?_⟩
  rw [rgV_eq]
  exact h3 _ _ (g1.trans (gd_hnd ok1 hq (rep_rng 0 _))) (rep_hnd ok1 hq)

/-! ### the law's end -/
def spLaw (K : PySem.W.Frag) : Sp := fun vs H Q _ => ∃ (a : Addr) (ns : List Int), vs = [.ref a] ∧ SqL K H a (ns.map V.int) ∧ ns.length ≤ 63 ∧ ∀ H', Q (.bl true) H'
theorem rep_intL {H : Hp} {al : Addr → Prop} : ∀ ns : List Int, RepL K H al (ns.map D.int) (ns.map V.int)
  | [] => rfl
  | n :: ns => ⟨_, _, rfl, rfl, rep_intL ns⟩
theorem law_end {P : Program} {w : World} {base : Heap} {CX : CXT} {k : Nat} {fa : Addr} {fd : FuncData} {ps : List Str} {F : List W → M W} (t : FnOk P w K mg base CX k fa fd ps (Prom K mg 1 F))
    (h : ∀ (ns : List Int) (d : D), ns.length ≤ 63 → seqOf d = some (ns.map D.int) → (F [.d d] []).sat (fun x _ => x = .d (.bl true)) NoE) : FnOk P w K mg base CX k fa fd ps (spLaw K) := by
  refine t.imp fun vs H Q E q => ?_
  obtain ⟨a, ns, rfl, hs, hl, q⟩ := q
  let w0 : Wd := ⟨H, [], [], fun _ => False, fun _ => False⟩
  have ok0 : Ok K w0 := ⟨rfl, List.nodup_nil, fun n a ds e => by simp [w0] at e, fun n a ds e => by simp [w0] at e, fun a e => e.elim, fun a e => by simp [w0] at e, fun a e => e.elim⟩
  have al0 : ∀ a, ¬ w0.al a := fun a z => by
    rcases z with ⟨n, ds, e, _⟩ | z
    · simp [w0] at e
    · exact z
  have fin : ∀ d, seqOf d = some (ns.map D.int) → Rep K w0.H w0.al d (.ref a) → Prom K mg 1 F [.ref a] H Q E := fun d hd r => by
    refine ⟨[.d d], w0, rfl, ok0, ⟨_, _, rfl, r, rfl⟩, rfl, (h ns d hl hd).mono (fun x s' z v w' g rv => ?_) fun _ _ z => z.elim⟩
    subst z
    obtain rfl : v = .bl true := rv
    exact q _
  rcases hs with (hs | ⟨o, hs⟩) | hs
  · exact fin (.lst (ns.map D.int)) rfl ⟨a, _, rfl, hs, al0 a, rep_intL ns⟩
  · exact fin (.frz (ns.map D.int)) rfl ⟨a, _, rfl, .inl ⟨o, hs⟩, rep_intL ns⟩
  · exact fin (.frz (ns.map D.int)) rfl ⟨a, _, rfl, .inr hs, rep_intL ns⟩
end
end Y

namespace Y
open PySem L2

/-! ### what holds behind a run, piece by piece -/
section
variable {α : Type} {s : Sto} {ρ : Loc} {E : XC → Sto → Prop} {P : W → Sto → Prop} {PB : Bool → Sto → Prop} {PL : List W → Sto → Prop} {PD : List D → Sto → Prop} {PS : (Loc × Fl) → Sto → Prop} {PO : Option Int → Sto → Prop} {F G L : Loc → M W} {T U : Loc → M Bool} {S R : Loc → M (Loc × Fl)} {A : Loc → M (List W)} {I : Loc → M (List D)}
theorem v_ok {a : α} {P : α → Sto → Prop} : (Res.ok a s).sat P E ↔ P a s := Iff.rfl
theorem v_ret {a : α} {P : α → Sto → Prop} : (M.ret a s).sat P E ↔ P a s := Iff.rfl
theorem v_bad {P : α → Sto → Prop} : ((M.bad : M α) s).sat P E ↔ False := Iff.rfl
theorem v_get {i : Nat} : (getL i ρ s).sat P E ↔ ∃ x, ρ[i]? = some (some x) ∧ P x s := by
  unfold getL
  split
  · rename_i x h
    exact ⟨fun z => ⟨x, h, z⟩, fun ⟨y, h2, z⟩ => by rw [h] at h2; cases h2; exact z⟩
  · rename_i h
    exact ⟨fun z => z.elim, fun ⟨y, h2, z⟩ => h y h2⟩
theorem v_getF {i : Nat} : (getF i ρ s).sat P E ↔ ∃ x, ρ[i]? = some (some x) ∧ (match x with | .d y => P (.d y) s | .r _ => False | .k _ => False | .h n => ∃ ds, s[n]? = some (some ds) ∧ P (.d (.lst ds)) (s.set n none)) := by
  unfold getF
  split
  · rename_i x h
    exact ⟨fun z => ⟨_, h, z⟩, fun ⟨y, h2, z⟩ => by rw [h] at h2; cases h2; exact z⟩
  · rename_i n h
    constructor
    · intro z
      refine ⟨_, h, ?_⟩
      split at z
      · rename_i ds hd
        exact ⟨ds, hd, z⟩
      · exact z.elim
    · rintro ⟨y, h2, z⟩
      rw [h] at h2
      cases h2
      obtain ⟨ds, hd, z⟩ := z
      rw [hd]
      exact z
  · rename_i h1 h2
    exact ⟨fun z => z.elim, fun ⟨y, h3, z⟩ => by cases y with | d x => exact h1 x h3 | h n => exact h2 n h3 | r n => exact z.elim | k n => exact z.elim⟩
theorem v_cst {d : D} : (cst d ρ s).sat P E ↔ P (.d d) s := Iff.rfl
theorem v_gB {x : W} : (gB x s).sat PB E ↔ ∃ b, x = .d (.bl b) ∧ PB b s := by
  unfold gB
  split
  · exact ⟨fun z => ⟨_, rfl, z⟩, fun ⟨b, e, z⟩ => by cases e; exact z⟩
  · rename_i h
    exact ⟨fun z => z.elim, fun ⟨b, e, z⟩ => h b e⟩
theorem v_gI {x : W} {P : Int → Sto → Prop} : (gI x s).sat P E ↔ ∃ b, x = .d (.int b) ∧ P b s := by
  unfold gI
  split
  · exact ⟨fun z => ⟨_, rfl, z⟩, fun ⟨b, e, z⟩ => by cases e; exact z⟩
  · rename_i h
    exact ⟨fun z => z.elim, fun ⟨b, e, z⟩ => h b e⟩
theorem v_gD {x : W} {P : D → Sto → Prop} : (gD x s).sat P E ↔ ∃ b, x = .d b ∧ P b s := by
  unfold gD
  split
  · exact ⟨fun z => ⟨_, rfl, z⟩, fun ⟨b, e, z⟩ => by cases e; exact z⟩
  · rename_i hn
    exact ⟨fun z => z.elim, fun ⟨b, e, z⟩ => (hn b e).elim⟩
theorem v_and : (andV F G ρ s).sat P E ↔ (F ρ s).sat (fun x s' => ∃ b, x = .d (.bl b) ∧ if b = true then (G ρ s').sat P E else P (.d (.bl false)) s') E := by
  unfold andV
  rw [sat_bnd]
  refine iff_of_eq (congrArg (fun Z => (F ρ s).sat Z E) ?_)
  funext x s'
  rw [sat_bnd, v_gB]
  refine propext (exists_congr fun b => and_congr_right fun _ => ?_)
  cases b <;> exact Iff.rfl
theorem v_or : (orV F G ρ s).sat P E ↔ (F ρ s).sat (fun x s' => ∃ b, x = .d (.bl b) ∧ if b = true then P (.d (.bl true)) s' else (G ρ s').sat P E) E := by
  unfold orV
  rw [sat_bnd]
  refine iff_of_eq (congrArg (fun Z => (F ρ s).sat Z E) ?_)
  funext x s'
  rw [sat_bnd, v_gB]
  refine propext (exists_congr fun b => and_congr_right fun _ => ?_)
  cases b <;> exact Iff.rfl
theorem v_not : (notV F ρ s).sat P E ↔ (F ρ s).sat (fun x s' => ∃ b, x = .d (.bl b) ∧ P (.d (.bl (!b))) s') E := by
  unfold notV
  rw [sat_bnd]
  refine iff_of_eq (congrArg (fun Z => (F ρ s).sat Z E) ?_)
  funext x s'
  rw [sat_bnd, v_gB]
  rfl
theorem v_tst : (tstV F ρ s).sat PB E ↔ (F ρ s).sat (fun x s' => ∃ b, x = .d (.bl b) ∧ PB b s') E := by
  unfold tstV
  rw [sat_bnd]
  refine iff_of_eq (congrArg (fun Z => (F ρ s).sat Z E) ?_)
  funext x s'
  rw [v_gB]
theorem v_andT : (andT T U ρ s).sat PB E ↔ (T ρ s).sat (fun b s' => if b = true then (U ρ s').sat PB E else PB false s') E := by
  unfold andT
  rw [sat_bnd]
  refine iff_of_eq (congrArg (fun Z => (T ρ s).sat Z E) ?_)
  funext b s'
  cases b <;> rfl
theorem v_orT : (orT T U ρ s).sat PB E ↔ (T ρ s).sat (fun b s' => if b = true then PB true s' else (U ρ s').sat PB E) E := by
  unfold orT
  rw [sat_bnd]
  refine iff_of_eq (congrArg (fun Z => (T ρ s).sat Z E) ?_)
  funext b s'
  cases b <;> rfl
theorem v_notT : (notT T ρ s).sat PB E ↔ (T ρ s).sat (fun b s' => PB (!b) s') E := by
  unfold notT
  rw [sat_bnd]
  rfl
theorem v_if : (ifE T F G ρ s).sat P E ↔ (T ρ s).sat (fun b s' => if b = true then (F ρ s').sat P E else (G ρ s').sat P E) E := by
  unfold ifE
  rw [sat_bnd]
  refine iff_of_eq (congrArg (fun Z => (T ρ s).sat Z E) ?_)
  funext b s'
  cases b <;> rfl
theorem v_op1 {g : W → M W} : (op1 g F ρ s).sat P E ↔ (F ρ s).sat (fun x s' => (g x s').sat P E) E := by unfold op1; rw [sat_bnd]
theorem v_op2 {g : W → W → M W} : (op2 g F G ρ s).sat P E ↔ (F ρ s).sat (fun x s' => (G ρ s').sat (fun y s2 => (g x y s2).sat P E) E) E := by
  unfold op2
  rw [sat_bnd]
  refine iff_of_eq (congrArg (fun Z => (F ρ s).sat Z E) ?_)
  funext x s'
  rw [sat_bnd]
theorem v_opL {g : List W → M W} : (opL g A ρ s).sat P E ↔ (A ρ s).sat (fun x s' => (g x s').sat P E) E := by unfold opL; rw [sat_bnd]
theorem v_opt1 {f : Sto → W → Option W} {a : W} : (opt1 f a s).sat P E ↔ ∃ z, f s a = some z ∧ P z s := by
  unfold opt1
  split
  · rename_i z h
    exact ⟨fun q => ⟨z, h, q⟩, fun ⟨y, h2, q⟩ => by rw [h] at h2; cases h2; exact q⟩
  · rename_i h
    exact ⟨fun q => q.elim, fun ⟨y, h2, q⟩ => by rw [h] at h2; cases h2⟩
theorem v_opt2 {f : Sto → W → W → Option W} {a b : W} : (opt2 f a b s).sat P E ↔ ∃ z, f s a b = some z ∧ P z s := by
  unfold opt2
  split
  · rename_i z h
    exact ⟨fun q => ⟨z, h, q⟩, fun ⟨y, h2, q⟩ => by rw [h] at h2; cases h2; exact q⟩
  · rename_i h
    exact ⟨fun q => q.elim, fun ⟨y, h2, q⟩ => by rw [h] at h2; cases h2⟩
theorem v_optL {f : Sto → List W → Option W} {a : List W} : (optL f a s).sat P E ↔ ∃ z, f s a = some z ∧ P z s := by
  unfold optL
  split
  · rename_i z h
    exact ⟨fun q => ⟨z, h, q⟩, fun ⟨y, h2, q⟩ => by rw [h] at h2; cases h2; exact q⟩
  · rename_i h
    exact ⟨fun q => q.elim, fun ⟨y, h2, q⟩ => by rw [h] at h2; cases h2⟩
theorem v_optS {f : Sto → W → Option Int → Option Int → Option W} {a : W} {l u : Option Int} : (optS f a l u s).sat P E ↔ ∃ z, f s a l u = some z ∧ P z s := by
  unfold optS
  split
  · rename_i z h
    exact ⟨fun q => ⟨z, h, q⟩, fun ⟨y, h2, q⟩ => by rw [h] at h2; cases h2; exact q⟩
  · rename_i h
    exact ⟨fun q => q.elim, fun ⟨y, h2, q⟩ => by rw [h] at h2; cases h2⟩
theorem v_chn {g g' : W → W → M W} : (chn g g' F G L ρ s).sat P E ↔ (F ρ s).sat (fun a s1 => (G ρ s1).sat (fun b s2 => (g a b s2).sat (fun z s3 => ∃ k, z = .d (.bl k) ∧ if k = true then (L ρ s3).sat (fun c s4 => (g' b c s4).sat P E) E else P (.d (.bl false)) s3) E) E) E := by
  unfold chn
  rw [sat_bnd]
  refine iff_of_eq (congrArg (fun Z => (F ρ s).sat Z E) ?_)
  funext a s1
  rw [sat_bnd]
  refine congrArg (fun Z => (G ρ s1).sat Z E) ?_
  funext b s2
  rw [sat_bnd]
  refine congrArg (fun Z => (g a b s2).sat Z E) ?_
  funext z s3
  rw [sat_bnd, v_gB]
  refine propext (exists_congr fun k => and_congr_right fun _ => ?_)
  cases k
  · exact Iff.rfl
  · show (M.bnd (L ρ) (fun c => g' b c) s3).sat P E ↔ (L ρ s3).sat (fun c s4 => (g' b c s4).sat P E) E
    rw [sat_bnd]
theorem v_argN : (argN ρ s).sat PL E ↔ PL [] s := Iff.rfl
theorem v_argC : (argC F A ρ s).sat PL E ↔ (F ρ s).sat (fun x s1 => (A ρ s1).sat (fun xs s2 => PL (x :: xs) s2) E) E := by
  unfold argC
  rw [sat_bnd]
  refine iff_of_eq (congrArg (fun Z => (F ρ s).sat Z E) ?_)
  funext x s1
  rw [sat_bnd]
  rfl
theorem v_gTup {xs : List W} : (gTup xs s).sat P E ↔ ∃ ds, dats xs = some ds ∧ ds.length ≤ cap ∧ P (.d (.tup ds)) s := by
  unfold gTup
  split
  · rename_i ds h
    split
    · rename_i hc
      exact ⟨fun q => ⟨ds, h, hc, q⟩, fun ⟨y, h2, _, q⟩ => by rw [h] at h2; cases h2; exact q⟩
    · rename_i hc
      exact ⟨fun q => q.elim, fun ⟨y, h2, hc', q⟩ => by rw [h] at h2; cases h2; exact hc hc'⟩
  · rename_i h
    exact ⟨fun q => q.elim, fun ⟨y, h2, _⟩ => by rw [h] at h2; cases h2⟩
theorem v_gLst {xs : List W} : (gLst xs s).sat P E ↔ ∃ ds, dats xs = some ds ∧ ds.length ≤ cap ∧ P (.d (.lst ds)) s := by
  unfold gLst
  split
  · rename_i ds h
    split
    · rename_i hc
      exact ⟨fun q => ⟨ds, h, hc, q⟩, fun ⟨y, h2, _, q⟩ => by rw [h] at h2; cases h2; exact q⟩
    · rename_i hc
      exact ⟨fun q => q.elim, fun ⟨y, h2, hc', q⟩ => by rw [h] at h2; cases h2; exact hc hc'⟩
  · rename_i h
    exact ⟨fun q => q.elim, fun ⟨y, h2, _⟩ => by rw [h] at h2; cases h2⟩
theorem v_gNew {xs : List W} : (gNew xs s).sat P E ↔ ∃ ds, dats xs = some ds ∧ ds.length ≤ cap ∧ P (.h s.length) (s ++ [some ds]) := by
  unfold gNew
  split
  · rename_i ds h
    split
    · rename_i hc
      exact ⟨fun q => ⟨ds, h, hc, q⟩, fun ⟨y, h2, _, q⟩ => by rw [h] at h2; cases h2; exact q⟩
    · rename_i hc
      exact ⟨fun q => q.elim, fun ⟨y, h2, hc', q⟩ => by rw [h] at h2; cases h2; exact hc hc'⟩
  · rename_i h
    exact ⟨fun q => q.elim, fun ⟨y, h2, _⟩ => by rw [h] at h2; cases h2⟩
theorem v_gTru {x : W} : (gTru x s).sat PB E ↔ ∃ b, (vw s x).bind truD = some b ∧ PB b s := by
  unfold gTru
  split
  · rename_i b h
    exact ⟨fun q => ⟨b, h, q⟩, fun ⟨y, h2, q⟩ => by rw [h] at h2; cases h2; exact q⟩
  · rename_i h
    exact ⟨fun q => q.elim, fun ⟨y, h2, q⟩ => by rw [h] at h2; cases h2⟩
theorem v_truT : (truT F ρ s).sat PB E ↔ (F ρ s).sat (fun x s' => ∃ b, (vw s' x).bind truD = some b ∧ PB b s') E := by
  unfold truT
  rw [sat_bnd]
  refine iff_of_eq (congrArg (fun Z => (F ρ s).sat Z E) ?_)
  funext x s'
  rw [v_gTru]
theorem v_slN : (slN ρ s).sat PO E ↔ PO none s := Iff.rfl
theorem v_slS : (slS F ρ s).sat PO E ↔ (F ρ s).sat (fun x s' => ∃ i, x = .d (.int i) ∧ PO (some i) s') E := by
  unfold slS
  rw [sat_bnd]
  refine iff_of_eq (congrArg (fun Z => (F ρ s).sat Z E) ?_)
  funext x s'
  rw [sat_bnd, v_gI]
  rfl
theorem v_opS {g : W → Option Int → Option Int → M W} {A B : Loc → M (Option Int)} : (opS g F A B ρ s).sat P E ↔ (F ρ s).sat (fun a s1 => (A ρ s1).sat (fun l s2 => (B ρ s2).sat (fun u s3 => (g a l u s3).sat P E) E) E) E := by
  unfold opS
  rw [sat_bnd]
  refine iff_of_eq (congrArg (fun Z => (F ρ s).sat Z E) ?_)
  funext a s1
  rw [sat_bnd]
  refine congrArg (fun Z => (A ρ s1).sat Z E) ?_
  funext l s2
  rw [sat_bnd]
theorem v_isi {T : Ty5} {x : W} : (gIsi T x s).sat P E ↔ ∃ d, vw s x = some d ∧ P (.d (.bl (isT T d))) s := by
  unfold gIsi
  split
  · rename_i d h
    exact ⟨fun q => ⟨d, h, q⟩, fun ⟨y, h2, q⟩ => by rw [h] at h2; cases h2; exact q⟩
  · rename_i h
    exact ⟨fun q => q.elim, fun ⟨y, h2, q⟩ => by rw [h] at h2; cases h2⟩
theorem v_cal {n : Nat} {f : List W → M W} : (calL n f A ρ s).sat P E ↔ (A ρ s).sat (fun as s' => as.length = n ∧ (f as s').sat P E) E := by
  unfold calL
  rw [sat_bnd]
  refine iff_of_eq (congrArg (fun Z => (A ρ s).sat Z E) ?_)
  funext as s'
  split
  · rename_i h
    simp [h]
  · rename_i h
    simp [h, v_bad]
theorem v_seqD {x : W} : (gSeq x s).sat PD E ↔ ∃ d ds, x = .d d ∧ seqOf d = some ds ∧ PD ds s := by
  unfold gSeq
  split
  · rename_i y
    split
    · rename_i ds h
      exact ⟨fun q => ⟨y, ds, rfl, h, q⟩, fun ⟨d, es, e, h2, q⟩ => by cases e; rw [h] at h2; cases h2; exact q⟩
    · rename_i h
      exact ⟨fun q => q.elim, fun ⟨d, es, e, h2, q⟩ => by cases e; rw [h] at h2; cases h2⟩
  · rename_i hn
    exact ⟨fun q => q.elim, fun ⟨d, es, e, h2, q⟩ => (hn d e).elim⟩
theorem v_itS : (itS F ρ s).sat PD E ↔ (F ρ s).sat (fun x s' => ∃ d ds, x = .d d ∧ seqOf d = some ds ∧ PD ds s') E := by
  unfold itS
  rw [sat_bnd]
  refine iff_of_eq (congrArg (fun Z => (F ρ s).sat Z E) ?_)
  funext x s'
  rw [v_seqD]
theorem v_rg1 {a : Int} : (gRg1 a s).sat PD E ↔ (-(100000 : Int) ≤ a ∧ a ≤ 100000) ∧ PD (rngD 0 a.toNat) s := by
  unfold gRg1
  split
  · rename_i h; simp [h, v_ok]
  · rename_i h; simp [h, Res.sat]
theorem v_rg2 {a b : Int} : (gRg2 a b s).sat PD E ↔ ((-(100000 : Int) ≤ a ∧ a ≤ 100000) ∧ -(100000 : Int) ≤ b ∧ b ≤ 100000) ∧ PD (rngD a (b - a).toNat) s := by
  unfold gRg2
  split
  · rename_i h; simp [h, v_ok]
  · rename_i h
    exact ⟨fun q => q.elim, fun q => h q.1⟩
theorem v_itR1 : (itR1 F ρ s).sat PD E ↔ (F ρ s).sat (fun x s' => ∃ i, x = .d (.int i) ∧ (-(100000 : Int) ≤ i ∧ i ≤ 100000) ∧ PD (rngD 0 i.toNat) s') E := by
  unfold itR1
  rw [sat_bnd]
  refine iff_of_eq (congrArg (fun Z => (F ρ s).sat Z E) ?_)
  funext x s'
  rw [sat_bnd, v_gI]
  refine propext (exists_congr fun i => and_congr_right fun _ => ?_)
  rw [v_rg1]
theorem v_itR2 : (itR2 F G ρ s).sat PD E ↔ (F ρ s).sat (fun x s' => (G ρ s').sat (fun y s2 => ∃ i j, x = .d (.int i) ∧ y = .d (.int j) ∧ ((-(100000 : Int) ≤ i ∧ i ≤ 100000) ∧ -(100000 : Int) ≤ j ∧ j ≤ 100000) ∧ PD (rngD i (j - i).toNat) s2) E) E := by
  unfold itR2
  rw [sat_bnd]
  refine iff_of_eq (congrArg (fun Z => (F ρ s).sat Z E) ?_)
  funext x s'
  rw [sat_bnd]
  refine congrArg (fun Z => (G ρ s').sat Z E) ?_
  funext y s2
  rw [sat_bnd, v_gI]
  refine propext ⟨?_, ?_⟩
  · rintro ⟨i, e, q⟩
    rw [sat_bnd, v_gI] at q
    obtain ⟨j, e2, q⟩ := q
    rw [v_rg2] at q
    exact ⟨i, j, e, e2, q⟩
  · rintro ⟨i, j, e, e2, q⟩
    refine ⟨i, e, ?_⟩
    rw [sat_bnd, v_gI]
    refine ⟨j, e2, ?_⟩
    rw [v_rg2]
    exact q
theorem v_lcE {vs : List Nat} {B : D → Loc → Option Loc} : (lcE vs I B T F ρ s).sat P E ↔ (I ρ s).sat (fun ds s' => ds.length ≤ cap ∧ (lcGo vs B T F ρ ds s').sat (fun r s2 => P (.d (.lst r)) s2) E) E := by
  unfold lcE
  rw [sat_bnd]
  refine iff_of_eq (congrArg (fun Z => (I ρ s).sat Z E) ?_)
  funext ds s'
  split
  · rename_i h
    rw [sat_bnd]
    simp [h, v_ret]
  · rename_i h
    simp [h, v_bad]
theorem v_nxt : (nxt ρ s).sat PS E ↔ PS (ρ, .nx) s := Iff.rfl
theorem v_seq : (seqS S R ρ s).sat PS E ↔ (S ρ s).sat (fun r s' => match r.2 with | .nx => (R r.1 s').sat PS E | _ => PS r s') E := by
  unfold seqS
  rw [sat_bnd]
  refine iff_of_eq (congrArg (fun Z => (S ρ s).sat Z E) ?_)
  funext r s'
  obtain ⟨ρ', f⟩ := r
  cases f <;> rfl
theorem v_set {i : Nat} : (setS i F ρ s).sat PS E ↔ (F ρ s).sat (fun x s' => PS (ρ.set i (some x), .nx) s') E := by
  unfold setS
  rw [sat_bnd]
  rfl
theorem v_asg {B : D → Loc → Option Loc} : (asgS B F ρ s).sat PS E ↔ (F ρ s).sat (fun x s' => ∃ d ρ', x = .d d ∧ B d ρ = some ρ' ∧ PS (ρ', .nx) s') E := by
  unfold asgS
  rw [sat_bnd]
  refine iff_of_eq (congrArg (fun Z => (F ρ s).sat Z E) ?_)
  funext x s'
  rw [sat_bnd, v_gD]
  refine propext (exists_congr fun d => ?_)
  cases eB : B d ρ with
  | none => exact ⟨fun z => z.2.elim, fun ⟨ρ', _, z, _⟩ => nomatch z⟩
  | some ρ' => exact ⟨fun z => ⟨ρ', z.1, rfl, z.2⟩, fun ⟨ρ2, z1, z2, z3⟩ => ⟨z1, by cases z2; exact z3⟩⟩
theorem v_ifS : (ifS T S R ρ s).sat PS E ↔ (T ρ s).sat (fun b s' => if b = true then (S ρ s').sat PS E else (R ρ s').sat PS E) E := by
  unfold ifS
  rw [sat_bnd]
  refine iff_of_eq (congrArg (fun Z => (T ρ s).sat Z E) ?_)
  funext b s'
  cases b <;> rfl
theorem v_retS : (retS F ρ s).sat PS E ↔ (F ρ s).sat (fun x s' => PS (ρ, .rt x) s') E := by
  unfold retS
  rw [sat_bnd]
  rfl
theorem v_exp : (expS F ρ s).sat PS E ↔ (F ρ s).sat (fun _ s' => PS (ρ, .nx) s') E := by
  unfold expS
  rw [sat_bnd]
  rfl
theorem v_for {B : D → Loc → Option Loc} : (forS I B S ρ s).sat PS E ↔ (I ρ s).sat (fun ds s' => (forGo B S ds ρ s').sat PS E) E := by
  unfold forS
  rw [sat_bnd]
theorem v_gPut {o i x : W} {P : Unit → Sto → Prop} : (gPut o i x s).sat P E ↔ ∃ n k y ds j, o = .h n ∧ i = .d (.int k) ∧ x = .d y ∧ s[n]? = some (some ds) ∧ ixN ds.length k = some j ∧ P () (s.set n (some (ds.set j y))) := by
  cases o with
  | r y => exact ⟨fun h => h.elim, fun ⟨n, k, z, ds, j, e, _⟩ => nomatch e⟩
  | k y => exact ⟨fun h => h.elim, fun ⟨n, k, z, ds, j, e, _⟩ => nomatch e⟩
  | d y => exact ⟨fun h => h.elim, fun ⟨n, k, z, ds, j, e, _⟩ => nomatch e⟩
  | h n =>
    cases i with
    | r m => exact ⟨fun h => h.elim, fun ⟨n, k, z, ds, j, _, e, _⟩ => nomatch e⟩
    | k m => exact ⟨fun h => h.elim, fun ⟨n, k, z, ds, j, _, e, _⟩ => nomatch e⟩
    | h m => exact ⟨fun h => h.elim, fun ⟨n, k, z, ds, j, _, e, _⟩ => nomatch e⟩
    | d y =>
      cases y with
      | int k =>
        cases x with
        | r m => exact ⟨fun h => h.elim, fun ⟨n, k, z, ds, j, _, _, e, _⟩ => nomatch e⟩
        | k m => exact ⟨fun h => h.elim, fun ⟨n, k, z, ds, j, _, _, e, _⟩ => nomatch e⟩
        | h m => exact ⟨fun h => h.elim, fun ⟨n, k, z, ds, j, _, _, e, _⟩ => nomatch e⟩
        | d y =>
          show ((match s[n]? with
            | some (some ds) => (match ixN ds.length k with
              | some j => Res.ok () (s.set n (some (ds.set j y)))
              | none => .bad)
            | _ => .bad : Res Unit)).sat P E ↔ _
          constructor
          · intro h
            split at h
            · rename_i ds hd
              split at h
              · rename_i j hj
                exact ⟨n, k, y, ds, j, rfl, rfl, rfl, hd, hj, h⟩
              · exact h.elim
            · exact h.elim
          · rintro ⟨n', k', y', ds, j, e1, e2, e3, hd, hj, h⟩
            cases e1
            cases e2
            cases e3
            rw [hd]
            dsimp only
            rw [hj]
            exact h
      | _ => exact ⟨fun h => h.elim, fun ⟨n, k, z, ds, j, _, e, _⟩ => nomatch e⟩
theorem v_put : (putS F G L ρ s).sat PS E ↔ (F ρ s).sat (fun x s1 => (G ρ s1).sat (fun o s2 => (L ρ s2).sat (fun i s3 => ∃ n k y ds j, o = .h n ∧ i = .d (.int k) ∧ x = .d y ∧ s3[n]? = some (some ds) ∧ ixN ds.length k = some j ∧ PS (ρ, .nx) (s3.set n (some (ds.set j y)))) E) E) E := by
  unfold putS
  rw [sat_bnd]
  refine iff_of_eq (congrArg (fun Z => (F ρ s).sat Z E) ?_)
  funext x s1
  rw [sat_bnd]
  refine congrArg (fun Z => (G ρ s1).sat Z E) ?_
  funext o s2
  rw [sat_bnd]
  refine congrArg (fun Z => (L ρ s2).sat Z E) ?_
  funext i s3
  rw [sat_bnd, v_gPut]
  rfl
theorem v_run {m N : Nat} {as : List W} : (runD m N S as s).sat P E ↔ (S (as.map some ++ List.replicate (N - as.length) none) s).sat (fun r s' => match r.2 with | .rt x => okW (s.length + m) x = true ∧ P x (s'.take (s.length + m)) | .nx => P (.d .non) (s'.take (s.length + m)) | _ => False) (fun e s' => E e (s'.take (s.length + m))) := by
  unfold runD
  cases e : S (as.map some ++ List.replicate (N - as.length) none) s with
  | bad => exact Iff.rfl
  | err x s' => exact Iff.rfl
  | ok r s' =>
    obtain ⟨ρ', f⟩ := r
    cases f with
    | nx => exact Iff.rfl
    | rt x =>
      show (leave (s.length + m) x s').sat P E ↔ okW (s.length + m) x = true ∧ P x (s'.take (s.length + m))
      unfold leave
      split
      · rename_i h; simp [h, v_ok]
      · rename_i h; simp [h, Res.sat]
    | bk => exact Iff.rfl
    | ct => exact Iff.rfl
theorem v_mth {g : List D → List W → Option (List D × D)} : (mthE g F A ρ s).sat P E ↔ (F ρ s).sat (fun o s1 => isHot o s1 = true ∧ (A ρ s1).sat (fun as s2 => ∃ n ds es d, o = .h n ∧ s2[n]? = some (some ds) ∧ g ds as = some (es, d) ∧ P (.d d) (s2.set n (some es))) E) E := by
  unfold mthE
  rw [sat_bnd]
  refine iff_of_eq (congrArg (fun Z => (F ρ s).sat Z E) ?_)
  funext o s1
  rw [sat_bnd]
  unfold gHot
  split
  · rename_i h
    simp only [h, true_and, v_ok]
    rw [sat_bnd]
    refine congrArg (fun Z => (A ρ s1).sat Z E) ?_
    funext as s2
    refine propext ⟨fun q => ?_, ?_⟩
    · cases o with
      | r y => exact q.elim
      | k y => exact q.elim
      | d y => exact q.elim
      | h n =>
        have q' : ((match s2[n]? with
          | some (some ds) => (match g ds as with
            | some (es, d) => Res.ok (W.d d) (s2.set n (some es))
            | none => .bad)
          | _ => .bad : Res W)).sat P E := q
        split at q'
        · rename_i ds hd
          split at q'
          · rename_i es d hg
            exact ⟨n, ds, es, d, rfl, hd, hg, q'⟩
          · exact q'.elim
        · exact q'.elim
    · rintro ⟨n, ds, es, d, rfl, hd, hg, q⟩
      unfold gMth
      dsimp only
      rw [hd]
      dsimp only
      rw [hg]
      exact q
  · rename_i h
    simp [h, Res.sat]
/-- a comprehension, item by item -/
theorem v_lc0 {vs : List Nat} {B : D → Loc → Option Loc} : (lcGo vs B T F ρ [] s).sat PD E ↔ PD [] s := Iff.rfl
theorem nox_sat2 {α : Type} {m : M α} {P : α → Sto → Prop} : (nox m s).sat P E ↔ (m s).sat P NoE := by
  unfold nox
  cases m s <;> exact Iff.rfl
theorem v_lcC {vs : List Nat} {B : D → Loc → Option Loc} {d : D} {ds : List D} : (lcGo vs B T F ρ (d :: ds) s).sat PD E ↔ ∃ ρ1, B d (wipeL ρ vs) = some ρ1 ∧ (T ρ1 s).sat (fun b s1 => if b = true then (F ρ1 s1).sat (fun x s2 => ∃ y, x = .d y ∧ (lcGo vs B T F ρ ds s2).sat (fun r s3 => PD (y :: r) s3) E) NoE else (lcGo vs B T F ρ ds s1).sat PD E) NoE := by
  show ((match B d (wipeL ρ vs) with
    | none => M.bad
    | some ρ1 => M.bnd (nox (T ρ1)) fun b => if b = true then M.bnd (nox (F ρ1)) fun x => M.bnd (gD x) fun y => M.bnd (lcGo vs B T F ρ ds) fun r => M.ret (y :: r) else lcGo vs B T F ρ ds) s).sat PD E ↔ _
  cases e : B d (wipeL ρ vs) with
  | none => exact ⟨fun q => q.elim, fun ⟨_, z, _⟩ => nomatch z⟩
  | some ρ1 =>
    have key : (M.bnd (nox (T ρ1)) (fun b => if b = true then M.bnd (nox (F ρ1)) fun x => M.bnd (gD x) fun y => M.bnd (lcGo vs B T F ρ ds) fun r => M.ret (y :: r) else lcGo vs B T F ρ ds) s).sat PD E ↔
        (T ρ1 s).sat (fun b s1 => if b = true then (F ρ1 s1).sat (fun x s2 => ∃ y, x = .d y ∧ (lcGo vs B T F ρ ds s2).sat (fun r s3 => PD (y :: r) s3) E) NoE else (lcGo vs B T F ρ ds s1).sat PD E) NoE := by
      rw [sat_bnd, nox_sat2]
      refine iff_of_eq (congrArg (fun Z => (T ρ1 s).sat Z NoE) ?_)
      funext b s1
      cases b
      · rfl
      · show (M.bnd (nox (F ρ1)) (fun x => M.bnd (gD x) fun y => M.bnd (lcGo vs B T F ρ ds) fun r => M.ret (y :: r)) s1).sat PD E = _
        rw [sat_bnd, nox_sat2, if_pos rfl]
        refine congrArg (fun Z => (F ρ1 s1).sat Z NoE) ?_
        funext x s2
        rw [sat_bnd, v_gD]
        refine propext (exists_congr fun y => and_congr_right fun _ => ?_)
        rw [sat_bnd]
        exact Iff.rfl
    constructor
    · intro q
      exact ⟨ρ1, rfl, key.mp q⟩
    · rintro ⟨ρ2, z, q⟩
      cases z
      exact key.mpr q
theorem v_yes : (yes ρ s).sat PB E ↔ PB true s := Iff.rfl
/-- every item is made while I holds, and holds of P -/
theorem lc_all {vs : List Nat} {B : D → Loc → Option Loc} (Iv : Sto → Prop) (Q : D → D → Prop) {ds : List D}
    (h : ∀ d ∈ ds, ∀ s, Iv s → ∃ ρ1, B d (wipeL ρ vs) = some ρ1 ∧ (F ρ1 s).sat (fun x s' => ∃ y, x = .d y ∧ Q d y ∧ Iv s') NoE) {s : Sto} (hs : Iv s) :
    (lcGo vs B yes F ρ ds s).sat (fun r s' => Iv s' ∧ r.length = ds.length ∧ ∀ (i : Nat) d y, ds[i]? = some d → r[i]? = some y → Q d y) E := by
  induction ds generalizing s with
  | nil => exact v_lc0.mpr ⟨hs, rfl, fun i d y e => by simp at e⟩
  | cons d ds ih =>
    obtain ⟨ρ1, e, q⟩ := h d List.mem_cons_self s hs
    refine v_lcC.mpr ⟨ρ1, e, ?_⟩
    rw [v_yes, if_pos rfl]
    refine q.mono (fun x s2 q => ?_) fun _ _ z => z
    obtain ⟨y, rfl, hq, hs2⟩ := q
    refine ⟨y, rfl, (ih (fun d' hd => h d' (List.mem_cons_of_mem _ hd)) hs2).mono (fun r s3 z => ?_) fun _ _ z => z⟩
    refine ⟨z.1, by simp [z.2.1], fun i d' y' e1 e2 => ?_⟩
    cases i with
    | zero =>
      simp at e1 e2
      rw [← e1, ← e2]
      exact hq
    | succ i => exact z.2.2 i d' y' (by simpa using e1) (by simpa using e2)
/-- a pure element: the comprehension is a map (a filter with a test) -/
theorem lc_map {vs : List Nat} {B : D → Loc → Option Loc} (g : D → D) {ds : List D}
    (h : ∀ d ∈ ds, ∃ ρ1, B d (wipeL ρ vs) = some ρ1 ∧ (F ρ1 s).sat (fun x s' => x = .d (g d) ∧ s' = s) NoE) :
    (lcGo vs B yes F ρ ds s).sat (fun r s' => r = ds.map g ∧ s' = s) E := by
  induction ds with
  | nil => exact v_lc0.mpr ⟨rfl, rfl⟩
  | cons d ds ih =>
    obtain ⟨ρ1, e, q⟩ := h d List.mem_cons_self
    refine v_lcC.mpr ⟨ρ1, e, ?_⟩
    rw [v_yes, if_pos rfl]
    refine q.mono (fun x s2 q => ?_) fun _ _ z => z
    obtain ⟨rfl, rfl⟩ := q
    refine ⟨g d, rfl, (ih (fun d' hd => h d' (List.mem_cons_of_mem _ hd))).mono (fun r s3 z => ?_) fun _ _ z => z⟩
    exact ⟨by rw [z.1]; rfl, z.2⟩
theorem lc_filter {vs : List Nat} {B : D → Loc → Option Loc} (p : D → Bool) (g : D → D) {ds : List D}
    (h : ∀ d ∈ ds, ∃ ρ1, B d (wipeL ρ vs) = some ρ1 ∧ (T ρ1 s).sat (fun b s' => b = p d ∧ s' = s) NoE ∧ (p d = true → (F ρ1 s).sat (fun x s' => x = .d (g d) ∧ s' = s) NoE)) :
    (lcGo vs B T F ρ ds s).sat (fun r s' => r = (ds.filter p).map g ∧ s' = s) E := by
  induction ds with
  | nil => exact v_lc0.mpr ⟨rfl, rfl⟩
  | cons d ds ih =>
    obtain ⟨ρ1, e, q1, q2⟩ := h d List.mem_cons_self
    have ih' := ih (fun d' hd => h d' (List.mem_cons_of_mem _ hd))
    refine v_lcC.mpr ⟨ρ1, e, q1.mono (fun b s1 z => ?_) fun _ _ z => z⟩
    obtain ⟨rfl, rfl⟩ := z
    by_cases hp : p d = true
    · rw [if_pos hp]
      refine (q2 hp).mono (fun x s2 q => ?_) fun _ _ z => z
      obtain ⟨rfl, rfl⟩ := q
      refine ⟨g d, rfl, ih'.mono (fun r s3 z => ?_) fun _ _ z => z⟩
      exact ⟨by rw [z.1, List.filter_cons_of_pos hp]; rfl, z.2⟩
    · rw [if_neg hp]
      exact ih'.mono (fun r s3 z => ⟨by rw [z.1, List.filter_cons_of_neg hp], z.2⟩) fun _ _ z => z
/-- a for by an invariant of the turn -/
theorem v_for0 {B : D → Loc → Option Loc} : (forGo B S [] ρ s).sat PS E ↔ PS (ρ, .nx) s := Iff.rfl
theorem v_forC {B : D → Loc → Option Loc} {d : D} {ds : List D} : (forGo B S (d :: ds) ρ s).sat PS E ↔ ∃ ρ1, B d ρ = some ρ1 ∧ (S ρ1 s).sat (fun r s' => match r.2 with | .nx => (forGo B S ds r.1 s').sat PS E | .ct => (forGo B S ds r.1 s').sat PS E | .bk => PS (r.1, .nx) s' | .rt x => PS (r.1, .rt x) s') E := by
  show ((match B d ρ with
    | none => M.bad
    | some ρ1 => M.bnd (S ρ1) fun r => match r.2 with
      | .nx => forGo B S ds r.1
      | .ct => forGo B S ds r.1
      | .bk => nxt r.1
      | .rt x => M.ret (r.1, .rt x)) s).sat PS E ↔ _
  cases e : B d ρ with
  | none => exact ⟨fun q => q.elim, fun ⟨_, z, _⟩ => nomatch z⟩
  | some ρ1 =>
    have key : (M.bnd (S ρ1) (fun r => match r.2 with
      | .nx => forGo B S ds r.1
      | .ct => forGo B S ds r.1
      | .bk => nxt r.1
      | .rt x => M.ret (r.1, .rt x)) s).sat PS E ↔ (S ρ1 s).sat (fun r s' => match r.2 with | .nx => (forGo B S ds r.1 s').sat PS E | .ct => (forGo B S ds r.1 s').sat PS E | .bk => PS (r.1, .nx) s' | .rt x => PS (r.1, .rt x) s') E := by
      rw [sat_bnd]
      refine iff_of_eq (congrArg (fun Z => (S ρ1 s).sat Z E) ?_)
      funext r s'
      obtain ⟨ρ', f⟩ := r
      cases f <;> rfl
    constructor
    · intro q
      exact ⟨ρ1, rfl, key.mp q⟩
    · rintro ⟨ρ2, z, q⟩
      cases z
      exact key.mpr q
theorem for_inv {B : D → Loc → Option Loc} (Iv : Nat → Loc → Sto → Prop) {ds : List D} (h : ∀ i d ρ s, ds[i]? = some d → Iv i ρ s → ∃ ρ1, B d ρ = some ρ1 ∧ (S ρ1 s).sat (fun r s' => match r.2 with | .nx => Iv (i + 1) r.1 s' | .ct => Iv (i + 1) r.1 s' | .bk => PS (r.1, .nx) s' | .rt x => PS (r.1, .rt x) s') E)
    (he : ∀ ρ s, Iv ds.length ρ s → PS (ρ, .nx) s) (h0 : Iv 0 ρ s) : (forGo B S ds ρ s).sat PS E := by
  have go : ∀ (k : Nat) ρ s, k ≤ ds.length → Iv k ρ s → (forGo B S (ds.drop k) ρ s).sat PS E := by
    intro k
    induction hk : ds.length - k generalizing k with
    | zero =>
      intro ρ s hle iv
      have e : k = ds.length := by omega
      subst e
      rw [List.drop_length]
      exact v_for0.mpr (he ρ s iv)
    | succ n ih =>
      intro ρ s hle iv
      have hlt : k < ds.length := by omega
      rw [List.drop_eq_getElem_cons hlt]
      obtain ⟨ρ1, e, q⟩ := h k ds[k] ρ s (by simp [hlt]) iv
      refine v_forC.mpr ⟨ρ1, e, q.mono (fun r s' z => ?_) fun _ _ z => z⟩
      obtain ⟨ρ', f⟩ := r
      cases f with
      | nx => exact ih (k + 1) (by omega) ρ' s' hlt z
      | ct => exact ih (k + 1) (by omega) ρ' s' hlt z
      | bk => exact z
      | rt x => exact z
  have := go 0 ρ s (Nat.zero_le _) h0
  rwa [List.drop_zero] at this
end
end Y

namespace Y
open PySem L2
/-! ### one step at a time -/
section
variable {α β : Type} {s s' : Sto} {ρ : Loc} {E : XC → Sto → Prop} {P : W → Sto → Prop} {PS : (Loc × Fl) → Sto → Prop} {F : Loc → M W} {T : Loc → M Bool} {S S2 R U : Loc → M (Loc × Fl)} {x : W} {b : Bool} {i : Nat}
theorem sat_of {r : Res α} {a : α} {P : α → Sto → Prop} (h : r = .ok a s) (q : P a s) : r.sat P E := by rw [h]; exact q
theorem bnd_ok {m : M α} {f : α → M β} {a : α} (h : m s = .ok a s') : M.bnd m f s = f a s' := by unfold M.bnd; rw [h]
/-- name = e, what e gives is known -/
theorem st_set (h : F ρ s = .ok x s') (q : (R (ρ.set i (some x)) s').sat PS E) : (seqS (setS i F) R ρ s).sat PS E := by
  rw [v_seq, v_set, h]; exact q
/-- .. what holds of it -/
theorem st_setP {Q : W → Sto → Prop} (h : (F ρ s).sat Q E) (q : ∀ x s', Q x s' → (R (ρ.set i (some x)) s').sat PS E) : (seqS (setS i F) R ρ s).sat PS E := by
  rw [v_seq, v_set]
  exact h.mono q fun _ _ z => z
theorem st_ret (h : F ρ s = .ok x s') (q : PS (ρ, .rt x) s') : (retS F ρ s).sat PS E := by
  rw [v_retS, h]; exact q
theorem st_retP {Q : W → Sto → Prop} (h : (F ρ s).sat Q E) (q : ∀ x s', Q x s' → PS (ρ, .rt x) s') : (retS F ρ s).sat PS E := by
  rw [v_retS]
  exact h.mono q fun _ _ z => z
theorem st_if (h : T ρ s = .ok b s') (h1 : b = true → (S ρ s').sat PS E) (h2 : b = false → (U ρ s').sat PS E) : (ifS T S U ρ s).sat PS E := by
  rw [v_ifS, h]
  show if b = true then _ else _
  cases b with
  | true => exact h1 rfl
  | false => exact h2 rfl
theorem st_ifS (h : T ρ s = .ok b s') (h1 : b = true → (seqS S R ρ s').sat PS E) (h2 : b = false → (seqS U R ρ s').sat PS E) : (seqS (ifS T S U) R ρ s).sat PS E := by
  rw [v_seq, v_ifS, h]
  show if b = true then _ else _
  cases b with
  | true => have := h1 rfl; rw [v_seq] at this; exact this
  | false => have := h2 rfl; rw [v_seq] at this; exact this
theorem st_nxt (h : (R ρ s).sat PS E) : (seqS nxt R ρ s).sat PS E := by rw [v_seq, v_nxt]; exact h
theorem st_assoc (h : (seqS S (seqS S2 R) ρ s).sat PS E) : (seqS (seqS S S2) R ρ s).sat PS E := by
  rw [v_seq, v_seq]
  rw [v_seq] at h
  refine h.mono (fun r s1 q => ?_) fun _ _ z => z
  obtain ⟨ρ1, f⟩ := r
  cases f with
  | nx => rw [v_seq] at q; exact q
  | _ => exact q
theorem st_retS (h : (retS F ρ s).sat PS E) : (seqS (retS F) R ρ s).sat PS E := by
  rw [v_seq, v_retS]
  rw [v_retS] at h
  exact h
/-- a piece that goes on, what holds behind it -/
theorem st_mid (Mid : Loc → Sto → Prop) (h : (S ρ s).sat (fun r s' => r.2 = .nx ∧ Mid r.1 s') E) (q : ∀ ρ' s', Mid ρ' s' → (R ρ' s').sat PS E) : (seqS S R ρ s).sat PS E := by
  rw [v_seq]
  refine h.mono (fun r s1 z => ?_) fun _ _ z => z
  obtain ⟨ρ1, f⟩ := r
  obtain ⟨e, m⟩ := z
  have e' : f = .nx := e
  subst e'
  exact q ρ1 s1 m
theorem st_setE (h : F ρ s = .ok x s') (q : PS (ρ.set i (some x), .nx) s') : (setS i F ρ s).sat PS E := by
  rw [v_set, h]; exact q
theorem st_asg {B : D → Loc → Option Loc} {d : D} {ρ' : Loc} (h : F ρ s = .ok (.d d) s') (hB : B d ρ = some ρ') (q : (R ρ' s').sat PS E) : (seqS (asgS B F) R ρ s).sat PS E := by
  rw [v_seq, v_asg, h]
  exact ⟨d, ρ', rfl, hB, q⟩
theorem st_exp (h : (F ρ s).sat (fun _ s' => (R ρ s').sat PS E) E) : (seqS (expS F) R ρ s).sat PS E := by
  rw [v_seq, v_exp]; exact h
theorem st_put {F O I : Loc → M W} {n : Nat} {k : Int} {y : D} {ds : List D} {j : Nat} (h1 : F ρ s = .ok (.d y) s) (h2 : O ρ s = .ok (.h n) s) (h3 : I ρ s = .ok (.d (.int k)) s) (h4 : s[n]? = some (some ds)) (h5 : ixN ds.length k = some j)
    (q : PS (ρ, .nx) (s.set n (some (ds.set j y)))) : (putS F O I ρ s).sat PS E := by
  rw [v_put, h1]
  show (O ρ s).sat _ E
  rw [h2]
  show (I ρ s).sat _ E
  rw [h3]
  exact ⟨n, k, y, ds, j, rfl, rfl, rfl, h4, h5, q⟩
theorem st_putS {F O I : Loc → M W} {n : Nat} {k : Int} {y : D} {ds : List D} {j : Nat} (h1 : F ρ s = .ok (.d y) s) (h2 : O ρ s = .ok (.h n) s) (h3 : I ρ s = .ok (.d (.int k)) s) (h4 : s[n]? = some (some ds)) (h5 : ixN ds.length k = some j)
    (q : (R ρ (s.set n (some (ds.set j y)))).sat PS E) : (seqS (putS F O I) R ρ s).sat PS E := by
  rw [v_seq]
  exact st_put h1 h2 h3 h4 h5 q
/-- a def's run by its body -/
theorem st_run {m N : Nat} {as : List W} (h : (S (as.map some ++ List.replicate (N - as.length) none) s).sat (fun r s' => match r.2 with | .rt x => okW (s.length + m) x = true ∧ P x (s'.take (s.length + m)) | .nx => P (.d .non) (s'.take (s.length + m)) | _ => False) (fun e s' => E e (s'.take (s.length + m)))) : (runD m N S as s).sat P E := v_run.mpr h
/-! ### what operations give -/
theorem mulok {i j : Int} (h : (-(2 ^ 64) < i ∧ i < 2 ^ 64) ∨ (-(2 ^ 64) < j ∧ j < 2 ^ 64)) : IntMulOk i j := CMul.ok h
theorem o_add {i j : Int} : opt2 fAdd (.d (.int i)) (.d (.int j)) s = .ok (.d (.int (i + j))) s := rfl
theorem o_sub {i j : Int} : opt2 fSub (.d (.int i)) (.d (.int j)) s = .ok (.d (.int (i - j))) s := rfl
theorem o_mul {i j : Int} (h : (-(2 ^ 64) < i ∧ i < 2 ^ 64) ∨ (-(2 ^ 64) < j ∧ j < 2 ^ 64)) : opt2 fMul (.d (.int i)) (.d (.int j)) s = .ok (.d (.int (i * j))) s := by
  unfold opt2 fMul
  simp only [vw, mulok h, if_true]
theorem o_mod {i j : Int} (h : 0 < j) : opt2 fMod (.d (.int i)) (.d (.int j)) s = .ok (.d (.int (i % j))) s := by
  unfold opt2 fMod fII
  simp [h]
theorem o_fdv {i j : Int} (h : 0 < j) (h2 : j ≤ 1000000) : opt2 fFdv (.d (.int i)) (.d (.int j)) s = .ok (.d (.int (i / j))) s := by
  unfold opt2 fFdv fII
  have hc : CDivW i j := wide_div (b := 20) h (by omega) (by decide) (by decide)
  simp [hc]
theorem shaped_int (i : Int) : SeqAt.shaped (.int i) = true := by simp [SeqAt.shaped, PyData.canLay0, PyData.depth]
theorem shaped_bool (i : Bool) : SeqAt.shaped (.bool i) = true := by simp [SeqAt.shaped, PyData.canLay0, PyData.depth]
theorem shaped_str {i : Str} (h : PyData.strOk i = true) : SeqAt.shaped (.str i) = true := by simp [SeqAt.shaped, PyData.canLay0, PyData.depth, h]
theorem o_eq {i j : Int} : opt2 fEq (.d (.int i)) (.d (.int j)) s = .ok (.d (.bl (i == j))) s := by
  unfold opt2 fEq fEqv
  simp [vw, shaped_int, toPy, PyData.eqv]
theorem o_ne {i j : Int} : opt2 fNe (.d (.int i)) (.d (.int j)) s = .ok (.d (.bl (!(i == j)))) s := by
  unfold opt2 fNe fEqv
  simp [vw, shaped_int, toPy, PyData.eqv]
theorem o_eqB {i j : Bool} : opt2 fEq (.d (.bl i)) (.d (.bl j)) s = .ok (.d (.bl (i == j))) s := by
  unfold opt2 fEq fEqv
  simp [vw, shaped_bool, toPy, PyData.eqv]
theorem o_eqS {i j : Str} (h1 : PyData.strOk i = true) (h2 : PyData.strOk j = true) : opt2 fEq (.d (.str i)) (.d (.str j)) s = .ok (.d (.bl (i == j))) s := by
  unfold opt2 fEq fEqv
  simp [vw, shaped_str h1, shaped_str h2, toPy, PyData.eqv]
theorem o_lt {i j : Int} : opt2 fLt (.d (.int i)) (.d (.int j)) s = .ok (.d (.bl (decide (i < j)))) s := rfl
theorem o_le {i j : Int} : opt2 fLe (.d (.int i)) (.d (.int j)) s = .ok (.d (.bl (decide (i ≤ j)))) s := rfl
theorem o_gt {i j : Int} : opt2 fGt (.d (.int i)) (.d (.int j)) s = .ok (.d (.bl (decide (j < i)))) s := rfl
theorem o_ge {i j : Int} : opt2 fGe (.d (.int i)) (.d (.int j)) s = .ok (.d (.bl (decide (j ≤ i)))) s := rfl
theorem o_int {i : Int} : optL fInt [.d (.int i)] s = .ok (.d (.int i)) s := rfl
theorem o_intB {b : Bool} : optL fInt [.d (.bl b)] s = .ok (.d (.int (if b then 1 else 0))) s := rfl
theorem o_abs {i : Int} : optL fAbs [.d (.int i)] s = .ok (.d (.int (if i < 0 then -i else i))) s := rfl
theorem o_lenT {ds : List D} : optL fLen [.d (.tup ds)] s = .ok (.d (.int ds.length)) s := rfl
theorem o_lenL {ds : List D} : optL fLen [.d (.lst ds)] s = .ok (.d (.int ds.length)) s := rfl
theorem o_lenF {ds : List D} : optL fLen [.d (.frz ds)] s = .ok (.d (.int ds.length)) s := rfl
theorem o_ixT {ds : List D} {i : Int} {d : D} (h : atI ds i = some d) : opt2 fIx (.d (.tup ds)) (.d (.int i)) s = .ok (.d d) s := by
  unfold opt2 fIx
  simp only [vw, seqOf, Option.bind_some, h, Option.map_some]
theorem o_ixL {ds : List D} {i : Int} {d : D} (h : atI ds i = some d) : opt2 fIx (.d (.lst ds)) (.d (.int i)) s = .ok (.d d) s := by
  unfold opt2 fIx
  simp only [vw, seqOf, Option.bind_some, h, Option.map_some]
theorem o_tupL {ds : List D} : optL fTuple [.d (.lst ds)] s = .ok (.d (.tup ds)) s := rfl
theorem o_tupT {ds : List D} : optL fTuple [.d (.tup ds)] s = .ok (.d (.tup ds)) s := rfl
theorem o_listT {ds : List D} : optL fList [.d (.tup ds)] s = .ok (.d (.lst ds)) s := rfl
theorem o_listL {ds : List D} : optL fList [.d (.lst ds)] s = .ok (.d (.lst ds)) s := rfl
theorem o_isi {T : Ty5} {d : D} : gIsi T (.d d) s = .ok (.d (.bl (isT T d))) s := rfl
theorem o_catT {xs ys : List D} (h : xs.length + ys.length ≤ cap) : opt2 fAdd (.d (.tup xs)) (.d (.tup ys)) s = .ok (.d (.tup (xs ++ ys))) s := by
  unfold opt2 fAdd
  simp only [vw, h, if_true]
theorem o_catL {xs ys : List D} (h : xs.length + ys.length ≤ cap) : opt2 fAdd (.d (.lst xs)) (.d (.lst ys)) s = .ok (.d (.lst (xs ++ ys))) s := by
  unfold opt2 fAdd
  simp only [vw, h, if_true]
theorem o_slT {ds : List D} {lo hi : Option Int} : optS fSl (.d (.tup ds)) lo hi s = .ok (.d (.tup (cutD ds lo hi))) s := rfl
theorem o_slL {ds : List D} {lo hi : Option Int} : optS fSl (.d (.lst ds)) lo hi s = .ok (.d (.lst (cutD ds lo hi))) s := rfl
theorem o_is {x : W} : opt2 (fIs false) x (.d .non) s = .ok (.d (.bl (isNon x))) s := rfl
theorem o_isnot {x : W} : opt2 (fIs true) x (.d .non) s = .ok (.d (.bl (!isNon x))) s := rfl
theorem o_all {bs : List Bool} : optL fAll [.d (.lst (bs.map .bl))] s = .ok (.d (.bl (bs.all id))) s := by
  have h : ∀ bs : List Bool, blsOf (bs.map .bl) = some bs := fun bs => by
    induction bs with
    | nil => rfl
    | cons b r ih => simp [blsOf, ih]
  unfold optL fAll fOvr
  simp [vw, lstOf, h]
theorem o_any {bs : List Bool} : optL fAny [.d (.lst (bs.map .bl))] s = .ok (.d (.bl (bs.any id))) s := by
  have h : ∀ bs : List Bool, blsOf (bs.map .bl) = some bs := fun bs => by
    induction bs with
    | nil => rfl
    | cons b r ih => simp [blsOf, ih]
  unfold optL fAny fOvr
  simp [vw, lstOf, h]
theorem o_sum {bs : List Int} : optL fSum [.d (.lst (bs.map .int))] s = .ok (.d (.int bs.sum)) s := by
  have h : ∀ bs : List Int, intsOf (bs.map .int) = some bs := fun bs => by
    induction bs with
    | nil => rfl
    | cons b r ih => simp [intsOf, ih]
  unfold optL fSum fOvr
  simp [vw, lstOf, h]
theorem o_tru {b : Bool} : gTru (.d (.bl b)) s = .ok b s := rfl
theorem o_truT {ds : List D} : gTru (.d (.tup ds)) s = .ok (!ds.isEmpty) s := rfl
theorem o_truL {ds : List D} : gTru (.d (.lst ds)) s = .ok (!ds.isEmpty) s := rfl
theorem o_tup {xs : List W} {ds : List D} (h : dats xs = some ds) (hc : ds.length ≤ cap) : gTup xs s = .ok (.d (.tup ds)) s := by
  unfold gTup
  rw [h]
  simp only [hc, if_true]
theorem o_lst {xs : List W} {ds : List D} (h : dats xs = some ds) (hc : ds.length ≤ cap) : gLst xs s = .ok (.d (.lst ds)) s := by
  unfold gLst
  rw [h]
  simp only [hc, if_true]
theorem o_new {xs : List W} {ds : List D} (h : dats xs = some ds) (hc : ds.length ≤ cap) : gNew xs s = .ok (.h s.length) (s ++ [some ds]) := by
  unfold gNew
  rw [h]
  simp only [hc, if_true]
theorem cut_to {ds : List D} {i : Nat} (h : i ≤ ds.length) : cutD ds none (some (i : Int)) = ds.take i := by
  unfold cutD
  rw [HT.sIx_none, HT.sIx_nat, List.drop_zero, Nat.sub_zero, Nat.min_eq_left h]
theorem cut_from {ds : List D} {i : Nat} (h : i ≤ ds.length) : cutD ds (some (i : Int)) none = ds.drop i := by
  unfold cutD
  rw [HT.sIx_none, HT.sIx_nat, Nat.min_eq_left h, List.take_of_length_le (by rw [List.length_drop]; omega)]
theorem eq_of_sat {r : Res W} {x : W} {E : XC → Sto → Prop} (h : r.sat (fun y s' => y = x ∧ s' = s) E) (hn : ∀ e s, ¬ E e s) : r = .ok x s := by
  cases r with
  | ok a t => obtain ⟨rfl, rfl⟩ := h; rfl
  | err e t => exact absurd h (hn e t)
  | bad => exact h.elim
end
end Y

namespace Y
open PySem L2 PyProof.Rows

/-! ### enumerate of a tuple -/
theorem enumerate_newT (l : Addr) (items : Array Value) (n : Nat) (dct : Option Addr) (sl : Array (Option Value)) :
    Meets (Builtin.«enumerate.__new__» ⟨[.type "enumerate", .ref l], []⟩) (fun _ R s => s.heap.get? l = some { cls := .type "tuple", dict := dct, data := .seq items n, slots := sl } ∧
      R (.ok (.ret (.ref (s.heap.push { cls := .type "tuple_iterator", data := .fields #[.ref l, .int 0 0] }).objs.size)))
        { s with heap := (s.heap.push { cls := .type "tuple_iterator", data := .fields #[.ref l, .int 0 0] }).push { cls := .type "enumerate", data := .fields #[.none, .bool false, .ref s.heap.objs.size, rawInt 0, .none, .none] } }) :=
  .of_wp fun prog w A R s h => by
    obtain ⟨hp, g, d, tk, os⟩ := s
    obtain ⟨hl, h⟩ := h
    have hsub := sub_enumerate
    have hL : Heap.IsTuple (Shared.heap ⟨hp, g, d, tk, os⟩) l items := ⟨_, hl, rfl, n, rfl⟩
    wp_walk using PySem.AutoSeq1.wpAny_loadPart' hl
    refine wpAny_stack_any fun st => wpAny_pure ?_
    split
    · rename_i c _ _ _ _ _
      cases (c == Value.type "enumerate")
      · wp_walk using PySem.AutoSeq1.wpAny_loadPart' hl, wpAny_pyIter_tuple hL
        exact ⟨_, rfl, h⟩
      · wp_walk using PySem.AutoSeq1.wpAny_loadPart' hl, wpAny_pyIter_tuple hL
        exact ⟨_, rfl, h⟩
    · wp_walk using PySem.AutoSeq1.wpAny_loadPart' hl, wpAny_pyIter_tuple hL
      exact ⟨_, rfl, h⟩
theorem call_enumT {prog : Program} {w : World} {A : Around} {E : Value → Shared → Prop} {s : Shared} {l : Addr} {items : Array Value} {Q : Value → Shared → Prop} (hL : s.heap.IsTuple l items)
    (h : ∀ h', IsEnum h' (s.heap.objs.size + 1) s.heap.objs.size 0 .none → h'.IsTupleIter s.heap.objs.size l 0 → h'.objs.size = s.heap.objs.size + 2 →
      (∀ b o, s.heap.get? b = some o → h'.get? b = some o) → Q (.ref (s.heap.objs.size + 1)) { s with heap := h' }) :
    wpAny (model prog w) A (call (.type "enumerate") [.ref l]) Q E s := by
  obtain ⟨⟨c, dct, dt, sl⟩, hl, hc, n, hd⟩ := hL
  replace hc : c = .type "tuple" := hc
  replace hd : dt = .seq items n := hd
  subst hc hd
  refine callType_new F.called_enumerate (by decide) (F.typeCall_enumerate_1 _) (F.newCall_enumerate_1 _) (fun obj => F.args_object_init_2 obj _) F.entry_enumerate_new
    (enumerate_newT l items n dct sl) ⟨hl, ?_⟩
  have hz : (s.heap.push { cls := .type "tuple_iterator", data := .fields #[.ref l, .int 0 0] }).objs.size = s.heap.objs.size + 1 := Heap.size_push ..
  show _ ∧ _
  rw [hz]
  have he : IsEnum ((s.heap.push { cls := .type "tuple_iterator", data := .fields #[.ref l, .int 0 0] }).push
      { cls := .type "enumerate", data := .fields #[.none, .bool false, .ref s.heap.objs.size, rawInt 0, .none, .none] }) (s.heap.objs.size + 1) s.heap.objs.size 0 .none := by
    have := Heap.get?_push_size (s.heap.push { cls := .type "tuple_iterator", data := .fields #[.ref l, .int 0 0] })
      (o := { cls := .type "enumerate", data := .fields #[.none, .bool false, .ref s.heap.objs.size, rawInt 0, .none, .none] }) rfl
    rw [hz] at this; exact this
  refine ⟨⟨_, he, rfl⟩, h _ he ⟨_, Heap.get?_push_of_some _ (Heap.get?_push_size _ rfl), rfl, rfl⟩ (by rw [Heap.size_push, hz]) fun b o x => Heap.get?_push_of_some _ (Heap.get?_push_of_some _ x)⟩

/-- the tuple at a, each item in a new pair -/
def Itu (K : PySem.W.Frag) (a : Addr) : It :=
  ⟨fun i H => ∃ (xs : List V) (x : V), SqT K H a xs ∧ xs[i]? = some x, fun i H v H' => ∃ T x, v = .ref T ∧ H T = none ∧ H' = upd H T (.tup [.int (i : Nat), x]) ∧ ∀ xs, SqT K H a xs → xs[i]? = some x, fun i H => ∃ xs : List V, SqT K H a xs ∧ xs.length ≤ i⟩
theorem turn_enumT {P : Program} {w : World} {K : PySem.W.Frag} {elts : List PySem.Expr} {kk : Nat} {tpos : Pos} (a e it : Addr) :
    Turn P w K (.Tuple elts kk tpos) (Itu K a) [e, it] e (fun i h => (∃ old, IsEnum h e it ((i : Nat) : Int) old) ∧ h.IsTupleIter it a i ∧ e ≠ it ∧ a ≠ it ∧ a ≠ e) where
  mem := by simp
  obj := fun i h st b hb => by
    obtain ⟨⟨old, he⟩, ⟨o, ho, hc, hd⟩, _⟩ := st
    have e' : b = e ∨ b = it := by simpa using hb
    rcases e' with z | z
    · rw [z]; exact ⟨_, he, fun v q => nomatch q⟩
    · rw [z]; exact ⟨o, ho, fun v q => by rw [hd] at q; cases q⟩
  keep := fun i h h' st k => by
    obtain ⟨⟨old, he⟩, hi, hne⟩ := st
    exact ⟨⟨old, k e (by simp) _ he⟩, hi.at fun o q => k it (by simp) o q, hne⟩
  item := by
    intro X hP hw hK hc i pins s σ H E I hf st hg
    subst hP hw hK
    obtain ⟨⟨old, he⟩, hit, hne, hai, hae⟩ := st
    obtain ⟨xs, x, hq, hx⟩ := hg
    obtain ⟨its, rv, p, hz⟩ := I.tuple hq
    obtain ⟨u, hu, ru⟩ := rv.get hx
    have hel : e < s.heap.objs.size := Heap.lt_size he
    have hil : it < s.heap.objs.size := by obtain ⟨_, q, _⟩ := hit; exact Heap.lt_size q
    have hlt : i < its.toArray.size := by
      rw [List.size_toArray]
      exact (List.getElem?_eq_some_iff.mp hu).1
    refine wpAny_pyNext_enum_itemD (A := X.A) (Draws.tuple (A := X.A.in1) (show X.A.in1.handled = none from I.ok.hd hc) it a hai its.toArray) he ⟨hit, p⟩ hlt hne (by simp [hne, Ne.symm hae]) fun v h' tk hv ho hst hT hsz hk => ?_
    have hv' : v = u := by
      have h1 : its.toArray[i]? = some v := hv
      rw [List.getElem?_toArray, hu] at h1
      exact (Option.some.inj h1).symm
    subst hv'
    obtain ⟨hit', ht'⟩ := hst
    refine ⟨_, rfl, wpAny_letOwnedTupleGo_enum (s := { s with heap := h', toks := tk + 1 }) ho fun h'' he' sb => ?_⟩
    have hT2 : h''.get? s.heap.objs.size = some { cls := .type "tuple", data := .seq #[.int i tk, v] } := (sb.2 _ (Nat.ne_of_gt hel)).trans hT
    have new : ObjOk X.prog X.w (upd H s.heap.objs.size (.tup [.int (i : Nat), x])) h'' s.heap.objs.size (.tup [.int (i : Nat), x]) :=
      ⟨by show 2 ≤ sizeLine; decide, [.int i tk, v], .cons ⟨_, rfl⟩ (.cons ru .nil), ⟨_, hT2, rfl, _, rfl⟩⟩
    have I1 : Inv X pins σ (upd H s.heap.objs.size (.tup [.int (i : Nat), x])) { s with heap := h'', toks := tk + 1 } :=
      I.turnedNew (ch := [e, it]) (fun b ob hb q => (sb.2 b (fun z => hb (by simp [z]))).trans (hk b ob (fun z => hb (by simp [z])) (fun z => hb (by simp [z])) q)) hf (Nat.le_refl _) new
    refine ⟨.ref s.heap.objs.size, _, I1, rfl, ⟨_, x, rfl, I.hok.fresh (Nat.le_refl _), rfl, fun ys hy => by rw [I.tuple_inj hy hq]; exact hx⟩, ⟨⟨v, ?_⟩, hit'.at fun o q => (sb.2 it (Ne.symm hne)).trans q, hne, hai, hae⟩, fun b hb => ?_⟩
    · have e1 : ((i + 1 : Nat) : Int) = (i : Int) + 1 := by omega
      rw [e1]; exact he'
    · have hb' : b < s.heap.objs.size := by
        have e' : b = e ∨ b = it := by simpa using hb
        rcases e' with z | z
        · rw [z]; exact hel
        · rw [z]; exact hil
      rw [upd_ne (Nat.ne_of_lt hb')]
      exact (hf b hb).1
  done := by
    intro X hP hw hK hc i pins s σ H E I hf st hg
    subst hP hw hK
    obtain ⟨⟨old, he⟩, hit, hne, hai, hae⟩ := st
    obtain ⟨xs, hq, hx⟩ := hg
    obtain ⟨its, rv, p, hz⟩ := I.tuple hq
    obtain ⟨f0, f1, f2, f3, f4, f5⟩ := hf it (by simp)
    have hl := rv.length
    have fin : ∀ h', Heap.ExtBut it s.heap h' → (none : Option Value) = none ∧ Inv X pins σ H { s with heap := h' } := fun h' eb => ⟨rfl, I.turned (t' := s.toks) (fun b o hb q => eb b o hb q) f0 f1 f3 f4 f5⟩
    have hT : s.TypeIs (.ref e) "enumerate" := ⟨_, he, rfl⟩
    unfold pyNext
    refine wpAny_bind (wpAny_attempt (wpAny_callSpecial?_slot (name := Str.ofString "__next__") hT F.slot_enumerate_next
      (wpAny_call_entry F.slot_enumerate_next hT F.entry_enumerate_next ?_ (F.args_enumerate_next_1 _))))
    show wpAny _ _ (field (.ref e) 2 >>= _) _ _ _
    refine wpAny_bind (wpAny_field he rfl (x := .ref it) rfl ?_)
    refine wpAny_bind (wpAny_nextOf_tuple_end (show X.A.in1.handled = none from I.ok.hd hc) hit p (by simp; omega) fun h' x he' hx' => ?_)
    obtain ⟨o, ho, hc'⟩ := hx'
    refine wpAny_bind (wpAny_isInstance (T := "StopIteration") (b := true) ⟨o, ho, hc'⟩ isSubtype_stop ?_)
    exact wpAny_pure (fin _ he')
  self := fun A i s Q E st h => let ⟨⟨_, he⟩, _⟩ := st; wpAny_pyIter_enum he h
def iEnuT (K : PySem.W.Frag) (ta : TA) : TI := fun σ H R => ta σ H fun vs H1 => ∃ a xs, vs = [.ref a] ∧ SqT K H1 a xs ∧ R (Itu K a) H1
theorem pi_enumT {X : Cx} {e : PySem.Expr} {ta : TA} {p pos tpos : Pos} {elts : List PySem.Expr} {kk : Nat} (hg : Gl X "enumerate") (hm : X.mg "enumerate" = none) (ha : PA X [e] ta) (hs : starEach [e] X.env = [(false, eval e X.env)] := by rfl) :
    PI X (.Tuple elts kk tpos) (.Call (.Name "enumerate" p) [e] [] pos) (iEnuT X.K ta) := by
  refine ⟨fun pins s σ H R I h => ?_⟩
  refine Call_ (ld_blt I hg hm boot_enumerate (PyProof.Rows.callWith_type1 (thn (ha.run pos pins s σ H _ I h) fun us s1 ⟨vs, H1, I1, r1, q1⟩ => ?_) hs rfl))
  obtain ⟨a, xs, ex, hq, q⟩ := q1
  subst ex
  cases r1 with
  | cons r rr =>
    cases rr
    cases r
    obtain ⟨its, rv, p', hz⟩ := I1.tuple hq
    have hal : a < s1.heap.objs.size := by obtain ⟨_, q, _⟩ := p'; exact Heap.lt_size q
    refine call_enumT p' fun h' he hit hsz hk => wpAny_pyIter_enum he ?_
    have I2 : Inv X pins σ H1 { s1 with heap := h' } := I1.kept (t' := s1.toks) hk
    refine ⟨s1.heap.objs.size + 1, [s1.heap.objs.size + 1, s1.heap.objs.size], _, _, H1, rfl, I2, turn_enumT a (s1.heap.objs.size + 1) s1.heap.objs.size, ⟨⟨.none, he⟩, hit, Nat.succ_ne_self _, Nat.ne_of_lt hal, Nat.ne_of_lt (Nat.lt_succ_of_lt hal)⟩, fun b hb => ?_, q⟩
    have e' : b = s1.heap.objs.size + 1 ∨ b = s1.heap.objs.size := by simpa using hb
    have hle : s1.heap.objs.size ≤ b := by
      rcases e' with z | z
      · rw [z]; exact Nat.le_add_right _ _
      · rw [z]; exact Nat.le_refl _
    exact I1.fpOk hle (I1.hok.fresh hle)
def enD (ds : List D) : List D := (List.range ds.length).map fun i => .tup [.int (i : Nat), ds.getD i .non]
def itEn (F : Loc → M W) : Loc → M (List D) := fun ρ => M.bnd (F ρ) fun x => M.bnd (gSeq x) fun ds => M.ret (enD ds)
def iEnY (K : PySem.W.Frag) (ta : TA) : TI := fun σ H R => iEnum K ta σ H R ∨ iEnuT K ta σ H R
theorem pi_enY {X : Cx} {e : PySem.Expr} {ta : TA} {p pos tpos : Pos} {elts : List PySem.Expr} {kk : Nat} (hg : Gl X "enumerate") (hm : X.mg "enumerate" = none) (ha : PA X [e] ta) (hs : starEach [e] X.env = [(false, eval e X.env)] := by rfl) :
    PI X (.Tuple elts kk tpos) (.Call (.Name "enumerate" p) [e] [] pos) (iEnY X.K ta) := PI.or (pi_enum hg hm ha hs) (pi_enumT hg hm ha hs)
section
variable {K : PySem.W.Frag} {mg : Str → Option Value} {E : XK} {w : Wd}
theorem enD_len (ds : List D) : (enD ds).length = ds.length := by unfold enD; rw [List.length_map, List.length_range]
theorem enD_get {ds : List D} {i : Nat} (h : i < ds.length) : (enD ds)[i]? = some (.tup [.int (i : Nat), ds[i]]) := by
  unfold enD
  rw [List.getElem?_map, List.getElem?_range h]
  simp [List.getD, h]
theorem en_yld {ds : List D} {i : Nat} {w' : Wd} {x : V} {d : D} {T : Addr} (ok' : Ok K w') (hi : i < ds.length) (hT : w'.H T = none) (hd : ds[i]? = some d) (rd : Rep K w'.H w'.al d x) :
    ∃ w'' e, Gd K w' w'.st w'' ∧ w''.H = upd w'.H T (.tup [.int (i : Nat), x]) ∧ (enD ds)[i]? = some e ∧ Rep K w''.H w''.al e (.ref T) := by
  have hdi : ds[i] = d := by
    obtain ⟨_, e⟩ := List.getElem?_eq_some_iff.mp hd
    exact e
  refine ⟨w'.lay T (.tup [.int (i : Nat), x]), .tup [.int (i : Nat), d], gd_lay ok' hT, rfl, by rw [enD_get hi, hdi], ?_⟩
  exact rep_tup ok' hT (ds := [.int (i : Nat), d]) (vs := [.int (i : Nat), x]) ⟨_, _, rfl, rfl, ⟨_, _, rfl, rd, rfl⟩⟩
theorem its_enL {a : Addr} {vs : List V} {ds : List D} (ok : Ok K w) (st : ∀ w', Nxt w w' → SqL K w'.H a vs) (r : RepL K w.H w.al ds vs) : Its K w (Ite K a) (enD ds) := by
  refine ⟨fun w' x ok' i hi => ?_, fun w' x ok' => ?_, fun w' x ok' i y H' hi q => ?_⟩
  · rw [enD_len] at hi
    exact ⟨vs, vs[i]'(by rw [r.length]; exact hi), st w' x, by simp [r.length, hi]⟩
  · exact ⟨vs, st w' x, by rw [r.length, enD_len]; exact Nat.le_refl _⟩
  · rw [enD_len] at hi
    obtain ⟨T, z, rfl, hT, rfl, q⟩ := q
    obtain ⟨d, hd, rd⟩ := (r.nxt x ok).getV (q vs (st w' x))
    exact en_yld ok' hi hT hd rd
theorem its_enT {a : Addr} {vs : List V} {ds : List D} (ok : Ok K w) (h : SqT K w.H a vs) (r : RepL K w.H w.al ds vs) : Its K w (Itu K a) (enD ds) := by
  have st : ∀ w', Nxt w w' → SqT K w'.H a vs := fun w' x => SqT.keep (x.k1 ok a) h
  refine ⟨fun w' x ok' i hi => ?_, fun w' x ok' => ?_, fun w' x ok' i y H' hi q => ?_⟩
  · rw [enD_len] at hi
    exact ⟨vs, vs[i]'(by rw [r.length]; exact hi), st w' x, by simp [r.length, hi]⟩
  · exact ⟨vs, st w' x, by rw [r.length, enD_len]; exact Nat.le_refl _⟩
  · rw [enD_len] at hi
    obtain ⟨T, z, rfl, hT, rfl, q⟩ := q
    obtain ⟨d, hd, rd⟩ := (r.nxt x ok).getV (q vs (st w' x))
    exact en_yld ok' hi hT hd rd
theorem ei_en {ta : TE} {F : Loc → M W} (ha : EvE K mg E ta F) : EvI K mg E (iEnY K (tCons ta tNil)) (itEn F) := by
  intro σ ρ w ok r R h
  unfold itEn at h
  rw [sat_bnd] at h
  cases e : F ρ w.st with
  | bad => rw [e] at h; exact h.elim
  | err x s1 =>
    rw [e] at h
    exact .inl (ha σ ρ w ok r _ (by rw [e]; exact h))
  | ok x s1 =>
    rw [e] at h
    cases x with
    | r n => exact h.elim
    | k n => exact h.elim
    | h n => exact h.elim
    | d y =>
      cases y with
      | tup ds =>
        refine .inr (ha σ ρ w ok r _ ?_)
        rw [e]
        rintro v w1 g ⟨a, vs, rfl, hs, rl⟩
        exact ⟨a, vs, rfl, hs, h _ w1 g (its_enT g.ok hs rl)⟩
      | lst ds =>
        refine .inl (ha σ ρ w ok r _ ?_)
        rw [e]
        rintro v w1 g ⟨a, vs, rfl, hs, na, rl⟩
        exact ⟨a, vs, rfl, SqL.of hs, h _ w1 g (its_enL g.ok (fun w2 x => SqL.of (x.keep a _ hs na)) rl)⟩
      | frz ds =>
        refine .inl (ha σ ρ w ok r _ ?_)
        rw [e]
        rintro v w1 g ⟨a, vs, rfl, hs, rl⟩
        exact ⟨a, vs, rfl, fz_sq hs, h _ w1 g (its_enL g.ok (fun w2 x => fz_sq (FzL.keep (x.k1 g.ok a) hs)) rl)⟩
      | tux ds =>
        refine .inr (ha σ ρ w ok r _ ?_)
        rw [e]
        rintro v w1 g ⟨a, vs, rfl, hs, rl⟩
        exact ⟨a, vs, rfl, tux_sq hs, h _ w1 g (its_enT g.ok (tux_sq hs) rl)⟩
      | _ => exact h.elim
end
end Y

namespace Y
open PySem L2 PyProof.Rows

/-! ### the order of data at any depth -/
def OkLt (d e : D) : Prop := PySem.W.alike (toPy d) (toPy e) = true ∧ isNon (.d d) = false ∧ (toPy d).depth ≤ 60
instance (d e : D) : Decidable (OkLt d e) := inferInstanceAs (Decidable (_ ∧ _ ∧ _))
def ltD (d e : D) : Bool := PySem.W.dataLt (toPy d) (toPy e)
theorem ne_non {d : D} (h : isNon (.d d) = false) : toPy d ≠ .none := by
  cases d with
  | non => cases h
  | _ => exact fun z => nomatch z
def rLtD (K : PySem.W.Frag) (f : PyData → PyData → Bool) : R2 := fun x y H Q => ∃ d e, Dp K H x d ∧ Dp K H y e ∧ PySem.W.alike d e = true ∧ d ≠ .none ∧ d.depth ≤ 60 ∧ Q (.bl (f d e)) H
theorem op_ltD {X : Cx} (hu : X.A.units + 64 < cLine) : OpR X (compareOp .Lt) (rLtD X.K PySem.W.dataLt) := by
  intro pins s σ H x y v u Q I rx ry h
  obtain ⟨d, e, hd, he, ha, hn, hp, q⟩ := h
  obtain ⟨as, r1⟩ := Dp.reads I d x v hd rx
  obtain ⟨bs, r2⟩ := Dp.reads I e y u he ry
  exact PySem.W.lt_data r1 r2 ha hn (by omega) ⟨.bl _, H, I, rfl, q⟩
theorem op_leD {X : Cx} (hu : X.A.units + 64 < cLine) : OpR X (compareOp .LtE) (rLtD X.K fun d e => !PySem.W.dataLt e d) := by
  intro pins s σ H x y v u Q I rx ry h
  obtain ⟨d, e, hd, he, ha, hn, hp, q⟩ := h
  obtain ⟨as, r1⟩ := Dp.reads I d x v hd rx
  obtain ⟨bs, r2⟩ := Dp.reads I e y u he ry
  exact PySem.W.le_data r1 r2 ha hn (by omega) ⟨.bl _, H, I, rfl, q⟩
theorem op_gtD {X : Cx} (hu : X.A.units + 64 < cLine) : OpR X (compareOp .Gt) (rLtD X.K fun d e => PySem.W.dataLt e d) := by
  intro pins s σ H x y v u Q I rx ry h
  obtain ⟨d, e, hd, he, ha, hn, hp, q⟩ := h
  obtain ⟨as, r1⟩ := Dp.reads I d x v hd rx
  obtain ⟨bs, r2⟩ := Dp.reads I e y u he ry
  exact PySem.W.gt_data r1 r2 ha hn (by omega) ⟨.bl _, H, I, rfl, q⟩
theorem op_geD {X : Cx} (hu : X.A.units + 64 < cLine) : OpR X (compareOp .GtE) (rLtD X.K fun d e => !PySem.W.dataLt d e) := by
  intro pins s σ H x y v u Q I rx ry h
  obtain ⟨d, e, hd, he, ha, hn, hp, q⟩ := h
  obtain ⟨as, r1⟩ := Dp.reads I d x v hd rx
  obtain ⟨bs, r2⟩ := Dp.reads I e y u he ry
  exact PySem.W.ge_data r1 r2 ha hn (by omega) ⟨.bl _, H, I, rfl, q⟩
/-- ints by themselves, other data as data -/
def fCmp (g : Int → Int → Bool) (f : PyData → PyData → Bool) : Sto → W → W → Option W := fun s a b => match a, b with
  | .d (.int i), .d (.int j) => some (.d (.bl (g i j)))
  | _, _ => (match vw s a, vw s b with
    | some d, some e => if OkLt d e then some (.d (.bl (f (toPy d) (toPy e)))) else none
    | _, _ => none)
def fLtY := fCmp (fun i j => decide (i < j)) PySem.W.dataLt
def fLeY := fCmp (fun i j => decide (i ≤ j)) fun d e => !PySem.W.dataLt e d
def fGtY := fCmp (fun i j => decide (j < i)) fun d e => PySem.W.dataLt e d
def fGeY := fCmp (fun i j => decide (j ≤ i)) fun d e => !PySem.W.dataLt d e
def rCmpY (K : PySem.W.Frag) (g : Int → Int → Bool) (f : PyData → PyData → Bool) : R2 := fun x y H Q => rI0 (fun i j => .bl (g i j)) x y H Q ∨ rLtD K f x y H Q
section
variable {K : PySem.W.Frag} {mg : Str → Option Value} {E : XK} {w : Wd}
theorem sem_cmp {g : Int → Int → Bool} {f : PyData → PyData → Bool} : SemR2 K (rCmpY K g f) (opt2 (fCmp g f)) := sem2 fun w a b x y z ok ra rb h Q q => by
  unfold fCmp at h
  split at h
  · rename_i i j
    cases h
    exact .inl ⟨i, j, ra, rb, pw_d (d := .bl _) ok rfl q⟩
  · split at h
    · rename_i d e h1 h2
      split at h
      · rename_i hc
        cases h
        exact .inr ⟨_, _, rd_dp ok h1 ra, rd_dp ok h2 rb, hc.1, ne_non hc.2.1, hc.2.2, pw_d (d := .bl _) ok rfl q⟩
      · cases h
    · cases h
end
theorem op_ltY {X : Cx} (hu : X.A.units + 64 < cLine) : OpR X (compareOp .Lt) (rCmpY X.K (fun i j => decide (i < j)) PySem.W.dataLt) := op_lt.or (op_ltD hu)
theorem op_leY {X : Cx} (hu : X.A.units + 64 < cLine) : OpR X (compareOp .LtE) (rCmpY X.K (fun i j => decide (i ≤ j)) fun d e => !PySem.W.dataLt e d) := op_le.or (op_leD hu)
theorem op_gtY {X : Cx} (hu : X.A.units + 64 < cLine) : OpR X (compareOp .Gt) (rCmpY X.K (fun i j => decide (j < i)) fun d e => PySem.W.dataLt e d) := op_gt.or (op_gtD hu)
theorem op_geY {X : Cx} (hu : X.A.units + 64 < cLine) : OpR X (compareOp .GtE) (rCmpY X.K (fun i j => decide (j ≤ i)) fun d e => !PySem.W.dataLt d e) := op_ge.or (op_geD hu)

/-! ### sorted of data -/
def leD (a b : D) : Bool := !ltD b a
def OkSort (ds : List D) : Prop := (∀ d ∈ ds, ∀ e ∈ ds, PySem.W.alike (toPy d) (toPy e) = true) ∧ ((∀ d ∈ ds, ∃ x r, d = .tup (x :: r)) ∨ ∀ d ∈ ds, (match d with | .non => False | .tup _ => False | .tux _ => False | _ => True)) ∧ (∀ d ∈ ds, (toPy d).depth ≤ 50) ∧ ds.length ≤ cap
open Classical in
noncomputable def fSorted : Sto → List W → Option W := fun s xs => match xs with
  | [a] => (match (vw s a).bind lstOf with
    | some ds => if OkSort ds then some (.d (.lst (ds.mergeSort leD))) else none
    | none => none)
  | _ => none
def rSortY (K : PySem.W.Frag) : List V → Hp → VK → Prop := fun vs H Q => ∃ (a : Addr) (qs : List (V × D)), vs = [.ref a] ∧ SqL K H a (qs.map (·.1)) ∧ (∀ q ∈ qs, Dp K H q.1 (toPy q.2)) ∧ OkSort (qs.map (·.2)) ∧
  ∀ p, H p = none → Q (.ref p) (upd H p (.lst ((qs.mergeSort fun a b => leD a.2 b.2).map (·.1))))
theorem each_dps {X : Cx} {pins : List (Addr × Obj)} {σ : L2.St} {H : Hp} {s : Shared} (I : Inv X pins σ H s) : ∀ {qs : List (V × D)} {us : List Value}, Vals (qs.map (·.1)) us → (∀ q ∈ qs, Dp X.K H q.1 (toPy q.2)) →
    PySem.W.EachIs (fun (u : Value) (q : V × D) => ∃ as, Reads s.heap u (toPy q.2) as) us qs ∧ PySem.W.EachIs (fun (u : Value) (q : V × D) => RelV q.1 u) us qs
  | [], _, .nil, _ => ⟨.nil, .nil⟩
  | q :: qs, _, .cons r t, h => by
    obtain ⟨h1, h2⟩ := each_dps I t fun q hq => h q (List.mem_cons_of_mem _ hq)
    exact ⟨.cons (Dp.reads I _ _ _ (h q List.mem_cons_self) r) h1, .cons r h2⟩
theorem each_vals : ∀ {us : List Value} {qs : List (V × D)}, PySem.W.EachIs (fun (u : Value) (q : V × D) => RelV q.1 u) us qs → Vals (qs.map (·.1)) us
  | _, _, .nil => .nil
  | _, _, .cons r t => .cons r (each_vals t)
theorem cr_sortY {X : Cx} (hu : X.A.units + 64 < cLine) : CallR X (.builtin "sorted") (rSortY X.K) := by
  intro pins s σ H vs us Q I r h
  obtain ⟨a, qs, rfl, hs, hd, ⟨k1, k2, k3, k4⟩, q⟩ := h
  obtain ⟨its, rv, hl, hz⟩ := I.list hs
  rw [Vals.ref1 r]
  obtain ⟨e1, e2⟩ := each_dps I rv hd
  have al : PySem.W.AllAlike (qs.map fun q => toPy q.2) := fun d hd d' hd' => by
    obtain ⟨x, hx, rfl⟩ := List.mem_map.mp hd
    obtain ⟨y, hy, rfl⟩ := List.mem_map.mp hd'
    exact k1 x.2 (List.mem_map.mpr ⟨x, hx, rfl⟩) y.2 (List.mem_map.mpr ⟨y, hy, rfl⟩)
  have so : PySem.W.Sortable (qs.map fun q => toPy q.2) := by
    rcases k2 with k2 | k2
    · refine .inl fun d hd => ?_
      obtain ⟨x, hx, rfl⟩ := List.mem_map.mp hd
      obtain ⟨y, t, e⟩ := k2 x.2 (List.mem_map.mpr ⟨x, hx, rfl⟩)
      exact ⟨toPy y, toPys t, by rw [e]; rfl⟩
    · refine .inr fun d hd => ?_
      obtain ⟨x, hx, rfl⟩ := List.mem_map.mp hd
      have := k2 x.2 (List.mem_map.mpr ⟨x, hx, rfl⟩)
      cases e : x.2 <;> rw [e] at this <;> first | exact this.elim | exact ⟨fun z => (nomatch z), fun xs z => (nomatch z)⟩
  have hlen : qs.length ≤ sizeLine := by
    rw [List.length_map] at k4
    exact capS k4
  refine PySem.W.sorted_data hl.isList e2 e1 al so hlen (fun b hb => ?_) fun out ho he => ?_
  · have := k3 b.2 (List.mem_map.mpr ⟨b, hb, rfl⟩)
    omega
  · obtain ⟨c, hc⟩ := sortedAll_at s.heap its out.toArray
    have hv := each_vals he
    refine ⟨.ref (s.heap.objs.size + 1), upd H (s.heap.objs.size + 1) (.lst ((qs.mergeSort fun a b => leD a.2 b.2).map (·.1))), I.laid (t' := s.toks) (fun b o e => sortedAll_old e) (Nat.le_succ _) ?_, rfl, q _ (I.hok.fresh (Nat.le_succ _))⟩
    refine ⟨?_, out, c, hv, ?_⟩
    · rw [List.length_map, List.length_mergeSort]
      exact hlen
    · exact hc
section
variable {K : PySem.W.Frag} {mg : Str → Option Value} {E : XK} {w : Wd}
theorem repL_pairs {H : Hp} {al : Addr → Prop} : ∀ {ds : List D} {vs : List V}, RepL K H al ds vs → ∃ qs : List (V × D), qs.map (·.1) = vs ∧ qs.map (·.2) = ds ∧ ∀ q ∈ qs, Rep K H al q.2 q.1
  | [], vs, h => by
    obtain rfl : vs = [] := h
    exact ⟨[], rfl, rfl, fun q hq => by cases hq⟩
  | d :: ds, vs, ⟨v, us, e, r, t⟩ => by
    subst e
    obtain ⟨qs, e1, e2, h⟩ := repL_pairs t
    refine ⟨(v, d) :: qs, by rw [List.map_cons, e1], by rw [List.map_cons, e2], fun q hq => ?_⟩
    rcases List.mem_cons.mp hq with rfl | hq
    · exact r
    · exact h q hq
theorem pairs_repL {H : Hp} {al : Addr → Prop} : ∀ {qs : List (V × D)}, (∀ q ∈ qs, Rep K H al q.2 q.1) → RepL K H al (qs.map (·.2)) (qs.map (·.1))
  | [], _ => rfl
  | q :: qs, h => ⟨q.1, _, rfl, h q List.mem_cons_self, pairs_repL fun p hp => h p (List.mem_cons_of_mem _ hp)⟩
theorem sem_sorted : SemRL K (rSortY K) (optL fSorted) := semL fun w a x z ok ra h Q q => by
  unfold fSorted at h
  split at h
  · rename_i y
    obtain ⟨v, rfl, rv⟩ := ra.one
    split at h
    · rename_i ds hb
      split at h
      · rename_i hc
        cases h
        cases e1 : vw w.st y with
        | none => rw [e1] at hb; cases hb
        | some d =>
          rw [e1] at hb
          obtain ⟨p, us, rfl, hs, r⟩ := rd_sqL ok e1 (lstOf_is hb) rv
          obtain ⟨qs, rfl, rfl, hq⟩ := repL_pairs r
          refine ⟨p, qs, rfl, hs, fun t ht => rep_dp _ _ (hq t ht), hc, ?_⟩
          have e2 : (qs.mergeSort fun a b => leD a.2 b.2).map (·.2) = (qs.map (·.2)).mergeSort leD := List.map_mergeSort fun a _ b _ => rfl
          refine pw_lst ok ?_ q
          rw [← e2]
          exact pairs_repL fun t ht => hq t (List.mem_mergeSort.mp ht)
      · cases h
    · cases h
  · cases h
end

section
variable {s : Sto}
theorem o_ltY {i j : Int} : opt2 fLtY (.d (.int i)) (.d (.int j)) s = .ok (.d (.bl (decide (i < j)))) s := rfl
theorem o_leY {i j : Int} : opt2 fLeY (.d (.int i)) (.d (.int j)) s = .ok (.d (.bl (decide (i ≤ j)))) s := rfl
theorem o_gtY {i j : Int} : opt2 fGtY (.d (.int i)) (.d (.int j)) s = .ok (.d (.bl (decide (j < i)))) s := rfl
theorem o_geY {i j : Int} : opt2 fGeY (.d (.int i)) (.d (.int j)) s = .ok (.d (.bl (decide (j ≤ i)))) s := rfl
end
end Y

namespace Y
open PySem L2
/-! ### a list that grows at the store's end -/
section
variable {S0 : Sto} {Wl : List D} {ρ : Loc} {i : Nat} {A : Loc → M (List W)} {S R : Loc → M (Loc × Fl)} {PS : (Loc × Fl) → Sto → Prop} {E : XC → Sto → Prop}
theorem hotLast : isHot (.h S0.length) (S0 ++ [some Wl]) = true := by
  unfold isHot
  simp
theorem setLast {z : Option (List D)} : (S0 ++ [some Wl]).set S0.length z = S0 ++ [z] := by
  rw [List.set_append_right _ _ (Nat.le_refl _), Nat.sub_self]
  rfl
theorem getLast' {z : Option (List D)} : (S0 ++ [z])[S0.length]? = some z := by simp
theorem seqNxt {s : Sto} : (seqS S nxt ρ s).sat PS E ↔ (S ρ s).sat PS E := by
  rw [v_seq]
  refine iff_of_eq (congrArg (fun Z => (S ρ s).sat Z E) ?_)
  funext r s'
  obtain ⟨ρ', f⟩ := r
  cases f <;> rfl
/-- found.append(x), found the last list of the store -/
theorem st_push {x : D} (hρ : ρ[i]? = some (some (.h S0.length))) (hW : Wl.length < cap) (hA : A ρ (S0 ++ [some Wl]) = .ok [.d x] (S0 ++ [some Wl])) (q : PS (ρ, .nx) (S0 ++ [some (Wl ++ [x])])) : (expS (mthE fApp (getL i) A) ρ (S0 ++ [some Wl])).sat PS E := by
  rw [v_exp, v_mth, v_get]
  refine ⟨_, hρ, hotLast, sat_of hA ?_⟩
  refine ⟨S0.length, Wl, Wl ++ [x], .non, rfl, by simp, ?_, ?_⟩
  · simp only [fApp]
    rw [if_pos hW]
  · rw [setLast]
    exact q
/-- found.extend(xs) -/
theorem st_pushL {l : List D} (hρ : ρ[i]? = some (some (.h S0.length))) (hW : Wl.length + l.length ≤ cap) (hA : (A ρ (S0 ++ [some Wl])).sat (fun as s' => as = [.d (.lst l)] ∧ s' = S0 ++ [some Wl]) E) (q : PS (ρ, .nx) (S0 ++ [some (Wl ++ l)])) : (expS (mthE fExt (getL i) A) ρ (S0 ++ [some Wl])).sat PS E := by
  rw [v_exp, v_mth, v_get]
  refine ⟨_, hρ, hotLast, hA.mono (fun as s' z => ?_) fun _ _ z => z⟩
  obtain ⟨rfl, rfl⟩ := z
  refine ⟨S0.length, Wl, Wl ++ l, .non, rfl, by simp, ?_, ?_⟩
  · simp only [fExt]
    rw [if_pos hW]
  · rw [setLast]
    exact q
end
theorem v_itEn {F : Loc → M W} {ρ : Loc} {s : Sto} {PD : List D → Sto → Prop} {E : XC → Sto → Prop} : (itEn F ρ s).sat PD E ↔ (F ρ s).sat (fun x s' => ∃ d ds, x = .d d ∧ seqOf d = some ds ∧ PD (enD ds) s') E := by
  unfold itEn
  rw [sat_bnd]
  refine iff_of_eq (congrArg (fun Z => (F ρ s).sat Z E) ?_)
  funext x s'
  rw [sat_bnd, v_seqD]
  rfl
/-! ### the order of rows of ints -/
def ltI : List Int → List Int → Bool
  | [], [] => false
  | [], _ :: _ => true
  | _ :: _, [] => false
  | x :: xs, y :: ys => if x = y then ltI xs ys else decide (x < y)
theorem toPys_ints : ∀ l : List Int, toPys (l.map D.int) = l.map PyData.int
  | [] => rfl
  | x :: l => by
    show toPy (.int x) :: toPys (l.map D.int) = _
    rw [toPys_ints l]
    rfl
theorem rowLt_ints : ∀ l m : List Int, PySem.W.rowLt (l.map PyData.int) (m.map PyData.int) = ltI l m
  | [], [] => PyProof.Rows.lex_irrefl _
  | [], y :: m => by
    unfold PySem.W.rowLt ltI
    rw [List.map_cons, PySem.W.toks_all_cons]
    rfl
  | x :: l, [] => by
    unfold PySem.W.rowLt ltI
    rw [List.map_cons, PySem.W.toks_all_cons]
    rfl
  | x :: l, y :: m => by
    have ih := rowLt_ints l m
    unfold PySem.W.rowLt at ih ⊢
    rw [List.map_cons, List.map_cons, PySem.W.dataLt_cons (by simp [PySem.W.alike]), PySem.W.dataLt_int, ih]
    have e : ltI (x :: l) (y :: m) = if x = y then ltI l m else decide (x < y) := rfl
    rw [e]
    by_cases h : x = y
    · simp [h, PyData.eqv]
    · simp [h, PyData.eqv]
theorem ltI_irr : ∀ l : List Int, ltI l l = false
  | [] => rfl
  | x :: l => by
    unfold ltI
    rw [if_pos rfl]
    exact ltI_irr l
theorem ltI_tri : ∀ l m : List Int, ltI m l = (!ltI l m && !decide (l = m))
  | [], [] => rfl
  | [], _ :: _ => rfl
  | _ :: _, [] => rfl
  | x :: l, y :: m => by
    have ih := ltI_tri l m
    have e1 : ltI (x :: l) (y :: m) = if x = y then ltI l m else decide (x < y) := rfl
    have e2 : ltI (y :: m) (x :: l) = if y = x then ltI m l else decide (y < x) := rfl
    rw [e1, e2]
    by_cases h : x = y
    · subst h
      simp only [if_true, ih, List.cons.injEq, true_and]
    · have h' : ¬ y = x := fun z => h z.symm
      simp only [h, h', if_false, List.cons.injEq, false_and, decide_false, Bool.not_false, Bool.and_true]
      by_cases h2 : x < y
      · simp [h2]; omega
      · simp [h2]; omega
end Y

namespace Y
open PySem L2 PyProof.Rows
/-! ### own errors with one field -/
/-- what their __init__ does -/
def spInit (K : PySem.W.Frag) (f : Str) : Sp := fun vs H Q _ => ∃ (a C : Addr) (v : V), vs = [.ref a, v] ∧ OexC K C ∧ PySem.W.findIn K (.ref C) f = some none ∧ H a = some (exo a C none) ∧ ∀ dx, H dx = none → dx ≠ a → Q .non (upd (upd H dx (exd dx [(f, v)])) a (exo a C (some dx)))
structure ErrC (P : Program) (w : World) (K : PySem.W.Frag) (mg : Str → Option Value) (base : Heap) (k : Nat) (x f : Str) (C : Addr) : Prop where
  g : mg x = some (.ref C)
  o : OexC K C
  xf : XfC K C
  no : PySem.W.findIn K (.ref C) f = some none
  ini : ∃ fI fd ps, PySem.W.findIn K (.ref C) "__init__" = some (some (.ref fI)) ∧ PySem.W.typeIn K (.ref fI) = some (.type "function") ∧ FnOk P w K mg base CX0 k fI fd ps (spInit K f) ∧ Binds K fd ps []
def raiseS (cls f : Str) (A : Loc → M (List W)) : Loc → M (Loc × Fl) := fun ρ => M.bnd (A ρ) fun x => match x with
  | [.d d] => fun s => .err ⟨cls, [(f, d)]⟩ s
  | _ => M.bad
section
variable {K : PySem.W.Frag} {mg : Str → Option Value} {E : XK}
theorem ps_raiseY {X : Cx} {k : Nat} {x f : Str} {C : Addr} {a : PySem.Expr} {ta : TA} {p pos pos2 : Pos} (R : ErrC X.prog X.w X.K X.mg X.base k x f C) (hc : X.calm = true) (tk : Takes X (fun c d _ H => E c d H)) (hr : Room (k + 1) X.A) (ha : PA X [a] ta) (hg : Gl X x)
    (hdb : (x == ("__debug__" : Str)) = false := by decide) (he : starEach (a :: []) X.env = (false, eval a X.env) :: starEach [] X.env := by rfl) (hpl : (backTo pos (starEach [] X.env)).any (·.1) = false := by rfl) :
    PS X (.Raise (some (.Call (.Name x p) [a] [] pos)) none pos2) (fun _ σ H => tMkO C (spInit X.K f) [] ta σ H fun c d H' => E c d H') := by
  obtain ⟨fI, fd, ps, h1, h2, h3, h4⟩ := R.ini
  exact ps_raise (W := fun c d _ H => E c d H) hc tk (pmk_oex R.o h1 h2 h3 hr h4 .nil (fun _ _ _ _ _ _ _ h => h.elim) hg R.g ha hdb he hpl)
theorem es_raise {P : Program} {w : World} {base : Heap} {k : Nat} {x f : Str} {C : Addr} {ta : TA} {A : Loc → M (List W)} (R : ErrC P w K mg base k x f C) (ha : EvA K mg E ta A) : EvS K mg E (fun _ σ H => tMkO C (spInit K f) [] ta σ H fun c d H' => E c d H') (raiseS x f A) := by
  intro σ ρ w ok r D h
  refine evA1 ha ok r h fun as vs w1 g1 ok1 r1 rv h1 => ?_
  split at h1
  · rename_i d
    obtain ⟨v, us, rfl, rv, e⟩ := rv
    obtain rfl : us = [] := e
    refine ⟨(by show 1 ≤ 1000; decide), fun a ha => ⟨a, C, v, rfl, R.o, R.no, upd_same, fun dx hdx hne => ⟨rfl, dx, [(f, v)], upd_same, ?_, ?_, ?_⟩⟩⟩
    · rw [upd_ne hne, upd_same]
    · rw [upd_ne hne] at hdx
      exact hdx
    · rw [upd_ne hne] at hdx
      have hH : upd (del (upd (upd (upd w1.H a (exo a C none)) dx (exd dx [(f, v)])) a (exo a C (some dx))) a) dx (.xd [(f, v)]) = upd w1.H dx (.xd [(f, v)]) := by
        funext b
        by_cases hb : b = dx
        · subst hb
          rw [upd_same, upd_same]
        · rw [upd_ne hb, upd_ne hb]
          by_cases hb2 : b = a
          · subst hb2
            rw [del_same, ha]
          · rw [del_ne hb2, upd_ne hb2, upd_ne hb, upd_ne hb2]
      rw [hH]
      have gl := gd_lay (o := .xd [(f, v)]) ok1 hdx
      exact h1 (.ref C) (some dx) _ gl ⟨C, dx, [(f, v)], R.g, rfl, rfl, upd_same, v, [], rfl, rv.nxt gl.stp.toNxt ok1, rfl⟩
  · exact h1.elim
theorem fn_promX {P : Program} {w : World} {K : PySem.W.Frag} {mg : Str → Option Value} {base : Heap} {x qual : Str} {st : Stmt} {f : Addr} {fd : FuncData} {N ps : List Str} {k n L : Nat} {S : Loc → M (Loc × Fl)} (m : Nat) (F : Fun K x qual st f fd) (Sc : FnScope N ps (defScope st)) (hn : ps.length = n) (hL : N.length = L) (hN : n ≤ L)
    (hb : ∀ (cdv : Value) (A : Around) (outer : List Env) (s : Shared) (H : Hp) (E : XK), Room k (A.deeper (envOfC qual (defScope st) s.heap.objs.size f cdv)) →
      ∃ ts, PSs (cxOf (L2.CX P w) P w K mg base N qual (defScope st) f cdv A outer s H E) (defBody st) ts ∧ EvS K mg E ts S) : FnOk P w K mg base (L2.CX P w) (k + 1) f fd ps (Prom K mg n (runD m L S)) := by
  subst hL
  refine F.okX Sc (fun vs H Q E h => by rw [hn]; exact h.len) (fun cdv A outer s H vs Q E hr h => ?_)
  obtain ⟨ts, h1, h2⟩ := hb cdv A outer s H E hr
  exact ⟨ts, h1, body_prom h2 hN h⟩
theorem own_mkX {P : Program} {w : World} {K : PySem.W.Frag} {mg : Str → Option Value} {base : Heap} {x qual : Str} {st : Stmt} {f : Addr} {fd : FuncData} {ps : List Str} {k n : Nat} {F : List W → M W} (O : FnOk P w K mg base (L2.CX P w) k f fd ps (Prom K mg n F)) (Fn : Fun K x qual st f fd) (b : Binds K fd ps []) (hm : mg x = some (.ref f)) :
    Own P w K mg base (L2.CX P w) k x n F := ⟨f, fd, ps, O, b, Fn.kp, hm⟩
/-- an own __init__ with one field -/
theorem ok_init {P : Program} {w : World} {K : PySem.W.Frag} {mg : Str → Option Value} {base : Heap} {qual : Str} {st : Stmt} {f : Addr} {fd : FuncData} {fl : Str} {p1 p2 p3 p4 : Pos} (F : Fun K "__init__" qual st f fd) (Sc : FnScope ["self", fl] ["self", fl] (defScope st))
    (hb : defBody st = [.Assign [.Attribute (.Name "self" p1) fl p2] (.Name fl p3) p4]) (hv : (defScope st).names.lookup ("self" : Str) = some .local) (hv2 : (defScope st).names.lookup fl = some .local) (hd : (fl == ("__debug__" : Str)) = false) (hcd : (fl == ("__classdict__" : Str)) = false) : FnOk P w K mg base CX0 1 f fd ["self", fl] (spInit K fl) := by
  refine F.ok Sc (fun vs H Q E h => ?_) (fun cdv A outer s H vs Q E hr h => ?_)
  · obtain ⟨a, C, v, rfl, _⟩ := h
    rfl
  · rw [hb]
    refine ⟨_, pss_cons (ps_ost (pe_var (i := 0) rfl (Or.inl hv)) (pe_var (i := 1) rfl (Or.inl hv2) hd hcd)) pss_nil, ?_⟩
    obtain ⟨a, C, v, rfl, hO, hno, hHa, hq⟩ := h
    exact ⟨v, rfl, .ref a, rfl, a, C, rfl, hO, hno, .inl ⟨hHa, fun dx h1 h2 => hq dx h1 h2⟩⟩
end
end Y

/-! ### isinstance of a caught error that has fields -/
namespace PySem.W
open PySem PySem.Spec PySem.Calls PyProof.Rows
/-- what is asked of the class -/
structure YEx (K : Frag) (D : Addr) : Prop where
  a1 : findIn K (.ref D) "__getattribute__" = some (some (.builtin "BaseException.__getattribute__"))
  a2 : findIn K (.ref D) "__getattr__" = some none
  a3 : subIn K (.ref D) (.type "BaseException") = some true
  a4 : hasDictIn K D = true
  a5 : findIn K (.ref D) "__class__" = some (some (.builtin "object.__class__"))
  a6 : specialIn K (.builtin "object.__class__") "__get__" = some (some (.builtin "getset_descriptor.__get__"))
  a7 : takesIn K (.builtin "object.__class__") = some true
  a8 : mroIn K D (.type "object") = some true
section
variable {p : Program} {v : World} {A : Around} {E : Value → Shared → Prop} {z : Shared} {K : Frag} {x D : Addr} {o1 : Obj} {od : Option Obj}
theorem yex_cls (F : YEx K D) : ∃ cd, clsIn K D = some cd := by
  obtain ⟨cd, hc, _⟩ := any_some F.a4
  exact ⟨cd, hc⟩
theorem yex_find (F : YEx K D) : findObj K D od "__class__" = some (.bind (.builtin "getset_descriptor.__get__") (.builtin "object.__class__")) := by
  obtain ⟨cd, hc⟩ := yex_cls F
  unfold findObj
  simp [hc, F.a5, F.a6, F.a7]
theorem yex_class {Q : Option Value → Shared → Prop} (F : YEx K D) (Z : K.In z.heap) (I : InstAt z.heap x o1 D od)
    (q : Q (some (.ref D)) { z with toks := z.toks + 1 }) : wpAny (model p v) A (getAttr? (.ref x) "__class__") Q E z := by
  have found := yex_find (od := od) F
  obtain ⟨hz, gz, dz, tz, oz⟩ := z
  have m0 := I.type (M := model p v)
  have m1 := looks_findIn (M := model p v) Z F.a1
  have m2 := looks_findIn (M := model p v) Z F.a2
  have m3 := looks_find (M := model p v) Z I found
  have isB : Looks (model p v) hz (isInstance (.ref x) (.type "BaseException")) true := m0.andThen (looks_subIn Z F.a3)
  have n0 : (false && onTheHeap (Value.builtin "BaseException.__getattribute__")) = false := rfl
  have n1 : (onTheHeap (Value.ref D) && Value.builtin "BaseException.__getattribute__" == Value.builtin "object.__getattribute__") = false := by
    have n2 : (Value.builtin "BaseException.__getattribute__" == Value.builtin "object.__getattribute__") = false := by decide +kernel
    rw [n2, Bool.and_false]
  unfold getAttr? getAttrBy? getAttrBy
  apply wpAny_bind
  apply wpAny_mkText
  apply wpAny_bind
  apply wpAny_attempt
  apply wpAny_holding
  apply wpAny_bind
  apply m0.at
  apply wpAny_bind
  apply m1.at
  show wpAny _ _ (if (onTheHeap (Value.ref D) && Value.builtin "BaseException.__getattribute__" == Value.builtin "object.__getattribute__") = true then _ else _) _ _ _
  rw [if_neg (by rw [n1]; exact Bool.false_ne_true)]
  unfold getAttrByItsOwn hookBefore
  apply wpAny_bind
  rw [if_pos (show onTheHeap (Value.ref D) = true from rfl)]
  apply m2.at
  apply wpAny_bind
  apply wpAny_attempt
  apply wpAny_holding
  unfold callGetattribute
  rw [if_neg (by rw [n0]; exact Bool.false_ne_true)]
  unfold boundAndCalled
  rw [PySem.F.excAttr_ValueError.ga.bind (.ref x)]
  apply wpAny_bind
  apply wpAny_pure
  show wpAny _ _ (call (.builtin "BaseException.__getattribute__") [.ref x, .str "__class__" tz]) _ _ _
  apply wpAny_call
  apply codeAny_call_builtin PySem.F.excAttr_ValueError.ga.plain PySem.F.entry_bexc_ga
  refine @check_slot (model p v) _ _ ⟨hz, gz, dz, tz + 1, oz⟩ "BaseException.__getattribute__" "BaseException" "__getattribute__" (.ref x) [.str "__class__" tz] [] _ (by decide +kernel) (by decide +kernel) isB (PySem.F.args_bexc_ga (.ref x) (.str "__class__" tz)) ?_
  unfold Builtin.«object.__getattribute__»
  apply wpAny_bind
  refine wpAny_of_eq (a := ((Value.ref x : Value), [Value.str "__class__" tz])) (by first | rfl | (simp only [slotArgs]; rfl)) ?_
  apply wpAny_bind
  apply wpAny_pure
  apply wpAny_bind
  apply m0.at
  apply wpAny_bind
  apply m3.at
  show wpAny _ _ (holding [Value.builtin "object.__class__"] (call (.builtin "getset_descriptor.__get__") [.builtin "object.__class__", .ref x, .ref D]) >>= ret) _ _ _
  apply wpAny_bind
  apply wpAny_holding
  apply wpAny_call
  refine class_get (s := ⟨hz, gz, dz, tz + 1, oz⟩) (ox := o1) (od := od) Z I F.a8 ?_
  apply wpAny_pure
  show wpAny _ _ (handedOut (.ref D)) _ _ _
  rw [handedOut_of (v := .ref D) rfl]
  first
    | exact wpAny_pure (wpAny_pure q)
    | exact wpAny_pure q
    | exact wpAny_pure (wpAny_bind (wpAny_pure (wpAny_pure q)))
theorem yex_kit (F : YEx K D) : KitX K (.ref x) (.ref D) (fun h => InstAt h x o1 D od) where
  ty := fun _ _ _ I => I.type
  it := fun _ _ Z _ => by
    obtain ⟨cd, hc⟩ := yex_cls F
    unfold clsIn at hc
    split at hc
    · rename_i ho
      intro A' Q' E' s' kk q
      unfold isType loadHead
      apply wpAny_bind
      exact wpAny_loadPart (kk _ _ (Z _ _ ho)) (wpAny_pure q)
    · cases hc
  ne := fun h tp dd its n sl Z ht => by
    obtain ⟨cd, hc⟩ := yex_cls F
    cases eq : (Value.ref D == Value.ref tp) with
    | false => rfl
    | true =>
      obtain rfl : D = tp := Value.ref.inj (beq_iff_eq.mp eq)
      unfold clsIn at hc
      split at hc
      · rename_i ho
        cases (Z _ _ ho).symm.trans ht
      · cases hc
  ca := fun Z I q => yex_class F Z I q
end
end PySem.W
namespace Y
open PySem L2 PyProof.Rows
/-- isinstance(e, c), e the caught error, its class D, its fields' dict at d -/
def rIsY (K : PySem.W.Frag) (cls : Value) (d : Option Addr) (a : Addr) : List V → Hp → VK → Prop := fun xs H Q => ∃ (D dd : Addr) (fs : List (Str × V)) (c : V) (cv : Value) (b : Bool), cls = .ref D ∧ d = some dd ∧ H dd = some (.xd fs) ∧ PySem.W.YEx K D ∧ xs = [.ref a, c] ∧ (∀ u, RelV c u → u = cv) ∧ PySem.W.kitOne K (.ref D) cv = some b ∧ Q (.bl b) H
theorem cr_isY {X : Cx} {a : Addr} {cls : Value} {d : Option Addr} {oe : Obj} {pn : List (Addr × Obj)} (hz : Zc cls d oe) (hf : ∃ vs, oe.data = .fields vs) : CallR (X.suite a ((a, oe) :: pn)) (.builtin "isinstance") (rIsY X.K cls d a) := by
  intro pins s σ H xs us Q I r h
  obtain ⟨D, dd, fs, c, cv, b, rfl, rfl, hdd, F, rfl, hcv, e, q⟩ := h
  cases r with
  | cons rx rr =>
    cases rr with
    | cons rt rr =>
      cases rr
      cases rx
      obtain rfl := hcv _ rt
      obtain ⟨hget, _⟩ := I.pin (a, oe) (List.mem_append_left _ List.mem_cons_self)
      obtain ⟨vs, hv⟩ := hf
      obtain ⟨mA, hns, _⟩ : ObjOk X.prog X.w H s.heap dd (.xd fs) := I.hok dd _ hdd
      obtain ⟨od, ho, _⟩ := lookIn_ns hns
      have J : PySem.W.InstAt s.heap a oe D (some od) := ⟨hget, hz.1, by unfold PySem.W.notCls; rw [hv] <;> rfl, by rw [hz.2]; exact ho⟩
      exact PySem.W.kia_one (PySem.W.yex_kit F) I.kIn J e (fun z => nomatch z) fun tk => ⟨.bl b, H, I.kept (t' := tk) fun _ _ z => z, rfl, q⟩
/-! ### try: one statement; except c as n: return a value of the error -/
def tryS (i : Nat) (S : Loc → M (Loc × Fl)) (tab : List Str) (hv : XC → Option D) : Loc → M (Loc × Fl) := fun ρ s => match S ρ s with
  | .ok r s' => .ok r s'
  | .err e s' => if tab.contains e.cls = true ∧ i < ρ.length then (match hv e with
      | some d => .ok (ρ, .rt (.d d)) s'
      | none => .bad) else .bad
  | .bad => .bad
section
variable {K : PySem.W.Frag} {mg : Str → Option Value} {E : XK}
/-- a body of a try: its readings by the way out -/
def EvB (K : PySem.W.Frag) (mg : Str → Option Value) (ts : WX → TS) (S : Loc → M (Loc × Fl)) : Prop :=
  ∀ (W : WX) σ ρ w, Ok K w → ROk K w σ ρ → ∀ D : Ends, (S ρ w.st).sat (PFl K w D) (EOk K mg (fun c d H => W c d σ H) w) → ts W D σ w.H
theorem eb_call {n : Nat} {F : List W → M W} {ta : TA} {A : Loc → M (List W)} (ha : ∀ E, EvA K mg E ta A) (W : WX) {σ : L2.St} {ρ : Loc} {w : Wd} (ok : Ok K w) (r : ROk K w σ ρ) (Q : VK) (h : (calL n F A ρ w.st).sat (PW K w Q) (EOk K mg (fun c d H => W c d σ H) w)) :
    tCallS (Prom K mg n F) (WE W) ta σ w.H Q := by
  refine evA1 (ha fun c d H => W c d σ H) ok r h fun as vs w1 g1 ok1 r1 rv h1 => ?_
  split at h1
  · rename_i hn
    exact ⟨as, w1, rfl, ok1, rv, hn, h1.mono (fun _ _ z => PW.of g1 z) fun _ _ z => z⟩
  · exact h1.elim
theorem eb_retC {n : Nat} {F : List W → M W} {ta : TA} {A : Loc → M (List W)} (ha : ∀ E, EvA K mg E ta A) : EvB K mg (fun W => tRet (tCallS (Prom K mg n F) (WE W) ta)) (retS (calL n F A)) := by
  intro W σ ρ w ok r D h
  refine eb_call ha W ok r _ ?_
  rw [v_retS] at h
  exact h.mono (fun _ _ z => z) fun _ _ z => z
theorem eb_expC {n : Nat} {F : List W → M W} {ta : TA} {A : Loc → M (List W)} (ha : ∀ E, EvA K mg E ta A) : EvB K mg (fun W => tDrop (tCallS (Prom K mg n F) (WE W) ta)) (expS (calL n F A)) := by
  intro W σ ρ w ok r D h
  refine eb_call ha W ok r _ ?_
  rw [v_exp] at h
  exact h.mono (fun x s' z v w' g rv => z σ w' g (r.nxt g.stp.toNxt ok)) fun _ _ z => z
theorem eb_if {tt : TT} {t u : WX → TS} {T : Loc → M Bool} {S U : Loc → M (Loc × Fl)} (ht : ∀ E, EvT K mg E tt T) (h1 : EvB K mg t S) (h2 : EvB K mg u U) : EvB K mg (fun W => tIfS tt (t W) (u W)) (ifS T S U) := by
  intro W σ ρ w ok r D h
  refine evT1 (ht fun c d H => W c d σ H) ok r h fun c w1 g1 ok1 r1 q => ?_
  cases c with
  | true => exact h1 W σ ρ w1 ok1 r1 D (q.mono (fun _ _ z => z.of g1) fun _ _ z => z)
  | false => exact h2 W σ ρ w1 ok1 r1 D (q.mono (fun _ _ z => z.of g1) fun _ _ z => z)
/-- a value of the caught error that changes nothing -/
def EvL (K : PySem.W.Frag) (mg : Str → Option Value) (i : Nat) (te : Addr → Value → Option Addr → TE) (g : XC → Option D) : Prop :=
  ∀ e x, g e = some x → ∀ σ w cc dd a, Ok K w → RepX K mg w e cc dd → σ[i]? = some (some (.ref a)) → ∀ Q : VK, (∀ v, Rep K w.H w.al x v → Q v w.H) → te a cc dd σ w.H Q
def fldX (cn f : Str) : XC → Option D := fun e => if e.cls = cn then e.fs.lookup f else none
def isiX (tab : List (Str × Bool)) : XC → Option D := fun e => (tab.lookup e.cls).map .bl
def lst2X (g h : XC → Option D) : XC → Option D := fun e => match g e, h e with
  | some x, some y => some (.lst [x, y])
  | _, _ => none
theorem repF_lookup {w : Wd} {f : Str} : ∀ {ds : List (Str × D)} {vs : List (Str × V)} {x : D}, RepF K w ds vs → ds.lookup f = some x → ∃ v, vs.lookup f = some v ∧ Rep K w.H w.al x v
  | [], _, _, _, h => by cases h
  | (g, d) :: ds, _, x, ⟨v, us, e, r, t⟩, h => by
    subst e
    rw [List.lookup_cons] at h ⊢
    cases hg : (f == g) with
    | true =>
      rw [hg] at h
      obtain rfl := Option.some.inj h
      exact ⟨v, rfl, r⟩
    | false =>
      rw [hg] at h
      exact repF_lookup t h
theorem el_fld {i : Nat} {cn f : Str} {C : Addr} (hC : mg cn = some (.ref C)) : EvL K mg i (fun a cc dd => tXf a cc dd C f (tVar i)) (fldX cn f) := by
  intro e x hx σ w cc dd a ok rx hσ Q hQ
  unfold fldX at hx
  split at hx
  · rename_i hc
    obtain ⟨C', p, fs, h1, rfl, rfl, h4, h5⟩ := rx
    rw [hc, hC] at h1
    obtain rfl : C = C' := Value.ref.inj (Option.some.inj h1)
    obtain ⟨v, hl, rv⟩ := repF_lookup h5 hx
    exact ⟨.ref a, hσ, rfl, rfl, p, fs, v, rfl, h4, hl, hQ v rv⟩
  · cases hx
theorem el_isi {i : Nat} {tab : List (Str × Bool)} {c : V} {cv : Value} (hcv : ∀ u, RelV c u → u = cv) (hy : ∀ x b, tab.lookup x = some b → ∀ C, mg x = some (.ref C) → PySem.W.YEx K C ∧ PySem.W.kitOne K (.ref C) cv = some b) :
    EvL K mg i (fun a cc dd => tCB (rIsY K cc dd a) (tCons (tVar i) (tCons (tC c) tNil))) (isiX tab) := by
  intro e x hx σ w cc dd a ok rx hσ Q hQ
  unfold isiX at hx
  rw [Option.map_eq_some_iff] at hx
  obtain ⟨b, hb, rfl⟩ := hx
  obtain ⟨C, p, fs, h1, rfl, rfl, h4, h5⟩ := rx
  obtain ⟨hY, hk⟩ := hy _ _ hb C h1
  exact ⟨.ref a, hσ, C, p, fs, c, cv, b, rfl, rfl, h4, hY, rfl, hcv, hk, hQ _ rfl⟩
/-- what a try's suite returns -/
def EvR (K : PySem.W.Frag) (mg : Str → Option Value) (i : Nat) (te : Addr → Value → Option Addr → TE) (g : XC → Option D) : Prop :=
  ∀ e x, g e = some x → ∀ σ w cc dd a, Ok K w → RepX K mg w e cc dd → σ[i]? = some (some (.ref a)) → ∀ Q : VK, PW K w Q (.d x) w.st → te a cc dd σ w.H Q
theorem er_lst2 {i : Nat} {t u : Addr → Value → Option Addr → TE} {g h : XC → Option D} (h1 : EvL K mg i t g) (h2 : EvL K mg i u h) : EvR K mg i (fun a cc dd => tLst (tCons (t a cc dd) (tCons (u a cc dd) tNil))) (lst2X g h) := by
  intro e x hx σ w cc dd a ok rx hσ Q hQ
  unfold lst2X at hx
  split at hx
  · rename_i x1 x2 e1 e2
    obtain rfl := Option.some.inj hx
    refine h1 e x1 e1 σ w cc dd a ok rx hσ _ fun v1 r1 => ?_
    refine h2 e x2 e2 σ w cc dd a ok rx hσ _ fun v2 r2 => ?_
    exact ⟨(by show 2 ≤ sizeLine; decide), pw_lst ok (ds := [x1, x2]) (vs := [v1, v2]) ⟨v1, _, rfl, r1, v2, _, rfl, r2, rfl⟩ hQ⟩
  · cases hx
theorem er_of {i : Nat} {t : Addr → Value → Option Addr → TE} {g : XC → Option D} (h : EvL K mg i t g) : EvR K mg i t g := fun e x hx σ w cc dd a ok rx hσ Q hQ =>
  h e x hx σ w cc dd a ok rx hσ Q fun v r => hQ v w (Gd.refl ok) r
theorem es_try {i : Nat} {tb : WX → TS} {S : Loc → M (Loc × Fl)} {te : Addr → Value → Option Addr → TE} {c : Value} {tab : List Str} {hv : XC → Option D} (hb : EvB K mg tb S)
    (ht : ∀ x, tab.contains x = true → ∀ C, mg x = some (.ref C) → PySem.W.exmOne K (.ref C) c = some true) (hh : EvR K mg i te hv) :
    EvS K mg E (fun D σ H => tb (wAs K c i (fun a cc dd => tRet (te a cc dd)) (fun _ _ _ _ => False) D) D σ H) (tryS i S tab hv) := by
  intro σ ρ w ok r D h
  refine hb _ σ ρ w ok r D ?_
  unfold tryS at h
  cases e : S ρ w.st with
  | ok r' s' =>
    rw [e] at h
    exact h
  | bad =>
    rw [e] at h
    exact h.elim
  | err x s' =>
    rw [e] at h
    intro cc dd w' g rx
    obtain ⟨C, p, fs, h1, rfl, rfl, h4, h5⟩ := id rx
    dsimp only at h
    split at h
    · rename_i hc
      split at h
      · rename_i d hd
        refine ⟨true, ht _ hc.1 C h1, fun _ a ha => ?_, fun z => by cases z⟩
        refine hh x d hd _ w' _ _ a g.ok rx (by rw [List.getElem?_set_self (by rw [r.1]; exact hc.2)]) _ fun v w'' g2 rv => ?_
        obtain rfl := g.st
        exact h v w'' (g.trans g2) rv
      · exact h.elim
    · exact h.elim
end
end Y
namespace Y
open PySem L2 PyProof.Rows
section
variable {K : PySem.W.Frag} {mg : Str → Option Value} {E : XK}
/-- a call of a def that may raise, where it does not -/
def calN (n : Nat) (F : List W → M W) (A : Loc → M (List W)) : Loc → M W := fun ρ => M.bnd (A ρ) fun as => if as.length = n then nox (F as) else M.bad
theorem ev_callN {n : Nat} {F : List W → M W} {ta : TA} {A : Loc → M (List W)} (ha : EvA K mg E ta A) : EvE K mg E (tCall (Prom K mg n F) [] (fun _ _ _ => False) ta) (calN n F A) := by
  intro σ ρ w ok r Q h
  refine evA1 ha ok r h fun as vs w1 g1 ok1 r1 rv h1 => ?_
  split at h1
  · rename_i hn
    exact ⟨as, w1, rfl, ok1, by rw [List.append_nil]; exact rv, hn, (nox_sat2.mp h1).mono (fun _ _ z => PW.of g1 z) fun _ _ z => z.elim⟩
  · exact h1.elim
theorem passN {X : Cx} : Passes (L2.CX X.prog X.w) X (fun _ _ _ => False) := passes_call takes0 fun _ _ _ _ h => h
theorem passX {X : Cx} {E : XK} (tk : Takes X (fun c d _ H => E c d H)) : Passes (L2.CX X.prog X.w) X E := passes_call tk fun _ _ _ _ h => h
theorem v_calN {n : Nat} {F : List W → M W} {A : Loc → M (List W)} {ρ : Loc} {s : Sto} {P : W → Sto → Prop} {E : XC → Sto → Prop} : (calN n F A ρ s).sat P E ↔ (A ρ s).sat (fun as s' => as.length = n ∧ (F as s').sat P NoE) E := by
  unfold calN
  rw [sat_bnd]
  refine iff_of_eq (congrArg (fun Z => (A ρ s).sat Z E) ?_)
  funext as s'
  by_cases h : as.length = n
  · rw [if_pos h]
    exact propext ⟨fun z => ⟨h, nox_sat2.mp z⟩, fun z => nox_sat2.mpr z.2⟩
  · rw [if_neg h]
    exact propext ⟨fun z => z.elim, fun z => absurd z.1 h⟩
/-- a call in a try -/
theorem pe_ownS {X : Cx} {k n : Nat} {x : Str} {F : List W → M W} {E : L2.St → XK} {p pos : Pos} {e : PySem.Expr} {es : List PySem.Expr} {t : TA} (O : Own X.prog X.w X.K X.mg X.base (L2.CX X.prog X.w) k x n F) (hr : Room k X.A) (hg : Gl X x) (hx : ∀ σ, PassesAt (L2.CX X.prog X.w) X σ (E σ))
    (ha : PA X (e :: es) t) (hdb : (x == ("__debug__" : Str)) = false := by decide) (he : starEach (e :: es) X.env = (false, eval e X.env) :: starEach es X.env := by rfl) (hpl : (backTo pos (starEach es X.env)).any (·.1) = false := by rfl) :
    PE X (.Call (.Name x p) (e :: es) [] pos) (tCallS (Prom X.K X.mg n F) E t) := by
  obtain ⟨f, fd, ps, G, b, hk, hm⟩ := O.ex
  exact pe_callS G hr hg hm hk b hx ha hdb he hpl
theorem relC (C : Addr) : ∀ u, RelV (.ref C) u → u = Value.ref C := fun u h => h
theorem relTy (n : String) : ∀ u, RelV (.ty n) u → u = Value.type n := fun u h => h
theorem tab_nil {R : Addr → Prop} : ∀ x, ([] : List Str).contains x = true → ∀ C, mg x = some (.ref C) → R C := fun x h => by cases h
theorem tab_cons {a : Str} {t : List Str} {C0 : Addr} {R : Addr → Prop} (hm : mg a = some (.ref C0)) (h : R C0) (ht : ∀ x, t.contains x = true → ∀ C, mg x = some (.ref C) → R C) : ∀ x, (a :: t).contains x = true → ∀ C, mg x = some (.ref C) → R C := fun x hx C hC => by
  rw [List.contains_cons, Bool.or_eq_true] at hx
  rcases hx with hx | hx
  · obtain rfl := eq_of_beq hx
    rw [hm] at hC
    obtain rfl : C0 = C := Value.ref.inj (Option.some.inj hC)
    exact h
  · exact ht x hx C hC
theorem lkp_nil {R : Addr → Bool → Prop} : ∀ x b, List.lookup x ([] : List (Str × Bool)) = some b → ∀ C, mg x = some (.ref C) → R C b := fun x b h => by cases h
theorem lkp_cons {a : Str} {b0 : Bool} {t : List (Str × Bool)} {C0 : Addr} {R : Addr → Bool → Prop} (hm : mg a = some (.ref C0)) (h : R C0 b0) (ht : ∀ x b, t.lookup x = some b → ∀ C, mg x = some (.ref C) → R C b) : ∀ x b, List.lookup x ((a, b0) :: t) = some b → ∀ C, mg x = some (.ref C) → R C b := fun x b hx C hC => by
  rw [List.lookup_cons] at hx
  cases e : (x == a) with
  | true =>
    rw [e] at hx
    obtain rfl := eq_of_beq e
    obtain rfl := Option.some.inj hx
    rw [hm] at hC
    obtain rfl : C0 = C := Value.ref.inj (Option.some.inj hC)
    exact h
  | false =>
    rw [e] at hx
    exact ht x b hx C hC
/-- the text of a class's own __init__ -/
def clsInit (s : Stmt) : Stmt := match s with
  | .ClassDef (body := b) .. => b.getD 0 (.Pass ⟨0, 0, 0, 0⟩)
  | _ => .Pass ⟨0, 0, 0, 0⟩
end
end Y

namespace Y
open PySem L2 PyProof.Rows
/-! ### max, min -/
def maxI : List Int → Int → Int
  | [], m => m
  | x :: l, m => maxI l (if m < x then x else m)
def minI : List Int → Int → Int
  | [], m => m
  | x :: l, m => minI l (if x < m then x else m)
theorem maxI_is : ∀ (l : List Int) (m : Int), (maxI l m = m ∨ maxI l m ∈ l) ∧ m ≤ maxI l m ∧ ∀ y ∈ l, y ≤ maxI l m
  | [], m => ⟨.inl rfl, Int.le_refl _, fun y hy => by cases hy⟩
  | x :: l, m => by
    unfold maxI
    obtain ⟨h1, h2, h3⟩ := maxI_is l (if m < x then x else m)
    by_cases h : m < x
    · rw [if_pos h] at h1 h2 h3 ⊢
      refine ⟨.inr ?_, by omega, fun y hy => ?_⟩
      · rcases h1 with h1 | h1
        · rw [h1]; exact List.mem_cons_self
        · exact List.mem_cons_of_mem _ h1
      · rcases List.mem_cons.mp hy with rfl | hy
        · exact h2
        · exact h3 y hy
    · rw [if_neg h] at h1 h2 h3 ⊢
      refine ⟨?_, h2, fun y hy => ?_⟩
      · rcases h1 with h1 | h1
        · exact .inl h1
        · exact .inr (List.mem_cons_of_mem _ h1)
      · rcases List.mem_cons.mp hy with rfl | hy
        · omega
        · exact h3 y hy
theorem minI_is : ∀ (l : List Int) (m : Int), (minI l m = m ∨ minI l m ∈ l) ∧ minI l m ≤ m ∧ ∀ y ∈ l, minI l m ≤ y
  | [], m => ⟨.inl rfl, Int.le_refl _, fun y hy => by cases hy⟩
  | x :: l, m => by
    unfold minI
    obtain ⟨h1, h2, h3⟩ := minI_is l (if x < m then x else m)
    by_cases h : x < m
    · rw [if_pos h] at h1 h2 h3 ⊢
      refine ⟨.inr ?_, by omega, fun y hy => ?_⟩
      · rcases h1 with h1 | h1
        · rw [h1]; exact List.mem_cons_self
        · exact List.mem_cons_of_mem _ h1
      · rcases List.mem_cons.mp hy with rfl | hy
        · exact h2
        · exact h3 y hy
    · rw [if_neg h] at h1 h2 h3 ⊢
      refine ⟨?_, h2, fun y hy => ?_⟩
      · rcases h1 with h1 | h1
        · exact .inl h1
        · exact .inr (List.mem_cons_of_mem _ h1)
      · rcases List.mem_cons.mp hy with rfl | hy
        · omega
        · exact h3 y hy
def hdI (g : List Int → Int → Int) (ds : List D) : Option D := match intsOf ds with
  | some (x :: l) => some (.int (g l x))
  | _ => none
def fMaxL := fOvr (hdI maxI)
def fMinL := fOvr (hdI minI)
def fMax2 : Sto → List W → Option W := fun _ xs => match xs with
  | [.d (.int i), .d (.int j)] => some (.d (.int (if j > i then j else i)))
  | _ => none
def fMin2 : Sto → List W → Option W := fun _ xs => match xs with
  | [.d (.int i), .d (.int j)] => some (.d (.int (if j < i then j else i)))
  | _ => none
section
variable {K : PySem.W.Frag} {mg : Str → Option Value} {E : XK} {w : Wd}
theorem sem_maxL : SemRL K (rMax K) (optL fMaxL) := semL fun w a x z ok ra h Q q => by
  obtain ⟨p, us, ds, d, rfl, hs, r, e, rfl⟩ := fOvr_some ok ra h
  unfold hdI at e
  split at e
  · rename_i x l e2
    cases e
    rw [rep_ints r e2] at hs
    refine ⟨p, x :: l, rfl, hs, by simp, fun m hm hall => ?_⟩
    obtain ⟨h1, h2, h3⟩ := maxI_is l x
    have hmem : maxI l x ∈ x :: l := by
      rcases h1 with h1 | h1
      · rw [h1]; exact List.mem_cons_self
      · exact List.mem_cons_of_mem _ h1
    have hm2 : m ≤ maxI l x := by
      rcases List.mem_cons.mp hm with rfl | hm
      · exact h2
      · exact h3 m hm
    have e3 : maxI l x = m := Int.le_antisymm (hall _ hmem) hm2
    rw [← e3]
    exact pw_d (d := .int _) ok rfl q
  · cases e
theorem sem_minL : SemRL K (rMin K) (optL fMinL) := semL fun w a x z ok ra h Q q => by
  obtain ⟨p, us, ds, d, rfl, hs, r, e, rfl⟩ := fOvr_some ok ra h
  unfold hdI at e
  split at e
  · rename_i x l e2
    cases e
    rw [rep_ints r e2] at hs
    refine ⟨p, x :: l, rfl, hs, by simp, fun m hm hall => ?_⟩
    obtain ⟨h1, h2, h3⟩ := minI_is l x
    have hmem : minI l x ∈ x :: l := by
      rcases h1 with h1 | h1
      · rw [h1]; exact List.mem_cons_self
      · exact List.mem_cons_of_mem _ h1
    have hm2 : minI l x ≤ m := by
      rcases List.mem_cons.mp hm with rfl | hm
      · exact h2
      · exact h3 m hm
    have e3 : minI l x = m := Int.le_antisymm hm2 (hall _ hmem)
    rw [← e3]
    exact pw_d (d := .int _) ok rfl q
  · cases e
def rMx2 (g : Int → Int → Int) : List V → Hp → VK → Prop := fun xs H Q => ∃ i j, xs = [.int i, .int j] ∧ Q (.int (g i j)) H
theorem cr_max2 {X : Cx} (hc : X.calm = true) : CallR X (.builtin "max") (rMx2 fun i j => if j > i then j else i) := call_max2 hc
theorem cr_min2 {X : Cx} (hc : X.calm = true) : CallR X (.builtin "min") (rMx2 fun i j => if j < i then j else i) := call_min2 hc
theorem sem_max2 : SemRL K (rMx2 fun i j => if j > i then j else i) (optL fMax2) := semL fun w a x z ok ra h Q q => by
  unfold fMax2 at h
  split at h
  · rename_i i j
    cases h
    obtain ⟨v, us, rfl, r1, v2, us2, rfl, r2, e⟩ := ra
    obtain rfl : us2 = [] := e
    obtain rfl : v = .int i := r1
    obtain rfl : v2 = .int j := r2
    exact ⟨i, j, rfl, pw_d (d := .int _) ok rfl q⟩
  · cases h
theorem sem_min2 : SemRL K (rMx2 fun i j => if j < i then j else i) (optL fMin2) := semL fun w a x z ok ra h Q q => by
  unfold fMin2 at h
  split at h
  · rename_i i j
    cases h
    obtain ⟨v, us, rfl, r1, v2, us2, rfl, r2, e⟩ := ra
    obtain rfl : us2 = [] := e
    obtain rfl : v = .int i := r1
    obtain rfl : v2 = .int j := r2
    exact ⟨i, j, rfl, pw_d (d := .int _) ok rfl q⟩
  · cases h
/-! ### tuple.index, ints -/
theorem flats_int (l : List Int) : (l.map V.int).all flatV = true := by
  rw [List.all_eq_true]
  intro v hv
  obtain ⟨i, _, rfl⟩ := List.mem_map.mp hv
  rfl
def rTix (K : PySem.W.Frag) : V → List V → Hp → VK → Prop := fun x xs H Q => ∃ (p : Addr) (ys : List Int) (z : Int) (j : Nat), x = .ref p ∧ xs = [.int z] ∧ SqT K H p (ys.map V.int) ∧ ys[j]? = some z ∧ (∀ m, m < j → ys[m]? ≠ some z) ∧ Q (.int (j : Nat)) H
theorem mt_tix {X : Cx} : MtR X "tuple.index" (rTix X.K) := by
  intro pins s σ H x xs v us Q I rx rs h
  obtain ⟨p, ys, z, j, rfl, rfl, hT, hy, hno, q⟩ := h
  cases rx
  obtain ⟨u, rfl, t, rfl⟩ := vals1 rs
  obtain ⟨its, r, ⟨⟨c0, d0, dat0, sl0⟩, ho, hc, n, hd⟩, hz⟩ := I.tuple hT
  dsimp only at hc hd
  subst hc hd
  have hsz : its.toArray.size = ys.length := by
    have := r.length
    rw [List.length_map] at this
    rw [List.size_toArray, this]
  have get : ∀ (m : Nat) (hm : m < its.toArray.size), ∃ y t', ys[m]? = some y ∧ its.toArray[m] = Value.int y t' := fun m hm => by
    have hm2 : m < ys.length := hsz ▸ hm
    obtain ⟨a, ha, t', ht⟩ := r.get (i := m) (x := .int ys[m]) (by simp [hm2])
    obtain ⟨hm3, e3⟩ := List.getElem?_eq_some_iff.mp ha
    exact ⟨ys[m], t', List.getElem?_eq_getElem hm2, by rw [← ht, ← e3]; simp⟩
  have hjs : j < its.toArray.size := by
    rw [hsz]
    exact (List.getElem?_eq_some_iff.mp hy).1
  have hit : eqU (.int z) its.toArray[j] = true := by
    obtain ⟨y, t', e1, e2⟩ := get j hjs
    rw [hy] at e1
    obtain rfl := Option.some.inj e1
    rw [e2]
    show (z == z) = true
    exact beq_self_eq_true z
  have miss : ∀ m (hm : m < its.toArray.size), m < j → eqU (.int z) its.toArray[m] = false := fun m hm hmj => by
    obtain ⟨y, t', e1, e2⟩ := get m hm
    have hne : y ≠ z := fun e => hno m hmj (by rw [e1, e])
    rw [e2]
    show (y == z) = false
    exact beq_eq_false_iff_ne.mpr hne
  exact call_meets PySem.F.slot_tuple_index ⟨_, ho, rfl⟩ PySem.F.entry_tuple_index (PySem.F.args_tuple_index_2 _ _) (_root_.TI.tuple_indexAt p its.toArray n d0 sl0 (.int z t) (eqU (.int z)) j hjs hit miss)
    ⟨ho, fun a ha => mem_eqAt (x := .int z) ⟨t, rfl⟩ rfl r (flats_int ys) a (by simpa using ha), ⟨.int (j : Nat), H, I.tok _, ⟨_, rfl⟩, q⟩⟩
end
end Y
namespace Y
open PySem L2 PyProof.Rows
section
variable {K : PySem.W.Frag} {mg : Str → Option Value} {E : XK} {w : Wd}
def tixI (z : Int) : List Int → Nat → Option Nat
  | [], _ => none
  | y :: l, k => if y = z then some k else tixI z l (k + 1)
theorem tixI_is {z : Int} : ∀ {l : List Int} {k j : Nat}, tixI z l k = some j → k ≤ j ∧ l[j - k]? = some z ∧ ∀ m, m < j - k → l[m]? ≠ some z
  | [], _, _, h => by cases h
  | y :: l, k, j, h => by
    unfold tixI at h
    split at h
    · rename_i e
      cases h
      refine ⟨Nat.le_refl _, by rw [Nat.sub_self, e]; rfl, fun m hm => by omega⟩
    · rename_i e
      obtain ⟨h1, h2, h3⟩ := tixI_is h
      refine ⟨by omega, by rw [show j - k = (j - (k + 1)) + 1 by omega]; exact h2, fun m hm => ?_⟩
      cases m with
      | zero => exact fun q => e (Option.some.inj q)
      | succ m => exact h3 m (by omega)
def gTix (x : W) (as : List W) : M W := fun s => match x, as with
  | .d (.tux ds), [.d (.int z)] => (match intsOf ds with
    | some ys => (match tixI z ys 0 with
      | some j => .ok (.d (.int (j : Nat))) s
      | none => .bad)
    | none => .bad)
  | _, _ => .bad
def opT (F : Loc → M W) (A : Loc → M (List W)) : Loc → M W := fun ρ => M.bnd (F ρ) fun x => match x with
  | .d (.tux ds) => M.bnd (A ρ) fun as => gTix (.d (.tux ds)) as
  | _ => M.bad
/-- t.index(x), t a tuple that is known to have no dict -/
def tTix (K : PySem.W.Frag) (to : TE) (t : TA) : TE := fun σ H Q => to σ H fun x H1 => (∃ a o vs, x = .ref a ∧ H1 a = some (.frz o (.tup vs)) ∧ o.dict = none) ∧ t σ H1 fun xs H2 => rTix K x xs H2 Q
theorem pe_tix {X : Cx} {q e1 : PySem.Expr} {to : TE} {t : TA} {pa pc : Pos} (ho : PE X q to) (ha : PA X [e1] t) (hb : attributeBase q "index" X.env (eval q X.env) = eval q X.env := by rfl)
    (hf : ((backTo pc (starEach [e1] X.env)).all (fun x => !x.1) && (backToKw pc (keywordEach [] X.env)).all (fun x => x.1.isSome) && decide (([e1] : List PySem.Expr).length + ([] : List Keyword).length + (if ([] : List Keyword).isEmpty then 0 else 1) < 30)) = true := by rfl)
    (hl : (pa.endLine == pc.line) = true := by rfl) (h1 : starEach [e1] X.env = (false, eval e1 X.env) :: starEach [] X.env := by rfl) (h2 : (backTo pc (starEach [] X.env)).any (·.1) = false := by rfl) :
    PE X (.Call (.Attribute q "index" pa) [e1] [] pc) (tTix X.K to t) := by
  refine ⟨fun pins s σ H Q I h => ?_⟩
  refine wpAny_Call_method_late hb hf hl rfl (thn (ho.run pins s σ H _ I h) fun v s1 hh => ?_)
  obtain ⟨x, H1, I1, r1, ⟨a, o, vs, rfl, hH, hd⟩, q1⟩ := hh
  obtain rfl : v = Value.ref a := r1
  obtain ⟨hg, _, its, _, o', hg', hc, n, hdat⟩ : ObjOk X.prog X.w H1 s1.heap a (.frz o (.tup vs)) := I1.hok a _ hH
  obtain rfl : o = o' := Option.some.inj (hg.symm.trans hg')
  refine ⟨"tuple", "tuple.index", PySem.F.plainAttrs_tuple, PySem.F.slot_tuple_index, PySem.F.type_tuple_index, ⟨o, hg, hc⟩, fun b e => ?_, ?_⟩
  · cases e
    exact ⟨o, hg, hd⟩
  · have hA := ha.run pc pins s1 σ H1 _ I1 q1
    rw [h1] at hA ⊢
    refine Calls.callWith_builtin (by show (false || (backTo pc (starEach [] X.env)).any (·.1)) = false; rw [h2] <;> rfl) (Calls.evalArgs_plain (thn hA fun us s2 hh2 => ?_))
    obtain ⟨xs, H2, I2, r2, q2⟩ := hh2
    exact mt_tix pins s2 σ H2 (.ref a) xs (.ref a) us Q I2 rfl r2 q2
theorem ev_tix {to : TE} {ta : TA} {F : Loc → M W} {A : Loc → M (List W)} (ho : EvE K mg E to F) (ha : EvA K mg E ta A) : EvE K mg E (tTix K to ta) (opT F A) := by
  intro σ ρ w ok ro Q h
  refine ev1 ho ok ro h fun x v w1 g1 ok1 r1 rv h1 => ?_
  split at h1
  case h_2 => exact h1.elim
  rename_i ds
  obtain ⟨a, us, rfl, ⟨o, hH, hd⟩, rl⟩ := id rv
  refine ⟨⟨a, o, us, rfl, hH, hd⟩, evA1 ha ok1 r1 h1 fun as vs w2 g2 ok2 r2 rvs h2 => ?_⟩
  obtain ⟨a2, us2, ea, hT, rl2⟩ := rv.nxt g2.stp.toNxt ok1
  obtain rfl : a = a2 := V.ref.inj ea
  unfold gTix at h2
  split at h2
  · rename_i ds' z e0
    obtain rfl : ds = ds' := D.tux.inj (W.d.inj e0)
    split at h2
    · rename_i ys e
      split at h2
      · rename_i j ej
        obtain ⟨k1, k2, k3⟩ := tixI_is ej
        obtain ⟨v, us3, rfl, r3, e3⟩ := rvs
        obtain rfl : us3 = [] := e3
        obtain rfl : v = .int z := r3
        have hS := tux_sq (K := K) hT
        rw [rep_ints rl2 e] at hS
        exact ⟨a, ys, z, j, rfl, rfl, hS, k2, k3, h2 (.int (j : Nat)) w2 (g1.trans g2) rfl⟩
      · exact h2.elim
    · exact h2.elim
  · exact h2.elim
end
end Y
namespace Y
open PySem L2 PyProof.Rows
/-! ### tuple(xs), xs a list, where the new tuple is known to have no dict -/
def rTux (K : PySem.W.Frag) : List V → Hp → VK → Prop := fun xs H Q => ∃ p ys, xs = [.ref p] ∧ SqL K H p ys ∧ ∀ l o, H l = none → o.dict = none → Q (.ref l) (upd H l (.frz o (.tup ys)))
theorem cr_tux {X : Cx} : CallR X (.type "tuple") (rTux X.K) := by
  intro pins s σ H xs us Q I r h
  obtain ⟨p, ys, rfl, hq, q⟩ := h
  obtain ⟨u, rfl, rx⟩ := vals1 r
  cases rx
  obtain ⟨its, rv, pl, hz⟩ := I.list hq
  have hlen := rv.length
  refine call_tuple_list pl.isList (fun h' kp => ?_) (by rw [List.size_toArray]; omega)
  have I1 : Inv X pins σ H { s with heap := h' } := I.kept (t' := s.toks) kp
  let o : Obj := { cls := .type "tuple", data := .seq its.toArray }
  have ob : ObjOk X.prog X.w (upd H h'.objs.size (.frz o (.tup ys))) (h'.push o) h'.objs.size (.frz o (.tup ys)) := ⟨Heap.get?_push_size _ rfl, hz, its, rv, IsTup.new _ _⟩
  have I2 : Inv X pins σ (upd H h'.objs.size (.frz o (.tup ys))) { s with heap := h'.push o } := I1.laid (t' := s.toks) (fun b o e => Heap.get?_push_of_some _ e) (Nat.le_refl _) ob
  exact ⟨.ref h'.objs.size, _, I2, rfl, q _ o (I1.hok.fresh (Nat.le_refl _)) rfl⟩
def fTux : Sto → List W → Option W := fun s xs => match xs with
  | [a] => ((vw s a).bind lstOf).map fun ds => .d (.tux ds)
  | _ => none
section
variable {K : PySem.W.Frag} {mg : Str → Option Value} {E : XK} {w : Wd}
theorem sem_tux : SemRL K (rTux K) (optL fTux) := semL fun w a x z ok ra h Q q => by
  unfold fTux at h
  split at h
  · rename_i y
    obtain ⟨v, rfl, rv⟩ := ra.one
    cases e1 : vw w.st y with
    | none => rw [e1] at h; cases h
    | some d =>
      rw [e1] at h
      cases e2 : lstOf d with
      | none => simp [e2] at h
      | some ds =>
        simp [e2] at h
        subst h
        obtain ⟨p, us, rfl, hs, r⟩ := rd_sqL ok e1 (lstOf_is e2) rv
        refine ⟨p, us, rfl, hs, fun l o hl ho => ?_⟩
        have g := gd_lay (o := .frz o (.tup us)) ok hl
        exact q _ _ g ⟨l, us, rfl, ⟨o, upd_same, ho⟩, RepL.nxt g.stp.toNxt ok r⟩
  · cases h
theorem o_tux {ds : List D} {s : Sto} : optL fTux [.d (.lst ds)] s = .ok (.d (.tux ds)) s := rfl
end
end Y

namespace Y
open PySem L2 PyProof.Rows
/-! ### min and max of data -/
mutual
def noL : D → Bool
  | .lst _ => false
  | .frz _ => false
  | .tux _ => false
  | .tup ds => noLs ds
  | _ => true
def noLs : List D → Bool
  | [] => true
  | d :: ds => noL d && noLs ds
end
mutual
theorem toPy_inj : ∀ {d e : D}, noL d = true → noL e = true → toPy d = toPy e → d = e
  | .non, e, _, h2, h => by cases e <;> first | rfl | cases h | cases h2
  | .bl b, e, _, h2, h => by cases e <;> first | (cases h; rfl) | cases h | cases h2
  | .int b, e, _, h2, h => by cases e <;> first | (cases h; rfl) | cases h | cases h2
  | .str b, e, _, h2, h => by cases e <;> first | (cases h; rfl) | cases h | cases h2
  | .lst _, e, h1, _, _ => by cases h1
  | .frz _, e, h1, _, _ => by cases h1
  | .tux _, e, h1, _, _ => by cases h1
  | .tup ds, e, h1, h2, h => by
    cases e with
    | tup es =>
      have h1 : noLs ds = true := h1
      have h2 : noLs es = true := h2
      have h : PyData.tuple (toPys ds) = PyData.tuple (toPys es) := h
      injection h with h
      rw [toPys_inj h1 h2 h]
    | lst _ => cases h2
    | frz _ => cases h2
    | tux _ => cases h2
    | _ => cases h
theorem toPys_inj : ∀ {ds es : List D}, noLs ds = true → noLs es = true → toPys ds = toPys es → ds = es
  | [], [], _, _, _ => rfl
  | [], _ :: _, _, _, h => by cases h
  | _ :: _, [], _, _, h => by cases h
  | d :: ds, e :: es, h1, h2, h => by
    have h1 : (noL d && noLs ds) = true := h1
    have h2 : (noL e && noLs es) = true := h2
    rw [Bool.and_eq_true] at h1 h2
    have h : toPy d :: toPys ds = toPy e :: toPys es := h
    injection h with ha hb
    rw [toPy_inj h1.1 h2.1 ha, toPys_inj h1.2 h2.2 hb]
end
/-- the first least one (lt y a), the first greatest one (lt a y) -/
def bestD (mx : Bool) (x : D) (xs : List D) : D := xs.foldl (fun a y => if (if mx then ltD a y else ltD y a) = true then y else a) x
theorem bestD_mem (mx : Bool) : ∀ (xs : List D) (x : D), bestD mx x xs ∈ x :: xs
  | [], x => List.mem_singleton.mpr rfl
  | y :: xs, x => by
    have h := bestD_mem mx xs (if (if mx then ltD x y else ltD y x) = true then y else x)
    show bestD mx (if (if mx then ltD x y else ltD y x) = true then y else x) xs ∈ x :: y :: xs
    rcases List.mem_cons.mp h with h | h
    · rw [h]
      by_cases q : (if mx then ltD x y else ltD y x) = true
      · rw [if_pos q]
        exact List.mem_cons_of_mem _ List.mem_cons_self
      · rw [if_neg q]
        exact List.mem_cons_self
    · exact List.mem_cons_of_mem _ (List.mem_cons_of_mem _ h)
theorem bestD_py (mx : Bool) : ∀ (xs : List D) (x : D), toPy (bestD mx x xs) = (if mx then PySem.W.maxD (toPy x) (xs.map toPy) else PySem.W.minD (toPy x) (xs.map toPy))
  | [], x => by cases mx <;> rfl
  | y :: xs, x => by
    have h := bestD_py mx xs (if (if mx then ltD x y else ltD y x) = true then y else x)
    show toPy (bestD mx (if (if mx then ltD x y else ltD y x) = true then y else x) xs) = _
    rw [h]
    cases mx with
    | true =>
      show PySem.W.maxD (toPy (if ltD x y = true then y else x)) _ = PySem.W.maxD (toPy x) (toPy y :: xs.map toPy)
      unfold PySem.W.maxD
      rw [List.foldl_cons]
      unfold ltD
      by_cases q : PySem.W.dataLt (toPy x) (toPy y) = true
      · rw [if_pos q, if_pos q]
      · rw [if_neg q, if_neg q]
    | false =>
      show PySem.W.minD (toPy (if ltD y x = true then y else x)) _ = PySem.W.minD (toPy x) (toPy y :: xs.map toPy)
      unfold PySem.W.minD
      rw [List.foldl_cons]
      unfold ltD
      by_cases q : PySem.W.dataLt (toPy y) (toPy x) = true
      · rw [if_pos q, if_pos q]
      · rw [if_neg q, if_neg q]
def OkBest (ds : List D) : Prop := (∀ d ∈ ds, noL d = true ∧ isNon (.d d) = false ∧ (toPy d).depth ≤ 50) ∧ ∀ d ∈ ds, ∀ e ∈ ds, PySem.W.alike (toPy d) (toPy e) = true
theorem toPys_map : ∀ ds : List D, toPys ds = ds.map toPy
  | [] => rfl
  | d :: ds => by
    show toPy d :: toPys ds = _
    rw [toPys_map ds]
    rfl
theorem depthAll_le {n : Nat} : ∀ {xs : List PyData}, (∀ x ∈ xs, x.depth ≤ n) → PyData.depthAll xs ≤ n
  | [], _ => by simp [PyData.depthAll]
  | x :: xs, h => by
    simp only [PyData.depthAll]
    exact Nat.max_le.mpr ⟨h x List.mem_cons_self, depthAll_le fun y hy => h y (List.mem_cons_of_mem _ hy)⟩
def rBest (K : PySem.W.Frag) (mx : Bool) : List V → Hp → VK → Prop := fun vs H Q => ∃ (a : Addr) (us : List V) (x : D) (ds : List D), vs = [.ref a] ∧ (SqL K H a us ∨ SqT K H a us) ∧ DpAll K H us (toPys (x :: ds)) ∧ OkBest (x :: ds) ∧
  ∀ (i : Nat) u, us[i]? = some u → (x :: ds)[i]? = some (bestD mx x ds) → Q u H
theorem cr_best {X : Cx} {mx : Bool} (hc : X.calm = true) (hu : X.A.units + 64 < cLine) : CallR X (.builtin (if mx then "max" else "min")) (rBest X.K mx) := by
  intro pins s σ H vs us Q I r h
  obtain ⟨a, ys, x, ds, rfl, hs, hdp, ⟨ok1, ok2⟩, q⟩ := h
  rw [Vals.ref1 r]
  have hal : PySem.W.AlikeAll (toPy x :: ds.map toPy) := by
    have e : toPy x :: ds.map toPy = (x :: ds).map toPy := rfl
    rw [e]
    refine ⟨fun d hd e he => ?_, fun d hd => ?_⟩
    · obtain ⟨d', hd', rfl⟩ := List.mem_map.mp hd
      obtain ⟨e', he', rfl⟩ := List.mem_map.mp he
      exact ok2 d' hd' e' he'
    · obtain ⟨d', hd', rfl⟩ := List.mem_map.mp hd
      exact ne_non (ok1 d' hd').2.1
  have hdep : X.A.units + 1 + PyData.depthAll (toPy x :: ds.map toPy) < cLine := by
    have : PyData.depthAll (toPy x :: ds.map toPy) ≤ 50 := depthAll_le fun d hd => by
      have hd : d ∈ (x :: ds).map toPy := hd
      obtain ⟨d', hd', rfl⟩ := List.mem_map.mp hd
      exact (ok1 d' hd').2.2
    omega
  have key : ∀ (its : List Value) (as : List Addr), Vals ys its → ReadsAll s.heap its (toPy x :: ds.map toPy) as → ∀ (i : Nat) v h' tk bs, its.toArray[i]? = some v → Reads h' v (if mx then PySem.W.maxD (toPy x) (ds.map toPy) else PySem.W.minD (toPy x) (ds.map toPy)) bs → (∀ b o, s.heap.get? b = some o → h'.get? b = some o) → EP X pins σ Q v { s with heap := h', toks := tk } := by
    intro its as rv hr i v h' tk bs hi hv k
    have hi : its[i]? = some v := by simpa using hi
    obtain ⟨cs, hvi, hlt, _, _⟩ := PySem.W.readsAll_at hr i v hi
    have hlt' : i < (x :: ds).length := by simpa using hlt
    have e1 : (toPy x :: ds.map toPy).getD i .none = toPy (x :: ds)[i] := by
      have : (toPy x :: ds.map toPy) = (x :: ds).map toPy := rfl
      rw [this, List.getD, List.getElem?_map, List.getElem?_eq_getElem hlt']
      rfl
    rw [e1] at hvi
    have e2 := (Reads.unique (PySem.W.reads_keeps k hvi) _ _ hv).1
    rw [← bestD_py mx ds x] at e2
    have hm := bestD_mem mx ds x
    have e3 := toPy_inj (ok1 _ (List.getElem_mem hlt')).1 (ok1 _ hm).1 e2
    have hyl : i < ys.length := by
      have h1 := rv.length
      have h2 := (List.getElem?_eq_some_iff.mp hi).1
      omega
    obtain ⟨u, hu', ru⟩ := rv.get (i := i) (x := ys[i]) (by simp [hyl])
    rw [hi] at hu'
    obtain rfl := Option.some.inj hu'
    exact ⟨ys[i], H, I.kept k, ru, q i ys[i] (by simp [hyl]) (by rw [← e3]; simp [hlt'])⟩
  have e0 : toPys (x :: ds) = toPy x :: ds.map toPy := toPys_map (x :: ds)
  rw [e0] at hdp
  rcases hs with hs | hs
  · obtain ⟨its, rv, hl, _⟩ := I.list hs
    obtain ⟨as, hr⟩ := Dp.readsAll I _ _ _ hdp rv
    cases mx with
    | true => exact PySem.W.max_list_data (I.ok.hd hc) hl.isList (show ReadsAll s.heap its.toArray.toList _ as from hr) hal hdep (key its as rv hr)
    | false => exact PySem.W.min_list_data (I.ok.hd hc) hl.isList (show ReadsAll s.heap its.toArray.toList _ as from hr) hal hdep (key its as rv hr)
  · obtain ⟨its, rv, hl, _⟩ := I.tuple hs
    obtain ⟨as, hr⟩ := Dp.readsAll I _ _ _ hdp rv
    cases mx with
    | true => exact PySem.W.max_tuple_data (I.ok.hd hc) hl (show ReadsAll s.heap its.toArray.toList _ as from hr) hal hdep (key its as rv hr)
    | false => exact PySem.W.min_tuple_data (I.ok.hd hc) hl (show ReadsAll s.heap its.toArray.toList _ as from hr) hal hdep (key its as rv hr)
open Classical in
noncomputable def fBest (mx : Bool) : Sto → List W → Option W := fun s xs => match xs with
  | [a] => (match (vw s a).bind seqOf with
    | some (x :: ds) => if OkBest (x :: ds) then some (.d (bestD mx x ds)) else none
    | _ => none)
  | _ => none
section
variable {K : PySem.W.Frag} {mg : Str → Option Value} {E : XK} {w : Wd}
theorem repL_at {H : Hp} {al : Addr → Prop} : ∀ {ds : List D} {us : List V} {i : Nat} {d : D} {u : V}, RepL K H al ds us → ds[i]? = some d → us[i]? = some u → Rep K H al d u
  | [], _, _, _, _, _, h, _ => by simp at h
  | d :: ds, _, i, _, _, ⟨v, vs, e, r, t⟩, h1, h2 => by
    subst e
    cases i with
    | zero =>
      simp at h1 h2
      subst h1 h2
      exact r
    | succ i => exact repL_at t (by simpa using h1) (by simpa using h2)
theorem sem_best {mx : Bool} : SemRL K (rBest K mx) (optL (fBest mx)) := semL fun w a x z ok ra h Q q => by
  unfold fBest at h
  split at h
  · rename_i y
    obtain ⟨v, rfl, rv⟩ := ra.one
    split at h
    · rename_i x0 ds e
      split at h
      · rename_i hc
        cases h
        obtain ⟨d, e1, e2⟩ := bind_seq e
        obtain ⟨p, vs, rfl, hs, r⟩ := rd_seq ok e1 e2 rv
        exact ⟨p, vs, x0, ds, rfl, hs, rep_dps _ _ r, hc, fun i u h1 h2 => pw_d ok (repL_at r h2 h1) q⟩
      · cases h
    · cases h
  · cases h
theorem o_best {mx : Bool} {d x : D} {ds : List D} {s : Sto} (hd : seqOf d = some (x :: ds)) (hc : OkBest (x :: ds)) : optL (fBest mx) [.d d] s = .ok (.d (bestD mx x ds)) s := by
  unfold optL fBest
  simp only [vw, Option.bind_some, hd]
  rw [if_pos hc]
end
theorem noL_int (l : List Int) : ∀ d ∈ l.map D.int, noL d = true ∧ isNon (.d d) = false ∧ (toPy d).depth ≤ 50 := fun d hd => by
  obtain ⟨i, _, rfl⟩ := List.mem_map.mp hd
  exact ⟨rfl, rfl, by simp [toPy, PyData.depth]⟩
theorem okBest_ints (l : List Int) : OkBest (l.map D.int) := ⟨noL_int l, fun d hd e he => by
  obtain ⟨i, _, rfl⟩ := List.mem_map.mp hd
  obtain ⟨j, _, rfl⟩ := List.mem_map.mp he
  simp [toPy, PySem.W.alike]⟩
theorem ltD_int (i j : Int) : ltD (.int i) (.int j) = decide (i < j) := PySem.W.dataLt_int i j
theorem best_max : ∀ (l : List Int) (x : Int), bestD true (.int x) (l.map .int) = .int (maxI l x)
  | [], x => rfl
  | y :: l, x => by
    show bestD true (if ltD (.int x) (.int y) = true then .int y else .int x) (l.map .int) = .int (maxI l (if x < y then y else x))
    rw [ltD_int]
    by_cases h : x < y
    · rw [if_pos h, if_pos (decide_eq_true h), best_max l y]
    · rw [if_neg h, if_neg (by simpa using h), best_max l x]
theorem best_min : ∀ (l : List Int) (x : Int), bestD false (.int x) (l.map .int) = .int (minI l x)
  | [], x => rfl
  | y :: l, x => by
    show bestD false (if ltD (.int y) (.int x) = true then .int y else .int x) (l.map .int) = .int (minI l (if y < x then y else x))
    rw [ltD_int]
    by_cases h : y < x
    · rw [if_pos h, if_pos (decide_eq_true h), best_min l y]
    · rw [if_neg h, if_neg (by simpa using h), best_min l x]
end Y

namespace Y
open PySem L2 PyProof.Rows
/-! ### while -/
def whileGo (T : Loc → M Bool) (S : Loc → M (Loc × Fl)) : Nat → Loc → M (Loc × Fl)
  | 0, _ => M.bad
  | n + 1, ρ => M.bnd (T ρ) fun c => if c = true then M.bnd (S ρ) fun r => match r.2 with
      | .nx => whileGo T S n r.1
      | .ct => whileGo T S n r.1
      | .bk => nxt r.1
      | .rt x => M.ret (r.1, .rt x)
    else nxt ρ
def fuel : Nat := 1000000000
def whileS (T : Loc → M Bool) (S : Loc → M (Loc × Fl)) : Loc → M (Loc × Fl) := whileGo T S fuel
section
variable {K : PySem.W.Frag} {mg : Str → Option Value} {E : XK}
theorem es_while {tc : TT} {tb : TS} {T : Loc → M Bool} {S : Loc → M (Loc × Fl)} (ht : EvT K mg E tc T) (hb : EvS K mg E tb S) : EvS K mg E (tWhile tc tb) (whileS T S) := by
  intro σ ρ w ok r D h
  let Wt : Nat → L2.St → Hp → Prop := fun n σ' H => ∃ w' ρ', w'.H = H ∧ Gd K w w'.st w' ∧ ROk K w' σ' ρ' ∧ (whileGo T S n ρ' w'.st).sat (PFl K w D) (EOk K mg E w)
  refine ⟨Wt, ⟨fuel, w, ρ, rfl, Gd.refl ok, r, h⟩, ?_⟩
  rintro m σ' H ⟨w', ρ', rfl, g', r', hs⟩
  cases m with
  | zero => exact hs.elim
  | succ n =>
    unfold whileGo at hs
    have hs' := sat_bnd.mp hs
    refine ht σ' ρ' w' g'.ok r' _ (hs'.mono (fun c s1 h1 w1 g1 => ?_) fun _ _ z => z.of g')
    obtain rfl := g1.st
    have r1 := r'.nxt g1.stp.toNxt g'.ok
    have gg := g'.trans g1
    cases c with
    | false => exact h1 σ' w1 gg r1
    | true =>
      refine ⟨fun σ3 H3 => Wt n σ3 H3, fun σ3 H3 z => ⟨n, Nat.lt_succ_self n, z⟩, ?_⟩
      have h2 := sat_bnd.mp h1
      refine hb σ' ρ' w1 g1.ok r1 _ (h2.mono (fun x s3 h3 => ?_) fun _ _ z => z.of gg)
      obtain ⟨ρ3, f⟩ := x
      cases f with
      | nx =>
        intro σ3 w3 g3 r3
        obtain rfl := g3.st
        exact ⟨w3, ρ3, rfl, gg.trans g3, r3, h3⟩
      | ct =>
        intro σ3 w3 g3 r3
        obtain rfl := g3.st
        exact ⟨w3, ρ3, rfl, gg.trans g3, r3, h3⟩
      | bk => exact fun σ3 w3 g3 r3 => h3 σ3 w3 (gg.trans g3) r3
      | rt x => exact fun v w3 g3 r3 => h3 v w3 (gg.trans g3) r3
end
section
variable {T : Loc → M Bool} {S : Loc → M (Loc × Fl)} {ρ : Loc} {s : Sto} {PS : Loc × Fl → Sto → Prop} {E : XC → Sto → Prop}
/-- a while, by what holds ahead of each test, m turns or fewer to come -/
theorem while_inv (Iv : Nat → Loc → Sto → Prop) (h : ∀ m ρ s, Iv m ρ s → (T ρ s).sat (fun c s1 => if c = true then ∃ k, m = k + 1 ∧ (S ρ s1).sat (fun r s' => match r.2 with | .nx => Iv k r.1 s' | .ct => Iv k r.1 s' | .bk => PS (r.1, .nx) s' | .rt x => PS (r.1, .rt x) s') E else PS (ρ, .nx) s1) E)
    {m : Nat} (hm : m < fuel) (h0 : Iv m ρ s) : (whileS T S ρ s).sat PS E := by
  have go : ∀ (n m : Nat) ρ s, m < n → Iv m ρ s → (whileGo T S n ρ s).sat PS E := by
    intro n
    induction n with
    | zero => intro m ρ s h; omega
    | succ n ih =>
      intro m ρ s hm hI
      unfold whileGo
      rw [sat_bnd]
      refine (h m ρ s hI).mono (fun c s1 q => ?_) fun _ _ z => z
      cases c with
      | false => exact q
      | true =>
        obtain ⟨k, rfl, q⟩ := q
        rw [if_pos rfl, sat_bnd]
        refine q.mono (fun x s3 h3 => ?_) fun _ _ z => z
        obtain ⟨ρ3, f⟩ := x
        cases f with
        | nx => exact ih k ρ3 s3 (by omega) h3
        | ct => exact ih k ρ3 s3 (by omega) h3
        | bk => exact h3
        | rt x => exact h3
  exact go fuel m ρ s hm h0
end
end Y
namespace Y
open PySem L2 PyProof.Rows
/-! ### x += e, x -= e, ints -/
def augS (i : Nat) (f : Int → Int → Int) (F : Loc → M W) : Loc → M (Loc × Fl) := fun ρ => M.bnd (getL i ρ) fun x => M.bnd (F ρ) fun y => match x, y with
  | .d (.int a), .d (.int b) => nxt (ρ.set i (some (.d (.int (f a b)))))
  | _, _ => M.bad
section
variable {K : PySem.W.Frag} {mg : Str → Option Value} {E : XK}
theorem es_aug {i : Nat} {f : Int → Int → Int} {te : TE} {F : Loc → M W} (ha : EvE K mg E te F) : EvS K mg E (tAug i te (ipI f)) (augS i f F) := by
  intro σ ρ w ok r D h
  unfold augS at h
  have h := sat_bnd.mp h
  have h := v_get.mp h
  obtain ⟨x, hx, h⟩ := h
  obtain ⟨v, hv, rx⟩ := r.2 i x hx
  refine ⟨v, hv, ev1 ha ok r h fun y u w1 g1 ok1 r1 ru h1 => ?_⟩
  have rx1 := rx.nxt g1.stp.toNxt ok
  split at h1
  · rename_i a b
    obtain rfl : v = .int a := rx1
    obtain rfl : u = .int b := ru
    exact ⟨a, b, rfl, rfl, h1 _ w1 g1 (r1.set i (x := .d (.int (f a b))) (v := .int (f a b)) rfl)⟩
  · exact h1.elim
theorem v_aug {i : Nat} {f : Int → Int → Int} {F : Loc → M W} {ρ : Loc} {s : Sto} {PS : Loc × Fl → Sto → Prop} {E : XC → Sto → Prop} : (augS i f F ρ s).sat PS E ↔ ∃ x, ρ[i]? = some (some x) ∧ (F ρ s).sat (fun y s' => ∃ a b, x = .d (.int a) ∧ y = .d (.int b) ∧ PS (ρ.set i (some (.d (.int (f a b)))), .nx) s') E := by
  unfold augS
  rw [sat_bnd, v_get]
  refine exists_congr fun x => and_congr_right fun _ => ?_
  rw [sat_bnd]
  refine iff_of_eq (congrArg (fun Z => (F ρ s).sat Z E) ?_)
  funext y s'
  refine propext ⟨fun h => ?_, ?_⟩
  · split at h
    · exact ⟨_, _, rfl, rfl, h⟩
    · exact h.elim
  · rintro ⟨a, b, rfl, rfl, h⟩
    exact h
end
end Y

namespace Y
open PySem L2 PyProof.Rows
/-! ### reversed(xs), reversed(range(n)), reversed(range(a, b)) -/
def itRev (F : Loc → M W) : Loc → M (List D) := fun ρ => M.bnd (F ρ) fun x => M.bnd (gSeq x) fun ds => M.ret ds.reverse
def itRvR1 (F : Loc → M W) : Loc → M (List D) := fun ρ => M.bnd (F ρ) fun x => M.bnd (gI x) fun n => M.bnd (gRg1 n) fun ds => M.ret ds.reverse
def itRvR2 (F G : Loc → M W) : Loc → M (List D) := fun ρ => M.bnd (F ρ) fun x => M.bnd (G ρ) fun y => M.bnd (gI x) fun i => M.bnd (gI y) fun j => M.bnd (gRg2 i j) fun ds => M.ret ds.reverse
section
variable {K : PySem.W.Frag} {mg : Str → Option Value} {E : XK} {w : Wd}
theorem rev_at {α : Type} {l : List α} {i : Nat} (h : i < l.length) : l.reverse[i]? = l[l.length - 1 - i]? := List.getElem?_reverse h
theorem its_revL {a : Addr} {vs : List V} {ds : List D} (ok : Ok K w) (st : ∀ w', Nxt w w' → SqL K w'.H a vs) (r : RepL K w.H w.al ds vs) : Its K w (Itv K a vs.length) ds.reverse := by
  have hl := r.length
  refine ⟨fun w' x ok' i hi => ?_, fun w' x ok' => ?_, fun w' x ok' i y H' hi q => ?_⟩
  · rw [List.length_reverse] at hi
    exact ⟨by omega, vs, vs[vs.length - 1 - i]'(by omega), st w' x, List.getElem?_eq_getElem (by omega)⟩
  · show vs.length ≤ ds.reverse.length
    rw [List.length_reverse]
    omega
  · rw [List.length_reverse] at hi
    obtain ⟨rfl, q⟩ := q
    obtain ⟨d, hd, rd⟩ := (r.nxt x ok).getV (q vs (st w' x))
    exact ⟨w', d, Gd.refl ok', rfl, by rw [rev_at hi, ← hl]; exact hd, rd⟩
theorem its_revT {a : Addr} {vs : List V} {ds : List D} (ok : Ok K w) (h : SqT K w.H a vs) (r : RepL K w.H w.al ds vs) : Its K w (RT.ItvT K a vs.length) ds.reverse := by
  have st : ∀ w', Nxt w w' → SqT K w'.H a vs := fun w' x => SqT.keep (x.k1 ok a) h
  have hl := r.length
  refine ⟨fun w' x ok' i hi => ?_, fun w' x ok' => ?_, fun w' x ok' i y H' hi q => ?_⟩
  · rw [List.length_reverse] at hi
    exact ⟨by omega, vs, vs[vs.length - 1 - i]'(by omega), st w' x, List.getElem?_eq_getElem (by omega)⟩
  · show vs.length ≤ ds.reverse.length
    rw [List.length_reverse]
    omega
  · rw [List.length_reverse] at hi
    obtain ⟨rfl, q⟩ := q
    obtain ⟨d, hd, rd⟩ := (r.nxt x ok).getV (q vs (st w' x))
    exact ⟨w', d, Gd.refl ok', rfl, by rw [rev_at hi, ← hl]; exact hd, rd⟩
theorem ei_rev {te : TE} {F : Loc → M W} (ha : EvE K mg E te F) : EvI K mg E (RT.iRevA K te) (itRev F) := by
  intro σ ρ w ok r R h
  refine ev1 ha ok r h fun x v w1 g1 ok1 r1 rv h1 => ?_
  cases x with
  | r n => exact h1.elim
  | k n => exact h1.elim
  | h n => exact h1.elim
  | d y =>
    cases y with
    | tup ds =>
      obtain ⟨a, vs, rfl, hs, rl⟩ := rv
      exact ⟨a, vs, rfl, .inr ⟨hs, h1 _ w1 g1 (its_revT ok1 hs rl)⟩⟩
    | lst ds =>
      obtain ⟨a, vs, rfl, hs, na, rl⟩ := rv
      exact ⟨a, vs, rfl, .inl ⟨SqL.of hs, h1 _ w1 g1 (its_revL ok1 (fun w2 x => SqL.of (x.keep a _ hs na)) rl)⟩⟩
    | frz ds =>
      obtain ⟨a, vs, rfl, hs, rl⟩ := rv
      exact ⟨a, vs, rfl, .inl ⟨fz_sq hs, h1 _ w1 g1 (its_revL ok1 (fun w2 x => fz_sq (FzL.keep (x.k1 ok1 a) hs)) rl)⟩⟩
    | tux ds =>
      obtain ⟨a, vs, rfl, hs, rl⟩ := rv
      exact ⟨a, vs, rfl, .inr ⟨tux_sq hs, h1 _ w1 g1 (its_revT ok1 (tux_sq hs) rl)⟩⟩
    | _ => exact h1.elim
theorem its_revR {lo : Int} {n : Nat} : Its K w (Itc (lo + (n : Int) - 1) (-1) n) (rngD lo n).reverse := by
  have hl : (rngD lo n).length = n := by unfold rngD; rw [List.length_map, List.length_range]
  refine ⟨fun w' x ok' i hi => ?_, fun w' x ok' => ?_, fun w' x ok' i y H' hi q => ?_⟩
  · rw [List.length_reverse, hl] at hi
    exact hi
  · show n ≤ _
    rw [List.length_reverse, hl]
    exact Nat.le_refl _
  · rw [List.length_reverse] at hi
    obtain ⟨rfl, rfl⟩ := q
    refine ⟨w', .int (lo + ((n - 1 - i : Nat) : Int)), Gd.refl ok', rfl, ?_, ?_⟩
    · rw [rev_at hi, hl]
      unfold rngD
      rw [List.getElem?_map, List.getElem?_range (by omega)]
      rfl
    · show V.int _ = V.int _
      exact congrArg V.int (by omega)
theorem ei_rvR1 {ta : TE} {F : Loc → M W} (ha : EvE K mg E ta F) : EvI K mg E (iRevR (tRg1 ta)) (itRvR1 F) := by
  intro σ ρ w ok r R h
  refine ev1 ha ok r h fun x v w1 g1 ok1 r1 rv h1 => ?_
  obtain ⟨n, rfl, rfl, h2⟩ := gI_sat h1 rv
  rw [sat_bnd] at h2
  unfold gRg1 at h2
  split at h2
  · rename_i hc
    refine ⟨n, rfl, by omega, by omega, by omega, by omega, ?_⟩
    have := h2 _ w1 g1 (its_revR (lo := 0) (n := n.toNat))
    rw [show (n - 0).toNat = n.toNat by omega]
    exact this
  · exact h2.elim
theorem ei_rvR2 {ta tb : TE} {F G : Loc → M W} (ha : EvE K mg E ta F) (hb : EvE K mg E tb G) : EvI K mg E (iRevR (tRg2 ta tb)) (itRvR2 F G) := by
  intro σ ρ w ok r R h
  refine ev1 ha ok r h fun x v w1 g1 ok1 r1 rv h1 => ?_
  refine ev1 hb ok1 r1 h1 fun y u w2 g2 ok2 r2 ru h2 => ?_
  obtain ⟨i, rfl, rfl, h3⟩ := gI_sat h2 rv
  obtain ⟨j, rfl, rfl, h4⟩ := gI_sat h3 ru
  rw [sat_bnd] at h4
  unfold gRg2 at h4
  split at h4
  · rename_i hc
    refine ⟨i, j, rfl, rfl, by omega, by omega, by omega, by omega, ?_⟩
    exact h4 _ w2 (g1.trans g2) (its_revR (lo := i) (n := (j - i).toNat))
  · exact h4.elim
theorem v_itRev {F : Loc → M W} {ρ : Loc} {s : Sto} {PD : List D → Sto → Prop} {E : XC → Sto → Prop} : (itRev F ρ s).sat PD E ↔ (F ρ s).sat (fun x s' => ∃ d ds, x = .d d ∧ seqOf d = some ds ∧ PD ds.reverse s') E := by
  unfold itRev
  rw [sat_bnd]
  refine iff_of_eq (congrArg (fun Z => (F ρ s).sat Z E) ?_)
  funext x s'
  rw [sat_bnd, v_seqD]
  rfl
theorem v_itRvR1 {F : Loc → M W} {ρ : Loc} {s : Sto} {PD : List D → Sto → Prop} {E : XC → Sto → Prop} : (itRvR1 F ρ s).sat PD E ↔ (F ρ s).sat (fun x s' => ∃ i, x = .d (.int i) ∧ (-(100000 : Int) ≤ i ∧ i ≤ 100000) ∧ PD (rngD 0 i.toNat).reverse s') E := by
  unfold itRvR1
  rw [sat_bnd]
  refine iff_of_eq (congrArg (fun Z => (F ρ s).sat Z E) ?_)
  funext x s'
  rw [sat_bnd, v_gI]
  refine propext (exists_congr fun i => and_congr_right fun _ => ?_)
  rw [sat_bnd, v_rg1]
  rfl
end
end Y

namespace Y
open PySem L2 PyProof.Rows
/-! ### zip(xs, ys), both lists or both tuples -/
def zipD (ds es : List D) : List D := List.zipWith (fun x y => .tup [x, y]) ds es
def isTupD : D → Bool
  | .tup _ => true
  | .tux _ => true
  | _ => false
def itZip (F G : Loc → M W) : Loc → M (List D) := fun ρ => M.bnd (F ρ) fun x => M.bnd (G ρ) fun y => match x, y with
  | .d a, .d b => if isTupD a = isTupD b then M.bnd (gSeq (.d a)) fun ds => M.bnd (gSeq (.d b)) fun es => M.ret (zipD ds es) else M.bad
  | _, _ => M.bad
section
variable {K : PySem.W.Frag} {mg : Str → Option Value} {E : XK} {w : Wd}
theorem zipD_len (ds es : List D) : (zipD ds es).length = min ds.length es.length := by unfold zipD; rw [List.length_zipWith]
theorem zip_yld {ds es : List D} {i : Nat} {w' : Wd} {x y : V} {d e : D} {T : Addr} (ok' : Ok K w') (hT : w'.H T = none) (hd : ds[i]? = some d) (he : es[i]? = some e) (rd : Rep K w'.H w'.al d x) (re : Rep K w'.H w'.al e y) :
    ∃ w'' z, Gd K w' w'.st w'' ∧ w''.H = upd w'.H T (.tup [x, y]) ∧ (zipD ds es)[i]? = some z ∧ Rep K w''.H w''.al z (.ref T) := by
  refine ⟨w'.lay T (.tup [x, y]), .tup [d, e], gd_lay ok' hT, rfl, ?_, rep_tup ok' hT (ds := [d, e]) (vs := [x, y]) ⟨_, _, rfl, rd, ⟨_, _, rfl, re, rfl⟩⟩⟩
  unfold zipD
  rw [List.getElem?_zipWith, hd, he]
theorem its_zipL {a b : Addr} {vs us : List V} {ds es : List D} (ok : Ok K w) (st : ∀ w', Nxt w w' → SqL K w'.H a vs) (st2 : ∀ w', Nxt w w' → SqL K w'.H b us) (r : RepL K w.H w.al ds vs) (r2 : RepL K w.H w.al es us) : Its K w (Itz K a b) (zipD ds es) := by
  have l1 := r.length
  have l2 := r2.length
  refine ⟨fun w' x ok' i hi => ?_, fun w' x ok' => ?_, fun w' x ok' i y H' hi q => ?_⟩
  · rw [zipD_len] at hi
    exact ⟨vs, us, vs[i]'(by omega), us[i]'(by omega), st w' x, st2 w' x, List.getElem?_eq_getElem (by omega), List.getElem?_eq_getElem (by omega)⟩
  · refine ⟨vs, us, st w' x, st2 w' x, ?_⟩
    rw [zipD_len]
    omega
  · obtain ⟨T, p, q', rfl, hT, rfl, q1, q2⟩ := q
    obtain ⟨d, hd, rd⟩ := (r.nxt x ok).getV (q1 vs (st w' x))
    obtain ⟨e, he, re⟩ := (r2.nxt x ok).getV (q2 us (st2 w' x))
    exact zip_yld ok' hT hd he rd re
theorem its_zipT {a b : Addr} {vs us : List V} {ds es : List D} (ok : Ok K w) (h : SqT K w.H a vs) (h2 : SqT K w.H b us) (r : RepL K w.H w.al ds vs) (r2 : RepL K w.H w.al es us) : Its K w (RZ.ItzT K a b) (zipD ds es) := by
  have st : ∀ w', Nxt w w' → SqT K w'.H a vs := fun w' x => SqT.keep (x.k1 ok a) h
  have st2 : ∀ w', Nxt w w' → SqT K w'.H b us := fun w' x => SqT.keep (x.k1 ok b) h2
  have l1 := r.length
  have l2 := r2.length
  refine ⟨fun w' x ok' i hi => ?_, fun w' x ok' => ?_, fun w' x ok' i y H' hi q => ?_⟩
  · rw [zipD_len] at hi
    exact ⟨vs, us, vs[i]'(by omega), us[i]'(by omega), st w' x, st2 w' x, List.getElem?_eq_getElem (by omega), List.getElem?_eq_getElem (by omega)⟩
  · refine ⟨vs, us, st w' x, st2 w' x, ?_⟩
    rw [zipD_len]
    omega
  · obtain ⟨T, p, q', rfl, hT, rfl, q1, q2⟩ := q
    obtain ⟨d, hd, rd⟩ := (r.nxt x ok).getV (q1 vs (st w' x))
    obtain ⟨e, he, re⟩ := (r2.nxt x ok).getV (q2 us (st2 w' x))
    exact zip_yld ok' hT hd he rd re
theorem lst_st {d : D} {v : V} {ds : List D} (ok : Ok K w) (hd : seqOf d = some ds) (ht : isTupD d = false) (r : Rep K w.H w.al d v) : ∃ a vs, v = .ref a ∧ (∀ w', Nxt w w' → SqL K w'.H a vs) ∧ SqL K w.H a vs ∧ RepL K w.H w.al ds vs := by
  cases d with
  | lst es =>
    cases hd
    obtain ⟨a, vs, rfl, hs, na, rl⟩ := r
    exact ⟨a, vs, rfl, fun w2 x => SqL.of (x.keep a _ hs na), SqL.of hs, rl⟩
  | frz es =>
    cases hd
    obtain ⟨a, vs, rfl, hs, rl⟩ := r
    exact ⟨a, vs, rfl, fun w2 x => fz_sq (FzL.keep (x.k1 ok a) hs), fz_sq hs, rl⟩
  | tup es => cases ht
  | tux es => cases ht
  | _ => cases hd
theorem ei_zip {ta tb : TE} {F G : Loc → M W} (ha : EvE K mg E ta F) (hb : EvE K mg E tb G) : EvI K mg E (RZ.iZipA K (tCons ta (tCons tb tNil))) (itZip F G) := by
  intro σ ρ w ok r R h
  refine ev1 ha ok r h fun x v w1 g1 ok1 r1 rv h1 => ?_
  refine ev1 hb ok1 r1 h1 fun y u w2 g2 ok2 r2 ru h2 => ?_
  have rv2 := rv.nxt g2.stp.toNxt ok1
  split at h2
  · rename_i a b
    split at h2
    · rename_i hk
      rw [sat_bnd, v_seqD] at h2
      obtain ⟨a', ds, ea, hds, h2⟩ := h2
      obtain rfl := W.d.inj ea
      rw [sat_bnd, v_seqD] at h2
      obtain ⟨b', es, eb, hes, h2⟩ := h2
      obtain rfl := W.d.inj eb
      have gg := g1.trans g2
      cases hat : isTupD a with
      | true =>
        rw [hat] at hk
        cases a with
        | tup ds' =>
          cases hds
          cases b with
          | tup es' =>
            cases hes
            obtain ⟨p, vs, rfl, hs, rl⟩ := rv2
            obtain ⟨q, us, rfl, hs2, rl2⟩ := ru
            exact ⟨p, q, vs, us, rfl, .inr ⟨hs, hs2, h2 _ w2 gg (its_zipT ok2 hs hs2 rl rl2)⟩⟩
          | tux es' =>
            cases hes
            obtain ⟨p, vs, rfl, hs, rl⟩ := rv2
            obtain ⟨q, us, rfl, hs2, rl2⟩ := ru
            exact ⟨p, q, vs, us, rfl, .inr ⟨hs, tux_sq hs2, h2 _ w2 gg (its_zipT ok2 hs (tux_sq hs2) rl rl2)⟩⟩
          | _ => cases hk
        | tux ds' =>
          cases hds
          cases b with
          | tup es' =>
            cases hes
            obtain ⟨p, vs, rfl, hs, rl⟩ := rv2
            obtain ⟨q, us, rfl, hs2, rl2⟩ := ru
            exact ⟨p, q, vs, us, rfl, .inr ⟨tux_sq hs, hs2, h2 _ w2 gg (its_zipT ok2 (tux_sq hs) hs2 rl rl2)⟩⟩
          | tux es' =>
            cases hes
            obtain ⟨p, vs, rfl, hs, rl⟩ := rv2
            obtain ⟨q, us, rfl, hs2, rl2⟩ := ru
            exact ⟨p, q, vs, us, rfl, .inr ⟨tux_sq hs, tux_sq hs2, h2 _ w2 gg (its_zipT ok2 (tux_sq hs) (tux_sq hs2) rl rl2)⟩⟩
          | _ => cases hk
        | _ => cases hat
      | false =>
        rw [hat] at hk
        obtain ⟨p, vs, rfl, st, hs, rl⟩ := lst_st ok2 hds hat rv2
        obtain ⟨q, us, rfl, st2, hs2, rl2⟩ := lst_st ok2 hes hk.symm ru
        exact ⟨p, q, vs, us, rfl, .inl ⟨hs, hs2, h2 _ w2 gg (its_zipL ok2 st st2 rl rl2)⟩⟩
    · exact h2.elim
  · exact h2.elim
end
end Y

namespace Y
open PySem L2 PyProof.Rows
/-! ### sorted(t), t a tuple of data -/
section
variable {prog : Program} {w : World} {A : Around} {E : Value → Shared → Prop} {s : Shared}
theorem sorted_tup {β : Type} {R : Value → β → Prop} {enc : β → PyData} {t : Addr} {vs : List Value} {bs : List β} {Q : Value → Shared → Prop} (hl : s.heap.IsTuple t vs.toArray) (e : PySem.W.EachIs R vs bs) (er : PySem.W.EachIs (fun v b => ∃ as, Reads s.heap v (enc b) as) vs bs)
    (hal : PySem.W.AllAlike (bs.map enc)) (hk : PySem.W.Sortable (bs.map enc)) (hL : bs.length ≤ sizeLine) (hu : ∀ b, b ∈ bs → A.units + 2 + (enc b).depth < cLine)
    (h : ∀ (out : List Value) (h1 h' : Heap), PySem.W.EachIs R out (bs.mergeSort (PySem.W.dataLe false enc)) → (∀ b o, s.heap.get? b = some o → h1.get? b = some o) → (∀ b o, h1.get? b = some o → h'.get? b = some o) → (∃ c, h'.get? h1.objs.size = some (seqObj "list" (List.toArray out) c)) → Q (.ref h1.objs.size) { s with heap := h' }) :
    wpAny (model prog w) A (call (.builtin "sorted") [.ref t]) Q E s := by
  have hlen := e.length
  have hL' : vs.length ≤ sizeLine := by omega
  obtain ⟨o, ho, hc, n, hd⟩ := hl
  refine Calls.call_function_entry kind_sorted plain_sorted entry_sorted (args_sorted1 _) ?_
  unfold Builtin.«sorted»
  apply wpAny_bind (m := checkCount "sorted" 1 1 _)
  apply wpAny_pure
  apply wpAny_bind
  refine wpAny_collect_seq t (.inr rfl) ho hc hd (fun h1 k1 => ?_) (by rw [List.size_toArray]; exact hL')
  apply wpAny_bind
  refine wpAny_newList ?_ (by simpa using hL')
  have ha : (h1.push (seqObj "list" vs.toArray 0)).get? h1.objs.size = some (seqObj "list" vs.toArray 0) := Heap.get?_push_size _ rfl
  have k2 : ∀ b o', h1.get? b = some o' → b ≠ h1.objs.size ∧ (h1.push (seqObj "list" vs.toArray 0)).get? b = some o' := fun b o' q =>
    ⟨Nat.ne_of_lt (Heap.lt_size q), Heap.get?_push_of_some _ q⟩
  have kS : ∀ b o', s.heap.get? b = some o' → (PySem.W.sortingHeap (h1.push (seqObj "list" vs.toArray 0)) h1.objs.size vs).get? b = some o' := fun b o' q =>
    PySem.W.sortingHeap_old (k2 b o' (k1 b o' q)).1 (k2 b o' (k1 b o' q)).2
  have er' : PySem.W.EachIs (fun v b => ∃ as, Reads (PySem.W.sortingHeap (h1.push (seqObj "list" vs.toArray 0)) h1.objs.size vs) v (enc b) as) vs bs := er.mono fun _ _ ⟨as, r⟩ => ⟨as, Reads.keeps kS r⟩
  have S := PySem.W.SortsAt.data (prog := prog) (w := w) (A := A.in1.in1) (s := { s with heap := PySem.W.sortingHeap (h1.push (seqObj "list" vs.toArray 0)) h1.objs.size vs }) (vs := vs) (ds := bs.map enc)
    (PySem.W.each_map (R := fun v d => ∃ as, Reads (PySem.W.sortingHeap (h1.push (seqObj "list" vs.toArray 0)) h1.objs.size vs) v d as) enc er') hal hk (fun d hd => by
      obtain ⟨b, hb, rfl⟩ := List.mem_map.mp hd
      exact hu b hb)
  have hout := PySem.W.sortVals_data (h' := PySem.W.sortingHeap (h1.push (seqObj "list" vs.toArray 0)) h1.objs.size vs) false e er' hal
  obtain ⟨c, hc2⟩ := sortedHeap_at (out := (PySem.W.sortVals (PySem.W.dataKind (PySem.W.sortingHeap (h1.push (seqObj "list" vs.toArray 0)) h1.objs.size vs) (bs.map enc)) false vs vs).toArray) ha
  show wpAny _ _ _ _ _ { s with heap := h1.push (seqObj "list" vs.toArray 0) }
  refine wpAny_bind (wpAny_holding (wpAny_call_entry slot_list_sort ⟨_, ha, rfl⟩ entry_list_sort ?_ (args_list_sort _)))
  refine PySem.W.list_sort_vals (s := { s with heap := h1.push (seqObj "list" vs.toArray 0) }) ha S hL' ⟨_, rfl, wpAny_pure ⟨_, rfl, ?_⟩⟩
  refine h _ h1 _ hout k1 (fun b o' q => ?_) ⟨c, hc2⟩
  rw [sortedHeap_old (k2 b o' q).1 (Heap.lt_size (k2 b o' q).2)]
  exact (k2 b o' q).2
end
def rSortT (K : PySem.W.Frag) : List V → Hp → VK → Prop := fun vs H Q => ∃ (a : Addr) (qs : List (V × D)), vs = [.ref a] ∧ SqT K H a (qs.map (·.1)) ∧ (∀ q ∈ qs, Dp K H q.1 (toPy q.2)) ∧ OkSort (qs.map (·.2)) ∧
  ∀ p, H p = none → Q (.ref p) (upd H p (.lst ((qs.mergeSort fun a b => leD a.2 b.2).map (·.1))))
theorem cr_sortT {X : Cx} (hu : X.A.units + 64 < cLine) : CallR X (.builtin "sorted") (rSortT X.K) := by
  intro pins s σ H vs us Q I r h
  obtain ⟨a, qs, rfl, hs, hd, ⟨k1, k2, k3, k4⟩, q⟩ := h
  obtain ⟨its, rv, hl, hz⟩ := I.tuple hs
  rw [Vals.ref1 r]
  obtain ⟨e1, e2⟩ := each_dps I rv hd
  have al : PySem.W.AllAlike (qs.map fun q => toPy q.2) := by
    intro d hd d' hd'
    obtain ⟨x, hx, rfl⟩ := List.mem_map.mp hd
    obtain ⟨y, hy, rfl⟩ := List.mem_map.mp hd'
    exact k1 x.2 (List.mem_map.mpr ⟨x, hx, rfl⟩) y.2 (List.mem_map.mpr ⟨y, hy, rfl⟩)
  have so : PySem.W.Sortable (qs.map fun q => toPy q.2) := by
    rcases k2 with k2 | k2
    · refine .inl fun d hd => ?_
      obtain ⟨x, hx, rfl⟩ := List.mem_map.mp hd
      obtain ⟨y, t, e⟩ := k2 x.2 (List.mem_map.mpr ⟨x, hx, rfl⟩)
      exact ⟨toPy y, toPys t, by rw [e]; rfl⟩
    · refine .inr fun d hd => ?_
      obtain ⟨x, hx, rfl⟩ := List.mem_map.mp hd
      have := k2 x.2 (List.mem_map.mpr ⟨x, hx, rfl⟩)
      cases e : x.2 <;> rw [e] at this <;> first | exact this.elim | exact ⟨fun z => (nomatch z), fun xs z => (nomatch z)⟩
  have hlen : qs.length ≤ sizeLine := by
    rw [List.length_map] at k4
    exact capS k4
  refine sorted_tup hl e2 e1 al so hlen (fun b hb => ?_) fun out h1 h' he kk kk2 hp => ?_
  · have := k3 b.2 (List.mem_map.mpr ⟨b, hb, rfl⟩)
    omega
  · obtain ⟨c, hc⟩ := hp
    have I1 : Inv X pins σ H { s with heap := h1 } := I.kept (t' := s.toks) kk
    refine ⟨.ref h1.objs.size, upd H h1.objs.size (.lst ((qs.mergeSort fun a b => leD a.2 b.2).map (·.1))), I1.laid (t' := s.toks) kk2 (Nat.le_refl _) ?_, rfl, q _ (I1.hok.fresh (Nat.le_refl _))⟩
    refine ⟨?_, out, c, each_vals he, hc⟩
    rw [List.length_map, List.length_mergeSort]
    exact hlen
open Classical in
noncomputable def fSortedT : Sto → List W → Option W := fun s xs => match xs with
  | [.d (.tup ds)] => if OkSort ds then some (.d (.lst (ds.mergeSort leD))) else none
  | [.d (.tux ds)] => if OkSort ds then some (.d (.lst (ds.mergeSort leD))) else none
  | _ => none
def rSortB (K : PySem.W.Frag) : List V → Hp → VK → Prop := fun vs H Q => rSortY K vs H Q ∨ rSortT K vs H Q
theorem cr_sortB {X : Cx} (hu : X.A.units + 64 < cLine) : CallR X (.builtin "sorted") (rSortB X.K) := by
  intro pins s σ H vs us Q I r h
  rcases h with h | h
  · exact cr_sortY hu pins s σ H vs us Q I r h
  · exact cr_sortT hu pins s σ H vs us Q I r h
noncomputable def fSortedB : Sto → List W → Option W := fun s xs => match fSortedT s xs with
  | some z => some z
  | none => fSorted s xs
section
variable {K : PySem.W.Frag} {mg : Str → Option Value} {E : XK} {w : Wd}
theorem sem_sortedB : SemRL K (rSortB K) (optL fSortedB) := fun w a x ok ra Q h => by
  unfold optL fSortedB at h
  cases e : fSortedT w.st a with
  | none =>
    rw [e] at h
    exact .inl (sem_sorted w a x ok ra Q h)
  | some z =>
    rw [e] at h
    have q : PW K w Q z w.st := h
    unfold fSortedT at e
    split at e
    · rename_i ds
      split at e
      · rename_i hc
        cases e
        obtain ⟨v, rfl, rv⟩ := ra.one
        obtain ⟨p, us, rfl, hs, r⟩ := rv
        obtain ⟨qs, rfl, rfl, hq⟩ := repL_pairs r
        refine .inr ⟨p, qs, rfl, hs, fun t ht => rep_dp _ _ (hq t ht), hc, ?_⟩
        have e2 : (qs.mergeSort fun a b => leD a.2 b.2).map (·.2) = (qs.map (·.2)).mergeSort leD := List.map_mergeSort fun a _ b _ => rfl
        refine pw_lst ok ?_ q
        rw [← e2]
        exact pairs_repL fun t ht => hq t (List.mem_mergeSort.mp ht)
      · cases e
    · rename_i ds
      split at e
      · rename_i hc
        cases e
        obtain ⟨v, rfl, rv⟩ := ra.one
        obtain ⟨p, us, rfl, hs, r⟩ := rv
        obtain ⟨qs, rfl, rfl, hq⟩ := repL_pairs r
        refine .inr ⟨p, qs, rfl, tux_sq hs, fun t ht => rep_dp _ _ (hq t ht), hc, ?_⟩
        have e2 : (qs.mergeSort fun a b => leD a.2 b.2).map (·.2) = (qs.map (·.2)).mergeSort leD := List.map_mergeSort fun a _ b _ => rfl
        refine pw_lst ok ?_ q
        rw [← e2]
        exact pairs_repL fun t ht => hq t (List.mem_mergeSort.mp ht)
      · cases e
    · cases e
theorem o_sortedU {ds : List D} {s : Sto} (hc : OkSort ds) : optL fSortedB [.d (.tux ds)] s = .ok (.d (.lst (ds.mergeSort leD))) s := by
  unfold optL fSortedB fSortedT
  simp only [if_pos hc]
theorem o_sortedT {ds : List D} {s : Sto} (hc : OkSort ds) : optL fSortedB [.d (.tup ds)] s = .ok (.d (.lst (ds.mergeSort leD))) s := by
  unfold optL fSortedB fSortedT
  simp only [if_pos hc]
end
end Y

namespace PySem.YX
open PySem PySem.AutoSeq1
theorem yExtT (l b : Addr) (xs ys : Array Value) (n m : Nat) (dd : Option Addr) (sl : Array (Option Value)) (h0 : ¬(!xs.isEmpty && Builtin.List.listTooLong (xs.size + ys.size)) = true) (h1 : xs.size ≤ sizeLine) (h2 : xs.size + ys.size ≤ sizeLine + 1) :
    Meets (Builtin.«list.extend» ⟨[.ref l, .ref b], []⟩) (fun _ R s => s.heap.get? l = some { cls := .type "list", dict := none, data := .seq xs n, slots := #[] } ∧
      s.heap.get? b = some { cls := .type "tuple", dict := dd, data := .seq ys m, slots := sl } ∧ R (.ok (.ret Value.none)) { s with heap := s.heap.update l (Obj.mapSeq fun x => x ++ ys), toks := s.toks }) :=
  .of_wp fun prog w A R s h => by
    obtain ⟨hp, g, d, tk, os⟩ := s
    obtain ⟨hl, hb, h⟩ := h
    have z1 := idx_int
    have z2 := sub_tuple_tuple
    have z3 := sub_list_list
    have z4 := sub_tuple_list
    have z5 := sub_list_tuple
    have hz' : (xs ++ ys).size ≤ sizeLine + 1 := by rw [Array.size_append]; omega
    wp_walk using (wpAny_updateSeq hl rfl (hz := h1) (_hz' := hz')), wpAny_loadPart' hl, wpAny_loadPart' hb
    exact ⟨_, rfl, h⟩
end PySem.YX
namespace Y
open PySem L2 PyProof.Rows
/-! ### xs.extend(ys), ys a list or a tuple -/
def rExtT (K : PySem.W.Frag) : V → List V → Hp → VK → Prop := fun x vs H Q => ∃ l b xs zs, x = .ref l ∧ vs = [.ref b] ∧ H l = some (.lst xs) ∧ SqT K H b zs ∧ xs.length + zs.length ≤ sizeLine ∧ Q .non (upd H l (.lst (xs ++ zs)))
theorem mt_extT {X : Cx} : MtM X "list.extend" (rExtT X.K) := by
  intro pins s σ H x vs v us Q I rx rv h
  obtain ⟨l, b, xs, zs, rfl, rfl, hH, hB, hz, q⟩ := h
  cases rx
  obtain ⟨u, rfl, ru⟩ := rv.one
  cases ru
  obtain ⟨_, is1, n, r1, k1, e1⟩ := I.lstM hH
  obtain ⟨is2, r2, ⟨⟨c0, d0, dat0, sl0⟩, e2, hc, m, hd⟩, _⟩ := I.tuple hB
  dsimp only at hc hd
  subst hc hd
  have l2 := r2.length
  have tot : is1.toArray.size + is2.toArray.size ≤ sizeLine := by rw [List.size_toArray, List.size_toArray]; omega
  have nl : ¬ (!is1.toArray.isEmpty && Builtin.List.listTooLong (is1.toArray.size + is2.toArray.size)) = true := by
    rw [notLongL tot, Bool.and_false]
    exact Bool.false_ne_true
  refine call_meets PySem.F.slot_list_extend ⟨_, e1, rfl⟩ PySem.F.entry_list_extend (PySem.F.args_list_extend_2 _ _) (PySem.YX.yExtT l b is1.toArray is2.toArray n m d0 sl0 nl (by omega) (by omega)) ⟨e1, e2, ?_⟩
  refine ⟨.non, _, I.lset (its' := is1 ++ is2) hH e1 (by simp) (r1.append r2) ?_, rfl, q⟩
  rw [List.length_append]
  omega
def rExtB (K : PySem.W.Frag) : V → List V → Hp → VK → Prop := fun x vs H Q => rExtend x vs H Q ∨ rExtT K x vs H Q
theorem mt_extB {X : Cx} : MtM X "list.extend" (rExtB X.K) := by
  intro pins s σ H x vs v us Q I rx rv h
  rcases h with h | h
  · exact mt_extend pins s σ H x vs v us Q I rx rv h
  · exact mt_extT pins s σ H x vs v us Q I rx rv h
def fExtB : List D → List W → Option (List D × D) := fun ds as => match as with
  | [.d (.lst es)] => if ds.length + es.length ≤ cap then some (ds ++ es, .non) else none
  | [.d (.tup es)] => if ds.length + es.length ≤ cap then some (ds ++ es, .non) else none
  | [.d (.tux es)] => if ds.length + es.length ≤ cap then some (ds ++ es, .non) else none
  | _ => none
section
variable {K : PySem.W.Frag}
theorem sm_extB : SemM K (rExtB K) fExtB := by
  intro w n a ds as vs es d ok ha hd hnd ra hg Q q
  unfold fExtB at hg
  split at hg
  · exact .inl (sm_ext w n a ds _ vs es d ok ha hd hnd ra hg Q q)
  · rename_i xs
    obtain ⟨us, hus, rl⟩ := ok.cell n a ds ha hd hnd
    split at hg
    · rename_i hc
      cases hg
      obtain ⟨v, rfl, rv⟩ := ra.one
      obtain ⟨b, zs, rfl, hb, rz⟩ := rv
      have gp := gd_put ok ha hd hnd (rl.append rz)
      exact .inr ⟨a, b, us, zs, rfl, rfl, hus, hb, by rw [rl.length, rz.length]; exact capS hc, q .non _ gp rfl⟩
    · cases hg
  · rename_i xs
    obtain ⟨us, hus, rl⟩ := ok.cell n a ds ha hd hnd
    split at hg
    · rename_i hc
      cases hg
      obtain ⟨v, rfl, rv⟩ := ra.one
      obtain ⟨b, zs, rfl, hb, rz⟩ := rv
      have gp := gd_put ok ha hd hnd (rl.append rz)
      exact .inr ⟨a, b, us, zs, rfl, rfl, hus, tux_sq hb, by rw [rl.length, rz.length]; exact capS hc, q .non _ gp rfl⟩
    · cases hg
  · cases hg
end
/-- found.extend(xs), found the last list of the store -/
theorem st_pushB {S0 : Sto} {Wl : List D} {ρ : Loc} {i : Nat} {A : Loc → M (List W)} {PS : (Loc × Fl) → Sto → Prop} {E : XC → Sto → Prop} {y : D} {l : List D} (hy : y = .lst l ∨ y = .tup l ∨ y = .tux l) (hρ : ρ[i]? = some (some (.h S0.length))) (hW : Wl.length + l.length ≤ cap) (hA : (A ρ (S0 ++ [some Wl])).sat (fun as s' => as = [.d y] ∧ s' = S0 ++ [some Wl]) E) (q : PS (ρ, .nx) (S0 ++ [some (Wl ++ l)])) : (expS (mthE fExtB (getL i) A) ρ (S0 ++ [some Wl])).sat PS E := by
  rw [v_exp, v_mth, v_get]
  refine ⟨_, hρ, hotLast, hA.mono (fun as s' z => ?_) fun _ _ z => z⟩
  obtain ⟨rfl, rfl⟩ := z
  refine ⟨S0.length, Wl, Wl ++ l, .non, rfl, by simp, ?_, ?_⟩
  · rcases hy with rfl | rfl | rfl <;> simp only [fExtB] <;> rw [if_pos hW]
  · rw [setLast]
    exact q
end Y
namespace Y
open PySem L2 PyProof.Rows
theorem kit_ref {K : PySem.W.Frag} {c z : Addr} {b : Bool} (hz : PySem.W.hasDictIn K z = true) (ht : PySem.W.typeIn K (.ref z) = some (.type "type")) (hs : PySem.W.subIn K (.ref c) (.ref z) = some b) (self : PySem.W.subIn K (.ref z) (.ref z) = some true) : PySem.W.kitOne K (.ref c) (.ref z) = some b := by
  obtain ⟨cd, hcd, _⟩ := PySem.W.any_some hz
  unfold PySem.W.kitOne PySem.W.kitCls
  by_cases e : c = z
  · subst e
    rw [hs] at self
    obtain rfl := Option.some.inj self
    rw [if_pos (beq_self_eq_true _)]
  · have ne : (Value.ref c == Value.ref z) = false := beq_eq_false_iff_ne.mpr fun q => e (Value.ref.inj q)
    rw [if_neg (by rw [ne]; exact Bool.false_ne_true)]
    have e2 : ((PySem.W.clsIn K z).isSome && PySem.W.typeIn K (.ref z) == some (.type "type")) = true := by rw [hcd, ht] <;> rfl
    show (if ((PySem.W.clsIn K z).isSome && PySem.W.typeIn K (.ref z) == some (.type "type")) = true then PySem.W.subIn K (.ref c) (.ref z) else none) = some b
    rw [if_pos e2]
    exact hs
theorem kit_type {K : PySem.W.Frag} {c : Addr} {T : String} {b : Bool} (hm : PySem.W.kitMeta T = true) (hs : PySem.W.subIn K (.ref c) (.type T) = some b) : PySem.W.kitOne K (.ref c) (.type T) = some b := by
  unfold PySem.W.kitOne PySem.W.kitCls
  have ne : (Value.ref c == Value.type T) = false := rfl
  rw [if_neg (by rw [ne]; exact Bool.false_ne_true)]
  show (if PySem.W.kitMeta T = true then PySem.W.subIn K (.ref c) (.type T) else none) = some b
  rw [if_pos hm]
  exact hs
end Y

namespace Y
open PySem L2 PyProof.Rows
/-! ### range(n) as a value: made, walked, made a tuple or a list of -/
def rRange1 : List V → Hp → VK → Prop := fun vs H Q => ∃ j, vs = [V.int j] ∧ ∀ p, H p = none → Q (.ref p) (upd H p (.rng 0 j))
theorem cr_range1 {X : Cx} : CallR X (.type "range") rRange1 := by
  intro pins s σ H vs us Q I r h
  obtain ⟨j, rfl, q⟩ := h
  obtain ⟨u, rfl, rj⟩ := vals1 r
  obtain ⟨t, rfl⟩ := rj
  refine call_range_1 ⟨.ref s.heap.objs.size, upd H s.heap.objs.size (.rng 0 j), I.laid (t' := s.toks + 1 + 1) (fun b o e => Heap.get?_push_of_some _ e) (Nat.le_refl _) ?_, rfl, q _ (I.hok.fresh (Nat.le_refl _))⟩
  exact ⟨_, _, _, Heap.get?_push_size _ rfl⟩
def tRgV (te : TE) : L2.St → Hp → (Int → Int → Hp → Prop) → Prop := fun σ H Q => te σ H fun x H1 => ∃ a lo hi, x = .ref a ∧ H1 a = some (.rng lo hi) ∧ Q lo hi H1
theorem prg_v {X : Cx} {e : PySem.Expr} {te : TE} (he : PE X e te) : PRg X e (tRgV te) := by
  intro pins s σ H Q I h
  refine thn (he.run pins s σ H _ I h) fun v s1 ⟨x, H1, I1, r1, q1⟩ => ?_
  obtain ⟨a, lo, hi, rfl, ha, q⟩ := q1
  obtain rfl : v = Value.ref a := r1
  obtain ⟨t, u, w, ho⟩ := I1.hok a _ ha
  exact ⟨a, lo, hi, t, u, w, H1, rfl, ho, I1, q⟩
def iRngV (te : TE) : TI := fun σ H R => te σ H fun x H1 => ∃ a lo hi, x = .ref a ∧ H1 a = some (.rng lo hi) ∧ (-(2 ^ 62) ≤ lo ∧ lo < 2 ^ 62 ∧ -(2 ^ 62) ≤ hi ∧ hi < 2 ^ 62) ∧ R (Itr lo (hi - lo).toNat) H1
theorem pi_rngV {X : Cx} {tg e : PySem.Expr} {te : TE} (he : PE X e te) : PI X tg e (iRngV te) := by
  refine ⟨fun pins s σ H R I h => ?_⟩
  refine thn (he.run pins s σ H _ I h) fun v s1 ⟨x, H1, I1, r1, q1⟩ => ?_
  obtain ⟨a, lo, hi, rfl, ha, ⟨h1, h2, h3, h4⟩, q⟩ := q1
  obtain rfl : v = Value.ref a := r1
  obtain ⟨t, u, w, ho⟩ := I1.hok a _ ha
  refine wpAny_pyIter_range (show IsRange s1.heap a lo hi 1 t u w from ho) (small_one h1 h2 h3 h4) ?_
  refine ⟨s1.heap.objs.size, [s1.heap.objs.size], _, _, H1, rfl, I1.kept (t' := s1.toks) fun b o e => Heap.get?_push_of_some _ e, turn_range _ lo (hi - lo).toNat, ?_, fun b hb => ?_, q⟩
  · have e1 : lo + ((0 : Nat) : Int) * 1 = lo := by simp
    have e2 : (((hi - lo).toNat : Nat) : Int) - ((0 : Nat) : Int) = Builtin.Range.rangeSize lo hi 1 := by rw [rangeSize_one]; split <;> omega
    show IsRangeIter _ _ (lo + ((0 : Nat) : Int) * 1) ((((hi - lo).toNat : Nat) : Int) - ((0 : Nat) : Int)) 1
    rw [e1, e2]
    exact Heap.get?_push_size _ rfl
  · have e : b = s1.heap.objs.size := by simpa using hb
    subst e
    exact I1.fpOk (Nat.le_refl _) (I1.hok.fresh (Nat.le_refl _))
def fRange : Sto → List W → Option W := fun _ xs => match xs with
  | [.d (.int n)] => if 0 ≤ n ∧ n ≤ 100000 then some (.r n.toNat) else none
  | _ => none
def gRv (x : W) : M (List D) := fun s => match x with
  | .r n => if n ≤ 100000 then .ok (rngD 0 n) s else .bad
  | _ => .bad
def itV (F : Loc → M W) : Loc → M (List D) := fun ρ => M.bnd (F ρ) gRv
def tupRv (F : Loc → M W) : Loc → M W := fun ρ => M.bnd (F ρ) fun x => M.bnd (gRv x) fun ds => M.ret (.d (.tup ds))
def listRv (F : Loc → M W) : Loc → M W := fun ρ => M.bnd (F ρ) fun x => M.bnd (gRv x) fun ds => M.ret (.d (.lst ds))
section
variable {K : PySem.W.Frag} {mg : Str → Option Value} {E : XK} {w : Wd}
theorem sem_range : SemRL K rRange1 (optL fRange) := semL fun w a x z ok ra h Q q => by
  unfold fRange at h
  split at h
  · rename_i n
    obtain ⟨v, rfl, rv⟩ := ra.one
    obtain rfl : v = .int n := rv
    split at h
    · rename_i hc
      cases h
      refine ⟨n, rfl, fun p hp => ?_⟩
      have e : ((n.toNat : Nat) : Int) = n := by omega
      exact q _ (w.lay p (.rng 0 n)) (gd_lay ok hp) ⟨p, rfl, by rw [e]; exact upd_same⟩
    · cases h
  · cases h
theorem gRv_sat {α : Type} {x : W} {f : List D → M α} {s : Sto} {P : α → Sto → Prop} {E : XC → Sto → Prop} (h : (M.bnd (gRv x) f s).sat P E) : ∃ n, x = .r n ∧ n ≤ 100000 ∧ (f (rngD 0 n) s).sat P E := by
  unfold M.bnd gRv at h
  cases x with
  | r n =>
    by_cases hn : n ≤ 100000
    · simp only [hn, if_true] at h
      exact ⟨n, rfl, hn, h⟩
    · simp only [hn, if_false] at h
      exact h.elim
  | d y => exact h.elim
  | k n => exact h.elim
  | h n => exact h.elim
theorem ei_rngV {te : TE} {F : Loc → M W} (ha : EvE K mg E te F) : EvI K mg E (iRngV te) (itV F) := by
  intro σ ρ w ok r R h
  refine ev1 ha ok r h fun x v w1 g1 ok1 r1 rv h1 => ?_
  have h1' : (M.bnd (gRv x) M.ret w1.st).sat (fun ds s' => ∀ J w', Gd K w1 s' w' → Its K w' J ds → R J w'.H) (EOk K mg E w1) := by
    rw [sat_bnd]
    refine h1.mono (fun ds s' z => ?_) fun _ _ z => z
    exact fun J w' g => z J w' (g1.trans g)
  obtain ⟨n, rfl, hn, h2⟩ := gRv_sat h1'
  obtain ⟨a, rfl, ha⟩ := rv
  refine ⟨a, 0, n, rfl, ha, ⟨by omega, by omega, by omega, by omega⟩, ?_⟩
  rw [show ((n : Int) - 0).toNat = n by omega]
  exact h2 _ w1 (Gd.refl ok1) its_rng
theorem ev_tupRv {te : TE} {F : Loc → M W} (ha : EvE K mg E te F) : EvE K mg E (tTupRg (tRgV te)) (tupRv F) := by
  intro σ ρ w ok r Q h
  refine ev1 ha ok r h fun x v w1 g1 ok1 r1 rv h1 => ?_
  obtain ⟨n, rfl, hn, h2⟩ := gRv_sat h1
  obtain ⟨a, rfl, ha⟩ := rv
  refine ⟨a, 0, n, rfl, ha, RgOk.of_le (by omega) (by omega) (by omega) (by omega), fun q hq => ?_⟩
  have e : rgV 0 n = (List.range n).map fun i => V.int (0 + (i : Nat)) := by rw [rgV_eq]; rfl
  rw [e]
  exact h2 _ _ (g1.trans (gd_lay ok1 hq)) (rep_tup ok1 hq (rep_rng 0 n))
end
section
variable {s : Sto} {ρ : Loc} {E : XC → Sto → Prop} {PD : List D → Sto → Prop} {F : Loc → M W}
theorem o_range {n : Int} (h : 0 ≤ n ∧ n ≤ 100000) : optL fRange [.d (.int n)] s = .ok (.r n.toNat) s := by
  unfold optL fRange
  simp only [h, and_self, if_true]
theorem o_rangeN {n : Nat} (h : n ≤ 100000) : optL fRange [.d (.int (n : Nat))] s = .ok (.r n) s := by
  rw [o_range ⟨by omega, by omega⟩]
  rfl
theorem v_itV : (itV F ρ s).sat PD E ↔ (F ρ s).sat (fun x s' => ∃ n, x = .r n ∧ n ≤ 100000 ∧ PD (rngD 0 n) s') E := by
  unfold itV
  rw [sat_bnd]
  refine iff_of_eq (congrArg (fun Z => (F ρ s).sat Z E) ?_)
  funext x s'
  refine propext ⟨fun h => ?_, ?_⟩
  · exact gRv_sat (f := M.ret) (by rw [sat_bnd]; exact h)
  · rintro ⟨n, rfl, hn, h⟩
    show (if n ≤ 100000 then Res.ok (rngD 0 n) s' else .bad).sat PD E
    rw [if_pos hn]
    exact h
end
end Y

namespace Y
open PySem L2 PyProof.Rows HT
/-! ### t[::-1] of a tuple -/
section
variable {prog : Program} {w : World} {A : Around} {E : Value → Shared → Prop} {s : Shared}
theorem sliceApplied_rev {sl : Addr} {vs : Value} {n : Nat} {Q : Int × Int × Nat → Shared → Prop} (hs : s.heap.IsSliceOf sl .none .none vs) (ps : IsPart vs (some (-1)))
    (h : Q ((n : Int) - 1, -1, n) s) : wpAny (model prog w) A (Builtin.Slice.sliceApplied (.ref sl) (pure (n : Int))) Q E s := by
  obtain ⟨os, hos, hcs, hds⟩ := id hs
  unfold Builtin.Slice.sliceApplied Builtin.Slice.sliceFields
  refine wpAny_bind (wpAny_bind (wpAny_field hos hds (x := .none) rfl (wpAny_bind (wpAny_field hos hds (x := .none) rfl (wpAny_bind (wpAny_field hos hds (x := vs) rfl (wpAny_pure ?_)))))))
  refine wpAny_bind (slicePart_ ps ?_)
  show wpAny _ _ (if ((-1 : Int) == 0) = true then _ else _) _ _ s
  rw [if_neg (by decide)]
  refine wpAny_bind (slicePart_ .none (wpAny_bind (slicePart_ .none (wpAny_bind (wpAny_pure ?_)))))
  show wpAny _ _ (pure ((n : Int) - 1, (-1 : Int), Builtin.Slice.slicePlaces ((n : Int) - 1) (-1) (-1))) _ _ s
  have e : Builtin.Slice.slicePlaces ((n : Int) - 1) (-1) (-1) = n := by
    unfold Builtin.Slice.slicePlaces
    rw [if_neg (by decide)]
    by_cases h0 : (n : Int) - 1 > -1
    · rw [if_pos h0, show (- -1 : Int) = 1 by decide, Int.ediv_one]
      omega
    · rw [if_neg h0]
      omega
  rw [e]
  exact wpAny_pure h
theorem pick_rev (xs : Array Value) : ((List.range xs.size).filterMap fun (m : Nat) => xs[(((xs.size : Int) - 1) + (m : Int) * (-1)).toNat]?).toArray = xs.toList.reverse.toArray := by
  have e : (List.range xs.size).filterMap (fun (m : Nat) => xs[(((xs.size : Int) - 1) + (m : Int) * (-1)).toNat]?) = ((List.range xs.size).map fun k => xs.size - 1 - k).filterMap (xs[·]?) := by
    rw [List.filterMap_map]
    have e3 : ((fun x => xs[x]?) ∘ fun k => xs.size - 1 - k) = fun (m : Nat) => xs[(((xs.size : Int) - 1) + (m : Int) * (-1)).toNat]? := by
      funext m
      show xs[xs.size - 1 - m]? = _
      by_cases h0 : m < xs.size ∨ m = 0
      · have e2 : (((xs.size : Int) - 1) + (m : Int) * (-1)).toNat = xs.size - 1 - m := by omega
        rw [e2]
      · have e2 : (((xs.size : Int) - 1) + (m : Int) * (-1)).toNat = xs.size - 1 - m := by omega
        rw [e2]
    rw [e3]
  rw [e, PySem.W.krv_range, List.filterMap_reverse, PySem.W.krv_all]
theorem getItem_tuple_rev {t sl : Addr} {items : Array Value} {vs : Value} {Q : Value → Shared → Prop} (ht : IsTup s.heap t items) (hs : s.heap.IsSliceOf sl .none .none vs) (ps : IsPart vs (some (-1)))
    (h : Q (.ref s.heap.objs.size) { s with heap := s.heap.push { cls := .type "tuple", data := .seq items.toList.reverse.toArray } }) (hsz : items.size ≤ sizeLine) : wpAny (model prog w) A (getItem (.ref t) (.ref sl)) Q E s := by
  have htake : sizeOk (.seq items.toList.reverse.toArray) := by
    show items.toList.reverse.toArray.size ≤ sizeLine
    rw [List.size_toArray, List.length_reverse, Array.length_toList]
    exact hsz
  obtain ⟨os, hos, hcs, hds⟩ := id hs
  have hTs : s.TypeIs (.ref sl) "slice" := ⟨os, hos, hcs⟩
  unfold getItem
  try with_reducible refine wpAny_holding ?_
  first | refine wpAny_bind (wpAny_pure ?_) | skip
  refine wpAny_bind (wpAny_sequenceKey ht.typeIs (by decide) ?_)
  refine wpAny_bind (wpAny_callSpecial?_slot (name := Str.ofString "__getitem__") ht.typeIs PyProof.Rows.slot_tuple_getitem
    (wpAny_call_entry PyProof.Rows.slot_tuple_getitem ht.typeIs entry_tuple_getitem ?_ (args_tuple_getitem _ _)))
  show wpAny _ _ (Builtin.Tuple.tupleItemsOf (.ref t) >>= _) _ _ s
  refine wpAny_bind (tupleItemsOf_ ht ?_)
  refine wpAny_bind (wpAny_typeOf hTs ?_)
  rw [if_pos (by decide)]
  refine wpAny_bind (sliceApplied_rev hs ps ?_)
  show wpAny _ _ (if (((items.size : Int) - 1) == 0 && (-1 : Int) == 1 && (items.size == items.size)) = true then _ else _) _ _ s
  rw [if_neg (by simp), pick_rev]
  first
    | exact wpAny_bind (m := Builtin.Tuple.tupleExact _) (wpAny_newObj_type (wpAny_pure ⟨_, rfl, wpAny_pure h⟩) htake)
    | exact wpAny_bind (m := Builtin.Tuple.tupleExact _) (wpAny_newObj_type (wpAny_bind (wpAny_pure (wpAny_pure ⟨_, rfl, wpAny_pure h⟩))) htake)
end
def tRevT (K : PySem.W.Frag) (te : TE) : TE := fun σ H Q => te σ H fun x H1 => ∃ a xs, x = .ref a ∧ SqT K H1 a xs ∧ ∀ p, H1 p = none → Q (.ref p) (upd H1 p (.tup xs.reverse))
theorem pe_revT {X : Cx} {e : PySem.Expr} {te : TE} {k : Nat} {p1 p2 p3 pos : Pos} (he : PE X e te) : PE X (.Subscript e (.Slice none none (some (.UnaryOp .USub (.Constant (.int 1) k p1) p2)) p3) pos) (tRevT X.K te) := by
  refine ⟨fun pins s σ H Q I h => ?_⟩
  refine Subscript_ (thn (he.run pins s σ H _ I h) fun v s1 ⟨x, H1, I1, r1, q1⟩ => ?_)
  obtain ⟨a, xs, ex, hx, q⟩ := q1
  subst ex
  cases r1
  have hst : PO X (some (.UnaryOp .USub (.Constant (.int 1) k p1) p2)) (tPart (tUn (rU fun i => .int (-i)) (tC (.int 1)))) := po_some (pe_un un_neg pe_int)
  refine wpAny_Slice (thn (po_none.run pins s1 σ H1 (fun o H2 => o = none ∧ H2 = H1) I1 ⟨rfl, rfl⟩) fun vl s2 ⟨l, H2, I2, pl, el, e2⟩ => ?_)
  subst el e2
  refine thn (po_none.run pins s2 σ H2 (fun o H3 => o = none ∧ H3 = H2) I2 ⟨rfl, rfl⟩) fun vu s3 ⟨u, H3, I3, pu, eu, e3⟩ => ?_
  subst eu e3
  refine thn (hst.run pins s3 σ H3 (fun o H4 => o = some (-1) ∧ H4 = H3) I3 ⟨1, rfl, -1, rfl, rfl, rfl⟩) fun vs s4 ⟨o, H4, I4, ps, eo, e4⟩ => ?_
  subst eo e4
  cases pl
  cases pu
  have I5 : Inv X pins σ H4 { s4 with heap := s4.heap.push { cls := .type "slice", data := .fields #[.none, .none, vs] } } := I4.kept (t' := s4.toks) fun b ob q => Heap.get?_push_of_some _ q
  obtain ⟨its, r, ht, hz⟩ := I5.tuple hx
  have hlen := r.length
  show wpAny (model X.prog X.w) X.A (subscriptTail e (.Slice none none (some (.UnaryOp .USub (.Constant (.int 1) k p1) p2)) p3) (.ref a) (.ref s4.heap.objs.size)) (EP X pins σ Q) X.xe { s4 with heap := s4.heap.push { cls := .type "slice", data := .fields #[.none, .none, vs] } }
  refine tail_any (ops := [.ref a, .ref s4.heap.objs.size]) ht.typeIs (PyProof.Rows.slot_tuple_getitem.lookup) ?_ (by with_unfolding_all rfl)
  refine getItem_tuple_rev ht (Heap.IsSliceOf.new _ .none .none vs) ps ?_ (by rw [List.size_toArray]; omega)
  refine ⟨.ref _, _, I5.laid (t' := s4.toks) (o := .tup xs.reverse) (fun b ob q => Heap.get?_push_of_some _ q) (Nat.le_refl _) ?_, rfl, q _ (I5.hok.fresh (Nat.le_refl _))⟩
  exact ⟨by rw [List.length_reverse]; exact hz, _, r.reverse, IsTup.new _ _⟩
def tRevY (K : PySem.W.Frag) (te : TE) : TE := fun σ H Q => tRevT K te σ H Q ∨ tRevL K te σ H Q
theorem PE.or {X : Cx} {e : PySem.Expr} {t u : TE} (h1 : PE X e t) (h2 : PE X e u) : PE X e (fun σ H Q => t σ H Q ∨ u σ H Q) := ⟨fun pins s σ H Q I h => by
  rcases h with h | h
  · exact h1.run pins s σ H Q I h
  · exact h2.run pins s σ H Q I h⟩
theorem pe_revY {X : Cx} {e : PySem.Expr} {te : TE} {k : Nat} {p1 p2 p3 pos : Pos} (he : PE X e te) : PE X (.Subscript e (.Slice none none (some (.UnaryOp .USub (.Constant (.int 1) k p1) p2)) p3) pos) (tRevY X.K te) := PE.or (pe_revT he) (pe_revL he)
def gRevY (x : W) : M W := fun s => match vw s x with
  | some (.tup ds) => .ok (.d (.tup ds.reverse)) s
  | some (.lst ds) => .ok (.d (.lst ds.reverse)) s
  | _ => .bad
section
variable {K : PySem.W.Frag} {mg : Str → Option Value} {E : XK} {w : Wd}
theorem RepL.rev {H : Hp} {al : Addr → Prop} : ∀ {ds : List D} {vs : List V}, RepL K H al ds vs → RepL K H al ds.reverse vs.reverse
  | [], _, h => by rw [show _ = [] from h]; rfl
  | d :: ds, _, ⟨v, us, e, r, q⟩ => by
    subst e
    rw [List.reverse_cons, List.reverse_cons]
    exact RepL.append (RepL.rev q) ⟨v, [], rfl, r, rfl⟩
theorem ev_revY {te : TE} {F : Loc → M W} (ha : EvE K mg E te F) : EvE K mg E (tRevY K te) (op1 gRevY F) := by
  intro σ ρ w ok r Q h
  unfold op1 at h
  rw [sat_bnd] at h
  cases e : F ρ w.st with
  | bad => rw [e] at h; exact h.elim
  | err x s1 =>
    rw [e] at h
    exact .inl (ha σ ρ w ok r _ (by rw [e]; exact h))
  | ok x s1 =>
    rw [e] at h
    have h' : (gRevY x s1).sat (PW K w Q) (EOk K mg E w) := h
    unfold gRevY at h'
    split at h'
    · rename_i ds hd
      refine .inl (ha σ ρ w ok r _ ?_)
      rw [e]
      intro v w1 g rv
      obtain rfl := g.st
      obtain ⟨a, vs, rfl, hs, rl⟩ := rd_tup g.ok hd rv
      exact ⟨a, vs, rfl, hs, fun p hp => h' _ _ (g.trans (gd_lay g.ok hp)) (rep_tup g.ok hp rl.rev)⟩
    · rename_i ds hd
      refine .inr (ha σ ρ w ok r _ ?_)
      rw [e]
      intro v w1 g rv
      obtain rfl := g.st
      obtain ⟨a, vs, rfl, hs, rl⟩ := rd_sqL g.ok hd (lstOf_is (ds := ds) rfl) rv
      exact ⟨a, vs, rfl, hs, fun p hp => h' _ _ (g.trans (gd_lay g.ok hp)) (rep_lst g.ok hp rl.rev)⟩
    · exact h'.elim
theorem o_revT {ds : List D} {s : Sto} : gRevY (.d (.tup ds)) s = .ok (.d (.tup ds.reverse)) s := rfl
theorem o_revL {ds : List D} {s : Sto} : gRevY (.d (.lst ds)) s = .ok (.d (.lst ds.reverse)) s := rfl
end
end Y

namespace Y
open PySem L2 PyProof.Rows
/-! ### a, b = x, y with plain names -/
def parS (is : List Nat) (A : Loc → M (List W)) : Loc → M (Loc × Fl) := fun ρ => M.bnd (A ρ) fun vs => match is, vs with
  | [i, j], [x, y] => nxt ((ρ.set i (some x)).set j (some y))
  | [i, j, l], [x, y, z] => nxt (((ρ.set i (some x)).set j (some y)).set l (some z))
  | _, _ => M.bad
section
variable {K : PySem.W.Frag} {mg : Str → Option Value} {E : XK} {w : Wd}
theorem ROk.put {σ : L2.St} {ρ : Loc} (h : ROk K w σ ρ) (i : Nat) {x : W} {v : V} (r : RepW K w x v) : ROk K w (σ.set i (some v)) (ρ.set i (some x)) := by
  refine ⟨by rw [List.length_set, List.length_set, h.1], fun j y e => ?_⟩
  by_cases hj : i = j
  · subst hj
    have hi : i < ρ.length := by
      have := (List.getElem?_eq_some_iff.mp e).1
      rwa [List.length_set] at this
    rw [List.getElem?_set_self hi] at e
    cases e
    exact ⟨v, by rw [List.getElem?_set_self (by rw [h.1]; exact hi)], r⟩
  · rw [List.getElem?_set_ne hj] at e
    obtain ⟨u, e2, r2⟩ := h.2 j y e
    exact ⟨u, by rw [List.getElem?_set_ne hj]; exact e2, r2⟩
theorem es_par2 {i j : Nat} {ta : TA} {A : Loc → M (List W)} (ha : EvA K mg E ta A) : EvS K mg E (tPar i j ta) (parS [i, j] A) := by
  intro σ ρ w ok r D h
  refine evA1 (P := PFl K w D) ha ok r h fun x v w1 g1 ok1 r1 rv h1 => ?_
  match x, v, rv, h1 with
  | [a, b], _, ⟨u, _, rfl, ru, ⟨v', _, rfl, rv', rfl⟩⟩, h1 => exact ⟨u, v', rfl, h1 _ w1 g1 ((r1.put i ru).put j rv')⟩
  | [], _, _, h1 => exact h1.elim
  | [_], _, _, h1 => exact h1.elim
  | _ :: _ :: _ :: _, _, _, h1 => exact h1.elim
theorem es_par3 {i j l : Nat} {ta : TA} {A : Loc → M (List W)} (ha : EvA K mg E ta A) : EvS K mg E (tPar3 i j l ta) (parS [i, j, l] A) := by
  intro σ ρ w ok r D h
  refine evA1 (P := PFl K w D) ha ok r h fun x v w1 g1 ok1 r1 rv h1 => ?_
  match x, v, rv, h1 with
  | [a, b, c], _, ⟨u, _, rfl, ru, ⟨v', _, rfl, rv', ⟨w', _, rfl, rw', rfl⟩⟩⟩, h1 => exact ⟨u, v', w', rfl, h1 _ w1 g1 (((r1.put i ru).put j rv').put l rw')⟩
  | [], _, _, h1 => exact h1.elim
  | [_], _, _, h1 => exact h1.elim
  | [_, _], _, _, h1 => exact h1.elim
  | _ :: _ :: _ :: _ :: _, _, _, h1 => exact h1.elim
end
section
variable {s s' : Sto} {ρ : Loc} {E : XC → Sto → Prop} {PS : (Loc × Fl) → Sto → Prop} {A : Loc → M (List W)} {R : Loc → M (Loc × Fl)}
theorem st_par2 {i j : Nat} {x y : W} (h : A ρ s = .ok [x, y] s') (q : (R ((ρ.set i (some x)).set j (some y)) s').sat PS E) : (seqS (parS [i, j] A) R ρ s).sat PS E := by
  rw [v_seq]
  unfold parS
  rw [sat_bnd, h]
  exact q
theorem st_par3 {i j l : Nat} {x y z : W} (h : A ρ s = .ok [x, y, z] s') (q : (R (((ρ.set i (some x)).set j (some y)).set l (some z)) s').sat PS E) : (seqS (parS [i, j, l] A) R ρ s).sat PS E := by
  rw [v_seq]
  unfold parS
  rw [sat_bnd, h]
  exact q
end
end Y

namespace Y
open PySem L2
/-! ### equations: what is walked, comprehensions over typed lists -/
section
variable {α β : Type} {s s' : Sto} {ρ : Loc} {F G : Loc → M W} {T : Loc → M Bool} {I : Loc → M (List D)} {A : Loc → M (List W)} {d e : D} {ds es : List D} {B : D → Loc → Option Loc} {vs : List Nat}
def rg (n : Nat) : List Int := (List.range n).map fun i : Nat => (i : Int)
theorem rg_len (n : Nat) : (rg n).length = n := by simp [rg]
theorem mem_rg {n : Nat} {x : Int} : x ∈ rg n ↔ 0 ≤ x ∧ x < n := by
  unfold rg
  rw [List.mem_map]
  constructor
  · rintro ⟨i, hi, rfl⟩
    have := List.mem_range.mp hi
    omega
  · rintro ⟨h1, h2⟩
    exact ⟨x.toNat, List.mem_range.mpr (by omega), by omega⟩
theorem rg_get {n i : Nat} (h : i < n) : (rg n)[i]? = some (i : Int) := by
  unfold rg
  rw [List.getElem?_map, List.getElem?_range h]
  rfl
theorem rg_D (n : Nat) : rngD 0 n = (rg n).map D.int := by
  unfold rngD rg
  rw [List.map_map]
  refine List.map_congr_left fun i _ => ?_
  show D.int (0 + (i : Int)) = D.int (i : Int)
  rw [Int.zero_add]
theorem e_bnd {m : M α} {f : α → M β} {a : α} (h : m s = .ok a s') : M.bnd m f s = f a s' := bnd_ok h
theorem e_itS (h : F ρ s = .ok (.d d) s') (hd : seqOf d = some ds) : itS F ρ s = .ok ds s' := by
  unfold itS
  rw [bnd_ok h]
  unfold gSeq
  simp only [hd]
theorem e_itR1 {n : Nat} (h : F ρ s = .ok (.d (.int (n : Nat))) s') (hn : n ≤ 100000) : itR1 F ρ s = .ok ((rg n).map D.int) s' := by
  unfold itR1
  rw [bnd_ok h]
  show M.bnd (M.ret (n : Int)) gRg1 s' = _
  rw [bnd_ok (show (M.ret (n : Int)) s' = .ok (n : Int) s' from rfl)]
  unfold gRg1
  rw [if_pos (by omega), ← rg_D]
  rfl
theorem e_itR2 {a b : Int} (h : F ρ s = .ok (.d (.int a)) s') {s2 : Sto} (h2 : G ρ s' = .ok (.d (.int b)) s2) (hn : (-(100000 : Int) ≤ a ∧ a ≤ 100000) ∧ -(100000 : Int) ≤ b ∧ b ≤ 100000) : itR2 F G ρ s = .ok (rngD a (b - a).toNat) s2 := by
  unfold itR2
  rw [bnd_ok h, bnd_ok h2]
  show M.bnd (M.ret a) (fun i => M.bnd (gI (.d (.int b))) fun j => gRg2 i j) s2 = _
  rw [bnd_ok (show (M.ret a) s2 = .ok a s2 from rfl)]
  show M.bnd (M.ret b) (fun j => gRg2 a j) s2 = _
  rw [bnd_ok (show (M.ret b) s2 = .ok b s2 from rfl)]
  unfold gRg2
  rw [if_pos hn]
theorem e_itV {n : Nat} (h : F ρ s = .ok (.r n) s') (hn : n ≤ 100000) : itV F ρ s = .ok ((rg n).map D.int) s' := by
  unfold itV
  rw [bnd_ok h]
  show (if n ≤ 100000 then Res.ok (rngD 0 n) s' else .bad) = _
  rw [if_pos hn, rg_D]
theorem e_tupRv {n : Nat} (h : F ρ s = .ok (.r n) s') (hn : n ≤ 100000) : tupRv F ρ s = .ok (.d (.tup ((rg n).map D.int))) s' := by
  unfold tupRv
  rw [bnd_ok h]
  show M.bnd (gRv (.r n)) _ s' = _
  rw [bnd_ok (show gRv (.r n) s' = .ok (rngD 0 n) s' by show (if n ≤ 100000 then Res.ok (rngD 0 n) s' else .bad) = _; rw [if_pos hn]), rg_D]
  rfl
theorem e_itEn (h : F ρ s = .ok (.d d) s') (hd : seqOf d = some ds) : itEn F ρ s = .ok (enD ds) s' := by
  unfold itEn
  rw [bnd_ok h, bnd_ok (show gSeq (.d d) s' = .ok ds s' by unfold gSeq; simp only [hd])]
  rfl
theorem e_itRev (h : F ρ s = .ok (.d d) s') (hd : seqOf d = some ds) : itRev F ρ s = .ok ds.reverse s' := by
  unfold itRev
  rw [bnd_ok h, bnd_ok (show gSeq (.d d) s' = .ok ds s' by unfold gSeq; simp only [hd])]
  rfl
theorem e_opL {g : List W → M W} {xs : List W} {z : W} {s2 : Sto} (h : A ρ s = .ok xs s') (hg : g xs s' = .ok z s2) : opL g A ρ s = .ok z s2 := by
  unfold opL
  rw [bnd_ok h]
  exact hg
theorem e_op1 {g : W → M W} {x : W} {z : W} {s2 : Sto} (h : F ρ s = .ok x s') (hg : g x s' = .ok z s2) : op1 g F ρ s = .ok z s2 := by
  unfold op1
  rw [bnd_ok h]
  exact hg
theorem e_op2 {g : W → W → M W} {x y : W} {z : W} {s2 s3 : Sto} (h : F ρ s = .ok x s') (h2 : G ρ s' = .ok y s2) (hg : g x y s2 = .ok z s3) : op2 g F G ρ s = .ok z s3 := by
  unfold op2
  rw [bnd_ok h, bnd_ok h2]
  exact hg
theorem e_argN : argN ρ s = .ok [] s := rfl
theorem e_argC {x : W} {xs : List W} {s2 : Sto} (h : F ρ s = .ok x s') (h2 : A ρ s' = .ok xs s2) : argC F A ρ s = .ok (x :: xs) s2 := by
  unfold argC
  rw [bnd_ok h, bnd_ok h2]
  rfl
theorem e_arg1 {x : W} (h : F ρ s = .ok x s') : argC F argN ρ s = .ok [x] s' := e_argC h rfl
theorem e_cal {n : Nat} {f : List W → M W} {xs : List W} {z : W} {s2 : Sto} (h : A ρ s = .ok xs s') (hn : xs.length = n) (hg : f xs s' = .ok z s2) : calL n f A ρ s = .ok z s2 := by
  unfold calL
  rw [bnd_ok h]
  show (if xs.length = n then f xs else M.bad) s' = _
  rw [if_pos hn]
  exact hg
theorem e_tst {b : Bool} (h : F ρ s = .ok (.d (.bl b)) s') : tstV F ρ s = .ok b s' := by
  unfold tstV
  rw [bnd_ok h]
  rfl
theorem e_tru {x : W} {b : Bool} (h : F ρ s = .ok x s') (hb : gTru x s' = .ok b s') : truT F ρ s = .ok b s' := by
  unfold truT
  rw [bnd_ok h]
  exact hb
theorem e_notT {b : Bool} (h : T ρ s = .ok b s') : notT T ρ s = .ok (!b) s' := by
  unfold notT
  rw [bnd_ok h]
  rfl
theorem e_andT {U : Loc → M Bool} {b c : Bool} {s2 : Sto} (h : T ρ s = .ok b s') (h1 : b = true → U ρ s' = .ok c s2) (h0 : b = false → c = false ∧ s2 = s') : andT T U ρ s = .ok c s2 := by
  unfold andT
  rw [bnd_ok h]
  cases b with
  | true => exact h1 rfl
  | false => obtain ⟨rfl, rfl⟩ := h0 rfl; rfl
theorem e_orT {U : Loc → M Bool} {b c : Bool} {s2 : Sto} (h : T ρ s = .ok b s') (h1 : b = false → U ρ s' = .ok c s2) (h0 : b = true → c = true ∧ s2 = s') : orT T U ρ s = .ok c s2 := by
  unfold orT
  rw [bnd_ok h]
  cases b with
  | false => exact h1 rfl
  | true => obtain ⟨rfl, rfl⟩ := h0 rfl; rfl
theorem lcGo_eq (enc : α → D) (out : α → D) {l : List α} (h : ∀ a ∈ l, ∃ ρ1, B (enc a) (wipeL ρ vs) = some ρ1 ∧ F ρ1 s = .ok (.d (out a)) s) : lcGo vs B yes F ρ (l.map enc) s = .ok (l.map out) s := by
  induction l with
  | nil => rfl
  | cons a l ih =>
    obtain ⟨ρ1, e1, e2⟩ := h a List.mem_cons_self
    show (match B (enc a) (wipeL ρ vs) with
      | none => M.bad
      | some ρ1 => M.bnd (nox (yes ρ1)) fun b => if b = true then M.bnd (nox (F ρ1)) fun x => M.bnd (gD x) fun y => M.bnd (lcGo vs B yes F ρ (l.map enc)) fun r => M.ret (y :: r) else lcGo vs B yes F ρ (l.map enc)) s = _
    rw [e1]
    show M.bnd (nox (yes ρ1)) _ s = _
    rw [bnd_ok (show nox (yes ρ1) s = .ok true s from rfl), if_pos rfl, bnd_ok (show nox (F ρ1) s = .ok (.d (out a)) s by unfold nox; rw [e2]), bnd_ok (show gD (.d (out a)) s = .ok (out a) s from rfl), bnd_ok (ih fun a' ha => h a' (List.mem_cons_of_mem _ ha))]
    rfl
theorem lc_eq (enc : α → D) (out : α → D) {l : List α} (hI : I ρ s = .ok (l.map enc) s') (hc : l.length ≤ cap) (h : ∀ a ∈ l, ∃ ρ1, B (enc a) (wipeL ρ vs) = some ρ1 ∧ F ρ1 s' = .ok (.d (out a)) s') : lcE vs I B yes F ρ s = .ok (.d (.lst (l.map out))) s' := by
  unfold lcE
  rw [bnd_ok hI, if_pos (by rw [List.length_map]; exact hc), bnd_ok (lcGo_eq enc out h)]
  rfl
theorem lcGo_eqF (enc : α → D) (p : α → Bool) (out : α → D) {l : List α} (h : ∀ a ∈ l, ∃ ρ1, B (enc a) (wipeL ρ vs) = some ρ1 ∧ T ρ1 s = .ok (p a) s ∧ (p a = true → F ρ1 s = .ok (.d (out a)) s)) : lcGo vs B T F ρ (l.map enc) s = .ok ((l.filter p).map out) s := by
  induction l with
  | nil => rfl
  | cons a l ih =>
    obtain ⟨ρ1, e1, e2, e3⟩ := h a List.mem_cons_self
    have ih' := ih fun a' ha => h a' (List.mem_cons_of_mem _ ha)
    show (match B (enc a) (wipeL ρ vs) with
      | none => M.bad
      | some ρ1 => M.bnd (nox (T ρ1)) fun b => if b = true then M.bnd (nox (F ρ1)) fun x => M.bnd (gD x) fun y => M.bnd (lcGo vs B T F ρ (l.map enc)) fun r => M.ret (y :: r) else lcGo vs B T F ρ (l.map enc)) s = _
    rw [e1]
    show M.bnd (nox (T ρ1)) _ s = _
    rw [bnd_ok (show nox (T ρ1) s = .ok (p a) s by unfold nox; rw [e2])]
    cases hp : p a with
    | false =>
      rw [if_neg (by decide), ih', List.filter_cons, hp]
      rfl
    | true =>
      rw [if_pos rfl, bnd_ok (show nox (F ρ1) s = .ok (.d (out a)) s by unfold nox; rw [e3 hp]), bnd_ok (show gD (.d (out a)) s = .ok (out a) s from rfl), bnd_ok ih', List.filter_cons, hp]
      rfl
theorem lc_eqF (enc : α → D) (p : α → Bool) (out : α → D) {l : List α} (hI : I ρ s = .ok (l.map enc) s') (hc : l.length ≤ cap) (h : ∀ a ∈ l, ∃ ρ1, B (enc a) (wipeL ρ vs) = some ρ1 ∧ T ρ1 s' = .ok (p a) s' ∧ (p a = true → F ρ1 s' = .ok (.d (out a)) s')) : lcE vs I B T F ρ s = .ok (.d (.lst ((l.filter p).map out))) s' := by
  unfold lcE
  rw [bnd_ok hI, if_pos (by rw [List.length_map]; exact hc), bnd_ok (lcGo_eqF enc p out h)]
  rfl
theorem lc_e (enc : α → D) (out : α → D) {l : List α} (hI : I ρ s = .ok (l.map enc) s) (hc : l.length ≤ cap) (h : ∀ a ∈ l, ∃ ρ1, B (enc a) (wipeL ρ vs) = some ρ1 ∧ F ρ1 s = .ok (.d (out a)) s) : lcE vs I B yes F ρ s = .ok (.d (.lst (l.map out))) s := lc_eq enc out hI hc h
theorem lc_eF (enc : α → D) (p : α → Bool) (out : α → D) {l : List α} (hI : I ρ s = .ok (l.map enc) s) (hc : l.length ≤ cap) (h : ∀ a ∈ l, ∃ ρ1, B (enc a) (wipeL ρ vs) = some ρ1 ∧ T ρ1 s = .ok (p a) s ∧ (p a = true → F ρ1 s = .ok (.d (out a)) s)) : lcE vs I B T F ρ s = .ok (.d (.lst ((l.filter p).map out))) s := lc_eqF enc p out hI hc h
/-- a def that only reads -/
theorem run_eq {m N : Nat} {S : Loc → M (Loc × Fl)} {as : List W} {d : D} (h : (S (as.map some ++ List.replicate (N - as.length) none) s).sat (fun r s' => r.2 = .rt (.d d) ∧ s'.take (s.length + m) = s) NoE) : runD m N S as s = .ok (.d d) s := by
  refine eq_of_sat (E := NoE) ?_ fun _ _ z => z
  refine st_run (h.mono (fun r s' z => ?_) fun _ _ z => z)
  obtain ⟨ρ', f⟩ := r
  obtain ⟨rfl, z2⟩ := z
  exact ⟨rfl, rfl, z2⟩
theorem ret_eq {m : Nat} {d : D} (h : F ρ s = .ok (.d d) s') (hs : s'.take (s.length + m) = s) : (retS F ρ s).sat (fun r s2 => r.2 = .rt (.d d) ∧ s2.take (s.length + m) = s) NoE := by
  rw [v_retS, h]
  exact ⟨rfl, hs⟩
theorem take_self {m : Nat} : s.take (s.length + m) = s := List.take_of_length_le (by omega)
theorem take_app {t : Sto} : (s ++ t).take (s.length + 0) = s := by simp
end
end Y

namespace Y
open PySem L2
def Strm (s : Sto) : Prop := ∃ (ns : List Int) (c k : Int) (t : Sto), s = some [.lst (ns.map D.int), .int c, .int k] :: t ∧ 0 ≤ c ∧ 0 ≤ k ∧ ns.length ≤ 63
def Drawn (s s' : Sto) : Prop := Strm s' ∧ s'.tail = s.tail
theorem atI_ints {ns : List Int} {k : Int} (h0 : 0 ≤ k) (h : k < ns.length) : atI (ns.map D.int) k = some (.int (ns.getD k.toNat 0)) := by
  have hk : k.toNat < ns.length := by omega
  have e : ixN (ns.map D.int).length k = some k.toNat := by
    unfold ixN
    rw [if_pos h0, List.length_map, if_pos h]
  unfold atI
  rw [e]
  show (ns.map D.int)[k.toNat]? = _
  rw [List.getElem?_map, List.getElem?_eq_getElem hk]
  simp [List.getD, hk]
theorem Drawn.refl {s : Sto} (h : Strm s) : Drawn s s := ⟨h, rfl⟩
theorem Drawn.trans {a b c : Sto} (x : Drawn a b) (y : Drawn b c) : Drawn a c := ⟨y.1, y.2.trans x.2⟩
theorem Drawn.len {a b : Sto} (h : Strm a) (x : Drawn a b) : b.length = a.length := by
  obtain ⟨_, _, _, t, rfl, _⟩ := h
  obtain ⟨⟨_, _, _, u, rfl, _⟩, e⟩ := x
  have e' : u = t := e
  rw [e']
  rfl
theorem take_len {s : Sto} {n : Nat} (h : s.length = n) : s.take (n + 0) = s := by rw [Nat.add_zero, ← h, List.take_length]
/-! ### models -/
def tI (l : List Int) : D := .tup (l.map .int)
def tII (m : List (List Int)) : D := .tup (m.map tI)
def mdl (b : List Int) (c h : List (List Int)) : D := .tup [tI b, tII c, tII h]
theorem lift {α : Type} {f : α → D} {p : α → Prop} : ∀ {r : List D}, (∀ y ∈ r, ∃ x, y = f x ∧ p x) → ∃ l : List α, r = l.map f ∧ l.length = r.length ∧ ∀ x ∈ l, p x
  | [], _ => ⟨[], rfl, rfl, fun x h => by simp at h⟩
  | y :: r, h => by
    obtain ⟨x, rfl, hx⟩ := h y List.mem_cons_self
    obtain ⟨l, rfl, hl, hp⟩ := lift fun z hz => h z (List.mem_cons_of_mem _ hz)
    refine ⟨x :: l, rfl, by simp, fun z hz => ?_⟩
    rcases List.mem_cons.mp hz with rfl | hz
    · exact hx
    · exact hp z hz
theorem lc_any {α : Type} {vs : List Nat} {B : D → Loc → Option Loc} {F : Loc → M W} {ρ : Loc} {E : XC → Sto → Prop} {f : α → D} {p : α → Prop} {ds : List D} {s : Sto} (h0 : Strm s)
    (h : ∀ d ∈ ds, ∀ s', Drawn s s' → ∃ ρ1, B d (wipeL ρ vs) = some ρ1 ∧ (F ρ1 s').sat (fun x s2 => ∃ y, x = .d (f y) ∧ p y ∧ Drawn s' s2) NoE) :
    (lcGo vs B yes F ρ ds s).sat (fun r s' => Drawn s s' ∧ ∃ l : List α, r = l.map f ∧ l.length = ds.length ∧ ∀ x ∈ l, p x) E := by
  refine (lc_all (Drawn s) (fun _ y => ∃ x, y = f x ∧ p x) (fun d hd s' hs => ?_) (Drawn.refl h0)).mono (fun r s' z => ?_) fun _ _ z => z
  · obtain ⟨ρ1, e, q⟩ := h d hd s' hs
    refine ⟨ρ1, e, q.mono (fun x s2 z => ?_) fun _ _ z => z⟩
    obtain ⟨y, rfl, hp, hs2⟩ := z
    exact ⟨f y, rfl, ⟨y, rfl, hp⟩, hs.trans hs2⟩
  · obtain ⟨z1, z2, z3⟩ := z
    refine ⟨z1, ?_⟩
    obtain ⟨l, e, hl, hp⟩ := lift (r := r) (f := f) (p := p) fun y hy => by
      obtain ⟨i, hi, e⟩ := List.mem_iff_getElem.mp hy
      exact z3 i (ds[i]'(by omega)) y (by simp [show i < ds.length by omega]) (by simp [hi, e])
    exact ⟨l, e, by omega, hp⟩
theorem rng_len (lo : Int) (n : Nat) : (rngD lo n).length = n := by unfold rngD; rw [List.length_map, List.length_range]
def In3 (m : Int) (x : Int) : Prop := 0 ≤ x ∧ x ≤ m
structure MOk (lo n k : Nat) (b : List Int) (c h : List (List Int)) : Prop where
  lo : lo ≤ n
  n3 : n ≤ 3
  k1 : 1 ≤ k
  k3 : k ≤ 3
  bl : b.length = n
  cl : c.length = n
  hl : h.length = n
  bx : ∀ x ∈ b, 0 ≤ x ∧ x ≤ 3
  cx : ∀ r ∈ c, r.length = n ∧ ∀ x ∈ r, 0 ≤ x ∧ x ≤ 3
  hx : ∀ r ∈ h, r.length = k ∧ ∀ x ∈ r, 0 ≤ x ∧ x ≤ 3
theorem x_mdl0 {b : List Int} {c h : List (List Int)} {s : Sto} : fIx s (.d (mdl b c h)) (.d (.int 0)) = some (.d (tI b)) := rfl
theorem x_mdl1 {b : List Int} {c h : List (List Int)} {s : Sto} : fIx s (.d (mdl b c h)) (.d (.int 1)) = some (.d (tII c)) := rfl
theorem x_mdl2 {b : List Int} {c h : List (List Int)} {s : Sto} : fIx s (.d (mdl b c h)) (.d (.int 2)) = some (.d (tII h)) := rfl
theorem x_ix {ds : List D} {i : Int} {d : D} {s : Sto} (h : atI ds i = some d) : fIx s (.d (.tup ds)) (.d (.int i)) = some (.d d) := by
  unfold fIx
  simp only [vw, seqOf, Option.bind_some, h, Option.map_some]
theorem x_tII0 {r : List Int} {h : List (List Int)} {s : Sto} : fIx s (.d (tII (r :: h))) (.d (.int 0)) = some (.d (tI r)) := x_ix (atI_nat (j := 0) rfl)
theorem x_lenI {l : List Int} {s : Sto} : fLen s [.d (tI l)] = some (.d (.int l.length)) := by
  show some (W.d (D.int ((l.map D.int).length))) = _
  rw [List.length_map]
theorem x_lenII {l : List (List Int)} {s : Sto} : fLen s [.d (tII l)] = some (.d (.int l.length)) := by
  show some (W.d (D.int ((l.map tI).length))) = _
  rw [List.length_map]
theorem MOk.cons {lo n k : Nat} {b : List Int} {c h : List (List Int)} (m : MOk lo n k b c h) (hlo : 1 ≤ lo) : ∃ r t, h = r :: t ∧ r.length = k := by
  cases h with
  | nil => have := m.hl; have := m.lo; simp at *; omega
  | cons r t => exact ⟨r, t, rfl, (m.hx r List.mem_cons_self).1⟩
/-! ### what is a model -/
def isNum (lo hi : Int) : D → Bool
  | .int i => decide (lo ≤ i) && decide (i ≤ hi)
  | _ => false
def isTup (lo hi : Int) : D → Bool
  | .tup ds => decide (lo ≤ ds.length) && decide ((ds.length : Int) ≤ hi)
  | .tux ds => decide (lo ≤ ds.length) && decide ((ds.length : Int) ≤ hi)
  | _ => false
mutual
/-- no tuple within is one of those that are known to have no dict -/
def noX : D → Bool
  | .tup ds => noXs ds
  | .lst ds => noXs ds
  | .frz ds => noXs ds
  | .tux _ => false
  | _ => true
def noXs : List D → Bool
  | [] => true
  | d :: ds => noX d && noXs ds
end
theorem noXs_mem : ∀ {ds : List D} {d : D}, noXs ds = true → d ∈ ds → noX d = true
  | e :: ds, d, h, hd => by
    unfold noXs at h
    rw [Bool.and_eq_true] at h
    rcases List.mem_cons.mp hd with rfl | hd
    · exact h.1
    · exact noXs_mem h.2 hd
theorem noXs_of : ∀ {ds : List D}, (∀ d ∈ ds, noX d = true) → noXs ds = true
  | [], _ => rfl
  | d :: ds, h => by
    unfold noXs
    rw [h d List.mem_cons_self, noXs_of fun e he => h e (List.mem_cons_of_mem _ he)]
    rfl
theorem noX_tI (l : List Int) : noX (tI l) = true := noXs_of fun d hd => by
  obtain ⟨x, _, rfl⟩ := List.mem_map.mp hd
  rfl
theorem noX_tII (l : List (List Int)) : noX (tII l) = true := noXs_of fun d hd => by
  obtain ⟨x, _, rfl⟩ := List.mem_map.mp hd
  exact noX_tI x
theorem noX_mdl (b : List Int) (c h : List (List Int)) : noX (mdl b c h) = true := noXs_of fun d hd => by
  simp only [List.mem_cons, List.not_mem_nil, or_false] at hd
  rcases hd with rfl | rfl | rfl
  · exact noX_tI b
  · exact noX_tII c
  · exact noX_tII h
def isInt : D → Bool
  | .int _ => true
  | _ => false
theorem x_all {bs : List Bool} {s : Sto} : fAll s [.d (.lst (bs.map .bl))] = some (.d (.bl (bs.all id))) := by
  have h : ∀ bs : List Bool, blsOf (bs.map .bl) = some bs := fun bs => by
    induction bs with
    | nil => rfl
    | cons b r ih => simp [blsOf, ih]
  unfold fAll fOvr
  simp [vw, lstOf, h]
theorem x_allM {ds : List D} {p : D → Bool} {s : Sto} : fAll s [.d (.lst (ds.map fun d => .bl (p d)))] = some (.d (.bl (ds.all p))) := by
  have e : (ds.map fun d => D.bl (p d)) = (ds.map p).map D.bl := by rw [List.map_map]; rfl
  rw [e, x_all]
  simp [List.all_map]
def isRow (c : Int) (x : D) : Bool := isTup c c x && (match x with | .tup es => es.all (isNum 0 3) | _ => false)
def isTab (r c : Int) (x : D) : Bool := isTup r r x && (match x with | .tup ds => ds.all (isRow c) | _ => false)
theorem isTup_tup {lo hi : Int} {x : D} (hn : noX x = true) (h : isTup lo hi x = true) : ∃ ds, x = .tup ds ∧ lo ≤ ds.length ∧ (ds.length : Int) ≤ hi := by
  cases x with
  | tup ds =>
    simp [isTup] at h
    exact ⟨ds, rfl, h.1, h.2⟩
  | tux ds => cases hn
  | _ => cases h
def isMdlD : D → Bool
  | .tup [b, c, h] => isTup 1 3 b && (match b with
    | .tup bs => bs.all (isNum 0 3) && (isTab bs.length bs.length c && (isTup bs.length bs.length h && (match h with
      | .tup (r :: hs) => isTup 1 3 r && (match r with
        | .tup rs => isTab bs.length rs.length (.tup (r :: hs))
        | _ => false)
      | _ => false)))
    | _ => false)
  | _ => false
theorem isNum_ok {x : Int} (h : 0 ≤ x ∧ x ≤ 3) : isNum 0 3 (.int x) = true := by simp [isNum, h]
theorem allNum_ok {l : List Int} (h : ∀ x ∈ l, 0 ≤ x ∧ x ≤ 3) : (l.map D.int).all (isNum 0 3) = true := by
  rw [List.all_eq_true]
  intro d hd
  obtain ⟨x, hx, rfl⟩ := List.mem_map.mp hd
  exact isNum_ok (h x hx)
theorem isTup_len {lo hi : Int} {ds : List D} (h : lo ≤ ds.length ∧ (ds.length : Int) ≤ hi) : isTup lo hi (.tup ds) = true := by simp [isTup, h]
theorem isRow_ok {l : List Int} {k : Nat} (hl : l.length = k) (h : ∀ x ∈ l, 0 ≤ x ∧ x ≤ 3) : isRow k (tI l) = true := by
  unfold isRow tI
  rw [isTup_len (by rw [List.length_map]; omega)]
  show (true && (l.map D.int).all (isNum 0 3)) = true
  rw [allNum_ok h]
  rfl
theorem isTab_ok {m : List (List Int)} {n k : Nat} (hm : m.length = n) (h : ∀ r ∈ m, r.length = k ∧ ∀ x ∈ r, 0 ≤ x ∧ x ≤ 3) : isTab n k (tII m) = true := by
  unfold isTab tII
  rw [isTup_len (by rw [List.length_map]; omega), Bool.true_and]
  show (m.map tI).all (isRow k) = true
  rw [List.all_eq_true]
  intro d hd
  obtain ⟨x, hx, rfl⟩ := List.mem_map.mp hd
  exact isRow_ok (h x hx).1 (h x hx).2
theorem isMdl_ok {lo n k : Nat} {b : List Int} {c h : List (List Int)} (m : MOk lo n k b c h) (hlo : 1 ≤ lo) : isMdlD (mdl b c h) = true := by
  obtain ⟨r, t, rfl, hr⟩ := m.cons hlo
  have e1 := isTab_ok m.cl m.cx
  have e2 := isTab_ok m.hl m.hx
  have h1 := m.lo
  have h2 := m.n3
  have h3 := m.k1
  have h4 := m.k3
  have h5 := m.bl
  have h6 := m.hl
  unfold mdl isMdlD
  show (isTup 1 3 (tI b) && ((b.map D.int).all (isNum 0 3) && (isTab ((b.map D.int).length : Nat) ((b.map D.int).length : Nat) (tII c) && (isTup ((b.map D.int).length : Nat) ((b.map D.int).length : Nat) (tII (r :: t)) && (isTup 1 3 (tI r) && isTab ((b.map D.int).length : Nat) ((r.map D.int).length : Nat) (tII (r :: t))))))) = true
  rw [show isTup 1 3 (tI b) = true from isTup_len (by rw [List.length_map]; omega), allNum_ok m.bx, List.length_map, List.length_map, m.bl, hr, e1, e2, show isTup n n (tII (r :: t)) = true from isTup_len (by rw [List.length_map]; omega), show isTup 1 3 (tI r) = true from isTup_len (by rw [List.length_map]; omega)]
  rfl
def isSgsB (lo hi : Int) (k : Nat) (x : D) : Bool := isTup lo hi x && (match x with | .tup ds => ds.all (isNum 0 ((k : Int) - 1)) | _ => false)
def isSgs (k : Nat) (x : D) : Bool := isSgsB 0 20 k x
theorem isSgsB_ok {u v : Int} {k : Nat} {l : List Int} (h0 : u ≤ l.length) (h1 : l.length ≤ v) (h : ∀ x ∈ l, 0 ≤ x ∧ x < k) : isSgsB u v k (tI l) = true := by
  unfold isSgsB tI
  rw [isTup_len ⟨by rw [List.length_map]; omega, by rw [List.length_map]; omega⟩, Bool.true_and]
  show (l.map D.int).all _ = true
  rw [List.all_eq_true]
  intro d hd
  obtain ⟨x, hx, rfl⟩ := List.mem_map.mp hd
  have := h x hx
  simp [isNum]
  omega
theorem isSgs_ok {k : Nat} {l : List Int} (h1 : l.length ≤ 20) (h : ∀ x ∈ l, 0 ≤ x ∧ x < k) : isSgs k (tI l) = true := by
  unfold isSgs isSgsB tI
  rw [isTup_len ⟨by omega, by rw [List.length_map]; omega⟩, Bool.true_and]
  show (l.map D.int).all _ = true
  rw [List.all_eq_true]
  intro d hd
  obtain ⟨x, hx, rfl⟩ := List.mem_map.mp hd
  have := h x hx
  simp [isNum]
  omega
theorem isSgs_no {k : Nat} {ds : List D} {x : D} (hx : x ∈ ds) (h : isNum 0 ((k : Int) - 1) x = false) : isSgs k (.tup ds) = false := by
  unfold isSgs isSgsB
  have e : ds.all (isNum 0 ((k : Int) - 1)) = false := by
    rw [List.all_eq_false]
    exact ⟨x, hx, by rw [h]; exact Bool.false_ne_true⟩
  show (isTup 0 20 (.tup ds) && ds.all (isNum 0 ((k : Int) - 1))) = false
  rw [e, Bool.and_false]
/-! ### equal to itself -/
mutual
def dep : D → Nat
  | .tup ds => deps ds + 1
  | .lst ds => deps ds + 1
  | .frz ds => deps ds + 1
  | _ => 0
def deps : List D → Nat
  | [] => 0
  | d :: ds => max (dep d) (deps ds)
end
mutual
def fine : D → Bool
  | .tup ds => decide (ds.length ≤ 100000) && fines ds
  | .lst ds => decide (ds.length ≤ 100000) && fines ds
  | .frz ds => false
  | .tux _ => false
  | .str x => PyData.strOk x
  | _ => true
def fines : List D → Bool
  | [] => true
  | d :: ds => fine d && fines ds
end
theorem dep_mem : ∀ {ds : List D} {d : D}, d ∈ ds → dep d ≤ deps ds
  | e :: ds, d, h => by
    unfold deps
    rcases List.mem_cons.mp h with rfl | h
    · exact Nat.le_max_left _ _
    · exact Nat.le_trans (dep_mem h) (Nat.le_max_right _ _)
theorem fine_mem : ∀ {ds : List D} {d : D}, fines ds = true → d ∈ ds → fine d = true
  | e :: ds, d, h, hd => by
    unfold fines at h
    rw [Bool.and_eq_true] at h
    rcases List.mem_cons.mp hd with rfl | hd
    · exact h.1
    · exact fine_mem h.2 hd
/-! ### what rows cost -/
def itm (l : List Int) (x : Int) : Int := l.getD x.toNat 0
def lin (m : List (List Int)) (x : Int) : List Int := m.getD x.toNat []
def come (b : List Int) (c : List (List Int)) (row : List Int) (t : Nat) : Int := if t = 0 then itm b (row.getD 0 0) else itm (lin c (row.getD (t - 1) 0)) (row.getD t 0)
def shw (h : List (List Int)) (sg row : List Int) (t : Nat) : Int := itm (lin h (row.getD t 0)) (sg.getD t 0)
def sumTo (f : Nat → Int) : Nat → Int
  | 0 => 0
  | n + 1 => sumTo f n + f n
def costR (b : List Int) (c h : List (List Int)) (sg row : List Int) : Int := sumTo (fun t => come b c row t + shw h sg row t) row.length
def stepsR (b : List Int) (c h : List (List Int)) (sg row : List Int) : List (List Int) := (List.range row.length).map fun t => [come b c row t, shw h sg row t]
theorem sumTo_list (f : Nat → Int) : ∀ n, ((List.range n).map f).sum = sumTo f n
  | 0 => rfl
  | n + 1 => by
    rw [List.range_succ, List.map_append, List.sum_append, sumTo_list f n]
    show _ + ([f n] : List Int).sum = sumTo f n + f n
    rw [List.sum_cons]
    simp
theorem sumTo_add (f : Nat → Int) (a : Nat) : ∀ b, sumTo f (a + b) = sumTo f a + sumTo (fun t => f (a + t)) b
  | 0 => by simp [sumTo]
  | b + 1 => by
    show sumTo f (a + b) + f (a + b) = _ + (sumTo (fun t => f (a + t)) b + f (a + b))
    rw [sumTo_add f a b]
    omega
theorem sumTo_congr {f g : Nat → Int} : ∀ {n : Nat}, (∀ t, t < n → f t = g t) → sumTo f n = sumTo g n
  | 0, _ => rfl
  | n + 1, h => by
    show sumTo f n + f n = sumTo g n + g n
    rw [sumTo_congr fun t ht => h t (by omega), h n (by omega)]
theorem sumTo_le {f : Nat → Int} {k : Int} : ∀ {n : Nat}, (∀ t, t < n → f t ≤ k) → sumTo f n ≤ k * n
  | 0, _ => by simp [sumTo]
  | n + 1, h => by
    show sumTo f n + f n ≤ _
    have h1 := sumTo_le (f := f) (k := k) (n := n) fun t ht => h t (by omega)
    have h2 := h n (by omega)
    have e : k * ((n + 1 : Nat) : Int) = k * n + k := by rw [Int.natCast_add, Int.mul_add]; simp
    rw [e]
    omega
theorem toNat_cast {x : Int} {n : Nat} (h : 0 ≤ x ∧ x < n) : x.toNat < n ∧ ((x.toNat : Nat) : Int) = x := by omega
theorem x_iI {l : List Int} {x : Int} {s : Sto} (h : 0 ≤ x ∧ x < l.length) : fIx s (.d (tI l)) (.d (.int x)) = some (.d (.int (itm l x))) := by
  obtain ⟨h1, h2⟩ := toNat_cast h
  refine x_ix ?_
  have e : atI (l.map D.int) ((x.toNat : Nat) : Int) = some (.int (itm l x)) := by
    refine atI_nat ?_
    rw [List.getElem?_map, List.getElem?_eq_getElem h1]
    unfold itm
    simp [List.getD, h1]
  rw [h2] at e
  exact e
theorem x_iL {m : List (List Int)} {x : Int} {s : Sto} (h : 0 ≤ x ∧ x < m.length) : fIx s (.d (tII m)) (.d (.int x)) = some (.d (tI (lin m x))) := by
  obtain ⟨h1, h2⟩ := toNat_cast h
  refine x_ix ?_
  have e : atI (m.map tI) ((x.toNat : Nat) : Int) = some (tI (lin m x)) := by
    refine atI_nat ?_
    rw [List.getElem?_map, List.getElem?_eq_getElem h1]
    unfold lin
    simp [List.getD, h1]
  rw [h2] at e
  exact e
theorem o_of {f : Sto → W → W → Option W} {a b z : W} {s : Sto} (h : f s a b = some z) : opt2 f a b s = .ok z s := by
  unfold opt2
  rw [h]
theorem o_iI {l : List Int} {x : Int} {s : Sto} (h : 0 ≤ x ∧ x < l.length) : opt2 fIx (.d (tI l)) (.d (.int x)) s = .ok (.d (.int (itm l x))) s := o_of (x_iI h)
theorem o_iL {m : List (List Int)} {x : Int} {s : Sto} (h : 0 ≤ x ∧ x < m.length) : opt2 fIx (.d (tII m)) (.d (.int x)) s = .ok (.d (tI (lin m x))) s := o_of (x_iL h)
theorem itm_nat {l : List Int} {t : Nat} : itm l (t : Int) = l.getD t 0 := rfl
theorem o_m0 {b : List Int} {c h : List (List Int)} {s : Sto} : opt2 fIx (.d (mdl b c h)) (.d (.int 0)) s = .ok (.d (tI b)) s := rfl
theorem o_m1 {b : List Int} {c h : List (List Int)} {s : Sto} : opt2 fIx (.d (mdl b c h)) (.d (.int 1)) s = .ok (.d (tII c)) s := rfl
theorem o_m2 {b : List Int} {c h : List (List Int)} {s : Sto} : opt2 fIx (.d (mdl b c h)) (.d (.int 2)) s = .ok (.d (tII h)) s := rfl
theorem o_lnI {l : List Int} {s : Sto} : optL fLen [.d (tI l)] s = .ok (.d (.int l.length)) s := by
  unfold optL
  rw [x_lenI]
/-- signs and rows of a model -/
def In (n : Nat) (l : List Int) : Prop := ∀ x ∈ l, 0 ≤ x ∧ x < n
theorem In.at {n : Nat} {l : List Int} (h : In n l) {t : Nat} (ht : t < l.length) : 0 ≤ l.getD t 0 ∧ l.getD t 0 < n := by
  have e : l.getD t 0 = l[t] := by simp [List.getD, ht]
  rw [e]
  exact h _ (List.getElem_mem ht)
section
variable {lo n k : Nat} {b : List Int} {c h : List (List Int)} {sg row : List Int}
theorem MOk.gc (m : MOk lo n k b c h) {x : Int} (hx : 0 ≤ x ∧ x < n) : (lin c x).length = n ∧ ∀ y ∈ lin c x, 0 ≤ y ∧ y ≤ 3 := by
  have hl : x.toNat < c.length := by have := m.cl; omega
  have e : lin c x = c[x.toNat] := by unfold lin; simp [List.getD, hl]
  rw [e]
  exact m.cx _ (List.getElem_mem hl)
theorem MOk.gh (m : MOk lo n k b c h) {x : Int} (hx : 0 ≤ x ∧ x < n) : (lin h x).length = k ∧ ∀ y ∈ lin h x, 0 ≤ y ∧ y ≤ 3 := by
  have hl : x.toNat < h.length := by have := m.hl; omega
  have e : lin h x = h[x.toNat] := by unfold lin; simp [List.getD, hl]
  rw [e]
  exact m.hx _ (List.getElem_mem hl)
theorem itm_mem {l : List Int} {x : Int} (hx : 0 ≤ x ∧ x < l.length) : itm l x ∈ l := by
  obtain ⟨h1, _⟩ := toNat_cast hx
  have e : itm l x = l[x.toNat] := by unfold itm; simp [List.getD, h1]
  rw [e]
  exact List.getElem_mem h1
theorem come_le (m : MOk lo n k b c h) (hr : In n row) {t : Nat} (ht : t < row.length) : 0 ≤ come b c row t ∧ come b c row t ≤ 3 := by
  unfold come
  split
  · exact m.bx _ (itm_mem (by rw [m.bl]; exact hr.at (by omega)))
  · have h1 := m.gc (hr.at (show t - 1 < row.length by omega))
    exact h1.2 _ (itm_mem (by rw [h1.1]; exact hr.at ht))
theorem shw_le (m : MOk lo n k b c h) (hr : In n row) (hs : In k sg) (hl : sg.length = row.length) {t : Nat} (ht : t < row.length) : 0 ≤ shw h sg row t ∧ shw h sg row t ≤ 3 := by
  unfold shw
  have h1 := m.gh (hr.at ht)
  exact h1.2 _ (itm_mem (by rw [h1.1]; exact hs.at (by omega)))
/-- the cost with which a state is come to, as an expression says it -/
theorem come_run (m : MOk lo n k b c h) (hr : In n row) {t : Nat} (ht : t < row.length) {s : Sto} {Bx Cx Rx Tx Sx : Loc → M W} {ρ : Loc} (eB : Bx ρ s = .ok (.d (tI b)) s) (eC : Cx ρ s = .ok (.d (tII c)) s) (eR : Rx ρ s = .ok (.d (tI row)) s) (eT : Tx ρ s = .ok (.d (.int t)) s) (eS : Sx ρ s = .ok (.d (.int (row.getD t 0))) s) :
    (ifE (tstV (op2 (opt2 fEq) Tx (cst (.int 0)))) (op2 (opt2 fIx) Bx Sx) (op2 (opt2 fIx) (op2 (opt2 fIx) Cx (op2 (opt2 fIx) Rx (op2 (opt2 fSub) Tx (cst (.int 1))))) Sx)) ρ s = .ok (.d (.int (come b c row t))) s := by
  unfold come
  by_cases h0 : t = 0
  · subst h0
    rw [if_pos rfl]
    have hz : (((0 : Nat) : Int) == 0) = true := rfl
    simp only [op1, op2, opL, opS, argC, argN, slN, slS, andV, orV, notV, tstV, andT, orT, notT, ifE, truT, chn, calL, itS, itR1, M.bnd, M.ret, cst, getL, gB, gI, gD, o_add, o_sub, o_eq, o_ne, o_eqB, o_ltY, o_leY, o_gtY, o_geY, o_int, o_intB, o_abs, o_lenT, o_lenL, o_lenF, o_tupL, o_tupT, o_listT, o_listL, o_isi, o_slT, o_slL, o_is, o_isnot, o_tru, o_truT, o_truL, ↓reduceIte, List.map_cons, List.map_nil, List.cons_append, List.nil_append, List.length_cons, List.length_nil, List.replicate, List.getElem?_cons_zero, List.getElem?_cons_succ, List.set_cons_zero, List.set_cons_succ, Nat.reduceAdd, Nat.reduceSub, Nat.zero_add, eB, eT, eS, hz, o_iI (l := b) (x := row.getD 0 0) (by rw [m.bl]; exact hr.at ht)]
  · rw [if_neg h0]
    have hz : ((t : Int) == 0) = false := by simp; omega
    have e1 : opt2 fIx (.d (tI row)) (.d (.int ((t : Int) - 1))) s = .ok (.d (.int (row.getD (t - 1) 0))) s := by
      have := o_iI (l := row) (x := (t : Int) - 1) (s := s) (by omega)
      rw [this]
      unfold itm
      rw [show ((t : Int) - 1).toNat = t - 1 by omega]
    simp only [op1, op2, opL, opS, argC, argN, slN, slS, andV, orV, notV, tstV, andT, orT, notT, ifE, truT, chn, calL, itS, itR1, M.bnd, M.ret, cst, getL, gB, gI, gD, o_add, o_sub, o_eq, o_ne, o_eqB, o_ltY, o_leY, o_gtY, o_geY, o_int, o_intB, o_abs, o_lenT, o_lenL, o_lenF, o_tupL, o_tupT, o_listT, o_listL, o_isi, o_slT, o_slL, o_is, o_isnot, o_tru, o_truT, o_truL, ↓reduceIte, List.map_cons, List.map_nil, List.cons_append, List.nil_append, List.length_cons, List.length_nil, List.replicate, List.getElem?_cons_zero, List.getElem?_cons_succ, List.set_cons_zero, List.set_cons_succ, Nat.reduceAdd, Nat.reduceSub, Nat.zero_add, eB, eC, eR, eT, eS, hz, Bool.false_eq_true, e1, o_iL (m := c) (x := row.getD (t - 1) 0) (by rw [m.cl]; exact hr.at (by omega)), o_iI (l := lin c (row.getD (t - 1) 0)) (x := row.getD t 0) (by rw [(m.gc (hr.at (show t - 1 < row.length by omega))).1]; exact hr.at ht)]
theorem o_row {l : List Int} {t : Nat} {s : Sto} (ht : t < l.length) : opt2 fIx (.d (tI l)) (.d (.int (t : Nat))) s = .ok (.d (.int (l.getD t 0))) s := by
  rw [o_iI (by omega)]
  rfl
theorem o_shw (m : MOk lo n k b c h) (hr : In n row) (hs : In k sg) (hl : sg.length = row.length) {t : Nat} (ht : t < row.length) {s : Sto} : opt2 fIx (.d (tI (lin h (row.getD t 0)))) (.d (.int (sg.getD t 0))) s = .ok (.d (.int (shw h sg row t))) s :=
  o_iI (by rw [(m.gh (hr.at ht)).1]; exact hs.at (by omega))
theorem o_hrow (m : MOk lo n k b c h) (hr : In n row) {t : Nat} (ht : t < row.length) {s : Sto} : opt2 fIx (.d (tII h)) (.d (.int (row.getD t 0))) s = .ok (.d (tI (lin h (row.getD t 0)))) s :=
  o_iL (by rw [m.hl]; exact hr.at ht)
theorem getD_getElem {l : List Int} {t : Nat} (ht : t < l.length) : l[t] = l.getD t 0 := by simp [List.getD, ht]
theorem enD_map {α : Type} (f : α → D) (l : List α) (x0 : α) : enD (l.map f) = (List.range l.length).map fun i => .tup [.int (i : Nat), f (l.getD i x0)] := by
  unfold enD
  rw [List.length_map]
  refine List.map_congr_left fun i hi => ?_
  have := List.mem_range.mp hi
  simp [List.getD, this]
def comeAt (b : List Int) (c : List (List Int)) (row : List Int) (t : Nat) (x : Int) : Int := if t = 0 then itm b x else itm (lin c (row.getD (t - 1) 0)) x
theorem come_at (b : List Int) (c : List (List Int)) (row : List Int) (t : Nat) : comeAt b c row t (row.getD t 0) = come b c row t := by
  unfold comeAt come
  by_cases h0 : t = 0
  · subst h0; rfl
  · rw [if_neg h0, if_neg h0]
theorem t_two (x y : D) (s : Sto) : gTup [.d x, .d y] s = .ok (.d (.tup [x, y])) s := rfl
def ltR (c1 c2 : Int) (r1 r2 : List Int) : Bool := decide (c1 < c2) || (decide (c1 = c2) && ltI r1 r2)
theorem dataLt_tI (l r : List Int) : PySem.W.dataLt (toPy (tI l)) (toPy (tI r)) = ltI l r := by
  show PySem.W.dataLt (.tuple (toPys (l.map D.int))) (.tuple (toPys (r.map D.int))) = _
  rw [PySem.W.dataLt_tuple, toPys_ints, toPys_ints]
  exact rowLt_ints l r
theorem alike_tI (l r : List Int) : PySem.W.alike (toPy (tI l)) (toPy (tI r)) = true := by
  show PySem.W.alike (.tuple (toPys (l.map D.int))) (.tuple (toPys (r.map D.int))) = true
  rw [PySem.W.alike, toPys_ints, toPys_ints]
  exact PySem.W.alike_ints l r
theorem depth_tI (l : List Int) : (toPy (tI l)).depth = 1 := by
  show (PyData.tuple (toPys (l.map D.int))).depth = 1
  rw [PyData.depth, toPys_ints, PySem.W.depth_ints]
theorem eqv_tI (l r : List Int) : PyData.eqv (toPy (tI l)) (toPy (tI r)) = decide (l = r) := by
  show PyData.eqv (.tuple (toPys (l.map D.int))) (.tuple (toPys (r.map D.int))) = _
  rw [PyData.eqv, toPys_ints, toPys_ints]
  exact PySem.W.ked_eqvAll l r
theorem o_ltRow (l r : List Int) (s : Sto) : opt2 fLtY (.d (tI l)) (.d (tI r)) s = .ok (.d (.bl (ltI l r))) s := by
  refine o_of ?_
  unfold fLtY fCmp
  simp only [vw, tI]
  rw [if_pos ⟨alike_tI l r, rfl, by have := depth_tI l; unfold tI at this; omega⟩]
  rw [show PySem.W.dataLt (toPy (.tup (l.map D.int))) (toPy (.tup (r.map D.int))) = ltI l r from dataLt_tI l r]
theorem o_ltPair (c1 c2 : Int) (l r : List Int) (s : Sto) : opt2 fLtY (.d (.tup [.int c1, tI l])) (.d (.tup [.int c2, tI r])) s = .ok (.d (.bl (ltR c1 c2 l r))) s := by
  refine o_of ?_
  unfold fLtY fCmp
  simp only [vw]
  have ha : PySem.W.alike (toPy (.tup [.int c1, tI l])) (toPy (.tup [.int c2, tI r])) = true := by
    have := alike_tI l r
    simp only [toPy, toPys, PySem.W.alike, PySem.W.alikeAll, this, Bool.and_true]
  have hd : (toPy (.tup [.int c1, tI l])).depth ≤ 60 := by
    have := depth_tI l
    simp only [toPy, toPys, PyData.depth, PyData.depthAll, this]
    decide
  rw [if_pos ⟨ha, rfl, hd⟩]
  have e : PySem.W.dataLt (toPy (.tup [.int c1, tI l])) (toPy (.tup [.int c2, tI r])) = ltR c1 c2 l r := by
    show PySem.W.dataLt (.tuple [.int c1, toPy (tI l)]) (.tuple [.int c2, toPy (tI r)]) = _
    rw [PySem.W.dataLt_pair (by simp [PySem.W.alike]) (alike_tI l r), PySem.W.dataLt_int, dataLt_tI, eqv_tI]
    unfold ltR
    by_cases h1 : c1 = c2
    · subst h1
      by_cases h2 : l = r
      · subst h2
        simp [PyData.eqv, ltI_irr]
      · simp [PyData.eqv, h2]
    · simp [PyData.eqv, h1]
  rw [e]
end
section
variable {lo n k : Nat} {b : List Int} {c h : List (List Int)} {sg row : List Int}
end
/-! ### the law's own rows and costs -/
theorem rng_nat {n i : Nat} {d : D} (h : (rngD 0 n)[i]? = some d) : d = .int (i : Nat) ∧ i < n := by
  unfold rngD at h
  rw [List.getElem?_map, Option.map_eq_some_iff] at h
  obtain ⟨j, hj, rfl⟩ := h
  obtain ⟨h1, h2⟩ := List.getElem?_eq_some_iff.mp hj
  rw [List.getElem_range] at h2
  rw [List.length_range] at h1
  subst h2
  exact ⟨by simp, h1⟩
/-! ### slices of rows -/
theorem o_toI {l : List Int} {i : Nat} {s : Sto} (h : i ≤ l.length) : optS fSl (.d (tI l)) none (some (i : Int)) s = .ok (.d (tI (l.take i))) s := by
  unfold tI
  rw [o_slT, cut_to (by rw [List.length_map]; exact h), List.map_take]
theorem o_fromI {l : List Int} {i : Nat} {s : Sto} (h : i ≤ l.length) : optS fSl (.d (tI l)) (some (i : Int)) none s = .ok (.d (tI (l.drop i))) s := by
  unfold tI
  rw [o_slT, cut_from (by rw [List.length_map]; exact h), List.map_drop]
theorem o_midI {l : List Int} {i : Nat} {s : Sto} (h : i < l.length) : optS fSl (.d (tI l)) (some (i : Int)) (some ((i : Int) + 1)) s = .ok (.d (tI ((l.drop i).take 1))) s := by
  unfold tI
  have e : cutD (l.map D.int) (some (i : Int)) (some ((i : Int) + 1)) = ((l.drop i).take 1).map D.int := by
    unfold cutD
    rw [show ((i : Int) + 1) = ((i + 1 : Nat) : Int) from rfl, HT.sIx_nat, HT.sIx_nat, List.length_map, Nat.min_eq_left (by omega), Nat.min_eq_left (by omega), show i + 1 - i = 1 by omega, List.map_take, List.map_drop]
  rw [o_slT, e]
theorem o_catI {a b : List Int} {s : Sto} (h : a.length + b.length ≤ cap) : opt2 fAdd (.d (tI a)) (.d (tI b)) s = .ok (.d (tI (a ++ b))) s := by
  unfold tI
  rw [o_catT (by rw [List.length_map, List.length_map]; exact h), List.map_append]
theorem In.take {n : Nat} {l : List Int} (h : In n l) (i : Nat) : In n (l.take i) := fun x hx => h x (List.mem_of_mem_take hx)
theorem In.drop {n : Nat} {l : List Int} (h : In n l) (i : Nat) : In n (l.drop i) := fun x hx => h x (List.mem_of_mem_drop hx)
theorem In.app {n : Nat} {l r : List Int} (h : In n l) (h2 : In n r) : In n (l ++ r) := fun x hx => (List.mem_append.mp hx).elim (h x) (h2 x)
theorem getD_take {l : List Int} {i t : Nat} (h : t < i) : (l.take i).getD t 0 = l.getD t 0 := by simp [List.getD, List.getElem?_take, h]
theorem getD_drop {l : List Int} {i t : Nat} : (l.drop i).getD t 0 = l.getD (i + t) 0 := by simp [List.getD, List.getElem?_drop]
theorem sumTo_first {f g : Nat → Int} {d : Int} (h0 : f 0 = g 0 + d) : ∀ {n : Nat}, 0 < n → (∀ t, 0 < t → f t = g t) → sumTo f n = sumTo g n + d
  | 0, h, _ => by omega
  | 1, _, _ => by
    show (0 : Int) + f 0 = 0 + g 0 + d
    rw [h0]
    omega
  | n + 2, _, h => by
    show sumTo f (n + 1) + f (n + 1) = sumTo g (n + 1) + g (n + 1) + d
    rw [sumTo_first h0 (by omega) h, h (n + 1) (by omega)]
    omega
theorem cost_cut {b : List Int} {c h : List (List Int)} {sg row : List Int} (hl : sg.length = row.length) {a : Nat} (h1 : 1 ≤ a) (h2 : a < row.length) :
    costR b c h (sg.take a) (row.take a) + costR b c h (sg.drop a) (row.drop a) - itm b (row.getD a 0) + itm (lin c (row.getD (a - 1) 0)) (row.getD a 0) = costR b c h sg row := by
  have e1 : costR b c h (sg.take a) (row.take a) = sumTo (fun t => come b c row t + shw h sg row t) a := by
    unfold costR
    rw [List.length_take, Nat.min_eq_left (by omega)]
    refine sumTo_congr fun t ht => ?_
    unfold come shw
    rw [getD_take ht, getD_take ht, getD_take (by omega), getD_take (by omega)]
  have e2 : costR b c h sg row = sumTo (fun t => come b c row t + shw h sg row t) a + sumTo (fun t => come b c row (a + t) + shw h sg row (a + t)) (row.length - a) := by
    rw [← sumTo_add, show a + (row.length - a) = row.length by omega]
    rfl
  have e3 : sumTo (fun t => come b c row (a + t) + shw h sg row (a + t)) (row.length - a) = costR b c h (sg.drop a) (row.drop a) + (itm (lin c (row.getD (a - 1) 0)) (row.getD a 0) - itm b (row.getD a 0)) := by
    unfold costR
    rw [List.length_drop]
    refine sumTo_first ?_ (by omega) fun t ht => ?_
    · unfold come shw
      rw [if_neg (by omega), if_pos rfl, getD_drop, getD_drop]
      simp only [Nat.add_zero]
      omega
    · unfold come shw
      rw [if_neg (by omega), if_neg (by omega), getD_drop, getD_drop, getD_drop, show a + (t - 1) = a + t - 1 by omega]
  rw [e1, e2, e3]
  omega
theorem cost_le {lo n k : Nat} {b : List Int} {c h : List (List Int)} {sg row : List Int} (m : MOk lo n k b c h) (hr : In n row) (hs : In k sg) (hl : sg.length = row.length) : costR b c h sg row ≤ 6 * row.length :=
  sumTo_le fun t ht => by
    have h1 := come_le m hr ht
    have h2 := shw_le m hr hs hl ht
    omega
theorem ltR_irr (c : Int) (l : List Int) : ltR c c l l = false := by simp [ltR, ltI_irr]
theorem ltR_tri (c1 c2 : Int) (l r : List Int) (h : l = r → c1 = c2) : ltR c2 c1 r l = (!ltR c1 c2 l r && !decide (l = r)) := by
  unfold ltR
  rw [ltI_tri l r]
  by_cases h1 : c1 = c2
  · subst h1
    simp
  · have h2 : l ≠ r := fun z => h1 (h z)
    have h3 : ¬ c2 = c1 := fun z => h1 z.symm
    by_cases h4 : c1 < c2
    · have : ¬ c2 < c1 := by omega
      simp [h1, h2, h3, h4, this]
    · have : c2 < c1 := by omega
      simp [h1, h2, h3, h4, this]
theorem shaped_tI (l : List Int) : SeqAt.shaped (toPy (tI l)) = true := by
  show SeqAt.shaped (.tuple (toPys (l.map D.int))) = true
  rw [toPys_ints]
  have h0 : ∀ l : List Int, PyData.canLayAll0 (l.map PyData.int) = true := fun l => by
    induction l with
    | nil => rfl
    | cons x l ih => simp [PyData.canLayAll0, PyData.canLay0, ih]
  simp [SeqAt.shaped, PyData.canLay0, PyData.depth, h0, PySem.W.depth_ints]
theorem x_eqI (l r : List Int) (s : Sto) : fEq s (.d (tI l)) (.d (tI r)) = some (.d (.bl (decide (l = r)))) := by
  unfold fEq fEqv
  simp only [vw]
  rw [if_pos ⟨shaped_tI l, shaped_tI r⟩, eqv_tI]
  rfl
theorem x_neI (l r : List Int) (s : Sto) : fNe s (.d (tI l)) (.d (tI r)) = some (.d (.bl (!decide (l = r)))) := by
  unfold fNe fEqv
  simp only [vw]
  rw [if_pos ⟨shaped_tI l, shaped_tI r⟩, eqv_tI]
  rfl
theorem x_eqN (i j : Int) (s : Sto) : fEq s (.d (.int i)) (.d (.int j)) = some (.d (.bl (i == j))) := by
  have h := o_eq (s := s) (i := i) (j := j)
  unfold opt2 at h
  split at h
  · rename_i z e
    cases h
    exact e
  · cases h
section
variable {T : Loc → M Bool} {S U R : Loc → M (Loc × Fl)} {ρ : Loc} {s : Sto} {PS : Loc × Fl → Sto → Prop} {E : XC → Sto → Prop}
theorem st_ifP {Q : Bool → Sto → Prop} (h : (T ρ s).sat Q E) (h1 : ∀ s', Q true s' → (S ρ s').sat PS E) (h2 : ∀ s', Q false s' → (U ρ s').sat PS E) : (ifS T S U ρ s).sat PS E := by
  rw [v_ifS]
  refine h.mono (fun b s' q => ?_) fun _ _ z => z
  cases b
  · rw [if_neg (by decide)]
    exact h2 s' q
  · rw [if_pos rfl]
    exact h1 s' q
end
theorem deps_le : ∀ {ds : List D} {n : Nat}, (∀ d ∈ ds, dep d ≤ n) → deps ds ≤ n
  | [], n, _ => Nat.zero_le _
  | d :: ds, n, h => by
    unfold deps
    exact Nat.max_le.mpr ⟨h d List.mem_cons_self, deps_le fun e he => h e (List.mem_cons_of_mem _ he)⟩
theorem fines_of : ∀ {ds : List D}, (∀ d ∈ ds, fine d = true) → fines ds = true
  | [], _ => rfl
  | d :: ds, h => by
    unfold fines
    rw [h d List.mem_cons_self, fines_of fun e he => h e (List.mem_cons_of_mem _ he)]
    rfl
theorem dep_tI (l : List Int) : dep (tI l) ≤ 1 := by
  unfold tI dep
  have := deps_le (ds := l.map D.int) (n := 0) fun d hd => by
    obtain ⟨x, _, rfl⟩ := List.mem_map.mp hd
    exact Nat.le_refl _
  omega
theorem fine_tI {l : List Int} (h : l.length ≤ 100000) : fine (tI l) = true := by
  unfold tI fine
  rw [fines_of fun d hd => by
    obtain ⟨x, _, rfl⟩ := List.mem_map.mp hd
    rfl]
  simp [h]
theorem dep_tII (l : List (List Int)) : dep (tII l) ≤ 2 := by
  unfold tII dep
  have := deps_le (ds := l.map tI) (n := 1) fun d hd => by
    obtain ⟨x, _, rfl⟩ := List.mem_map.mp hd
    exact dep_tI x
  omega
theorem fine_tII {m : List (List Int)} (h : m.length ≤ 100000) (h2 : ∀ l ∈ m, l.length ≤ 100000) : fine (tII m) = true := by
  unfold tII fine
  rw [fines_of fun d hd => by
    obtain ⟨x, hx, rfl⟩ := List.mem_map.mp hd
    exact fine_tI (h2 x hx)]
  simp [h]
theorem o_neB {i j : Bool} {s : Sto} : opt2 fNe (.d (.bl i)) (.d (.bl j)) s = .ok (.d (.bl (!(i == j)))) s := by
  cases i <;> cases j <;> rfl
theorem o_neI {l r : List Int} {s : Sto} : opt2 fNe (.d (tI l)) (.d (tI r)) s = .ok (.d (.bl (!decide (l = r)))) s := o_of (x_neI l r s)
theorem o_eqI {l r : List Int} {s : Sto} : opt2 fEq (.d (tI l)) (.d (tI r)) s = .ok (.d (.bl (decide (l = r)))) s := o_of (x_eqI l r s)
/-! ### all rows, and their order -/
theorem ltI_trans : ∀ {a b c : List Int}, ltI a b = true → ltI b c = true → ltI a c = true
  | _, [], [], _, h => by cases h
  | [], [], _ :: _, h, _ => by cases h
  | _ :: _, [], _, h, _ => by cases h
  | [], _ :: _, [], _, h => by cases h
  | _ :: _, _ :: _, [], _, h => by cases h
  | [], _ :: _, _ :: _, _, _ => rfl
  | x :: a, y :: b, z :: c, h1, h2 => by
    unfold ltI at h1 h2 ⊢
    by_cases e1 : x = y
    · subst e1
      rw [if_pos rfl] at h1
      by_cases e2 : x = z
      · rw [if_pos e2] at h2 ⊢
        exact ltI_trans h1 h2
      · rw [if_neg e2] at h2 ⊢
        exact h2
    · rw [if_neg e1] at h1
      have h1 := of_decide_eq_true h1
      by_cases e2 : y = z
      · subst e2
        rw [if_neg e1]
        exact decide_eq_true h1
      · rw [if_neg e2] at h2
        have h2 := of_decide_eq_true h2
        rw [if_neg (by omega)]
        exact decide_eq_true (by omega)
theorem ltR_cons (c1 c2 : Int) (l r : List Int) : ltR c1 c2 l r = ltI (c1 :: l) (c2 :: r) := by
  unfold ltR
  conv => rhs; unfold ltI
  by_cases h : c1 = c2
  · subst h
    simp
  · simp [h]
def leI (a b : List Int) : Bool := !ltI b a
theorem leI_iff (a b : List Int) : leI a b = (ltI a b || decide (a = b)) := by
  unfold leI
  rw [ltI_tri a b]
  cases ltI a b <;> cases decide (a = b) <;> rfl
theorem leI_trans (a b c : List Int) (h1 : leI a b = true) (h2 : leI b c = true) : leI a c = true := by
  rw [leI_iff, Bool.or_eq_true] at h1 h2 ⊢
  rcases h1 with h1 | h1
  · rcases h2 with h2 | h2
    · exact .inl (ltI_trans h1 h2)
    · rw [← of_decide_eq_true h2]
      exact .inl h1
  · rw [of_decide_eq_true h1]
    exact h2
theorem leI_total (a b : List Int) : (leI a b || leI b a) = true := by
  rw [leI_iff]
  unfold leI
  cases ltI a b <;> simp
/-- rows by a cost -/
def ltC (C : List Int → Int) (a b : List Int) : Bool := ltR (C a) (C b) a b
def leC (C : List Int → Int) (a b : List Int) : Bool := !ltC C b a
theorem leC_I (C : List Int → Int) (a b : List Int) : leC C a b = leI (C a :: a) (C b :: b) := by
  unfold leC ltC leI
  rw [ltR_cons]
theorem ltC_of (C : List Int → Int) {a b : List Int} (h : leC C a b = true) (hn : a ≠ b) : ltC C a b = true := by
  rw [leC_I, leI_iff, Bool.or_eq_true] at h
  unfold ltC
  rw [ltR_cons]
  rcases h with h | h
  · exact h
  · exact absurd (List.cons.inj (of_decide_eq_true h)).2 hn
theorem ltC_irr (C : List Int → Int) (a : List Int) : ltC C a a = false := ltR_irr _ _
theorem ltC_asym (C : List Int → Int) {a b : List Int} (h : ltC C a b = true) : ltC C b a = false := by
  unfold ltC at h ⊢
  rw [ltR_tri (C a) (C b) a b (fun z => by rw [z]), h]
  rfl
theorem sortC (C : List Int → Int) {R : List (List Int)} (hR : R.Nodup) : (R.mergeSort (leC C)).Pairwise fun a b => ltC C a b = true := by
  have h1 := List.pairwise_mergeSort (le := leC C) (fun a b c => by rw [leC_I, leC_I, leC_I]; exact leI_trans _ _ _) (fun a b => by rw [leC_I, leC_I]; exact leI_total _ _) R
  have h2 : (R.mergeSort (leC C)).Nodup := (List.mergeSort_perm R (leC C)).nodup_iff.mpr hR
  exact h1.imp₂ (fun a b x y => ltC_of C x y) h2
/-- all rows of a length -/
def allR (n : Nat) : Nat → List (List Int)
  | 0 => [[]]
  | t + 1 => (allR n t).flatMap fun r => (List.range n).map fun i : Nat => r ++ [(i : Int)]
theorem allR_mem {n : Nat} : ∀ {t : Nat} {r : List Int}, r ∈ allR n t → r.length = t ∧ In n r
  | 0, r, h => by
    obtain rfl := List.mem_singleton.mp h
    exact ⟨rfl, fun x hx => by cases hx⟩
  | t + 1, r, h => by
    obtain ⟨q, hq, hr⟩ := List.mem_flatMap.mp h
    obtain ⟨i, hi, rfl⟩ := List.mem_map.mp hr
    have hi := List.mem_range.mp hi
    obtain ⟨h1, h2⟩ := allR_mem hq
    refine ⟨by rw [List.length_append, h1]; rfl, h2.app fun x hx => ?_⟩
    obtain rfl := List.mem_singleton.mp hx
    omega
theorem allR_nodup {n : Nat} : ∀ t : Nat, (allR n t).Nodup
  | 0 => by simp [allR]
  | t + 1 => by
    unfold allR
    unfold List.Nodup
    rw [List.flatMap, List.pairwise_flatten]
    refine ⟨fun l hl => ?_, ?_⟩
    · obtain ⟨r, _, rfl⟩ := List.mem_map.mp hl
      rw [List.pairwise_map]
      refine List.Pairwise.imp ?_ (List.nodup_range (n := n))
      intro a b hab e
      have := List.append_cancel_left e
      simp at this
      exact hab (Int.ofNat_inj.mp this)
    · rw [List.pairwise_map]
      refine List.Pairwise.imp ?_ (allR_nodup (n := n) t)
      intro a b hab x hx y hy e
      obtain ⟨i, _, rfl⟩ := List.mem_map.mp hx
      obtain ⟨j, _, rfl⟩ := List.mem_map.mp hy
      exact hab (List.append_inj_left' e rfl)
theorem allR_len {n : Nat} : ∀ t : Nat, (allR n t).length = n ^ t
  | 0 => rfl
  | t + 1 => by
    unfold allR
    rw [List.length_flatMap]
    have e : ((allR n t).map fun r => ((List.range n).map fun i : Nat => r ++ [(i : Int)]).length) = (allR n t).map fun _ => n := List.map_congr_left fun r _ => by rw [List.length_map, List.length_range]
    rw [e, List.map_const', List.sum_replicate_nat, allR_len t, Nat.pow_succ]
theorem allR_le {n t : Nat} (hn : n ≤ 3) (ht : t ≤ 4) : (allR n t).length ≤ 81 := by
  rw [allR_len]
  calc n ^ t ≤ 3 ^ t := Nat.pow_le_pow_left hn t
    _ ≤ 3 ^ 4 := Nat.pow_le_pow_right (by decide) ht
theorem allR_pos {n t : Nat} (hn : 1 ≤ n) : 0 < (allR n t).length := by
  rw [allR_len]
  exact Nat.pow_pos hn
def ext (n : Nat) (r : List Int) : List (List Int) := (List.range n).map fun i : Nat => r ++ [(i : Int)]
theorem ext_len (n : Nat) (l : List (List Int)) : (l.flatMap (ext n)).length = l.length * n := by
  rw [List.length_flatMap]
  have e : (l.map fun r => (ext n r).length) = l.map fun _ => n := List.map_congr_left fun r _ => by unfold ext; rw [List.length_map, List.length_range]
  rw [e, List.map_const', List.sum_replicate_nat]
/-! ### sorted rows with their costs -/
def pairC (C : List Int → Int) (r : List Int) : D := .tup [.int (C r), tI r]
theorem alike_pair (c1 c2 : Int) (l r : List Int) : PySem.W.alike (toPy (.tup [.int c1, tI l])) (toPy (.tup [.int c2, tI r])) = true := by
  have := alike_tI l r
  simp only [toPy, toPys, PySem.W.alike, PySem.W.alikeAll, this, Bool.and_true]
theorem depth_pair (c : Int) (l : List Int) : (toPy (.tup [.int c, tI l])).depth ≤ 50 := by
  have := depth_tI l
  simp only [toPy, toPys, PyData.depth, PyData.depthAll, this]
  decide
theorem ltD_pair (c1 c2 : Int) (l r : List Int) : ltD (.tup [.int c1, tI l]) (.tup [.int c2, tI r]) = ltR c1 c2 l r := by
  have h := o_ltPair c1 c2 l r []
  unfold opt2 fLtY fCmp at h
  simp only [vw] at h
  rw [if_pos ⟨alike_pair c1 c2 l r, rfl, by have := depth_pair c1 l; omega⟩] at h
  unfold ltD
  injection h with h
  injection h with h
  injection h with h
theorem x_sortP (C : List Int → Int) {R : List (List Int)} (hR : R.length ≤ cap) (s : Sto) : fSorted s [.d (.lst (R.map (pairC C)))] = some (.d (.lst ((R.mergeSort (leC C)).map (pairC C)))) := by
  unfold fSorted
  simp only [vw, Option.bind_some, lstOf]
  rw [if_pos]
  · refine congrArg (fun z => some (W.d (D.lst z))) ?_
    refine (List.map_mergeSort fun a _ b _ => ?_).symm
    show leC C a b = leD (pairC C a) (pairC C b)
    unfold leC ltC leD pairC
    rw [ltD_pair]
  · refine ⟨fun d hd e he => ?_, .inl fun d hd => ?_, fun d hd => ?_, by rw [List.length_map]; exact hR⟩
    · obtain ⟨x, _, rfl⟩ := List.mem_map.mp hd
      obtain ⟨y, _, rfl⟩ := List.mem_map.mp he
      exact alike_pair _ _ _ _
    · obtain ⟨x, _, rfl⟩ := List.mem_map.mp hd
      exact ⟨_, _, rfl⟩
    · obtain ⟨x, _, rfl⟩ := List.mem_map.mp hd
      exact depth_pair _ _
section
variable {T : Loc → M Bool} {S U R : Loc → M (Loc × Fl)} {ρ : Loc} {s : Sto} {PS : Loc × Fl → Sto → Prop} {E : XC → Sto → Prop}
theorem st_ifSP {Q : Bool → Sto → Prop} (h : (T ρ s).sat Q E) (h1 : ∀ s', Q true s' → (seqS S R ρ s').sat PS E) (h2 : ∀ s', Q false s' → (seqS U R ρ s').sat PS E) : (seqS (ifS T S U) R ρ s).sat PS E := by
  rw [v_seq]
  refine st_ifP h (fun s' q => ?_) fun s' q => ?_
  · have := h1 s' q
    rw [v_seq] at this
    exact this
  · have := h2 s' q
    rw [v_seq] at this
    exact this
end
theorem map_getD {α : Type} (f : List Int → α) (R : List (List Int)) : (List.range R.length).map (fun i => f (R.getD i [])) = R.map f := by
  refine List.ext_getElem (by simp) fun i h1 h2 => ?_
  rw [List.length_map] at h2
  rw [List.getElem_map, List.getElem_range, List.getElem_map, List.getD, List.getElem?_eq_getElem h2]
  rfl
/-! ### models made of models -/
def addI (l : List Int) (x : Int) : List Int := l.map fun y => y + x
def addII (m : List (List Int)) (x : Int) : List (List Int) := m.map fun l => addI l x
/-- the states of a list, in its order -/
def withB (b : List Int) (st : List Int) : List Int := st.map fun i => itm b i
def withC (c : List (List Int)) (st : List Int) : List (List Int) := st.map fun i => st.map fun j => itm (lin c i) j
def withH (h : List (List Int)) (st : List Int) : List (List Int) := st.map fun i => lin h i
/-! ### raised -/
section
variable {ρ : Loc} {s s' : Sto} {PS : Loc × Fl → Sto → Prop} {E : XC → Sto → Prop} {A : Loc → M (List W)} {cls f : Str} {d : D} {R : Loc → M (Loc × Fl)}
theorem st_raise (h : A ρ s = .ok [.d d] s') (q : E ⟨cls, [(f, d)]⟩ s') : (raiseS cls f A ρ s).sat PS E := by
  unfold raiseS
  rw [bnd_ok h]
  exact q
theorem st_raiseS (h : A ρ s = .ok [.d d] s') (q : E ⟨cls, [(f, d)]⟩ s') : (seqS (raiseS cls f A) R ρ s).sat PS E := by
  rw [v_seq]
  exact st_raise h q
end
theorem res_of_sat {r : Res W} {x : W} {e : XC} {p : Bool} {s : Sto} (h : r.sat (fun y s' => y = x ∧ s' = s ∧ p = true) (fun e' s' => e' = e ∧ s' = s ∧ p = false)) : r = if p = true then .ok x s else .err e s := by
  cases r with
  | ok a s' =>
    obtain ⟨rfl, rfl, rfl⟩ := h
    rw [if_pos rfl]
  | err e' s' =>
    obtain ⟨rfl, rfl, rfl⟩ := h
    rw [if_neg (by decide)]
  | bad => exact h.elim
def partS : Nat → Str
  | 0 => "begin"
  | 1 => "change"
  | _ => "show"
def raiB (a : Nat) (b : List Int) (x : Int) : List Int := if a = 0 then addI b x else b
def raiC (a : Nat) (c : List (List Int)) (x : Int) : List (List Int) := if a = 1 then addII c x else c
def raiH (a : Nat) (h : List (List Int)) (x : Int) : List (List Int) := if a = 2 then addII h x else h
/-! ### told: raised, without -/
def others (n : Nat) (a : Int) : List Int := ((List.range n).map fun i : Nat => (i : Int)).filter fun i => !(i == a)
/-! ### the order of costs and rows, by propositions -/
def le (a b : List Int) : Prop := ltI b a = false
theorem le_refl (a : List Int) : le a a := ltI_irr a
theorem le_trans {a b c : List Int} (h1 : le a b) (h2 : le b c) : le a c := by
  unfold le at h1 h2 ⊢
  cases h : ltI c a with
  | false => rfl
  | true =>
    have e := ltI_tri b a
    rw [ltI_tri a b] at h1
    cases h3 : ltI a b with
    | true =>
      rw [ltI_trans h h3] at h2
      cases h2
    | false =>
      rw [h3] at h1
      have : a = b := by simpa using h1
      subst this
      rw [h] at h2
      cases h2
theorem le_total (a b : List Int) : le a b ∨ le b a := by
  unfold le
  rw [ltI_tri a b]
  cases ltI a b <;> simp
theorem le_anti {a b : List Int} (h1 : le a b) (h2 : le b a) : a = b := by
  unfold le at h1 h2
  rw [ltI_tri a b, h2] at h1
  simpa using h1
theorem lt_of {a b : List Int} (h : le a b) (hn : a ≠ b) : ltI a b = true := by
  unfold le at h
  rw [ltI_tri a b] at h
  cases h2 : ltI a b with
  | true => rfl
  | false => rw [h2] at h; exact absurd (by simpa using h) hn
theorem le_of_lt {a b : List Int} (h : ltI a b = true) : le a b := by
  unfold le
  rw [ltI_tri a b, h]
  rfl
theorem le_cons {x y : Int} {l m : List Int} : le (x :: l) (y :: m) ↔ x < y ∨ (x = y ∧ le l m) := by
  unfold le
  show (if y = x then ltI m l else decide (y < x)) = false ↔ _
  by_cases h : y = x
  · subst h
    simp
  · simp only [h, if_false, decide_eq_false_iff_not]
    omega
theorem le_nil (a : List Int) : le [] a := by
  unfold le
  cases a <;> rfl
theorem le_snoc : ∀ {l m : List Int} (_ : l.length = m.length) (s : Int), le (l ++ [s]) (m ++ [s]) ↔ le l m
  | [], [], _, s => by simp [le_refl]
  | x :: l, y :: m, h, s => by
    rw [List.cons_append, List.cons_append, le_cons, le_cons, le_snoc (by simpa using h) s]
/-- what is least of the rows of a kind, by costs and then as rows -/
structure BestI (S : List Int → Prop) (C : List Int → Int) (r : List Int) : Prop where
  mem : S r
  min : ∀ q, S q → le (C r :: r) (C q :: q)
theorem BestI.uniq {S : List Int → Prop} {C : List Int → Int} {r q : List Int} (h1 : BestI S C r) (h2 : BestI S C q) : r = q :=
  (List.cons.inj (le_anti (h1.min q h2.mem) (h2.min r h1.mem))).2
theorem BestI.cost {S : List Int → Prop} {C : List Int → Int} {r q : List Int} (h : BestI S C r) (hq : S q) : C r ≤ C q := by
  have := le_cons.mp (h.min q hq)
  omega
/-! ### rows and their last states -/
def lst (r : List Int) : Int := r.getD (r.length - 1) 0
theorem lst_snoc (r : List Int) (s : Int) : lst (r ++ [s]) = s := by
  unfold lst
  simp [List.getD]
theorem snoc_of : ∀ {r : List Int} {t : Nat}, r.length = t + 1 → ∃ q : List Int, r = q ++ [lst r] ∧ q.length = t := fun {r t} h => by
  have hne : r ≠ [] := fun z => by rw [z] at h; cases h
  refine ⟨r.dropLast, ?_, by rw [List.length_dropLast]; omega⟩
  have e := List.dropLast_concat_getLast hne
  rw [show lst r = r.getLast hne by
    unfold lst
    rw [List.getLast_eq_getElem]
    simp [List.getD, show r.length - 1 < r.length by omega]]
  exact e.symm
theorem getD_snoc {r : List Int} {s : Int} {t : Nat} (h : t < r.length) : (r ++ [s]).getD t 0 = r.getD t 0 := by
  simp [List.getD, List.getElem?_append_left h]
theorem getD_end {r : List Int} {s : Int} {t : Nat} (h : t = r.length) : (r ++ [s]).getD t 0 = s := by
  subst h
  simp [List.getD]
theorem In.snoc {n : Nat} {r : List Int} {s : Int} : In n (r ++ [s]) ↔ In n r ∧ (0 ≤ s ∧ s < n) := by
  constructor
  · intro h
    exact ⟨fun x hx => h x (List.mem_append_left _ hx), h s (by simp)⟩
  · rintro ⟨h1, h2⟩ x hx
    rcases List.mem_append.mp hx with hx | hx
    · exact h1 x hx
    · rw [List.mem_singleton.mp hx]
      exact h2
/-- the cost with which a state is come to behind a row -/
def comeB (b : List Int) (c : List (List Int)) (r : List Int) (s : Int) : Int := if r.length = 0 then itm b s else itm (lin c (lst r)) s
theorem cost_snoc (b : List Int) (c h : List (List Int)) {sg r : List Int} (hl : sg.length = r.length) (x s : Int) : costR b c h (sg ++ [x]) (r ++ [s]) = costR b c h sg r + comeB b c r s + itm (lin h s) x := by
  unfold costR
  rw [List.length_append]
  show sumTo _ r.length + (come b c (r ++ [s]) r.length + shw h (sg ++ [x]) (r ++ [s]) r.length) = _
  rw [sumTo_congr (g := fun t => come b c r t + shw h sg r t) fun t ht => ?_]
  · have e1 : come b c (r ++ [s]) r.length = comeB b c r s := by
      unfold come comeB lst
      by_cases h0 : r.length = 0
      · rw [if_pos h0, if_pos h0, getD_end h0.symm]
      · rw [if_neg h0, if_neg h0, getD_end rfl, getD_snoc (by omega)]
    have e2 : shw h (sg ++ [x]) (r ++ [s]) r.length = itm (lin h s) x := by
      unfold shw
      rw [getD_end rfl, getD_end hl.symm]
    rw [e1, e2]
    omega
  · have e1 : come b c (r ++ [s]) t = come b c r t := by
      unfold come
      by_cases h0 : t = 0
      · subst h0
        rw [if_pos rfl, if_pos rfl, getD_snoc ht]
      · rw [if_neg h0, if_neg h0, getD_snoc (by omega), getD_snoc ht]
    have e2 : shw h (sg ++ [x]) (r ++ [s]) t = shw h sg r t := by
      unfold shw
      rw [getD_snoc ht, getD_snoc (by omega)]
    show come b c (r ++ [s]) t + shw h (sg ++ [x]) (r ++ [s]) t = _
    rw [e1, e2]
def RowOf (n t : Nat) (r : List Int) : Prop := r.length = t ∧ In n r
def EndsIn (n t : Nat) (s : Int) (r : List Int) : Prop := RowOf n t r ∧ lst r = s
theorem end_one {n : Nat} {b : List Int} {c h : List (List Int)} (x : Int) {s : Int} (hs : 0 ≤ s ∧ s < n) : BestI (EndsIn n 1 s) (costR b c h [x]) [s] := by
  refine ⟨⟨⟨rfl, fun y hy => by rw [List.mem_singleton.mp hy]; exact hs⟩, rfl⟩, fun q hq => ?_⟩
  obtain ⟨⟨h1, h2⟩, h3⟩ := hq
  obtain ⟨r, e, hr⟩ := snoc_of h1
  have : r = [] := List.length_eq_zero_iff.mp hr
  subst this
  rw [e, h3]
  exact le_refl _
theorem cost_one (b : List Int) (c h : List (List Int)) (x s : Int) : costR b c h [x] [s] = itm b s + itm (lin h s) x := by
  have := cost_snoc b c h (sg := []) (r := []) rfl x s
  simp only [List.nil_append] at this
  rw [this]
  unfold comeB
  rw [if_pos (show ([] : List Int).length = 0 from rfl)]
  show 0 + _ + _ = _
  omega
theorem end_step {n t : Nat} {b : List Int} {c h : List (List Int)} {sg : List Int} (x : Int) (ht : sg.length = t + 1) {e : Int → List Int} (he : ∀ p : Int, 0 ≤ p ∧ p < n → BestI (EndsIn n (t + 1) p) (costR b c h sg) (e p)) {s p : Int} (hs : 0 ≤ s ∧ s < n) (hp : 0 ≤ p ∧ p < n)
    (hm : ∀ q : Int, 0 ≤ q ∧ q < n → le ((costR b c h sg (e p) + itm (lin c p) s) :: e p) ((costR b c h sg (e q) + itm (lin c q) s) :: e q)) :
    BestI (EndsIn n (t + 2) s) (costR b c h (sg ++ [x])) (e p ++ [s]) ∧ costR b c h (sg ++ [x]) (e p ++ [s]) = costR b c h sg (e p) + itm (lin c p) s + itm (lin h s) x := by
  have hp' := (he p hp).mem
  have ec : ∀ q : Int, 0 ≤ q ∧ q < n → ∀ r, EndsIn n (t + 1) q r → costR b c h (sg ++ [x]) (r ++ [s]) = costR b c h sg r + itm (lin c q) s + itm (lin h s) x := fun q hq r hr => by
    rw [cost_snoc b c h (by rw [ht, hr.1.1]) x s]
    unfold comeB
    rw [if_neg (by rw [hr.1.1]; omega), hr.2]
  refine ⟨⟨⟨⟨by rw [List.length_append, hp'.1.1]; rfl, In.snoc.mpr ⟨hp'.1.2, hs⟩⟩, lst_snoc _ _⟩, fun r hr => ?_⟩, ec p hp _ hp'⟩
  obtain ⟨⟨h1, h2⟩, h3⟩ := hr
  obtain ⟨r', er, hr'⟩ := snoc_of h1
  rw [h3] at er
  rw [er] at h2 ⊢
  have hin := In.snoc.mp h2
  obtain ⟨r2, er2, hr2⟩ := snoc_of hr'
  have hq : 0 ≤ lst r' ∧ lst r' < n := by
    have h4 : In n (r2 ++ [lst r']) := er2 ▸ hin.1
    exact (In.snoc.mp h4).2
  have hr'' : EndsIn n (t + 1) (lst r') r' := ⟨⟨hr', hin.1⟩, rfl⟩
  rw [ec p hp _ hp', ec _ hq _ hr'']
  have h5 := (he _ hq).min r' hr''
  have h6 := hm _ hq
  have hlen : ∀ q : Int, 0 ≤ q ∧ q < n → (e q).length = t + 1 := fun q hq => (he q hq).mem.1.1
  rw [le_cons] at h5 h6 ⊢
  rw [le_snoc (by rw [hlen p hp, hr'])]
  rcases h6 with h6 | ⟨h6, h7⟩
  · rcases h5 with h5 | ⟨h5, h8⟩
    · exact .inl (by omega)
    · exact .inl (by omega)
  · rcases h5 with h5 | ⟨h5, h8⟩
    · exact .inl (by omega)
    · exact .inr ⟨by omega, le_trans h7 h8⟩
theorem best_of_ends {n t : Nat} {C : List Int → Int} {e : Int → List Int} (he : ∀ p : Int, 0 ≤ p ∧ p < n → BestI (EndsIn n (t + 1) p) C (e p)) {p : Int} (hp : 0 ≤ p ∧ p < n)
    (hm : ∀ q : Int, 0 ≤ q ∧ q < n → le (C (e p) :: e p) (C (e q) :: e q)) : BestI (RowOf n (t + 1)) C (e p) := by
  refine ⟨(he p hp).mem.1, fun r hr => ?_⟩
  obtain ⟨r2, er2, hr2⟩ := snoc_of hr.1
  have hq : 0 ≤ lst r ∧ lst r < n := by
    have h4 : In n (r2 ++ [lst r]) := er2 ▸ hr.2
    exact (In.snoc.mp h4).2
  exact le_trans (hm _ hq) ((he _ hq).min r ⟨hr, rfl⟩)

/-! ### pairs of a cost and a row -/
def keyP (p : Int × List Int) : List Int := p.1 :: p.2
theorem keyP_inj {p q : Int × List Int} (h : keyP p = keyP q) : p = q := by
  have := List.cons.inj h
  exact Prod.ext this.1 this.2
def minP (x : Int × List Int) (l : List (Int × List Int)) : Int × List Int := l.foldl (fun a y => if ltI (keyP y) (keyP a) = true then y else a) x
structure IsMin (m : Int × List Int) (l : List (Int × List Int)) : Prop where
  mem : m ∈ l
  le : ∀ y ∈ l, le (keyP m) (keyP y)
theorem IsMin.uniq {m m' : Int × List Int} {l : List (Int × List Int)} (h : IsMin m l) (h' : IsMin m' l) : m = m' := keyP_inj (le_anti (h.le _ h'.mem) (h'.le _ h.mem))
theorem minP_is : ∀ (l : List (Int × List Int)) (x : Int × List Int), IsMin (minP x l) (x :: l)
  | [], x => ⟨by simp [minP], fun y hy => by rw [List.mem_singleton.mp hy]; exact le_refl _⟩
  | z :: l, x => by
    show IsMin (minP (if ltI (keyP z) (keyP x) = true then z else x) l) (x :: z :: l)
    by_cases h : ltI (keyP z) (keyP x) = true
    · rw [if_pos h]
      have ih := minP_is l z
      refine ⟨List.mem_cons_of_mem _ ih.mem, fun y hy => ?_⟩
      rcases List.mem_cons.mp hy with rfl | hy
      · exact le_trans (ih.le z List.mem_cons_self) (le_of_lt h)
      · exact ih.le y hy
    · rw [if_neg h]
      have ih := minP_is l x
      have hz : Y.le (keyP x) (keyP z) := by
        unfold Y.le
        simpa using h
      refine ⟨?_, fun y hy => ?_⟩
      · rcases List.mem_cons.mp ih.mem with e | e
        · rw [e]; exact List.mem_cons_self
        · exact List.mem_cons_of_mem _ (List.mem_cons_of_mem _ e)
      · rcases List.mem_cons.mp hy with rfl | hy
        · exact ih.le _ List.mem_cons_self
        · rcases List.mem_cons.mp hy with rfl | hy
          · exact le_trans (ih.le x List.mem_cons_self) hz
          · exact ih.le y (List.mem_cons_of_mem _ hy)
def leP (a b : Int × List Int) : Bool := !ltI (keyP b) (keyP a)
theorem leP_iff {a b : Int × List Int} : leP a b = true ↔ le (keyP a) (keyP b) := by
  unfold leP le
  simp
theorem sortP_pw (l : List (Int × List Int)) : (l.mergeSort leP).Pairwise fun a b => leP a b = true :=
  List.pairwise_mergeSort (fun a b c h1 h2 => by rw [leP_iff] at *; exact le_trans h1 h2) (fun a b => by
    rcases le_total (keyP a) (keyP b) with h | h
    · rw [leP_iff.mpr h]; rfl
    · rw [leP_iff.mpr h, Bool.or_true]) l
theorem sortP_head {l : List (Int × List Int)} (h : l ≠ []) : ∃ m r, l.mergeSort leP = m :: r ∧ IsMin m l := by
  have hp := sortP_pw l
  have hm : ∀ y, y ∈ l.mergeSort leP ↔ y ∈ l := fun y => List.mem_mergeSort
  have hl : (l.mergeSort leP).length = l.length := List.length_mergeSort l
  cases e : l.mergeSort leP with
  | nil =>
    rw [e] at hl
    exact absurd (List.length_eq_zero_iff.mp hl.symm) h
  | cons m r =>
    rw [e] at hp hm
    refine ⟨m, r, rfl, (hm m).mp List.mem_cons_self, fun y hy => ?_⟩
    rcases List.mem_cons.mp ((hm y).mpr hy) with rfl | hy
    · exact le_refl _
    · exact leP_iff.mp (List.rel_of_pairwise_cons hp hy)
/-! ### ending rows: a list of pairs, one for each state -/
structure EndsOk (n t : Nat) (b : List Int) (c h : List (List Int)) (sg : List Int) (ends : List (Int × List Int)) : Prop where
  len : ends.length = n
  sl : sg.length = t + 1
  best : ∀ (i : Nat) (p : Int × List Int), ends[i]? = some p → BestI (EndsIn n (t + 1) i) (costR b c h sg) p.2 ∧ p.1 = costR b c h sg p.2
theorem EndsOk.uniq {n t : Nat} {b : List Int} {c h : List (List Int)} {sg : List Int} {e1 e2 : List (Int × List Int)} (h1 : EndsOk n t b c h sg e1) (h2 : EndsOk n t b c h sg e2) : e1 = e2 := by
  refine List.ext_getElem? fun i => ?_
  by_cases hi : i < n
  · have a1 : e1[i]? = some (e1[i]'(by rw [h1.len]; exact hi)) := by simp [h1.len, hi]
    have a2 : e2[i]? = some (e2[i]'(by rw [h2.len]; exact hi)) := by simp [h2.len, hi]
    have b1 := h1.best i _ a1
    have b2 := h2.best i _ a2
    rw [a1, a2]
    have := b1.1.uniq b2.1
    exact congrArg some (Prod.ext (by rw [b1.2, b2.2, this]) this)
  · rw [List.getElem?_eq_none (by rw [h1.len]; omega), List.getElem?_eq_none (by rw [h2.len]; omega)]
theorem EndsOk.at {n t : Nat} {b : List Int} {c h : List (List Int)} {sg : List Int} {e1 : List (Int × List Int)} (h1 : EndsOk n t b c h sg e1) {p : Int} (hp : 0 ≤ p ∧ p < n) : ∃ q, e1[p.toNat]? = some q ∧ BestI (EndsIn n (t + 1) p) (costR b c h sg) q.2 ∧ q.1 = costR b c h sg q.2 := by
  have hi : p.toNat < e1.length := by rw [h1.len]; omega
  have a1 : e1[p.toNat]? = some e1[p.toNat] := by simp [hi]
  have := h1.best _ _ a1
  rw [show ((p.toNat : Nat) : Int) = p by omega] at this
  exact ⟨_, a1, this⟩
theorem ends_one {lo n k : Nat} {b : List Int} {c h : List (List Int)} (m : MOk lo n k b c h) (x : Int) : EndsOk n 0 b c h [x] ((List.range n).map fun i : Nat => (itm b i + itm (lin h i) x, [(i : Int)])) := by
  refine ⟨by simp, rfl, fun i p hp => ?_⟩
  rw [List.getElem?_map, Option.map_eq_some_iff] at hp
  obtain ⟨j, hj, rfl⟩ := hp
  obtain ⟨hi, e⟩ := List.getElem?_eq_some_iff.mp hj
  rw [List.getElem_range] at e
  rw [List.length_range] at hi
  subst e
  exact ⟨end_one x ⟨by omega, by omega⟩, (cost_one b c h x i).symm⟩
/-- the ways to a state behind ending rows -/
def waysP (c : List (List Int)) (s : Int) (ends : List (Int × List Int)) : List (Int × List Int) := (List.range ends.length).map fun i : Nat => ((ends.getD i (0, [])).1 + itm (lin c i) s, (ends.getD i (0, [])).2)
theorem ends_step {n t : Nat} {b : List Int} {c h : List (List Int)} {sg : List Int} {ends : List (Int × List Int)} (E : EndsOk n t b c h sg ends) (x : Int) {f : Int → Int × List Int} (hf : ∀ s : Int, 0 ≤ s ∧ s < n → IsMin (f s) (waysP c s ends)) :
    EndsOk n (t + 1) b c h (sg ++ [x]) ((List.range n).map fun i : Nat => ((f i).1 + itm (lin h i) x, (f i).2 ++ [(i : Int)])) := by
  refine ⟨by simp, by rw [List.length_append, E.sl]; rfl, fun i p hp => ?_⟩
  rw [List.getElem?_map, Option.map_eq_some_iff] at hp
  obtain ⟨j, hj, rfl⟩ := hp
  obtain ⟨hi, e⟩ := List.getElem?_eq_some_iff.mp hj
  rw [List.getElem_range] at e
  rw [List.length_range] at hi
  subst e
  have hs : (0 : Int) ≤ (i : Int) ∧ (i : Int) < n := by omega
  have M := hf i hs
  have hg : ∀ q : Int, 0 ≤ q ∧ q < n → ∃ u, ends.getD q.toNat (0, []) = u ∧ BestI (EndsIn n (t + 1) q) (costR b c h sg) u.2 ∧ u.1 = costR b c h sg u.2 := fun q hq => by
    obtain ⟨u, e1, e2⟩ := E.at hq
    exact ⟨u, by simp [List.getD, e1], e2⟩
  have hw : ∀ q : Int, 0 ≤ q ∧ q < n → ((ends.getD q.toNat (0, [])).1 + itm (lin c q) i, (ends.getD q.toNat (0, [])).2) ∈ waysP c i ends := fun q hq => by
    unfold waysP
    refine List.mem_map.mpr ⟨q.toNat, List.mem_range.mpr (by rw [E.len]; omega), ?_⟩
    rw [show ((q.toNat : Nat) : Int) = q by omega]
  obtain ⟨pi, hpi, epi⟩ := List.mem_map.mp M.mem
  have hpn := List.mem_range.mp hpi
  rw [E.len] at hpn
  have hpp : (0 : Int) ≤ (pi : Int) ∧ (pi : Int) < n := by omega
  have key := end_step (n := n) (t := t) (b := b) (c := c) (h := h) (sg := sg) x E.sl (e := fun q => (ends.getD q.toNat (0, [])).2) (fun q hq => by
    obtain ⟨u, e1, e2, _⟩ := hg q hq
    show BestI _ _ (ends.getD q.toNat (0, [])).2
    rw [e1]
    exact e2) (s := i) (p := pi) hs hpp (fun q hq => by
    obtain ⟨u, e1, e2, e3⟩ := hg q hq
    obtain ⟨v, f1, f2, f3⟩ := hg pi hpp
    have h1 := M.le _ (hw q hq)
    rw [← epi] at h1
    have h2 : ends.getD ((pi : Int)).toNat (0, []) = ends.getD pi (0, []) := rfl
    unfold keyP at h1
    rw [h2] at f1
    rw [f1, e1] at h1
    show le ((costR b c h sg (ends.getD pi (0, [])).2 + itm (lin c pi) i) :: (ends.getD pi (0, [])).2) ((costR b c h sg (ends.getD q.toNat (0, [])).2 + itm (lin c q) i) :: (ends.getD q.toNat (0, [])).2)
    rw [f1, e1, ← e3, ← f3]
    exact h1)
  obtain ⟨v, f1, f2, f3⟩ := hg pi hpp
  have h2 : ends.getD ((pi : Int)).toNat (0, []) = ends.getD pi (0, []) := rfl
  rw [h2] at f1
  have k1 : f i = (v.1 + itm (lin c pi) i, v.2) := by rw [← epi, f1]
  have k2 := key.1
  have k3 := key.2
  simp only [h2, f1] at k2 k3
  show BestI (EndsIn n (t + 1 + 1) i) (costR b c h (sg ++ [x])) ((f i).2 ++ [(i : Int)]) ∧ (f i).1 + itm (lin h i) x = costR b c h (sg ++ [x]) ((f i).2 ++ [(i : Int)])
  rw [k1]
  exact ⟨k2, by rw [k3, f3]⟩
theorem EndsOk.all {n t : Nat} {b : List Int} {c h : List (List Int)} {sg : List Int} {ends : List (Int × List Int)} (E : EndsOk n t b c h sg ends) {m : Int × List Int} (M : IsMin m ends) : BestI (RowOf n (t + 1)) (costR b c h sg) m.2 ∧ m.1 = costR b c h sg m.2 := by
  obtain ⟨i, hi, e⟩ := List.mem_iff_getElem.mp M.mem
  have a1 : ends[i]? = some m := by simp [hi, e]
  have B := E.best i m a1
  rw [E.len] at hi
  have hg : ∀ q : Int, 0 ≤ q ∧ q < n → ∃ u, ends[q.toNat]? = some u ∧ ends.getD q.toNat (0, []) = u ∧ BestI (EndsIn n (t + 1) q) (costR b c h sg) u.2 ∧ u.1 = costR b c h sg u.2 := fun q hq => by
    obtain ⟨u, e1, e2⟩ := E.at hq
    exact ⟨u, e1, by simp [List.getD, e1], e2⟩
  have em : ends.getD i (0, []) = m := by simp [List.getD, a1]
  have := best_of_ends (n := n) (t := t) (C := costR b c h sg) (e := fun q => (ends.getD q.toNat (0, [])).2) (fun q hq => by
    obtain ⟨u, _, e1, e2, _⟩ := hg q hq
    show BestI _ _ (ends.getD q.toNat (0, [])).2
    rw [e1]
    exact e2) (p := (i : Int)) ⟨by omega, by omega⟩ (fun q hq => by
    obtain ⟨u, e0, e1, e2, e3⟩ := hg q hq
    have h1 := M.le u (List.mem_of_getElem? e0)
    unfold keyP at h1
    show le (costR b c h sg (ends.getD i (0, [])).2 :: (ends.getD i (0, [])).2) (costR b c h sg (ends.getD q.toNat (0, [])).2 :: (ends.getD q.toNat (0, [])).2)
    rw [em, e1, ← e3, ← B.2]
    exact h1)
  have h2 : ends.getD ((i : Int)).toNat (0, []) = m := em
  simp only [h2] at this
  exact ⟨this, B.2⟩
end Y

namespace Y
open PySem L2
/-! ### a store whose first place is the stream, and lists that grow behind what stood before -/
def Kept (s s' : Sto) : Prop := Strm s' ∧ s.length ≤ s'.length ∧ ∀ i, 1 ≤ i → i < s.length → s'[i]? = s[i]?
theorem Strm.pos {s : Sto} (h : Strm s) : 1 ≤ s.length := by
  obtain ⟨_, _, _, t, rfl, _⟩ := h
  simp
theorem Kept.refl {s : Sto} (h : Strm s) : Kept s s := ⟨h, Nat.le_refl _, fun _ _ _ => rfl⟩
theorem Drawn.at {s s' : Sto} (h : Strm s) (d : Drawn s s') {i : Nat} (hi : 1 ≤ i) : s'[i]? = s[i]? := by
  obtain ⟨_, _, _, t, rfl, _⟩ := h
  obtain ⟨⟨_, _, _, u, rfl, _⟩, e⟩ := d
  have e' : u = t := e
  subst e'
  obtain ⟨j, rfl⟩ : ∃ j, i = j + 1 := ⟨i - 1, by omega⟩
  rfl
theorem Kept.draw {s a b : Sto} (h : Kept s a) (d : Drawn a b) : Kept s b := by
  refine ⟨d.1, by rw [d.len h.1]; exact h.2.1, fun i h1 h2 => ?_⟩
  rw [d.at h.1 h1, h.2.2 i h1 h2]
theorem Strm.set {s : Sto} (h : Strm s) {i : Nat} (hi : 1 ≤ i) (z : Option (List D)) : Strm (s.set i z) := by
  obtain ⟨ns, c, k, t, rfl, h1⟩ := h
  obtain ⟨j, rfl⟩ : ∃ j, i = j + 1 := ⟨i - 1, by omega⟩
  exact ⟨ns, c, k, t.set j z, rfl, h1⟩
theorem Strm.app {s : Sto} (h : Strm s) (t : Sto) : Strm (s ++ t) := by
  obtain ⟨ns, c, k, u, rfl, h1⟩ := h
  exact ⟨ns, c, k, u ++ t, rfl, h1⟩
theorem Kept.set {s a : Sto} (h : Kept s a) {i : Nat} (h1 : 1 ≤ i) (hi : s.length ≤ i) (z : Option (List D)) : Kept s (a.set i z) := by
  refine ⟨h.1.set h1 z, by rw [List.length_set]; exact h.2.1, fun j h2 h3 => ?_⟩
  rw [List.getElem?_set_ne (by omega)]
  exact h.2.2 j h2 h3
theorem Kept.app {s a : Sto} (h : Kept s a) (t : Sto) : Kept s (a ++ t) := by
  refine ⟨h.1.app t, by rw [List.length_append]; have := h.2.1; omega, fun j h2 h3 => ?_⟩
  rw [List.getElem?_append_left (by have := h.2.1; omega)]
  exact h.2.2 j h2 h3
theorem Kept.trans {s a b : Sto} (h : Kept s a) (g : Kept a b) : Kept s b := ⟨g.1, Nat.le_trans h.2.1 g.2.1, fun i h1 h2 => by rw [g.2.2 i h1 (by have := h.2.1; omega), h.2.2 i h1 h2]⟩
theorem Kept.done {s s' : Sto} (hs : Strm s) (h : Kept s s') : Drawn s (s'.take (s.length + 0)) := by
  obtain ⟨ns, c, k, t, rfl, h1⟩ := hs
  obtain ⟨⟨ms, c', k', u, rfl, h2⟩, h3, h4⟩ := h
  refine ⟨⟨ms, c', k', u.take t.length, rfl, h2⟩, ?_⟩
  show u.take t.length = t
  refine List.ext_getElem? fun i => ?_
  by_cases hi : i < t.length
  · rw [List.getElem?_take_of_lt hi]
    have := h4 (i + 1) (by omega) (by simp; omega)
    simpa using this
  · rw [List.getElem?_eq_none (by rw [List.length_take]; omega), List.getElem?_eq_none (by omega)]
section
variable {s s' : Sto} {ρ : Loc} {E : XC → Sto → Prop} {PS : (Loc × Fl) → Sto → Prop} {A : Loc → M (List W)} {R : Loc → M (Loc × Fl)} {F : Loc → M W}
/-- found.append(x), wherever the list stands -/
theorem st_app {i n : Nat} {Wl : List D} {Q : D → Sto → Prop} (hρ : ρ[i]? = some (some (.h n))) (hs : s[n]? = some (some Wl)) (hW : Wl.length < cap)
    (hA : (A ρ s).sat (fun as s' => ∃ x, as = [.d x] ∧ s'[n]? = some (some Wl) ∧ Q x s') E) (q : ∀ x s', Q x s' → s'[n]? = some (some Wl) → PS (ρ, .nx) (s'.set n (some (Wl ++ [x])))) : (expS (mthE fApp (getL i) A) ρ s).sat PS E := by
  rw [v_exp, v_mth, v_get]
  refine ⟨_, hρ, ?_, hA.mono (fun as s1 z => ?_) fun _ _ z => z⟩
  · unfold isHot
    simp only [hs]
  · obtain ⟨x, rfl, h1, h2⟩ := z
    refine ⟨n, Wl, Wl ++ [x], .non, rfl, h1, ?_, q x s1 h2 h1⟩
    simp only [fApp]
    rw [if_pos hW]
theorem st_appS {i n : Nat} {Wl : List D} {Q : D → Sto → Prop} (hρ : ρ[i]? = some (some (.h n))) (hs : s[n]? = some (some Wl)) (hW : Wl.length < cap)
    (hA : (A ρ s).sat (fun as s' => ∃ x, as = [.d x] ∧ s'[n]? = some (some Wl) ∧ Q x s') E) (q : ∀ x s', Q x s' → s'[n]? = some (some Wl) → (R ρ (s'.set n (some (Wl ++ [x])))).sat PS E) : (seqS (expS (mthE fApp (getL i) A)) R ρ s).sat PS E := by
  rw [v_seq]
  exact st_app hρ hs hW hA q
/-- tuple(found), found a list of the store -/
theorem o_tupH {n : Nat} {l : List D} (h : s[n]? = some (some l)) : optL fTuple [.h n] s = .ok (.d (.tup l)) s := by
  unfold optL fTuple
  simp only [vw, h, seqOf, Option.bind_some, Option.map_some]
theorem sat_eq {α : Type} {r q : Res α} {P : α → Sto → Prop} (h : r = q) (g : q.sat P E) : r.sat P E := by rw [h]; exact g
end
theorem look {α : Type} {l : List α} {n i : Nat} {a b : α} (h : l[i]? = some a) (hn : i ≠ n) : (l.set n b)[i]? = some a := by
  rw [List.getElem?_set_ne (fun z => hn z.symm)]
  exact h
theorem look_same {α : Type} {l : List α} {n : Nat} {a b : α} (h : l[n]? = some a) : (l.set n b)[n]? = some b := List.getElem?_set_self (List.getElem?_eq_some_iff.mp h).1
end Y

namespace Y
open PySem L2 PyProof.Rows
/-! ### x in c, x not in c: any data, in lists and tuples -/
mutual
theorem plain_toPy : ∀ d : D, (toPy d).plain = true
  | .non => rfl
  | .bl _ => rfl
  | .int _ => rfl
  | .str _ => rfl
  | .tup ds => by show (PyData.tuple (toPys ds)).plain = true; rw [PyData.plain]; exact plain_toPys ds
  | .lst ds => by show (PyData.list (toPys ds)).plain = true; rw [PyData.plain]; exact plain_toPys ds
  | .frz ds => by show (PyData.list (toPys ds)).plain = true; rw [PyData.plain]; exact plain_toPys ds
  | .tux ds => by show (PyData.tuple (toPys ds)).plain = true; rw [PyData.plain]; exact plain_toPys ds
theorem plain_toPys : ∀ ds : List D, PyData.plainAll (toPys ds) = true
  | [] => rfl
  | d :: ds => by show PyData.plainAll (toPy d :: toPys ds) = true; rw [PyData.plainAll, plain_toPy d, plain_toPys ds]; rfl
end
def inP (x : D) (ds : List D) : Bool := ds.any fun z => PyData.eqv (toPy z) (toPy x)
def rInP (K : PySem.W.Frag) (neg : Bool) : R2 := fun x y H Q => ∃ d ds, Dp K H x (toPy d) ∧ (Dp K H y (.list (toPys ds)) ∨ Dp K H y (.tuple (toPys ds))) ∧ (toPy d).depth ≤ 60 ∧ Q (.bl (if neg = true then !inP d ds else inP d ds)) H
theorem any_toPys (x : D) (ds : List D) : (toPys ds).any (fun z => PyData.eqv z (toPy x)) = inP x ds := by
  unfold inP
  rw [toPys_map, List.any_map]
  rfl
theorem op_inP {X : Cx} (hu : X.A.units + 64 < cLine) : OpR X (compareOp .In) (rInP X.K false) := by
  intro pins s σ H x y v u Q I rx ry h
  obtain ⟨d, ds, hd, he, hz, q⟩ := h
  obtain ⟨as, r1⟩ := Dp.reads I _ x v hd rx
  rcases he with he | he
  · obtain ⟨bs, r2⟩ := Dp.reads I _ y u he ry
    exact PySem.SeqAt.in_list_data r2 r1 (plain_toPys ds) (plain_toPy d) (by have := Nat.min_le_right (PyData.depthAll (toPys ds)) (toPy d).depth; omega) ⟨.bl _, H, I, by rw [any_toPys]; rfl, q⟩
  · obtain ⟨bs, r2⟩ := Dp.reads I _ y u he ry
    exact PySem.SeqAt.in_tuple_data r2 r1 (plain_toPys ds) (plain_toPy d) (by have := Nat.min_le_right (PyData.depthAll (toPys ds)) (toPy d).depth; omega) ⟨.bl _, H, I, by rw [any_toPys]; rfl, q⟩
theorem op_notInP {X : Cx} (hu : X.A.units + 64 < cLine) : OpR X (compareOp .NotIn) (rInP X.K true) := by
  intro pins s σ H x y v u Q I rx ry h
  obtain ⟨d, ds, hd, he, hz, q⟩ := h
  obtain ⟨as, r1⟩ := Dp.reads I _ x v hd rx
  rcases he with he | he
  · obtain ⟨bs, r2⟩ := Dp.reads I _ y u he ry
    exact PySem.SeqAt.notIn_list_data r2 r1 (plain_toPys ds) (plain_toPy d) (by have := Nat.min_le_right (PyData.depthAll (toPys ds)) (toPy d).depth; omega) ⟨.bl _, H, I, by rw [any_toPys]; rfl, q⟩
  · obtain ⟨bs, r2⟩ := Dp.reads I _ y u he ry
    exact PySem.SeqAt.notIn_tuple_data r2 r1 (plain_toPys ds) (plain_toPy d) (by have := Nat.min_le_right (PyData.depthAll (toPys ds)) (toPy d).depth; omega) ⟨.bl _, H, I, by rw [any_toPys]; rfl, q⟩
def rInY (K : PySem.W.Frag) (neg : Bool) : R2 := fun x y H Q => rIn K neg x y H Q ∨ rInP K neg x y H Q
theorem op_inY {X : Cx} (hu : X.A.units + 64 < cLine) : OpR X (compareOp .In) (rInY X.K false) := op_in_seq.or (op_inP hu)
theorem op_notInY {X : Cx} (hu : X.A.units + 64 < cLine) : OpR X (compareOp .NotIn) (rInY X.K true) := op_notIn_seq.or (op_notInP hu)
def contOf : D → Option (List D)
  | .tup ds => some ds
  | .lst ds => some ds
  | _ => none
def fInP (neg : Bool) : Sto → W → W → Option W := fun s a b => match a, (vw s b).bind contOf with
  | .d x, some ds => if (toPy x).depth ≤ 60 then some (.d (.bl (if neg = true then !inP x ds else inP x ds))) else none
  | _, _ => none
def fInY (neg : Bool) : Sto → W → W → Option W := fun s a b => match fInP neg s a b with
  | some z => some z
  | none => fIn neg s a b
section
variable {K : PySem.W.Frag} {mg : Str → Option Value} {E : XK} {w : Wd}
theorem sem_inP {neg : Bool} : SemR2 K (rInP K neg) (opt2 (fInP neg)) := sem2 fun w a b x y z ok ra rb h Q q => by
  unfold fInP at h
  split at h
  · rename_i d ds hb
    split at h
    · rename_i hc
      cases h
      cases e : vw w.st b with
      | none => rw [e] at hb; cases hb
      | some t =>
        rw [e] at hb
        have hb' : contOf t = some ds := hb
        have h2 := rd_dp ok e rb
        refine ⟨d, ds, rep_dp d x ra, ?_, hc, pw_d (d := .bl _) ok rfl q⟩
        cases t with
        | tup es => cases hb'; exact .inr h2
        | lst es => cases hb'; exact .inl h2
        | _ => cases hb'
    · cases h
  · cases h
theorem sem_inY {neg : Bool} : SemR2 K (rInY K neg) (opt2 (fInY neg)) := fun w a b x y ok ra rb Q h => by
  unfold opt2 fInY at h
  split at h
  · rename_i z hz
    cases e : fInP neg w.st a b with
    | some u =>
      rw [e] at hz
      cases hz
      exact .inr (sem_inP w a b x y ok ra rb Q (by unfold opt2; rw [e]; exact h))
    | none =>
      rw [e] at hz
      exact .inl (sem_in w a b x y ok ra rb Q (by unfold opt2; rw [show fIn neg w.st a b = some z from hz]; exact h))
  · exact h.elim

theorem inP_of {neg : Bool} {x : D} {b : W} {d : D} {ds : List D} {s : Sto} (h1 : vw s b = some d) (h2 : contOf d = some ds) (h : (toPy x).depth ≤ 60) : opt2 (fInY neg) (.d x) b s = .ok (.d (.bl (if neg = true then !inP x ds else inP x ds))) s := by
  have e : fInP neg s (.d x) b = some (.d (.bl (if neg = true then !inP x ds else inP x ds))) := by
    unfold fInP
    rw [h1]
    show (match (W.d x), contOf d with
      | .d x, some ds => if (toPy x).depth ≤ 60 then some (W.d (.bl (if neg = true then !inP x ds else inP x ds))) else none
      | _, _ => none) = _
    rw [h2]
    exact if_pos h
  have e2 : fInY neg s (.d x) b = some (.d (.bl (if neg = true then !inP x ds else inP x ds))) := by
    unfold fInY
    rw [e]
  unfold opt2
  rw [e2]
theorem o_inL {neg : Bool} {x : D} {ds : List D} {s : Sto} (h : (toPy x).depth ≤ 60) : opt2 (fInY neg) (.d x) (.d (.lst ds)) s = .ok (.d (.bl (if neg = true then !inP x ds else inP x ds))) s := inP_of rfl rfl h
theorem o_inT {neg : Bool} {x : D} {ds : List D} {s : Sto} (h : (toPy x).depth ≤ 60) : opt2 (fInY neg) (.d x) (.d (.tup ds)) s = .ok (.d (.bl (if neg = true then !inP x ds else inP x ds))) s := inP_of rfl rfl h
theorem o_inH {neg : Bool} {x : D} {ds : List D} {n : Nat} {s : Sto} (hs : s[n]? = some (some ds)) (h : (toPy x).depth ≤ 60) : opt2 (fInY neg) (.d x) (.h n) s = .ok (.d (.bl (if neg = true then !inP x ds else inP x ds))) s := inP_of (d := .lst ds) (by simp only [vw, hs]) rfl h
theorem inP_tI (l : List Int) (ls : List (List Int)) : inP (tI l) (ls.map tI) = ls.contains l := by
  unfold inP
  rw [List.any_map, List.contains_eq_any_beq]
  refine congrArg (fun f => ls.any f) ?_
  funext z
  show PyData.eqv (toPy (tI z)) (toPy (tI l)) = (l == z)
  rw [eqv_tI]
  by_cases h : z = l
  · subst h
    rw [decide_eq_true rfl]
    exact (beq_self_eq_true z).symm
  · rw [decide_eq_false h]
    cases e : (l == z) with
    | false => rfl
    | true => exact absurd (eq_of_beq e).symm h
end
end Y

namespace Y
open PySem PySem.Spec L2 PyProof.Rows
/-! ### zip of a list and a tuple, either way: each side has a kind, false a list, true a tuple -/
def itAt (kd : Bool) (h : Heap) (it l : Addr) (k : Nat) : Prop := if kd = true then h.IsTupleIter it l k else h.IsListIter it l k
def sqAt (kd : Bool) (h : Heap) (l : Addr) (xs : Array Value) : Prop := if kd = true then h.IsTuple l xs else h.IsList l xs
section
variable {kd : Bool} {h h' : Heap} {it l p : Addr} {k : Nat} {xs : Array Value}
theorem itAt.off (x : itAt kd h it l k) (e : Heap.ExtBut p h h') (n : it ≠ p) : itAt kd h' it l k := by
  cases kd with
  | true => exact Heap.IsTupleIter.extBut x e n
  | false => exact Heap.IsListIter.extBut x e n
theorem itAt.keep (x : itAt kd h it l k) (e : ∀ o, h.get? it = some o → h'.get? it = some o) : itAt kd h' it l k := by
  cases kd with
  | true => exact Heap.IsTupleIter.at x e
  | false => exact Heap.IsListIter.at x e
theorem itAt.obj (x : itAt kd h it l k) : ∃ o, h.get? it = some o ∧ ∀ v, o.data ≠ .cell v := by
  cases kd with
  | true => obtain ⟨o, e, _, d⟩ := x; exact ⟨o, e, fun v z => by rw [d] at z; cases z⟩
  | false => obtain ⟨o, e, _, d⟩ := x; exact ⟨o, e, fun v z => by rw [d] at z; cases z⟩
theorem itAt.lt (x : itAt kd h it l k) : it < h.objs.size := by
  obtain ⟨o, e, _⟩ := x.obj
  exact Heap.lt_size e
theorem sqAt.off (x : sqAt kd h l xs) (e : Heap.ExtBut p h h') (n : l ≠ p) : sqAt kd h' l xs := by
  cases kd with
  | true => exact Heap.IsTuple.extBut x e n
  | false => exact Heap.IsList.extBut x e n
theorem sqAt.lt (x : sqAt kd h l xs) : l < h.objs.size := by
  cases kd with
  | true => obtain ⟨o, e, _⟩ := x; exact Heap.lt_size e
  | false => obtain ⟨o, e, _⟩ := x; exact Heap.lt_size e
end
section
variable {prog : Program} {w : World} {A : Around} {s : Shared}
theorem next_item {kd : Bool} {E : Value → Shared → Prop} {it l : Addr} {i : Nat} {xs : Array Value} {x : Value} {Q : Value → Shared → Prop} (h1 : itAt kd s.heap it l i) (h2 : sqAt kd s.heap l xs) (hx : xs[i]? = some x)
    (q : ∀ h', itAt kd h' it l (i + 1) → Heap.SameBut it s.heap h' → Q x { s with heap := h' }) : wpAny (model prog w) A (Builtin.SmallTypes.nextOf (.ref it)) Q E s := by
  cases kd with
  | true => exact RZ.nextOf_tuple_item h1 h2 hx q
  | false => exact wpAny_nextOf_list_item h1 h2 hx q
theorem next_end {kd : Bool} {E : Value → Shared → Prop} {it l : Addr} {i : Nat} {xs : Array Value} {Q : Value → Shared → Prop} (hh : A.handled = none) (h1 : itAt kd s.heap it l i) (h2 : sqAt kd s.heap l xs) (hx : xs[i]? = none)
    (q : ∀ h' e, Heap.ExtBut it s.heap h' → (∃ o, h'.get? e = some o ∧ o.cls = .type "StopIteration") → E (.ref e) { s with heap := h' }) : wpAny (model prog w) A (Builtin.SmallTypes.nextOf (.ref it)) Q E s := by
  cases kd with
  | true => exact RZ.nextOf_tuple_end hh h1 h2 hx q
  | false => exact wpAny_nextOf_list_end hh h1 h2 hx q
/-- what stands where a zip of two is walked -/
structure ZipSt (ka kb : Bool) (h : Heap) (z TI TO i1 i2 a b : Addr) (k : Nat) : Prop where
  z : IsZip h z TI TO .none
  ti : IsPair h TI (.ref i1) (.ref i2)
  to : ∃ u v, IsPair h TO u v
  i1 : itAt ka h i1 a k
  i2 : itAt kb h i2 b k
variable {E : Value → Shared → Prop} {ka kb : Bool} {z TI TO i1 i2 a b : Addr} {k : Nat} {xs ys : Array Value}
/-- one more pair is drawn -/
theorem zipM_item {x y : Value} {Q : Value → Shared → Prop} (D : ZipApart z TI TO i1 i2 a b) (S : ZipSt ka kb s.heap z TI TO i1 i2 a b k) (ha : sqAt ka s.heap a xs) (hb : sqAt kb s.heap b ys) (hx : xs[k]? = some x) (hy : ys[k]? = some y)
    (q : ∀ h', IsZip h' z TI TO (rawInt s.heap.objs.size) → IsPair h' TO x y → itAt ka h' i1 a (k + 1) → itAt kb h' i2 b (k + 1) → IsPair h' s.heap.objs.size x y →
      (∀ c o, c ≠ z → c ≠ TO → c ≠ i1 → c ≠ i2 → s.heap.get? c = some o → h'.get? c = some o) → Q (.ref s.heap.objs.size) { s with heap := h' }) :
    wpAny (model prog w) A (Builtin.«zip.__next__» ⟨[.ref z], []⟩) (fun fin s' => ∃ v, fin = .done (.ret v) ∧ Q v s') E s := by
  obtain ⟨hz, hI, ⟨u, v, hO⟩, g1, g2⟩ := S
  show wpAny _ _ (field (.ref z) 2 >>= _) _ _ _
  refine wpAny_bind (wpAny_field hz rfl (x := .bool false) rfl ?_); show wpAny _ _ (field (.ref z) 3 >>= _) _ _ _
  refine wpAny_bind (wpAny_field hz rfl (x := .ref TI) rfl (wpAny_bind (wpAny_seqItems hI rfl ?_)))
  show wpAny _ _ (Builtin.SmallTypes.ownedTupleIsFree (.ref z) >>= _) _ _ _
  refine wpAny_bind ?_
  unfold Builtin.SmallTypes.ownedTupleIsFree
  refine wpAny_bind (wpAny_field hz rfl (x := .none) rfl (wpAny_pure ?_))
  simp only [if_true]
  refine wpAny_bind (wpAny_rule (wpAny_bind (wpAny_field hz rfl (x := .ref TO) rfl (wpAny_bind (wpAny_setField_rec hz (by simp) fun k1 z1 e1 => ?_)))))
  have z1 : IsZip k1 z TI TO .ellipsis := z1
  refine wpAny_bind ?_
  simp only [List.zipIdx_cons, List.zipIdx_nil, List.forIn_cons, List.forIn_nil]
  refine wpAny_bind (wpAny_bind (wpAny_onRaise ?_)); show wpAny _ _ (Builtin.SmallTypes.nextOf (.ref i1) >>= _) _ _ _
  refine wpAny_bind (next_item (g1.off e1.extBut D.i1z) (ha.off e1.extBut D.l1z) hx fun k2 f1 e2 => wpAny_pure ?_)
  have o2 : IsPair k2 TO u v := e2.extBut _ _ D.TOi1 (e1.extBut _ _ D.TOz hO)
  refine wpAny_bind (wpAny_seqItems o2 rfl (wpAny_bind (wpAny_updateSeq_pair o2 fun k3 o3 e3 => ?_)))
  have o3 : IsPair k3 TO x v := o3
  refine wpAny_bind (wpAny_letGo (wpAny_pure (wpAny_bind (wpAny_bind (wpAny_onRaise ?_)))))
  show wpAny _ _ (Builtin.SmallTypes.nextOf (.ref i2) >>= _) _ _ _
  refine wpAny_bind (next_item (((g2.off e1.extBut D.i2z).off e2.extBut D.i12.symm).off e3.extBut D.TOi2.symm) (((hb.off e1.extBut D.l2z).off e2.extBut D.l2i1).off e3.extBut D.l2TO) hy fun k4 f2 e4 => wpAny_pure ?_)
  have o4 : IsPair k4 TO x v := e4.extBut _ _ D.TOi2 o3
  refine wpAny_bind (wpAny_seqItems o4 rfl (wpAny_bind (wpAny_updateSeq_pair o4 fun k5 o5 e5 => ?_)))
  have o5 : IsPair k5 TO x y := o5
  refine wpAny_bind (wpAny_letGo (wpAny_pure (wpAny_pure (wpAny_bind (wpAny_seqItems o5 rfl (wpAny_bind (wpAny_newTuple ?_)))))))
  have sz : k5.objs.size = s.heap.objs.size := by rw [e5.1, e4.1, e3.1, e2.1, e1.1]
  have z5 : IsZip k5 z TI TO .ellipsis := e5.extBut _ _ D.TOz.symm (e4.extBut _ _ D.i2z.symm (e3.extBut _ _ D.TOz.symm (e2.extBut _ _ D.i1z.symm z1)))
  have all : ∀ c o, c ≠ z → c ≠ TO → c ≠ i1 → c ≠ i2 → s.heap.get? c = some o → k5.get? c = some o := fun c o c1 c2 c3 c4 e => e5.extBut _ _ c2 (e4.extBut _ _ c4 (e3.extBut _ _ c2 (e2.extBut _ _ c3 (e1.extBut _ _ c1 e))))
  have f1' := ((f1.off e3.extBut D.TOi1.symm).off e4.extBut D.i12).off e5.extBut D.TOi1.symm
  have f2' := f2.off e5.extBut D.TOi2.symm
  have lz : z < k5.objs.size := Heap.lt_size z5
  show wpAny _ _ (Builtin.SmallTypes.ownedTupleHandOut (.ref z) (.ref k5.objs.size) >>= _) _ _ _
  refine wpAny_bind ?_
  unfold Builtin.SmallTypes.ownedTupleHandOut
  refine wpAny_bind (wpAny_setField_rec (show IsZip (k5.push { cls := .type "tuple", data := .seq #[x, y] }) z TI TO .ellipsis from Heap.get?_push_of_some _ z5) (by simp) fun k7 z7 e7 => ?_)
  have z7 : IsZip k7 z TI TO (rawInt k5.objs.size) := z7
  refine wpAny_setField_rec z7 (by simp) fun k8 z8 e8 => ?_
  have z8 : IsZip k8 z TI TO (rawInt k5.objs.size) := z8
  have up : ∀ c o, c ≠ z → k5.get? c = some o → k8.get? c = some o := fun c o c1 e => e8.extBut _ _ c1 (e7.extBut _ _ c1 (Heap.get?_push_of_some _ e))
  have new : IsPair k8 k5.objs.size x y := e8.extBut _ _ (Nat.ne_of_gt lz) (e7.extBut _ _ (Nat.ne_of_gt lz) (Heap.get?_push_size _ rfl))
  rw [sz] at z8 new
  refine wpAny_pure ⟨_, rfl, ?_⟩
  show Q (.ref k5.objs.size) _
  rw [sz]
  exact q k8 z8 (up _ _ D.TOz o5) (f1'.keep fun o e => up _ o D.i1z e) (f2'.keep fun o e => up _ o D.i2z e) new fun c o c1 c2 c3 c4 e => up c o c1 (all c o c1 c2 c3 c4 e)
/-- no pair is left -/
theorem zipM_end {Q : Fin → Shared → Prop} (hh : A.handled = none) (D : ZipApart z TI TO i1 i2 a b) (S : ZipSt ka kb s.heap z TI TO i1 i2 a b k) (ha : sqAt ka s.heap a xs) (hb : sqAt kb s.heap b ys) (he : xs[k]? = none ∨ ys[k]? = none)
    (q : ∀ h' e, (∀ c o, c ≠ z → c ≠ TO → c ≠ i1 → c ≠ i2 → s.heap.get? c = some o → h'.get? c = some o) → (∃ o, h'.get? e = some o ∧ o.cls = .type "StopIteration") → E (.ref e) { s with heap := h' }) :
    wpAny (model prog w) A (Builtin.«zip.__next__» ⟨[.ref z], []⟩) Q E s := by
  obtain ⟨hz, hI, ⟨u, v, hO⟩, g1, g2⟩ := S
  show wpAny _ _ (field (.ref z) 2 >>= _) _ _ _
  refine wpAny_bind (wpAny_field hz rfl (x := .bool false) rfl ?_); show wpAny _ _ (field (.ref z) 3 >>= _) _ _ _
  refine wpAny_bind (wpAny_field hz rfl (x := .ref TI) rfl (wpAny_bind (wpAny_seqItems hI rfl ?_)))
  show wpAny _ _ (Builtin.SmallTypes.ownedTupleIsFree (.ref z) >>= _) _ _ _
  refine wpAny_bind ?_
  unfold Builtin.SmallTypes.ownedTupleIsFree
  refine wpAny_bind (wpAny_field hz rfl (x := .none) rfl (wpAny_pure ?_))
  simp only [if_true]
  refine wpAny_bind (wpAny_rule (wpAny_bind (wpAny_field hz rfl (x := .ref TO) rfl (wpAny_bind (wpAny_setField_rec hz (by simp) fun k1 z1 e1 => ?_)))))
  have z1 : IsZip k1 z TI TO .ellipsis := z1
  refine wpAny_bind ?_
  simp only [List.zipIdx_cons, List.zipIdx_nil, List.forIn_cons, List.forIn_nil]
  refine wpAny_bind (wpAny_bind (wpAny_onRaise ?_)); show wpAny _ _ (Builtin.SmallTypes.nextOf (.ref i1) >>= _) _ _ _
  -- the exception is another object than the zip
  have apart : ∀ {h' : Heap} {e : Addr} {f : Value}, IsZip h' z TI TO f → (∃ o, h'.get? e = some o ∧ o.cls = .type "StopIteration") → e ≠ z := fun {h' e f} zz ⟨o, ho, hc⟩ t => by
    subst t
    rw [zz] at ho
    cases ho
    simp at hc
  cases hx : xs[k]? with
  | none =>
    refine wpAny_bind (next_end hh (g1.off e1.extBut D.i1z) (ha.off e1.extBut D.l1z) hx fun k2 e e2 he => ?_)
    have z2 : IsZip k2 z TI TO .ellipsis := e2 _ _ D.i1z.symm z1
    have en := apart z2 he
    obtain ⟨o, ho, hc⟩ := he
    exact wpAny_setField_rec z2 (by simp) fun k3 _ e3 => q k3 e (fun c o c1 _ c3 _ t => e3.extBut _ _ c1 (e2 _ _ c3 (e1.extBut _ _ c1 t))) ⟨o, e3.extBut _ _ en ho, hc⟩
  | some x =>
    have hy : ys[k]? = none := by rcases he with he | he; rw [hx] at he; cases he; exact he
    refine wpAny_bind (next_item (g1.off e1.extBut D.i1z) (ha.off e1.extBut D.l1z) hx fun k2 f1 e2 => wpAny_pure ?_)
    have o2 : IsPair k2 TO u v := e2.extBut _ _ D.TOi1 (e1.extBut _ _ D.TOz hO)
    refine wpAny_bind (wpAny_seqItems o2 rfl (wpAny_bind (wpAny_updateSeq_pair o2 fun k3 o3 e3 => ?_)))
    refine wpAny_bind (wpAny_letGo (wpAny_pure (wpAny_bind (wpAny_bind (wpAny_onRaise ?_)))))
    show wpAny _ _ (Builtin.SmallTypes.nextOf (.ref i2) >>= _) _ _ _
    refine wpAny_bind (next_end hh (((g2.off e1.extBut D.i2z).off e2.extBut D.i12.symm).off e3.extBut D.TOi2.symm) (((hb.off e1.extBut D.l2z).off e2.extBut D.l2i1).off e3.extBut D.l2TO) hy fun k4 e e4 he => ?_)
    have z4 : IsZip k4 z TI TO .ellipsis := e4 _ _ D.i2z.symm (e3.extBut _ _ D.TOz.symm (e2.extBut _ _ D.i1z.symm z1))
    have en := apart z4 he
    obtain ⟨o, ho, hc⟩ := he
    exact wpAny_setField_rec z4 (by simp) fun k5 _ e5 => q k5 e (fun c o c1 c2 c3 c4 t => e5.extBut _ _ c1 (e4 _ _ c4 (e3.extBut _ _ c2 (e2.extBut _ _ c3 (e1.extBut _ _ c1 t))))) ⟨o, e5.extBut _ _ en ho, hc⟩
end
end Y

namespace Y
open PySem PySem.Spec L2 PyProof.Rows
section
variable {prog : Program} {w : World} {A : Around} {s : Shared} {E : Value → Shared → Prop} {ka kb : Bool} {z TI TO i1 i2 a b : Addr} {k : Nat} {xs ys : Array Value}
theorem pyNextM_item {x y : Value} {Q : Option Value → Shared → Prop} (D : ZipApart z TI TO i1 i2 a b) (S : ZipSt ka kb s.heap z TI TO i1 i2 a b k) (ha : sqAt ka s.heap a xs) (hb : sqAt kb s.heap b ys) (hx : xs[k]? = some x) (hy : ys[k]? = some y)
    (q : ∀ h', IsZip h' z TI TO (rawInt s.heap.objs.size) → IsPair h' TO x y → itAt ka h' i1 a (k + 1) → itAt kb h' i2 b (k + 1) → IsPair h' s.heap.objs.size x y →
      (∀ c o, c ≠ z → c ≠ TO → c ≠ i1 → c ≠ i2 → s.heap.get? c = some o → h'.get? c = some o) → Q (some (.ref s.heap.objs.size)) { s with heap := h' }) : wpAny (model prog w) A (pyNext (.ref z)) Q E s := by
  have t : s.TypeIs (.ref z) "zip" := ⟨_, S.z, rfl⟩
  unfold pyNext
  refine wpAny_bind (wpAny_attempt (wpAny_callSpecial?_slot (name := Str.ofString "__next__") t F.slot_zip_next (wpAny_call_entry F.slot_zip_next t F.entry_zip_next ?_ (F.args_zip_next_1 _))))
  exact zipM_item D S ha hb hx hy fun h' q1 q2 q3 q4 q5 q6 => wpAny_pure (q h' q1 q2 q3 q4 q5 q6)
theorem pyNextM_end {Q : Option Value → Shared → Prop} (hh : A.handled = none) (D : ZipApart z TI TO i1 i2 a b) (S : ZipSt ka kb s.heap z TI TO i1 i2 a b k) (ha : sqAt ka s.heap a xs) (hb : sqAt kb s.heap b ys) (he : xs[k]? = none ∨ ys[k]? = none)
    (q : ∀ h', (∀ c o, c ≠ z → c ≠ TO → c ≠ i1 → c ≠ i2 → s.heap.get? c = some o → h'.get? c = some o) → Q none { s with heap := h' }) : wpAny (model prog w) A (pyNext (.ref z)) Q E s := by
  have t : s.TypeIs (.ref z) "zip" := ⟨_, S.z, rfl⟩
  unfold pyNext
  refine wpAny_bind (wpAny_attempt (wpAny_callSpecial?_slot (name := Str.ofString "__next__") t F.slot_zip_next (wpAny_call_entry F.slot_zip_next t F.entry_zip_next (zipM_end hh D S ha hb he fun h' e hk hs => ?_) (F.args_zip_next_1 _))))
  obtain ⟨o, ho, hc⟩ := hs
  exact wpAny_bind (wpAny_isInstance (T := "StopIteration") (b := true) ⟨o, ho, hc⟩ isSubtype_stop (wpAny_pure (q h' hk)))
/-! the zip is made -/
def itO (kd : Bool) (l : Addr) : Obj := { cls := .type (if kd = true then "tuple_iterator" else "list_iterator"), data := .fields #[.ref l, .int 0 0] }
def zM1 (ka : Bool) (h : Heap) (a : Addr) : Heap := h.push (itO ka a)
def zM2 (ka kb : Bool) (h : Heap) (a b : Addr) : Heap := (zM1 ka h a).push (itO kb b)
def zM3 (ka kb : Bool) (h : Heap) (a b : Addr) : Heap := (zM2 ka kb h a b).push { cls := .type "tuple", data := .seq #[.ref h.objs.size, .ref (zM1 ka h a).objs.size] }
def zM4 (ka kb : Bool) (h : Heap) (a b : Addr) : Heap := (zM3 ka kb h a b).push { cls := .type "tuple", data := .seq #[.none, .none] }
def zM5 (ka kb : Bool) (h : Heap) (a b : Addr) : Heap := (zM4 ka kb h a b).push { cls := .type "zip", data := .fields #[.none, .bool false, .bool false, .ref (zM2 ka kb h a b).objs.size, .ref (zM3 ka kb h a b).objs.size] }
theorem new_TL (a b : Addr) (xs ys : Array Value) : Meets (Builtin.«zip.__new__» ⟨[.type "zip", .ref a, .ref b], []⟩) (fun _ R s => s.heap.IsTuple a xs ∧ s.heap.IsList b ys ∧
      R (.ok (.ret (.ref (zM4 true false s.heap a b).objs.size))) { s with heap := zM5 true false s.heap a b }) := .of_wp fun prog w A R s h => by
  obtain ⟨hp, g, d, tk, os⟩ := s
  obtain ⟨p1, p2, h⟩ := h
  have sz := sub_zip
  have q1 : Heap.IsTuple (Shared.heap ⟨hp, g, d, tk, os⟩) a xs := p1
  have q2 : Heap.IsList (Shared.heap ⟨hp.push { cls := .type "tuple_iterator", data := .fields #[.ref a, .int 0 0] }, g, d, tk, os⟩) b ys := Heap.IsList.push p2 _
  wp_walk using wpAny_pyIter_tuple q1, wpAny_pyIter_list q2
  exact ⟨_, rfl, h⟩
theorem new_LT (a b : Addr) (xs ys : Array Value) : Meets (Builtin.«zip.__new__» ⟨[.type "zip", .ref a, .ref b], []⟩) (fun _ R s => s.heap.IsList a xs ∧ s.heap.IsTuple b ys ∧
      R (.ok (.ret (.ref (zM4 false true s.heap a b).objs.size))) { s with heap := zM5 false true s.heap a b }) := .of_wp fun prog w A R s h => by
  obtain ⟨hp, g, d, tk, os⟩ := s
  obtain ⟨p1, p2, h⟩ := h
  have sz := sub_zip
  have q1 : Heap.IsList (Shared.heap ⟨hp, g, d, tk, os⟩) a xs := p1
  have q2 : Heap.IsTuple (Shared.heap ⟨hp.push { cls := .type "list_iterator", data := .fields #[.ref a, .int 0 0] }, g, d, tk, os⟩) b ys := Heap.IsTuple.push p2 _
  wp_walk using wpAny_pyIter_list q1, wpAny_pyIter_tuple q2
  exact ⟨_, rfl, h⟩
theorem itAt_new {kd : Bool} {h : Heap} {it l : Addr} (e : h.get? it = some (itO kd l)) : itAt kd h it l 0 := by
  cases kd with
  | true => exact ⟨_, e, rfl, rfl⟩
  | false => exact ⟨_, e, rfl, rfl⟩
theorem call_zipM {Q : Value → Shared → Prop} (hne : ka ≠ kb) (ha : sqAt ka s.heap a xs) (hb : sqAt kb s.heap b ys)
    (q : ∀ h', ZipSt ka kb h' (s.heap.objs.size + 4) (s.heap.objs.size + 2) (s.heap.objs.size + 3) s.heap.objs.size (s.heap.objs.size + 1) a b 0 → (∀ c o, s.heap.get? c = some o → h'.get? c = some o) → Q (.ref (s.heap.objs.size + 4)) { s with heap := h' }) :
    wpAny (model prog w) A (call (.type "zip") [.ref a, .ref b]) Q E s := by
  have n1 : (zM1 ka s.heap a).objs.size = s.heap.objs.size + 1 := Heap.size_push ..
  have n2 : (zM2 ka kb s.heap a b).objs.size = s.heap.objs.size + 2 := by unfold zM2; rw [Heap.size_push, n1]
  have n3 : (zM3 ka kb s.heap a b).objs.size = s.heap.objs.size + 3 := by unfold zM3; rw [Heap.size_push, n2]
  have n4 : (zM4 ka kb s.heap a b).objs.size = s.heap.objs.size + 4 := by unfold zM4; rw [Heap.size_push, n3]
  have k5 : ∀ c o, (zM4 ka kb s.heap a b).get? c = some o → (zM5 ka kb s.heap a b).get? c = some o := fun c o e => Heap.get?_push_of_some _ e
  have k4 : ∀ c o, (zM3 ka kb s.heap a b).get? c = some o → (zM5 ka kb s.heap a b).get? c = some o := fun c o e => k5 c o (Heap.get?_push_of_some _ e)
  have k3 : ∀ c o, (zM2 ka kb s.heap a b).get? c = some o → (zM5 ka kb s.heap a b).get? c = some o := fun c o e => k4 c o (Heap.get?_push_of_some _ e)
  have k2 : ∀ c o, (zM1 ka s.heap a).get? c = some o → (zM5 ka kb s.heap a b).get? c = some o := fun c o e => k3 c o (Heap.get?_push_of_some _ e)
  have fin : Q (.ref (zM4 ka kb s.heap a b).objs.size) { s with heap := zM5 ka kb s.heap a b } := by
    rw [n4]
    refine q _ ⟨?_, ?_, ⟨.none, .none, ?_⟩, itAt_new ?_, itAt_new ?_⟩ fun c o e => k2 c o (Heap.get?_push_of_some _ e)
    · have e : (zM5 ka kb s.heap a b).get? (zM4 ka kb s.heap a b).objs.size = some { cls := .type "zip", data := .fields #[.none, .bool false, .bool false, .ref (zM2 ka kb s.heap a b).objs.size, .ref (zM3 ka kb s.heap a b).objs.size] } := Heap.get?_push_size _ rfl
      rw [n4] at e
      unfold IsZip
      rw [e, n2, n3]
    · have e : (zM3 ka kb s.heap a b).get? (zM2 ka kb s.heap a b).objs.size = some { cls := .type "tuple", data := .seq #[.ref s.heap.objs.size, .ref (zM1 ka s.heap a).objs.size] } := Heap.get?_push_size _ rfl
      have e := k4 _ _ e
      rw [n2] at e
      unfold IsPair
      rw [e, n1]
    · have e : (zM4 ka kb s.heap a b).get? (zM3 ka kb s.heap a b).objs.size = some { cls := .type "tuple", data := .seq #[.none, .none] } := Heap.get?_push_size _ rfl
      have e := k5 _ _ e
      rw [n3] at e
      exact e
    · exact k2 _ _ (Heap.get?_push_size s.heap (o := itO ka a) (by cases ka <;> rfl))
    · have e : (zM2 ka kb s.heap a b).get? (zM1 ka s.heap a).objs.size = some (itO kb b) := Heap.get?_push_size _ (by cases kb <;> rfl)
      have e := k3 _ _ e
      rw [n1] at e
      exact e
  cases ka with
  | true =>
    cases kb with
    | true => exact absurd rfl hne
    | false => exact callType_new F.called_zip (by decide) (F.typeCall_zip_2 _ _) (F.newCall_zip_2 _ _) (fun obj => F.args_object_init_3 obj _ _) F.entry_zip_new (new_TL a b xs ys) ⟨ha, hb, ⟨_, by
      have := Heap.get?_push_size (zM4 true false s.heap a b) (o := { cls := .type "zip", data := .fields #[.none, .bool false, .bool false, .ref (zM2 true false s.heap a b).objs.size, .ref (zM3 true false s.heap a b).objs.size] }) rfl
      exact this, rfl⟩, fin⟩
  | false =>
    cases kb with
    | false => exact absurd rfl hne
    | true => exact callType_new F.called_zip (by decide) (F.typeCall_zip_2 _ _) (F.newCall_zip_2 _ _) (fun obj => F.args_object_init_3 obj _ _) F.entry_zip_new (new_LT a b xs ys) ⟨ha, hb, ⟨_, by
      have := Heap.get?_push_size (zM4 false true s.heap a b) (o := { cls := .type "zip", data := .fields #[.none, .bool false, .bool false, .ref (zM2 false true s.heap a b).objs.size, .ref (zM3 false true s.heap a b).objs.size] }) rfl
      exact this, rfl⟩, fin⟩
end
/-! ### over the layer -/
def SqK (K : PySem.W.Frag) (kd : Bool) (H : Hp) (a : Addr) (xs : List V) : Prop := if kd = true then SqT K H a xs else SqL K H a xs
section
variable {X : Cx} {pins : List (Addr × Obj)} {σ : L2.St} {H : Hp} {s : Shared} {kd : Bool} {a : Addr} {xs ys : List V}
theorem SqK.real (I : Inv X pins σ H s) (h : SqK X.K kd H a xs) : ∃ its, Vals xs its ∧ sqAt kd s.heap a its.toArray := by
  cases kd with
  | true => obtain ⟨its, r, p, _⟩ := I.tuple h; exact ⟨its, r, p⟩
  | false => obtain ⟨its, r, p, _⟩ := I.list h; exact ⟨its, r, p.isList⟩
theorem SqK.inj (I : Inv X pins σ H s) (h : SqK X.K kd H a xs) (h' : SqK X.K kd H a ys) : xs = ys := by
  cases kd with
  | true => exact I.tuple_inj h h'
  | false => exact I.list_inj h h'
end
/-- two sequences as they stand at each turn, the items in new pairs -/
def ItM (K : PySem.W.Frag) (ka kb : Bool) (a b : Addr) : It where
  go := fun i H => ∃ (xs ys : List V) (x y : V), SqK K ka H a xs ∧ SqK K kb H b ys ∧ xs[i]? = some x ∧ ys[i]? = some y
  yld := fun i H v H' => ∃ T x y, v = .ref T ∧ H T = none ∧ H' = upd H T (.tup [x, y]) ∧ (∀ xs, SqK K ka H a xs → xs[i]? = some x) ∧ ∀ ys, SqK K kb H b ys → ys[i]? = some y
  stop := fun i H => ∃ xs ys : List V, SqK K ka H a xs ∧ SqK K kb H b ys ∧ (xs.length ≤ i ∨ ys.length ≤ i)
theorem mem5 {c z TI TO i1 i2 : Addr} (h : c ∈ [z, TI, TO, i1, i2]) : c = z ∨ c = TI ∨ c = TO ∨ c = i1 ∨ c = i2 := by simpa using h
theorem turn_zipM {P : Program} {w : World} {K : PySem.W.Frag} {elts : List PySem.Expr} {kk : Nat} {tpos : Pos} {ka kb : Bool} {a b z TI TO i1 i2 : Addr} (D : ZipApart z TI TO i1 i2 a b) :
    Turn P w K (.Tuple elts kk tpos) (ItM K ka kb a b) [z, TI, TO, i1, i2] z (fun i h => ZipSt ka kb h z TI TO i1 i2 a b i) where
  mem := by simp
  obj := fun i h S c hc => by
    obtain ⟨u, v, ho⟩ := S.to
    rcases mem5 hc with rfl | rfl | rfl | rfl | rfl
    · exact ⟨_, S.z, fun v q => nomatch q⟩
    · exact ⟨_, S.ti, fun v q => nomatch q⟩
    · exact ⟨_, ho, fun v q => nomatch q⟩
    · exact S.i1.obj
    · exact S.i2.obj
  keep := fun i h h' S k => by
    obtain ⟨u, v, ho⟩ := S.to
    exact ⟨k z (by simp) _ S.z, k TI (by simp) _ S.ti, ⟨u, v, k TO (by simp) _ ho⟩, S.i1.keep fun o q => k i1 (by simp) o q, S.i2.keep fun o q => k i2 (by simp) o q⟩
  item := by
    intro X hP hw hK hc i pins s σ H E I hf S hg
    subst hP hw hK
    obtain ⟨xs, ys, x, y, sx, sy, hx, hy⟩ := hg
    obtain ⟨its, rv, p⟩ := SqK.real I sx
    obtain ⟨its2, rv2, p2⟩ := SqK.real I sy
    obtain ⟨u, hu, ru⟩ := rv.get hx
    obtain ⟨u2, hu2, ru2⟩ := rv2.get hy
    have lz : z < s.heap.objs.size := Heap.lt_size S.z
    refine pyNextM_item D S p p2 (x := u) (y := u2) (by simpa using hu) (by simpa using hu2) fun h' z' o' f1 f2 np hk => ⟨_, rfl, ?_⟩
    refine wpAny_letOwnedTupleGo_zip (s := { s with heap := h' }) z' fun h2 z2 sb => ?_
    have off : ∀ c o, c ∉ [z, TI, TO, i1, i2] → s.heap.get? c = some o → h2.get? c = some o := fun c o hb q =>
      (sb.2 c fun t => hb (by simp [t])).trans (hk c o (fun t => hb (by simp [t])) (fun t => hb (by simp [t])) (fun t => hb (by simp [t])) (fun t => hb (by simp [t])) q)
    have np2 : h2.get? s.heap.objs.size = some { cls := .type "tuple", data := .seq #[u, u2] } := (sb.2 _ (Nat.ne_of_gt lz)).trans np
    have new : ObjOk X.prog X.w (upd H s.heap.objs.size (.tup [x, y])) h2 s.heap.objs.size (.tup [x, y]) := ⟨by show 2 ≤ sizeLine; decide, [u, u2], .cons ru (.cons ru2 .nil), ⟨_, np2, rfl, _, rfl⟩⟩
    have J : Inv X pins σ (upd H s.heap.objs.size (.tup [x, y])) { s with heap := h2 } := I.turnedNew (t' := s.toks) (ch := [z, TI, TO, i1, i2]) off hf (Nat.le_refl _) new
    refine ⟨.ref s.heap.objs.size, _, J, rfl, ⟨_, x, y, rfl, I.hok.fresh (Nat.le_refl _), rfl, fun l hl => by rw [SqK.inj I hl sx]; exact hx, fun l hl => by rw [SqK.inj I hl sy]; exact hy⟩,
      ⟨z2, (sb.2 _ D.TIz).trans (hk _ _ D.TIz D.TITO D.TIi1 D.TIi2 S.ti), ⟨u, u2, (sb.2 _ D.TOz).trans o'⟩, f1.keep fun o q => (sb.2 _ D.i1z).trans q, f2.keep fun o q => (sb.2 _ D.i2z).trans q⟩, fun c hcm => ?_⟩
    have hlt : c < s.heap.objs.size := by
      obtain ⟨o, ho⟩ : ∃ o, s.heap.get? c = some o := by
        obtain ⟨u, v, ho⟩ := S.to
        rcases mem5 hcm with rfl | rfl | rfl | rfl | rfl
        · exact ⟨_, S.z⟩
        · exact ⟨_, S.ti⟩
        · exact ⟨_, ho⟩
        · obtain ⟨o, e, _⟩ := S.i1.obj; exact ⟨o, e⟩
        · obtain ⟨o, e, _⟩ := S.i2.obj; exact ⟨o, e⟩
      exact Heap.lt_size ho
    rw [upd_ne (Nat.ne_of_lt hlt)]
    exact (hf c hcm).1
  done := by
    intro X hP hw hK hc i pins s σ H E I hf S hg
    subst hP hw hK
    obtain ⟨xs, ys, sx, sy, he⟩ := hg
    obtain ⟨its, rv, p⟩ := SqK.real I sx
    obtain ⟨its2, rv2, p2⟩ := SqK.real I sy
    have n1 := rv.length
    have n2 := rv2.length
    have he2 : its.toArray[i]? = none ∨ its2.toArray[i]? = none := by
      rcases he with q | q
      · exact .inl (by simp; omega)
      · exact .inr (by simp; omega)
    exact pyNextM_end (I.ok.hd hc) D S p p2 he2 fun h' hk => ⟨rfl, I.turnedL (t' := s.toks) (ch := [z, TI, TO, i1, i2]) (fun c o hb q =>
      hk c o (fun t => hb (by simp [t])) (fun t => hb (by simp [t])) (fun t => hb (by simp [t])) (fun t => hb (by simp [t])) q) hf⟩
  self := fun A i s Q E S h => wpAny_pyIter_zip S.z h
def iZipM (K : PySem.W.Frag) (ta : TA) : TI := fun σ H R => ta σ H fun vs H1 => ∃ ka kb a b xs ys, vs = [.ref a, .ref b] ∧ ka ≠ kb ∧ SqK K ka H1 a xs ∧ SqK K kb H1 b ys ∧ R (ItM K ka kb a b) H1
theorem pi_zipM {X : Cx} {e e2 : PySem.Expr} {ta : TA} {p pos tpos : Pos} {elts : List PySem.Expr} {kk : Nat} (hg : Gl X "zip") (hm : X.mg "zip" = none) (ha : PA X [e, e2] ta)
    (hs : starEach [e, e2] X.env = (false, eval e X.env) :: starEach [e2] X.env := by rfl) (hpl : (backTo pos (starEach [e2] X.env)).any (·.1) = false := by rfl) :
    PI X (.Tuple elts kk tpos) (.Call (.Name "zip" p) [e, e2] [] pos) (iZipM X.K ta) := by
  refine ⟨fun pins s σ H R I h => ?_⟩
  refine Call_ (ld_blt I hg hm PyProof.Rows.boot_zip (PyProof.Rows.callWith_type1 (thn (ha.run pos pins s σ H _ I h) fun us s1 ⟨vs, H1, I1, r1, q1⟩ => ?_) hs hpl))
  obtain ⟨ka, kb, a, b, xs, ys, rfl, hne, sx, sy, q⟩ := q1
  obtain ⟨u1, u2, rfl, ra, rb⟩ := vals2 r1
  obtain rfl : u1 = Value.ref a := ra
  obtain rfl : u2 = Value.ref b := rb
  obtain ⟨its, rv, p1⟩ := SqK.real I1 sx
  obtain ⟨its2, rv2, p2⟩ := SqK.real I1 sy
  refine call_zipM hne p1 p2 fun h' S hk => wpAny_pyIter_zip S.z ?_
  refine ⟨s1.heap.objs.size + 4, [s1.heap.objs.size + 4, s1.heap.objs.size + 2, s1.heap.objs.size + 3, s1.heap.objs.size, s1.heap.objs.size + 1], _, _, H1, rfl, I1.kept (t' := s1.toks) hk, turn_zipM (PySem.W.ktu_apart s1.heap.objs.size a b p1.lt p2.lt), S, fun c hcm => ?_, q⟩
  have hle : s1.heap.objs.size ≤ c := by
    rcases mem5 hcm with t | t | t | t | t
    · rw [t]; exact Nat.le_add_right _ _
    · rw [t]; exact Nat.le_add_right _ _
    · rw [t]; exact Nat.le_add_right _ _
    · rw [t]; exact Nat.le_refl _
    · rw [t]; exact Nat.le_add_right _ _
  exact I1.fpOk hle (I1.hok.fresh hle)
/-- any two of them -/
def iZipY (K : PySem.W.Frag) (ta : TA) : TI := fun σ H R => RZ.iZipA K ta σ H R ∨ iZipM K ta σ H R
theorem pi_zipY {X : Cx} {e e2 : PySem.Expr} {ta : TA} {p pos tpos : Pos} {elts : List PySem.Expr} {kk : Nat} (hg : Gl X "zip") (hm : X.mg "zip" = none) (ha : PA X [e, e2] ta)
    (hs : starEach [e, e2] X.env = (false, eval e X.env) :: starEach [e2] X.env := by rfl) (hpl : (backTo pos (starEach [e2] X.env)).any (·.1) = false := by rfl) :
    PI X (.Tuple elts kk tpos) (.Call (.Name "zip" p) [e, e2] [] pos) (iZipY X.K ta) := PI.or (RZ.pi_zipA hg hm ha hs hpl) (pi_zipM hg hm ha hs hpl)
end Y

namespace Y
open PySem L2
/-! ### zip of any two sequences, its run -/
def itZipY (F G : Loc → M W) : Loc → M (List D) := fun ρ => M.bnd (F ρ) fun x => M.bnd (G ρ) fun y => M.bnd (gSeq x) fun ds => M.bnd (gSeq y) fun es => M.ret (zipD ds es)
section
variable {K : PySem.W.Frag} {mg : Str → Option Value} {E : XK} {w : Wd}
theorem rep_sqK (ok : Ok K w) {y : D} {v : V} {ds : List D} (r : RepW K w (.d y) v) (hd : seqOf y = some ds) : ∃ kd p vs, v = .ref p ∧ (∀ w2, Nxt w w2 → SqK K kd w2.H p vs) ∧ RepL K w.H w.al ds vs := by
  cases y with
  | tup es =>
    cases hd
    obtain ⟨a, vs, rfl, hs, rl⟩ := r
    exact ⟨true, a, vs, rfl, fun w2 x => SqT.keep (x.k1 ok a) hs, rl⟩
  | tux es =>
    cases hd
    obtain ⟨a, vs, rfl, hs, rl⟩ := r
    exact ⟨true, a, vs, rfl, fun w2 x => SqT.keep (x.k1 ok a) (tux_sq hs), rl⟩
  | lst es =>
    cases hd
    obtain ⟨a, vs, rfl, hs, na, rl⟩ := r
    exact ⟨false, a, vs, rfl, fun w2 x => SqL.of (x.keep a _ hs na), rl⟩
  | frz es =>
    cases hd
    obtain ⟨a, vs, rfl, hs, rl⟩ := r
    exact ⟨false, a, vs, rfl, fun w2 x => fz_sq (FzL.keep (x.k1 ok a) hs), rl⟩
  | _ => cases hd
theorem its_zipM {ka kb : Bool} {a b : Addr} {vs us : List V} {ds es : List D} (ok : Ok K w) (st : ∀ w', Nxt w w' → SqK K ka w'.H a vs) (st2 : ∀ w', Nxt w w' → SqK K kb w'.H b us) (r : RepL K w.H w.al ds vs) (r2 : RepL K w.H w.al es us) : Its K w (ItM K ka kb a b) (zipD ds es) := by
  have n1 := r.length
  have n2 := r2.length
  refine ⟨fun w' x ok' i hi => ?_, fun w' x ok' => ?_, fun w' x ok' i y H' hi q => ?_⟩
  · rw [zipD_len] at hi
    exact ⟨vs, us, vs[i]'(by omega), us[i]'(by omega), st w' x, st2 w' x, by simp [show i < vs.length by omega], by simp [show i < us.length by omega]⟩
  · refine ⟨vs, us, st w' x, st2 w' x, ?_⟩
    rw [zipD_len, n1, n2]
    omega
  · rw [zipD_len] at hi
    obtain ⟨T, u, v, rfl, hT, rfl, q1, q2⟩ := q
    obtain ⟨d, hd, rd⟩ := (r.nxt x ok).getV (q1 vs (st w' x))
    obtain ⟨e, he, re⟩ := (r2.nxt x ok).getV (q2 us (st2 w' x))
    exact zip_yld ok' hT hd he rd re
theorem ei_zipY {ta tb : TE} {F G : Loc → M W} (ha : EvE K mg E ta F) (hb : EvE K mg E tb G) : EvI K mg E (iZipY K (tCons ta (tCons tb tNil))) (itZipY F G) := by
  intro σ ρ w ok r R h
  unfold itZipY at h
  -- what both give decides which rule is asked
  cases eF : F ρ w.st with
  | bad => rw [sat_bnd, eF] at h; exact h.elim
  | err x s1 =>
    rw [sat_bnd, eF] at h
    exact .inl (ha σ ρ w ok r _ (by rw [eF]; exact h))
  | ok x s1 =>
    rw [sat_bnd, eF] at h
    have h' : (M.bnd (G ρ) (fun y => M.bnd (gSeq x) fun ds => M.bnd (gSeq y) fun es => M.ret (zipD ds es)) s1).sat (fun ds s' => ∀ J w', Gd K w s' w' → Its K w' J ds → R J w'.H) (EOk K mg E w) := h
    cases eG : G ρ s1 with
    | bad => rw [sat_bnd, eG] at h'; exact h'.elim
    | err e s2 =>
      rw [sat_bnd, eG] at h'
      refine .inl (ha σ ρ w ok r _ ?_)
      rw [eF]
      intro v w1 g1 rv
      obtain rfl := g1.st
      exact hb σ ρ w1 g1.ok (r.nxt g1.stp.toNxt ok) _ (by rw [eG]; exact (show EOk K mg E w e s2 from h').of g1)
    | ok y s2 =>
      rw [sat_bnd, eG] at h'
      have h2 : (M.bnd (gSeq x) (fun ds => M.bnd (gSeq y) fun es => M.ret (zipD ds es)) s2).sat (fun ds s' => ∀ J w', Gd K w s' w' → Its K w' J ds → R J w'.H) (EOk K mg E w) := h'
      rw [sat_bnd, v_seqD] at h2
      obtain ⟨a', ds, rfl, hds, h3⟩ := h2
      rw [sat_bnd, v_seqD] at h3
      obtain ⟨b', es, rfl, hes, h4⟩ := h3
      have h5 : ∀ J w', Gd K w s2 w' → Its K w' J (zipD ds es) → R J w'.H := h4
      have hall : ∀ (W' : TA → Prop), True := fun _ => trivial
      -- the kinds as told by the forms
      have kd : ∀ (y : D) (zs : List D), seqOf y = some zs → ∀ (u : Wd) (v : V), Ok K u → RepW K u (.d y) v → ∃ p vs, v = .ref p ∧ (∀ w2, Nxt u w2 → SqK K (isTupD y) w2.H p vs) ∧ RepL K u.H u.al zs vs := by
        intro y zs hz u v oku rv
        cases y with
        | tup es => cases hz; obtain ⟨a, vs, rfl, hs, rl⟩ := rv; exact ⟨a, vs, rfl, fun w2 x => SqT.keep (x.k1 oku a) hs, rl⟩
        | tux es => cases hz; obtain ⟨a, vs, rfl, hs, rl⟩ := rv; exact ⟨a, vs, rfl, fun w2 x => SqT.keep (x.k1 oku a) (tux_sq hs), rl⟩
        | lst es => cases hz; obtain ⟨a, vs, rfl, hs, na, rl⟩ := rv; exact ⟨a, vs, rfl, fun w2 x => SqL.of (x.keep a _ hs na), rl⟩
        | frz es => cases hz; obtain ⟨a, vs, rfl, hs, rl⟩ := rv; exact ⟨a, vs, rfl, fun w2 x => fz_sq (FzL.keep (x.k1 oku a) hs), rl⟩
        | _ => cases hz
      by_cases hk : isTupD a' = isTupD b'
      · refine .inl (ha σ ρ w ok r _ ?_)
        rw [eF]
        intro v w1 g1 rv
        obtain rfl := g1.st
        refine hb σ ρ w1 g1.ok (r.nxt g1.stp.toNxt ok) _ ?_
        rw [eG]
        intro u w2 g2 ru
        have gg := g1.trans g2
        obtain ⟨p, vs, rfl, sp, rl⟩ := kd a' ds hds w2 v g2.ok (rv.nxt g2.stp.toNxt g1.ok)
        obtain ⟨q, us, rfl, sq, rl2⟩ := kd b' es hes w2 u g2.ok ru
        refine ⟨p, q, vs, us, rfl, ?_⟩
        cases hb' : isTupD b' with
        | true =>
          rw [hk, hb'] at sp
          rw [hb'] at sq
          have s1 : SqT K w2.H p vs := sp w2 (Nxt.refl w2)
          have s2 : SqT K w2.H q us := sq w2 (Nxt.refl w2)
          exact .inr ⟨s1, s2, h5 _ w2 gg (its_zipT g2.ok s1 s2 rl rl2)⟩
        | false =>
          rw [hk, hb'] at sp
          rw [hb'] at sq
          exact .inl ⟨sp w2 (Nxt.refl w2), sq w2 (Nxt.refl w2), h5 _ w2 gg (its_zipL g2.ok sp sq rl rl2)⟩
      · refine .inr (ha σ ρ w ok r _ ?_)
        rw [eF]
        intro v w1 g1 rv
        obtain rfl := g1.st
        refine hb σ ρ w1 g1.ok (r.nxt g1.stp.toNxt ok) _ ?_
        rw [eG]
        intro u w2 g2 ru
        have gg := g1.trans g2
        obtain ⟨p, vs, rfl, sp, rl⟩ := kd a' ds hds w2 v g2.ok (rv.nxt g2.stp.toNxt g1.ok)
        obtain ⟨q, us, rfl, sq, rl2⟩ := kd b' es hes w2 u g2.ok ru
        exact ⟨isTupD a', isTupD b', p, q, vs, us, rfl, hk, sp w2 (Nxt.refl w2), sq w2 (Nxt.refl w2), h5 _ w2 gg (its_zipM g2.ok sp sq rl rl2)⟩
end
section
variable {s s' s2 : Sto} {ρ : Loc} {F G : Loc → M W} {d e : D} {ds es : List D}
theorem e_itZip (h : F ρ s = .ok (.d d) s') (h2 : G ρ s' = .ok (.d e) s2) (hd : seqOf d = some ds) (he : seqOf e = some es) : itZipY F G ρ s = .ok (zipD ds es) s2 := by
  unfold itZipY
  rw [bnd_ok h, bnd_ok h2, bnd_ok (show gSeq (.d d) s2 = .ok ds s2 by unfold gSeq; simp only [hd]), bnd_ok (show gSeq (.d e) s2 = .ok es s2 by unfold gSeq; simp only [he])]
  rfl
end
theorem zipD_map {α β : Type} (f : α → D) (g : β → D) : ∀ (l : List α) (r : List β), zipD (l.map f) (r.map g) = (l.zip r).map fun p => .tup [f p.1, g p.2]
  | [], _ => rfl
  | _ :: _, [] => rfl
  | a :: l, b :: r => by
    show D.tup [f a, g b] :: zipD (l.map f) (r.map g) = _
    rw [zipD_map f g l r]
    rfl
end Y

namespace Y
open PySem L2 PyProof.Rows
/-! ### tuple(r), r a range: the new tuple is known to have no dict -/
def tTuxRg (te : L2.St → Hp → (Int → Int → Hp → Prop) → Prop) : TE := fun σ H Q => te σ H fun a b H1 => RgOk a b ∧ ∀ q o, H1 q = none → o.dict = none → Q (.ref q) (upd H1 q (.frz o (.tup (rgV a b))))
theorem pe_tuxRg {X : Cx} {e : PySem.Expr} {te : L2.St → Hp → (Int → Int → Hp → Prop) → Prop} {p pos : Pos} (hc : X.calm = true) (hg : Gl X "tuple") (hm : X.mg "tuple" = none) (he : PRg X e te) (na : starEach [e] X.env = (false, eval e X.env) :: starEach [] X.env := by rfl) : PE X (.Call (.Name "tuple" p) [e] [] pos) (tTuxRg te) := by
  refine ⟨fun pins s σ H Q I h => ?_⟩
  refine Call_ (ld_blt I hg hm boot_tuple (PyProof.Rows.callWith_type1 (args_cons (thn (he pins s σ H _ I h) fun x s1 z => args_nil ?_) na) na))
  obtain ⟨r, a, b, t, u, v, H1, ex, hr, I1, ok, q⟩ := z
  subst ex
  obtain ⟨b1, b2, b3, b4, b5⟩ := ok
  refine call_tuple_range (n := (b - a).toNat) (I1.ok.hd hc) hr (small_one b1 b2 b3 b4) (rangeSize_nat a b) b5 fun h' tk acc hk hi => ?_
  have I2 : Inv X pins σ H1 { s1 with heap := h', toks := tk } := I1.kept hk
  let o : Obj := { cls := .type "tuple", data := .seq acc }
  have hl : (rgV a b).length ≤ sizeLine := by rw [rgV_length, sizeLine_eq]; omega
  have ob : ObjOk X.prog X.w (upd H1 h'.objs.size (.frz o (.tup (rgV a b)))) (h'.push o) h'.objs.size (.frz o (.tup (rgV a b))) := ⟨Heap.get?_push_size _ rfl, hl, acc.toList, vals_rg hi, by rw [Array.toArray_toList]; exact IsTup.new _ _⟩
  have I3 : Inv X pins σ (upd H1 h'.objs.size (.frz o (.tup (rgV a b)))) { s1 with heap := h'.push o, toks := tk } := I2.laid (t' := tk) (fun b o e => Heap.get?_push_of_some _ e) (Nat.le_refl _) ob
  exact ⟨.ref h'.objs.size, _, I3, rfl, q _ o (I2.hok.fresh (Nat.le_refl _)) rfl⟩
def tuxRv (F : Loc → M W) : Loc → M W := fun ρ => M.bnd (F ρ) fun x => M.bnd (gRv x) fun ds => M.ret (.d (.tux ds))
section
variable {K : PySem.W.Frag} {mg : Str → Option Value} {E : XK} {w : Wd}
theorem ev_tuxRv {te : TE} {F : Loc → M W} (ha : EvE K mg E te F) : EvE K mg E (tTuxRg (tRgV te)) (tuxRv F) := by
  intro σ ρ w ok r Q h
  refine ev1 ha ok r h fun x v w1 g1 ok1 r1 rv h1 => ?_
  obtain ⟨n, rfl, hn, h2⟩ := gRv_sat h1
  obtain ⟨a, rfl, ha⟩ := rv
  refine ⟨a, 0, n, rfl, ha, RgOk.of_le (by omega) (by omega) (by omega) (by omega), fun q o hq ho => ?_⟩
  have e : rgV 0 n = (List.range n).map fun i => V.int (0 + (i : Nat)) := by rw [rgV_eq]; rfl
  rw [e]
  have g := gd_lay (o := .frz o (.tup ((List.range n).map fun i => V.int (0 + (i : Nat))))) ok1 hq
  exact h2 _ _ (g1.trans g) ⟨q, _, rfl, ⟨o, upd_same, ho⟩, RepL.nxt g.stp.toNxt ok1 (rep_rng 0 n)⟩
end
section
variable {s s' : Sto} {ρ : Loc} {F : Loc → M W}
theorem e_tuxRv {n : Nat} (h : F ρ s = .ok (.r n) s') (hn : n ≤ 100000) : tuxRv F ρ s = .ok (.d (.tux ((rg n).map D.int))) s' := by
  unfold tuxRv
  rw [bnd_ok h]
  have e : gRv (.r n) s' = .ok ((rg n).map D.int) s' := by
    unfold gRv
    rw [← rg_D]
    exact if_pos hn
  rw [bnd_ok e]
  rfl
end
end Y

namespace Y
open PySem L2 PyProof.Rows
/-! ### a statement from which on a list is data: it is read again, and changed no more -/
def frzS (i : Nat) (S : Loc → M (Loc × Fl)) : Loc → M (Loc × Fl) := fun ρ s => match ρ[i]? with
  | some (some (.h n)) => (match s[n]? with
    | some (some ds) => S (ρ.set i (some (.d (.lst ds)))) (s.set n none)
    | _ => .bad)
  | _ => .bad
section
variable {K : PySem.W.Frag} {mg : Str → Option Value} {E : XK} {w : Wd}
theorem es_frzS {i : Nat} {ts : TS} {S : Loc → M (Loc × Fl)} (hS : EvS K mg E ts S) : EvS K mg E ts (frzS i S) := by
  intro σ ρ w ok r D h
  unfold frzS at h
  split at h
  · rename_i n hx
    split at h
    · rename_i ds hd
      obtain ⟨v, e, rv⟩ := r.2 i _ hx
      obtain ⟨a, ea, rfl, hnd⟩ := rv
      have g := gd_cold ok n
      have r1 := r.nxt g.stp.toNxt ok
      refine hS σ _ (w.cold n) g.ok ⟨by rw [List.length_set]; exact r1.1, fun j y hj => ?_⟩ D (h.mono (fun _ _ z => PFl.of g z) fun _ _ z => z.of g)
      by_cases q : i = j
      · subst q
        have hlt : i < ρ.length := (List.getElem?_eq_some_iff.mp hx).1
        rw [List.getElem?_set_self hlt] at hj
        cases hj
        exact ⟨_, e, rep_cold ok ea hd hnd⟩
      · rw [List.getElem?_set_ne q] at hj
        exact r1.2 j y hj
    · exact h.elim
  · exact h.elim
end
theorem st_frz {i n : Nat} {S : Loc → M (Loc × Fl)} {ρ : Loc} {s : Sto} {ds : List D} {PS : Loc × Fl → Sto → Prop} {E : XC → Sto → Prop} (h1 : ρ[i]? = some (some (.h n))) (h2 : s[n]? = some (some ds)) (h : (S (ρ.set i (some (.d (.lst ds)))) (s.set n none)).sat PS E) : (frzS i S ρ s).sat PS E := by
  unfold frzS
  simp only [h1, h2]
  exact h
end Y

namespace Y
open PySem L2 PyProof.Rows
/-! ### tuple(reversed(xs)), xs a list -/
def tupRev (F : Loc → M W) : Loc → M W := fun ρ => M.bnd (F ρ) fun x => match x with
  | .d a => if isTupD a = true then M.bad else M.bnd (gSeq (.d a)) fun ds => M.ret (.d (.tup ds.reverse))
  | _ => M.bad
section
variable {K : PySem.W.Frag} {mg : Str → Option Value} {E : XK} {w : Wd}
theorem ev_tupRev {te : TE} {F : Loc → M W} (ha : EvE K mg E te F) : EvE K mg E (RT.tTupRev K te) (tupRev F) := by
  intro σ ρ w ok r Q h
  refine ev1 ha ok r h fun x v w1 g1 ok1 r1 rv h1 => ?_
  split at h1
  · rename_i d
    split at h1
    · exact h1.elim
    · rename_i hk
      rw [sat_bnd, v_seqD] at h1
      obtain ⟨d', ds, ea, hds, h2⟩ := h1
      obtain rfl := W.d.inj ea
      obtain ⟨a, vs, rfl, _, hs, rl⟩ := lst_st ok1 hds (by simpa using hk) rv
      exact ⟨a, vs, rfl, hs, fun q hq => h2 _ _ (g1.trans (gd_lay ok1 hq)) (rep_tup ok1 hq rl.rev)⟩
  · exact h1.elim
end
theorem e_tupRev {F : Loc → M W} {ρ : Loc} {s s' : Sto} {d : D} {ds : List D} (h : F ρ s = .ok (.d d) s') (ht : isTupD d = false) (hd : seqOf d = some ds) : tupRev F ρ s = .ok (.d (.tup ds.reverse)) s' := by
  unfold tupRev
  rw [bnd_ok h]
  simp only [ht]
  unfold gSeq
  simp only [hd]
  rfl
end Y

namespace Y
open PySem L2 PyProof.Rows
/-! ### a comprehension whose list is changed later: a list of the store -/
def lcH (vs : List Nat) (I : Loc → M (List D)) (B : D → Loc → Option Loc) (T : Loc → M Bool) (F : Loc → M W) : Loc → M W := fun ρ => M.bnd (I ρ) fun ds => if ds.length ≤ cap then M.bnd (lcGo vs B T F ρ ds) fun r => (fun s => .ok (.h s.length) (s ++ [some r])) else M.bad
section
variable {K : PySem.W.Frag} {mg : Str → Option Value} {E : XK} {w : Wd}
theorem ev_lcH {wi : TI} {g : TG} {tt : TT} {te : TE} {vs is : List Nat} {I : Loc → M (List D)} {B : D → Loc → Option Loc} {T : Loc → M Bool} {F : Loc → M W} (hi : EvI K mg E wi I) (hg : EvG K g is B) (hs : is.all (fun i => vs.contains i) = true)
    (ht : EvT K mg E0 tt T) (he : EvE K mg E0 te F) : EvE K mg E (tLc wi g tt te vs) (lcH vs I B T F) := by
  intro σ ρ w ok r Q h
  unfold lcH at h
  rw [sat_bnd] at h
  refine hi σ ρ w ok r _ (h.mono (fun ds s1 h1 J w1 g1 J1 => ?_) fun _ _ z => z)
  obtain rfl := g1.st
  have r1 := r.nxt g1.stp.toNxt ok
  have ok1 := g1.ok
  by_cases hcap : ds.length ≤ cap
  case neg =>
    rw [if_neg hcap] at h1
    exact h1.elim
  rw [if_pos hcap, sat_bnd] at h1
  have hsub : ∀ i ∈ is, i ∈ vs := fun i hm => by
    have := List.all_eq_true.mp hs i hm
    simpa using this
  intro D hD
  have noG : ¬ w1.G D := fun z => by
    obtain ⟨_, us, e⟩ := ok1.gst D z
    rw [hD] at e; cases e
  let Post : List Y.D → Sto → Prop := fun l s' => ∀ v w', Gd K w1 (s' ++ [some l]) w' → RepW K w' (.h s'.length) v → Q v w'.H
  let Pv : Nat → Hp → Prop := fun i H => ∃ (w' : Wd) (acc : List V) (dacc : List Y.D), w'.H = H ∧ Nxt w1 w' ∧ Ok K w' ∧ (∀ a, w'.G a ↔ (w1.G a ∨ a = D)) ∧ w'.H D = some (.lst acc) ∧ RepL K w'.H w'.al dacc acc ∧
    dacc.length ≤ i ∧ (∀ a o, w1.G a → w1.H a = some o → w'.H a = some o) ∧ i ≤ ds.length ∧ (lcGo vs B T F ρ (ds.drop i) w'.st).sat (fun l s' => Post (dacc ++ l) s') (EOk K mg E w1)
  have start : Pv 0 (upd w1.H D (.lst [])) := by
    let w2 : Wd := { w1 with H := upd w1.H D (.lst []), G := fun a => w1.G a ∨ a = D }
    have x : Nxt w1 w2 := ⟨fun a o e _ => upd_off e (ne_of_none e hD), ⟨[], by simp [w2]⟩, fun a z => by
      rcases z with z | z | z
      · exact .inl (.inl z)
      · exact .inl (.inr z)
      · rw [z]; exact .inr hD, fun _ _ => Iff.rfl, fun _ h => upd_lv h⟩
    have ok2 : Ok K w2 := by
      refine ⟨ok1.len, ok1.nd, fun n a es q1 q2 hd => ?_, fun n a es q1 q2 hd => ?_, ok1.dkh, fun a z => ?_, fun a z => ?_⟩
      · obtain ⟨us, e, q⟩ := ok1.cell n a es q1 q2 hd
        exact ⟨us, upd_off e (ne_of_none e hD), q.nxt x ok1⟩
      · exact (ok1.celd n a es q1 q2 hd).lay (fun u e => upd_off e (ne_of_none e hD)) fun es z => z.nxt x ok1
      · cases e : w1.H a with
        | none => exact absurd e (ok1.trk a z)
        | some o =>
          show upd w1.H D _ a ≠ none
          rw [upd_off e (ne_of_none e hD)]
          exact fun z => nomatch z
      · rcases z with z | z
        · obtain ⟨q1, us, e⟩ := ok1.gst a z
          exact ⟨q1, us, upd_off e (ne_of_none e hD)⟩
        · rw [z]
          exact ⟨fun q => ok1.trk D q hD, [], upd_same⟩
    exact ⟨w2, [], [], rfl, x, ok2, fun a => Iff.rfl, upd_same, rfl, Nat.le_refl _, fun a o _ e => upd_off e (ne_of_none e hD), Nat.zero_le _, h1.mono (fun l s' z v w' q1 q2 => z v w' (g1.trans q1) q2) fun _ _ z => z.of g1⟩
  refine ⟨fun i m H => m = ds.length - i ∧ Pv i H, ⟨ds.length, by simp, start⟩, ?_⟩
  rintro i m H ⟨rfl, w', acc, dacc, rfl, x, ok', hG, hDa, hr, hl, gk, hile, hsat⟩
  by_cases hlt : i < ds.length
  · refine .inr ⟨J1.go w' x ok' i hlt, Pv (i + 1), fun H' p => ⟨ds.length - (i + 1), by omega, rfl, p⟩, fun y H' hy => ?_⟩
    obtain ⟨w2, d, g2, rfl, hd, rd⟩ := J1.yld w' x ok' i y H' hlt hy
    have ed : ds.drop i = d :: ds.drop (i + 1) := by
      obtain ⟨hlt', e⟩ := List.getElem?_eq_some_iff.mp hd
      rw [← e]
      exact List.drop_eq_getElem_cons hlt
    rw [ed] at hsat
    unfold lcGo at hsat
    rw [← g2.st] at hsat
    have hG2 : w2.G D := by rw [g2.stp.g]; exact (hG D).mpr (.inr rfl)
    have hD2 : w2.H D = some (.lst acc) := g2.stp.gk D _ ((hG D).mpr (.inr rfl)) hDa
    have hr2 := hr.nxt g2.stp.toNxt ok'
    have rw2 : ROk K w2 (wipe σ vs) (wipeL ρ vs) := ((r1.nxt x ok1).nxt g2.stp.toNxt ok').wipe vs
    cases eB : B d (wipeL ρ vs) with
    | none => rw [eB] at hsat; exact hsat.elim
    | some ρ1 =>
      rw [eB] at hsat
      refine hg.run d _ ρ1 _ w2 y g2.ok rw2 rd eB _ fun σ2 rσ hw => ?_
      refine ⟨(hw vs hsub).trans (wipe_wipe σ vs), ?_⟩
      have hsat' := sat_bnd.mp hsat
      refine ht σ2 ρ1 w2 g2.ok rσ _ ((nox_sat hsat').mono (fun b s3 h3 w3 g3 => ?_) fun _ _ z => z)
      obtain rfl := g3.st
      have rσ3 := rσ.nxt g3.stp.toNxt g2.ok
      have x3 : Nxt w1 w3 := (x.trans g2.stp.toNxt).trans g3.stp.toNxt
      have hG3 : ∀ a, w3.G a ↔ (w1.G a ∨ a = D) := fun a => by rw [g3.stp.g, g2.stp.g]; exact hG a
      have hD3 : w3.H D = some (.lst acc) := g3.stp.gk D _ hG2 hD2
      have hr3 := hr2.nxt g3.stp.toNxt g2.ok
      have gk3 : ∀ a o, w1.G a → w1.H a = some o → w3.H a = some o := fun a o z e => g3.stp.gk a o (by rw [g2.stp.g]; exact (hG a).mpr (.inl z)) (g2.stp.gk a o ((hG a).mpr (.inl z)) (gk a o z e))
      cases b with
      | false =>
        rw [if_neg Bool.false_ne_true] at h3 ⊢
        exact ⟨w3, acc, dacc, rfl, x3, g3.ok, hG3, hD3, hr3, by omega, gk3, hlt, h3⟩
      | true =>
        rw [if_pos rfl] at h3 ⊢
        rw [sat_bnd] at h3
        refine he σ2 ρ1 w3 g3.ok rσ3 _ ((nox_sat h3).mono (fun z s4 h4 v w4 g4 rz => ?_) fun _ _ z => z)
        obtain rfl := g4.st
        rw [sat_bnd] at h4
        cases z with
        | r n => exact h4.elim
        | k n => exact h4.elim
        | h n => exact h4.elim
        | d yd =>
          have h4' : (M.bnd (lcGo vs B T F ρ (ds.drop (i + 1))) (fun r => M.ret (yd :: r)) w4.st).sat (fun l s' => Post (dacc ++ l) s') (EOk K mg E w1) := h4
          rw [sat_bnd] at h4'
          have hG4 : ∀ a, w4.G a ↔ (w1.G a ∨ a = D) := fun a => by rw [g4.stp.g]; exact hG3 a
          have hD4 : w4.H D = some (.lst acc) := g4.stp.gk D _ ((hG3 D).mpr (.inr rfl)) hD3
          have hr4 := hr3.nxt g4.stp.toNxt g3.ok
          have gD4 : w4.G D := (hG4 D).mpr (.inr rfl)
          refine ⟨acc, hD4, capL (by rw [hr4.length]; omega), ?_⟩
          have x4 := nxt_gup (vs := acc ++ [v]) g4.ok gD4
          have rz' : Rep K w4.H w4.al yd v := rz
          have hr5 : RepL K w4.H w4.al (dacc ++ [yd]) (acc ++ [v]) := hr4.append ⟨v, [], rfl, rz', rfl⟩
          refine ⟨w4.gup D (acc ++ [v]), acc ++ [v], dacc ++ [yd], rfl, (x3.trans g4.stp.toNxt).trans x4, ok_gup g4.ok gD4, hG4, upd_same, hr5.nxt x4 g4.ok, by simp; omega, fun a o z e => ?_, hlt, ?_⟩
          · exact upd_off (g4.stp.gk a o ((hG3 a).mpr (.inl z)) (gk3 a o z e)) fun q => noG (by rw [← q]; exact z)
          · refine h4'.mono (fun l s' z => ?_) fun _ _ z => z
            have z' : Post (dacc ++ (yd :: l)) s' := z
            rw [List.append_assoc]
            exact z'
  · have e : i = ds.length := by omega
    subst e
    refine .inl ⟨J1.stop w' x ok', ?_⟩
    rw [List.drop_length] at hsat
    have hp : Post (dacc ++ []) w'.st := hsat
    rw [List.append_nil] at hp
    let wh : Wd := { w' with G := w1.G, hs := w'.hs ++ [D], st := w'.st ++ [some dacc] }
    have hnD : D ∉ w'.hs := (ok'.gst D ((hG D).mpr (.inr rfl))).1
    have cut : ∀ (n : Nat) (a : Addr) (es : List Y.D), wh.hs[n]? = some a → wh.st[n]? = some (some es) → (w'.hs[n]? = some a ∧ w'.st[n]? = some (some es)) ∨ (a = D ∧ es = dacc) := fun n a es q1 q2 => by
      have q1' : (w'.hs ++ [D])[n]? = some a := q1
      have q2' : (w'.st ++ [some dacc])[n]? = some (some es) := q2
      by_cases hn : n < w'.hs.length
      · rw [List.getElem?_append_left hn] at q1'
        rw [List.getElem?_append_left (by rw [← ok'.len]; exact hn)] at q2'
        exact .inl ⟨q1', q2'⟩
      · have hz : n = w'.hs.length := by
          have := (List.getElem?_eq_some_iff.mp q1').1
          rw [List.length_append, List.length_singleton] at this
          omega
        subst hz
        rw [List.getElem?_append_right (Nat.le_refl _), Nat.sub_self] at q1'
        rw [ok'.len, List.getElem?_append_right (Nat.le_refl _), Nat.sub_self] at q2'
        simp at q1' q2'
        exact .inr ⟨q1'.symm, q2'.symm⟩
    have al' : ∀ a, wh.al a → w'.al a := fun a z => by
      rcases z with ⟨n, es, q1, q2⟩ | z
      · rcases cut n a es q1 q2 with ⟨q1, q2⟩ | ⟨rfl, _⟩
        · exact .inl ⟨n, es, q1, q2⟩
        · exact .inr ((hG a).mpr (.inr rfl))
      · exact .inr ((hG a).mpr (.inl z))
    have kp : ∀ {d : List Y.D} {u : List V}, RepL K w'.H w'.al d u → RepL K wh.H wh.al d u := fun {d u} q => RepL.keep (fun a o e _ => e) (fun a us e n => ⟨e, fun z => n (al' a z)⟩) d u q
    have okf : Ok K wh := by
      refine ⟨?_, ?_, fun n a es q1 q2 hd => ?_, fun n a es q1 q2 hd => ?_, fun a z => List.mem_append_left _ (ok'.dkh a z), fun a z => ?_, fun a z => ?_⟩
      · show (w'.hs ++ [D]).length = (w'.st ++ [some dacc]).length
        simp [ok'.len]
      · show (w'.hs ++ [D]).Nodup
        rw [List.nodup_append]
        refine ⟨ok'.nd, by simp, fun a ha b hb => ?_⟩
        simp at hb
        rw [hb]
        rintro rfl
        exact hnD ha
      · rcases cut n a es q1 q2 with ⟨q1, q2⟩ | ⟨rfl, rfl⟩
        · obtain ⟨us, e, q⟩ := ok'.cell n a es q1 q2 hd
          exact ⟨us, e, kp q⟩
        · exact ⟨acc, hDa, kp hr⟩
      · rcases cut n a es q1 q2 with ⟨q1, q2⟩ | ⟨rfl, rfl⟩
        · exact (ok'.celd n a es q1 q2 hd).lay (fun u e => e) fun es z => DEnt.keep (fun a o e _ => e) (fun a us e n => ⟨e, fun z => n (al' a z)⟩) _ es z
        · exact absurd (ok'.dkh _ hd) hnD
      · have z' : a ∈ w'.hs ++ [D] := z
        rcases List.mem_append.mp z' with z | z
        · exact ok'.trk a z
        · simp at z
          rw [z]
          show w'.H D ≠ none
          rw [hDa]
          exact fun z => nomatch z
      · obtain ⟨q1, us, e⟩ := ok'.gst a ((hG a).mpr (.inl z))
        refine ⟨fun q => ?_, us, e⟩
        have q' : a ∈ w'.hs ++ [D] := q
        rcases List.mem_append.mp q' with q | q
        · exact q1 q
        · simp at q
          exact noG (by rw [← q]; exact z)
    obtain ⟨t, ht⟩ := x.ext
    have gf : Gd K w1 (w'.st ++ [some dacc]) wh := ⟨⟨⟨x.keep, ⟨t ++ [D], by show w'.hs ++ [D] = _; rw [ht, List.append_assoc]⟩, fun a z => x.al a (al' a z), x.dk, x.lv⟩, rfl, gk⟩, rfl, okf⟩
    refine hp _ wh gf (show RepW K wh (.h w'.st.length) (.ref D) from ⟨D, ?_, rfl, fun z => hnD (ok'.dkh D z)⟩)
    show (w'.hs ++ [D])[w'.st.length]? = some D
    rw [← ok'.len]
    simp
end
theorem v_lcH {vs : List Nat} {I : Loc → M (List D)} {B : D → Loc → Option Loc} {T : Loc → M Bool} {F : Loc → M W} {ρ : Loc} {s : Sto} {P : W → Sto → Prop} {E : XC → Sto → Prop} : (lcH vs I B T F ρ s).sat P E ↔ (I ρ s).sat (fun ds s' => ds.length ≤ cap ∧ (lcGo vs B T F ρ ds s').sat (fun r s2 => P (.h s2.length) (s2 ++ [some r])) E) E := by
  unfold lcH
  rw [sat_bnd]
  refine iff_of_eq (congrArg (fun Z => (I ρ s).sat Z E) ?_)
  funext ds s'
  split
  · rename_i h
    rw [sat_bnd]
    exact propext ⟨fun q => ⟨h, q⟩, fun q => q.2⟩
  · rename_i h
    exact propext ⟨fun q => q.elim, fun q => absurd q.1 h⟩
end Y

namespace Y
open PySem L2 PyProof.Rows
/-! ### a written tuple that is known to have no dict -/
def tTupX (t : TA) : TE := fun σ H Q => t σ H fun vs H1 => vs.length ≤ sizeLine ∧ ∀ l o, H1 l = none → o.dict = none → Q (.ref l) (upd H1 l (.frz o (.tup vs)))
theorem pe_tupX {X : Cx} {es : List PySem.Expr} {t : TA} {c : Nat} {pos : Pos} (ha : PA X es t) : PE X (.Tuple es c pos) (tTupX t) := by
  refine ⟨fun pn st ρ Hp R J hr => ?_⟩
  refine wpAny_Tuple_spliced (thn (ha.run pos pn st ρ Hp _ J hr) fun us s1 got => ?_)
  obtain ⟨vs, H1, J1, rv, hz, q⟩ := got
  refine ⟨by rw [← rv.length]; exact hz, ?_⟩
  let o : Obj := { cls := .type "tuple", data := .seq us.toArray }
  have ob : ObjOk X.prog X.w (upd H1 s1.heap.objs.size (.frz o (.tup vs))) (s1.heap.push o) s1.heap.objs.size (.frz o (.tup vs)) := ⟨Heap.get?_push_size _ rfl, hz, us, rv, IsTup.new _ _⟩
  exact ⟨.ref s1.heap.objs.size, _, J1.laid (t' := s1.toks) (fun b u e => Heap.get?_push_of_some _ e) (Nat.le_refl _) ob, rfl, q _ o (J1.hok.fresh (Nat.le_refl _)) rfl⟩
def gTupX (xs : List W) : M W := fun s => match dats xs with
  | some ds => if ds.length ≤ cap then .ok (.d (.tux ds)) s else .bad
  | none => .bad
/-! ### t.count(x), t a tuple that is known to have no dict, of any data -/
def cntP (x : D) (ds : List D) : Nat := ds.countP fun z => PyData.eqv (toPy z) (toPy x)
theorem cnt_toPys (x : D) (ds : List D) : (toPys ds).countP (fun y => PyData.eqv y (toPy x)) = cntP x ds := by
  unfold cntP
  rw [toPys_map, List.countP_map]
  rfl
def rTct (K : PySem.W.Frag) : V → List V → Hp → VK → Prop := fun x xs H Q => ∃ d ds y, xs = [y] ∧ Dp K H y (toPy d) ∧ Dp K H x (.tuple (toPys ds)) ∧ (toPy d).depth ≤ 60 ∧ Q (.int (cntP d ds : Nat)) H
theorem mt_tct {X : Cx} (hu : X.A.units + 64 < cLine) : MtR X "tuple.count" (rTct X.K) := by
  intro pn st σ H x xs v us Q J rx rs h
  obtain ⟨d, ds, y, rfl, hy, hx, hz, q⟩ := h
  obtain ⟨u, rfl, ry⟩ := vals1 rs
  obtain ⟨as, r1⟩ := Dp.reads J _ y u hy ry
  obtain ⟨bs, r2⟩ := Dp.reads J _ x v hx rx
  obtain ⟨a, l, rfl, ⟨o, ho, hc, n, hd⟩, ra⟩ := reads_tuple_items r2
  exact PySem.SeqAt.count_tuple_data (vs := l.toArray) ⟨o, ho, hc, n, hd⟩ (by simpa using ra) r1 (plain_toPys ds) (plain_toPy d) (by have := Nat.min_le_right (PyData.depthAll (toPys ds)) (toPy d).depth; omega) ⟨.int (cntP d ds : Nat), H, J.tok _, ⟨_, by rw [cnt_toPys]⟩, q⟩
def tTct (K : PySem.W.Frag) (to : TE) (t : TA) : TE := fun σ H Q => to σ H fun x H1 => (∃ a o vs, x = .ref a ∧ H1 a = some (.frz o (.tup vs)) ∧ o.dict = none) ∧ t σ H1 fun xs H2 => rTct K x xs H2 Q
theorem pe_tct {X : Cx} {q e1 : PySem.Expr} {to : TE} {t : TA} {pa pc : Pos} (hu : X.A.units + 64 < cLine) (ho : PE X q to) (ha : PA X [e1] t) (hb : attributeBase q "count" X.env (eval q X.env) = eval q X.env := by rfl)
    (hf : ((backTo pc (starEach [e1] X.env)).all (fun x => !x.1) && (backToKw pc (keywordEach [] X.env)).all (fun x => x.1.isSome) && decide (([e1] : List PySem.Expr).length + ([] : List Keyword).length + (if ([] : List Keyword).isEmpty then 0 else 1) < 30)) = true := by rfl)
    (hl : (pa.endLine == pc.line) = true := by rfl) (h1 : starEach [e1] X.env = (false, eval e1 X.env) :: starEach [] X.env := by rfl) (h2 : (backTo pc (starEach [] X.env)).any (·.1) = false := by rfl) :
    PE X (.Call (.Attribute q "count" pa) [e1] [] pc) (tTct X.K to t) := by
  refine ⟨fun pins s σ H Q I h => ?_⟩
  refine wpAny_Call_method_late hb hf hl rfl (thn (ho.run pins s σ H _ I h) fun v s1 hh => ?_)
  obtain ⟨x, H1, I1, r1, ⟨a, o, vs, rfl, hH, hd⟩, q1⟩ := hh
  obtain rfl : v = Value.ref a := r1
  obtain ⟨hg, _, its, _, o', hg', hc, n, hdat⟩ : ObjOk X.prog X.w H1 s1.heap a (.frz o (.tup vs)) := I1.hok a _ hH
  obtain rfl : o = o' := Option.some.inj (hg.symm.trans hg')
  refine ⟨"tuple", "tuple.count", PySem.F.plainAttrs_tuple, PySem.F.slot_tuple_count, PySem.F.type_tuple_count, ⟨o, hg, hc⟩, fun b e => ?_, ?_⟩
  · cases e
    exact ⟨o, hg, hd⟩
  · have hA := ha.run pc pins s1 σ H1 _ I1 q1
    rw [h1] at hA ⊢
    refine Calls.callWith_builtin (by show (false || (backTo pc (starEach [] X.env)).any (·.1)) = false; rw [h2] <;> rfl) (Calls.evalArgs_plain (thn hA fun us s2 hh2 => ?_))
    obtain ⟨xs, H2, I2, r2, q2⟩ := hh2
    exact mt_tct hu pins s2 σ H2 (.ref a) xs (.ref a) us Q I2 rfl r2 q2
def gTct (ds : List D) (as : List W) : M W := fun s => match as with
  | [.d d] => if (toPy d).depth ≤ 60 then .ok (.d (.int (cntP d ds : Nat))) s else .bad
  | _ => .bad
def opC (F : Loc → M W) (A : Loc → M (List W)) : Loc → M W := fun ρ => M.bnd (F ρ) fun x => match x with
  | .d (.tux ds) => M.bnd (A ρ) fun as => gTct ds as
  | _ => M.bad
section
variable {K : PySem.W.Frag} {mg : Str → Option Value} {E : XK} {w : Wd}
theorem ev_tupX {ta : TA} {F : Loc → M (List W)} (ha : EvA K mg E ta F) : EvE K mg E (tTupX ta) (opL gTupX F) := by
  intro σ ρ w ok r Q h
  refine evA1 ha ok r h fun x v w1 g1 ok1 r1 rv h1 => ?_
  unfold gTupX at h1
  split at h1
  · rename_i ds hd
    split at h1
    · rename_i hc
      have rl := dats_rep hd rv
      refine ⟨by rw [rl.length]; exact capS hc, fun l o hl ho => ?_⟩
      have g := gd_lay (o := .frz o (.tup v)) ok1 hl
      exact h1 _ _ (g1.trans g) ⟨l, v, rfl, ⟨o, upd_same, ho⟩, RepL.nxt g.stp.toNxt ok1 rl⟩
    · exact h1.elim
  · exact h1.elim
theorem ev_tct {to : TE} {ta : TA} {F : Loc → M W} {A : Loc → M (List W)} (ho : EvE K mg E to F) (ha : EvA K mg E ta A) : EvE K mg E (tTct K to ta) (opC F A) := by
  intro σ ρ w ok ro Q h
  refine ev1 ho ok ro h fun x v w1 g1 ok1 r1 rv h1 => ?_
  split at h1
  case h_2 => exact h1.elim
  rename_i ds
  obtain ⟨a, us, rfl, ⟨o, hH, hd⟩, rl⟩ := id rv
  refine ⟨⟨a, o, us, rfl, hH, hd⟩, evA1 ha ok1 r1 h1 fun as vs w2 g2 ok2 r2 rvs h2 => ?_⟩
  have rv2 := rv.nxt g2.stp.toNxt ok1
  unfold gTct at h2
  split at h2
  · rename_i d
    split at h2
    · rename_i hz
      obtain ⟨v, us3, rfl, r3, e3⟩ := rvs
      obtain rfl : us3 = [] := e3
      exact ⟨d, ds, v, rfl, rep_dp d v r3, rep_dp (.tux ds) _ rv2, hz, h2 (.int (cntP d ds : Nat)) w2 (g1.trans g2) rfl⟩
    · exact h2.elim
  · exact h2.elim
end
section
variable {s s' s2 : Sto} {ρ : Loc} {F : Loc → M W} {A : Loc → M (List W)}
theorem e_tupX {ds : List D} (h : A ρ s = .ok (ds.map W.d) s') (hd : dats (ds.map W.d) = some ds) (hc : ds.length ≤ cap) : opL gTupX A ρ s = .ok (.d (.tux ds)) s' := by
  refine e_opL h ?_
  unfold gTupX
  simp only [hd, if_pos hc]
theorem e_tct {ds : List D} {d : D} (h : F ρ s = .ok (.d (.tux ds)) s') (h2 : A ρ s' = .ok [.d d] s2) (hz : (toPy d).depth ≤ 60) : opC F A ρ s = .ok (.d (.int (cntP d ds : Nat))) s2 := by
  unfold opC
  rw [bnd_ok h]
  show M.bnd (A ρ) (fun as => gTct ds as) s' = _
  rw [bnd_ok h2]
  exact if_pos hz
end
end Y

namespace Y
open PySem L2 PyProof.Rows
/-! ### b is True, b is not False: two truth values -/
theorem bool_beq (a b : Bool) : (Value.bool a == Value.bool b) = (a == b) := by cases a <;> cases b <;> decide +kernel
def rIsB (neg : Bool) : R2 := fun x y H Q => ∃ a b, x = .bl a ∧ y = .bl b ∧ Q (.bl (if neg = true then !(a == b) else a == b)) H
theorem op_isB {X : Cx} : OpR X (compareOp .Is) (rIsB false) := by
  intro pn st σ H x y v u Q J rx ry h
  obtain ⟨a, b, rfl, rfl, q⟩ := h
  cases (show v = Value.bool a from rx)
  cases (show u = Value.bool b from ry)
  exact wpAny_is_plain rfl (fin_bl J q (bool_beq a b).symm)
theorem op_notB {X : Cx} : OpR X (compareOp .IsNot) (rIsB true) := by
  intro pn st σ H x y v u Q J rx ry h
  obtain ⟨a, b, rfl, rfl, q⟩ := h
  cases (show v = Value.bool a from rx)
  cases (show u = Value.bool b from ry)
  exact wpAny_isNot_plain rfl (fin_bl J q (congrArg not (bool_beq a b).symm))
def fIsB (neg : Bool) : Sto → W → W → Option W := fun _ a b => match a, b with
  | .d (.bl x), .d (.bl y) => some (.d (.bl (if neg = true then !(x == y) else x == y)))
  | _, _ => none
theorem sem_isB {K : PySem.W.Frag} {neg : Bool} : SemR2 K (rIsB neg) (opt2 (fIsB neg)) := sem2 fun w a b x y z ok ra rb h Q q => by
  unfold fIsB at h
  split at h
  · rename_i p r
    cases h
    exact ⟨p, r, ra, rb, pw_d (d := .bl _) ok rfl q⟩
  · cases h
end Y

namespace Y
open PySem L2 PyProof.Rows HT
/-! ### t[::-1] of a tuple: the new tuple is known to have no dict -/
def tRevX (K : PySem.W.Frag) (te : TE) : TE := fun σ H Q => te σ H fun x H1 => ∃ a xs, x = .ref a ∧ SqT K H1 a xs ∧ ∀ p o, H1 p = none → o.dict = none → Q (.ref p) (upd H1 p (.frz o (.tup xs.reverse)))
theorem pe_revX {X : Cx} {e : PySem.Expr} {te : TE} {k : Nat} {p1 p2 p3 pos : Pos} (he : PE X e te) : PE X (.Subscript e (.Slice none none (some (.UnaryOp .USub (.Constant (.int 1) k p1) p2)) p3) pos) (tRevX X.K te) := by
  refine ⟨fun pins s σ H Q I h => ?_⟩
  refine Subscript_ (thn (he.run pins s σ H _ I h) fun v s1 ⟨x, H1, I1, r1, q1⟩ => ?_)
  obtain ⟨a, xs, ex, hx, q⟩ := q1
  subst ex
  cases r1
  have hst : PO X (some (.UnaryOp .USub (.Constant (.int 1) k p1) p2)) (tPart (tUn (rU fun i => .int (-i)) (tC (.int 1)))) := po_some (pe_un un_neg pe_int)
  refine wpAny_Slice (thn (po_none.run pins s1 σ H1 (fun o H2 => o = none ∧ H2 = H1) I1 ⟨rfl, rfl⟩) fun vl s2 ⟨l, H2, I2, pl, el, e2⟩ => ?_)
  subst el e2
  refine thn (po_none.run pins s2 σ H2 (fun o H3 => o = none ∧ H3 = H2) I2 ⟨rfl, rfl⟩) fun vu s3 ⟨u, H3, I3, pu, eu, e3⟩ => ?_
  subst eu e3
  refine thn (hst.run pins s3 σ H3 (fun o H4 => o = some (-1) ∧ H4 = H3) I3 ⟨1, rfl, -1, rfl, rfl, rfl⟩) fun vs s4 ⟨o, H4, I4, ps, eo, e4⟩ => ?_
  subst eo e4
  cases pl
  cases pu
  have I5 : Inv X pins σ H4 { s4 with heap := s4.heap.push { cls := .type "slice", data := .fields #[.none, .none, vs] } } := I4.kept (t' := s4.toks) fun b ob q => Heap.get?_push_of_some _ q
  obtain ⟨its, r, ht, hz⟩ := I5.tuple hx
  have hlen := r.length
  show wpAny (model X.prog X.w) X.A (subscriptTail e (.Slice none none (some (.UnaryOp .USub (.Constant (.int 1) k p1) p2)) p3) (.ref a) (.ref s4.heap.objs.size)) (EP X pins σ Q) X.xe { s4 with heap := s4.heap.push { cls := .type "slice", data := .fields #[.none, .none, vs] } }
  refine tail_any (ops := [.ref a, .ref s4.heap.objs.size]) ht.typeIs (PyProof.Rows.slot_tuple_getitem.lookup) ?_ (by with_unfolding_all rfl)
  refine getItem_tuple_rev ht (Heap.IsSliceOf.new _ .none .none vs) ps ?_ (by rw [List.size_toArray]; omega)
  let ob : Obj := { cls := .type "tuple", data := .seq its.reverse.toArray }
  refine ⟨.ref _, _, I5.laid (t' := s4.toks) (o := .frz ob (.tup xs.reverse)) (fun b ob q => Heap.get?_push_of_some _ q) (Nat.le_refl _) ?_, rfl, q _ ob (I5.hok.fresh (Nat.le_refl _)) rfl⟩
  exact ⟨Heap.get?_push_size _ rfl, by rw [List.length_reverse]; exact hz, _, r.reverse, IsTup.new _ _⟩
def gRevX (x : W) : M W := fun s => match vw s x with
  | some (.tup ds) => .ok (.d (.tux ds.reverse)) s
  | _ => .bad
/-! ### a tuple that is known to have no dict, read as a tuple -/
def getT (i : Nat) : Loc → M W := fun ρ s => match ρ[i]? with
  | some (some (.d (.tux ds))) => .ok (.d (.tup ds)) s
  | _ => .bad
section
variable {K : PySem.W.Frag} {mg : Str → Option Value} {E : XK} {w : Wd}
theorem ev_revX {te : TE} {F : Loc → M W} (ha : EvE K mg E te F) : EvE K mg E (tRevX K te) (op1 gRevX F) := by
  intro σ ρ w ok r Q h
  refine ev1 ha ok r h fun x v w1 g1 ok1 r1 rv h1 => ?_
  unfold gRevX at h1
  split at h1
  · rename_i ds hd
    obtain ⟨a, vs, rfl, hs, rl⟩ := rd_tup ok1 hd rv
    refine ⟨a, vs, rfl, hs, fun p o hp ho => ?_⟩
    have g := gd_lay (o := .frz o (.tup vs.reverse)) ok1 hp
    exact h1 _ _ (g1.trans g) ⟨p, _, rfl, ⟨o, upd_same, ho⟩, RepL.nxt g.stp.toNxt ok1 rl.rev⟩
  · exact h1.elim
theorem ev_getT {i : Nat} : EvE K mg E (tVar i) (getT i) := by
  intro σ ρ w ok r Q h
  unfold getT at h
  split at h
  · rename_i ds hx
    obtain ⟨v, e, rv⟩ := r.2 i _ hx
    obtain ⟨a, vs, rfl, ho, rl⟩ := rv
    exact ⟨_, e, h _ w (Gd.refl ok) ⟨a, vs, rfl, tux_sq ho, rl⟩⟩
  · exact h.elim
/-! ### what a try's suite returns: a choice by two tests -/
def strX (y : Str) : XC → Option D := fun _ => some (.str y)
def ite2X (t u g h : XC → Option D) : XC → Option D := fun e => match t e, u e with
  | some (.bl true), some (.bl b) => if b = true then g e else h e
  | some (.bl false), some _ => h e
  | _, _ => none
theorem el_str {i : Nat} {y : Str} : EvL K mg i (fun _ _ _ => tC (.str y)) (strX y) := by
  intro e x hx σ w cc dd a ok rx hσ Q hQ
  obtain rfl := Option.some.inj hx
  exact hQ _ rfl
theorem el_ite2 {i : Nat} {t u p q : Addr → Value → Option Addr → TE} {gt gu gp gq : XC → Option D} (h1 : EvL K mg i t gt) (h2 : EvL K mg i u gu) (h3 : EvL K mg i p gp) (h4 : EvL K mg i q gq) :
    EvL K mg i (fun a cc dd => tIf (tAnd (fun σ H Q => t a cc dd σ H fun x H' => ∃ k, TruV K x H' k ∧ Q k H') (fun σ H Q => u a cc dd σ H fun x H' => ∃ k, TruV K x H' k ∧ Q k H')) (p a cc dd) (q a cc dd)) (ite2X gt gu gp gq) := by
  intro e x hx σ w cc dd a ok rx hσ Q hQ
  have tr : ∀ (b : Bool) v, Rep K w.H w.al (.bl b) v → TruV K v w.H b := fun b v r => tru_rep (x := .d (.bl b)) ok rfl rfl r
  unfold ite2X at hx
  split at hx
  · rename_i b e1 e2
    refine h1 e _ e1 σ w cc dd a ok rx hσ _ fun v r => ⟨true, tr _ _ r, ?_⟩
    show (if (true : Bool) = true then _ else _)
    rw [if_pos rfl]
    refine h2 e _ e2 σ w cc dd a ok rx hσ _ fun v2 r2 => ⟨b, tr _ _ r2, ?_⟩
    cases b with
    | true =>
      rw [if_pos rfl] at hx ⊢
      exact h3 e x hx σ w cc dd a ok rx hσ Q hQ
    | false =>
      rw [if_neg Bool.false_ne_true] at hx ⊢
      exact h4 e x hx σ w cc dd a ok rx hσ Q hQ
  · rename_i d e1 e2
    refine h1 e _ e1 σ w cc dd a ok rx hσ _ fun v r => ⟨false, tr _ _ r, ?_⟩
    show (if (false : Bool) = true then _ else _)
    rw [if_neg Bool.false_ne_true]
    show (if (false : Bool) = true then _ else _)
    rw [if_neg Bool.false_ne_true]
    exact h4 e x hx σ w cc dd a ok rx hσ Q hQ
  · cases hx
end
end Y

namespace Y
open PySem PySem.Spec L2 PyProof.Rows
/-! ### list(zip(xs, ys)): the pairs given out before are still there; each side a list or a tuple -/
theorem sqAt.keep {kd : Bool} {h h' : Heap} {l : Addr} {xs : Array Value} (x : sqAt kd h l xs) (e : ∀ o, h.get? l = some o → h'.get? l = some o) : sqAt kd h' l xs := by
  cases kd with
  | true => obtain ⟨o, ho, r⟩ := x; exact ⟨o, e o ho, r⟩
  | false => obtain ⟨o, ho, r⟩ := x; exact ⟨o, e o ho, r⟩
section
variable {prog : Program} {w : World} {A : Around} {s : Shared} {E : Value → Shared → Prop} {ka kb : Bool} {z TI TO T i1 i2 a b : Addr} {k : Nat} {xs ys : Array Value} {f : Bool} {oT : Obj}
theorem zipH_item {x y : Value} {Q : Value → Shared → Prop} (D : ZipApart z TI TO i1 i2 a b) (hz : IsZipHeld s.heap z TI TO T f) (hT : s.heap.get? T = some oT) (hI : IsPair s.heap TI (.ref i1) (.ref i2))
    (g1 : itAt ka s.heap i1 a k) (g2 : itAt kb s.heap i2 b k) (ha : sqAt ka s.heap a xs) (hb : sqAt kb s.heap b ys) (hx : xs[k]? = some x) (hy : ys[k]? = some y)
    (q : ∀ h', IsZipHeld h' z TI TO T true → itAt ka h' i1 a (k + 1) → itAt kb h' i2 b (k + 1) → IsPair h' s.heap.objs.size x y →
      (∀ c o, c ≠ z → c ≠ i1 → c ≠ i2 → s.heap.get? c = some o → h'.get? c = some o) → Q (.ref s.heap.objs.size) { s with heap := h' }) :
    wpAny (model prog w) A (Builtin.«zip.__next__» ⟨[.ref z], []⟩) (fun fin s' => ∃ v, fin = .done (.ret v) ∧ Q v s') E s := by
  show wpAny _ _ (field (.ref z) 2 >>= _) _ _ _
  refine wpAny_bind (wpAny_field hz rfl (x := .bool false) rfl ?_); show wpAny _ _ (field (.ref z) 3 >>= _) _ _ _
  refine wpAny_bind (wpAny_field hz rfl (x := .ref TI) rfl (wpAny_bind (wpAny_seqItems hI rfl ?_)))
  show wpAny _ _ (Builtin.SmallTypes.ownedTupleIsFree (.ref z) >>= _) _ _ _
  refine wpAny_bind (wpAny_tupleHeld_zip hz hT fun k1 z1 e1 => ?_)
  simp only [Bool.false_eq_true, if_false]
  refine wpAny_bind ?_
  rw [← Array.forIn_toList]
  simp only [List.forIn_cons, List.forIn_nil]
  refine wpAny_bind (wpAny_bind (wpAny_holding ?_)); show wpAny _ _ (Builtin.SmallTypes.nextOf (.ref i1) >>= _) _ _ _
  refine wpAny_bind (next_item (s := { s with heap := k1 }) (g1.off e1.extBut D.i1z) (ha.off e1.extBut D.l1z) hx fun k2 f1 e2 => wpAny_pure (wpAny_pure ?_))
  refine wpAny_bind (wpAny_bind (wpAny_holding ?_)); show wpAny _ _ (Builtin.SmallTypes.nextOf (.ref i2) >>= _) _ _ _
  refine wpAny_bind (next_item (s := { s with heap := k2 }) ((g2.off e1.extBut D.i2z).off e2.extBut D.i12.symm) ((hb.off e1.extBut D.l2z).off e2.extBut D.l2i1) hy fun k3 f2 e3 => wpAny_pure (wpAny_pure (wpAny_pure ?_)))
  show wpAny _ _ (newTuple [x, y] >>= _) _ _ _
  refine wpAny_bind (wpAny_newTuple ?_)
  have sz : k3.objs.size = s.heap.objs.size := by rw [e3.1, e2.1, e1.1]
  have z3 : IsZipHeld k3 z TI TO T true := e3.extBut _ _ D.i2z.symm (e2.extBut _ _ D.i1z.symm z1)
  have all : ∀ c o, c ≠ z → c ≠ i1 → c ≠ i2 → s.heap.get? c = some o → k3.get? c = some o := fun c o c1 c2 c3 e => e3.extBut _ _ c3 (e2.extBut _ _ c2 (e1.extBut _ _ c1 e))
  have f1' := f1.off e3.extBut D.i12
  refine wpAny_pure ⟨_, rfl, ?_⟩
  show Q (.ref k3.objs.size) _
  have new : IsPair (k3.push { cls := .type "tuple", data := .seq #[x, y] }) k3.objs.size x y := Heap.get?_push_size _ rfl
  rw [sz] at new ⊢
  exact q _ (Heap.get?_push_of_some _ z3) (f1'.keep fun o e => Heap.get?_push_of_some _ e) (f2.keep fun o e => Heap.get?_push_of_some _ e) new fun c o c1 c2 c3 e => Heap.get?_push_of_some _ (all c o c1 c2 c3 e)
theorem zipH_end {Q : Fin → Shared → Prop} (hh : A.handled = none) (D : ZipApart z TI TO i1 i2 a b) (hz : IsZipHeld s.heap z TI TO T f) (hT : s.heap.get? T = some oT) (hI : IsPair s.heap TI (.ref i1) (.ref i2))
    (g1 : itAt ka s.heap i1 a k) (g2 : itAt kb s.heap i2 b k) (ha : sqAt ka s.heap a xs) (hb : sqAt kb s.heap b ys) (he : xs[k]? = none ∨ ys[k]? = none)
    (q : ∀ h' e, (∀ c o, c ≠ z → c ≠ i1 → c ≠ i2 → s.heap.get? c = some o → h'.get? c = some o) → (∃ o, h'.get? e = some o ∧ o.cls = .type "StopIteration") → E (.ref e) { s with heap := h' }) :
    wpAny (model prog w) A (Builtin.«zip.__next__» ⟨[.ref z], []⟩) Q E s := by
  show wpAny _ _ (field (.ref z) 2 >>= _) _ _ _
  refine wpAny_bind (wpAny_field hz rfl (x := .bool false) rfl ?_); show wpAny _ _ (field (.ref z) 3 >>= _) _ _ _
  refine wpAny_bind (wpAny_field hz rfl (x := .ref TI) rfl (wpAny_bind (wpAny_seqItems hI rfl ?_)))
  show wpAny _ _ (Builtin.SmallTypes.ownedTupleIsFree (.ref z) >>= _) _ _ _
  refine wpAny_bind (wpAny_tupleHeld_zip hz hT fun k1 z1 e1 => ?_)
  simp only [Bool.false_eq_true, if_false]
  refine wpAny_bind ?_
  rw [← Array.forIn_toList]
  simp only [List.forIn_cons, List.forIn_nil]
  refine wpAny_bind (wpAny_bind (wpAny_holding ?_)); show wpAny _ _ (Builtin.SmallTypes.nextOf (.ref i1) >>= _) _ _ _
  cases hx : xs[k]? with
  | none => exact wpAny_bind (next_end (s := { s with heap := k1 }) hh (g1.off e1.extBut D.i1z) (ha.off e1.extBut D.l1z) hx fun k2 e e2 he => q k2 e (fun c o c1 c2 _ t => e2 _ _ c2 (e1.extBut _ _ c1 t)) he)
  | some x =>
    have hy : ys[k]? = none := by rcases he with he | he; rw [hx] at he; cases he; exact he
    refine wpAny_bind (next_item (s := { s with heap := k1 }) (g1.off e1.extBut D.i1z) (ha.off e1.extBut D.l1z) hx fun k2 f1 e2 => wpAny_pure (wpAny_pure ?_))
    refine wpAny_bind (wpAny_bind (wpAny_holding ?_)); show wpAny _ _ (Builtin.SmallTypes.nextOf (.ref i2) >>= _) _ _ _
    exact wpAny_bind (next_end (s := { s with heap := k2 }) hh ((g2.off e1.extBut D.i2z).off e2.extBut D.i12.symm) ((hb.off e1.extBut D.l2z).off e2.extBut D.l2i1) hy fun k3 e e3 he => q k3 e (fun c o c1 c2 c3 t => e3 _ _ c3 (e2.extBut _ _ c2 (e1.extBut _ _ c1 t))) he)
/-- where list(zip) stands after k pairs; S is the list -/
def ZilSt (ka kb : Bool) (h : Heap) (z TI TO i1 i2 a b S : Addr) (k : Nat) : Prop :=
  (k = 0 ∧ ZipSt ka kb h z TI TO i1 i2 a b 0) ∨ ∃ T f oT, IsZipHeld h z TI TO T f ∧ h.get? T = some oT ∧ S < T ∧ IsPair h TI (.ref i1) (.ref i2) ∧ itAt ka h i1 a k ∧ itAt kb h i2 b k
structure ZilLow (S z TI TO i1 i2 a b : Addr) : Prop where
  z : z < S
  TI : TI < S
  TO : TO < S
  i1 : i1 < S
  i2 : i2 < S
  a : a < S
  b : b < S
theorem ZilSt.keep {h h' : Heap} {S : Addr} (x : ZilSt ka kb h z TI TO i1 i2 a b S k) (L : ZilLow S z TI TO i1 i2 a b) (hk : ∀ c o, c ≠ S → h.get? c = some o → h'.get? c = some o) : ZilSt ka kb h' z TI TO i1 i2 a b S k := by
  rcases x with ⟨e, S1, S2, ⟨u, v, S3⟩, S4, S5⟩ | ⟨T, f, oT, h1, h2, h3, h4, h5, h6⟩
  · exact .inl ⟨e, hk _ _ (Nat.ne_of_lt L.z) S1, hk _ _ (Nat.ne_of_lt L.TI) S2, ⟨u, v, hk _ _ (Nat.ne_of_lt L.TO) S3⟩, S4.keep fun o => hk _ o (Nat.ne_of_lt L.i1), S5.keep fun o => hk _ o (Nat.ne_of_lt L.i2)⟩
  · exact .inr ⟨T, f, oT, hk _ _ (Nat.ne_of_lt L.z) h1, hk _ _ (Nat.ne_of_gt h3) h2, h3, hk _ _ (Nat.ne_of_lt L.TI) h4, h5.keep fun o => hk _ o (Nat.ne_of_lt L.i1), h6.keep fun o => hk _ o (Nat.ne_of_lt L.i2)⟩
theorem zil_item {S : Addr} {x y : Value} {Q : Option Value → Shared → Prop} (D : ZipApart z TI TO i1 i2 a b) (L : ZilLow S z TI TO i1 i2 a b) (st : ZilSt ka kb s.heap z TI TO i1 i2 a b S k) (hS : S < s.heap.objs.size) (ha : sqAt ka s.heap a xs) (hb : sqAt kb s.heap b ys) (hx : xs[k]? = some x) (hy : ys[k]? = some y)
    (q : ∀ h', ZilSt ka kb h' z TI TO i1 i2 a b S (k + 1) → IsPair h' s.heap.objs.size x y → (∀ c o, c ≠ z → c ≠ TO → c ≠ i1 → c ≠ i2 → s.heap.get? c = some o → h'.get? c = some o) → Q (some (.ref s.heap.objs.size)) { s with heap := h' }) :
    wpAny (model prog w) A (pyNext (.ref z)) Q E s := by
  rcases st with ⟨rfl, S0⟩ | ⟨T, f, oT, h1, h2, h3, h4, h5, h6⟩
  · exact pyNextM_item D S0 ha hb hx hy fun h' q1 q2 q3 q4 q5 q6 => q h' (.inr ⟨_, false, _, q1, q5, hS, q6 _ _ (fun e => D.TIz e) (fun e => D.TITO e) (fun e => D.TIi1 e) (fun e => D.TIi2 e) S0.ti, q3, q4⟩) q5 q6
  · have t : s.TypeIs (.ref z) "zip" := ⟨_, h1, rfl⟩
    unfold pyNext
    refine wpAny_bind (wpAny_attempt (wpAny_callSpecial?_slot (name := Str.ofString "__next__") t F.slot_zip_next (wpAny_call_entry F.slot_zip_next t F.entry_zip_next ?_ (F.args_zip_next_1 _))))
    refine zipH_item D h1 h2 h4 h5 h6 ha hb hx hy fun h' q1 q2 q3 q4 q5 => wpAny_pure (q h' (.inr ⟨T, true, oT, q1, q5 _ _ ?_ ?_ ?_ h2, h3, q5 _ _ D.TIz D.TIi1 D.TIi2 h4, q2, q3⟩) q4 fun c o c1 _ c3 c4 e => q5 c o c1 c3 c4 e)
    · exact Nat.ne_of_gt (Nat.lt_trans L.z h3)
    · exact Nat.ne_of_gt (Nat.lt_trans L.i1 h3)
    · exact Nat.ne_of_gt (Nat.lt_trans L.i2 h3)
theorem zil_done {S : Addr} {Q : Option Value → Shared → Prop} (hh : A.handled = none) (D : ZipApart z TI TO i1 i2 a b) (st : ZilSt ka kb s.heap z TI TO i1 i2 a b S k) (ha : sqAt ka s.heap a xs) (hb : sqAt kb s.heap b ys) (he : xs[k]? = none ∨ ys[k]? = none)
    (q : ∀ h', (∀ c o, c ≠ z → c ≠ TO → c ≠ i1 → c ≠ i2 → s.heap.get? c = some o → h'.get? c = some o) → Q none { s with heap := h' }) : wpAny (model prog w) A (pyNext (.ref z)) Q E s := by
  rcases st with ⟨rfl, S0⟩ | ⟨T, f, oT, h1, h2, h3, h4, h5, h6⟩
  · exact pyNextM_end hh D S0 ha hb he q
  · have t : s.TypeIs (.ref z) "zip" := ⟨_, h1, rfl⟩
    unfold pyNext
    refine wpAny_bind (wpAny_attempt (wpAny_callSpecial?_slot (name := Str.ofString "__next__") t F.slot_zip_next (wpAny_call_entry F.slot_zip_next t F.entry_zip_next (zipH_end hh D h1 h2 h4 h5 h6 ha hb he fun h' e hk hs => ?_) (F.args_zip_next_1 _))))
    obtain ⟨o, ho, hc⟩ := hs
    exact wpAny_bind (wpAny_isInstance (T := "StopIteration") (b := true) ⟨o, ho, hc⟩ isSubtype_stop (wpAny_pure (q h' fun c o c1 _ c3 c4 t => hk c o c1 c3 c4 t)))
end
end Y

namespace Y
open PySem PySem.Spec L2 PyProof.Rows
structure ZilG (xs ys : Array Value) (lo : Addr) (h : Heap) (as : List Addr) : Prop where
  rise : as.Pairwise (· < ·)
  above : ∀ a ∈ as, lo < a
  pairs : ∀ (j : Nat) (a : Addr), as[j]? = some a → ∃ x y, xs[j]? = some x ∧ ys[j]? = some y ∧ IsPair h a x y
theorem ZilG.there {xs ys : Array Value} {lo : Addr} {h : Heap} {as : List Addr} (g : ZilG xs ys lo h as) {a : Addr} (ha : a ∈ as) : a < h.objs.size := by
  obtain ⟨j, hj⟩ := List.mem_iff_getElem?.mp ha
  obtain ⟨_, _, _, _, e⟩ := g.pairs j a hj
  exact Heap.lt_size e
section
variable {prog : Program} {w : World} {A : Around} {s : Shared} {R : Result → Shared → Prop} {ka kb : Bool} {z TI TO i1 i2 a b S : Addr} {xs ys : Array Value}
theorem zil_loop (hh : A.handled = none) (D : ZipApart z TI TO i1 i2 a b) (L : ZilLow S z TI TO i1 i2 a b) (hn : min xs.size ys.size ≤ sizeLine) (res : Value) {h₁ : Heap}
    (hR : ∀ h' tk acc c as, (∀ c o, c ≠ S → c ≠ z → c ≠ TO → c ≠ i1 → c ≠ i2 → h₁.get? c = some o → h'.get? c = some o) → h'.get? S = some { cls := .type "list", dict := none, data := .seq acc c, slots := #[] } → as.length = min xs.size ys.size → ZilG xs ys S h' as →
      acc.toList = as.map Value.ref → R (.ok (.ret res)) { s with heap := h', toks := tk }) :
    ∀ (k i : Nat) (h : Heap) (tk c : Nat) (acc : Array Value) (as : List Addr), min xs.size ys.size - i = k → i ≤ min xs.size ys.size → ZilSt ka kb h z TI TO i1 i2 a b S i → sqAt ka h a xs → sqAt kb h b ys →
      (∀ c o, c ≠ S → c ≠ z → c ≠ TO → c ≠ i1 → c ≠ i2 → h₁.get? c = some o → h.get? c = some o) →
      h.get? S = some { cls := .type "list", dict := none, data := .seq acc c, slots := #[] } → acc.toList = as.map Value.ref → as.length = i → ZilG xs ys S h as →
      codeAny (model prog w) A (.builtin "list.extend.loop" ⟨[.ref S, .ref z, res], []⟩) R { s with heap := h, toks := tk } := by
  have SZ := Nat.ne_of_gt L.z
  have SO := Nat.ne_of_gt L.TO
  have S1 := Nat.ne_of_gt L.i1
  have S2 := Nat.ne_of_gt L.i2
  intro k
  induction k with
  | zero =>
    intro i h tk c acc as hk hi hst ha hb hkeep hS hacc hal hG
    have hin : i = min xs.size ys.size := by omega
    have he : xs[i]? = none ∨ ys[i]? = none := by
      rcases Nat.le_total xs.size ys.size with h | h
      · exact .inl (Array.getElem?_eq_none (by omega))
      · exact .inr (Array.getElem?_eq_none (by omega))
    refine codeAny_builtin PySem.F.entry_extend_loop ?_
    rw [Around.under_plainId PySem.F.plain_extend_loop _]
    show wpAny _ A.in1 (pyNext (.ref z) >>= _) _ _ _
    refine wpAny_bind (zil_done (s := { s with heap := h, toks := tk }) (A := A.in1) hh D hst ha hb he fun h' q => ?_)
    refine wpAny_pure (hR h' tk acc c as (fun c o n1 n2 n3 n4 n5 e => q c o n2 n3 n4 n5 (hkeep c o n1 n2 n3 n4 n5 e)) (q S _ SZ SO S1 S2 hS) (by omega) ⟨hG.rise, hG.above, fun j p hj => ?_⟩ hacc)
    obtain ⟨x, y, e1, e2, e3⟩ := hG.pairs j p hj
    have hp := hG.above p (List.mem_of_getElem? hj)
    exact ⟨x, y, e1, e2, q p _ (Nat.ne_of_gt (Nat.lt_trans L.z hp)) (Nat.ne_of_gt (Nat.lt_trans L.TO hp)) (Nat.ne_of_gt (Nat.lt_trans L.i1 hp)) (Nat.ne_of_gt (Nat.lt_trans L.i2 hp)) e3⟩
  | succ k ih =>
    intro i h tk c acc as hk hi hst ha hb hkeep hS hacc hal hG
    have hlt : i < min xs.size ys.size := by omega
    have hsz : acc.size = i := by rw [← Array.length_toList, hacc, List.length_map, hal]
    obtain ⟨x, hx⟩ : ∃ x, xs[i]? = some x := ⟨_, Array.getElem?_eq_getElem (by omega)⟩
    obtain ⟨y, hy⟩ : ∃ y, ys[i]? = some y := ⟨_, Array.getElem?_eq_getElem (by omega)⟩
    refine codeAny_builtin PySem.F.entry_extend_loop ?_
    rw [Around.under_plainId PySem.F.plain_extend_loop _]
    show wpAny _ A.in1 (pyNext (.ref z) >>= _) _ _ _
    refine wpAny_bind (zil_item (s := { s with heap := h, toks := tk }) D L hst (Heap.lt_size hS) ha hb hx hy fun h' hst' ht hkp => ?_)
    dsimp only at ht hkp ⊢
    have hS' := hkp S _ SZ SO S1 S2 hS
    have up : ∀ c o, c ≠ S → h'.get? c = some o → (h'.update S (Obj.mapSeq (·.push (Value.ref h.objs.size)))).get? c = some o := fun c o hc e => (Heap.get?_update_other _ _ (Ne.symm hc)).trans e
    have hSl : S < h.objs.size := Heap.lt_size hS
    show wpAny _ A.in1 (updateSeq S (·.push (Value.ref h.objs.size)) >>= _) _ _ _
    refine wpAny_bind ?_
    refine wpAny_updateSeq hS' rfl (wpAny_pure ⟨plainId_quiet PySem.F.plain_extend_loop _, ih (i + 1) _ tk _ (acc.push (Value.ref h.objs.size)) (as ++ [h.objs.size]) (by omega) hlt (hst'.keep L up)
      (ha.keep fun o e => up _ o (Nat.ne_of_lt L.a) (hkp a o D.l1z D.l1TO D.l1i1 D.l1i2 e)) (hb.keep fun o e => up _ o (Nat.ne_of_lt L.b) (hkp b o D.l2z D.l2TO D.l2i1 D.l2i2 e))
      (fun c o n1 n2 n3 n4 n5 e => up c o n1 (hkp c o n2 n3 n4 n5 (hkeep c o n1 n2 n3 n4 n5 e))) (Heap.get?_update_self _ hS' rfl) (by rw [Array.toList_push, hacc, List.map_append]; rfl) (by rw [List.length_append, hal]; rfl) ⟨?_, ?_, ?_⟩⟩) (by rw [hsz]; omega) (by show (acc.push (Value.ref h.objs.size)).size ≤ sizeLine + 1; rw [Array.size_push, hsz]; omega)
    · refine List.pairwise_append.mpr ⟨hG.rise, List.pairwise_singleton _ _, fun p hp q hq => ?_⟩
      rw [List.mem_singleton.mp hq]
      exact hG.there hp
    · intro p hp
      rcases List.mem_append.mp hp with hp | hp
      · exact hG.above p hp
      · rw [List.mem_singleton.mp hp]; exact hSl
    · intro j p hj
      rcases Nat.lt_trichotomy j as.length with h1 | h1 | h1
      · rw [List.getElem?_append_left h1] at hj
        obtain ⟨x', y', e1, e2, e3⟩ := hG.pairs j p hj
        have hp := hG.above p (List.mem_of_getElem? hj)
        exact ⟨x', y', e1, e2, up p _ (Nat.ne_of_gt hp) (hkp p _ (Nat.ne_of_gt (Nat.lt_trans L.z hp)) (Nat.ne_of_gt (Nat.lt_trans L.TO hp)) (Nat.ne_of_gt (Nat.lt_trans L.i1 hp)) (Nat.ne_of_gt (Nat.lt_trans L.i2 hp)) e3)⟩
      · subst h1
        have hp : h.objs.size = p := by simpa using hj
        subst hp
        subst hal
        exact ⟨x, y, hx, hy, up _ _ (Nat.ne_of_gt hSl) ht⟩
      · have hnone : (as ++ [h.objs.size])[j]? = none := List.getElem?_eq_none (by rw [List.length_append, List.length_singleton]; omega)
        rw [hnone] at hj; cases hj
end
end Y

namespace Y
open PySem PySem.Spec L2 PyProof.Rows
theorem zip_no_len : typeLookup (.type "zip") "__len__" = pure none := by rw [typeLookup_type, builtinLookup_eq_fast]; kernel_rfl
theorem zip_no_hint : typeLookup (.type "zip") "__length_hint__" = pure none := by rw [typeLookup_type, builtinLookup_eq_fast]; kernel_rfl
section
variable {prog : Program} {w : World} {A : Around} {s : Shared} {R : Result → Shared → Prop} {ka kb : Bool} {z TI TO i1 i2 a b S : Addr} {xs ys : Array Value}
theorem zil_extend (hh : A.handled = none) (D : ZipApart z TI TO i1 i2 a b) (L : ZilLow S z TI TO i1 i2 a b) (hn : min xs.size ys.size ≤ sizeLine) (res : Value) (c₀ : Nat) (hst : ZipSt ka kb s.heap z TI TO i1 i2 a b 0) (ha : sqAt ka s.heap a xs) (hb : sqAt kb s.heap b ys)
    (hS : s.heap.get? S = some { cls := .type "list", data := .seq #[] c₀ })
    (hR : ∀ h' tk acc c as, (∀ c o, c ≠ S → c ≠ z → c ≠ TO → c ≠ i1 → c ≠ i2 → s.heap.get? c = some o → h'.get? c = some o) → h'.get? S = some { cls := .type "list", dict := none, data := .seq acc c, slots := #[] } → as.length = min xs.size ys.size → ZilG xs ys S h' as →
      acc.toList = as.map Value.ref → R (.ok (.ret res)) { s with heap := h', toks := tk }) :
    wpAny (model prog w) A.in1 (Builtin.List.listExtendWith (.ref S) (.ref z) res)
      (fun fin s' => match fin with | .done f => R (.ok f) s' | .again c' => c'.quiet = true ∧ codeAny (model prog w) A c' R s') (fun e s' => R (.error e) s') s := by
  have hT : s.TypeIs (.ref z) "zip" := ⟨_, hst.z, rfl⟩
  have SZ := Nat.ne_of_gt L.z
  unfold Builtin.List.listExtendWith
  refine wpAny_bind (wpAny_typeOf hT ?_)
  have h1 : Builtin.List.listSameRef (.ref S) (.ref z) = false := by simp [Builtin.List.listSameRef, SZ]
  have h2 : (Value.type "zip" == Value.type "list") = false := by decide
  have h3 : (Value.type "zip" == Value.type "tuple") = false := by decide
  simp only [h1, h2, h3, Bool.or_false, Bool.false_eq_true, if_false]
  refine wpAny_bind (wpAny_pyIter_zip hst.z ?_)
  refine wpAny_bind (wpAny_holding ?_)
  unfold Builtin.List.listLengthHint
  refine wpAny_bind (wpAny_specialOf hT zip_no_len ?_)
  show wpAny _ A.in1 (specialOf (Value.ref z) (Str.ofString "__length_hint__") >>= _) _ _ _
  refine wpAny_bind (wpAny_specialOf hT zip_no_hint ?_)
  refine wpAny_pure ?_
  show wpAny _ A.in1 (rule "list.extend.makes-room" >>= fun _ => Builtin.List.listTouch (.ref S) >>= fun _ =>
    again (.builtin "list.extend.loop" ⟨[.ref S, .ref z, res], []⟩)) _ _ _
  refine wpAny_bind (wpAny_rule ?_)
  refine wpAny_bind ?_
  show wpAny _ A.in1 (updateSeq S (·.push .none) >>= fun _ => updateSeq S (·.pop)) _ _ _
  refine wpAny_bind (wpAny_updateSeq hS rfl ?_)
  have hS₂ := Heap.get?_update_self (Obj.mapSeq (·.push Value.none)) hS rfl
  refine wpAny_updateSeq (hz := by seq_fits) hS₂ rfl ?_
  have hS₃ := Heap.get?_update_self (Obj.mapSeq (·.pop)) hS₂ rfl
  have oth : ∀ c o, c ≠ S → s.heap.get? c = some o → ((s.heap.update S (Obj.mapSeq (·.push Value.none))).update S (Obj.mapSeq (·.pop))).get? c = some o :=
    fun c o hc e => (Heap.get?_update_other _ _ (Ne.symm hc)).trans ((Heap.get?_update_other _ _ (Ne.symm hc)).trans e)
  refine wpAny_pure ⟨plainId_quiet F.plain_extend_loop _, ?_⟩
  exact zil_loop (ka := ka) (kb := kb) (xs := xs) (ys := ys) (s := s) (h₁ := s.heap) hh D L hn res hR (min xs.size ys.size) 0 _ _ _ #[] [] (Nat.sub_zero _) (Nat.zero_le _)
    (ZilSt.keep (.inl ⟨rfl, hst⟩) L oth) (ha.keep fun o e => oth a o (Nat.ne_of_lt L.a) e) (hb.keep fun o e => oth b o (Nat.ne_of_lt L.b) e) (fun c o h _ _ _ _ e => oth c o h e) hS₃ rfl rfl
    ⟨List.Pairwise.nil, (fun _ h => nomatch h), (fun j p hj => by simp at hj)⟩
theorem zil_init (hh : A.handled = none) (D : ZipApart z TI TO i1 i2 a b) (L : ZilLow S z TI TO i1 i2 a b) (hn : min xs.size ys.size ≤ sizeLine) (hst : ZipSt ka kb s.heap z TI TO i1 i2 a b 0) (ha : sqAt ka s.heap a xs) (hb : sqAt kb s.heap b ys)
    (hS : s.heap.get? S = some { cls := .type "list", data := .seq #[] })
    (hR : ∀ h' tk acc c as, (∀ c o, c ≠ S → c ≠ z → c ≠ TO → c ≠ i1 → c ≠ i2 → s.heap.get? c = some o → h'.get? c = some o) → h'.get? S = some { cls := .type "list", dict := none, data := .seq acc c, slots := #[] } → as.length = min xs.size ys.size → ZilG xs ys S h' as →
      acc.toList = as.map Value.ref → R (.ok (.ret .none)) { s with heap := h', toks := tk }) :
    wpAny (model prog w) A.in1 (Builtin.«list.__init__» ⟨[.ref S, .ref z], []⟩)
      (fun fin s' => match fin with | .done f => R (.ok f) s' | .again c' => c'.quiet = true ∧ codeAny (model prog w) A c' R s') (fun e s' => R (.error e) s') s := by
  show wpAny _ A.in1 (do let old ← Builtin.List.listItems (.ref S); Builtin.List.listUpdate (.ref S) (fun _ => #[]); letGo old.toList.reverse; Builtin.List.listExtendWith (.ref S) (.ref z) .none) _ _ s
  refine wpAny_bind ?_
  unfold Builtin.List.listItems
  refine wpAny_bind (wpAny_seqItems hS rfl (wpAny_pure ?_))
  show wpAny _ A.in1 (updateSeq S (fun _ => #[]) >>= fun _ => letGo (#[] : Array Value).toList.reverse >>= fun _ => Builtin.List.listExtendWith (.ref S) (.ref z) .none) _ _ s
  refine wpAny_bind (wpAny_updateSeq hS rfl ?_)
  have hS₂ := Heap.get?_update_self (Obj.mapSeq (fun _ => (#[] : Array Value))) hS rfl
  have oth : ∀ c o, c ≠ S → s.heap.get? c = some o → (s.heap.update S (Obj.mapSeq (fun _ => (#[] : Array Value)))).get? c = some o :=
    fun c o hc e => (Heap.get?_update_other _ _ (Ne.symm hc)).trans e
  refine wpAny_bind (wpAny_letGo ?_)
  have k0 : ZilSt ka kb (s.heap.update S (Obj.mapSeq (fun _ => (#[] : Array Value)))) z TI TO i1 i2 a b S 0 := ZilSt.keep (.inl ⟨rfl, hst⟩) L oth
  have hst' : ZipSt ka kb (s.heap.update S (Obj.mapSeq (fun _ => (#[] : Array Value)))) z TI TO i1 i2 a b 0 := by
    obtain ⟨S1, S2, ⟨u, v, S3⟩, S4, S5⟩ := hst
    exact ⟨oth _ _ (Nat.ne_of_lt L.z) S1, oth _ _ (Nat.ne_of_lt L.TI) S2, ⟨u, v, oth _ _ (Nat.ne_of_lt L.TO) S3⟩, S4.keep fun o => oth _ o (Nat.ne_of_lt L.i1), S5.keep fun o => oth _ o (Nat.ne_of_lt L.i2)⟩
  refine zil_extend (s := { s with heap := s.heap.update S (Obj.mapSeq (fun _ => (#[] : Array Value))) }) hh D L hn .none _ hst' (ha.keep fun o e => oth a o (Nat.ne_of_lt L.a) e) (hb.keep fun o e => oth b o (Nat.ne_of_lt L.b) e) hS₂ fun h' tk acc c as q1 q2 q3 q4 q5 => ?_
  exact hR h' tk acc c as (fun c o n1 n2 n3 n4 n5 e => q1 c o n1 n2 n3 n4 n5 (oth c o n1 e)) q2 q3 q4 q5
end
section
variable {prog : Program} {w : World} {A : Around} {s : Shared} {E : Value → Shared → Prop} {ka kb : Bool} {z TI TO i1 i2 a b : Addr} {xs ys : Array Value}
theorem zil_call {Q : Value → Shared → Prop} (hh : A.handled = none) (D : ZipApart z TI TO i1 i2 a b) (L : ZilLow s.heap.objs.size z TI TO i1 i2 a b) (hn : min xs.size ys.size ≤ sizeLine) (hst : ZipSt ka kb s.heap z TI TO i1 i2 a b 0) (ha : sqAt ka s.heap a xs) (hb : sqAt kb s.heap b ys)
    (hQ : ∀ h' tk acc c as, (∀ c o, c ≠ z → c ≠ TO → c ≠ i1 → c ≠ i2 → s.heap.get? c = some o → h'.get? c = some o) → h'.get? s.heap.objs.size = some { cls := .type "list", dict := none, data := .seq acc c, slots := #[] } → as.length = min xs.size ys.size →
      ZilG xs ys s.heap.objs.size h' as → acc.toList = as.map Value.ref → Q (.ref s.heap.objs.size) { s with heap := h', toks := tk }) :
    wpAny (model prog w) A (call (.type "list") [.ref z]) Q E s := by
  refine callType_codes (Q₁ := fun obj s₁ => obj = .ref s.heap.objs.size ∧ s₁ = { s with heap := s.heap.push { cls := .type "list", data := .seq #[] } }) F.called_list (F.typeCall_list_1 _) F.entry_list_init
    (code_list_new _ ⟨rfl, rfl⟩) fun obj s₁ h₁ => ?_
  obtain ⟨rfl, rfl⟩ := h₁
  have hS : (s.heap.push { cls := .type "list", data := .seq #[] }).get? s.heap.objs.size = some { cls := .type "list", data := .seq #[] } := Heap.get?_push_size _ rfl
  have up : ∀ c o, s.heap.get? c = some o → (s.heap.push { cls := .type "list", data := .seq #[] }).get? c = some o := fun c o e => Heap.get?_push_of_some _ e
  have hst' : ZipSt ka kb (s.heap.push { cls := .type "list", data := .seq #[] }) z TI TO i1 i2 a b 0 := by
    obtain ⟨S1, S2, ⟨u, v, S3⟩, S4, S5⟩ := hst
    exact ⟨up _ _ S1, up _ _ S2, ⟨u, v, up _ _ S3⟩, S4.keep fun o => up _ o, S5.keep fun o => up _ o⟩
  refine ⟨⟨_, hS, rfl⟩, F.args_list_init_2 _ _, zil_init (A := A.in1) hh D L hn hst' (ha.keep fun o => up _ o) (hb.keep fun o => up _ o) hS fun h' tk acc c as q1 q2 q3 q4 q5 => ?_⟩
  exact ⟨rfl, hQ h' tk acc c as (fun c o n1 n2 n3 n4 e => q1 c o (Nat.ne_of_lt (Heap.lt_size e)) n1 n2 n3 n4 (up c o e)) q2 q3 q4 q5⟩
end
end Y

namespace Y
open PySem PySem.Spec L2 PyProof.Rows
/-! ### zip made of any two; list(zip(x, y)) as an expression -/
theorem new_TT (a b : Addr) (xs ys : Array Value) : Meets (Builtin.«zip.__new__» ⟨[.type "zip", .ref a, .ref b], []⟩) (fun _ R s => s.heap.IsTuple a xs ∧ s.heap.IsTuple b ys ∧
      R (.ok (.ret (.ref (zM4 true true s.heap a b).objs.size))) { s with heap := zM5 true true s.heap a b }) := .of_wp fun prog w A R s h => by
  obtain ⟨hp, g, d, tk, os⟩ := s
  obtain ⟨p1, p2, h⟩ := h
  have sz := sub_zip
  have q1 : Heap.IsTuple (Shared.heap ⟨hp, g, d, tk, os⟩) a xs := p1
  have q2 : Heap.IsTuple (Shared.heap ⟨hp.push { cls := .type "tuple_iterator", data := .fields #[.ref a, .int 0 0] }, g, d, tk, os⟩) b ys := Heap.IsTuple.push p2 _
  wp_walk using wpAny_pyIter_tuple q1, wpAny_pyIter_tuple q2
  exact ⟨_, rfl, h⟩
theorem new_LL (a b : Addr) (xs ys : Array Value) : Meets (Builtin.«zip.__new__» ⟨[.type "zip", .ref a, .ref b], []⟩) (fun _ R s => s.heap.IsList a xs ∧ s.heap.IsList b ys ∧
      R (.ok (.ret (.ref (zM4 false false s.heap a b).objs.size))) { s with heap := zM5 false false s.heap a b }) := .of_wp fun prog w A R s h => by
  obtain ⟨hp, g, d, tk, os⟩ := s
  obtain ⟨p1, p2, h⟩ := h
  have sz := sub_zip
  have q1 : Heap.IsList (Shared.heap ⟨hp, g, d, tk, os⟩) a xs := p1
  have q2 : Heap.IsList (Shared.heap ⟨hp.push { cls := .type "list_iterator", data := .fields #[.ref a, .int 0 0] }, g, d, tk, os⟩) b ys := Heap.IsList.push p2 _
  wp_walk using wpAny_pyIter_list q1, wpAny_pyIter_list q2
  exact ⟨_, rfl, h⟩
section
variable {prog : Program} {w : World} {A : Around} {s : Shared} {E : Value → Shared → Prop} {ka kb : Bool} {a b : Addr} {xs ys : Array Value}
theorem zM_at (ka kb : Bool) (h : Heap) (a b : Addr) : (zM5 ka kb h a b).get? (zM4 ka kb h a b).objs.size = some { cls := .type "zip", data := .fields #[.none, .bool false, .bool false, .ref (zM2 ka kb h a b).objs.size, .ref (zM3 ka kb h a b).objs.size] } := Heap.get?_push_size _ rfl
theorem call_zipX {Q : Value → Shared → Prop} (ha : sqAt ka s.heap a xs) (hb : sqAt kb s.heap b ys)
    (q : ∀ h', ZipSt ka kb h' (s.heap.objs.size + 4) (s.heap.objs.size + 2) (s.heap.objs.size + 3) s.heap.objs.size (s.heap.objs.size + 1) a b 0 → (∀ c o, s.heap.get? c = some o → h'.get? c = some o) → h'.objs.size = s.heap.objs.size + 5 → Q (.ref (s.heap.objs.size + 4)) { s with heap := h' }) :
    wpAny (model prog w) A (call (.type "zip") [.ref a, .ref b]) Q E s := by
  have n1 : (zM1 ka s.heap a).objs.size = s.heap.objs.size + 1 := Heap.size_push ..
  have n2 : (zM2 ka kb s.heap a b).objs.size = s.heap.objs.size + 2 := by unfold zM2; rw [Heap.size_push, n1]
  have n3 : (zM3 ka kb s.heap a b).objs.size = s.heap.objs.size + 3 := by unfold zM3; rw [Heap.size_push, n2]
  have n4 : (zM4 ka kb s.heap a b).objs.size = s.heap.objs.size + 4 := by unfold zM4; rw [Heap.size_push, n3]
  have n5 : (zM5 ka kb s.heap a b).objs.size = s.heap.objs.size + 5 := by unfold zM5; rw [Heap.size_push, n4]
  have k5 : ∀ c o, (zM4 ka kb s.heap a b).get? c = some o → (zM5 ka kb s.heap a b).get? c = some o := fun c o e => Heap.get?_push_of_some _ e
  have k4 : ∀ c o, (zM3 ka kb s.heap a b).get? c = some o → (zM5 ka kb s.heap a b).get? c = some o := fun c o e => k5 c o (Heap.get?_push_of_some _ e)
  have k3 : ∀ c o, (zM2 ka kb s.heap a b).get? c = some o → (zM5 ka kb s.heap a b).get? c = some o := fun c o e => k4 c o (Heap.get?_push_of_some _ e)
  have k2 : ∀ c o, (zM1 ka s.heap a).get? c = some o → (zM5 ka kb s.heap a b).get? c = some o := fun c o e => k3 c o (Heap.get?_push_of_some _ e)
  have fin : Q (.ref (zM4 ka kb s.heap a b).objs.size) { s with heap := zM5 ka kb s.heap a b } := by
    rw [n4]
    refine q _ ⟨?_, ?_, ⟨.none, .none, ?_⟩, itAt_new ?_, itAt_new ?_⟩ (fun c o e => k2 c o (Heap.get?_push_of_some _ e)) n5
    · have e := zM_at ka kb s.heap a b
      rw [n4] at e
      unfold IsZip
      rw [e, n2, n3]
    · have e : (zM3 ka kb s.heap a b).get? (zM2 ka kb s.heap a b).objs.size = some { cls := .type "tuple", data := .seq #[.ref s.heap.objs.size, .ref (zM1 ka s.heap a).objs.size] } := Heap.get?_push_size _ rfl
      have e := k4 _ _ e
      rw [n2] at e
      unfold IsPair
      rw [e, n1]
    · have e : (zM4 ka kb s.heap a b).get? (zM3 ka kb s.heap a b).objs.size = some { cls := .type "tuple", data := .seq #[.none, .none] } := Heap.get?_push_size _ rfl
      have e := k5 _ _ e
      rw [n3] at e
      exact e
    · exact k2 _ _ (Heap.get?_push_size s.heap (o := itO ka a) (by cases ka <;> rfl))
    · have e : (zM2 ka kb s.heap a b).get? (zM1 ka s.heap a).objs.size = some (itO kb b) := Heap.get?_push_size _ (by cases kb <;> rfl)
      have e := k3 _ _ e
      rw [n1] at e
      exact e
  have z0 := zM_at ka kb s.heap a b
  cases ka <;> cases kb
  · exact callType_new F.called_zip (by decide) (F.typeCall_zip_2 _ _) (F.newCall_zip_2 _ _) (fun obj => F.args_object_init_3 obj _ _) F.entry_zip_new (new_LL a b xs ys) ⟨ha, hb, ⟨_, z0, rfl⟩, fin⟩
  · exact callType_new F.called_zip (by decide) (F.typeCall_zip_2 _ _) (F.newCall_zip_2 _ _) (fun obj => F.args_object_init_3 obj _ _) F.entry_zip_new (new_LT a b xs ys) ⟨ha, hb, ⟨_, z0, rfl⟩, fin⟩
  · exact callType_new F.called_zip (by decide) (F.typeCall_zip_2 _ _) (F.newCall_zip_2 _ _) (fun obj => F.args_object_init_3 obj _ _) F.entry_zip_new (new_TL a b xs ys) ⟨ha, hb, ⟨_, z0, rfl⟩, fin⟩
  · exact callType_new F.called_zip (by decide) (F.typeCall_zip_2 _ _) (F.newCall_zip_2 _ _) (fun obj => F.args_object_init_3 obj _ _) F.entry_zip_new (new_TT a b xs ys) ⟨ha, hb, ⟨_, z0, rfl⟩, fin⟩
end
/-- the pairs laid one by one -/
def layP : Hp → List Addr → List (V × V) → Hp
  | H, a :: as, p :: ps => layP (upd H a (.tup [p.1, p.2])) as ps
  | H, _, _ => H
theorem layP_other {q : Addr} : ∀ (as : List Addr) (ps : List (V × V)) (H : Hp), q ∉ as → layP H as ps q = H q
  | [], _, _, _ => by unfold layP; rfl
  | _ :: _, [], _, _ => rfl
  | a :: as, p :: ps, H, h => by
    show layP (upd H a (.tup [p.1, p.2])) as ps q = H q
    rw [layP_other as ps _ fun z => h (List.mem_cons_of_mem _ z), upd_ne fun z => h (by rw [z]; exact List.mem_cons_self)]
section
variable {X : Cx} {pins : List (Addr × Obj)} {σ : L2.St} {s : Shared}
theorem inv_layP {h' : Heap} {t' : Nat} : ∀ (as : List Addr) (ps : List (V × V)) (H : Hp), Inv X pins σ H { s with heap := h', toks := t' } → as.Nodup → (∀ a ∈ as, ∀ H', H' a = none → FpOk X pins H' a) → (∀ a ∈ as, H a = none) →
    (∀ (j : Nat) a p, as[j]? = some a → ps[j]? = some p → ∃ u v, RelV p.1 u ∧ RelV p.2 v ∧ IsPair h' a u v) → Inv X pins σ (layP H as ps) { s with heap := h', toks := t' }
  | [], _, H, I, _, _, _, _ => by unfold layP; exact I
  | _ :: _, [], H, I, _, _, _, _ => I
  | a :: as, p :: ps, H, I, hn, hf, hH, hp => by
    obtain ⟨u, v, ru, rv, e⟩ := hp 0 a p rfl rfl
    rw [List.nodup_cons] at hn
    refine inv_layP as ps _ (I.take (t' := t') (h' := h') (fun b ob _ e => e) (hf a List.mem_cons_self H (hH a List.mem_cons_self)) ⟨by show 2 ≤ sizeLine; decide, [u, v], .cons ru (.cons rv .nil), ⟨_, e, rfl, _, rfl⟩⟩) hn.2 (fun b hb => hf b (List.mem_cons_of_mem _ hb)) (fun b hb => ?_) fun j b q h1 h2 => hp (j + 1) b q h1 h2
    rw [upd_ne fun z => hn.1 (by rw [← z]; exact hb)]
    exact hH b (List.mem_cons_of_mem _ hb)
end
end Y

namespace Y
open PySem PySem.Spec L2 PyProof.Rows
section
variable {X : Cx} {pins : List (Addr × Obj)} {σ : L2.St} {H : Hp} {s : Shared} {kd : Bool} {a : Addr} {xs : List V}
theorem SqK.realS (I : Inv X pins σ H s) (h : SqK X.K kd H a xs) : ∃ its, Vals xs its ∧ sqAt kd s.heap a its.toArray ∧ xs.length ≤ sizeLine := by
  cases kd with
  | true => obtain ⟨its, r, p, hz⟩ := I.tuple h; exact ⟨its, r, p, hz⟩
  | false => obtain ⟨its, r, p, hz⟩ := I.list h; exact ⟨its, r, p.isList, hz⟩
end
def tListZip (K : PySem.W.Frag) (ta : TA) : TE := fun σ H Q => ta σ H fun vs H1 => ∃ ka kb a b xs ys, vs = [.ref a, .ref b] ∧ SqK K ka H1 a xs ∧ SqK K kb H1 b ys ∧
  ∀ (as : List Addr) (S : Addr), as.length = (xs.zip ys).length → as.Nodup → (∀ p ∈ as, H1 p = none) → S ∉ as → H1 S = none → Q (.ref S) (upd (layP H1 as (xs.zip ys)) S (.lst (as.map V.ref)))
theorem vals_refs : ∀ as : List Addr, Vals (as.map V.ref) (as.map Value.ref)
  | [] => .nil
  | a :: as => .cons rfl (vals_refs as)
section
variable {X : Cx}
theorem pe_listZip {e e2 : PySem.Expr} {ta : TA} {p p2 pos pos2 : Pos} (hc : X.calm = true) (hg : Gl X "list") (hm : X.mg "list" = none) (hg2 : Gl X "zip") (hm2 : X.mg "zip" = none) (ha : PA X [e, e2] ta)
    (hs : starEach [e, e2] X.env = (false, eval e X.env) :: starEach [e2] X.env := by rfl) (hpl : (backTo pos2 (starEach [e2] X.env)).any (·.1) = false := by rfl)
    (hs2 : starEach [.Call (.Name "zip" p2) [e, e2] [] pos2] X.env = (false, eval (.Call (.Name "zip" p2) [e, e2] [] pos2) X.env) :: starEach [] X.env := by rfl) :
    PE X (.Call (.Name "list" p) [.Call (.Name "zip" p2) [e, e2] [] pos2] [] pos) (tListZip X.K ta) := by
  refine ⟨fun pins s σ H Q I h => ?_⟩
  refine Call_ (ld_blt I hg hm PyProof.Rows.boot_list (PyProof.Rows.callWith_type1 (args_cons (Call_ (ld_blt I hg2 hm2 PyProof.Rows.boot_zip (PyProof.Rows.callWith_type1 (thn (ha.run pos2 pins s σ H _ I h) fun us s1 ⟨vs, H1, I1, r1, q1⟩ => ?_) hs hpl))) hs2) hs2 rfl))
  obtain ⟨ka, kb, a, b, xs, ys, rfl, sx, sy, q⟩ := q1
  obtain ⟨u1, u2, rfl, ra, rb⟩ := vals2 r1
  obtain rfl : u1 = Value.ref a := ra
  obtain rfl : u2 = Value.ref b := rb
  obtain ⟨its, rv, p1, z1⟩ := SqK.realS I1 sx
  obtain ⟨its2, rv2, p2', z2⟩ := SqK.realS I1 sy
  have l1 : its.toArray.size = xs.length := by rw [List.size_toArray, rv.length]
  have l2 : its2.toArray.size = ys.length := by rw [List.size_toArray, rv2.length]
  refine call_zipX p1 p2' fun h' S hk hsz => args_nil ?_
  have I2 : Inv X pins σ H1 { s1 with heap := h' } := I1.kept (t' := s1.toks) hk
  have la := p1.lt
  have lb := p2'.lt
  have L : ZilLow h'.objs.size (s1.heap.objs.size + 4) (s1.heap.objs.size + 2) (s1.heap.objs.size + 3) s1.heap.objs.size (s1.heap.objs.size + 1) a b := by
    rw [hsz]
    refine ⟨?_, ?_, ?_, ?_, ?_, ?_, ?_⟩ <;> first | exact Nat.lt_of_lt_of_le la (Nat.le_add_right _ _) | exact Nat.lt_of_lt_of_le lb (Nat.le_add_right _ _) | exact Nat.add_lt_add_left (by decide) _ | exact Nat.lt_add_of_pos_right (by decide)
  refine zil_call (s := { s1 with heap := h' }) (I1.ok.hd hc) (PySem.W.ktu_apart s1.heap.objs.size a b la lb) L (by rw [l1]; exact Nat.le_trans (Nat.min_le_left _ _) z1) S (p1.keep fun o e => hk _ o e) (p2'.keep fun o e => hk _ o e) fun h2 tk acc c as q1 q2 q3 q4 q5 => ?_
  have fp : ∀ (y : Addr), s1.heap.objs.size ≤ y → ∀ H', H' y = none → FpOk X pins H' y := fun y hy H' hn => I1.fpOk hy hn
  have fr : ∀ (y : Addr), s1.heap.objs.size ≤ y → H1 y = none := fun y hy => I1.hok.fresh hy
  have I3 : Inv X pins σ H1 { s1 with heap := h2, toks := tk } := Inv.turnedL (s := { s1 with heap := h' }) (t' := tk) (h' := h2) I2 (ch := [s1.heap.objs.size + 4, s1.heap.objs.size + 2, s1.heap.objs.size + 3, s1.heap.objs.size, s1.heap.objs.size + 1])
    (fun c o hb e => q1 c o (fun t => hb (by simp [t])) (fun t => hb (by simp [t])) (fun t => hb (by simp [t])) (fun t => hb (by simp [t])) e) fun y hy => by
      have hle : s1.heap.objs.size ≤ y := by
        rcases mem5 hy with t | t | t | t | t <;> (rw [t]; first | exact Nat.le_refl _ | exact Nat.le_add_right _ _)
      exact fp y hle H1 (fr y hle)
  have hSb : s1.heap.objs.size ≤ h'.objs.size := by rw [hsz]; exact Nat.le_add_right _ _
  have hab : ∀ y ∈ as, s1.heap.objs.size ≤ y := fun y hy => Nat.le_of_lt (Nat.lt_of_le_of_lt hSb (q4.above y hy))
  have hnd : as.Nodup := q4.rise.imp fun h => Nat.ne_of_lt h
  have hSn : h'.objs.size ∉ as := fun z => Nat.lt_irrefl _ (q4.above _ z)
  have hlen : as.length = (xs.zip ys).length := by rw [q3, l1, l2, List.length_zip]
  have I4 := inv_layP (X := X) (pins := pins) (σ := σ) (s := s1) (h' := h2) (t' := tk) as (xs.zip ys) H1 I3 hnd (fun y hy => fp y (hab y hy)) (fun y hy => fr y (hab y hy)) fun j y pr h1 h3 => by
    obtain ⟨x', y', e1, e2, e3⟩ := q4.pairs j y h1
    obtain ⟨pa, pb⟩ := pr
    rw [List.getElem?_zip_eq_some] at h3
    obtain ⟨h3, h4⟩ := h3
    obtain ⟨u, hu, ru⟩ := rv.get h3
    obtain ⟨v, hv, rvv⟩ := rv2.get h4
    refine ⟨u, v, ru, rvv, ?_⟩
    have e1' : its[j]? = some x' := by simpa using e1
    have e2' : its2[j]? = some y' := by simpa using e2
    rw [hu] at e1'
    rw [hv] at e2'
    cases e1'
    cases e2'
    exact e3
  have hSl : layP H1 as (xs.zip ys) h'.objs.size = none := (layP_other as _ H1 hSn).trans (fr _ hSb)
  have hal : (as.map V.ref).length ≤ sizeLine := by
    rw [List.length_map, hlen, List.length_zip]
    exact Nat.le_trans (Nat.min_le_left _ _) z1
  refine ⟨.ref h'.objs.size, upd (layP H1 as (xs.zip ys)) h'.objs.size (.lst (as.map V.ref)), I4.take (t' := tk) (h' := h2) (fun b ob _ e => e) (fp _ hSb _ hSl) ?_, rfl, q as _ hlen hnd (fun y hy => fr y (hab y hy)) hSn (fr _ hSb)⟩
  exact ⟨hal, as.map Value.ref, c, vals_refs as, by rw [← q5, Array.toArray_toList]; exact q2⟩
end
end Y

namespace Y
open PySem L2
/-! ### list(zip(x, y)): its run -/
def listZip (F G : Loc → M W) : Loc → M W := fun ρ => M.bnd (F ρ) fun x => M.bnd (G ρ) fun y => M.bnd (gSeq x) fun ds => M.bnd (gSeq y) fun es => M.ret (.d (.lst (zipD ds es)))
section
variable {K : PySem.W.Frag} {mg : Str → Option Value} {E : XK}
theorem lay_pairs : ∀ (as : List Addr) (vs us : List V) (ds es : List D) (w : Wd), Ok K w → as.Nodup → (∀ p ∈ as, w.H p = none) → as.length = (vs.zip us).length → RepL K w.H w.al ds vs → RepL K w.H w.al es us →
    ∃ w', Gd K w w.st w' ∧ w'.H = layP w.H as (vs.zip us) ∧ RepL K w'.H w'.al (zipD ds es) (as.map V.ref)
  | [], vs, us, ds, es, w, ok, _, _, hl, r1, r2 => by
    refine ⟨w, Gd.refl ok, by unfold layP; rfl, ?_⟩
    have h1 := r1.length
    have h2 := r2.length
    have h3 : (zipD ds es).length = 0 := by
      rw [List.length_nil, List.length_zip] at hl
      rw [zipD_len]; omega
    rw [List.length_eq_zero_iff.mp h3]
    rfl
  | a :: as, vs, us, ds, es, w, ok, hn, hf, hl, r1, r2 => by
    match vs, us, ds, es, hl, r1, r2 with
    | [], _, _, _, hl, _, _ => rw [List.zip_nil_left] at hl; cases hl
    | _ :: _, [], _, _, hl, _, _ => rw [List.zip_nil_right] at hl; cases hl
    | v :: vs, u :: us, [], _, _, r1, _ => exact absurd r1.length (by simp)
    | v :: vs, u :: us, _ :: _, [], _, _, r2 => exact absurd r2.length (by simp)
    | v :: vs, u :: us, d :: ds, e :: es, hl, r1, r2 =>
      obtain ⟨v', vs', ev, rd, rl1⟩ := r1
      cases ev
      obtain ⟨u', us', eu, re, rl2⟩ := r2
      cases eu
      rw [List.nodup_cons] at hn
      have ha := hf a List.mem_cons_self
      have g1 : Gd K w w.st (w.lay a (.tup [v, u])) := gd_lay ok ha
      have x1 := g1.stp.toNxt
      have rp : RepW K (w.lay a (.tup [v, u])) (.d (.tup [d, e])) (.ref a) := rep_tup ok ha (ds := [d, e]) (vs := [v, u]) ⟨_, _, rfl, rd, ⟨_, _, rfl, re, rfl⟩⟩
      obtain ⟨w2, g2, h2, r2'⟩ := lay_pairs as vs us ds es (w.lay a (.tup [v, u])) g1.ok hn.2 (fun p hp => by
        show upd w.H a (.tup [v, u]) p = none
        rw [upd_ne fun z => hn.1 (by rw [← z]; exact hp)]
        exact hf p (List.mem_cons_of_mem _ hp)) (by simpa using hl) (rl1.nxt x1 ok) (rl2.nxt x1 ok)
      exact ⟨w2, g1.trans g2, h2, ⟨_, _, rfl, Rep.nxt g2.stp.toNxt g1.ok rp, r2'⟩⟩
theorem ev_listZip {ta tb : TE} {F G : Loc → M W} (ha : EvE K mg E ta F) (hb : EvE K mg E tb G) : EvE K mg E (tListZip K (tCons ta (tCons tb tNil))) (listZip F G) := by
  intro σ ρ w ok r Q h
  unfold listZip at h
  refine ha σ ρ w ok r _ ?_
  rw [sat_bnd] at h
  refine h.mono (fun x s1 h => ?_) fun _ _ z => z
  intro v w1 g1 rv
  obtain rfl := g1.st
  refine hb σ ρ w1 g1.ok (r.nxt g1.stp.toNxt ok) _ ?_
  rw [sat_bnd] at h
  refine h.mono (fun y s2 h => ?_) fun e s2 z => EOk.of g1 z
  intro u w2 g2 ru
  obtain rfl := g2.st
  rw [sat_bnd, v_seqD] at h
  obtain ⟨a', ds, rfl, hds, h⟩ := h
  rw [sat_bnd, v_seqD] at h
  obtain ⟨b', es, rfl, hes, h⟩ := h
  have gg := g1.trans g2
  obtain ⟨ka, p, vs, rfl, sp, rl⟩ := rep_sqK g2.ok (rv.nxt g2.stp.toNxt g1.ok) hds
  obtain ⟨kb, q, us, rfl, sq, rl2⟩ := rep_sqK g2.ok ru hes
  refine ⟨ka, kb, p, q, vs, us, rfl, sp w2 (Nxt.refl w2), sq w2 (Nxt.refl w2), fun as S hl hn hf hS hS0 => ?_⟩
  obtain ⟨w3, g3, e3, r3⟩ := lay_pairs as vs us ds es w2 g2.ok hn hf hl rl rl2
  have hS3 : w3.H S = none := by rw [e3, layP_other as _ _ hS]; exact hS0
  have g4 : Gd K w3 w3.st (w3.lay S (.lst (as.map V.ref))) := gd_lay g3.ok hS3
  have st3 : w3.st = w2.st := g3.st
  rw [← e3]
  refine h _ _ ((gg.trans g3).trans ?_) (rep_lst g3.ok hS3 r3)
  have := g4
  rw [st3] at this
  exact this
end
theorem e_listZip {s s' s2 : Sto} {ρ : Loc} {F G : Loc → M W} {d e : D} {ds es : List D} (h : F ρ s = .ok (.d d) s') (h2 : G ρ s' = .ok (.d e) s2) (hd : seqOf d = some ds) (he : seqOf e = some es) : listZip F G ρ s = .ok (.d (.lst (zipD ds es))) s2 := by
  unfold listZip
  rw [bnd_ok h, bnd_ok h2, bnd_ok (show gSeq (.d d) s2 = .ok ds s2 by unfold gSeq; simp only [hd]), bnd_ok (show gSeq (.d e) s2 = .ok es s2 by unfold gSeq; simp only [he])]
  rfl
end Y

namespace Y
open PySem L2 PyProof.Rows
/-! ### a tuple, perhaps empty, times n -/
theorem tuple_mul0 (l : Addr) (n : Nat) (dd : Option Addr) (sl : Array (Option Value)) (x : Int) (u : Tok) (c0 : (decide (x < -(2 ^ 63)) || decide (x ≥ 2 ^ 63)) = false) :
    Meets (Builtin.«tuple.__mul__» ⟨[.ref l, .int x u], []⟩) (fun _ R s => s.heap.get? l = some { cls := .type "tuple", dict := dd, data := .seq #[] n, slots := sl } ∧ R (.ok (.ret (Value.ref l))) s) :=
  .of_wp fun prog w A R s h => by
    obtain ⟨hp, g, d, tk, os⟩ := s
    obtain ⟨hl, h⟩ := h
    have f1 := AutoSeq1.idx_int
    wp_walk using PySem.AutoSeq1.wpAny_loadPart' hl
    repeat (first
      | (refine wpAny_ite_false (decide_eq_false (by rw [c0]; exact Bool.false_ne_true)) ?_; wp_walk using PySem.AutoSeq1.wpAny_loadPart' hl))
    exact ⟨_, rfl, h⟩
def rRep0 (K : PySem.W.Frag) : R2 := fun x y H Q => ∃ l k, x = .ref l ∧ y = .int k ∧ SqT K H l [] ∧ 0 ≤ k ∧ k ≤ 1000 ∧ Q (.ref l) H
theorem op_rep0 {X : Cx} : OpR X (binaryOp .Mult) (rRep0 X.K) := by
  intro pins s σ H x y v u Q I rx ry h
  obtain ⟨l, k, rfl, rfl, hT, k0, k1, q⟩ := h
  cases rx
  obtain ⟨t, rfl⟩ := ry
  obtain ⟨its, r, ⟨⟨cls, dd, data, sl⟩, ho, hc, n, hd⟩, hs⟩ := I.tuple hT
  simp only at hc hd
  subst hc hd
  have hle : its = [] := List.eq_nil_of_length_eq_zero r.length.symm
  subst hle
  have c0 : (decide (k < -(2 ^ 63)) || decide (k ≥ 2 ^ 63)) = false := by
    rw [decide_eq_false (by omega), decide_eq_false (by omega)] <;> rfl
  exact wpAny_binaryOp_repeat_ref (T := "tuple") (U := "int") (by decide) ⟨_, ho, rfl⟩ (fun s' => typeIs_int s' k t) noFill_tuple_mul F.fills_int_mul F.slot_int_rmul repeat_tuple F.slot_int_index.lookup
    (call_meets F.slot_int_rmul (typeIs_int s k t) F.entry_int_rmul (F.args_int_rmul_2 _ _) (int_rmul_tuple k t l #[] n dd sl)
      ⟨ho, rfl, ⟨_, ho, rfl⟩, call_meets F.slot_tuple_mul ⟨_, ho, rfl⟩ F.entry_tuple_mul (F.args_tuple_mul_2 _ _) (tuple_mul0 l n dd sl k t c0) ⟨ho, ⟨.ref l, H, I, rfl, q⟩⟩⟩)
def fMulE : Sto → W → W → Option W := fun s a b => match vw s a, b with
  | some (.tup []), .d (.int j) => if 0 ≤ j ∧ j ≤ 1000 then some (.d (.tup [])) else none
  | _, _ => fMul s a b
def rMulE (K : PySem.W.Frag) : R2 := fun x y H Q => rMulY K x y H Q ∨ rRep0 K x y H Q
theorem op_mulE {X : Cx} : OpR X (binaryOp .Mult) (rMulE X.K) := op_mulY.or op_rep0
section
variable {K : PySem.W.Frag}
theorem sem_mulE : SemR2 K (rMulE K) (opt2 fMulE) := fun w a b x y ok ra rb Q h => by
  unfold opt2 fMulE at h
  split at h
  · rename_i z hz
    split at hz
    · rename_i j e
      split at hz
      · rename_i hc
        cases hz
        obtain ⟨p, vs, rfl, hs, r⟩ := rd_tup ok e ra
        rw [show vs = [] from r] at hs
        exact .inr ⟨p, j, rfl, rb, hs, hc.1, hc.2, pw_d (d := .tup []) ok ⟨p, [], rfl, hs, rfl⟩ h⟩
      · cases hz
    · exact .inl (sem_mul w _ _ x y ok ra rb Q (by unfold opt2; rw [hz]; exact h))
  · exact h.elim
end
theorem o_mulE {xs : List D} {j : Int} {s : Sto} (h : xs.length ≤ 1000) (h0 : 1 ≤ j) (h1 : j ≤ 1000) : opt2 fMulE (.d (.tup xs)) (.d (.int j)) s = .ok (.d (.tup (repD j.toNat xs))) s := by
  have ef : ∀ (f : Sto → W → W → Option W) (x y z : W), f s x y = some z → opt2 f x y s = .ok z s := fun f x y z e => by unfold opt2; rw [e]
  refine ef _ _ _ _ ?_
  cases xs with
  | nil =>
    have e : repD j.toNat [] = [] := by
      unfold repD
      rw [List.flatten_eq_nil_iff]
      intro l hl
      exact List.eq_of_mem_replicate hl
    rw [e]
    show (if 0 ≤ j ∧ j ≤ 1000 then some (W.d (.tup [])) else none) = _
    rw [if_pos ⟨by omega, h1⟩]
  | cons x xs =>
    show fMul s (.d (.tup (x :: xs))) (.d (.int j)) = _
    unfold fMul
    simp only [vw]
    rw [if_pos ⟨by simp, h0, h1, h⟩]
end Y

namespace Y
open PySem L2 PyProof.Rows
/-! ### dicts of the store whose keys are tuples -/
mutual
theorem hash0_eq (w : World) : ∀ (d : D) (q : NestedKey), nk d = some q → q.hash w = hash0 q
  | .non, q, h => by cases h; rfl
  | .int i, q, h => by cases h; rfl
  | .tup ds, q, h => by
    obtain ⟨ks, e, rfl⟩ := Option.map_eq_some_iff.mp (show (nks ds).map NestedKey.tup = some q from h)
    show reduceHash _ = reduceHash _
    rw [hashes0_eq w ds ks e]
  | .tux ds, q, h => by
    obtain ⟨ks, e, rfl⟩ := Option.map_eq_some_iff.mp (show (nks ds).map NestedKey.tup = some q from h)
    show reduceHash _ = reduceHash _
    rw [hashes0_eq w ds ks e]
  | .bl _, q, h => by cases h
  | .str _, q, h => by cases h
  | .lst _, q, h => by cases h
  | .frz _, q, h => by cases h
theorem hashes0_eq (w : World) : ∀ (ds : List D) (ks : List NestedKey), nks ds = some ks → NestedKey.hashes w ks = hashes0 ks
  | [], ks, h => by cases h; rfl
  | d :: ds, ks, h => by
    obtain ⟨k, e1, h⟩ := Option.bind_eq_some_iff.mp (show (nk d).bind _ = some ks from h)
    obtain ⟨r, e2, rfl⟩ := Option.map_eq_some_iff.mp h
    show k.hash w :: NestedKey.hashes w r = hash0 k :: hashes0 r
    rw [hash0_eq w d k e1, hashes0_eq w ds r e2]
end
section
variable {X : Cx} {pins : List (Addr × Obj)} {σ : L2.St} {H : Hp} {s : Shared} {al : Addr → Prop}
mutual
theorem nested_is (I : Inv X pins σ H s) : ∀ (d : D) (v : V) (u : Value) (q : NestedKey), Rep X.K H al d v → RelV v u → nk d = some q → NestedIs s.heap q u
  | .non, v, u, q, r, ru, h => by
    cases h
    obtain rfl : v = .non := r
    cases ru
    exact .none
  | .int i, v, u, q, r, ru, h => by
    cases h
    obtain rfl : v = .int i := r
    obtain ⟨t, rfl⟩ := ru
    exact .int i t
  | .tup ds, v, u, q, r, ru, h => by
    obtain ⟨ks, e, rfl⟩ := Option.map_eq_some_iff.mp (show (nks ds).map NestedKey.tup = some q from h)
    obtain ⟨a, vs, rfl, hs, rl⟩ := r
    cases ru
    obtain ⟨its, rv, ⟨o, ho, hc, n, hd⟩, _⟩ := I.tuple hs
    exact .tup ho hc hd (nested_are I ds vs its ks rl rv e)
  | .tux ds, v, u, q, r, ru, h => by
    obtain ⟨ks, e, rfl⟩ := Option.map_eq_some_iff.mp (show (nks ds).map NestedKey.tup = some q from h)
    obtain ⟨a, vs, rfl, ⟨o', hs, _⟩, rl⟩ := r
    cases ru
    obtain ⟨its, rv, ⟨o, ho, hc, n, hd⟩, _⟩ := I.tuple (.inl (.inr ⟨o', hs⟩))
    exact .tup ho hc hd (nested_are I ds vs its ks rl rv e)
  | .bl _, _, _, _, _, _, h => by cases h
  | .str _, _, _, _, _, _, h => by cases h
  | .lst _, _, _, _, _, _, h => by cases h
  | .frz _, _, _, _, _, _, h => by cases h
theorem nested_are (I : Inv X pins σ H s) : ∀ (ds : List D) (vs : List V) (us : List Value) (ks : List NestedKey), RepL X.K H al ds vs → Vals vs us → nks ds = some ks → NestedAll s.heap ks us
  | [], vs, us, ks, r, rv, h => by
    cases h
    obtain rfl : vs = [] := r
    cases rv
    exact .nil
  | d :: ds, vs, us, ks, r, rv, h => by
    obtain ⟨k, e1, h⟩ := Option.bind_eq_some_iff.mp (show (nk d).bind _ = some ks from h)
    obtain ⟨ks', e2, rfl⟩ := Option.map_eq_some_iff.mp h
    obtain ⟨v, vs', rfl, r1, r2⟩ := r
    cases rv with
    | cons p q => exact .cons (nested_is I d v _ k r1 p e1) (nested_are I ds vs' _ ks' r2 q e2)
end
end
/-- a key that is a tuple -/
def isTK (d : D) : Bool := match nk d with
  | some (.tup ks) => decide ((NestedKey.tup ks).depth ≤ 8)
  | _ => false
theorem isTK_at {d : D} (h : isTK d = true) : ∃ ks, nk d = some (.tup ks) ∧ (NestedKey.tup ks).depth ≤ 8 := by
  unfold isTK at h
  split at h
  · rename_i ks e
    exact ⟨ks, e, of_decide_eq_true h⟩
  · cases h
def tupK (ds : List D) : Bool := ds.all fun e => isTK (keyD e)
def dfind (k : D) (ds : List D) : Option D := (ds.find? fun e => decide (nk (keyD e) = nk k)).map valD
def dput (k v : D) (ds : List D) : List D := if (ds.any fun e => decide (nk (keyD e) = nk k)) = true then ds.map (fun e => if nk (keyD e) = nk k then .tup [keyD e, v] else e) else ds ++ [.tup [k, v]]
section
variable (K : PySem.W.Frag)
/-- entries, as the library tells them -/
def DX (H : Hp) (al : Addr → Prop) : List D → List (NestedKey × Addr × Value) → Prop
  | [], xs => xs = []
  | d :: ds, xs => ∃ k v q a u r vv, d = .tup [k, v] ∧ xs = (q, a, u) :: r ∧ (nk k = some q ∧ q.depth ≤ 8) ∧ Rep K H al k (.ref a) ∧ RelV vv u ∧ Rep K H al v vv ∧ DX H al ds r
end
section
variable {K : PySem.W.Frag} {H : Hp} {al : Addr → Prop} {P : Program} {w : World}
theorem isTK_ref {k : D} {v : V} (h : isTK k = true) (r : Rep K H al k v) : ∃ a, v = .ref a := by
  obtain ⟨ks, e, _⟩ := isTK_at h
  cases k with
  | tup ds => obtain ⟨a, vs, rfl, _⟩ := r; exact ⟨a, rfl⟩
  | tux ds => obtain ⟨a, vs, rfl, _⟩ := r; exact ⟨a, rfl⟩
  | non => cases e
  | int i => cases e
  | _ => cases e
theorem ent_dx : ∀ {ds : List D} {es : List DictEntry}, DEnt K H al ds es → tupK ds = true → ∃ xs, es = xs.map (entryOfKey (nestedKind P w)) ∧ DX K H al ds xs
  | [], es, h, _ => ⟨[], h, rfl⟩
  | d :: ds, es, h, ht => by
    obtain ⟨k, v, q, e, r, kv, vv, rfl, rfl, hq, hh, rk, rv, r1, r2, h9⟩ := h
    unfold tupK at ht
    rw [List.all_cons, Bool.and_eq_true] at ht
    obtain ⟨xs, rfl, hx⟩ := ent_dx h9 ht.2
    obtain ⟨a, rfl⟩ := isTK_ref (k := k) ht.1 r1
    have ek : e.key = .ref a := rk
    refine ⟨(q, a, e.val) :: xs, ?_, k, v, q, a, e.val, xs, vv, rfl, rfl, hq, r1, rv, r2, hx⟩
    rw [List.map_cons]
    refine congrArg (· :: _) ?_
    show e = ⟨q.hash w, .ref a, e.val⟩
    rw [hash0_eq w k q hq.1, ← hh, ← ek]
theorem dx_ent : ∀ {ds : List D} {xs : List (NestedKey × Addr × Value)}, DX K H al ds xs → DEnt K H al ds (xs.map (entryOfKey (nestedKind P w)))
  | [], xs, h => by rw [show xs = [] from h]; rfl
  | d :: ds, xs, h => by
    obtain ⟨k, v, q, a, u, r, vv, rfl, rfl, hq, r1, rv, r2, h9⟩ := h
    exact ⟨k, v, q, _, _, .ref a, vv, rfl, rfl, hq, hash0_eq w k q hq.1, rfl, rv, r1, r2, dx_ent h9⟩
theorem DX.keys : ∀ {ds : List D} {xs : List (NestedKey × Addr × Value)}, DX K H al ds xs → (ds.map fun e => nk (keyD e)) = xs.map fun x => some x.1
  | [], xs, h => by rw [show xs = [] from h]; rfl
  | d :: ds, xs, h => by
    obtain ⟨k, v, q, a, u, r, vv, rfl, rfl, hq, r1, rv, r2, h9⟩ := h
    rw [List.map_cons, List.map_cons, DX.keys h9]
    show nk k :: _ = some q :: _
    rw [hq.1]
theorem nod_some {xs : List (NestedKey × Addr × Value)} (h : (xs.map fun x => some x.1).Nodup) : (xs.map (·.1)).Nodup := by
  unfold List.Nodup at *
  rw [List.pairwise_map] at *
  exact h.imp fun z e => z (congrArg some e)
theorem nod_of {xs : List (NestedKey × Addr × Value)} (h : (xs.map (·.1)).Nodup) : (xs.map fun x => some x.1).Nodup := by
  unfold List.Nodup at *
  rw [List.pairwise_map] at *
  exact h.imp fun z e => z (Option.some.inj e)
theorem DX.len : ∀ {ds : List D} {xs : List (NestedKey × Addr × Value)}, DX K H al ds xs → xs.length = ds.length
  | [], xs, h => by rw [show xs = [] from h]; rfl
  | d :: ds, xs, h => by
    obtain ⟨k, v, q, a, u, r, vv, rfl, rfl, hq, r1, rv, r2, h9⟩ := h
    rw [List.length_cons, List.length_cons, DX.len h9]
/-- what is found at a key -/
theorem DX.find {k : D} {q : NestedKey} (hk : nk k = some q) : ∀ {ds : List D} {xs : List (NestedKey × Addr × Value)}, DX K H al ds xs → (dfind k ds = none ∧ atKey xs q = none) ∨ ∃ v a u vv, dfind k ds = some v ∧ atKey xs q = some (a, u) ∧ RelV vv u ∧ Rep K H al v vv
  | [], xs, h => by rw [show xs = [] from h]; exact .inl ⟨rfl, rfl⟩
  | d :: ds, xs, h => by
    obtain ⟨k', v, q', a, u, r, vv, rfl, rfl, hq, r1, rv, r2, h9⟩ := h
    by_cases e : q' = q
    · subst e
      refine .inr ⟨v, a, u, vv, ?_, by simp [atKey], rv, r2⟩
      unfold dfind
      rw [List.find?_cons_of_pos (by show decide (nk k' = nk k) = true; rw [hq.1, hk]; simp)]
      rfl
    · have ih := DX.find hk h9
      have e1 : dfind k (.tup [k', v] :: ds) = dfind k ds := by
        unfold dfind
        rw [List.find?_cons_of_neg (by show ¬ decide (nk k' = nk k) = true; rw [hq.1, hk]; simpa using e)]
      have e2 : atKey ((q', a, u) :: r) q = atKey r q := by
        unfold atKey
        rw [List.find?_cons_of_neg (by simpa using e)]
      rw [e1, e2]
      exact ih
end
end Y

namespace Y
open PySem L2 PyProof.Rows
/-! ### k in d, d[k], d[k] = v: dicts of the store whose keys are tuples -/
section
variable {X : Cx} {pins : List (Addr × Obj)} {σ : L2.St} {H : Hp} {s : Shared} {al : Addr → Prop}
theorem dx_is (I : Inv X pins σ H s) : ∀ {ds : List D} {xs : List (NestedKey × Addr × Value)}, DX X.K H al ds xs → ∀ x ∈ xs, (nestedKind X.prog X.w).is s.heap x.1 x.2.1
  | [], xs, h, x, hm => by rw [show xs = [] from h] at hm; cases hm
  | d :: ds, xs, h, x, hm => by
    obtain ⟨k, v, q, b, u, r, vv, rfl, rfl, hq, r1, rv, r2, h9⟩ := h
    rcases List.mem_cons.mp hm with rfl | hm
    · exact ⟨nested_is I k _ _ q r1 rfl hq.1, hq.2⟩
    · exact dx_is I h9 x hm
theorem dx_at (I : Inv X pins σ H s) {a : Addr} {ds : List D} (h : DRep X.K H al a ds) (ht : tupK ds = true) : (a == sysModules) = false ∧ ds.length ≤ sizeLine ∧ ∃ xs, s.heap.DictOfH (nestedKind X.prog X.w) a xs ∧ DX X.K H al ds xs := by
  obtain ⟨es, ep, e, he, hn⟩ := h
  obtain ⟨⟨h1, h2, o, h3, h4, h5⟩, _, _⟩ := I.hok a _ e
  obtain ⟨xs, rfl, hx⟩ := ent_dx (P := X.prog) (w := X.w) he ht
  have hl := hx.len
  rw [List.length_map] at h2
  exact ⟨h1, by omega, xs, ⟨o, _, ep, h3, h4, h5, by simp, dx_is I hx, nod_some (by rw [← hx.keys]; exact hn)⟩, hx⟩
theorem key_at (I : Inv X pins σ H s) {k : D} {v : V} {u : Value} (hk : isTK k = true) (r : Rep X.K H al k v) (ru : RelV v u) : ∃ q b, nk k = some q ∧ q.depth ≤ 8 ∧ v = .ref b ∧ u = .ref b ∧ (nestedKind X.prog X.w).is s.heap q b := by
  obtain ⟨ks, e, hd⟩ := isTK_at hk
  obtain ⟨b, rfl⟩ := isTK_ref hk r
  have : u = .ref b := ru
  subst this
  exact ⟨.tup ks, b, e, hd, rfl, rfl, nested_is I k _ _ _ r rfl e, hd⟩
end
def rDin (K : PySem.W.Frag) (neg : Bool) : R2 := fun x y H Q => ∃ (al : Addr → Prop) (a : Addr) (k : D) (ds : List D), y = .ref a ∧ DRep K H al a ds ∧ tupK ds = true ∧ isTK k = true ∧ Rep K H al k x ∧ Q (.bl (if neg = true then !(dfind k ds).isSome else (dfind k ds).isSome)) H
theorem at_some {K : PySem.W.Frag} {H : Hp} {al : Addr → Prop} {k : D} {q : NestedKey} (hk : nk k = some q) {ds : List D} {xs : List (NestedKey × Addr × Value)} (h : DX K H al ds xs) : (atKey xs q).isSome = (dfind k ds).isSome := by
  rcases h.find hk with ⟨e1, e2⟩ | ⟨v, a, u, vv, e1, e2, _⟩ <;> rw [e1, e2] <;> rfl
theorem op_din {X : Cx} (hu : X.A.units + 64 < cLine) : OpR X (compareOp .In) (rDin X.K false) := by
  intro pins s σ H x y v u Q I rx ry h
  obtain ⟨al, a, k, ds, rfl, hd, ht, hk, rk, q⟩ := h
  cases ry
  obtain ⟨hs, _, xs, hm, hx⟩ := dx_at I hd ht
  obtain ⟨qk, b, e1, _, rfl, rfl, hkey⟩ := key_at I hk rk rx
  refine wpAny_in_heap (knd := nestedKind X.prog X.w) (by show X.A.units + 1 + 8 < cLine; omega) hkey hs hm ⟨.bl _, H, I.tok _, rfl, ?_⟩
  rw [at_some e1 hx]
  exact q
theorem op_dnotin {X : Cx} (hu : X.A.units + 64 < cLine) : OpR X (compareOp .NotIn) (rDin X.K true) := by
  intro pins s σ H x y v u Q I rx ry h
  obtain ⟨al, a, k, ds, rfl, hd, ht, hk, rk, q⟩ := h
  cases ry
  obtain ⟨hs, _, xs, hm, hx⟩ := dx_at I hd ht
  obtain ⟨qk, b, e1, _, rfl, rfl, hkey⟩ := key_at I hk rk rx
  have e2 := valueAt_pairsH xs qk
  refine notIn_keyed (knd := nestedKind X.prog X.w) (kvs := pairsH xs) (by show X.A.units + 1 + 8 < cLine; omega) hkey hs ⟨xs, hm, rfl⟩ ⟨.bl _, H, I.tok _, rfl, ?_⟩
  rw [e2, Option.isSome_map, at_some e1 hx]
  exact q
/-- d[k] -/
def rDix (K : PySem.W.Frag) : R2 := fun x y H Q => ∃ (al : Addr → Prop) (a : Addr) (k v : D) (ds : List D), x = .ref a ∧ DRep K H al a ds ∧ tupK ds = true ∧ isTK k = true ∧ Rep K H al k y ∧ dfind k ds = some v ∧ ∀ vv, Rep K H al v vv → Q vv H
theorem ix_din {X : Cx} (hu : X.A.units + 64 < cLine) : IxR X (rDix X.K) := by
  intro value slice pins s σ H x y v u Q I rx ry h hs
  obtain ⟨al, a, k, z, ds, rfl, hd, ht, hk, rk, hz, q⟩ := h
  cases rx
  obtain ⟨hsm, _, xs, hm, hx⟩ := dx_at I hd ht
  obtain ⟨qk, b, e1, _, rfl, rfl, hkey⟩ := key_at I hk rk ry
  rcases hx.find e1 with ⟨f1, _⟩ | ⟨v', a', u', vv, f1, f2, rv, r2⟩
  · rw [hz] at f1; cases f1
  · rw [hz] at f1
    cases f1
    exact subscriptTail_builtinR (x := u') hm.typeIs PySem.F.slot_dict_getitem.lookup
      (wpAny_getItem_heap (knd := nestedKind X.prog X.w) (Q := fun r s' => r = u' ∧ EP X pins σ Q r s') (by show X.A.units + 1 + 8 < cLine; omega) hkey hm f2 ⟨rfl, vv, H, I.tok _, rv, q vv r2⟩) hs
/-- d[k] = v -/
theorem DX.put {K : PySem.W.Frag} {H : Hp} {al : Addr → Prop} {k v : D} {q : NestedKey} {b : Addr} {vv : V} {u : Value} (hq : nk k = some q ∧ q.depth ≤ 8) (r1 : Rep K H al k (.ref b)) (rv : RelV vv u) (r2 : Rep K H al v vv) {ds : List D} {xs : List (NestedKey × Addr × Value)} (h : DX K H al ds xs) : DX K H al (dput k v ds) (storedH xs q b u) := by
  have hany : (ds.any fun e => decide (nk (keyD e) = nk k)) = (atKey xs q).isSome := by
    rw [at_some hq.1 h]
    unfold dfind
    rw [Option.isSome_map, Bool.eq_iff_iff, List.any_eq_true, List.find?_isSome]
  unfold dput storedH
  rw [hany]
  cases e : (atKey xs q).isSome with
  | true =>
    rw [if_pos rfl, if_pos rfl]
    clear hany e
    induction ds generalizing xs with
    | nil => rw [show xs = [] from h]; rfl
    | cons d ds ih =>
      obtain ⟨k', v', q', a, u', r, vv', rfl, rfl, hq', s1, sv, s2, h9⟩ := h
      have ih := ih h9
      rw [List.map_cons, List.map_cons]
      by_cases e : q' = q
      · subst e
        have e1 : nk (keyD (.tup [k', v'])) = nk k := hq'.1.trans hq.1.symm
        rw [if_pos e1]
        refine ⟨k', v, q', a, u, _, vv, rfl, ?_, hq', s1, rv, r2, ih⟩
        simp [putAt]
      · have e1 : ¬ nk (keyD (.tup [k', v'])) = nk k := fun z => e (Option.some.inj (hq'.1.symm.trans (z.trans hq.1)))
        rw [if_neg e1]
        refine ⟨k', v', q', a, u', _, vv', rfl, ?_, hq', s1, sv, s2, ih⟩
        simp [putAt, e]
  | false =>
    rw [if_neg Bool.false_ne_true, if_neg Bool.false_ne_true]
    clear hany e
    induction ds generalizing xs with
    | nil =>
      rw [show xs = [] from h]
      exact ⟨k, v, q, b, u, [], vv, rfl, rfl, hq, r1, rv, r2, rfl⟩
    | cons d ds ih =>
      obtain ⟨k', v', q', a, u', r, vv', rfl, rfl, hq', s1, sv, s2, h9⟩ := h
      exact ⟨k', v', q', a, u', _, vv', rfl, rfl, hq', s1, sv, s2, ih h9⟩
def rDset (K : PySem.W.Frag) : TSet := fun o i v H Q => ∃ (al : Addr → Prop) (a : Addr) (k z : D) (ds : List D), o = .ref a ∧ DRep K H al a ds ∧ tupK ds = true ∧ isTK k = true ∧ Rep K H al k i ∧ Rep K H al z v ∧ ds.length < cap ∧
  ∀ es ep, DEnt K H al (dput k z ds) es → NodK (dput k z ds) → Q (upd H a (DkO a es ep))
theorem set_din {X : Cx} (hu : X.A.units + 64 < cLine) : PSet X (rDset X.K) := by
  intro pins s σ H o i v ov iv u Q I ro ri rv h
  obtain ⟨al, a, k, z, ds, rfl, hd, ht, hk, rk, rz, hl, q⟩ := h
  cases ro
  obtain ⟨hsm, hsz, xs, hm, hx⟩ := dx_at I hd ht
  obtain ⟨qk, b, e1, e2, rfl, rfl, hkey⟩ := key_at I hk rk ri
  have hxl := hx.len
  have hp := hx.put ⟨e1, e2⟩ rk rv rz
  have hpl := storedH_length xs qk b u
  have hcap : cap < sizeLine := by unfold cap; rw [sizeLine_eq]; omega
  refine wpAny_setItem_heap (knd := nestedKind X.prog X.w) (hsz := by omega) (by show X.A.units + 1 + 8 < cLine; omega) hkey hm fun h' hm' hs' => ?_
  obtain ⟨o', es, ep, ho', hex, hdat, hes, his, hnd⟩ := hm'
  refine ⟨upd H a (DkO a es.toList ep), ?_, q es.toList ep (by rw [hes]; exact dx_ent hp) (by unfold NodK; rw [hp.keys]; exact nod_of hnd)⟩
  obtain ⟨es0, ep0, e0, _⟩ := hd
  have hesl : es.toList.length = (storedH xs qk b u).length := by rw [hes, List.length_map]
  refine I.write (x := a) (e := a) (by rw [e0]; trivial) (.inl rfl) (fun c o hc e => (hs'.2 c hc).trans e) ⟨o', ho'⟩ ?_
  exact ⟨⟨hsm, by omega, o', ho', hex, by rw [hdat]⟩, ⟨o', ho'⟩, fun h1 h2 ⟨p1, p2, ob, p3, p4, p5⟩ k => ⟨p1, p2, ob, k ob p3, p4, p5⟩⟩
end Y

namespace Y
open PySem L2 PyProof.Rows
/-! ### what a run does with a dict of the store: in, get, set -/
section
variable {K : PySem.W.Frag} {mg : Str → Option Value} {E : XK} {w w' : Wd} {s : Sto}
/-- a dict of the store is changed -/
def Wd.putD (w : Wd) (n : Nat) (p : Addr) (ds : List D) (es : List DictEntry) (ep : Nat) : Wd := { w with H := upd w.H p (DkO p es ep), st := w.st.set n (some ds) }
theorem gd_putD (ok : Ok K w) {n : Nat} {p : Addr} {ds0 ds : List D} {es : List DictEntry} {ep : Nat} (h1 : w.hs[n]? = some p) (h2 : w.st[n]? = some (some ds0)) (hdk : w.dk p) (r : DEnt K w.H w.al ds es) (nod : NodK ds) : Gd K w (w.st.set n (some ds)) (w.putD n p ds es ep) := by
  have hh : w.hot p := ⟨n, ds0, h1, h2⟩
  have hot : ∀ a, (w.putD n p ds es ep).hot a → w.hot a := by
    rintro a ⟨m, us, q1, q2⟩
    have q2' : (w.st.set n (some ds))[m]? = some (some us) := q2
    by_cases hm : n = m
    · subst hm
      have q1' : w.hs[n]? = some a := q1
      exact ⟨n, ds0, q1', h2⟩
    · rw [List.getElem?_set_ne hm] at q2'
      exact ⟨m, us, q1, q2'⟩
  have x : Nxt w (w.putD n p ds es ep) := ⟨fun a u h na => by
      show upd w.H p _ a = some u
      exact upd_off h fun z => na (.inl (by rw [z]; exact hh)), ⟨[], by simp [Wd.putD]⟩, fun a h => by
      rcases h with h | h
      · exact .inl (.inl (hot a h))
      · exact .inl (.inr h), fun _ _ => Iff.rfl, fun _ h => upd_lv h⟩
  refine ⟨⟨x, rfl, fun a u g h => ?_⟩, rfl, ?_, ok.nd, fun m a us q1 q2 hd => ?_, fun m a us q1 q2 hd => ?_, ok.dkh, fun a h => ?_, fun a h => ?_⟩
  · show upd w.H p _ a = some u
    exact upd_off h fun z => (ok.gst a g).1 (by rw [z]; exact ok.hotT hh)
  · show w.hs.length = (w.st.set n (some ds)).length
    rw [List.length_set]
    exact ok.len
  · have q1' : w.hs[m]? = some a := q1
    have q2' : (w.st.set n (some ds))[m]? = some (some us) := q2
    have hd' : ¬ w.dk a := hd
    have hap : a ≠ p := fun z => hd' (z ▸ hdk)
    have hm : n ≠ m := fun z => by subst z; rw [h1] at q1'; exact hap (Option.some.inj q1').symm
    rw [List.getElem?_set_ne hm] at q2'
    obtain ⟨zs, e, q⟩ := ok.cell m a us q1' q2' hd'
    refine ⟨zs, ?_, q.nxt x ok⟩
    show upd w.H p _ a = _
    exact upd_off e hap
  · have q1' : w.hs[m]? = some a := q1
    have q2' : (w.st.set n (some ds))[m]? = some (some us) := q2
    have hd' : w.dk a := hd
    by_cases hm : n = m
    · subst hm
      rw [h1] at q1'
      cases q1'
      rw [List.getElem?_set_self (List.getElem?_eq_some_iff.mp h2).1] at q2'
      cases q2'
      exact ⟨es, ep, upd_same, r.nxt x ok, nod⟩
    · have hap : a ≠ p := fun z => hm (nd_get ok.nd h1 (by rw [← z]; exact q1'))
      rw [List.getElem?_set_ne hm] at q2'
      exact (ok.celd m a us q1' q2' hd').lay (fun u e => by show upd w.H p _ a = _; exact upd_off e hap) fun es z => z.nxt x ok
  · show upd w.H p _ a ≠ none
    by_cases ha : a = p
    · rw [ha, upd_same]; exact fun z => nomatch z
    · rw [upd_ne ha]
      exact ok.trk a h
  · obtain ⟨q1, us, e⟩ := ok.gst a h
    refine ⟨q1, us, ?_⟩
    show upd w.H p _ a = _
    exact upd_off e fun z => q1 (by rw [z]; exact ok.hotT hh)
/-- the entries of a dict of the store, its keys tuples -/
def dOf (s : Sto) : W → Option (List D)
  | .k n => match s[n]? with
    | some (some ds) => if tupK ds = true then some ds else none
    | _ => none
  | _ => none
theorem dOf_k {s : Sto} {b : W} {ds : List D} (h : dOf s b = some ds) : ∃ n, b = .k n ∧ s[n]? = some (some ds) ∧ tupK ds = true := by
  cases b with
  | k n =>
    cases e : s[n]? with
    | none => simp only [dOf, e] at h; cases h
    | some z =>
      cases z with
      | none => simp only [dOf, e] at h; cases h
      | some es =>
        simp only [dOf, e] at h
        by_cases ht : tupK es = true
        · rw [if_pos ht] at h
          cases h
          exact ⟨n, rfl, e, ht⟩
        · rw [if_neg ht] at h; cases h
  | _ => cases h
theorem dOf_rep (ok : Ok K w) {b : W} {v : V} {ds : List D} (h : dOf w.st b = some ds) (r : RepW K w b v) : ∃ a, v = .ref a ∧ DRep K w.H w.al a ds ∧ tupK ds = true := by
  obtain ⟨n, rfl, e, ht⟩ := dOf_k h
  obtain ⟨a, h1, rfl, hd⟩ := r
  exact ⟨a, rfl, ok.celd n a ds h1 e hd, ht⟩
def fDin (neg : Bool) : Sto → W → W → Option W := fun s a b => match a, dOf s b with
  | .d x, some ds => if isTK x = true then some (.d (.bl (if neg = true then !(dfind x ds).isSome else (dfind x ds).isSome))) else none
  | _, _ => none
theorem sem_din {neg : Bool} : SemR2 K (rDin K neg) (opt2 (fDin neg)) := sem2 fun w a b x y z ok ra rb h Q q => by
  unfold fDin at h
  split at h
  · rename_i d ds hb
    split at h
    · rename_i hc
      cases h
      obtain ⟨p, rfl, h1, ht⟩ := dOf_rep ok hb rb
      exact ⟨w.al, p, d, ds, rfl, h1, ht, hc, ra, pw_d (d := .bl _) ok rfl q⟩
    · cases h
  · cases h
def fDix : Sto → W → W → Option W := fun s a b => match dOf s a, b with
  | some ds, .d k => if isTK k = true then (match dfind k ds with
    | some v => some (.d v)
    | none => none) else none
  | _, _ => none
theorem sem_dix : SemR2 K (rDix K) (opt2 fDix) := sem2 fun w a b x y z ok ra rb h Q q => by
  unfold fDix at h
  split at h
  · rename_i ds k ha
    split at h
    · rename_i hc
      split at h
      · rename_i v hv
        cases h
        obtain ⟨p, rfl, h1, ht⟩ := dOf_rep ok ha ra
        exact ⟨w.al, p, k, v, ds, rfl, h1, ht, hc, rb, hv, fun vv rv => pw_d ok rv q⟩
      · cases h
    · cases h
  · cases h
/-- d[i] = e -/
def gPutD (o i x : W) : M Unit := fun s => match o, i, x with
  | .k n, .d k, .d y => (match dOf s (.k n) with
    | some ds => if isTK k = true ∧ ds.length < cap then .ok () (s.set n (some (dput k y ds))) else .bad
    | none => .bad)
  | _, _, _ => .bad
def putDS (F O I : Loc → M W) : Loc → M (Loc × Fl) := fun ρ => M.bnd (F ρ) fun x => M.bnd (O ρ) fun o => M.bnd (I ρ) fun i => M.bnd (gPutD o i x) fun _ => nxt ρ
theorem es_putD {te to ti : TE} {F O I : Loc → M W} (ha : EvE K mg E te F) (ho : EvE K mg E to O) (hi : EvE K mg E ti I) : EvS K mg E (tAsg te (gSub to ti (rDset K))) (putDS F O I) := by
  intro σ ρ w ok r D h
  refine ev1 ha ok r h fun x v w1 g1 ok1 r1 rv h1 => ?_
  refine ev1 ho ok1 r1 h1 fun y u w2 g2 ok2 r2 ru h2 => ?_
  refine ev1 hi ok2 r2 h2 fun z t w3 g3 ok3 r3 rt h3 => ?_
  rw [sat_bnd] at h3
  have ru3 := ru.nxt g3.stp.toNxt ok2
  have rv3 := (rv.nxt g2.stp.toNxt ok1).nxt g3.stp.toNxt ok2
  unfold gPutD at h3
  split at h3
  · rename_i n k d
    split at h3
    · rename_i ds hds
      split at h3
      · rename_i hc
        obtain ⟨m, e, hs, ht⟩ := dOf_k hds
        cases e
        obtain ⟨a, ea, rfl, hd⟩ := ru3
        have hr := ok3.celd n a ds ea hs hd
        refine ⟨w3.al, a, k, d, ds, rfl, hr, ht, hc.1, rt, rv3, hc.2, fun es ep he hn => ?_⟩
        have gp := gd_putD (ep := ep) ok3 ea hs hd he hn
        exact h3 σ _ (((g1.trans g2).trans g3).trans gp) (r3.nxt gp.stp.toNxt ok3)
      · exact h3.elim
    · exact h3.elim
  · exact h3.elim
/-! what the results of these are -/
theorem dOf_mk {s : Sto} {n : Nat} {ds : List D} (h : s[n]? = some (some ds)) (ht : tupK ds = true) : dOf s (.k n) = some ds := by
  show (match s[n]? with
    | some (some ds) => if tupK ds = true then some ds else none
    | _ => none) = _
  rw [h]
  exact if_pos ht
theorem o_din {neg : Bool} {k : D} {n : Nat} {ds : List D} {s : Sto} (h : s[n]? = some (some ds)) (ht : tupK ds = true) (hk : isTK k = true) : opt2 (fDin neg) (.d k) (.k n) s = .ok (.d (.bl (if neg = true then !(dfind k ds).isSome else (dfind k ds).isSome))) s := by
  have e : fDin neg s (.d k) (.k n) = some (.d (.bl (if neg = true then !(dfind k ds).isSome else (dfind k ds).isSome))) := by
    unfold fDin
    rw [dOf_mk h ht]
    exact if_pos hk
  unfold opt2
  rw [e]
theorem o_dix {k v : D} {n : Nat} {ds : List D} {s : Sto} (h : s[n]? = some (some ds)) (ht : tupK ds = true) (hk : isTK k = true) (hv : dfind k ds = some v) : opt2 fDix (.k n) (.d k) s = .ok (.d v) s := by
  have e : fDix s (.k n) (.d k) = some (.d v) := by
    unfold fDix
    rw [dOf_mk h ht]
    show (if isTK k = true then (match dfind k ds with
      | some v => some (W.d v)
      | none => none) else none) = _
    rw [if_pos hk, hv]
  unfold opt2
  rw [e]
theorem o_dput {k v : D} {n : Nat} {ds : List D} {s : Sto} (h : s[n]? = some (some ds)) (ht : tupK ds = true) (hk : isTK k = true) (hl : ds.length < cap) : gPutD (.k n) (.d k) (.d v) s = .ok () (s.set n (some (dput k v ds))) := by
  unfold gPutD
  show (match dOf s (.k n) with
    | some ds => if isTK k = true ∧ ds.length < cap then Res.ok () (s.set n (some (dput k v ds))) else .bad
    | none => .bad) = _
  rw [dOf_mk h ht]
  exact if_pos ⟨hk, hl⟩
end
end Y

namespace Y
open PySem L2 PyProof.Rows
/-! ### new dicts: {} and {k: v} -/
section
variable {K : PySem.W.Frag} {mg : Str → Option Value} {E : XK} {w w' : Wd} {s : Sto}
/-- a new dict of the store -/
def Wd.hndD (w : Wd) (p : Addr) : Wd := { w with H := upd w.H p (DkO p [] 0), hs := w.hs ++ [p], st := w.st ++ [some []], dk := fun a => w.dk a ∨ a = p }
theorem gd_hndD (ok : Ok K w) {p : Addr} (hp : w.H p = none) : Gd K w (w.st ++ [some []]) (w.hndD p) := by
  have hph : p ∉ w.hs := fun h => ok.trk p h hp
  have hot : ∀ a, (w.hndD p).hot a → w.hot a ∨ a = p := by
    rintro a ⟨n, es, h1, h2⟩
    have h1' : (w.hs ++ [p])[n]? = some a := h1
    have h2' : (w.st ++ [some []])[n]? = some (some es) := h2
    by_cases hn : n < w.hs.length
    · rw [List.getElem?_append_left hn] at h1'
      rw [List.getElem?_append_left (by rw [← ok.len]; exact hn)] at h2'
      exact .inl ⟨n, es, h1', h2'⟩
    · rw [List.getElem?_append_right (by omega)] at h1'
      have : n - w.hs.length = 0 := by
        have := (List.getElem?_eq_some_iff.mp h1').1
        simp at this
        omega
      rw [this] at h1'
      simp at h1'
      exact .inr h1'.symm
  have x : Nxt w (w.hndD p) := ⟨fun a u h _ => by
      show upd w.H p _ a = some u
      rw [upd_ne (ne_of_none h hp)]
      exact h, ⟨[p], rfl⟩, fun a h => by
      rcases h with h | h
      · rcases hot a h with h | h
        · exact .inl (.inl h)
        · rw [h]; exact .inr hp
      · exact .inl (.inr h), fun a ha => ⟨fun z => z.elim id fun z => absurd (z ▸ hp) ha, fun z => .inl z⟩, fun _ h => upd_lv h⟩
  refine ⟨⟨x, rfl, fun a u _ h => ?_⟩, rfl, ?_, ?_, fun n a es h1 h2 hd => ?_, fun n a es h1 h2 hd => ?_, fun a h => ?_, fun a h => ?_, fun a h => ?_⟩
  · show upd w.H p _ a = some u
    rw [upd_ne (ne_of_none h hp)]
    exact h
  · show (w.hs ++ [p]).length = (w.st ++ [some []]).length
    simp [ok.len]
  · show (w.hs ++ [p]).Nodup
    rw [List.nodup_append]
    refine ⟨ok.nd, by simp, fun a ha b hb => ?_⟩
    simp at hb
    rw [hb]
    rintro rfl
    exact hph ha
  · have h1' : (w.hs ++ [p])[n]? = some a := h1
    have h2' : (w.st ++ [some []])[n]? = some (some es) := h2
    have hd' : ¬ (w.dk a ∨ a = p) := hd
    by_cases hn : n < w.hs.length
    · rw [List.getElem?_append_left hn] at h1'
      rw [List.getElem?_append_left (by rw [← ok.len]; exact hn)] at h2'
      obtain ⟨us, e, q⟩ := ok.cell n a es h1' h2' fun z => hd' (.inl z)
      refine ⟨us, ?_, q.nxt x ok⟩
      show upd w.H p _ a = _
      rw [upd_ne (ne_of_none e hp)]
      exact e
    · rw [List.getElem?_append_right (by omega)] at h1'
      have : n - w.hs.length = 0 := by
        have := (List.getElem?_eq_some_iff.mp h1').1
        simp at this
        omega
      rw [this] at h1'
      simp at h1'
      exact absurd (.inr h1'.symm) hd'
  · have h1' : (w.hs ++ [p])[n]? = some a := h1
    have h2' : (w.st ++ [some []])[n]? = some (some es) := h2
    have hd' : w.dk a ∨ a = p := hd
    by_cases hn : n < w.hs.length
    · rw [List.getElem?_append_left hn] at h1'
      rw [List.getElem?_append_left (by rw [← ok.len]; exact hn)] at h2'
      have hd2 : w.dk a := hd'.elim id fun z => absurd (z ▸ List.mem_of_getElem? h1') hph
      exact (ok.celd n a es h1' h2' hd2).lay (fun u e => by show upd w.H p _ a = _; rw [upd_ne (ne_of_none e hp)]; exact e) fun es z => z.nxt x ok
    · rw [List.getElem?_append_right (by omega)] at h1'
      rw [List.getElem?_append_right (by rw [← ok.len]; omega), ← ok.len] at h2'
      have : n - w.hs.length = 0 := by
        have := (List.getElem?_eq_some_iff.mp h1').1
        simp at this
        omega
      rw [this] at h1' h2'
      simp at h1' h2'
      subst h1' h2'
      exact ⟨[], 0, upd_same, rfl, List.nodup_nil⟩
  · have h' : w.dk a ∨ a = p := h
    rcases h' with h' | h'
    · exact List.mem_append_left _ (ok.dkh a h')
    · exact List.mem_append_right _ (by simp [h'])
  · have h' : a ∈ w.hs ++ [p] := h
    show upd w.H p _ a ≠ none
    by_cases ha : a = p
    · rw [ha, upd_same]; exact fun z => nomatch z
    · rw [upd_ne ha]
      refine ok.trk a ?_
      simpa [ha] using h'
  · obtain ⟨h1, us, e⟩ := ok.gst a h
    refine ⟨fun z => ?_, us, ?_⟩
    · have z' : a ∈ w.hs ++ [p] := z
      rcases List.mem_append.mp z' with z' | z'
      · exact h1 z'
      · simp at z'
        rw [z', hp] at e
        cases e
    · show upd w.H p _ a = _
      rw [upd_ne (ne_of_none e hp)]
      exact e
theorem rep_hndD (ok : Ok K w) {p : Addr} : RepW K (w.hndD p) (.k w.st.length) (.ref p) :=
  ⟨p, by show (w.hs ++ [p])[w.st.length]? = some p; rw [← ok.len]; simp, rfl, .inr rfl⟩
/-- {} -/
def tDNew : TE := fun _ H Q => ∀ p, H p = none → Q (.ref p) (upd H p (DkO p [] 0))
def newD : Loc → M W := fun _ s => .ok (.k s.length) (s ++ [some []])
theorem ev_dnew : EvE K mg E tDNew newD := by
  intro σ ρ w ok r Q h p hp
  exact h _ _ (gd_hndD ok hp) (rep_hndD ok)
end
section
variable {X : Cx} {pos : Pos}
theorem dk_new {P : Program} {w : World} {H : Hp} (h : Heap) (hb : sysModules < h.objs.size) : ObjOk P w H (h.push { cls := .type "dict", data := .dict #[] }) h.objs.size (DkO h.objs.size [] 0) :=
  ⟨⟨beq_eq_false_iff_ne.mpr (Ne.symm (Nat.ne_of_lt hb)), Nat.zero_le _, _, Heap.get?_push_size _ rfl, ⟨rfl, rfl, rfl⟩, rfl⟩, ⟨_, Heap.get?_push_size _ rfl⟩, fun h1 h2 ⟨p1, p2, ob, p3, p4, p5⟩ k => ⟨p1, p2, ob, k ob p3, p4, p5⟩⟩
theorem pe_dnew : PE X (.Dict [] [] pos) tDNew := ⟨fun pins s σ H Q I h =>
  wpAny_Dict_empty ⟨.ref s.heap.objs.size, _, I.laid (a := s.heap.objs.size) (o := DkO s.heap.objs.size [] 0) (t' := s.toks) (fun _ _ q => Heap.get?_push_of_some _ q) (Nat.le_refl _) (dk_new s.heap I.big), rfl, h _ (I.hok.fresh (Nat.le_refl _))⟩⟩
end
end Y

namespace Y
open PySem L2 PyProof.Rows
/-! ### {k: v}, the key a tuple -/
def tDOne (K : PySem.W.Frag) (tk tv : TE) : TE := fun σ H Q => ∀ p, H p = none → tk σ (upd H p (DkO p [] 0)) fun x H1 => tv σ H1 fun y H2 => ∃ (al : Addr → Prop) (k z : D), DRep K H2 al p [] ∧ isTK k = true ∧ Rep K H2 al k x ∧ Rep K H2 al z y ∧
  ∀ es ep, DEnt K H2 al [.tup [k, z]] es → NodK [.tup [k, z]] → Q (.ref p) (upd H2 p (DkO p es ep))
theorem pe_done {X : Cx} {ke ve : Expr} {pos : Pos} {tk tv : TE} (hu : X.A.units + 64 < cLine) (hk : PE X ke tk) (hv : PE X ve tv) : PE X (.Dict [some ke] [ve] pos) (tDOne X.K tk tv) := by
  refine ⟨fun pins s σ H Q I q => ?_⟩
  have hn := I.hok.fresh (Nat.le_refl s.heap.objs.size)
  have I1 := I.laid (a := s.heap.objs.size) (o := DkO s.heap.objs.size [] 0) (h' := s.heap.push { cls := .type "dict", data := .dict #[] }) (t' := s.toks) (fun _ _ q => Heap.get?_push_of_some _ q) (Nat.le_refl _) (dk_new s.heap I.big)
  have hlen : (pairTrees [some ke] [ve] X.env pos).length = 1 := rfl
  rw [arm_eval_Dict, zip_pairTrees [some ke] [ve] X.env pos rfl rfl, dictDisplay_pairs _ (fun e => by rw [e] at hlen; cases hlen) (by omega)]
  refine wpAny_bind (wpAny_standAt (wpAny_bind (wpAny_subDictH (knd := nestedKind X.prog X.w) (Q := fun d s' => wpAny (model X.prog X.w) X.A (pure (Value.ref d)) (EP X pins σ Q) X.xe s') (by show X.A.units + 8 < cLine; omega) (by omega) ?_)))
  refine pairTrees_cons_walk (thn (hk.run pins _ σ _ _ I1 (q _ hn)) fun u s1 ⟨x, H1, I2, rx, q1⟩ => thn (hv.run pins s1 σ H1 _ I2 q1) fun w2 s2 ⟨y, H2, I3, ry, q2⟩ => pairTrees_nil_walk ?_)
  obtain ⟨al, k, z, hd, hkk, rk, rz, q3⟩ := q2
  obtain ⟨hsm, _, xs, hm, hx⟩ := dx_at I3 hd rfl
  obtain rfl : xs = [] := hx
  obtain ⟨qk, b, e1, e2, rfl, rfl, hkey⟩ := key_at I3 hkk rk rx
  have hp := DX.put (ds := []) (xs := []) (K := X.K) (H := H2) (al := al) ⟨e1, e2⟩ rk ry rz rfl
  refine ⟨[(qk, b, w2)], ⟨rfl, rfl, hkey, trivial⟩, hm, fun h' tk hm' hs' => wpAny_pure ?_⟩
  have hm2 : h'.DictOfH (nestedKind X.prog X.w) s.heap.objs.size [(qk, b, w2)] := hm'
  obtain ⟨o', es, ep, ho', hex, hdat, hes, his, hnd⟩ := hm2
  obtain ⟨es0, ep0, e0, _⟩ := hd
  have hesl : es.toList.length = 1 := by rw [hes, List.length_map]; rfl
  refine ⟨.ref s.heap.objs.size, upd H2 s.heap.objs.size (DkO s.heap.objs.size es.toList ep), ?_, rfl, q3 es.toList ep (by rw [hes]; exact dx_ent hp) (by unfold NodK; simp)⟩
  refine I3.write (x := s.heap.objs.size) (e := s.heap.objs.size) (by rw [e0]; trivial) (.inl rfl) (fun c o hc e => (hs'.2 c hc).trans e) ⟨o', ho'⟩ ?_
  exact ⟨⟨hsm, by rw [hesl, sizeLine_eq]; omega, o', ho', hex, by rw [hdat]⟩, ⟨o', ho'⟩, fun h1 h2 ⟨p1, p2, ob, p3, p4, p5⟩ k => ⟨p1, p2, ob, k ob p3, p4, p5⟩⟩
section
variable {K : PySem.W.Frag} {mg : Str → Option Value} {E : XK} {w w' : Wd} {s : Sto}
def gOne (n : Nat) (x y : W) : M W := fun s => match x, y with
  | .d k, .d z => (match s[n]? with
    | some (some []) => if isTK k = true then .ok (.k n) (s.set n (some [.tup [k, z]])) else .bad
    | _ => .bad)
  | _, _ => .bad
def dOne (F G : Loc → M W) : Loc → M W := fun ρ s => M.bnd (F ρ) (fun x => M.bnd (G ρ) fun y => gOne s.length x y) (s ++ [some []])
theorem ev_done {tk tv : TE} {F G : Loc → M W} (hk : EvE K mg E tk F) (hv : EvE K mg E tv G) : EvE K mg E (tDOne K tk tv) (dOne F G) := by
  intro σ ρ w ok r Q h p hp
  have g0 := gd_hndD ok hp
  have r0 : RepW K (w.hndD p) (.k w.st.length) (.ref p) := rep_hndD ok
  have h0 : (M.bnd (F ρ) (fun x => M.bnd (G ρ) fun y => gOne w.st.length x y) (w.hndD p).st).sat (PW K w Q) (EOk K mg E (w.hndD p)) := h.mono (fun _ _ z => z) fun _ _ z => z.of g0
  refine ev1 hk g0.ok (r.nxt g0.stp.toNxt ok) h0 fun x v w1 g1 ok1 r1 rv h1 => ?_
  refine ev1 hv ok1 r1 h1 fun y u w2 g2 ok2 r2 ru h2 => ?_
  have rk := (r0.nxt g1.stp.toNxt g0.ok).nxt g2.stp.toNxt ok1
  have rv2 := rv.nxt g2.stp.toNxt ok1
  unfold gOne at h2
  split at h2
  · rename_i k z
    split at h2
    · rename_i hs
      split at h2
      · rename_i hc
        obtain ⟨a, ea, e, hd⟩ := rk
        cases e
        refine ⟨w2.al, k, z, ok2.celd _ _ _ ea hs hd, hc, rv2, ru, fun es ep he hn => ?_⟩
        have gp := gd_putD (ep := ep) ok2 ea hs hd he hn
        exact h2 (.ref p) _ (((g0.trans g1).trans g2).trans gp) ⟨p, ea, rfl, hd⟩
      · exact h2.elim
    · exact h2.elim
  · exact h2.elim
theorem e_done {F G : Loc → M W} {ρ : Loc} {k z : D} {s : Sto} (h1 : F ρ (s ++ [some []]) = .ok (.d k) (s ++ [some []])) (h2 : G ρ (s ++ [some []]) = .ok (.d z) (s ++ [some []])) (hk : isTK k = true) : dOne F G ρ s = .ok (.k s.length) (s ++ [some [.tup [k, z]]]) := by
  unfold dOne
  simp only [M.bnd, h1, h2]
  have e : (s ++ [some ([] : List D)])[s.length]? = some (some []) := by simp
  unfold gOne
  simp only [e]
  rw [if_pos hk]
  simp
end
end Y

namespace Y
open PySem L2 PyProof.Rows
/-! ### sorted(d): the keys of a dict in order -/
section
variable {prog : Program} {w : World} {A : Around} {E : Value → Shared → Prop} {s : Shared}
theorem sorted_col {β : Type} {R : Value → β → Prop} {enc : β → PyData} {t : Addr} {vs : List Value} {bs : List β} {Q : Value → Shared → Prop}
    (hcol : ∀ (E : Value → Shared → Prop) (R : List Value → Shared → Prop), (∀ (h1 : Heap) (tk : Nat), (∀ b o, s.heap.get? b = some o → h1.get? b = some o) → R vs { s with heap := h1, toks := tk }) → wpAny (model prog w) A.in1 (collect (.ref t)) R E s)
    (e : PySem.W.EachIs R vs bs) (er : PySem.W.EachIs (fun v b => ∃ as, Reads s.heap v (enc b) as) vs bs)
    (hal : PySem.W.AllAlike (bs.map enc)) (hk : PySem.W.Sortable (bs.map enc)) (hL : bs.length ≤ sizeLine) (hu : ∀ b, b ∈ bs → A.units + 2 + (enc b).depth < cLine)
    (h : ∀ (out : List Value) (h1 h' : Heap) (tk : Nat), PySem.W.EachIs R out (bs.mergeSort (PySem.W.dataLe false enc)) → (∀ b o, s.heap.get? b = some o → h1.get? b = some o) → (∀ b o, h1.get? b = some o → h'.get? b = some o) → (∃ c, h'.get? h1.objs.size = some (seqObj "list" (List.toArray out) c)) → Q (.ref h1.objs.size) { s with heap := h', toks := tk }) :
    wpAny (model prog w) A (call (.builtin "sorted") [.ref t]) Q E s := by
  have hlen := e.length
  have hL' : vs.length ≤ sizeLine := by omega
  refine Calls.call_function_entry kind_sorted plain_sorted entry_sorted (args_sorted1 _) ?_
  unfold Builtin.«sorted»
  apply wpAny_bind (m := checkCount "sorted" 1 1 _)
  apply wpAny_pure
  apply wpAny_bind
  refine hcol _ _ fun h1 tk k1 => ?_
  apply wpAny_bind
  refine wpAny_newList ?_ (by simpa using hL')
  have ha : (h1.push (seqObj "list" vs.toArray 0)).get? h1.objs.size = some (seqObj "list" vs.toArray 0) := Heap.get?_push_size _ rfl
  have k2 : ∀ b o', h1.get? b = some o' → b ≠ h1.objs.size ∧ (h1.push (seqObj "list" vs.toArray 0)).get? b = some o' := fun b o' q =>
    ⟨Nat.ne_of_lt (Heap.lt_size q), Heap.get?_push_of_some _ q⟩
  have kS : ∀ b o', s.heap.get? b = some o' → (PySem.W.sortingHeap (h1.push (seqObj "list" vs.toArray 0)) h1.objs.size vs).get? b = some o' := fun b o' q =>
    PySem.W.sortingHeap_old (k2 b o' (k1 b o' q)).1 (k2 b o' (k1 b o' q)).2
  have er' : PySem.W.EachIs (fun v b => ∃ as, Reads (PySem.W.sortingHeap (h1.push (seqObj "list" vs.toArray 0)) h1.objs.size vs) v (enc b) as) vs bs := er.mono fun _ _ ⟨as, r⟩ => ⟨as, Reads.keeps kS r⟩
  have S := PySem.W.SortsAt.data (prog := prog) (w := w) (A := A.in1.in1) (s := { s with heap := PySem.W.sortingHeap (h1.push (seqObj "list" vs.toArray 0)) h1.objs.size vs, toks := tk }) (vs := vs) (ds := bs.map enc)
    (PySem.W.each_map (R := fun v d => ∃ as, Reads (PySem.W.sortingHeap (h1.push (seqObj "list" vs.toArray 0)) h1.objs.size vs) v d as) enc er') hal hk (fun d hd => by
      obtain ⟨b, hb, rfl⟩ := List.mem_map.mp hd
      exact hu b hb)
  have hout := PySem.W.sortVals_data (h' := PySem.W.sortingHeap (h1.push (seqObj "list" vs.toArray 0)) h1.objs.size vs) false e er' hal
  obtain ⟨c, hc2⟩ := sortedHeap_at (out := (PySem.W.sortVals (PySem.W.dataKind (PySem.W.sortingHeap (h1.push (seqObj "list" vs.toArray 0)) h1.objs.size vs) (bs.map enc)) false vs vs).toArray) ha
  show wpAny _ _ _ _ _ { s with heap := h1.push (seqObj "list" vs.toArray 0), toks := tk }
  refine wpAny_bind (wpAny_holding (wpAny_call_entry slot_list_sort ⟨_, ha, rfl⟩ entry_list_sort ?_ (args_list_sort _)))
  refine PySem.W.list_sort_vals (s := { s with heap := h1.push (seqObj "list" vs.toArray 0), toks := tk }) ha S hL' ⟨_, rfl, wpAny_pure ⟨_, rfl, ?_⟩⟩
  refine h _ h1 _ tk hout k1 (fun b o' q => ?_) ⟨c, hc2⟩
  rw [sortedHeap_old (k2 b o' q).1 (Heap.lt_size (k2 b o' q).2)]
  exact (k2 b o' q).2
end
section
variable {K : PySem.W.Frag} {H : Hp} {al : Addr → Prop}
theorem dx_keys : ∀ {ds : List D} {xs : List (NestedKey × Addr × Value)}, DX K H al ds xs → ∃ qs : List (V × D), qs.map (·.2) = ds.map keyD ∧ qs.map (·.1) = (xs.map fun x => x.2.1).map V.ref ∧ ∀ q ∈ qs, Rep K H al q.2 q.1
  | [], xs, h => by
    rw [show xs = [] from h]
    exact ⟨[], rfl, rfl, fun q hq => nomatch hq⟩
  | d :: ds, xs, h => by
    obtain ⟨k, v, q, b, u, r, vv, rfl, rfl, hq, r1, rv, r2, h9⟩ := h
    obtain ⟨qs, e1, e2, h3⟩ := dx_keys h9
    refine ⟨(.ref b, k) :: qs, by rw [List.map_cons, e1]; rfl, by rw [List.map_cons, e2]; rfl, fun t ht => ?_⟩
    rcases List.mem_cons.mp ht with rfl | ht
    · exact r1
    · exact h3 t ht
end
def rSortD (K : PySem.W.Frag) : List V → Hp → VK → Prop := fun vs H Q => ∃ (al : Addr → Prop) (a : Addr) (ds : List D), vs = [.ref a] ∧ DRep K H al a ds ∧ tupK ds = true ∧ OkSort (ds.map keyD) ∧
  ∀ p us, H p = none → RepL K H al ((ds.map keyD).mergeSort leD) us → Q (.ref p) (upd H p (.lst us))
theorem cr_sortD {X : Cx} (hc : X.calm = true) (hu : X.A.units + 64 < cLine) : CallR X (.builtin "sorted") (rSortD X.K) := by
  intro pins s σ H vs us Q I r h
  obtain ⟨al, a, ds, rfl, hd, ht, hok, q⟩ := h
  rw [Vals.ref1 r]
  obtain ⟨hsm, hsz, xs, hm, hx⟩ := dx_at I hd ht
  obtain ⟨o, es, ep, ho, hex, hdt, he, his, hnd⟩ := hm
  obtain ⟨qs, q1, q2, q3⟩ := dx_keys hx
  have hl := hx.len
  have l1 : es.size = xs.length := by rw [← Array.length_toList, he, List.length_map]
  have hql : qs.length = ds.length := by rw [← List.length_map (f := fun q : V × D => q.2), q1, List.length_map]
  have rv : Vals (qs.map (·.1)) ((xs.map fun x => x.2.1).map Value.ref) := by rw [q2]; exact vals_refs _
  have hdp : ∀ t ∈ qs, Dp X.K H t.1 (toPy t.2) := fun t ht => rep_dp _ _ (q3 t ht)
  obtain ⟨e1, e2⟩ := each_dps I rv hdp
  rw [← q1] at hok
  obtain ⟨k1, k2, k3, k4⟩ := hok
  have al' : PySem.W.AllAlike (qs.map fun q => toPy q.2) := by
    intro d hd d' hd'
    obtain ⟨x, hx, rfl⟩ := List.mem_map.mp hd
    obtain ⟨y, hy, rfl⟩ := List.mem_map.mp hd'
    exact k1 x.2 (List.mem_map.mpr ⟨x, hx, rfl⟩) y.2 (List.mem_map.mpr ⟨y, hy, rfl⟩)
  have so : PySem.W.Sortable (qs.map fun q => toPy q.2) := by
    rcases k2 with k2 | k2
    · refine .inl fun d hd => ?_
      obtain ⟨x, hx, rfl⟩ := List.mem_map.mp hd
      obtain ⟨y, t, e⟩ := k2 x.2 (List.mem_map.mpr ⟨x, hx, rfl⟩)
      exact ⟨toPy y, toPys t, by rw [e]; rfl⟩
    · refine .inr fun d hd => ?_
      obtain ⟨x, hx, rfl⟩ := List.mem_map.mp hd
      have := k2 x.2 (List.mem_map.mpr ⟨x, hx, rfl⟩)
      cases e : x.2 <;> rw [e] at this <;> first | exact this.elim | exact ⟨fun z => (nomatch z), fun xs z => (nomatch z)⟩
  refine sorted_col (vs := (xs.map fun x => x.2.1).map Value.ref) (fun E R hR => ?_) e2 e1 al' so (by omega) (fun b hb => ?_) fun out h1 h' tk he' kk kk2 hp => ?_
  · refine PySem.W.kdu_collect (kdl_raw hsm hex hdt) (by show X.A.in1.handled = none; exact I.ok.hd hc) ho (by omega) fun h' tk acc hk it => ?_
    have ea : acc.toList = (xs.map fun x => x.2.1).map Value.ref := by
      have hl2 : acc.toList.length = xs.length := by rw [Array.length_toList, it.1]; exact l1
      rw [List.map_map]
      apply List.ext_getElem?
      intro j
      rw [List.getElem?_map]
      cases hj : acc.toList[j]? with
      | none =>
        have h1 := List.getElem?_eq_none_iff.mp hj
        rw [List.getElem?_eq_none (by omega)]
        all_goals rfl
      | some v =>
        obtain ⟨en, hen, hv⟩ := it.2 j v (by rw [← Array.getElem?_toList]; exact hj)
        have qe : es.toList[j]? = (xs.map (entryOfKey (nestedKind X.prog X.w)))[j]? := by rw [he]
        rw [Array.getElem?_toList, hen, List.getElem?_map] at qe
        cases hb : xs[j]? with
        | none =>
          rw [hb] at qe
          exact nomatch (show some en = none from qe)
        | some b =>
          rw [hb] at qe
          have e2 : en = entryOfKey (nestedKind X.prog X.w) b := Option.some.inj qe
          rw [hv, e2]
          all_goals rfl
    rw [ea]
    exact hR h' tk hk
  · have := k3 b.2 (List.mem_map.mpr ⟨b, hb, rfl⟩)
    omega
  · obtain ⟨c, hc⟩ := hp
    have I1 : Inv X pins σ H { s with heap := h1 } := I.kept (t' := s.toks) kk
    have es2 : (qs.mergeSort fun a b => leD a.2 b.2).map (·.2) = (ds.map keyD).mergeSort leD := by rw [← q1]; exact List.map_mergeSort fun a _ b _ => rfl
    refine ⟨.ref h1.objs.size, upd H h1.objs.size (.lst ((qs.mergeSort fun a b => leD a.2 b.2).map (·.1))), I1.laid (t' := tk) kk2 (Nat.le_refl _) ?_, rfl, q _ _ (I1.hok.fresh (Nat.le_refl _)) ?_⟩
    · refine ⟨?_, out, c, each_vals he', hc⟩
      rw [List.length_map, List.length_mergeSort]
      omega
    · rw [← es2]
      exact pairs_repL fun t ht => q3 t (List.mem_mergeSort.mp ht)
open Classical in
noncomputable def fSortD : Sto → List W → Option W := fun s xs => match xs with
  | [x] => (match dOf s x with
    | some ds => if OkSort (ds.map keyD) then some (.d (.lst ((ds.map keyD).mergeSort leD))) else none
    | none => none)
  | _ => none
section
variable {K : PySem.W.Frag} {mg : Str → Option Value} {E : XK} {w : Wd}
theorem sem_sortD : SemRL K (rSortD K) (optL fSortD) := fun w a x ok ra Q h => by
  unfold optL fSortD at h
  split at h
  · rename_i z hz
    split at hz
    · rename_i y
      split at hz
      · rename_i ds hd
        split at hz
        · rename_i hc
          cases hz
          obtain ⟨v, rfl, rv⟩ := ra.one
          obtain ⟨p, rfl, h1, ht⟩ := dOf_rep ok hd rv
          refine ⟨w.al, p, ds, rfl, h1, ht, hc, fun p' us hp r => ?_⟩
          exact pw_lst ok r h p' hp
        · cases hz
      · cases hz
    · cases hz
  · exact h.elim
theorem o_sortD {n : Nat} {ds : List D} {s : Sto} (h : s[n]? = some (some ds)) (ht : tupK ds = true) (hc : OkSort (ds.map keyD)) : optL fSortD [.k n] s = .ok (.d (.lst ((ds.map keyD).mergeSort leD))) s := by
  unfold optL fSortD
  simp only [dOf_mk h ht, if_pos hc]
end
end Y

namespace Y
open PySem L2 PyProof.Rows
/-! ### sorted(d.items()) -/
section
variable {prog : Program} {w : World} {A : Around} {E : Value → Shared → Prop} {s : Shared}
/-- sorted of what is collected, its items known only then -/
theorem sorted_col2 {β : Type} {R : Value → β → Prop} {enc : β → PyData} {t : Addr} {C : List Value → Heap → List β → Prop} {Q : Value → Shared → Prop}
    (hcol : ∀ (E : Value → Shared → Prop) (R' : List Value → Shared → Prop), (∀ (vs : List Value) (h1 : Heap) (tk : Nat) (bs : List β), C vs h1 bs → (∀ b o, s.heap.get? b = some o → h1.get? b = some o) → R' vs { s with heap := h1, toks := tk }) → wpAny (model prog w) A.in1 (collect (.ref t)) R' E s)
    (hC : ∀ vs h1 bs, C vs h1 bs → PySem.W.EachIs R vs bs ∧ PySem.W.EachIs (fun v b => ∃ as, Reads h1 v (enc b) as) vs bs ∧ PySem.W.AllAlike (bs.map enc) ∧ PySem.W.Sortable (bs.map enc) ∧ bs.length ≤ sizeLine ∧ ∀ b, b ∈ bs → A.units + 2 + (enc b).depth < cLine)
    (h : ∀ (vs : List Value) (bs : List β) (out : List Value) (h1 h' : Heap) (tk : Nat), C vs h1 bs → PySem.W.EachIs R out (bs.mergeSort (PySem.W.dataLe false enc)) → (∀ b o, s.heap.get? b = some o → h1.get? b = some o) → (∀ b o, h1.get? b = some o → h'.get? b = some o) → (∃ c, h'.get? h1.objs.size = some (seqObj "list" (List.toArray out) c)) → Q (.ref h1.objs.size) { s with heap := h', toks := tk }) :
    wpAny (model prog w) A (call (.builtin "sorted") [.ref t]) Q E s := by
  refine Calls.call_function_entry kind_sorted plain_sorted entry_sorted (args_sorted1 _) ?_
  unfold Builtin.«sorted»
  apply wpAny_bind (m := checkCount "sorted" 1 1 _)
  apply wpAny_pure
  apply wpAny_bind
  refine hcol _ _ fun vs h1 tk bs hc k1 => ?_
  obtain ⟨e, er, hal, hk, hL, hu⟩ := hC vs h1 bs hc
  have hlen := e.length
  have hL' : vs.length ≤ sizeLine := by omega
  apply wpAny_bind
  refine wpAny_newList ?_ (by simpa using hL')
  have ha : (h1.push (seqObj "list" vs.toArray 0)).get? h1.objs.size = some (seqObj "list" vs.toArray 0) := Heap.get?_push_size _ rfl
  have k2 : ∀ b o', h1.get? b = some o' → b ≠ h1.objs.size ∧ (h1.push (seqObj "list" vs.toArray 0)).get? b = some o' := fun b o' q =>
    ⟨Nat.ne_of_lt (Heap.lt_size q), Heap.get?_push_of_some _ q⟩
  have kS : ∀ b o', h1.get? b = some o' → (PySem.W.sortingHeap (h1.push (seqObj "list" vs.toArray 0)) h1.objs.size vs).get? b = some o' := fun b o' q =>
    PySem.W.sortingHeap_old (k2 b o' q).1 (k2 b o' q).2
  have er' : PySem.W.EachIs (fun v b => ∃ as, Reads (PySem.W.sortingHeap (h1.push (seqObj "list" vs.toArray 0)) h1.objs.size vs) v (enc b) as) vs bs := er.mono fun _ _ ⟨as, r⟩ => ⟨as, Reads.keeps kS r⟩
  have S := PySem.W.SortsAt.data (prog := prog) (w := w) (A := A.in1.in1) (s := { s with heap := PySem.W.sortingHeap (h1.push (seqObj "list" vs.toArray 0)) h1.objs.size vs, toks := tk }) (vs := vs) (ds := bs.map enc)
    (PySem.W.each_map (R := fun v d => ∃ as, Reads (PySem.W.sortingHeap (h1.push (seqObj "list" vs.toArray 0)) h1.objs.size vs) v d as) enc er') hal hk (fun d hd => by
      obtain ⟨b, hb, rfl⟩ := List.mem_map.mp hd
      exact hu b hb)
  have hout := PySem.W.sortVals_data (h' := PySem.W.sortingHeap (h1.push (seqObj "list" vs.toArray 0)) h1.objs.size vs) false e er' hal
  obtain ⟨c, hc2⟩ := sortedHeap_at (out := (PySem.W.sortVals (PySem.W.dataKind (PySem.W.sortingHeap (h1.push (seqObj "list" vs.toArray 0)) h1.objs.size vs) (bs.map enc)) false vs vs).toArray) ha
  show wpAny _ _ _ _ _ { s with heap := h1.push (seqObj "list" vs.toArray 0), toks := tk }
  refine wpAny_bind (wpAny_holding (wpAny_call_entry slot_list_sort ⟨_, ha, rfl⟩ entry_list_sort ?_ (args_list_sort _)))
  refine PySem.W.list_sort_vals (s := { s with heap := h1.push (seqObj "list" vs.toArray 0), toks := tk }) ha S hL' ⟨_, rfl, wpAny_pure ⟨_, rfl, ?_⟩⟩
  refine h vs bs _ h1 _ tk hc hout k1 (fun b o' q => ?_) ⟨c, hc2⟩
  rw [sortedHeap_old (k2 b o' q).1 (Heap.lt_size (k2 b o' q).2)]
  exact (k2 b o' q).2
end
section
variable {K : PySem.W.Frag} {H : Hp} {al : Addr → Prop}
theorem dent_get : ∀ {ds : List D} {es : List DictEntry} {j : Nat} {d : D} {e : DictEntry}, DEnt K H al ds es → ds[j]? = some d → es[j]? = some e → ∃ k v kv vv, d = .tup [k, v] ∧ RelV kv e.key ∧ RelV vv e.val ∧ Rep K H al k kv ∧ Rep K H al v vv
  | [], es, j, d, e, _, h1, _ => by cases h1
  | d0 :: ds, es, j, d, e, h, h1, h2 => by
    obtain ⟨k, v, q, e0, r, kv, vv, rfl, rfl, _, _, r1, r2, r3, r4, h9⟩ := h
    cases j with
    | zero =>
      cases h1
      cases h2
      exact ⟨k, v, kv, vv, rfl, r1, r2, r3, r4⟩
    | succ j => exact dent_get h9 h1 h2
theorem dent_len : ∀ {ds : List D} {es : List DictEntry}, DEnt K H al ds es → es.length = ds.length
  | [], es, h => by rw [show es = [] from h]; rfl
  | d0 :: ds, es, h => by
    obtain ⟨k, v, q, e0, r, kv, vv, rfl, rfl, _, _, r1, r2, r3, r4, h9⟩ := h
    rw [List.length_cons, List.length_cons, dent_len h9]
theorem rep_ext {H' : Hp} (k : ∀ b o, H b = some o → H' b = some o) {d : D} {v : V} (r : Rep K H al d v) : Rep K H' al d v := Rep.keep (fun a o h _ => k a o h) (fun a vs h n => ⟨k a _ h, n⟩) d v r
end
/-- the view of a dict's items -/
def tDItems (K : PySem.W.Frag) (td : TE) : TE := fun σ H Q => td σ H fun x H1 => ∃ (al : Addr → Prop) (a : Addr) (ds : List D), x = .ref a ∧ DRep K H1 al a ds ∧ ∀ p, H1 p = none → Q (.ref p) (upd H1 p (L2.DX.itemsO p a))
section
variable {X : Cx} {e : Expr} {td : TE} {apos cpos : Pos}
theorem pe_ditems (he : PE X e td) (hbase : attributeBase e "items" X.env (eval e X.env) = eval e X.env := by rfl) (hline : (apos.endLine == cpos.line) = true := by rfl) : PE X (.Call (.Attribute e "items" apos) [] [] cpos) (tDItems X.K td) := by
  refine ⟨fun pins s σ H Q I h => ?_⟩
  refine wpAny_Call_method (T := "dict") (id := "dict.items") hbase rfl hline F.plainAttrs_dict F.slot_dict_items F.type_dict_items (thn (he.run pins s σ H _ I h) fun u s1 ⟨x, H1, I1, rx, al, a, ds, ex, hd, q⟩ => ?_)
  subst ex
  obtain rfl : u = Value.ref a := rx
  obtain ⟨es, ep, e0, he0, hn⟩ := hd
  obtain ⟨⟨hsm, hsz, o, ho, hex, hdat⟩, _, _⟩ := I1.hok a _ e0
  refine ⟨⟨o, ho, hex.1⟩, fun b eb => by cases eb; exact ⟨o, ho, hex.2.1⟩, ?_⟩
  refine Calls.callWith_builtin rfl (PySem.evalArgs_none ?_)
  refine DT.callItems (es := es.toArray) (ep := ep) hsm ⟨o, ho, hex, hdat⟩ ?_
  have hf : H1 s1.heap.objs.size = none := I1.hok.fresh (Nat.le_refl _)
  exact ⟨.ref s1.heap.objs.size, upd H1 s1.heap.objs.size (L2.DX.itemsO s1.heap.objs.size a), I1.laid (t' := s1.toks) (fun b u e => Heap.get?_push_of_some _ e) (Nat.le_refl _) (L2.DX.itemsO_ok (Heap.get?_push_size _ rfl)), rfl, q _ hf⟩
end
def rSortItD (K : PySem.W.Frag) : List V → Hp → VK → Prop := fun vs H Q => ∃ (al : Addr → Prop) (p a : Addr) (ds : List D), vs = [.ref p] ∧ H p = some (L2.DX.itemsO p a) ∧ DRep K H al a ds ∧ OkSort ds ∧
  ∀ (H1 : Hp) (p' : Addr) (us : List V), (∀ b o, H b = some o → H1 b = some o) → H1 p' = none → RepL K H1 al (ds.mergeSort leD) us → Q (.ref p') (upd H1 p' (.lst us))
theorem cr_sortItD {X : Cx} (hc : X.calm = true) (hu : X.A.units + 64 < cLine) : CallR X (.builtin "sorted") (rSortItD X.K) := by
  intro pins s σ H vs us Q I r h
  obtain ⟨al, p, a, ds, rfl, hp, hd, hok, q⟩ := h
  rw [Vals.ref1 r]
  obtain ⟨es, ep, e0, he0, hn⟩ := hd
  obtain ⟨⟨hsm, hsz, o, ho, hex, hdat⟩, _, _⟩ := I.hok a _ e0
  have view : s.heap.IsItemsView p a := (show ObjOk X.prog X.w H s.heap p (L2.DX.itemsO p a) from I.hok p _ hp).1
  have hel := dent_len he0
  obtain ⟨k1, k2, k3, k4⟩ := hok
  refine sorted_col2 (R := fun (u : Value) (q : V × D) => RelV q.1 u) (enc := fun q : V × D => toPy q.2)
    (C := fun vs h1 bs => ∃ (tk : Nat) (H1 : Hp), Inv X pins σ H1 { s with heap := h1, toks := tk } ∧ (∀ b o, H b = some o → H1 b = some o) ∧ Vals (bs.map (·.1)) vs ∧ bs.map (·.2) = ds ∧ ∀ q ∈ bs, Rep X.K H1 al q.2 q.1)
    (fun E R' hR => ?_) (fun vs h1 bs hC => ?_) fun vs bs out h1 h' tk hC he' kk kk2 hp' => ?_
  · refine PySem.W.dil_collect (es := es.toArray) (ep := ep) (by show X.A.in1.handled = none; exact I.ok.hd hc) view ⟨o, ho, hex, hdat⟩ (by rw [List.size_toArray]; exact hsz) fun h' tk as hk hl hG => ?_
    rw [List.size_toArray] at hl
    have I1 : Inv X pins σ H { s with heap := h', toks := tk } := I.kept (t' := tk) hk
    have nd : as.Nodup := List.Pairwise.imp (fun h => Nat.ne_of_lt h) hG.rise
    obtain ⟨H2, I2, g, qt⟩ := L2.DX.takeT (P := fun b vs => ∃ (j : Nat) (d k v : D) (kv vv : V), as[j]? = some b ∧ ds[j]? = some d ∧ d = .tup [k, v] ∧ vs = [kv, vv] ∧ Rep X.K H al k kv ∧ Rep X.K H al v vv) I as H I1 nd fun b hb => by
      have hge : s.heap.objs.size ≤ b := Nat.le_of_lt (hG.above b hb)
      obtain ⟨j, hj⟩ := List.mem_iff_getElem?.mp hb
      have hja := (List.getElem?_eq_some_iff.mp hj).1
      obtain ⟨hje, hget⟩ := hG.pairs j b hj
      have hje' : j < es.length := by omega
      have hjd : j < ds.length := by omega
      obtain ⟨k, v, kv, vv, e1, rk, rv, rk2, rv2⟩ := dent_get he0 (List.getElem?_eq_getElem hjd) (List.getElem?_eq_getElem hje')
      refine ⟨hge, I.hok.fresh hge, [kv, vv], ⟨j, _, k, v, kv, vv, hj, List.getElem?_eq_getElem hjd, e1, rfl, rk2, rv2⟩, fun H2 => ?_⟩
      exact ⟨by show 2 ≤ sizeLine; decide, [es[j].key, es[j].val], .cons rk (.cons rv .nil), ⟨_, hget, rfl, _, rfl⟩⟩
    have hl2 : as.length = ds.length := by omega
    have z1 : ((as.zip ds).map fun z => (V.ref z.1, z.2)).map (·.1) = as.map V.ref := by
      rw [List.map_map]
      have e2 : (as.zip ds).map Prod.fst = as := List.map_fst_zip (by omega)
      show (as.zip ds).map (V.ref ∘ Prod.fst) = as.map V.ref
      rw [← List.map_map, e2]
    have z2 : ((as.zip ds).map fun z => (V.ref z.1, z.2)).map (·.2) = ds := by
      rw [List.map_map]
      exact List.map_snd_zip (by omega)
    refine hR (as.map Value.ref) h' tk ((as.zip ds).map fun z => (V.ref z.1, z.2)) ⟨tk, H2, I2, g, by rw [z1]; exact vals_refs as, z2, fun t ht => ?_⟩ hk
    obtain ⟨⟨b, d⟩, hz, rfl⟩ := List.mem_map.mp ht
    obtain ⟨j, hj⟩ := List.mem_iff_getElem?.mp hz
    obtain ⟨hj1, hj2⟩ := List.getElem?_zip_eq_some.mp hj
    obtain ⟨vs, ⟨i, d', k, v, kv, vv, hi1, hi2, rfl, rfl, rk, rv⟩, hb⟩ := qt b (List.mem_of_getElem? hj1)
    have hij : i = j := (List.getElem?_inj (List.getElem?_eq_some_iff.mp hi1).1 nd).mp (hi1.trans hj1.symm)
    subst hij
    rw [hi2] at hj2
    cases hj2
    exact ⟨b, [kv, vv], rfl, .inl (.inl hb), kv, [vv], rfl, rep_ext g rk, vv, [], rfl, rep_ext g rv, rfl⟩
  · obtain ⟨tk, H1, I1, g, rv, hds, hrep⟩ := hC
    have hdp : ∀ t ∈ bs, Dp X.K H1 t.1 (toPy t.2) := fun t ht => rep_dp _ _ (hrep t ht)
    obtain ⟨e1, e2⟩ := each_dps I1 rv hdp
    have hmem : ∀ x ∈ bs, x.2 ∈ ds := fun x hx => by rw [← hds]; exact List.mem_map.mpr ⟨x, hx, rfl⟩
    have hbl : bs.length = ds.length := by rw [← hds, List.length_map]
    refine ⟨e2, e1, ?_, ?_, by omega, fun b hb => ?_⟩
    · intro d hd d' hd'
      obtain ⟨x, hx, rfl⟩ := List.mem_map.mp hd
      obtain ⟨y, hy, rfl⟩ := List.mem_map.mp hd'
      exact k1 x.2 (hmem x hx) y.2 (hmem y hy)
    · rcases k2 with k2 | k2
      · refine .inl fun d hd => ?_
        obtain ⟨x, hx, rfl⟩ := List.mem_map.mp hd
        obtain ⟨y, t, e⟩ := k2 x.2 (hmem x hx)
        exact ⟨toPy y, toPys t, by rw [e]; rfl⟩
      · refine .inr fun d hd => ?_
        obtain ⟨x, hx, rfl⟩ := List.mem_map.mp hd
        have := k2 x.2 (hmem x hx)
        cases e : x.2 <;> rw [e] at this <;> first | exact this.elim | exact ⟨fun z => (nomatch z), fun xs z => (nomatch z)⟩
    · have := k3 b.2 (hmem b hb)
      omega
  · obtain ⟨tk1, H1, I1, g, rv, hds, hrep⟩ := hC
    have hbl : bs.length = ds.length := by rw [← hds, List.length_map]
    have es2 : (bs.mergeSort fun a b => leD a.2 b.2).map (·.2) = ds.mergeSort leD := by rw [← hds]; exact List.map_mergeSort fun a _ b _ => rfl
    obtain ⟨c, hc⟩ := hp'
    refine ⟨.ref h1.objs.size, upd H1 h1.objs.size (.lst ((bs.mergeSort fun a b => leD a.2 b.2).map (·.1))), I1.laid (h' := h') (t' := tk) kk2 (Nat.le_refl _) ?_, rfl, q H1 _ _ g (I1.hok.fresh (Nat.le_refl _)) ?_⟩
    · refine ⟨?_, out, c, each_vals he', hc⟩
      rw [List.length_map, List.length_mergeSort]
      omega
    · rw [← es2]
      exact pairs_repL fun t ht => hrep t (List.mem_mergeSort.mp ht)
section
variable {K : PySem.W.Frag} {mg : Str → Option Value} {E : XK} {w w' : Wd} {s : Sto}
/-- objects of no one's are laid -/
def Wd.wid (w : Wd) (H1 : Hp) : Wd := { w with H := H1 }
theorem gd_wid (ok : Ok K w) {H1 : Hp} (k : ∀ b o, w.H b = some o → H1 b = some o) : Gd K w w.st (w.wid H1) := by
  have lv : ∀ a, w.H a ≠ none → H1 a ≠ none := fun a h => by
    cases e : w.H a with
    | none => exact absurd e h
    | some o => rw [k a o e]; exact fun z => nomatch z
  have x : Nxt w (w.wid H1) := ⟨fun a u h _ => k a u h, ⟨[], by simp [Wd.wid]⟩, fun a h => .inl h, fun _ _ => Iff.rfl, lv⟩
  refine ⟨⟨x, rfl, fun a u _ h => k a u h⟩, rfl, ok.len, ok.nd, fun n a ds h1 h2 hd => ?_, fun n a ds h1 h2 hd => ?_, ok.dkh, fun a h => lv a (ok.trk a h), fun a h => ?_⟩
  · obtain ⟨vs, e, r⟩ := ok.cell n a ds h1 h2 hd
    exact ⟨vs, k _ _ e, r.nxt x ok⟩
  · exact (ok.celd n a ds h1 h2 hd).lay (fun u e => k _ _ e) fun es z => z.nxt x ok
  · obtain ⟨h1, vs, e⟩ := ok.gst a h
    exact ⟨h1, vs, k _ _ e⟩
open Classical in
noncomputable def fSortIt : Sto → List W → Option W := fun s xs => match xs with
  | [x] => (match dOf s x with
    | some ds => if OkSort ds then some (.d (.lst (ds.mergeSort leD))) else none
    | none => none)
  | _ => none
theorem fSortIt_some {x z : W} (h : fSortIt s [x] = some z) : ∃ ds, dOf s x = some ds ∧ OkSort ds ∧ z = .d (.lst (ds.mergeSort leD)) := by
  unfold fSortIt at h
  cases hd : dOf s x with
  | none => simp only [hd] at h; cases h
  | some ds =>
    simp only [hd] at h
    by_cases hc : OkSort ds
    · rw [if_pos hc] at h
      cases h
      exact ⟨ds, rfl, hc, rfl⟩
    · rw [if_neg hc] at h
      cases h
noncomputable def sortItE (F : Loc → M W) : Loc → M W := fun ρ => M.bnd (F ρ) fun x => optL fSortIt [x]
theorem ev_sortIt {td : TE} {F : Loc → M W} (ha : EvE K mg E td F) : EvE K mg E (tCB (rSortItD K) (tCons (tDItems K td) tNil)) (sortItE F) := by
  intro σ ρ w ok r Q h
  refine ev1 ha ok r h fun x v w1 g1 ok1 r1 rv h1 => ?_
  unfold optL at h1
  cases hz : fSortIt w1.st [x] with
  | none => rw [hz] at h1; exact h1.elim
  | some z =>
    rw [hz] at h1
    obtain ⟨ds, hd, hc, rfl⟩ := fSortIt_some hz
    obtain ⟨a, rfl, hd1, ht⟩ := dOf_rep ok1 hd rv
    refine ⟨w1.al, a, ds, rfl, hd1, fun p hp => ?_⟩
    have g2 := gd_lay (o := L2.DX.itemsO p a) ok1 hp
    refine ⟨w1.al, p, a, ds, rfl, upd_same, hd1.lay (fun u e => upd_off e fun z => by rw [z, hp] at e; cases e) (fun es z => z.nxt g2.stp.toNxt ok1), hc, fun H1 p' us k hp' hr => ?_⟩
    have g3 := gd_wid (w := w1.lay p (L2.DX.itemsO p a)) g2.ok k
    have h2 : PW K ((w1.lay p (L2.DX.itemsO p a)).wid H1) Q (.d (.lst (ds.mergeSort leD))) w1.st := PW.of ((g1.trans g2).trans g3) h1
    exact pw_lst (w := (w1.lay p (L2.DX.itemsO p a)).wid H1) (Q := Q) g3.ok hr h2 p' hp'
theorem e_sortIt {F : Loc → M W} {ρ : Loc} {n : Nat} {ds : List D} {s s' : Sto} (hF : F ρ s = .ok (.k n) s') (h : s'[n]? = some (some ds)) (ht : tupK ds = true) (hc : OkSort ds) : sortItE F ρ s = .ok (.d (.lst (ds.mergeSort leD))) s' := by
  unfold sortItE
  rw [bnd_ok hF]
  unfold optL fSortIt
  simp only [dOf_mk h ht, if_pos hc]
/-- .. as a list of the store -/
noncomputable def sortItH (F : Loc → M W) : Loc → M W := fun ρ => M.bnd (F ρ) fun x s => match fSortIt s [x] with
  | some (.d (.lst r)) => .ok (.h s.length) (s ++ [some r])
  | _ => .bad
theorem ev_sortItH {td : TE} {F : Loc → M W} (ha : EvE K mg E td F) : EvE K mg E (tCB (rSortItD K) (tCons (tDItems K td) tNil)) (sortItH F) := by
  intro σ ρ w ok r Q h
  refine ev1 ha ok r h fun x v w1 g1 ok1 r1 rv h1 => ?_
  cases hz : fSortIt w1.st [x] with
  | none => simp only [hz] at h1; exact h1.elim
  | some z =>
    obtain ⟨ds, hd, hc, rfl⟩ := fSortIt_some hz
    simp only [hz] at h1
    obtain ⟨a, rfl, hd1, ht⟩ := dOf_rep ok1 hd rv
    refine ⟨w1.al, a, ds, rfl, hd1, fun p hp => ?_⟩
    have g2 := gd_lay (o := L2.DX.itemsO p a) ok1 hp
    refine ⟨w1.al, p, a, ds, rfl, upd_same, hd1.lay (fun u e => upd_off e fun z => by rw [z, hp] at e; cases e) (fun es z => z.nxt g2.stp.toNxt ok1), hc, fun H1 p' us k hp' hr => ?_⟩
    have g3 := gd_wid (w := w1.lay p (L2.DX.itemsO p a)) g2.ok k
    have g4 := gd_hnd (w := (w1.lay p (L2.DX.itemsO p a)).wid H1) (ds := ds.mergeSort leD) (vs := us) g3.ok hp' hr
    exact h1 (.ref p') _ (((g1.trans g2).trans g3).trans g4) (rep_hnd g3.ok hp')
theorem e_sortItH {F : Loc → M W} {ρ : Loc} {n : Nat} {ds : List D} {s s' : Sto} (hF : F ρ s = .ok (.k n) s') (h : s'[n]? = some (some ds)) (ht : tupK ds = true) (hc : OkSort ds) : sortItH F ρ s = .ok (.h s'.length) (s' ++ [some (ds.mergeSort leD)]) := by
  unfold sortItH
  rw [bnd_ok hF]
  unfold fSortIt
  simp only [dOf_mk h ht, if_pos hc]
end
end Y

/-! ### the text's defs -/
namespace Y
open PySem L2
noncomputable section
def s_is_whole : Loc → M (Loc × Fl) :=
  (retS (andV (op1 (gIsi Ty5.int) (getL 0)) (notV (op1 (gIsi Ty5.bool) (getL 0)))))
def f_is_whole : List W → M W := runD 0 1 s_is_whole
def s_is_number : Loc → M (Loc × Fl) :=
  (retS (andV (calL 1 f_is_whole (argC (getL 0) argN)) (chn (opt2 fLeY) (opt2 fLeY) (getL 1) (getL 0) (getL 2))))
def f_is_number : List W → M W := runD 0 3 s_is_number
def s_are_numbers : Loc → M (Loc × Fl) :=
  (retS (opL (optL fAll) (argC (lcE [3] (itS (getL 0)) (bName 3) yes (calL 3 f_is_number (argC (getL 3) (argC (getL 1) (argC (getL 2) argN))))) argN)))
def f_are_numbers : List W → M W := runD 0 4 s_are_numbers
def s_is_tuple : Loc → M (Loc × Fl) :=
  (retS (andV (op1 (gIsi Ty5.tuple) (getL 0)) (chn (opt2 fLeY) (opt2 fLeY) (getL 1) (opL (optL fLen) (argC (getL 0) argN)) (getL 2))))
def f_is_tuple : List W → M W := runD 0 3 s_is_tuple
def s_is_table : Loc → M (Loc × Fl) :=
  (seqS (ifS (notT (truT (calL 3 f_is_tuple (argC (getL 0) (argC (getL 1) (argC (getL 1) argN)))))) (retS (cst (.bl false))) nxt)
  (retS (opL (optL fAll) (argC (lcE [3] (itS (getL 0)) (bName 3) yes (andV (calL 3 f_is_tuple (argC (getL 3) (argC (getL 2) (argC (getL 2) argN)))) (calL 3 f_are_numbers (argC (getL 3) (argC (cst (.int 0)) (argC (cst (.int 3)) argN)))))) argN))))
def f_is_table : List W → M W := runD 0 4 s_is_table
def s_is_model : Loc → M (Loc × Fl) :=
  (seqS (ifS (notT (truT (calL 3 f_is_tuple (argC (getL 0) (argC (cst (.int 3)) (argC (cst (.int 3)) argN)))))) (retS (cst (.bl false))) nxt)
  (seqS (asgS (bTup 3 (bCons (bName 1) (bCons (bName 2) (bCons (bName 3) bNil)))) (getL 0))
  (seqS (ifS (orT (notT (truT (calL 3 f_is_tuple (argC (getL 1) (argC (cst (.int 1)) (argC (cst (.int 3)) argN)))))) (notT (truT (calL 3 f_are_numbers (argC (getL 1) (argC (cst (.int 0)) (argC (cst (.int 3)) argN))))))) (retS (cst (.bl false))) nxt)
  (seqS (setS 4 (opL (optL fLen) (argC (getL 1) argN)))
  (seqS (ifS (orT (notT (truT (calL 3 f_is_table (argC (getL 2) (argC (getL 4) (argC (getL 4) argN)))))) (notT (truT (calL 3 f_is_tuple (argC (getL 3) (argC (getL 4) (argC (getL 4) argN))))))) (retS (cst (.bl false))) nxt)
  (retS (andV (calL 3 f_is_tuple (argC (op2 (opt2 fIx) (getL 3) (cst (.int 0))) (argC (cst (.int 1)) (argC (cst (.int 3)) argN)))) (calL 3 f_is_table (argC (getL 3) (argC (getL 4) (argC (opL (optL fLen) (argC (op2 (opt2 fIx) (getL 3) (cst (.int 0))) argN)) argN)))))))))))
def f_is_model : List W → M W := runD 0 5 s_is_model
def s_check_model : Loc → M (Loc × Fl) :=
  (ifS (notT (truT (calL 1 f_is_model (argC (getL 0) argN)))) badS nxt)
def f_check_model : List W → M W := runD 0 1 s_check_model
def s_to_go : Loc → M (Loc × Fl) :=
  (seqS (asgS (bTup 2 (bCons (bName 3) (bCons (bName 4) bNil))) (opL gTup (argC (op2 (opt2 fIx) (getL 0) (cst (.int 1))) (argC (op2 (opt2 fIx) (getL 0) (cst (.int 2))) argN))))
  (seqS (setS 5 (lcE [6, 7] (itEn (getL 2)) (bTup 2 (bCons (bName 6) (bCons (bName 7) bNil))) yes (op2 (opt2 fAdd) (op2 (opt2 fIx) (op2 (opt2 fIx) (getL 4) (getL 6)) (getL 1)) (getL 7))))
  (retS (opL (optL fTuple) (argC (lcE [8] (itS (getL 3)) (bName 8) yes (opL (optL (fBest false)) (argC (lcE [9, 10] (itZipY (getL 8) (getL 5)) (bTup 2 (bCons (bName 9) (bCons (bName 10) bNil))) yes (op2 (opt2 fAdd) (getL 9) (getL 10))) argN))) argN)))))
def f_to_go : List W → M W := runD 0 11 s_to_go
def s_less_least : Loc → M (Loc × Fl) :=
  (seqS (setS 1 (opL (optL (fBest false)) (argC (getL 0) argN)))
  (retS (opL (optL fTuple) (argC (lcE [2] (itS (getL 0)) (bName 2) yes (op2 (opt2 fSub) (getL 2) (getL 1))) argN))))
def f_less_least : List W → M W := runD 0 3 s_less_least
def s_ahead_of : Loc → M (Loc × Fl) :=
  (retS (calL 1 f_less_least (argC (calL 3 f_to_go (argC (getL 0) (argC (getL 1) (argC (getL 2) argN)))) argN)))
def f_ahead_of : List W → M W := runD 0 3 s_ahead_of
def s_layer_ahead : Loc → M (Loc × Fl) :=
  (seqS (setS 3 (opL gNew argN))
  (seqS (forS (itR1 (opL (optL fLen) (argC (op2 (opt2 fIx) (op2 (opt2 fIx) (getL 0) (cst (.int 2))) (cst (.int 0))) argN))) (bName 4) (forS (itS (getL 2)) (bName 5) (seqS (setS 6 (calL 3 f_ahead_of (argC (getL 0) (argC (getL 4) (argC (getL 5) argN)))))
  (ifS (tstV (op2 (opt2 (fDin true)) (getL 6) (getL 1))) (seqS (putDS (op2 (opt2 fAdd) (opL gTup (argC (getL 4) argN)) (op2 (opt2 fDix) (getL 1) (getL 5))) (getL 1) (getL 6))
  (expS (mthE fApp (getL 3) (argC (getL 6) argN)))) nxt))))
  (retS (getF 3))))
def f_layer_ahead : List W → M W := runD 0 7 s_layer_ahead
def s_found_profiles : Loc → M (Loc × Fl) :=
  (seqS (setS 1 (op2 (opt2 fMul) (opL gTup (argC (cst (.int 0)) argN)) (opL (optL fLen) (argC (op2 (opt2 fIx) (getL 0) (cst (.int 0))) argN))))
  (seqS (setS 2 (dOne (getL 1) (opL gTup argN)))
  (seqS (setS 3 (opL gLst (argC (getL 1) argN)))
  (seqS (whileS (truT (getL 3)) (setS 3 (calL 3 f_layer_ahead (argC (getL 0) (argC (getL 2) (argC (getL 3) argN))))))
  (retS (getL 2))))))
def f_found_profiles : List W → M W := runD 1 4 s_found_profiles
def s_least_table : Loc → M (Loc × Fl) :=
  (retS (opL (optL fTuple) (argC (opL (optL fSortD) (argC (calL 1 f_found_profiles (argC (getL 0) argN)) argN)) argN)))
def f_least_table : List W → M W := runD 0 1 s_least_table
def s_profiles : Loc → M (Loc × Fl) :=
  (seqS (expS (calL 1 f_check_model (argC (getL 0) argN)))
  (retS (calL 1 f_least_table (argC (getL 0) argN))))
def f_profiles : List W → M W := runD 0 1 s_profiles
def s_first_signs : Loc → M (Loc × Fl) :=
  (seqS (expS (calL 1 f_check_model (argC (getL 0) argN)))
  (retS (sortItH (calL 1 f_found_profiles (argC (getL 0) argN)))))
def f_first_signs : List W → M W := runD 2 1 s_first_signs
def s_spread : Loc → M (Loc × Fl) :=
  (seqS (expS (calL 1 f_check_model (argC (getL 0) argN)))
  (retS (opL (optL (fBest true)) (argC (lcE [1] (itS (calL 1 f_least_table (argC (getL 0) argN))) (bName 1) yes (opL (optL (fBest true)) (argC (getL 1) argN))) argN))))
def f_spread : List W → M W := runD 0 2 s_spread
def s__law_stream : Loc → M (Loc × Fl) :=
  (retS (opL gNew (argC (opL (optL fList) (argC (getL 0) argN)) (argC (cst (.int 0)) (argC (cst (.int 0)) argN)))))
def f__law_stream : List W → M W := runD 1 1 s__law_stream
def s__law_next : Loc → M (Loc × Fl) :=
  (seqS (ifS (tstV (op2 (opt2 fEq) (op2 (opt2 fIx) (getL 0) (cst (.int 1))) (cst (.int 0)))) (seqS (setS 2 (op2 (opt2 fIx) (getL 0) (cst (.int 2))))
  (seqS (setS 3 (op2 (opt2 fAdd) (cst (.int 7)) (getL 2)))
  (seqS (ifS (tstV (op2 (opt2 fLtY) (getL 2) (opL (optL fLen) (argC (op2 (opt2 fIx) (getL 0) (cst (.int 0))) argN)))) (setS 3 (opL (optL fAbs) (argC (op2 (opt2 fIx) (op2 (opt2 fIx) (getL 0) (cst (.int 0))) (getL 2)) argN))) nxt)
  (seqS (ifS (tstV (op2 (opt2 fLtY) (getL 3) (op2 (opt2 fPow) (cst (.int 10)) (cst (.int 18))))) (seqS (setS 3 (op2 (opt2 fMod) (opL (optL fInt) (argC (op2 (opt2 fAdd) (op2 (opt2 fAdd) (op2 (opt2 fMul) (getL 3) (cst (.int 48271))) (op2 (opt2 fMul) (getL 2) (cst (.int 69621)))) (cst (.int 11))) argN)) (cst (.int 2147483647))))
  (setS 3 (op2 (opt2 fAdd) (op2 (opt2 fMul) (op2 (opt2 fMod) (opL (optL fInt) (argC (op2 (opt2 fAdd) (op2 (opt2 fMul) (getL 3) (cst (.int 16807))) (cst (.int 13))) argN)) (cst (.int 2147483647))) (cst (.int 65537))) (getL 3)))) nxt)
  (seqS (putS (getL 3) (getL 0) (cst (.int 1)))
  (putS (op2 (opt2 fAdd) (getL 2) (cst (.int 1))) (getL 0) (cst (.int 2)))))))) nxt)
  (seqS (setS 4 (op2 (opt2 fMod) (opL (optL fInt) (argC (op2 (opt2 fIx) (getL 0) (cst (.int 1))) argN)) (getL 1)))
  (seqS (putS (op2 (opt2 fFdv) (op2 (opt2 fIx) (getL 0) (cst (.int 1))) (getL 1)) (getL 0) (cst (.int 1)))
  (retS (getL 4)))))
def f__law_next : List W → M W := runD 0 5 s__law_next
def s__law_is_integer : Loc → M (Loc × Fl) :=
  (retS (andV (op1 (gIsi Ty5.int) (getL 0)) (notV (op1 (gIsi Ty5.bool) (getL 0)))))
def f__law_is_integer : List W → M W := runD 0 1 s__law_is_integer
def s__law_equal (self : List W → M W) : Loc → M (Loc × Fl) :=
  (seqS (ifS (tstV (op2 (opt2 (fIs false)) (getL 1) (cst .non))) (retS (op2 (opt2 (fIs false)) (getL 0) (cst .non))) nxt)
  (seqS (ifS (truT (op1 (gIsi Ty5.bool) (getL 1))) (retS (andV (op1 (gIsi Ty5.bool) (getL 0)) (op2 (opt2 fEq) (getL 0) (getL 1)))) nxt)
  (seqS (ifS (truT (op1 (gIsi Ty5.int) (getL 1))) (retS (andV (calL 1 f__law_is_integer (argC (getL 0) argN)) (op2 (opt2 fEq) (getL 0) (getL 1)))) nxt)
  (seqS (ifS (truT (op1 (gIsi Ty5.str) (getL 1))) (retS (andV (op1 (gIsi Ty5.str) (getL 0)) (op2 (opt2 fEq) (getL 0) (getL 1)))) nxt)
  (seqS (ifS (andT (truT (op1 (gIsi Ty5.tuple) (getL 1))) (notT (truT (op1 (gIsi Ty5.tuple) (getL 0))))) (retS (cst (.bl false))) nxt)
  (seqS (ifS (andT (truT (op1 (gIsi Ty5.list) (getL 1))) (notT (truT (op1 (gIsi Ty5.list) (getL 0))))) (retS (cst (.bl false))) nxt)
  (seqS (ifS (tstV (op2 (opt2 fNe) (opL (optL fLen) (argC (getL 0) argN)) (opL (optL fLen) (argC (getL 1) argN)))) (retS (cst (.bl false))) nxt)
  (retS (opL (optL fAll) (argC (lcE [2] (itR1 (opL (optL fLen) (argC (getL 1) argN))) (bName 2) yes (calL 2 self (argC (op2 (opt2 fIx) (getL 0) (getL 2)) (argC (op2 (opt2 fIx) (getL 1) (getL 2)) argN)))) argN))))))))))
def f__law_equal : Nat → List W → M W
  | 0 => fun _ => M.bad
  | n + 1 => runD 0 3 (s__law_equal (f__law_equal n))
def s__law_model : Loc → M (Loc × Fl) :=
  (seqS (setS 1 (op2 (opt2 fAdd) (cst (.int 1)) (calL 2 f__law_next (argC (getL 0) (argC (cst (.int 3)) argN)))))
  (seqS (setS 2 (op2 (opt2 fAdd) (cst (.int 1)) (calL 2 f__law_next (argC (getL 0) (argC (cst (.int 3)) argN)))))
  (seqS (setS 3 (op2 (opt2 fIx) (opL gLst (argC (cst (.int 2)) (argC (cst (.int 4)) argN))) (calL 2 f__law_next (argC (getL 0) (argC (cst (.int 2)) argN)))))
  (seqS (setS 4 (opL (optL fTuple) (argC (lcE [7] (itR1 (getL 1)) (bName 7) yes (calL 2 f__law_next (argC (getL 0) (argC (getL 3) argN)))) argN)))
  (seqS (setS 5 (opL (optL fTuple) (argC (lcE [7] (itR1 (getL 1)) (bName 7) yes (opL (optL fTuple) (argC (lcE [8] (itR1 (getL 1)) (bName 8) yes (calL 2 f__law_next (argC (getL 0) (argC (getL 3) argN)))) argN))) argN)))
  (seqS (setS 6 (opL (optL fTuple) (argC (lcE [7] (itR1 (getL 1)) (bName 7) yes (opL (optL fTuple) (argC (lcE [8] (itR1 (getL 2)) (bName 8) yes (calL 2 f__law_next (argC (getL 0) (argC (getL 3) argN)))) argN))) argN)))
  (retS (opL gTup (argC (getL 4) (argC (getL 5) (argC (getL 6) argN)))))))))))
def f__law_model : List W → M W := runD 0 9 s__law_model
def s__law_ahead : Loc → M (Loc × Fl) :=
  (seqS (setS 3 (opL gNew argN))
  (seqS (forS (itR1 (opL (optL fLen) (argC (getL 2) argN))) (bName 4) (expS (mthE fApp (getL 3) (argC (opL (optL (fBest false)) (argC (lcE [6] (itR1 (opL (optL fLen) (argC (getL 2) argN))) (bName 6) yes (op2 (opt2 fAdd) (op2 (opt2 fAdd) (op2 (opt2 fIx) (op2 (opt2 fIx) (op2 (opt2 fIx) (getL 0) (cst (.int 1))) (getL 4)) (getL 6)) (op2 (opt2 fIx) (op2 (opt2 fIx) (op2 (opt2 fIx) (getL 0) (cst (.int 2))) (getL 6)) (getL 1))) (op2 (opt2 fIx) (getL 2) (getL 6)))) argN)) argN))))
  (seqS (setS 5 (opL (optL (fBest false)) (argC (getL 3) argN)))
  (retS (opL (optL fTuple) (argC (lcE [7] (itS (getF 3)) (bName 7) yes (op2 (opt2 fSub) (getL 7) (getL 5))) argN))))))
def f__law_ahead : List W → M W := runD 0 8 s__law_ahead
def s__law_profile : Loc → M (Loc × Fl) :=
  (seqS (setS 2 (op2 (opt2 fMul) (opL gTup (argC (cst (.int 0)) argN)) (opL (optL fLen) (argC (op2 (opt2 fIx) (getL 0) (cst (.int 0))) argN))))
  (seqS (forS (itS (op1 gRevY (getL 1))) (bName 3) (setS 2 (calL 3 f__law_ahead (argC (getL 0) (argC (getL 3) (argC (getL 2) argN))))))
  (retS (getL 2))))
def f__law_profile : List W → M W := runD 0 4 s__law_profile
def s__law_closure : Loc → M (Loc × Fl) :=
  (seqS (setS 2 (opL fListH (argC (getL 1) argN)))
  (seqS (forS (itR1 (cst (.int 200))) (bName 3) (ifS (tstV (op2 (opt2 fLtY) (getL 3) (opL (optL fLen) (argC (getL 2) argN)))) (forS (itR1 (opL (optL fLen) (argC (op2 (opt2 fIx) (op2 (opt2 fIx) (getL 0) (cst (.int 2))) (cst (.int 0))) argN))) (bName 4) (seqS (setS 5 (calL 3 f__law_ahead (argC (getL 0) (argC (getL 4) (argC (op2 (opt2 fIx) (getL 2) (getL 3)) argN)))))
  (ifS (tstV (op2 (opt2 (fInY true)) (getL 5) (getL 2))) (expS (mthE fApp (getL 2) (argC (getL 5) argN))) nxt))) nxt))
  (retS (opL (optL fTuple) (argC (opL (optL fSortedB) (argC (getL 2) argN)) argN)))))
def f__law_closure : List W → M W := runD 0 6 s__law_closure
def s__law_first : Loc → M (Loc × Fl) :=
  (seqS (setS 1 (dOne (op2 (opt2 fMul) (opL gTup (argC (cst (.int 0)) argN)) (opL (optL fLen) (argC (op2 (opt2 fIx) (getL 0) (cst (.int 0))) argN))) (opL gTup argN)))
  (seqS (setS 2 (opL gNew (argC (opL gTup argN) argN)))
  (seqS (forS (itR1 (cst (.int 40))) (bName 3) (seqS (setS 4 (opL gNew argN))
  (seqS (forS (itS (getF 2)) (bName 5) (forS (itR1 (opL (optL fLen) (argC (op2 (opt2 fIx) (op2 (opt2 fIx) (getL 0) (cst (.int 2))) (cst (.int 0))) argN))) (bName 6) (expS (mthE fApp (getL 4) (argC (op2 (opt2 fAdd) (opL gTup (argC (getL 6) argN)) (getL 5)) argN)))))
  (seqS (setS 2 (opL gNew argN))
  (forS (itS (opL (optL fSortedB) (argC (getL 4) argN))) (bName 5) (seqS (setS 7 (calL 2 f__law_profile (argC (getL 0) (argC (getL 5) argN))))
  (ifS (tstV (op2 (opt2 (fDin true)) (getL 7) (getL 1))) (seqS (putDS (getL 5) (getL 1) (getL 7))
  (expS (mthE fApp (getL 2) (argC (getL 5) argN)))) nxt)))))))
  (retS (getL 1)))))
def f__law_first : List W → M W := runD 1 8 s__law_first
def s_law : Loc → M (Loc × Fl) :=
  (seqS (setS 1 (calL 1 f__law_stream (argC (getL 0) argN)))
  (seqS (setS 2 (calL 1 f__law_model (argC (getL 1) argN)))
  (seqS (setS 3 (calL 2 f__law_closure (argC (getL 2) (argC (opL gLst (argC (op2 (opt2 fMul) (opL gTup (argC (cst (.int 0)) argN)) (opL (optL fLen) (argC (op2 (opt2 fIx) (getL 2) (cst (.int 0))) argN))) argN)) argN))))
  (seqS (ifS (notT (truT (calL 2 (f__law_equal 8) (argC (calL 1 f_profiles (argC (getL 2) argN)) (argC (getL 3) argN))))) (retS (cst (.bl false))) nxt)
  (seqS (setS 4 (calL 1 f__law_first (argC (getL 2) argN)))
  (seqS (setS 5 (calL 1 f_first_signs (argC (getL 2) argN)))
  (seqS (ifS (notT (truT (calL 2 (f__law_equal 8) (argC (getL 5) (argC (lcE [10] (itS (getL 3)) (bName 10) yes (opL gTup (argC (getL 10) (argC (op2 (opt2 fDix) (getL 4) (getL 10)) argN)))) argN))))) (retS (cst (.bl false))) nxt)
  (seqS (expS (mthE fApp (getL 5) (argC (cst .non) argN)))
  (seqS (ifS (tstV (op2 (opt2 fNe) (opL (optL fLen) (argC (calL 1 f_first_signs (argC (getL 2) argN)) argN)) (opL (optL fLen) (argC (getL 3) argN)))) (retS (cst (.bl false))) nxt)
  (seqS (setS 6 (listRg (opL (optL fLen) (argC (op2 (opt2 fIx) (getL 2) (cst (.int 0))) argN))))
  (seqS (setS 7 (cst (.int 0)))
  (seqS (forS (itS (getL 6)) (bName 8) (seqS (setS 9 (lcE [11] (itS (getL 6)) (bName 11) yes (op2 (opt2 fIx) (op2 (opt2 fIx) (op2 (opt2 fIx) (getL 2) (cst (.int 1))) (getL 11)) (getL 8))))
  (setS 7 (opL (optL fMax2) (argC (getL 7) (argC (op2 (opt2 fSub) (opL (optL (fBest true)) (argC (getL 9) argN)) (opL (optL (fBest false)) (argC (getL 9) argN))) argN))))))
  (retS (andV (calL 2 (f__law_equal 8) (argC (calL 1 f_spread (argC (getL 2) argN)) (argC (opL (optL (fBest true)) (argC (lcE [10] (itS (getL 3)) (bName 10) yes (opL (optL (fBest true)) (argC (getL 10) argN))) argN)) argN))) (op2 (opt2 fLeY) (calL 1 f_spread (argC (getL 2) argN)) (getL 7))))))))))))))))
def f_law : List W → M W := runD 0 12 s_law
end
end Y

namespace Y
open PySem L2
theorem r_next {m : Int} (hm : 0 < m) (hm2 : m ≤ 1000000) {s : Sto} (h : Strm s) : (f__law_next [.h 0, .d (.int m)] s).sat (fun x s' => ∃ r : Int, x = .d (.int r) ∧ 0 ≤ r ∧ r < m ∧ Drawn s s') NoE := by
  obtain ⟨ns, c, k, t, rfl, hc, hk, hl⟩ := h
  unfold f__law_next s__law_next
  refine st_run ?_
  have ix0 : ∀ c k : Int, opt2 fIx (.h 0) (.d (.int 0)) (some [.lst (ns.map D.int), .int c, .int k] :: t) = .ok (.d (.lst (ns.map D.int))) (some [.lst (ns.map D.int), .int c, .int k] :: t) := fun _ _ => rfl
  have ix1 : ∀ c k : Int, opt2 fIx (.h 0) (.d (.int 1)) (some [.lst (ns.map D.int), .int c, .int k] :: t) = .ok (.d (.int c)) (some [.lst (ns.map D.int), .int c, .int k] :: t) := fun _ _ => rfl
  refine st_mid (fun ρ' s' => (∃ a b, ρ' = [some (.h 0), some (.d (.int m)), a, b, none]) ∧ ∃ c k : Int, s' = some [.lst (ns.map D.int), .int c, .int k] :: t ∧ 0 ≤ c ∧ 0 ≤ k) ?_ ?_
  · refine st_if (b := c == 0) (s' := some [.lst (ns.map D.int), .int c, .int k] :: t) (by simp only [op1, op2, opL, opS, argC, argN, slN, slS, andV, orV, notV, tstV, andT, orT, notT, ifE, truT, chn, calL, itS, itR1, Y.M.bnd, Y.M.ret, cst, getL, gB, gI, gD, o_add, o_sub, o_eq, o_ne, o_eqB, o_ltY, o_leY, o_gtY, o_geY, o_int, o_intB, o_abs, o_lenT, o_lenL, o_lenF, o_tupL, o_tupT, o_listT, o_listL, o_isi, o_slT, o_slL, o_is, o_isnot, o_tru, o_truT, o_truL, ↓reduceIte, List.map_cons, List.map_nil, List.cons_append, List.nil_append, List.length_cons, List.length_nil, List.replicate, List.getElem?_cons_zero, List.getElem?_cons_succ, List.set_cons_zero, List.set_cons_succ, Nat.reduceAdd, Nat.reduceSub, Nat.zero_add, ix1]) (fun h0 => ?_) (fun h0 => ?_)
    · refine st_set rfl ?_
      refine st_set rfl ?_
      refine st_mid (fun ρ' s' => (∃ v : Int, 0 ≤ v ∧ ρ' = [some (.h 0), some (.d (.int m)), some (.d (.int k)), some (.d (.int v)), none]) ∧ s' = some [.lst (ns.map D.int), .int c, .int k] :: t) ?_ ?_
      · refine st_if (b := decide (k < ((ns.map D.int).length : Nat))) rfl (fun hl => ?_) (fun hl => ?_)
        · have hlt := of_decide_eq_true hl
          rw [List.length_map] at hlt
          refine st_setE (x := .d (.int (if ns.getD k.toNat 0 < 0 then -(ns.getD k.toNat 0) else ns.getD k.toNat 0))) (s' := some [.lst (ns.map D.int), .int c, .int k] :: t) ?_ ?_
          · simp only [op1, op2, opL, opS, argC, argN, slN, slS, andV, orV, notV, tstV, andT, orT, notT, ifE, truT, chn, calL, itS, itR1, Y.M.bnd, Y.M.ret, cst, getL, gB, gI, gD, o_add, o_sub, o_eq, o_ne, o_eqB, o_ltY, o_leY, o_gtY, o_geY, o_int, o_intB, o_abs, o_lenT, o_lenL, o_lenF, o_tupL, o_tupT, o_listT, o_listL, o_isi, o_slT, o_slL, o_is, o_isnot, o_tru, o_truT, o_truL, ↓reduceIte, List.map_cons, List.map_nil, List.cons_append, List.nil_append, List.length_cons, List.length_nil, List.replicate, List.getElem?_cons_zero, List.getElem?_cons_succ, List.set_cons_zero, List.set_cons_succ, Nat.reduceAdd, Nat.reduceSub, Nat.zero_add, ix0, o_ixL (atI_ints hk hlt)]
          · exact ⟨rfl, ⟨_, by split <;> omega, rfl⟩, rfl⟩
        · exact ⟨rfl, ⟨7 + k, by omega, rfl⟩, rfl⟩
      · rintro ρ' s' ⟨⟨v, hv, rfl⟩, rfl⟩
        refine st_mid (fun ρ' s' => (∃ v : Int, 0 ≤ v ∧ ρ' = [some (.h 0), some (.d (.int m)), some (.d (.int k)), some (.d (.int v)), none]) ∧ s' = some [.lst (ns.map D.int), .int c, .int k] :: t) ?_ ?_
        · refine st_if (b := decide (v < 10 ^ 18)) rfl (fun hl => ?_) (fun hl => ?_)
          · refine st_set (x := .d (.int ((v * 48271 + k * 69621 + 11) % 2147483647))) (s' := some [.lst (ns.map D.int), .int c, .int k] :: t) ?_ ?_
            · simp only [op1, op2, opL, opS, argC, argN, slN, slS, andV, orV, notV, tstV, andT, orT, notT, ifE, truT, chn, calL, itS, itR1, Y.M.bnd, Y.M.ret, cst, getL, gB, gI, gD, o_add, o_sub, o_eq, o_ne, o_eqB, o_ltY, o_leY, o_gtY, o_geY, o_int, o_intB, o_abs, o_lenT, o_lenL, o_lenF, o_tupL, o_tupT, o_listT, o_listL, o_isi, o_slT, o_slL, o_is, o_isnot, o_tru, o_truT, o_truL, ↓reduceIte, List.map_cons, List.map_nil, List.cons_append, List.nil_append, List.length_cons, List.length_nil, List.replicate, List.getElem?_cons_zero, List.getElem?_cons_succ, List.set_cons_zero, List.set_cons_succ, Nat.reduceAdd, Nat.reduceSub, Nat.zero_add, o_mul (i := v) (j := 48271) (.inr (by omega)), o_mul (i := k) (j := 69621) (.inr (by omega)), o_mod (j := 2147483647) (by omega)]
            · generalize hu : (v * 48271 + k * 69621 + 11) % 2147483647 = u
              have hu0 : 0 ≤ u := by rw [← hu]; exact Int.emod_nonneg _ (by decide)
              refine st_setE (x := .d (.int ((u * 16807 + 13) % 2147483647 * 65537 + u))) (s' := some [.lst (ns.map D.int), .int c, .int k] :: t) ?_ ?_
              · simp only [op1, op2, opL, opS, argC, argN, slN, slS, andV, orV, notV, tstV, andT, orT, notT, ifE, truT, chn, calL, itS, itR1, Y.M.bnd, Y.M.ret, cst, getL, gB, gI, gD, o_add, o_sub, o_eq, o_ne, o_eqB, o_ltY, o_leY, o_gtY, o_geY, o_int, o_intB, o_abs, o_lenT, o_lenL, o_lenF, o_tupL, o_tupT, o_listT, o_listL, o_isi, o_slT, o_slL, o_is, o_isnot, o_tru, o_truT, o_truL, ↓reduceIte, List.map_cons, List.map_nil, List.cons_append, List.nil_append, List.length_cons, List.length_nil, List.replicate, List.getElem?_cons_zero, List.getElem?_cons_succ, List.set_cons_zero, List.set_cons_succ, Nat.reduceAdd, Nat.reduceSub, Nat.zero_add, o_mul (i := u) (j := 16807) (.inr (by omega)), o_mul (j := 65537) (.inr (by omega)), o_mod (j := 2147483647) (by omega)]
              · have h1 : 0 ≤ (u * 16807 + 13) % 2147483647 := Int.emod_nonneg _ (by decide)
                exact ⟨rfl, ⟨_, by omega, rfl⟩, rfl⟩
          · exact ⟨rfl, ⟨v, hv, rfl⟩, rfl⟩
        · rintro ρ' s' ⟨⟨v, hv, rfl⟩, rfl⟩
          refine st_putS (n := 0) (k := 1) (y := .int v) (j := 1) rfl rfl rfl rfl rfl ?_
          refine st_put (n := 0) (k := 2) (y := .int (k + 1)) (j := 2) rfl rfl rfl rfl rfl ?_
          exact ⟨rfl, ⟨_, _, rfl⟩, v, k + 1, rfl, hv, by omega⟩
    · exact ⟨rfl, ⟨none, none, rfl⟩, c, k, rfl, hc, hk⟩
  · rintro ρ' s' ⟨⟨a, b, rfl⟩, c', k', rfl, hc', hk'⟩
    refine st_set (x := .d (.int (c' % m))) (s' := some [.lst (ns.map D.int), .int c', .int k'] :: t) (by simp only [op1, op2, opL, opS, argC, argN, slN, slS, andV, orV, notV, tstV, andT, orT, notT, ifE, truT, chn, calL, itS, itR1, Y.M.bnd, Y.M.ret, cst, getL, gB, gI, gD, o_add, o_sub, o_eq, o_ne, o_eqB, o_ltY, o_leY, o_gtY, o_geY, o_int, o_intB, o_abs, o_lenT, o_lenL, o_lenF, o_tupL, o_tupT, o_listT, o_listL, o_isi, o_slT, o_slL, o_is, o_isnot, o_tru, o_truT, o_truL, ↓reduceIte, List.map_cons, List.map_nil, List.cons_append, List.nil_append, List.length_cons, List.length_nil, List.replicate, List.getElem?_cons_zero, List.getElem?_cons_succ, List.set_cons_zero, List.set_cons_succ, Nat.reduceAdd, Nat.reduceSub, Nat.zero_add, ix1, o_mod hm]) ?_
    refine st_putS (n := 0) (k := 1) (y := .int (c' / m)) (j := 1) (by simp only [op1, op2, opL, opS, argC, argN, slN, slS, andV, orV, notV, tstV, andT, orT, notT, ifE, truT, chn, calL, itS, itR1, Y.M.bnd, Y.M.ret, cst, getL, gB, gI, gD, o_add, o_sub, o_eq, o_ne, o_eqB, o_ltY, o_leY, o_gtY, o_geY, o_int, o_intB, o_abs, o_lenT, o_lenL, o_lenF, o_tupL, o_tupT, o_listT, o_listL, o_isi, o_slT, o_slL, o_is, o_isnot, o_tru, o_truT, o_truL, ↓reduceIte, List.map_cons, List.map_nil, List.cons_append, List.nil_append, List.length_cons, List.length_nil, List.replicate, List.getElem?_cons_zero, List.getElem?_cons_succ, List.set_cons_zero, List.set_cons_succ, Nat.reduceAdd, Nat.reduceSub, Nat.zero_add, ix1, o_fdv hm hm2]) rfl rfl rfl rfl ?_
    refine st_ret rfl ?_
    refine ⟨rfl, c' % m, rfl, Int.emod_nonneg _ (by omega), Int.emod_lt_of_pos _ hm, ⟨ns, c' / m, k', t, ?_, Int.ediv_nonneg hc' (by omega), hk', hl⟩, ?_⟩
    · simp
    · simp
/-! ### models -/
theorem r_stream {d : D} {ns : List Int} (hd : seqOf d = some (ns.map D.int)) (hl : ns.length ≤ 63) : (f__law_stream [.d d] []).sat (fun x s' => x = .h 0 ∧ Strm s' ∧ s'.length = 1) NoE := by
  unfold f__law_stream s__law_stream
  refine st_run (st_retP (Q := fun x s' => x = .h 0 ∧ s' = [some [.lst (ns.map D.int), .int 0, .int 0]]) ?_ ?_)
  · simp only [v_ok, v_ret, v_bad, v_get, v_getF, v_cst, v_gB, v_gI, v_gD, v_and, v_or, v_not, v_tst, v_andT, v_orT, v_notT, v_if, v_op1, v_op2, v_opL, v_opt1, v_opt2, v_optL, v_optS, v_chn, v_argN, v_argC, v_gTup, v_gLst, v_gNew, v_truT, v_slN, v_slS, v_opS, v_isi, v_cal, v_itS, v_itR1, v_itR2, v_lcE, v_nxt, v_seq, v_set, v_asg, v_ifS, v_retS, v_exp, v_for, v_put, v_run, v_mth, v_yes, List.map_cons, List.map_nil, List.cons_append, List.nil_append, List.length_cons, List.length_nil, List.replicate, List.getElem?_cons_zero, List.getElem?_cons_succ, List.set_cons_zero, List.set_cons_succ, Option.some.injEq, exists_eq_left', exists_eq_left, Nat.reduceAdd, Nat.reduceSub, Nat.zero_add, W.d.injEq, D.int.injEq, D.bl.injEq, true_and, and_true, wipeL]
    have e : fList [] [.d d] = some (.d (.lst (ns.map D.int))) := by
      unfold fList
      simp only [vw, Option.bind_some, hd, Option.map_some]
    exact ⟨_, e, _, rfl, by show 3 ≤ cap; decide, rfl⟩
  · rintro x s' ⟨rfl, rfl⟩
    exact ⟨rfl, rfl, ⟨ns, 0, 0, [], rfl, by decide, by decide, hl⟩, rfl⟩
/-! ### what is a model -/
theorem r_is_whole (x : D) (s : Sto) : f_is_whole [.d x] s = .ok (.d (.bl (isInt x))) s := by
  refine eq_of_sat (E := NoE) ?_ fun _ _ z => z
  unfold f_is_whole s_is_whole
  refine st_run (st_retP (Q := fun x' s' => x' = .d (.bl (isInt x)) ∧ s' = s) ?_ ?_)
  · cases x <;> simp only [v_ok, v_ret, v_bad, v_get, v_getF, v_cst, v_gB, v_gI, v_gD, v_and, v_or, v_not, v_tst, v_andT, v_orT, v_notT, v_if, v_op1, v_op2, v_opL, v_opt1, v_opt2, v_optL, v_optS, v_chn, v_argN, v_argC, v_gTup, v_gLst, v_gNew, v_truT, v_slN, v_slS, v_opS, v_isi, v_cal, v_itS, v_itR1, v_itR2, v_lcE, v_nxt, v_seq, v_set, v_asg, v_ifS, v_retS, v_exp, v_for, v_put, v_run, v_mth, v_yes, List.map_cons, List.map_nil, List.cons_append, List.nil_append, List.length_cons, List.length_nil, List.replicate, List.getElem?_cons_zero, List.getElem?_cons_succ, List.set_cons_zero, List.set_cons_succ, Option.some.injEq, exists_eq_left', exists_eq_left, Nat.reduceAdd, Nat.reduceSub, Nat.zero_add, W.d.injEq, D.int.injEq, D.bl.injEq, true_and, and_true, wipeL, fAdd, fSub, fMul, fMod, fFdv, fII, fLtY, fLeY, fGtY, fGeY, fCmp, fNeg, vw, seqOf, fInt, fAbs, f1I, fLen, fTuple, fList, fIx, fSl, fIs, isNon, isT, Option.bind_some, Option.map_some, dats, truD, List.length_map, rng_len, ite_true, ite_false, Bool.not_false, isInt] <;> simp
  · rintro x' s' ⟨rfl, rfl⟩
    exact ⟨rfl, rfl, take_len rfl⟩
theorem r_is_number (x : D) (lo hi : Int) (s : Sto) : f_is_number [.d x, .d (.int lo), .d (.int hi)] s = .ok (.d (.bl (isNum lo hi x))) s := by
  refine eq_of_sat (E := NoE) ?_ fun _ _ z => z
  unfold f_is_number s_is_number
  refine st_run (st_retP (Q := fun x' s' => x' = .d (.bl (isNum lo hi x)) ∧ s' = s) ?_ ?_)
  · cases x with
    | int i =>
      by_cases h : lo ≤ i
      · simp only [v_ok, v_ret, v_bad, v_get, v_getF, v_cst, v_gB, v_gI, v_gD, v_and, v_or, v_not, v_tst, v_andT, v_orT, v_notT, v_if, v_op1, v_op2, v_opL, v_opt1, v_opt2, v_optL, v_optS, v_chn, v_argN, v_argC, v_gTup, v_gLst, v_gNew, v_truT, v_slN, v_slS, v_opS, v_isi, v_cal, v_itS, v_itR1, v_itR2, v_lcE, v_nxt, v_seq, v_set, v_asg, v_ifS, v_retS, v_exp, v_for, v_put, v_run, v_mth, v_yes, List.map_cons, List.map_nil, List.cons_append, List.nil_append, List.length_cons, List.length_nil, List.replicate, List.getElem?_cons_zero, List.getElem?_cons_succ, List.set_cons_zero, List.set_cons_succ, Option.some.injEq, exists_eq_left', exists_eq_left, Nat.reduceAdd, Nat.reduceSub, Nat.zero_add, W.d.injEq, D.int.injEq, D.bl.injEq, true_and, and_true, wipeL, fAdd, fSub, fMul, fMod, fFdv, fII, fLtY, fLeY, fGtY, fGeY, fCmp, fNeg, vw, seqOf, fInt, fAbs, f1I, fLen, fTuple, fList, fIx, fSl, fIs, isNon, isT, Option.bind_some, Option.map_some, dats, truD, List.length_map, rng_len, r_is_whole, isInt, ite_true, ite_false, Bool.not_false, h, decide_true, isNum, Bool.true_and]
      · simp only [v_ok, v_ret, v_bad, v_get, v_getF, v_cst, v_gB, v_gI, v_gD, v_and, v_or, v_not, v_tst, v_andT, v_orT, v_notT, v_if, v_op1, v_op2, v_opL, v_opt1, v_opt2, v_optL, v_optS, v_chn, v_argN, v_argC, v_gTup, v_gLst, v_gNew, v_truT, v_slN, v_slS, v_opS, v_isi, v_cal, v_itS, v_itR1, v_itR2, v_lcE, v_nxt, v_seq, v_set, v_asg, v_ifS, v_retS, v_exp, v_for, v_put, v_run, v_mth, v_yes, List.map_cons, List.map_nil, List.cons_append, List.nil_append, List.length_cons, List.length_nil, List.replicate, List.getElem?_cons_zero, List.getElem?_cons_succ, List.set_cons_zero, List.set_cons_succ, Option.some.injEq, exists_eq_left', exists_eq_left, Nat.reduceAdd, Nat.reduceSub, Nat.zero_add, W.d.injEq, D.int.injEq, D.bl.injEq, true_and, and_true, wipeL, fAdd, fSub, fMul, fMod, fFdv, fII, fLtY, fLeY, fGtY, fGeY, fCmp, fNeg, vw, seqOf, fInt, fAbs, f1I, fLen, fTuple, fList, fIx, fSl, fIs, isNon, isT, Option.bind_some, Option.map_some, dats, truD, List.length_map, rng_len, r_is_whole, isInt, ite_true, ite_false, Bool.not_false, h, decide_false, isNum, Bool.false_and]
        simp
    | _ => simp only [v_ok, v_ret, v_bad, v_get, v_getF, v_cst, v_gB, v_gI, v_gD, v_and, v_or, v_not, v_tst, v_andT, v_orT, v_notT, v_if, v_op1, v_op2, v_opL, v_opt1, v_opt2, v_optL, v_optS, v_chn, v_argN, v_argC, v_gTup, v_gLst, v_gNew, v_truT, v_slN, v_slS, v_opS, v_isi, v_cal, v_itS, v_itR1, v_itR2, v_lcE, v_nxt, v_seq, v_set, v_asg, v_ifS, v_retS, v_exp, v_for, v_put, v_run, v_mth, v_yes, List.map_cons, List.map_nil, List.cons_append, List.nil_append, List.length_cons, List.length_nil, List.replicate, List.getElem?_cons_zero, List.getElem?_cons_succ, List.set_cons_zero, List.set_cons_succ, Option.some.injEq, exists_eq_left', exists_eq_left, Nat.reduceAdd, Nat.reduceSub, Nat.zero_add, W.d.injEq, D.int.injEq, D.bl.injEq, true_and, and_true, wipeL, fAdd, fSub, fMul, fMod, fFdv, fII, fLtY, fLeY, fGtY, fGeY, fCmp, fNeg, vw, seqOf, fInt, fAbs, f1I, fLen, fTuple, fList, fIx, fSl, fIs, isNon, isT, Option.bind_some, Option.map_some, dats, truD, List.length_map, rng_len, r_is_whole, isInt, ite_true, ite_false, Bool.not_false, isNum]; simp
  · rintro x' s' ⟨rfl, rfl⟩
    exact ⟨rfl, rfl, take_len rfl⟩
theorem r_is_tuple (x : D) (lo hi : Int) (s : Sto) : f_is_tuple [.d x, .d (.int lo), .d (.int hi)] s = .ok (.d (.bl (isTup lo hi x))) s := by
  refine eq_of_sat (E := NoE) ?_ fun _ _ z => z
  unfold f_is_tuple s_is_tuple
  refine st_run (st_retP (Q := fun x' s' => x' = .d (.bl (isTup lo hi x)) ∧ s' = s) ?_ ?_)
  · cases x with
    | tup ds =>
      by_cases h : lo ≤ ds.length
      · simp only [v_ok, v_ret, v_bad, v_get, v_getF, v_cst, v_gB, v_gI, v_gD, v_and, v_or, v_not, v_tst, v_andT, v_orT, v_notT, v_if, v_op1, v_op2, v_opL, v_opt1, v_opt2, v_optL, v_optS, v_chn, v_argN, v_argC, v_gTup, v_gLst, v_gNew, v_truT, v_slN, v_slS, v_opS, v_isi, v_cal, v_itS, v_itR1, v_itR2, v_lcE, v_nxt, v_seq, v_set, v_asg, v_ifS, v_retS, v_exp, v_for, v_put, v_run, v_mth, v_yes, List.map_cons, List.map_nil, List.cons_append, List.nil_append, List.length_cons, List.length_nil, List.replicate, List.getElem?_cons_zero, List.getElem?_cons_succ, List.set_cons_zero, List.set_cons_succ, Option.some.injEq, exists_eq_left', exists_eq_left, Nat.reduceAdd, Nat.reduceSub, Nat.zero_add, W.d.injEq, D.int.injEq, D.bl.injEq, true_and, and_true, wipeL, fAdd, fSub, fMul, fMod, fFdv, fII, fLtY, fLeY, fGtY, fGeY, fCmp, fNeg, vw, seqOf, fInt, fAbs, f1I, fLen, fTuple, fList, fIx, fSl, fIs, isNon, isT, Option.bind_some, Option.map_some, dats, truD, List.length_map, rng_len, ite_true, ite_false, Bool.not_false, h, decide_true, isTup, Bool.true_and]
      · simp only [v_ok, v_ret, v_bad, v_get, v_getF, v_cst, v_gB, v_gI, v_gD, v_and, v_or, v_not, v_tst, v_andT, v_orT, v_notT, v_if, v_op1, v_op2, v_opL, v_opt1, v_opt2, v_optL, v_optS, v_chn, v_argN, v_argC, v_gTup, v_gLst, v_gNew, v_truT, v_slN, v_slS, v_opS, v_isi, v_cal, v_itS, v_itR1, v_itR2, v_lcE, v_nxt, v_seq, v_set, v_asg, v_ifS, v_retS, v_exp, v_for, v_put, v_run, v_mth, v_yes, List.map_cons, List.map_nil, List.cons_append, List.nil_append, List.length_cons, List.length_nil, List.replicate, List.getElem?_cons_zero, List.getElem?_cons_succ, List.set_cons_zero, List.set_cons_succ, Option.some.injEq, exists_eq_left', exists_eq_left, Nat.reduceAdd, Nat.reduceSub, Nat.zero_add, W.d.injEq, D.int.injEq, D.bl.injEq, true_and, and_true, wipeL, fAdd, fSub, fMul, fMod, fFdv, fII, fLtY, fLeY, fGtY, fGeY, fCmp, fNeg, vw, seqOf, fInt, fAbs, f1I, fLen, fTuple, fList, fIx, fSl, fIs, isNon, isT, Option.bind_some, Option.map_some, dats, truD, List.length_map, rng_len, ite_true, ite_false, Bool.not_false, h, decide_false, isTup, Bool.false_and]
        simp
    | tux ds =>
      by_cases h : lo ≤ ds.length
      · simp only [v_ok, v_ret, v_bad, v_get, v_getF, v_cst, v_gB, v_gI, v_gD, v_and, v_or, v_not, v_tst, v_andT, v_orT, v_notT, v_if, v_op1, v_op2, v_opL, v_opt1, v_opt2, v_optL, v_optS, v_chn, v_argN, v_argC, v_gTup, v_gLst, v_gNew, v_truT, v_slN, v_slS, v_opS, v_isi, v_cal, v_itS, v_itR1, v_itR2, v_lcE, v_nxt, v_seq, v_set, v_asg, v_ifS, v_retS, v_exp, v_for, v_put, v_run, v_mth, v_yes, List.map_cons, List.map_nil, List.cons_append, List.nil_append, List.length_cons, List.length_nil, List.replicate, List.getElem?_cons_zero, List.getElem?_cons_succ, List.set_cons_zero, List.set_cons_succ, Option.some.injEq, exists_eq_left', exists_eq_left, Nat.reduceAdd, Nat.reduceSub, Nat.zero_add, W.d.injEq, D.int.injEq, D.bl.injEq, true_and, and_true, wipeL, fAdd, fSub, fMul, fMod, fFdv, fII, fLtY, fLeY, fGtY, fGeY, fCmp, fNeg, vw, seqOf, fInt, fAbs, f1I, fLen, fTuple, fList, fIx, fSl, fIs, isNon, isT, Option.bind_some, Option.map_some, dats, truD, List.length_map, rng_len, ite_true, ite_false, Bool.not_false, h, decide_true, isTup, Bool.true_and]
      · simp only [v_ok, v_ret, v_bad, v_get, v_getF, v_cst, v_gB, v_gI, v_gD, v_and, v_or, v_not, v_tst, v_andT, v_orT, v_notT, v_if, v_op1, v_op2, v_opL, v_opt1, v_opt2, v_optL, v_optS, v_chn, v_argN, v_argC, v_gTup, v_gLst, v_gNew, v_truT, v_slN, v_slS, v_opS, v_isi, v_cal, v_itS, v_itR1, v_itR2, v_lcE, v_nxt, v_seq, v_set, v_asg, v_ifS, v_retS, v_exp, v_for, v_put, v_run, v_mth, v_yes, List.map_cons, List.map_nil, List.cons_append, List.nil_append, List.length_cons, List.length_nil, List.replicate, List.getElem?_cons_zero, List.getElem?_cons_succ, List.set_cons_zero, List.set_cons_succ, Option.some.injEq, exists_eq_left', exists_eq_left, Nat.reduceAdd, Nat.reduceSub, Nat.zero_add, W.d.injEq, D.int.injEq, D.bl.injEq, true_and, and_true, wipeL, fAdd, fSub, fMul, fMod, fFdv, fII, fLtY, fLeY, fGtY, fGeY, fCmp, fNeg, vw, seqOf, fInt, fAbs, f1I, fLen, fTuple, fList, fIx, fSl, fIs, isNon, isT, Option.bind_some, Option.map_some, dats, truD, List.length_map, rng_len, ite_true, ite_false, Bool.not_false, h, decide_false, isTup, Bool.false_and]
        simp
    | _ => simp only [v_ok, v_ret, v_bad, v_get, v_getF, v_cst, v_gB, v_gI, v_gD, v_and, v_or, v_not, v_tst, v_andT, v_orT, v_notT, v_if, v_op1, v_op2, v_opL, v_opt1, v_opt2, v_optL, v_optS, v_chn, v_argN, v_argC, v_gTup, v_gLst, v_gNew, v_truT, v_slN, v_slS, v_opS, v_isi, v_cal, v_itS, v_itR1, v_itR2, v_lcE, v_nxt, v_seq, v_set, v_asg, v_ifS, v_retS, v_exp, v_for, v_put, v_run, v_mth, v_yes, List.map_cons, List.map_nil, List.cons_append, List.nil_append, List.length_cons, List.length_nil, List.replicate, List.getElem?_cons_zero, List.getElem?_cons_succ, List.set_cons_zero, List.set_cons_succ, Option.some.injEq, exists_eq_left', exists_eq_left, Nat.reduceAdd, Nat.reduceSub, Nat.zero_add, W.d.injEq, D.int.injEq, D.bl.injEq, true_and, and_true, wipeL, fAdd, fSub, fMul, fMod, fFdv, fII, fLtY, fLeY, fGtY, fGeY, fCmp, fNeg, vw, seqOf, fInt, fAbs, f1I, fLen, fTuple, fList, fIx, fSl, fIs, isNon, isT, Option.bind_some, Option.map_some, dats, truD, List.length_map, rng_len, ite_true, ite_false, Bool.not_false, isTup]; simp
  · rintro x' s' ⟨rfl, rfl⟩
    exact ⟨rfl, rfl, take_len rfl⟩

theorem r_are_numbers {ds : List D} (hc : ds.length ≤ cap) (lo hi : Int) (s : Sto) : f_are_numbers [.d (.tup ds), .d (.int lo), .d (.int hi)] s = .ok (.d (.bl (ds.all (isNum lo hi)))) s := by
  refine eq_of_sat (E := NoE) ?_ fun _ _ z => z
  unfold f_are_numbers s_are_numbers
  refine st_run (st_retP (Q := fun x' s' => x' = .d (.bl (ds.all (isNum lo hi))) ∧ s' = s) ?_ ?_)
  · simp only [v_ok, v_ret, v_bad, v_get, v_getF, v_cst, v_gB, v_gI, v_gD, v_and, v_or, v_not, v_tst, v_andT, v_orT, v_notT, v_if, v_op1, v_op2, v_opL, v_opt1, v_opt2, v_optL, v_optS, v_chn, v_argN, v_argC, v_gTup, v_gLst, v_gNew, v_truT, v_slN, v_slS, v_opS, v_isi, v_cal, v_itS, v_itR1, v_itR2, v_lcE, v_nxt, v_seq, v_set, v_asg, v_ifS, v_retS, v_exp, v_for, v_put, v_run, v_mth, v_yes, List.map_cons, List.map_nil, List.cons_append, List.nil_append, List.length_cons, List.length_nil, List.replicate, List.getElem?_cons_zero, List.getElem?_cons_succ, List.set_cons_zero, List.set_cons_succ, Option.some.injEq, exists_eq_left', exists_eq_left, Nat.reduceAdd, Nat.reduceSub, Nat.zero_add, W.d.injEq, D.int.injEq, D.bl.injEq, true_and, and_true, wipeL]
    refine ⟨_, ds, rfl, rfl, hc, ?_⟩
    refine (lc_map (fun d => .bl (isNum lo hi d)) ?_).mono ?_ fun _ _ z => z
    · intro d hd
      refine ⟨_, rfl, ?_⟩
      simp only [v_ok, v_ret, v_bad, v_get, v_getF, v_cst, v_gB, v_gI, v_gD, v_and, v_or, v_not, v_tst, v_andT, v_orT, v_notT, v_if, v_op1, v_op2, v_opL, v_opt1, v_opt2, v_optL, v_optS, v_chn, v_argN, v_argC, v_gTup, v_gLst, v_gNew, v_truT, v_slN, v_slS, v_opS, v_isi, v_cal, v_itS, v_itR1, v_itR2, v_lcE, v_nxt, v_seq, v_set, v_asg, v_ifS, v_retS, v_exp, v_for, v_put, v_run, v_mth, v_yes, List.map_cons, List.map_nil, List.cons_append, List.nil_append, List.length_cons, List.length_nil, List.replicate, List.getElem?_cons_zero, List.getElem?_cons_succ, List.set_cons_zero, List.set_cons_succ, Option.some.injEq, exists_eq_left', exists_eq_left, Nat.reduceAdd, Nat.reduceSub, Nat.zero_add, W.d.injEq, D.int.injEq, D.bl.injEq, true_and, and_true, wipeL]
      rw [r_is_number]
      exact ⟨rfl, rfl⟩
    · rintro r s' ⟨rfl, rfl⟩
      exact ⟨_, x_allM, rfl, rfl⟩
  · rintro x' s' ⟨rfl, rfl⟩
    exact ⟨rfl, rfl, take_len rfl⟩
theorem r_is_table (x : D) (hx : noX x = true) (r c : Int) (hr : r ≤ 100000) (hc : c ≤ 100000) (s : Sto) : f_is_table [.d x, .d (.int r), .d (.int c)] s = .ok (.d (.bl (isTab r c x))) s := by
  refine eq_of_sat (E := NoE) ?_ fun _ _ z => z
  unfold f_is_table s_is_table
  refine st_run ?_
  refine st_ifS (b := !(isTup r r x)) (s' := s) (by simp only [op1, op2, opL, opS, argC, argN, slN, slS, andV, orV, notV, tstV, andT, orT, notT, ifE, truT, chn, calL, itS, itR1, Y.M.bnd, Y.M.ret, cst, getL, gB, gI, gD, o_add, o_sub, o_eq, o_ne, o_eqB, o_ltY, o_leY, o_gtY, o_geY, o_int, o_intB, o_abs, o_lenT, o_lenL, o_lenF, o_tupL, o_tupT, o_listT, o_listL, o_isi, o_slT, o_slL, o_is, o_isnot, o_tru, o_truT, o_truL, ↓reduceIte, List.map_cons, List.map_nil, List.cons_append, List.nil_append, List.length_cons, List.length_nil, List.replicate, List.getElem?_cons_zero, List.getElem?_cons_succ, List.set_cons_zero, List.set_cons_succ, Nat.reduceAdd, Nat.reduceSub, Nat.zero_add, r_is_tuple]) (fun h => ?_) (fun h => ?_)
  · have h' : isTup r r x = false := by simpa using h
    refine st_retS (st_ret (x := .d (.bl false)) (s' := s) rfl ?_)
    refine ⟨rfl, ?_, take_len rfl⟩
    unfold isTab
    rw [h', Bool.false_and]
  · have h' : isTup r r x = true := by simpa using h
    obtain ⟨ds, rfl, h1, h2⟩ := isTup_tup hx h'
    refine st_nxt (st_retP (Q := fun x' s' => x' = .d (.bl (ds.all (isRow c))) ∧ s' = s) ?_ ?_)
    · simp only [v_ok, v_ret, v_bad, v_get, v_getF, v_cst, v_gB, v_gI, v_gD, v_and, v_or, v_not, v_tst, v_andT, v_orT, v_notT, v_if, v_op1, v_op2, v_opL, v_opt1, v_opt2, v_optL, v_optS, v_chn, v_argN, v_argC, v_gTup, v_gLst, v_gNew, v_truT, v_slN, v_slS, v_opS, v_isi, v_cal, v_itS, v_itR1, v_itR2, v_lcE, v_nxt, v_seq, v_set, v_asg, v_ifS, v_retS, v_exp, v_for, v_put, v_run, v_mth, v_yes, List.map_cons, List.map_nil, List.cons_append, List.nil_append, List.length_cons, List.length_nil, List.replicate, List.getElem?_cons_zero, List.getElem?_cons_succ, List.set_cons_zero, List.set_cons_succ, Option.some.injEq, exists_eq_left', exists_eq_left, Nat.reduceAdd, Nat.reduceSub, Nat.zero_add, W.d.injEq, D.int.injEq, D.bl.injEq, true_and, and_true, wipeL]
      refine ⟨_, ds, rfl, rfl, by unfold cap; omega, ?_⟩
      refine (lc_map (fun d => .bl (isRow c d)) ?_).mono ?_ fun _ _ z => z
      · intro d hd
        refine ⟨_, rfl, ?_⟩
        simp only [v_ok, v_ret, v_bad, v_get, v_getF, v_cst, v_gB, v_gI, v_gD, v_and, v_or, v_not, v_tst, v_andT, v_orT, v_notT, v_if, v_op1, v_op2, v_opL, v_opt1, v_opt2, v_optL, v_optS, v_chn, v_argN, v_argC, v_gTup, v_gLst, v_gNew, v_truT, v_slN, v_slS, v_opS, v_isi, v_cal, v_itS, v_itR1, v_itR2, v_lcE, v_nxt, v_seq, v_set, v_asg, v_ifS, v_retS, v_exp, v_for, v_put, v_run, v_mth, v_yes, List.map_cons, List.map_nil, List.cons_append, List.nil_append, List.length_cons, List.length_nil, List.replicate, List.getElem?_cons_zero, List.getElem?_cons_succ, List.set_cons_zero, List.set_cons_succ, Option.some.injEq, exists_eq_left', exists_eq_left, Nat.reduceAdd, Nat.reduceSub, Nat.zero_add, W.d.injEq, D.int.injEq, D.bl.injEq, true_and, and_true, wipeL]
        rw [r_is_tuple]
        refine ⟨_, rfl, ?_⟩
        unfold isRow
        by_cases h3 : isTup c c d = true
        · rw [if_pos h3, h3, Bool.true_and]
          obtain ⟨es, rfl, h4, h5⟩ := isTup_tup (noXs_mem hx hd) h3
          rw [r_are_numbers (by unfold cap; omega)]
          exact ⟨rfl, rfl⟩
        · have h3' : isTup c c d = false := by simpa using h3
          rw [if_neg h3, h3', Bool.false_and]
          exact ⟨rfl, rfl⟩
      · rintro q s' ⟨rfl, rfl⟩
        exact ⟨_, x_allM, rfl, rfl⟩
    · rintro x' s' ⟨rfl, rfl⟩
      refine ⟨rfl, ?_, take_len rfl⟩
      unfold isTab
      rw [h', Bool.true_and]
theorem r_is_model (x : D) (hx : noX x = true) (s : Sto) : f_is_model [.d x] s = .ok (.d (.bl (isMdlD x))) s := by
  refine eq_of_sat (E := NoE) ?_ fun _ _ z => z
  unfold f_is_model s_is_model
  refine st_run ?_
  refine st_ifS (b := !(isTup 3 3 x)) (s' := s) (by simp only [op1, op2, opL, opS, argC, argN, slN, slS, andV, orV, notV, tstV, andT, orT, notT, ifE, truT, chn, calL, itS, itR1, Y.M.bnd, Y.M.ret, cst, getL, gB, gI, gD, o_add, o_sub, o_eq, o_ne, o_eqB, o_ltY, o_leY, o_gtY, o_geY, o_int, o_intB, o_abs, o_lenT, o_lenL, o_lenF, o_tupL, o_tupT, o_listT, o_listL, o_isi, o_slT, o_slL, o_is, o_isnot, o_tru, o_truT, o_truL, ↓reduceIte, List.map_cons, List.map_nil, List.cons_append, List.nil_append, List.length_cons, List.length_nil, List.replicate, List.getElem?_cons_zero, List.getElem?_cons_succ, List.set_cons_zero, List.set_cons_succ, Nat.reduceAdd, Nat.reduceSub, Nat.zero_add, r_is_tuple]) (fun g => ?_) (fun g => ?_)
  · refine st_retS (st_ret (x := .d (.bl false)) (s' := s) rfl ?_)
    refine ⟨rfl, ?_, take_len rfl⟩
    have h' : isTup 3 3 x = false := by simpa using g
    unfold isMdlD
    split
    · rename_i b c h
      exact absurd h' (by simp [isTup])
    · rfl
  have h' : isTup 3 3 x = true := by simpa using g
  obtain ⟨ds, rfl, h1, h2⟩ := isTup_tup hx h'
  obtain ⟨b, c, h, rfl⟩ : ∃ b c h, ds = [b, c, h] := by
    match ds, h1, h2 with
    | [b, c, h], _, _ => exact ⟨b, c, h, rfl⟩
    | [], h1, _ => simp at h1
    | [_], h1, _ => simp at h1
    | [_, _], h1, _ => simp at h1
    | _ :: _ :: _ :: _ :: _, _, h2 => simp at h2; omega
  have hxb : noX b = true := noXs_mem hx (by simp)
  have hxc : noX c = true := noXs_mem hx (by simp)
  have hxh : noX h = true := noXs_mem hx (by simp)
  refine st_nxt ?_
  refine st_asg (s' := s) rfl rfl ?_
  by_cases hb : isTup 1 3 b = true
  case neg =>
    have hb' : isTup 1 3 b = false := by simpa using hb
    refine st_ifS (b := true) (s' := s) (by simp only [op1, op2, opL, opS, argC, argN, slN, slS, andV, orV, notV, tstV, andT, orT, notT, ifE, truT, chn, calL, itS, itR1, Y.M.bnd, Y.M.ret, cst, getL, gB, gI, gD, o_add, o_sub, o_eq, o_ne, o_eqB, o_ltY, o_leY, o_gtY, o_geY, o_int, o_intB, o_abs, o_lenT, o_lenL, o_lenF, o_tupL, o_tupT, o_listT, o_listL, o_isi, o_slT, o_slL, o_is, o_isnot, o_tru, o_truT, o_truL, ↓reduceIte, List.map_cons, List.map_nil, List.cons_append, List.nil_append, List.length_cons, List.length_nil, List.replicate, List.getElem?_cons_zero, List.getElem?_cons_succ, List.set_cons_zero, List.set_cons_succ, Nat.reduceAdd, Nat.reduceSub, Nat.zero_add, r_is_tuple, hb', Bool.not_false]) (fun _ => ?_) (fun z => by cases z)
    refine st_retS (st_ret (x := .d (.bl false)) (s' := s) rfl ?_)
    refine ⟨rfl, ?_, take_len rfl⟩
    unfold isMdlD
    simp only [hb', Bool.false_and]
  obtain ⟨bs, rfl, hb1, hb2⟩ := isTup_tup hxb hb
  by_cases hbn : bs.all (isNum 0 3) = true
  case neg =>
    have hbn' : bs.all (isNum 0 3) = false := by simpa using hbn
    refine st_ifS (b := true) (s' := s) (by simp only [op1, op2, opL, opS, argC, argN, slN, slS, andV, orV, notV, tstV, andT, orT, notT, ifE, truT, chn, calL, itS, itR1, Y.M.bnd, Y.M.ret, cst, getL, gB, gI, gD, o_add, o_sub, o_eq, o_ne, o_eqB, o_ltY, o_leY, o_gtY, o_geY, o_int, o_intB, o_abs, o_lenT, o_lenL, o_lenF, o_tupL, o_tupT, o_listT, o_listL, o_isi, o_slT, o_slL, o_is, o_isnot, o_tru, o_truT, o_truL, ↓reduceIte, List.map_cons, List.map_nil, List.cons_append, List.nil_append, List.length_cons, List.length_nil, List.replicate, List.getElem?_cons_zero, List.getElem?_cons_succ, List.set_cons_zero, List.set_cons_succ, Nat.reduceAdd, Nat.reduceSub, Nat.zero_add, r_is_tuple, hb, Bool.not_true, Bool.false_eq_true, r_are_numbers (ds := bs) (by unfold cap; omega), hbn', Bool.not_false]) (fun _ => ?_) (fun z => by cases z)
    refine st_retS (st_ret (x := .d (.bl false)) (s' := s) rfl ?_)
    refine ⟨rfl, ?_, take_len rfl⟩
    unfold isMdlD
    simp only [hb, hbn', Bool.false_and, Bool.and_false]
  refine st_ifS (b := false) (s' := s) (by simp only [op1, op2, opL, opS, argC, argN, slN, slS, andV, orV, notV, tstV, andT, orT, notT, ifE, truT, chn, calL, itS, itR1, Y.M.bnd, Y.M.ret, cst, getL, gB, gI, gD, o_add, o_sub, o_eq, o_ne, o_eqB, o_ltY, o_leY, o_gtY, o_geY, o_int, o_intB, o_abs, o_lenT, o_lenL, o_lenF, o_tupL, o_tupT, o_listT, o_listL, o_isi, o_slT, o_slL, o_is, o_isnot, o_tru, o_truT, o_truL, ↓reduceIte, List.map_cons, List.map_nil, List.cons_append, List.nil_append, List.length_cons, List.length_nil, List.replicate, List.getElem?_cons_zero, List.getElem?_cons_succ, List.set_cons_zero, List.set_cons_succ, Nat.reduceAdd, Nat.reduceSub, Nat.zero_add, r_is_tuple, hb, Bool.not_true, Bool.false_eq_true, r_are_numbers (ds := bs) (by unfold cap; omega), hbn]) (fun z => by cases z) (fun _ => st_nxt ?_)
  refine st_set (x := .d (.int bs.length)) (s' := s) (by simp only [op1, op2, opL, opS, argC, argN, slN, slS, andV, orV, notV, tstV, andT, orT, notT, ifE, truT, chn, calL, itS, itR1, Y.M.bnd, Y.M.ret, cst, getL, gB, gI, gD, o_add, o_sub, o_eq, o_ne, o_eqB, o_ltY, o_leY, o_gtY, o_geY, o_int, o_intB, o_abs, o_lenT, o_lenL, o_lenF, o_tupL, o_tupT, o_listT, o_listL, o_isi, o_slT, o_slL, o_is, o_isnot, o_tru, o_truT, o_truL, ↓reduceIte, List.map_cons, List.map_nil, List.cons_append, List.nil_append, List.length_cons, List.length_nil, List.replicate, List.getElem?_cons_zero, List.getElem?_cons_succ, List.set_cons_zero, List.set_cons_succ, Nat.reduceAdd, Nat.reduceSub, Nat.zero_add]) ?_
  by_cases hct : isTab bs.length bs.length c = true
  case neg =>
    have hct' : isTab bs.length bs.length c = false := by simpa using hct
    refine st_ifS (b := true) (s' := s) (by simp only [op1, op2, opL, opS, argC, argN, slN, slS, andV, orV, notV, tstV, andT, orT, notT, ifE, truT, chn, calL, itS, itR1, Y.M.bnd, Y.M.ret, cst, getL, gB, gI, gD, o_add, o_sub, o_eq, o_ne, o_eqB, o_ltY, o_leY, o_gtY, o_geY, o_int, o_intB, o_abs, o_lenT, o_lenL, o_lenF, o_tupL, o_tupT, o_listT, o_listL, o_isi, o_slT, o_slL, o_is, o_isnot, o_tru, o_truT, o_truL, ↓reduceIte, List.map_cons, List.map_nil, List.cons_append, List.nil_append, List.length_cons, List.length_nil, List.replicate, List.getElem?_cons_zero, List.getElem?_cons_succ, List.set_cons_zero, List.set_cons_succ, Nat.reduceAdd, Nat.reduceSub, Nat.zero_add, r_is_table c hxc bs.length bs.length (by omega) (by omega), hct', Bool.not_false]) (fun _ => ?_) (fun z => by cases z)
    refine st_retS (st_ret (x := .d (.bl false)) (s' := s) rfl ?_)
    refine ⟨rfl, ?_, take_len rfl⟩
    unfold isMdlD
    simp only [hb, hbn, hct', Bool.false_and, Bool.and_false]
  by_cases hht : isTup bs.length bs.length h = true
  case neg =>
    have hht' : isTup bs.length bs.length h = false := by simpa using hht
    refine st_ifS (b := true) (s' := s) (by simp only [op1, op2, opL, opS, argC, argN, slN, slS, andV, orV, notV, tstV, andT, orT, notT, ifE, truT, chn, calL, itS, itR1, Y.M.bnd, Y.M.ret, cst, getL, gB, gI, gD, o_add, o_sub, o_eq, o_ne, o_eqB, o_ltY, o_leY, o_gtY, o_geY, o_int, o_intB, o_abs, o_lenT, o_lenL, o_lenF, o_tupL, o_tupT, o_listT, o_listL, o_isi, o_slT, o_slL, o_is, o_isnot, o_tru, o_truT, o_truL, ↓reduceIte, List.map_cons, List.map_nil, List.cons_append, List.nil_append, List.length_cons, List.length_nil, List.replicate, List.getElem?_cons_zero, List.getElem?_cons_succ, List.set_cons_zero, List.set_cons_succ, Nat.reduceAdd, Nat.reduceSub, Nat.zero_add, r_is_table c hxc bs.length bs.length (by omega) (by omega), hct, Bool.not_true, Bool.false_eq_true, r_is_tuple, hht', Bool.not_false]) (fun _ => ?_) (fun z => by cases z)
    refine st_retS (st_ret (x := .d (.bl false)) (s' := s) rfl ?_)
    refine ⟨rfl, ?_, take_len rfl⟩
    unfold isMdlD
    simp only [hb, hbn, hct, hht', Bool.false_and, Bool.and_false]
  refine st_ifS (b := false) (s' := s) (by simp only [op1, op2, opL, opS, argC, argN, slN, slS, andV, orV, notV, tstV, andT, orT, notT, ifE, truT, chn, calL, itS, itR1, Y.M.bnd, Y.M.ret, cst, getL, gB, gI, gD, o_add, o_sub, o_eq, o_ne, o_eqB, o_ltY, o_leY, o_gtY, o_geY, o_int, o_intB, o_abs, o_lenT, o_lenL, o_lenF, o_tupL, o_tupT, o_listT, o_listL, o_isi, o_slT, o_slL, o_is, o_isnot, o_tru, o_truT, o_truL, ↓reduceIte, List.map_cons, List.map_nil, List.cons_append, List.nil_append, List.length_cons, List.length_nil, List.replicate, List.getElem?_cons_zero, List.getElem?_cons_succ, List.set_cons_zero, List.set_cons_succ, Nat.reduceAdd, Nat.reduceSub, Nat.zero_add, r_is_table c hxc bs.length bs.length (by omega) (by omega), hct, Bool.not_true, Bool.false_eq_true, r_is_tuple, hht]) (fun z => by cases z) (fun _ => st_nxt ?_)
  obtain ⟨hs, rfl, hh1, hh2⟩ := isTup_tup hxh hht
  obtain ⟨r, hs, rfl⟩ : ∃ r t, hs = r :: t := by
    cases hs with
    | nil => rw [List.length_nil] at hh1; omega
    | cons r t => exact ⟨r, t, rfl⟩
  have i0 : ∀ s, opt2 fIx (.d (.tup (r :: hs))) (.d (.int 0)) s = .ok (.d r) s := fun s => o_ixT (atI_nat (j := 0) rfl)
  refine st_ret (x := .d (.bl (isMdlD (.tup [.tup bs, c, .tup (r :: hs)])))) (s' := s) ?_ ⟨rfl, rfl, take_len rfl⟩
  by_cases hr : isTup 1 3 r = true
  case neg =>
    have hr' : isTup 1 3 r = false := by simpa using hr
    unfold isMdlD
    simp only [op1, op2, opL, opS, argC, argN, slN, slS, andV, orV, notV, tstV, andT, orT, notT, ifE, truT, chn, calL, itS, itR1, Y.M.bnd, Y.M.ret, cst, getL, gB, gI, gD, o_add, o_sub, o_eq, o_ne, o_eqB, o_ltY, o_leY, o_gtY, o_geY, o_int, o_intB, o_abs, o_lenT, o_lenL, o_lenF, o_tupL, o_tupT, o_listT, o_listL, o_isi, o_slT, o_slL, o_is, o_isnot, o_tru, o_truT, o_truL, ↓reduceIte, List.map_cons, List.map_nil, List.cons_append, List.nil_append, List.length_cons, List.length_nil, List.replicate, List.getElem?_cons_zero, List.getElem?_cons_succ, List.set_cons_zero, List.set_cons_succ, Nat.reduceAdd, Nat.reduceSub, Nat.zero_add, i0, r_is_tuple, hr', Bool.false_and, Bool.and_false, Bool.false_eq_true]
  obtain ⟨rs, rfl, hr1, hr2⟩ := isTup_tup (noXs_mem hxh List.mem_cons_self) hr
  unfold isMdlD
  simp only [op1, op2, opL, opS, argC, argN, slN, slS, andV, orV, notV, tstV, andT, orT, notT, ifE, truT, chn, calL, itS, itR1, Y.M.bnd, Y.M.ret, cst, getL, gB, gI, gD, o_add, o_sub, o_eq, o_ne, o_eqB, o_ltY, o_leY, o_gtY, o_geY, o_int, o_intB, o_abs, o_lenT, o_lenL, o_lenF, o_tupL, o_tupT, o_listT, o_listL, o_isi, o_slT, o_slL, o_is, o_isnot, o_tru, o_truT, o_truL, ↓reduceIte, List.map_cons, List.map_nil, List.cons_append, List.nil_append, List.length_cons, List.length_nil, List.replicate, List.getElem?_cons_zero, List.getElem?_cons_succ, List.set_cons_zero, List.set_cons_succ, Nat.reduceAdd, Nat.reduceSub, Nat.zero_add, i0, r_is_tuple, hr, r_is_table (.tup (.tup rs :: hs)) hxh bs.length rs.length (by omega) (by omega), hb, hbn, hct, hht, Bool.true_and]

/-! ### equal to itself -/
theorem r_is_integer_int (i : Int) (s : Sto) : f__law_is_integer [.d (.int i)] s = .ok (.d (.bl true)) s := by
  refine eq_of_sat (E := NoE) ?_ fun _ _ z => z
  unfold f__law_is_integer s__law_is_integer
  refine st_run (st_ret (x := .d (.bl true)) (s' := s) rfl ⟨rfl, rfl, take_len rfl⟩)
theorem eq_seq {n : Nat} {ds : List D} {d : D} (hd : seqOf d = some ds) (hl : ds.length ≤ 100000) (ih : ∀ e ∈ ds, ∀ s, f__law_equal n [.d e, .d e] s = .ok (.d (.bl true)) s) (s : Sto) :
    (retS (opL (optL fAll) (argC (lcE [2] (itR1 (opL (optL fLen) (argC (getL 1) argN))) (bName 2) yes (calL 2 (f__law_equal n) (argC (op2 (opt2 fIx) (getL 0) (getL 2)) (argC (op2 (opt2 fIx) (getL 1) (getL 2)) argN)))) argN))
      [some (.d d), some (.d d), none] s).sat (fun r s' => r.2 = .rt (.d (.bl true)) ∧ s' = s) NoE := by
  have hlen : fLen s [.d d] = some (.d (.int ds.length)) := by cases d <;> cases hd <;> rfl
  refine st_retP (Q := fun x s' => x = .d (.bl true) ∧ s' = s) ?_ ?_
  · simp only [v_ok, v_ret, v_bad, v_get, v_getF, v_cst, v_gB, v_gI, v_gD, v_and, v_or, v_not, v_tst, v_andT, v_orT, v_notT, v_if, v_op1, v_op2, v_opL, v_opt1, v_opt2, v_optL, v_optS, v_chn, v_argN, v_argC, v_gTup, v_gLst, v_gNew, v_truT, v_slN, v_slS, v_opS, v_isi, v_cal, v_itS, v_itR1, v_itR2, v_lcE, v_nxt, v_seq, v_set, v_asg, v_ifS, v_retS, v_exp, v_for, v_put, v_run, v_mth, v_yes, List.map_cons, List.map_nil, List.cons_append, List.nil_append, List.length_cons, List.length_nil, List.replicate, List.getElem?_cons_zero, List.getElem?_cons_succ, List.set_cons_zero, List.set_cons_succ, Option.some.injEq, exists_eq_left', exists_eq_left, Nat.reduceAdd, Nat.reduceSub, Nat.zero_add, W.d.injEq, D.int.injEq, D.bl.injEq, true_and, and_true, wipeL]
    refine ⟨_, hlen, _, rfl, ⟨by omega, by omega⟩, by rw [rng_len]; unfold cap; omega, ?_⟩
    refine (lc_map (fun _ => .bl true) ?_).mono ?_ fun _ _ z => z
    · intro e he
      unfold rngD at he
      obtain ⟨j, hj, rfl⟩ := List.mem_map.mp he
      have hj' : j < ds.length := by
        have := List.mem_range.mp hj
        omega
      refine ⟨_, rfl, ?_⟩
      simp only [v_ok, v_ret, v_bad, v_get, v_getF, v_cst, v_gB, v_gI, v_gD, v_and, v_or, v_not, v_tst, v_andT, v_orT, v_notT, v_if, v_op1, v_op2, v_opL, v_opt1, v_opt2, v_optL, v_optS, v_chn, v_argN, v_argC, v_gTup, v_gLst, v_gNew, v_truT, v_slN, v_slS, v_opS, v_isi, v_cal, v_itS, v_itR1, v_itR2, v_lcE, v_nxt, v_seq, v_set, v_asg, v_ifS, v_retS, v_exp, v_for, v_put, v_run, v_mth, v_yes, List.map_cons, List.map_nil, List.cons_append, List.nil_append, List.length_cons, List.length_nil, List.replicate, List.getElem?_cons_zero, List.getElem?_cons_succ, List.set_cons_zero, List.set_cons_succ, Option.some.injEq, exists_eq_left', exists_eq_left, Nat.reduceAdd, Nat.reduceSub, Nat.zero_add, W.d.injEq, D.int.injEq, D.bl.injEq, true_and, and_true, wipeL]
      have hat : atI ds ((0 : Int) + (j : Nat)) = some ds[j] := by rw [Int.zero_add]; exact atI_nat (by simp [hj'])
      have hix : fIx s (.d d) (.d (.int (0 + (j : Nat)))) = some (.d ds[j]) := by
        cases d <;> cases hd <;> (unfold fIx; simp only [vw, seqOf, Option.bind_some, hat, Option.map_some])
      refine ⟨_, hix, _, hix, ?_⟩
      rw [ih ds[j] (List.getElem_mem hj')]
      exact ⟨rfl, rfl⟩
    · rintro r s' ⟨rfl, rfl⟩
      refine ⟨_, x_allM (p := fun _ => true), ?_, rfl⟩
      simp
  · rintro x s' ⟨rfl, rfl⟩
    exact ⟨rfl, rfl⟩

theorem r_equal : ∀ (n : Nat) (d : D), dep d < n → fine d = true → ∀ s, f__law_equal n [.d d, .d d] s = .ok (.d (.bl true)) s := by
  intro n
  induction n with
  | zero => intro d h; omega
  | succ n ih =>
    intro d hdep hf s
    refine eq_of_sat (E := NoE) ?_ fun _ _ z => z
    show (runD 0 3 (s__law_equal (f__law_equal n)) [.d d, .d d] s).sat _ _
    unfold s__law_equal
    refine st_run ?_
    cases d with
    | frz ds => cases hf
    | tux ds => cases hf
    | non =>
      refine st_ifS (b := true) (s' := s) rfl (fun _ => ?_) (fun z => by cases z)
      exact st_retS (st_ret (x := .d (.bl true)) (s' := s) rfl ⟨rfl, rfl, take_len rfl⟩)
    | bl b =>
      refine st_ifS (b := false) (s' := s) rfl (fun z => by cases z) (fun _ => st_nxt ?_)
      refine st_ifS (b := true) (s' := s) rfl (fun _ => ?_) (fun z => by cases z)
      exact st_retS (st_ret (x := .d (.bl true)) (s' := s) (by simp only [op1, op2, opL, opS, argC, argN, slN, slS, andV, orV, notV, tstV, andT, orT, notT, ifE, truT, chn, calL, itS, itR1, Y.M.bnd, Y.M.ret, cst, getL, gB, gI, gD, o_add, o_sub, o_eq, o_ne, o_eqB, o_ltY, o_leY, o_gtY, o_geY, o_int, o_intB, o_abs, o_lenT, o_lenL, o_lenF, o_tupL, o_tupT, o_listT, o_listL, o_isi, o_slT, o_slL, o_is, o_isnot, o_tru, o_truT, o_truL, ↓reduceIte, List.map_cons, List.map_nil, List.cons_append, List.nil_append, List.length_cons, List.length_nil, List.replicate, List.getElem?_cons_zero, List.getElem?_cons_succ, List.set_cons_zero, List.set_cons_succ, Nat.reduceAdd, Nat.reduceSub, Nat.zero_add, isT, beq_self_eq_true]) ⟨rfl, rfl, take_len rfl⟩)
    | int b =>
      refine st_ifS (b := false) (s' := s) rfl (fun z => by cases z) (fun _ => st_nxt ?_)
      refine st_ifS (b := false) (s' := s) rfl (fun z => by cases z) (fun _ => st_nxt ?_)
      refine st_ifS (b := true) (s' := s) rfl (fun _ => ?_) (fun z => by cases z)
      exact st_retS (st_ret (x := .d (.bl true)) (s' := s) (by simp only [op1, op2, opL, opS, argC, argN, slN, slS, andV, orV, notV, tstV, andT, orT, notT, ifE, truT, chn, calL, itS, itR1, Y.M.bnd, Y.M.ret, cst, getL, gB, gI, gD, o_add, o_sub, o_eq, o_ne, o_eqB, o_ltY, o_leY, o_gtY, o_geY, o_int, o_intB, o_abs, o_lenT, o_lenL, o_lenF, o_tupL, o_tupT, o_listT, o_listL, o_isi, o_slT, o_slL, o_is, o_isnot, o_tru, o_truT, o_truL, ↓reduceIte, List.map_cons, List.map_nil, List.cons_append, List.nil_append, List.length_cons, List.length_nil, List.replicate, List.getElem?_cons_zero, List.getElem?_cons_succ, List.set_cons_zero, List.set_cons_succ, Nat.reduceAdd, Nat.reduceSub, Nat.zero_add, isT, beq_self_eq_true, r_is_integer_int]) ⟨rfl, rfl, take_len rfl⟩)
    | str b =>
      refine st_ifS (b := false) (s' := s) rfl (fun z => by cases z) (fun _ => st_nxt ?_)
      refine st_ifS (b := false) (s' := s) rfl (fun z => by cases z) (fun _ => st_nxt ?_)
      refine st_ifS (b := false) (s' := s) rfl (fun z => by cases z) (fun _ => st_nxt ?_)
      refine st_ifS (b := true) (s' := s) rfl (fun _ => ?_) (fun z => by cases z)
      exact st_retS (st_ret (x := .d (.bl true)) (s' := s) (by simp only [op1, op2, opL, opS, argC, argN, slN, slS, andV, orV, notV, tstV, andT, orT, notT, ifE, truT, chn, calL, itS, itR1, Y.M.bnd, Y.M.ret, cst, getL, gB, gI, gD, o_add, o_sub, o_eq, o_ne, o_eqB, o_ltY, o_leY, o_gtY, o_geY, o_int, o_intB, o_abs, o_lenT, o_lenL, o_lenF, o_tupL, o_tupT, o_listT, o_listL, o_isi, o_slT, o_slL, o_is, o_isnot, o_tru, o_truT, o_truL, ↓reduceIte, List.map_cons, List.map_nil, List.cons_append, List.nil_append, List.length_cons, List.length_nil, List.replicate, List.getElem?_cons_zero, List.getElem?_cons_succ, List.set_cons_zero, List.set_cons_succ, Nat.reduceAdd, Nat.reduceSub, Nat.zero_add, isT, beq_self_eq_true, o_eqS hf hf]) ⟨rfl, rfl, take_len rfl⟩)
    | tup ds =>
      refine st_ifS (b := false) (s' := s) rfl (fun z => by cases z) (fun _ => st_nxt ?_)
      refine st_ifS (b := false) (s' := s) rfl (fun z => by cases z) (fun _ => st_nxt ?_)
      refine st_ifS (b := false) (s' := s) rfl (fun z => by cases z) (fun _ => st_nxt ?_)
      refine st_ifS (b := false) (s' := s) rfl (fun z => by cases z) (fun _ => st_nxt ?_)
      refine st_ifS (b := false) (s' := s) rfl (fun z => by cases z) (fun _ => st_nxt ?_)
      refine st_ifS (b := false) (s' := s) rfl (fun z => by cases z) (fun _ => st_nxt ?_)
      refine st_ifS (b := false) (s' := s) (by simp only [op1, op2, opL, opS, argC, argN, slN, slS, andV, orV, notV, tstV, andT, orT, notT, ifE, truT, chn, calL, itS, itR1, Y.M.bnd, Y.M.ret, cst, getL, gB, gI, gD, o_add, o_sub, o_eq, o_ne, o_eqB, o_ltY, o_leY, o_gtY, o_geY, o_int, o_intB, o_abs, o_lenT, o_lenL, o_lenF, o_tupL, o_tupT, o_listT, o_listL, o_isi, o_slT, o_slL, o_is, o_isnot, o_tru, o_truT, o_truL, ↓reduceIte, List.map_cons, List.map_nil, List.cons_append, List.nil_append, List.length_cons, List.length_nil, List.replicate, List.getElem?_cons_zero, List.getElem?_cons_succ, List.set_cons_zero, List.set_cons_succ, Nat.reduceAdd, Nat.reduceSub, Nat.zero_add, beq_self_eq_true, Bool.not_true]) (fun z => by cases z) (fun _ => st_nxt ?_)
      have hf' : (decide (ds.length ≤ 100000) && fines ds) = true := hf
      rw [Bool.and_eq_true] at hf'
      have hdep' : deps ds + 1 < n + 1 := hdep
      refine (eq_seq (n := n) (d := .tup ds) rfl (of_decide_eq_true hf'.1) (fun e he s' => ih e (by have := dep_mem he; omega) (fine_mem hf'.2 he) s') s).mono ?_ fun _ _ z => z.elim
      rintro ⟨ρ', f⟩ s' ⟨rfl, rfl⟩
      exact ⟨rfl, rfl, take_len rfl⟩
    | lst ds =>
      refine st_ifS (b := false) (s' := s) rfl (fun z => by cases z) (fun _ => st_nxt ?_)
      refine st_ifS (b := false) (s' := s) rfl (fun z => by cases z) (fun _ => st_nxt ?_)
      refine st_ifS (b := false) (s' := s) rfl (fun z => by cases z) (fun _ => st_nxt ?_)
      refine st_ifS (b := false) (s' := s) rfl (fun z => by cases z) (fun _ => st_nxt ?_)
      refine st_ifS (b := false) (s' := s) rfl (fun z => by cases z) (fun _ => st_nxt ?_)
      refine st_ifS (b := false) (s' := s) rfl (fun z => by cases z) (fun _ => st_nxt ?_)
      refine st_ifS (b := false) (s' := s) (by simp only [op1, op2, opL, opS, argC, argN, slN, slS, andV, orV, notV, tstV, andT, orT, notT, ifE, truT, chn, calL, itS, itR1, Y.M.bnd, Y.M.ret, cst, getL, gB, gI, gD, o_add, o_sub, o_eq, o_ne, o_eqB, o_ltY, o_leY, o_gtY, o_geY, o_int, o_intB, o_abs, o_lenT, o_lenL, o_lenF, o_tupL, o_tupT, o_listT, o_listL, o_isi, o_slT, o_slL, o_is, o_isnot, o_tru, o_truT, o_truL, ↓reduceIte, List.map_cons, List.map_nil, List.cons_append, List.nil_append, List.length_cons, List.length_nil, List.replicate, List.getElem?_cons_zero, List.getElem?_cons_succ, List.set_cons_zero, List.set_cons_succ, Nat.reduceAdd, Nat.reduceSub, Nat.zero_add, beq_self_eq_true, Bool.not_true]) (fun z => by cases z) (fun _ => st_nxt ?_)
      have hf' : (decide (ds.length ≤ 100000) && fines ds) = true := hf
      rw [Bool.and_eq_true] at hf'
      have hdep' : deps ds + 1 < n + 1 := hdep
      refine (eq_seq (n := n) (d := .lst ds) rfl (of_decide_eq_true hf'.1) (fun e he s' => ih e (by have := dep_mem he; omega) (fine_mem hf'.2 he) s') s).mono ?_ fun _ _ z => z.elim
      rintro ⟨ρ', f⟩ s' ⟨rfl, rfl⟩
      exact ⟨rfl, rfl, take_len rfl⟩

/-! ### rows, slices, sequences -/
theorem o_cut1 {l : List Int} {s : Sto} : optS fSl (.d (tI l)) (some 1) none s = .ok (.d (tI (l.drop 1))) s := by
  unfold tI
  rw [o_slT]
  by_cases h : 1 ≤ l.length
  · rw [show (1 : Int) = ((1 : Nat) : Int) from rfl, cut_from (i := 1) (by rw [List.length_map]; exact h), List.map_drop]
  · have : l = [] := List.length_eq_zero_iff.mp (by omega)
    subst this
    rfl
theorem seq_tI {l : List Int} : seqOf (tI l) = some (l.map D.int) := rfl
theorem t_one (x : D) (s : Sto) : gTup [.d x] s = .ok (.d (.tup [x])) s := rfl
theorem allR_all {n : Nat} : ∀ {t : Nat} {r : List Int}, RowOf n t r → r ∈ allR n t
  | 0, r, h => by
    rw [List.length_eq_zero_iff.mp h.1]
    exact List.mem_singleton.mpr rfl
  | t + 1, r, h => by
    obtain ⟨q, e, hq⟩ := snoc_of h.1
    have h2 : In n (q ++ [lst r]) := e ▸ h.2
    have h3 := In.snoc.mp h2
    unfold allR
    refine List.mem_flatMap.mpr ⟨q, allR_all ⟨hq, h3.1⟩, List.mem_map.mpr ⟨(lst r).toNat, List.mem_range.mpr (by omega), ?_⟩⟩
    rw [show (((lst r).toNat : Nat) : Int) = lst r by omega]
    exact e.symm
theorem mem_allR {n t : Nat} {r : List Int} : r ∈ allR n t ↔ RowOf n t r := ⟨fun h => allR_mem h, allR_all⟩
theorem o_last {l : List Int} (h : l ≠ []) {s : Sto} : opt2 fIx (.d (tI l)) (.d (.int (-1))) s = .ok (.d (.int (lst l))) s := by
  have hl : 0 < l.length := by
    cases l with
    | nil => exact absurd rfl h
    | cons _ _ => simp
  refine o_of (x_ix ?_)
  unfold atI ixN
  rw [if_neg (by decide), List.length_map, if_pos (by omega)]
  show (l.map D.int)[((-1 : Int) + l.length).toNat]? = _
  rw [show ((-1 : Int) + l.length).toNat = l.length - 1 by omega, List.getElem?_map, List.getElem?_eq_getElem (by omega)]
  unfold lst
  simp [List.getD, show l.length - 1 < l.length by omega]
theorem o_init {l : List Int} {s : Sto} : optS fSl (.d (tI l)) none (some (-1)) s = .ok (.d (tI l.dropLast)) s := by
  unfold tI
  rw [o_slT]
  unfold cutD
  rw [HT.sIx_none]
  have e : HT.sIx (l.map D.int).length (l.map D.int).length (some (-1)) = l.length - 1 := by
    rw [List.length_map]
    simp only [HT.sIx]
    rw [if_pos (by decide)]
    omega
  rw [e, Nat.sub_zero, List.drop_zero, List.map_dropLast, List.dropLast_eq_take, List.length_map]
theorem seq_tII {l : List (List Int)} : seqOf (tII l) = some (l.map tI) := rfl
theorem rg_at {n i : Nat} {d : D} (h : ((rg n).map D.int)[i]? = some d) : d = .int (i : Nat) ∧ i < n := by
  rw [← rg_D] at h
  exact rng_nat h
/-! ### good arguments pass -/
section
variable {lo n k : Nat} {b : List Int} {c h : List (List Int)} {sg : List Int}
theorem r_check_model (m : MOk lo n k b c h) (hlo : 1 ≤ lo) (s : Sto) : f_check_model [.d (mdl b c h)] s = .ok (.d .non) s := by
  refine eq_of_sat (E := NoE) ?_ fun _ _ z => z
  unfold f_check_model s_check_model
  refine st_run (st_if (b := false) (s' := s) (by simp only [op1, op2, opL, opS, argC, argN, slN, slS, andV, orV, notV, tstV, andT, orT, notT, ifE, truT, chn, calL, itS, itR1, Y.M.bnd, Y.M.ret, cst, getL, gB, gI, gD, o_add, o_sub, o_eq, o_ne, o_eqB, o_ltY, o_leY, o_gtY, o_geY, o_int, o_intB, o_abs, o_lenT, o_lenL, o_lenF, o_tupL, o_tupT, o_listT, o_listL, o_isi, o_slT, o_slL, o_is, o_isnot, o_tru, o_truT, o_truL, ↓reduceIte, List.map_cons, List.map_nil, List.cons_append, List.nil_append, List.length_cons, List.length_nil, List.replicate, List.getElem?_cons_zero, List.getElem?_cons_succ, List.set_cons_zero, List.set_cons_succ, Nat.reduceAdd, Nat.reduceSub, Nat.zero_add, r_is_model _ (noX_mdl b c h), isMdl_ok m hlo, Bool.not_true]) (fun z => by cases z) fun _ => ?_)
  exact ⟨rfl, take_len rfl⟩
end
/-! ### the greatest and the least of ints, as functions -/
def maxL (l : List Int) : Int := match l with
  | [] => 0
  | x :: r => maxI r x
def minL (l : List Int) : Int := match l with
  | [] => 0
  | x :: r => minI r x
theorem maxL_ge {l : List Int} {y : Int} (h : y ∈ l) : y ≤ maxL l := by
  cases l with
  | nil => cases h
  | cons x r =>
    have := maxI_is r x
    rcases List.mem_cons.mp h with rfl | h
    · exact this.2.1
    · exact this.2.2 y h
theorem maxL_mem {l : List Int} (h : l ≠ []) : maxL l ∈ l := by
  cases l with
  | nil => exact absurd rfl h
  | cons x r =>
    rcases (maxI_is r x).1 with e | e
    · rw [show maxL (x :: r) = maxI r x from rfl, e]; exact List.mem_cons_self
    · exact List.mem_cons_of_mem _ e
theorem minL_le {l : List Int} {y : Int} (h : y ∈ l) : minL l ≤ y := by
  cases l with
  | nil => cases h
  | cons x r =>
    have := minI_is r x
    rcases List.mem_cons.mp h with rfl | h
    · exact this.2.1
    · exact this.2.2 y h
theorem minL_mem {l : List Int} (h : l ≠ []) : minL l ∈ l := by
  cases l with
  | nil => exact absurd rfl h
  | cons x r =>
    rcases (minI_is r x).1 with e | e
    · rw [show minL (x :: r) = minI r x from rfl, e]; exact List.mem_cons_self
    · exact List.mem_cons_of_mem _ e
theorem minL_uniq {l : List Int} {m : Int} (h1 : m ∈ l) (h2 : ∀ y ∈ l, m ≤ y) : minL l = m := by
  have h3 : l ≠ [] := fun z => by rw [z] at h1; cases h1
  have h4 := h2 _ (minL_mem h3)
  have h5 := minL_le h1
  omega
theorem maxL_uniq {l : List Int} {m : Int} (h1 : m ∈ l) (h2 : ∀ y ∈ l, y ≤ m) : maxL l = m := by
  have h3 : l ≠ [] := fun z => by rw [z] at h1; cases h1
  have h4 := h2 _ (maxL_mem h3)
  have h5 := maxL_ge h1
  omega
theorem o_maxD {l : List Int} (h : l ≠ []) {d : D} (hd : seqOf d = some (l.map D.int)) {s : Sto} : optL (fBest true) [.d d] s = .ok (.d (.int (maxL l))) s := by
  cases l with
  | nil => exact absurd rfl h
  | cons x l =>
    rw [o_best (x := .int x) (ds := l.map D.int) hd (okBest_ints (x :: l)), best_max]
    rfl
theorem o_minD {l : List Int} (h : l ≠ []) {d : D} (hd : seqOf d = some (l.map D.int)) {s : Sto} : optL (fBest false) [.d d] s = .ok (.d (.int (minL l))) s := by
  cases l with
  | nil => exact absurd rfl h
  | cons x l =>
    rw [o_best (x := .int x) (ds := l.map D.int) hd (okBest_ints (x :: l)), best_min]
    rfl
theorem best_vw {mx : Bool} {a b : W} {s : Sto} (e : vw s a = vw s b) : optL (fBest mx) [a] s = optL (fBest mx) [b] s := by
  have : fBest mx s [a] = fBest mx s [b] := by
    unfold fBest
    simp only [e]
  unfold optL
  rw [this]
theorem o_minH {l : List Int} (h : l ≠ []) {n : Nat} {s : Sto} (hs : s[n]? = some (some (l.map D.int))) : optL (fBest false) [.h n] s = .ok (.d (.int (minL l))) s := by
  rw [best_vw (b := .d (.lst (l.map D.int))) (by simp only [vw, hs]), o_minD h rfl]
theorem o_maxH {l : List Int} (h : l ≠ []) {n : Nat} {s : Sto} (hs : s[n]? = some (some (l.map D.int))) : optL (fBest true) [.h n] s = .ok (.d (.int (maxL l))) s := by
  rw [best_vw (b := .d (.lst (l.map D.int))) (by simp only [vw, hs]), o_maxD h rfl]
/-! ### models and signs, drawn between bounds -/
theorem r_draws {B : D → Loc → Option Loc} {vs : List Nat} {F : Loc → M W} {ρ : Loc} {E : XC → Sto → Prop} {m : Int} {ds : List D} {s : Sto} (hm0 : 0 < m) (hm : m ≤ 1000000) (h : Strm s)
    (hF : ∀ d ∈ ds, ∀ s', Strm s' → ∃ ρ1, B d (wipeL ρ vs) = some ρ1 ∧ F ρ1 s' = f__law_next [.h 0, .d (.int m)] s') :
    (lcGo vs B yes F ρ ds s).sat (fun r s' => Drawn s s' ∧ ∃ l : List Int, r = l.map D.int ∧ l.length = ds.length ∧ ∀ x ∈ l, 0 ≤ x ∧ x < m) E := by
  refine lc_any (f := D.int) (p := fun x => 0 ≤ x ∧ x < m) h fun d hd s' hs => ?_
  obtain ⟨ρ1, e1, e2⟩ := hF d hd s' hs.1
  refine ⟨ρ1, e1, ?_⟩
  rw [e2]
  refine (r_next hm0 hm hs.1).mono ?_ fun _ _ z => z
  rintro x s2 ⟨r, rfl, h1, h2, h3⟩
  exact ⟨r, rfl, ⟨h1, h2⟩, h3⟩
/-- a model's list of rows that grows by one drawn row a turn -/
def Rows (n k : Nat) (l : List (List Int)) : Prop := l.length = n ∧ ∀ r ∈ l, r.length = k ∧ ∀ y ∈ r, 0 ≤ y ∧ y ≤ 3
theorem Rows.snoc {n k : Nat} {l : List (List Int)} {r : List Int} (h : Rows n k l) (h1 : r.length = k) (h2 : ∀ y ∈ r, 0 ≤ y ∧ y ≤ 3) : Rows (n + 1) k (l ++ [r]) := by
  refine ⟨by rw [List.length_append, h.1]; rfl, fun q hq => ?_⟩
  rcases List.mem_append.mp hq with hq | hq
  · exact h.2 q hq
  · rw [List.mem_singleton.mp hq]
    exact ⟨h1, h2⟩
theorem o_min2 {i j : Int} {s : Sto} : optL fMin2 [.d (.int i), .d (.int j)] s = .ok (.d (.int (if j < i then j else i))) s := rfl
def mn1 (x : Int) : Int := if x < 1 then x else 1
theorem o_mn1 {x : Int} {s : Sto} : optL fMin2 [.d (.int 1), .d (.int x)] s = .ok (.d (.int (mn1 x))) s := o_min2
theorem mn1_le {x : Int} (h : 0 ≤ x) : 0 ≤ mn1 x ∧ mn1 x ≤ 3 := by unfold mn1; split <;> omega
/-! ### pairs of a cost and a row, as data -/
def prD (p : Int × List Int) : D := .tup [.int p.1, tI p.2]
def rpD (p : Int × List Int) : D := .tup [tI p.2, .int p.1]
theorem ltD_prD (a b : Int × List Int) : ltD (prD a) (prD b) = ltI (keyP a) (keyP b) := by
  unfold prD keyP
  rw [ltD_pair, ltR_cons]
theorem noL_ints (l : List Int) : noLs (l.map D.int) = true := by
  induction l with
  | nil => rfl
  | cons x l ih => unfold List.map noLs; rw [ih]; rfl
theorem okBest_prD (l : List (Int × List Int)) : OkBest (l.map prD) := by
  refine ⟨fun d hd => ?_, fun d hd e he => ?_⟩
  · obtain ⟨p, _, rfl⟩ := List.mem_map.mp hd
    refine ⟨?_, rfl, depth_pair _ _⟩
    show noLs [.int p.1, tI p.2] = true
    simp only [noLs, noL, tI, noL_ints, Bool.and_self]
  · obtain ⟨p, _, rfl⟩ := List.mem_map.mp hd
    obtain ⟨q, _, rfl⟩ := List.mem_map.mp he
    exact alike_pair _ _ _ _
theorem best_P : ∀ (l : List (Int × List Int)) (x : Int × List Int), bestD false (prD x) (l.map prD) = prD (minP x l)
  | [], x => rfl
  | y :: l, x => by
    show bestD false (if ltD (prD y) (prD x) = true then prD y else prD x) (l.map prD) = prD (minP (if ltI (keyP y) (keyP x) = true then y else x) l)
    rw [ltD_prD]
    by_cases h : ltI (keyP y) (keyP x) = true
    · rw [if_pos h, if_pos h, best_P l y]
    · rw [if_neg h, if_neg h, best_P l x]
/-- the least one of a list of pairs -/
def leastP : List (Int × List Int) → Int × List Int
  | [] => (0, [])
  | x :: l => minP x l
theorem leastP_is {l : List (Int × List Int)} (h : l ≠ []) : IsMin (leastP l) l := by
  cases l with
  | nil => exact absurd rfl h
  | cons x l => exact minP_is l x
theorem o_leastP {l : List (Int × List Int)} (h : l ≠ []) {s : Sto} : optL (fBest false) [.d (.lst (l.map prD))] s = .ok (.d (prD (leastP l))) s := by
  cases l with
  | nil => exact absurd rfl h
  | cons x l =>
    rw [List.map_cons, o_best (d := .lst (prD x :: l.map prD)) rfl (okBest_prD (x :: l)), best_P]
    rfl
theorem okSort_prD {l : List (Int × List Int)} (h : l.length ≤ cap) : OkSort (l.map prD) := by
  refine ⟨fun d hd e he => ?_, .inl fun d hd => ?_, fun d hd => ?_, by rw [List.length_map]; exact h⟩
  · obtain ⟨x, _, rfl⟩ := List.mem_map.mp hd
    obtain ⟨y, _, rfl⟩ := List.mem_map.mp he
    exact alike_pair _ _ _ _
  · obtain ⟨x, _, rfl⟩ := List.mem_map.mp hd
    exact ⟨_, _, rfl⟩
  · obtain ⟨x, _, rfl⟩ := List.mem_map.mp hd
    exact depth_pair _ _
theorem o_sortedL {ds : List D} {s : Sto} (hc : OkSort ds) : optL fSortedB [.d (.lst ds)] s = .ok (.d (.lst (ds.mergeSort leD))) s := by
  unfold optL fSortedB fSortedT fSorted
  simp only [vw, Option.bind_some, lstOf, if_pos hc]
theorem o_sortedP {l : List (Int × List Int)} (h : l.length ≤ cap) {s : Sto} : optL fSortedB [.d (.lst (l.map prD))] s = .ok (.d (.lst ((l.mergeSort leP).map prD))) s := by
  rw [o_sortedL (okSort_prD h)]
  refine congrArg (fun z => Res.ok (W.d (D.lst z)) s) ?_
  refine (List.map_mergeSort fun a _ b _ => ?_).symm
  show leP a b = leD (prD a) (prD b)
  unfold leP leD
  rw [ltD_prD]
/-! ### ending rows, as lists -/
theorem waysP_len (c : List (List Int)) (i : Int) (ends : List (Int × List Int)) : (waysP c i ends).length = ends.length := by simp [waysP]
theorem waysP_ne {c : List (List Int)} {i : Int} {ends : List (Int × List Int)} (h : 1 ≤ ends.length) : waysP c i ends ≠ [] := fun z => by
  have := waysP_len c i ends
  rw [z] at this
  simp at this
  omega
def stepE (n : Nat) (c h : List (List Int)) (ends : List (Int × List Int)) (x : Int) : List (Int × List Int) := (List.range n).map fun i : Nat => ((leastP (waysP c i ends)).1 + itm (lin h i) x, (leastP (waysP c i ends)).2 ++ [(i : Int)])
def endsF (n : Nat) (b : List Int) (c h : List (List Int)) : List Int → List (Int × List Int)
  | [] => []
  | x :: r => r.foldl (stepE n c h) ((List.range n).map fun i : Nat => (itm b i + itm (lin h i) x, [(i : Int)]))
theorem ends_fold {lo n k : Nat} {b : List Int} {c h : List (List Int)} (m : MOk lo n k b c h) (hn : 1 ≤ n) : ∀ (r : List Int) {t : Nat} {sg : List Int} {ends : List (Int × List Int)}, EndsOk n t b c h sg ends → EndsOk n (t + r.length) b c h (sg ++ r) (r.foldl (stepE n c h) ends)
  | [], t, sg, ends, E => by simpa using E
  | x :: r, t, sg, ends, E => by
    have E1 : EndsOk n (t + 1) b c h (sg ++ [x]) (stepE n c h ends x) := ends_step E x (f := fun s => leastP (waysP c s ends)) fun s hs => leastP_is (waysP_ne (by rw [E.len]; exact hn))
    have := ends_fold m hn r E1
    rw [show sg ++ x :: r = (sg ++ [x]) ++ r by simp, List.length_cons, show t + (r.length + 1) = t + 1 + r.length by omega]
    exact this
theorem endsF_ok {lo n k : Nat} {b : List Int} {c h : List (List Int)} (m : MOk lo n k b c h) (hn : 1 ≤ n) {sg : List Int} {t : Nat} (ht : sg.length = t + 1) : EndsOk n t b c h sg (endsF n b c h sg) := by
  cases sg with
  | nil => cases ht
  | cons x r =>
    have := ends_fold m hn r (ends_one m x)
    rw [List.length_cons] at ht
    rw [show 0 + r.length = t by omega] at this
    exact this
theorem endsF_snoc {n : Nat} {b : List Int} {c h : List (List Int)} {sg : List Int} (h0 : sg ≠ []) (x : Int) : endsF n b c h (sg ++ [x]) = stepE n c h (endsF n b c h sg) x := by
  cases sg with
  | nil => exact absurd rfl h0
  | cons y r =>
    show (r ++ [x]).foldl _ _ = _
    rw [List.foldl_append]
    rfl
section
variable {lo n k : Nat} {b : List Int} {c h : List (List Int)} {sg : List Int}
/-- the best row with its cost -/
def bestF (n : Nat) (b : List Int) (c h : List (List Int)) (sg : List Int) : Int × List Int := if sg = [] then (0, []) else leastP (endsF n b c h sg)
theorem bestF_is (m : MOk lo n k b c h) (hlo : 1 ≤ lo) {t : Nat} (ht : sg.length = t + 1) : IsMin (bestF n b c h sg) (endsF n b c h sg) := by
  have E := endsF_ok m (show 1 ≤ n by have := m.lo; omega) ht
  unfold bestF
  rw [if_neg (fun z => by rw [z] at ht; cases ht)]
  refine leastP_is fun z => ?_
  have h1 := E.len
  rw [z, List.length_nil] at h1
  have h2 := m.lo
  omega
theorem bestF_ok (m : MOk lo n k b c h) (hlo : 1 ≤ lo) {t : Nat} (ht : sg.length = t + 1) : BestI (RowOf n (t + 1)) (costR b c h sg) (bestF n b c h sg).2 ∧ (bestF n b c h sg).1 = costR b c h sg (bestF n b c h sg).2 :=
  (endsF_ok m (show 1 ≤ n by have := m.lo; omega) ht).all (bestF_is m hlo ht)
end
/-! ### what holds of best rows -/
theorem sumTo_change {f g : Nat → Int} {j : Nat} : ∀ {n : Nat}, j < n → (∀ t, t ≠ j → f t = g t) → sumTo g n = sumTo f n + (g j - f j)
  | 0, h, _ => by omega
  | n + 1, h, hfg => by
    show sumTo g n + g n = sumTo f n + f n + (g j - f j)
    by_cases hj : j = n
    · subst hj
      have : sumTo g j = sumTo f j := sumTo_congr fun t ht => (hfg t (by omega)).symm
      omega
    · have ih := sumTo_change (n := n) (show j < n by omega) hfg
      have := hfg n (fun z => hj z.symm)
      omega
theorem ltI_set : ∀ {l : List Int} {j : Nat} {x : Int}, j < l.length → x < l.getD j 0 → ltI (l.set j x) l = true
  | [], j, x, h, _ => by simp at h
  | y :: l, 0, x, _, h => by
    show (if x = y then ltI l l else decide (x < y)) = true
    have h' : x < y := h
    rw [if_neg (by omega)]
    exact decide_eq_true h'
  | y :: l, j + 1, x, h, h2 => by
    show (if y = y then ltI (l.set j x) l else _) = true
    rw [if_pos rfl]
    exact ltI_set (by simpa using h) (by simpa using h2)
theorem getD_set {l : List Int} {j t : Nat} {x : Int} (hj : j < l.length) : (l.set j x).getD t 0 = if t = j then x else l.getD t 0 := by
  by_cases h : t = j
  · subst h
    rw [if_pos rfl]
    simp [List.getD, hj]
  · rw [if_neg h]
    simp [List.getD, List.getElem?_set_ne (fun z => h z.symm)]
theorem RowOf.set {n t : Nat} {l : List Int} (h : RowOf n t l) {j : Nat} {x : Int} (hx : 0 ≤ x ∧ x < n) : RowOf n t (l.set j x) := by
  refine ⟨by rw [List.length_set]; exact h.1, fun y hy => ?_⟩
  rcases List.mem_or_eq_of_mem_set hy with hy | rfl
  · exact h.2 y hy
  · exact hx
theorem BestI.notLt {S : List Int → Prop} {C : List Int → Int} {r q : List Int} (h : BestI S C r) (hq : S q) : ltR (C q) (C r) q r = false := by
  rw [ltR_cons]
  exact h.min q hq
section
variable {lo n k : Nat} {b : List Int} {c h : List (List Int)} {sg : List Int}
/-- an ending row costs little more than the best one -/
theorem end_near (m : MOk lo n k b c h) (hlo : 1 ≤ lo) (hs : In k sg) {t : Nat} (ht : sg.length = t + 2) {i : Nat} (hi : i < n) {mc mh : Int} (hc : ∀ x y, (0 ≤ x ∧ x < (n : Int)) → (0 ≤ y ∧ y < (n : Int)) → itm (lin c x) y ≤ mc) (hh : ∀ x, (0 ≤ x ∧ x < (n : Int)) → itm (lin h x) (lst sg) ≤ mh) :
    ((endsF n b c h sg).getD i (0, [])).1 ≤ (bestF n b c h sg).1 + (mc + mh) := by
  have hn : 1 ≤ n := by have := m.lo; omega
  have E := endsF_ok m hn (t := t + 1) ht
  have hei : i < (endsF n b c h sg).length := by rw [E.len]; exact hi
  have B := E.best i _ (show (endsF n b c h sg)[i]? = some ((endsF n b c h sg).getD i (0, [])) by simp [List.getD, hei])
  have A := bestF_ok m hlo (t := t + 1) ht
  obtain ⟨sg', es, hs'⟩ := snoc_of ht
  obtain ⟨r, er, hr⟩ := snoc_of A.1.mem.1
  have hin : In n (r ++ [lst (bestF n b c h sg).2]) := er ▸ A.1.mem.2
  have hin := In.snoc.mp hin
  have hxk : In k (sg' ++ [lst sg]) := es ▸ hs
  have hxk := In.snoc.mp hxk
  have hin' : (0 : Int) ≤ (i : Int) ∧ (i : Int) < n := by omega
  have hcand : EndsIn n (t + 2) i (r ++ [(i : Int)]) := ⟨⟨by rw [List.length_append, hr]; rfl, In.snoc.mpr ⟨hin.1, hin'⟩⟩, lst_snoc _ _⟩
  have h1 := B.1.cost hcand
  have hlr : r.length ≠ 0 := by omega
  have hlp : 0 ≤ lst r ∧ lst r < n := by
    obtain ⟨r2, e2, _⟩ := snoc_of hr
    have : In n (r2 ++ [lst r]) := e2 ▸ hin.1
    exact (In.snoc.mp this).2
  have c1 := cost_snoc b c h (sg := sg') (r := r) (by omega) (lst sg) (i : Int)
  rw [← es] at c1
  have c2 := cost_snoc b c h (sg := sg') (r := r) (by omega) (lst sg) (lst (bestF n b c h sg).2)
  rw [← es, ← er] at c2
  unfold comeB at c1 c2
  rw [if_neg hlr] at c1 c2
  have p1 : 0 ≤ itm (lin c (lst r)) (lst (bestF n b c h sg).2) := ((m.gc hlp).2 _ (itm_mem (by rw [(m.gc hlp).1]; exact hin.2))).1
  have p2 : 0 ≤ itm (lin h (lst (bestF n b c h sg).2)) (lst sg) := ((m.gh hin.2).2 _ (itm_mem (by rw [(m.gh hin.2).1]; exact hxk.2))).1
  have q1 := hc (lst r) i hlp hin'
  have q2 := hh i hin'
  rw [B.2, A.2]
  omega
/-- with the same change costs from wherever, each state of the best row is the least of the cheapest -/
theorem alike_at (m : MOk lo n k b c h) {r0 : List Int} (hc : ∀ x, (0 ≤ x ∧ x < (n : Int)) → lin c x = r0) {t : Nat} {row : List Int} (B : BestI (RowOf n t) (costR b c h sg) row) {j : Nat} (hj : j < t) {x : Int} (hx : 0 ≤ x ∧ x < n)
    (W : Int → Int) (hW : ∀ y, W y = (if j = 0 then itm b y else itm r0 y) + itm (lin h y) (sg.getD j 0)) : W (row.getD j 0) < W x ∨ (W (row.getD j 0) = W x ∧ row.getD j 0 ≤ x) := by
  have hl := B.mem.1
  have hset := B.mem.set (j := j) hx
  have hmin := B.min _ hset
  have cc : ∀ q, RowOf n t q → costR b c h sg q = sumTo (fun i => (if i = 0 then itm b (q.getD i 0) else itm r0 (q.getD i 0)) + itm (lin h (q.getD i 0)) (sg.getD i 0)) t := fun q hq => by
    unfold costR
    rw [hq.1]
    refine sumTo_congr fun i hi => ?_
    unfold come shw
    by_cases h0 : i = 0
    · subst h0; rfl
    · rw [if_neg h0, if_neg h0, hc _ (hq.2.at (by rw [hq.1]; omega))]
  have e1 := cc row B.mem
  have e2 := cc _ hset
  have ch := sumTo_change (n := t) (j := j) (f := fun i => (if i = 0 then itm b (row.getD i 0) else itm r0 (row.getD i 0)) + itm (lin h (row.getD i 0)) (sg.getD i 0)) (g := fun i => (if i = 0 then itm b ((row.set j x).getD i 0) else itm r0 ((row.set j x).getD i 0)) + itm (lin h ((row.set j x).getD i 0)) (sg.getD i 0)) hj (fun i hi => by
    show _ = (if i = 0 then itm b ((row.set j x).getD i 0) else itm r0 ((row.set j x).getD i 0)) + _
    rw [getD_set (by omega), if_neg hi])
  rw [← e1, ← e2] at ch
  have g1 : ((if j = 0 then itm b ((row.set j x).getD j 0) else itm r0 ((row.set j x).getD j 0)) + itm (lin h ((row.set j x).getD j 0)) (sg.getD j 0)) = W x := by
    rw [getD_set (by omega), if_pos rfl, hW]
  have g2 := (hW (row.getD j 0)).symm
  rw [le_cons] at hmin
  simp only [g1, g2] at ch
  rcases hmin with h1 | ⟨h1, h2⟩
  · exact .inl (by omega)
  · refine .inr ⟨by omega, ?_⟩
    refine Decidable.byContradiction fun hlt => ?_
    have := ltI_set (l := row) (j := j) (x := x) (by omega) (by omega)
    unfold le at h2
    rw [this] at h2
    cases h2
end
/-! ### rows of ints, sorted -/
theorem okSort_rows {l : List (List Int)} (h : l.length ≤ cap) (h2 : ∀ r ∈ l, r ≠ []) : OkSort (l.map tI) := by
  refine ⟨fun d hd e he => ?_, .inl fun d hd => ?_, fun d hd => ?_, by rw [List.length_map]; exact h⟩
  · obtain ⟨x, _, rfl⟩ := List.mem_map.mp hd
    obtain ⟨y, _, rfl⟩ := List.mem_map.mp he
    exact alike_tI _ _
  · obtain ⟨x, hx, rfl⟩ := List.mem_map.mp hd
    cases x with
    | nil => exact absurd rfl (h2 _ hx)
    | cons a r => exact ⟨_, _, rfl⟩
  · obtain ⟨x, _, rfl⟩ := List.mem_map.mp hd
    rw [depth_tI]
    decide
theorem ltD_tI (a b : List Int) : ltD (tI a) (tI b) = ltI a b := by
  unfold ltD
  exact dataLt_tI a b
theorem o_sortedR {l : List (List Int)} (h : l.length ≤ cap) (h2 : ∀ r ∈ l, r ≠ []) {s : Sto} : optL fSortedB [.d (.lst (l.map tI))] s = .ok (.d (.lst ((l.mergeSort leI).map tI))) s := by
  rw [o_sortedL (okSort_rows h h2)]
  refine congrArg (fun z => Res.ok (W.d (D.lst z)) s) ?_
  refine (List.map_mergeSort fun a _ b _ => ?_).symm
  show leI a b = leD (tI a) (tI b)
  unfold leI leD
  rw [ltD_tI]
theorem leI_le {a b : List Int} : leI a b = true ↔ le a b := by
  unfold leI le
  simp
theorem sortR_head {l : List (List Int)} (h : l ≠ []) : ∃ m r, l.mergeSort leI = m :: r ∧ m ∈ l ∧ ∀ y ∈ l, le m y := by
  have hp := List.pairwise_mergeSort (le := leI) leI_trans leI_total l
  have hm : ∀ y, y ∈ l.mergeSort leI ↔ y ∈ l := fun y => List.mem_mergeSort
  have hl : (l.mergeSort leI).length = l.length := List.length_mergeSort l
  cases e : l.mergeSort leI with
  | nil =>
    rw [e] at hl
    exact absurd (List.length_eq_zero_iff.mp hl.symm) h
  | cons m r =>
    rw [e] at hp hm
    refine ⟨m, r, rfl, (hm m).mp List.mem_cons_self, fun y hy => ?_⟩
    rcases List.mem_cons.mp ((hm y).mpr hy) with rfl | hy
    · exact le_refl _
    · exact leI_le.mp (List.rel_of_pairwise_cons hp hy)
/-! ### futures: numbers of the states, a sign ahead -/
def goI (n : Nat) (c h : List (List Int)) (x : Int) (nums : List Int) (i : Int) : Int := minL ((rg n).map fun l => itm (lin c i) l + itm (lin h l) x + itm nums l)
def goF (n : Nat) (c h : List (List Int)) (x : Int) (nums : List Int) : List Int := (rg n).map (goI n c h x nums)
def lessL (l : List Int) : List Int := l.map fun y => y - minL l
def aheadF (n : Nat) (c h : List (List Int)) (x : Int) (nums : List Int) : List Int := lessL (goF n c h x nums)
def noughts (n : Nat) : List Int := List.replicate n 0
def profF (n : Nat) (c h : List (List Int)) : List Int → List Int
  | [] => noughts n
  | x :: sg => aheadF n c h x (profF n c h sg)
theorem rg_ne {n : Nat} (h : 1 ≤ n) : rg n ≠ [] := fun z => by
  have := rg_len n
  rw [z] at this
  simp at this
  omega
theorem goF_len {n : Nat} {c h : List (List Int)} {x : Int} {nums : List Int} : (goF n c h x nums).length = n := by unfold goF; rw [List.length_map, rg_len]
theorem lessL_len {l : List Int} : (lessL l).length = l.length := by unfold lessL; rw [List.length_map]
theorem aheadF_len {n : Nat} {c h : List (List Int)} {x : Int} {nums : List Int} : (aheadF n c h x nums).length = n := by unfold aheadF; rw [lessL_len, goF_len]
theorem profF_len {n : Nat} {c h : List (List Int)} : ∀ {sg : List Int}, (profF n c h sg).length = n
  | [] => List.length_replicate
  | _ :: _ => aheadF_len
theorem map_ne {α β : Type} {f : α → β} {l : List α} (h : l ≠ []) : l.map f ≠ [] := fun z => h (List.map_eq_nil_iff.mp z)
theorem rows_rg {α : Type} (l : List α) (d : α) {n : Nat} (hl : l.length = n) : l = (rg n).map fun i => l.getD i.toNat d := by
  subst hl
  refine List.ext_getElem (by rw [List.length_map, rg_len]) fun i h1 h2 => ?_
  have := rg_get (n := l.length) h1
  rw [List.getElem_map]
  have e : (rg l.length)[i]'(by rw [rg_len]; exact h1) = (i : Int) := by
    have h3 := List.getElem?_eq_some_iff.mp this
    exact h3.2
  rw [e]
  simp [List.getD, h1]
theorem itm_rg {l : List Int} {n : Nat} (hl : l.length = n) : l = (rg n).map fun i => itm l i := rows_rg l 0 hl
theorem lin_rg {m : List (List Int)} {n : Nat} (hl : m.length = n) : m = (rg n).map fun i => lin m i := rows_rg m [] hl
theorem zip_rg {n : Nat} (f g : Int → Int) : ((rg n).map f).zip ((rg n).map g) = (rg n).map fun i => (f i, g i) := by
  generalize rg n = l
  induction l with
  | nil => rfl
  | cons a l ih => simp [ih]
theorem o_zero {n : Nat} (h1 : 1 ≤ n) (h2 : n ≤ 1000) {s : Sto} : opt2 fMul (.d (.tup [.int 0])) (.d (.int (n : Nat))) s = .ok (.d (tI (noughts n))) s := by
  refine o_of ?_
  show (if ([D.int 0] ≠ [] ∧ 1 ≤ (n : Int) ∧ (n : Int) ≤ 1000 ∧ [D.int 0].length ≤ 1000) then some (W.d (.tup (repD (n : Int).toNat [.int 0]))) else none) = _
  rw [if_pos ⟨by simp, by omega, by omega, by simp⟩, show (n : Int).toNat = n by omega]
  have : ∀ j, (List.replicate j [D.int 0]).flatten = (List.replicate j (0 : Int)).map D.int := fun j => by
    induction j with
    | zero => rfl
    | succ i ih => rw [List.replicate_succ, List.flatten_cons, ih]; rfl
  unfold repD noughts
  rw [this]
  rfl
section
variable {lo n k : Nat} {b : List Int} {c h : List (List Int)} {sg : List Int}
theorem r_to_go (m : MOk lo n k b c h) (hlo : 1 ≤ lo) {x : Int} (hx : 0 ≤ x ∧ x < k) {nums : List Int} (hl : nums.length = n) (s : Sto) : f_to_go [.d (mdl b c h), .d (.int x), .d (tI nums)] s = .ok (.d (tI (goF n c h x nums))) s := by
  have hn3 := m.n3
  have hn1 : 1 ≤ n := by have := m.lo; omega
  unfold f_to_go s_to_go
  refine run_eq ?_
  refine st_asg (d := .tup [tII c, tII h]) (s' := s) (by simp only [op1, op2, opL, opS, argC, argN, slN, slS, andV, orV, notV, tstV, andT, orT, notT, ifE, truT, chn, calL, itS, itR1, Y.M.bnd, Y.M.ret, cst, getL, gB, gI, gD, o_add, o_sub, o_eq, o_ne, o_eqB, o_ltY, o_leY, o_gtY, o_geY, o_int, o_intB, o_abs, o_lenT, o_lenL, o_lenF, o_tupL, o_tupT, o_listT, o_listL, o_isi, o_slT, o_slL, o_is, o_isnot, o_tru, o_truT, o_truL, ↓reduceIte, List.map_cons, List.map_nil, List.cons_append, List.nil_append, List.length_cons, List.length_nil, List.replicate, List.getElem?_cons_zero, List.getElem?_cons_succ, List.set_cons_zero, List.set_cons_succ, Nat.reduceAdd, Nat.reduceSub, Nat.zero_add, o_m1, o_m2, t_two]) rfl ?_
  refine st_set (x := .d (.lst ((rg n).map fun l => D.int (itm (lin h l) x + itm nums l)))) (s' := s) ?_ ?_
  · rw [show (rg n).map (fun l => D.int (itm (lin h l) x + itm nums l)) = (List.range n).map fun l : Nat => D.int (itm (lin h l) x + itm nums l) by unfold rg; rw [List.map_map]; rfl]
    refine lc_e (l := List.range n) (fun l : Nat => .tup [.int l, .int (nums.getD l 0)]) _ ?_ (by rw [List.length_range]; unfold cap; omega) fun l hl' => ⟨_, rfl, ?_⟩
    · rw [e_itEn (d := tI nums) (s' := s) rfl rfl, enD_map D.int nums 0, hl]
    · have hl' := List.mem_range.mp hl'
      have hln : (0 : Int) ≤ (l : Int) ∧ (l : Int) < n := by omega
      simp only [op1, op2, opL, opS, argC, argN, slN, slS, andV, orV, notV, tstV, andT, orT, notT, ifE, truT, chn, calL, itS, itR1, Y.M.bnd, Y.M.ret, cst, getL, gB, gI, gD, o_add, o_sub, o_eq, o_ne, o_eqB, o_ltY, o_leY, o_gtY, o_geY, o_int, o_intB, o_abs, o_lenT, o_lenL, o_lenF, o_tupL, o_tupT, o_listT, o_listL, o_isi, o_slT, o_slL, o_is, o_isnot, o_tru, o_truT, o_truL, ↓reduceIte, List.map_cons, List.map_nil, List.cons_append, List.nil_append, List.length_cons, List.length_nil, List.replicate, List.getElem?_cons_zero, List.getElem?_cons_succ, List.set_cons_zero, List.set_cons_succ, Nat.reduceAdd, Nat.reduceSub, Nat.zero_add, wipeL, bName, o_iL (m := h) (x := (l : Int)) (by rw [m.hl]; exact hln), o_iI (l := lin h l) (x := x) (by rw [(m.gh hln).1]; exact hx)]
      rfl
  refine ret_eq (s' := s) ?_ take_self
  refine e_opL (e_arg1 (lc_e (l := rg n) (fun i => tI (lin c i)) (fun i => D.int (goI n c h x nums i)) ?_ (by rw [rg_len]; unfold cap; omega) fun i hi => ⟨_, rfl, ?_⟩)) ?_
  · rw [e_itS (d := tII c) (s' := s) rfl seq_tII, show (rg n).map (fun i => tI (lin c i)) = ((rg n).map fun i => lin c i).map tI by rw [List.map_map]; rfl, ← lin_rg m.cl]
  · have hi := mem_rg.mp hi
    have g := m.gc hi
    refine e_opL (e_arg1 (lc_e (l := rg n) (fun l => .tup [.int (itm (lin c i) l), .int (itm (lin h l) x + itm nums l)]) (fun l => D.int (itm (lin c i) l + itm (lin h l) x + itm nums l)) ?_ (by rw [rg_len]; unfold cap; omega) fun l hl' => ⟨_, rfl, ?_⟩)) ?_
    · rw [e_itZip (d := tI (lin c i)) (e := .lst ((rg n).map fun l => D.int (itm (lin h l) x + itm nums l))) (ds := (rg n).map fun l => D.int (itm (lin c i) l)) (es := (rg n).map fun l => D.int (itm (lin h l) x + itm nums l)) (s' := s) (s2 := s) rfl rfl ?_ rfl]
      · have : ∀ l : List Int, zipD (l.map fun a => D.int (itm (lin c i) a)) (l.map fun a => D.int (itm (lin h a) x + itm nums a)) = l.map fun a => D.tup [.int (itm (lin c i) a), .int (itm (lin h a) x + itm nums a)] := fun l => by
          induction l with
          | nil => rfl
          | cons a l ih => show D.tup _ :: zipD _ _ = _; rw [ih]; rfl
        rw [this]
      · have e := itm_rg (l := lin c i) g.1
        rw [seq_tI]
        conv => lhs; rw [e]
        rw [List.map_map]
        rfl
    · show op2 _ _ _ _ s = _
      simp only [op1, op2, opL, opS, argC, argN, slN, slS, andV, orV, notV, tstV, andT, orT, notT, ifE, truT, chn, calL, itS, itR1, Y.M.bnd, Y.M.ret, cst, getL, gB, gI, gD, o_add, o_sub, o_eq, o_ne, o_eqB, o_ltY, o_leY, o_gtY, o_geY, o_int, o_intB, o_abs, o_lenT, o_lenL, o_lenF, o_tupL, o_tupT, o_listT, o_listL, o_isi, o_slT, o_slL, o_is, o_isnot, o_tru, o_truT, o_truL, ↓reduceIte, List.map_cons, List.map_nil, List.cons_append, List.nil_append, List.length_cons, List.length_nil, List.replicate, List.getElem?_cons_zero, List.getElem?_cons_succ, List.set_cons_zero, List.set_cons_succ, Nat.reduceAdd, Nat.reduceSub, Nat.zero_add]
      show Res.ok (W.d (D.int (_ + (_ + _)))) s = Res.ok (W.d (D.int (_ + _ + _))) s
      rw [Int.add_assoc]
    · exact o_minD (l := (rg n).map fun l => itm (lin c i) l + itm (lin h l) x + itm nums l) (map_ne (rg_ne hn1)) (by rw [List.map_map]; rfl)
  · rw [o_tupL]
    unfold goF tI
    rw [List.map_map]
    rfl
theorem r_less_least {l : List Int} (h1 : l ≠ []) (h2 : l.length ≤ 1000) (s : Sto) : f_less_least [.d (tI l)] s = .ok (.d (tI (lessL l))) s := by
  unfold f_less_least s_less_least
  refine run_eq (st_set (x := .d (.int (minL l))) (s' := s) (e_opL (e_arg1 rfl) (o_minD h1 seq_tI)) (ret_eq (s' := s) ?_ take_self))
  refine e_opL (e_arg1 (lc_e D.int (fun y => D.int (y - minL l)) (e_itS rfl seq_tI) (by unfold cap; omega) fun y _ => ⟨_, rfl, rfl⟩)) ?_
  rw [o_tupL]
  unfold lessL tI
  rw [List.map_map]
  rfl
theorem r_ahead_of (m : MOk lo n k b c h) (hlo : 1 ≤ lo) {x : Int} (hx : 0 ≤ x ∧ x < k) {nums : List Int} (hl : nums.length = n) (s : Sto) : f_ahead_of [.d (mdl b c h), .d (.int x), .d (tI nums)] s = .ok (.d (tI (aheadF n c h x nums))) s := by
  have hn1 : 1 ≤ n := by have := m.lo; omega
  have hn3 := m.n3
  unfold f_ahead_of s_ahead_of
  refine run_eq (ret_eq (s' := s) ?_ take_self)
  exact e_cal (e_arg1 (e_cal (e_argC rfl (e_argC rfl (e_arg1 rfl))) rfl (r_to_go m hlo hx hl s))) rfl (r_less_least (fun z => by have := goF_len (n := n) (c := c) (h := h) (x := x) (nums := nums); rw [z] at this; simp at this; omega) (by rw [goF_len]; omega) s)
theorem profF_rev : ∀ (sg : List Int), profF n c h sg = sg.reverse.foldl (fun nums x => aheadF n c h x nums) (noughts n)
  | [] => rfl
  | x :: sg => by
    rw [List.reverse_cons, List.foldl_append]
    show aheadF n c h x (profF n c h sg) = _
    rw [profF_rev sg]
    rfl
theorem prof_loop {l : List Int} {i : Nat} {x : Int} (hx : l[i]? = some x) : (l.take (i + 1)).foldl (fun nums x => aheadF n c h x nums) (noughts n) = aheadF n c h x ((l.take i).foldl (fun nums x => aheadF n c h x nums) (noughts n)) := by
  rw [List.take_succ, hx, List.foldl_append]
  rfl
theorem fold_len (l : List Int) : (l.foldl (fun nums x => aheadF n c h x nums) (noughts n)).length = n := by
  have := profF_rev (n := n) (c := c) (h := h) l.reverse
  rw [List.reverse_reverse] at this
  rw [← this]
  exact profF_len
end
/-! ### models drawn, third form -/
--? calL 1 f__law_model
theorem r_model1 {s : Sto} (h : Strm s) : (f__law_model [.h 0] s).sat (fun x s' => ∃ n k b c h, x = .d (mdl b c h) ∧ MOk 1 n k b c h ∧ Drawn s s') NoE := by
  unfold f__law_model s__law_model
  refine st_run ?_
  refine st_setP (Q := fun x s' => ∃ n : Nat, x = .d (.int n) ∧ 1 ≤ n ∧ n ≤ 3 ∧ Drawn s s') ?_ ?_
  · simp only [v_ok, v_ret, v_bad, v_get, v_getF, v_cst, v_gB, v_gI, v_gD, v_and, v_or, v_not, v_tst, v_andT, v_orT, v_notT, v_if, v_op1, v_op2, v_opL, v_opt1, v_opt2, v_optL, v_optS, v_chn, v_argN, v_argC, v_gTup, v_gLst, v_gNew, v_truT, v_slN, v_slS, v_opS, v_isi, v_cal, v_itS, v_itR1, v_itR2, v_lcE, v_nxt, v_seq, v_set, v_asg, v_ifS, v_retS, v_exp, v_for, v_put, v_run, v_mth, v_yes, List.map_cons, List.map_nil, List.cons_append, List.nil_append, List.length_cons, List.length_nil, List.replicate, List.getElem?_cons_zero, List.getElem?_cons_succ, List.set_cons_zero, List.set_cons_succ, Option.some.injEq, exists_eq_left', exists_eq_left, Nat.reduceAdd, Nat.reduceSub, Nat.zero_add, W.d.injEq, D.int.injEq, D.bl.injEq, true_and, and_true, wipeL, fAdd, fSub, fMul, fMod, fFdv, fII, fLtY, fLeY, fGtY, fGeY, fCmp, fNeg, vw, seqOf, fInt, fAbs, f1I, fLen, fTuple, fList, fIx, fSl, fIs, isNon, isT, Option.bind_some, Option.map_some, dats, truD, List.length_map, rng_len]
    refine (r_next (m := 3) (by omega) (by omega) h).mono ?_ fun _ _ z => z
    rintro x s2 ⟨r, rfl, h1, h2, h3⟩
    exact ⟨.d (.int (1 + r)), rfl, 1 + r.toNat, by rw [show ((1 + r.toNat : Nat) : Int) = 1 + r by omega], by omega, by omega, h3⟩
  rintro x s1 ⟨n, rfl, hn0, hn3, hs1⟩
  refine st_setP (Q := fun x s' => ∃ k : Nat, x = .d (.int k) ∧ 1 ≤ k ∧ k ≤ 3 ∧ Drawn s s') ?_ ?_
  · simp only [v_ok, v_ret, v_bad, v_get, v_getF, v_cst, v_gB, v_gI, v_gD, v_and, v_or, v_not, v_tst, v_andT, v_orT, v_notT, v_if, v_op1, v_op2, v_opL, v_opt1, v_opt2, v_optL, v_optS, v_chn, v_argN, v_argC, v_gTup, v_gLst, v_gNew, v_truT, v_slN, v_slS, v_opS, v_isi, v_cal, v_itS, v_itR1, v_itR2, v_lcE, v_nxt, v_seq, v_set, v_asg, v_ifS, v_retS, v_exp, v_for, v_put, v_run, v_mth, v_yes, List.map_cons, List.map_nil, List.cons_append, List.nil_append, List.length_cons, List.length_nil, List.replicate, List.getElem?_cons_zero, List.getElem?_cons_succ, List.set_cons_zero, List.set_cons_succ, Option.some.injEq, exists_eq_left', exists_eq_left, Nat.reduceAdd, Nat.reduceSub, Nat.zero_add, W.d.injEq, D.int.injEq, D.bl.injEq, true_and, and_true, wipeL, fAdd, fSub, fMul, fMod, fFdv, fII, fLtY, fLeY, fGtY, fGeY, fCmp, fNeg, vw, seqOf, fInt, fAbs, f1I, fLen, fTuple, fList, fIx, fSl, fIs, isNon, isT, Option.bind_some, Option.map_some, dats, truD, List.length_map, rng_len]
    refine (r_next (m := 3) (by omega) (by omega) hs1.1).mono ?_ fun _ _ z => z
    rintro x s2 ⟨r, rfl, h1, h2, h3⟩
    exact ⟨.d (.int (1 + r)), rfl, 1 + r.toNat, by rw [show ((1 + r.toNat : Nat) : Int) = 1 + r by omega], by omega, by omega, hs1.trans h3⟩
  rintro x s2 ⟨k, rfl, hk1, hk3, hs2⟩
  refine st_setP (Q := fun x s' => ∃ t : Int, x = .d (.int t) ∧ 1 ≤ t ∧ t ≤ 4 ∧ Drawn s s') ?_ ?_
  · simp only [v_ok, v_ret, v_bad, v_get, v_getF, v_cst, v_gB, v_gI, v_gD, v_and, v_or, v_not, v_tst, v_andT, v_orT, v_notT, v_if, v_op1, v_op2, v_opL, v_opt1, v_opt2, v_optL, v_optS, v_chn, v_argN, v_argC, v_gTup, v_gLst, v_gNew, v_truT, v_slN, v_slS, v_opS, v_isi, v_cal, v_itS, v_itR1, v_itR2, v_lcE, v_nxt, v_seq, v_set, v_asg, v_ifS, v_retS, v_exp, v_for, v_put, v_run, v_mth, v_yes, List.map_cons, List.map_nil, List.cons_append, List.nil_append, List.length_cons, List.length_nil, List.replicate, List.getElem?_cons_zero, List.getElem?_cons_succ, List.set_cons_zero, List.set_cons_succ, Option.some.injEq, exists_eq_left', exists_eq_left, Nat.reduceAdd, Nat.reduceSub, Nat.zero_add, W.d.injEq, D.int.injEq, D.bl.injEq, true_and, and_true, wipeL, fAdd, fSub, fMul, fMod, fFdv, fII, fLtY, fLeY, fGtY, fGeY, fCmp, fNeg, vw, seqOf, fInt, fAbs, f1I, fLen, fTuple, fList, fIx, fSl, fIs, isNon, isT, Option.bind_some, Option.map_some, dats, truD, List.length_map, rng_len]
    refine ⟨by unfold cap; omega, (r_next (m := 2) (by omega) (by omega) hs2.1).mono ?_ fun _ _ z => z⟩
    rintro x s3 ⟨r, rfl, h1, h2, h3⟩
    have : r = 0 ∨ r = 1 := by omega
    rcases this with rfl | rfl
    · exact ⟨.d (.int 2), rfl, 2, rfl, by decide, by decide, hs2.trans h3⟩
    · exact ⟨.d (.int 4), rfl, 4, rfl, by decide, by decide, hs2.trans h3⟩
  rintro x s3 ⟨t, rfl, ht1, ht4, hs3⟩
  refine st_setP (Q := fun x s' => ∃ b : List Int, x = .d (tI b) ∧ b.length = n ∧ (∀ y ∈ b, 0 ≤ y ∧ y ≤ 3) ∧ Drawn s s') ?_ ?_
  · rw [v_opL, v_argC, v_lcE, v_itR1]
    refine sat_of (a := .d (.int n)) (s := s3) rfl ⟨_, rfl, ⟨by omega, by omega⟩, by rw [rng_len]; unfold cap; omega, ?_⟩
    refine (r_draws (m := t) (by omega) (by omega) hs3.1 ?_).mono ?_ fun _ _ z => z
    · intro d hd s' hs'
      exact ⟨_, rfl, rfl⟩
    · rintro r s4 ⟨hs4, l, rfl, hl, hp⟩
      rw [rng_len] at hl
      rw [v_argN, o_tupL]
      exact ⟨l, rfl, by omega, fun y hy => by have := hp y hy; omega, hs3.trans hs4⟩
  rintro x s4 ⟨b, rfl, hbl, hbx, hs4⟩
  have rows : ∀ (K j : Nat) (q : Loc) (S : Sto), K ≤ 3 → q[0]? = some (some (.h 0)) → q[1]? = some (some (.d (.int n))) → q[3]? = some (some (.d (.int t))) → q[j]? = some (some (.d (.int K))) → j ≤ 2 → Strm S →
      (opL (optL fTuple) (argC (lcE [7] (itR1 (getL 1)) (bName 7) yes (opL (optL fTuple) (argC (lcE [8] (itR1 (getL j)) (bName 8) yes (calL 2 f__law_next (argC (getL 0) (argC (getL 3) argN)))) argN))) argN) q S).sat
        (fun x s' => ∃ l : List (List Int), x = .d (tII l) ∧ l.length = n ∧ (∀ r ∈ l, r.length = K ∧ ∀ y ∈ r, 0 ≤ y ∧ y ≤ 3) ∧ Drawn S s') NoE := by
    intro K j q S hK q0 q1 q3 qj hj hS
    rw [v_opL, v_argC, v_lcE, v_itR1, v_get]
    refine ⟨_, q1, _, rfl, ⟨by omega, by omega⟩, by rw [rng_len]; unfold cap; omega, ?_⟩
    refine (lc_any (f := tI) (p := fun r => r.length = K ∧ ∀ y ∈ r, 0 ≤ y ∧ y ≤ 3) hS ?_).mono ?_ fun _ _ z => z
    · intro d hd s' hs'
      refine ⟨_, rfl, ?_⟩
      have w : ∀ {i : Nat} {x : Option W}, i ≠ 7 → q[i]? = some x → (((wipeL q [7]).set 7 (some (.d d))) : Loc)[i]? = some x := fun {i x} hi e => look (by simp only [wipeL]; exact look e hi) hi
      rw [v_opL, v_argC, v_lcE, v_itR1, v_get]
      refine ⟨_, w (by omega) qj, _, rfl, ⟨by omega, by omega⟩, by rw [rng_len]; unfold cap; omega, ?_⟩
      refine (r_draws (m := t) (by omega) (by omega) hs'.1 ?_).mono ?_ fun _ _ z => z
      · intro d2 hd2 s2 hs2
        refine ⟨_, rfl, ?_⟩
        have w2 : ∀ {i : Nat} {x : Option W}, i ≠ 7 → i ≠ 8 → q[i]? = some x → (((wipeL ((wipeL q [7]).set 7 (some (.d d))) [8]).set 8 (some (.d d2))) : Loc)[i]? = some x := fun {i x} hi h8 e => look (by simp only [wipeL]; exact look (w hi e) h8) h8
        have e0 : getL 0 ((wipeL ((wipeL q [7]).set 7 (some (.d d))) [8]).set 8 (some (.d d2))) s2 = .ok (.h 0) s2 := by unfold getL; rw [w2 (by decide) (by decide) q0]
        have e3 : getL 3 ((wipeL ((wipeL q [7]).set 7 (some (.d d))) [8]).set 8 (some (.d d2))) s2 = .ok (.d (.int t)) s2 := by unfold getL; rw [w2 (by decide) (by decide) q3]
        unfold calL
        rw [bnd_ok (e_argC e0 (e_arg1 e3))]
        rfl
      · rintro r s6 ⟨hs6, l, rfl, hl, hp⟩
        rw [rng_len] at hl
        rw [v_argN, o_tupL]
        exact ⟨l, rfl, ⟨by omega, fun y hy => by have := hp y hy; omega⟩, hs6⟩
    · rintro r s5 ⟨hs5, l, rfl, hl, hp⟩
      rw [rng_len] at hl
      rw [v_argN, o_tupL]
      exact ⟨l, rfl, by omega, hp, hs5⟩
  refine st_setP (Q := fun x s' => ∃ C : List (List Int), x = .d (tII C) ∧ C.length = n ∧ (∀ r ∈ C, r.length = n ∧ ∀ y ∈ r, 0 ≤ y ∧ y ≤ 3) ∧ Drawn s s') ?_ ?_
  · refine (rows n 1 _ s4 (by omega) rfl rfl rfl rfl (by decide) hs4.1).mono ?_ fun _ _ z => z
    rintro x s5 ⟨l, rfl, h1, h2, h3⟩
    exact ⟨l, rfl, h1, h2, hs4.trans h3⟩
  rintro x s5 ⟨C, rfl, hC1, hC2, hs5⟩
  refine st_setP (Q := fun x s' => ∃ H : List (List Int), x = .d (tII H) ∧ H.length = n ∧ (∀ r ∈ H, r.length = k ∧ ∀ y ∈ r, 0 ≤ y ∧ y ≤ 3) ∧ Drawn s s') ?_ ?_
  · refine (rows k 2 _ s5 (by omega) rfl rfl rfl rfl (by decide) hs5.1).mono ?_ fun _ _ z => z
    rintro x s6 ⟨l, rfl, h1, h2, h3⟩
    exact ⟨l, rfl, h1, h2, hs5.trans h3⟩
  rintro x s6 ⟨H, rfl, hH1, hH2, hs6⟩
  have t3 : ∀ (x y z : D) S, gTup [.d x, .d y, .d z] S = .ok (.d (.tup [x, y, z])) S := fun x y z S => rfl
  refine st_ret (x := .d (mdl b C H)) (s' := s6) (e_opL (e_argC rfl (e_argC rfl (e_arg1 rfl))) (t3 _ _ _ _)) ⟨rfl, n, k, b, C, H, rfl, ⟨hn0, hn3, hk1, hk3, hbl, hC1, hH1, hbx, hC2, hH2⟩, ?_⟩
  rw [take_len (hs6.len h)]
  exact hs6
/-! ### the law's own signs ahead -/
section
variable {lo n k : Nat} {b : List Int} {c h : List (List Int)} {sg : List Int}
theorem r_law_ahead (m : MOk lo n k b c h) (hlo : 1 ≤ lo) {x : Int} (hx : 0 ≤ x ∧ x < k) {nums : List Int} (hl : nums.length = n) (s : Sto) : f__law_ahead [.d (mdl b c h), .d (.int x), .d (tI nums)] s = .ok (.d (tI (aheadF n c h x nums))) s := by
  have hn1 : 1 ≤ n := by have := m.lo; omega
  have hn3 := m.n3
  unfold f__law_ahead s__law_ahead
  refine run_eq ?_
  refine st_set (x := .h s.length) (s' := s ++ [some []]) rfl ?_
  refine st_mid (fun ρ' s' => (∃ q4 q5 q6 q7, ρ' = [some (.d (mdl b c h)), some (.d (.int x)), some (.d (tI nums)), some (.h s.length), q4, q5, q6, q7]) ∧ s' = s ++ [some ((goF n c h x nums).map D.int)]) ?_ ?_
  · rw [v_for]
    refine sat_of (a := (rg n).map D.int) (s := s ++ [some []]) (e_itR1 (by simp only [op1, op2, opL, opS, argC, argN, slN, slS, andV, orV, notV, tstV, andT, orT, notT, ifE, truT, chn, calL, itS, itR1, Y.M.bnd, Y.M.ret, cst, getL, gB, gI, gD, o_add, o_sub, o_eq, o_ne, o_eqB, o_ltY, o_leY, o_gtY, o_geY, o_int, o_intB, o_abs, o_lenT, o_lenL, o_lenF, o_tupL, o_tupT, o_listT, o_listL, o_isi, o_slT, o_slL, o_is, o_isnot, o_tru, o_truT, o_truL, ↓reduceIte, List.map_cons, List.map_nil, List.cons_append, List.nil_append, List.length_cons, List.length_nil, List.replicate, List.getElem?_cons_zero, List.getElem?_cons_succ, List.set_cons_zero, List.set_cons_succ, Nat.reduceAdd, Nat.reduceSub, Nat.zero_add, o_lnI, hl]) (by omega)) ?_
    refine for_inv (fun i ρ' s' => (∃ q4 q5 q6 q7, ρ' = [some (.d (mdl b c h)), some (.d (.int x)), some (.d (tI nums)), some (.h s.length), q4, q5, q6, q7]) ∧ s' = s ++ [some (((goF n c h x nums).take i).map D.int)]) (fun i d ρ' s' hd hI => ?_) (fun ρ' s' hI => ?_) ⟨⟨none, none, none, none, rfl⟩, rfl⟩
    · obtain ⟨⟨q4, q5, q6, q7, rfl⟩, rfl⟩ := hI
      obtain ⟨rfl, hi⟩ := rg_at hd
      have hin : (0 : Int) ≤ (i : Int) ∧ (i : Int) < n := by omega
      have g := m.gc hin
      refine ⟨_, rfl, ?_⟩
      refine st_push (x := .int (goI n c h x nums i)) rfl (by rw [List.length_map, List.length_take]; unfold cap; omega) ?_ ?_
      · refine e_arg1 (e_opL (e_arg1 (lc_e (l := rg n) D.int (fun l => D.int (itm (lin c i) l + itm (lin h l) x + itm nums l)) (e_itR1 (by simp only [op1, op2, opL, opS, argC, argN, slN, slS, andV, orV, notV, tstV, andT, orT, notT, ifE, truT, chn, calL, itS, itR1, Y.M.bnd, Y.M.ret, cst, getL, gB, gI, gD, o_add, o_sub, o_eq, o_ne, o_eqB, o_ltY, o_leY, o_gtY, o_geY, o_int, o_intB, o_abs, o_lenT, o_lenL, o_lenF, o_tupL, o_tupT, o_listT, o_listL, o_isi, o_slT, o_slL, o_is, o_isnot, o_tru, o_truT, o_truL, ↓reduceIte, List.map_cons, List.map_nil, List.cons_append, List.nil_append, List.length_cons, List.length_nil, List.replicate, List.getElem?_cons_zero, List.getElem?_cons_succ, List.set_cons_zero, List.set_cons_succ, Nat.reduceAdd, Nat.reduceSub, Nat.zero_add, o_lnI, hl]) (by omega)) (by rw [rg_len]; unfold cap; omega) fun l hl' => ⟨_, rfl, ?_⟩)) ?_)
        · have hl' := mem_rg.mp hl'
          simp only [op1, op2, opL, opS, argC, argN, slN, slS, andV, orV, notV, tstV, andT, orT, notT, ifE, truT, chn, calL, itS, itR1, Y.M.bnd, Y.M.ret, cst, getL, gB, gI, gD, o_add, o_sub, o_eq, o_ne, o_eqB, o_ltY, o_leY, o_gtY, o_geY, o_int, o_intB, o_abs, o_lenT, o_lenL, o_lenF, o_tupL, o_tupT, o_listT, o_listL, o_isi, o_slT, o_slL, o_is, o_isnot, o_tru, o_truT, o_truL, ↓reduceIte, List.map_cons, List.map_nil, List.cons_append, List.nil_append, List.length_cons, List.length_nil, List.replicate, List.getElem?_cons_zero, List.getElem?_cons_succ, List.set_cons_zero, List.set_cons_succ, Nat.reduceAdd, Nat.reduceSub, Nat.zero_add, wipeL, bName, o_m1, o_m2, o_iL (m := c) (x := (i : Int)) (by rw [m.cl]; exact hin), o_iI (l := lin c i) (x := l) (by rw [g.1]; exact hl'), o_iL (m := h) (x := l) (by rw [m.hl]; exact hl'), o_iI (l := lin h l) (x := x) (by rw [(m.gh hl').1]; exact hx), o_iI (l := nums) (x := l) (by rw [hl]; exact hl')]
        · exact o_minD (l := (rg n).map fun l => itm (lin c i) l + itm (lin h l) x + itm nums l) (map_ne (rg_ne hn1)) (by rw [List.map_map]; rfl)
      · refine ⟨⟨_, _, _, _, rfl⟩, ?_⟩
        have eg : (goF n c h x nums)[i]? = some (goI n c h x nums i) := by unfold goF; rw [List.getElem?_map, rg_get hi]; rfl
        rw [List.take_succ, eg, List.map_append]
        rfl
    · rw [List.length_map, rg_len, List.take_of_length_le (by rw [goF_len]; exact Nat.le_refl _)] at hI
      exact ⟨rfl, hI⟩
  rintro ρ' s' ⟨⟨q4, q5, q6, q7, rfl⟩, rfl⟩
  have hg1 : goF n c h x nums ≠ [] := fun z => by have := goF_len (n := n) (c := c) (h := h) (x := x) (nums := nums); rw [z] at this; simp at this; omega
  refine st_set (x := .d (.int (minL (goF n c h x nums)))) (s' := s ++ [some ((goF n c h x nums).map D.int)]) ?_ ?_
  · exact e_opL (e_arg1 rfl) (o_minH hg1 getLast')
  · refine st_ret (x := .d (tI (aheadF n c h x nums))) (s' := s ++ [none]) ?_ ⟨rfl, take_app⟩
    refine e_opL (e_arg1 (lc_eq D.int (fun y => D.int (y - minL (goF n c h x nums))) (s' := s ++ [none]) (l := goF n c h x nums) ?_ (by rw [goF_len]; unfold cap; omega) fun y _ => ⟨_, rfl, rfl⟩)) ?_
    · unfold itS
      rw [bnd_ok (show getF 3 _ (s ++ [some ((goF n c h x nums).map D.int)]) = .ok (.d (.lst ((goF n c h x nums).map D.int))) (s ++ [none]) by
        unfold getF
        show (match (s ++ [some ((goF n c h x nums).map D.int)])[s.length]? with
          | some (some ds) => Res.ok (W.d (D.lst ds)) ((s ++ [some ((goF n c h x nums).map D.int)]).set s.length none)
          | _ => .bad) = _
        rw [getLast']
        show Res.ok _ _ = _
        rw [setLast])]
      rfl
    · rw [o_tupL]
      unfold aheadF lessL tI
      rw [List.map_map]
      rfl
theorem r_law_profile (m : MOk lo n k b c h) (hlo : 1 ≤ lo) (hs : In k sg) (hc : sg.length ≤ 1000) (s : Sto) : f__law_profile [.d (mdl b c h), .d (tI sg)] s = .ok (.d (tI (profF n c h sg))) s := by
  have hn1 : 1 ≤ n := by have := m.lo; omega
  have hn3 := m.n3
  unfold f__law_profile s__law_profile
  refine run_eq ?_
  refine st_set (x := .d (tI (noughts n))) (s' := s) (by simp only [op1, op2, opL, opS, argC, argN, slN, slS, andV, orV, notV, tstV, andT, orT, notT, ifE, truT, chn, calL, itS, itR1, Y.M.bnd, Y.M.ret, cst, getL, gB, gI, gD, o_add, o_sub, o_eq, o_ne, o_eqB, o_ltY, o_leY, o_gtY, o_geY, o_int, o_intB, o_abs, o_lenT, o_lenL, o_lenF, o_tupL, o_tupT, o_listT, o_listL, o_isi, o_slT, o_slL, o_is, o_isnot, o_tru, o_truT, o_truL, ↓reduceIte, List.map_cons, List.map_nil, List.cons_append, List.nil_append, List.length_cons, List.length_nil, List.replicate, List.getElem?_cons_zero, List.getElem?_cons_succ, List.set_cons_zero, List.set_cons_succ, Nat.reduceAdd, Nat.reduceSub, Nat.zero_add, t_one, o_m0, o_lnI, m.bl, o_zero hn1 (by omega)]) ?_
  refine st_mid (fun ρ' s' => (∃ q, ρ' = [some (.d (mdl b c h)), some (.d (tI sg)), some (.d (tI (profF n c h sg))), q]) ∧ s' = s) ?_ ?_
  · rw [v_for]
    refine sat_of (a := sg.reverse.map D.int) (s := s) (e_itS (d := tI sg.reverse) (s' := s) (e_op1 rfl (by unfold tI; rw [o_revT, List.map_reverse])) seq_tI) ?_
    refine for_inv (fun i ρ' s' => (∃ q, ρ' = [some (.d (mdl b c h)), some (.d (tI sg)), some (.d (tI ((sg.reverse.take i).foldl (fun nums x => aheadF n c h x nums) (noughts n)))), q]) ∧ s' = s) (fun i d ρ' s' hd hI => ?_) (fun ρ' s' hI => ?_) ⟨⟨none, rfl⟩, rfl⟩
    · obtain ⟨⟨q, rfl⟩, rfl⟩ := hI
      rw [List.getElem?_map, Option.map_eq_some_iff] at hd
      obtain ⟨x, hx, rfl⟩ := hd
      have hxk := hs x (List.mem_reverse.mp (List.mem_of_getElem? hx))
      refine ⟨_, rfl, st_setE (x := .d (tI ((sg.reverse.take (i + 1)).foldl (fun nums x => aheadF n c h x nums) (noughts n)))) (s' := s') ?_ ⟨⟨_, rfl⟩, rfl⟩⟩
      rw [prof_loop hx]
      exact e_cal (e_argC rfl (e_argC rfl (e_arg1 rfl))) rfl (r_law_ahead m hlo hxk (fold_len _) s')
    · rw [List.length_map, List.take_length, ← profF_rev] at hI
      exact ⟨rfl, hI⟩
  · rintro ρ' s' ⟨⟨q, rfl⟩, rfl⟩
    exact ret_eq (s' := s') rfl take_self
end
/-! ### found_profiles, layer_ahead: the dict of profiles (ea_found) -/
theorem nks_ints : ∀ l : List Int, nks (l.map D.int) = some (l.map NestedKey.num)
  | [] => rfl
  | x :: l => by
    show (nk (D.int x)).bind (fun k => (nks (l.map D.int)).map fun r => k :: r) = _
    rw [nks_ints l]
    rfl
theorem nk_tI (l : List Int) : nk (tI l) = some (.tup (l.map NestedKey.num)) := by
  show (nks (l.map D.int)).map NestedKey.tup = _
  rw [nks_ints]
  rfl
theorem depAll_nums : ∀ l : List Int, NestedKey.depthAll (l.map NestedKey.num) ≤ 1
  | [] => by rw [List.map_nil]; unfold NestedKey.depthAll; omega
  | x :: l => by
    have := depAll_nums l
    rw [List.map_cons]
    unfold NestedKey.depthAll NestedKey.depth
    omega
theorem isTK_tI (l : List Int) : isTK (tI l) = true := by
  unfold isTK
  rw [nk_tI]
  refine decide_eq_true ?_
  have := depAll_nums l
  unfold NestedKey.depth
  omega
section
variable {lo n k : Nat} {b : List Int} {c h : List (List Int)}
def oneN (n : Nat) : List D := [.tup [tI (noughts n), .tup []]]
theorem tupK_one : tupK (oneN n) = true := by
  unfold tupK oneN
  rw [List.all_cons, List.all_nil]
  show (isTK (tI (noughts n)) && true) = true
  rw [isTK_tI]
  rfl
theorem dfind_one : dfind (tI (noughts n)) (oneN n) = some (.tup []) := by
  unfold dfind oneN
  rw [List.find?_cons_of_pos (by exact decide_eq_true rfl)]
  rfl
theorem r_layer_flat (m : MOk lo n k b c h) (hlo : 1 ≤ lo) (hf : ∀ x : Int, 0 ≤ x → x < k → aheadF n c h x (noughts n) = noughts n) {p : Nat} {s : Sto} (hp : s[p]? = some (some (oneN n))) :
    f_layer_ahead [.d (mdl b c h), .k p, .d (.lst [tI (noughts n)])] s = .ok (.d (.lst [])) s := by
  have hk3 := m.k3
  have hn1 : 1 ≤ n := by have := m.lo; omega
  have g0 := m.gh (x := 0) ⟨by omega, by omega⟩
  have hp' : (s ++ [some ([] : List D)])[p]? = some (some (oneN n)) := by rw [List.getElem?_append_left (List.getElem?_eq_some_iff.mp hp).1]; exact hp
  unfold f_layer_ahead s_layer_ahead
  refine run_eq (st_set (x := .h s.length) (s' := s ++ [some []]) rfl ?_)
  refine st_mid (fun ρ' s' => (∃ q4 q5 q6, ρ' = [some (.d (mdl b c h)), some (.k p), some (.d (.lst [tI (noughts n)])), some (.h s.length), q4, q5, q6]) ∧ s' = s ++ [some []]) ?_ ?_
  · rw [v_for]
    refine sat_of (a := (rg k).map D.int) (s := s ++ [some []]) (e_itR1 (n := k) (by simp only [op1, op2, opL, opS, argC, argN, slN, slS, andV, orV, notV, tstV, andT, orT, notT, ifE, truT, chn, calL, itS, itR1, Y.M.bnd, Y.M.ret, cst, getL, gB, gI, gD, o_add, o_sub, o_eq, o_ne, o_eqB, o_ltY, o_leY, o_gtY, o_geY, o_int, o_intB, o_abs, o_lenT, o_lenL, o_lenF, o_tupL, o_tupT, o_listT, o_listL, o_isi, o_slT, o_slL, o_is, o_isnot, o_tru, o_truT, o_truL, ↓reduceIte, List.map_cons, List.map_nil, List.cons_append, List.nil_append, List.length_cons, List.length_nil, List.replicate, List.getElem?_cons_zero, List.getElem?_cons_succ, List.set_cons_zero, List.set_cons_succ, Nat.reduceAdd, Nat.reduceSub, Nat.zero_add, o_m2, o_iL (m := h) (x := 0) (by rw [m.hl]; omega), o_lnI, g0.1]) (by omega)) ?_
    refine for_inv (fun i ρ' s' => (∃ q4 q5 q6, ρ' = [some (.d (mdl b c h)), some (.k p), some (.d (.lst [tI (noughts n)])), some (.h s.length), q4, q5, q6]) ∧ s' = s ++ [some []]) (fun i d ρ' s' hd hI => ?_) (fun ρ' s' hI => ⟨rfl, hI⟩) ⟨⟨none, none, none, rfl⟩, rfl⟩
    obtain ⟨⟨q4, q5, q6, rfl⟩, rfl⟩ := hI
    rw [List.getElem?_map, Option.map_eq_some_iff] at hd
    obtain ⟨x, hx, rfl⟩ := hd
    have hxk := mem_rg.mp (List.mem_of_getElem? hx)
    refine ⟨_, rfl, ?_⟩
    rw [v_for]
    refine sat_of (a := [tI (noughts n)]) (s := s ++ [some []]) (e_itS (d := .lst [tI (noughts n)]) rfl rfl) ?_
    refine for_inv (fun i ρ' s' => (∃ q5 q6, ρ' = [some (.d (mdl b c h)), some (.k p), some (.d (.lst [tI (noughts n)])), some (.h s.length), some (.d (.int x)), q5, q6]) ∧ s' = s ++ [some []]) (fun i d ρ' s' hd hI => ?_) (fun ρ' s' hI => ?_) ⟨⟨_, _, rfl⟩, rfl⟩
    · obtain ⟨⟨q5, q6, rfl⟩, rfl⟩ := hI
      obtain rfl : d = tI (noughts n) := by
        cases i with
        | zero => exact (Option.some.inj hd).symm
        | succ i => cases hd
      refine ⟨_, rfl, ?_⟩
      refine st_set (x := .d (tI (noughts n))) (s' := s ++ [some []]) ?_ ?_
      · have e := r_ahead_of m hlo hxk (nums := noughts n) (by unfold noughts; rw [List.length_replicate]) (s ++ [some []])
        rw [hf x hxk.1 hxk.2] at e
        exact e_cal (e_argC rfl (e_argC rfl (e_arg1 rfl))) rfl e
      · have e := o_din (neg := true) hp' tupK_one (isTK_tI (noughts n))
        rw [dfind_one] at e
        refine st_if (b := false) (s' := s ++ [some []]) (e_tst (e_op2 (x := .d (tI (noughts n))) (y := .k p) rfl rfl e)) (fun z => by cases z) (fun _ => ⟨⟨_, _, rfl⟩, rfl⟩)
    · obtain ⟨⟨q5, q6, rfl⟩, rfl⟩ := hI
      exact ⟨⟨_, _, _, rfl⟩, rfl⟩
  · rintro ρ' s' ⟨⟨q4, q5, q6, rfl⟩, rfl⟩
    refine st_ret (x := .d (.lst [])) (s' := s ++ [none]) ?_ ⟨rfl, take_app⟩
    show getF 3 _ (s ++ [some ([] : List D)]) = _
    unfold getF
    show (match (s ++ [some ([] : List D)])[s.length]? with
      | some (some ds) => Res.ok (W.d (D.lst ds)) ((s ++ [some ([] : List D)]).set s.length none)
      | _ => .bad) = _
    rw [getLast', setLast]
theorem r_found_flat (m : MOk lo n k b c h) (hlo : 1 ≤ lo) (hf : ∀ x : Int, 0 ≤ x → x < k → aheadF n c h x (noughts n) = noughts n) (s : Sto) :
    f_found_profiles [.d (mdl b c h)] s = .ok (.k s.length) (s ++ [some (oneN n)]) := by
  have hn1 : 1 ≤ n := by have := m.lo; omega
  have hn3 := m.n3
  have hp : (s ++ [some (oneN n)])[s.length]? = some (some (oneN n)) := getLast'
  unfold f_found_profiles s_found_profiles
  refine eq_of_sat (E := NoE) ?_ fun _ _ z => z
  refine st_run ?_
  refine st_set (x := .d (tI (noughts n))) (s' := s) (by simp only [op1, op2, opL, opS, argC, argN, slN, slS, andV, orV, notV, tstV, andT, orT, notT, ifE, truT, chn, calL, itS, itR1, Y.M.bnd, Y.M.ret, cst, getL, gB, gI, gD, o_add, o_sub, o_eq, o_ne, o_eqB, o_ltY, o_leY, o_gtY, o_geY, o_int, o_intB, o_abs, o_lenT, o_lenL, o_lenF, o_tupL, o_tupT, o_listT, o_listL, o_isi, o_slT, o_slL, o_is, o_isnot, o_tru, o_truT, o_truL, ↓reduceIte, List.map_cons, List.map_nil, List.cons_append, List.nil_append, List.length_cons, List.length_nil, List.replicate, List.getElem?_cons_zero, List.getElem?_cons_succ, List.set_cons_zero, List.set_cons_succ, Nat.reduceAdd, Nat.reduceSub, Nat.zero_add, t_one, o_m0, o_lnI, m.bl, o_zero hn1 (by omega)]) ?_
  refine st_set (x := .k s.length) (s' := s ++ [some (oneN n)]) (e_done rfl rfl (isTK_tI _)) ?_
  refine st_set (x := .d (.lst [tI (noughts n)])) (s' := s ++ [some (oneN n)]) (e_opL (e_arg1 rfl) (o_lst (ds := [tI (noughts n)]) rfl (by show 1 ≤ cap; unfold cap; omega))) ?_
  refine st_mid (fun ρ' s' => (∃ q, ρ' = [some (.d (mdl b c h)), some (.d (tI (noughts n))), some (.k s.length), q]) ∧ s' = s ++ [some (oneN n)]) ?_ ?_
  · refine while_inv (fun j ρ' s' => ∃ l, ρ' = [some (.d (mdl b c h)), some (.d (tI (noughts n))), some (.k s.length), some (.d (.lst l))] ∧ s' = s ++ [some (oneN n)] ∧ ((l = [] ∧ j = 0) ∨ (l = [tI (noughts n)] ∧ j = 1))) (fun j ρ' s' hI => ?_) (m := 1) (by decide) ⟨_, rfl, rfl, .inr ⟨rfl, rfl⟩⟩
    obtain ⟨l, rfl, rfl, hl⟩ := hI
    rcases hl with ⟨rfl, rfl⟩ | ⟨rfl, rfl⟩
    · refine sat_of (a := false) (s := s ++ [some (oneN n)]) rfl ?_
      exact ⟨rfl, ⟨_, rfl⟩, rfl⟩
    · refine sat_of (a := true) (s := s ++ [some (oneN n)]) rfl ?_
      refine ⟨0, rfl, ?_⟩
      refine st_setE (x := .d (.lst [])) (s' := s ++ [some (oneN n)]) (e_cal (e_argC rfl (e_argC rfl (e_arg1 rfl))) rfl (r_layer_flat m hlo hf hp)) ?_
      exact ⟨[], rfl, rfl, .inl ⟨rfl, rfl⟩⟩
  · rintro ρ' s' ⟨⟨q, rfl⟩, rfl⟩
    refine st_ret (x := .k s.length) (s' := s ++ [some (oneN n)]) rfl ?_
    have e1 : (s ++ [some (oneN n)]).take (s.length + 1) = s ++ [some (oneN n)] := List.take_of_length_le (by rw [List.length_append]; exact Nat.le_refl _)
    refine ⟨?_, ?_⟩
    · show decide (s.length < s.length + 1) = true
      exact decide_eq_true (Nat.lt_succ_self _)
    · first | exact ⟨rfl, e1⟩ | exact e1
theorem ok_one (h1 : 1 ≤ n) (h3 : n ≤ 3) : OkSort ((oneN n).map keyD) := by
  refine ⟨fun d hd e he => ?_, .inl fun d hd => ?_, fun d hd => ?_, ?_⟩
  · obtain rfl : d = tI (noughts n) := List.mem_singleton.mp hd
    obtain rfl : e = tI (noughts n) := List.mem_singleton.mp he
    match n, h1, h3 with
    | 1, _, _ => decide
    | 2, _, _ => decide
    | 3, _, _ => decide
  · obtain rfl : d = tI (noughts n) := List.mem_singleton.mp hd
    match n, h1 with
    | n + 1, _ => exact ⟨.int 0, (List.replicate n 0).map D.int, rfl⟩
  · obtain rfl : d = tI (noughts n) := List.mem_singleton.mp hd
    match n, h1, h3 with
    | 1, _, _ => decide
    | 2, _, _ => decide
    | 3, _, _ => decide
  · show 1 ≤ cap
    unfold cap
    omega
theorem r_least_flat (m : MOk lo n k b c h) (hlo : 1 ≤ lo) (hf : ∀ x : Int, 0 ≤ x → x < k → aheadF n c h x (noughts n) = noughts n) (s : Sto) :
    f_least_table [.d (mdl b c h)] s = .ok (.d (.tup [tI (noughts n)])) s := by
  have hn1 : 1 ≤ n := by have := m.lo; omega
  unfold f_least_table s_least_table
  refine run_eq (st_ret (x := .d (.tup [tI (noughts n)])) (s' := s ++ [some (oneN n)]) ?_ ⟨rfl, take_app⟩)
  have e1 := o_sortD (n := s.length) (ds := oneN n) (s := s ++ [some (oneN n)]) getLast' tupK_one (ok_one hn1 m.n3)
  refine e_opL (e_arg1 (e_opL (e_arg1 (e_cal (e_arg1 rfl) rfl (r_found_flat m hlo hf s))) e1)) ?_
  have e2 : (List.mergeSort ((oneN n).map keyD) leD) = [tI (noughts n)] := List.mergeSort_singleton _
  rw [e2, o_tupL]
theorem r_profiles_flat (m : MOk lo n k b c h) (hlo : 1 ≤ lo) (hf : ∀ x : Int, 0 ≤ x → x < k → aheadF n c h x (noughts n) = noughts n) (s : Sto) :
    f_profiles [.d (mdl b c h)] s = .ok (.d (.tup [tI (noughts n)])) s := by
  unfold f_profiles s_profiles
  refine run_eq (st_exp (sat_of (s := s) (a := .d .non) (by simp only [op1, op2, opL, opS, argC, argN, slN, slS, andV, orV, notV, tstV, andT, orT, notT, ifE, truT, chn, calL, itS, itR1, Y.M.bnd, Y.M.ret, cst, getL, gB, gI, gD, o_add, o_sub, o_eq, o_ne, o_eqB, o_ltY, o_leY, o_gtY, o_geY, o_int, o_intB, o_abs, o_lenT, o_lenL, o_lenF, o_tupL, o_tupT, o_listT, o_listL, o_isi, o_slT, o_slL, o_is, o_isnot, o_tru, o_truT, o_truL, ↓reduceIte, List.map_cons, List.map_nil, List.cons_append, List.nil_append, List.length_cons, List.length_nil, List.replicate, List.getElem?_cons_zero, List.getElem?_cons_succ, List.set_cons_zero, List.set_cons_succ, Nat.reduceAdd, Nat.reduceSub, Nat.zero_add, r_check_model m hlo]) ?_))
  exact ret_eq (s' := s) (e_cal (e_arg1 rfl) rfl (r_least_flat m hlo hf s)) take_self
end
/-! ### what comes by signs ahead, layer by layer (ec_reach) -/
section
variable {α β : Type} [DecidableEq β] {P : α → β}
/-- what is new, by P, is put behind -/
def addN (P : α → β) (E : List α) (x : α) : List α := if P x ∈ E.map P then E else E ++ [x]
def grow (P : α → β) (E cs : List α) : List α := cs.foldl (addN P) E
theorem grow_nil {E : List α} : grow P E [] = E := rfl
theorem grow_snoc {E cs : List α} {x : α} : grow P E (cs ++ [x]) = addN P (grow P E cs) x := by
  unfold grow
  rw [List.foldl_append]
  rfl
theorem grow_app {E cs ds : List α} : grow P E (cs ++ ds) = grow P (grow P E cs) ds := by
  unfold grow
  rw [List.foldl_append]
theorem grow_is : ∀ (cs E : List α), ∃ z, grow P E cs = E ++ z ∧ z.Sublist cs
  | [], E => ⟨[], (List.append_nil E).symm, List.Sublist.refl _⟩
  | x :: cs, E => by
    obtain ⟨z, e, hz⟩ := grow_is cs (addN P E x)
    have e1 : grow P E (x :: cs) = grow P (addN P E x) cs := rfl
    rw [e1, e]
    unfold addN
    split
    · exact ⟨z, rfl, hz.cons x⟩
    · exact ⟨x :: z, by rw [List.append_assoc]; rfl, hz.cons_cons x⟩
theorem grow_sub {E cs : List α} {x : α} (h : x ∈ E) : x ∈ grow P E cs := by
  obtain ⟨z, e, _⟩ := grow_is (P := P) cs E
  rw [e]
  exact List.mem_append_left _ h
theorem grow_from {E cs : List α} {x : α} (h : x ∈ grow P E cs) : x ∈ E ∨ x ∈ cs := by
  obtain ⟨z, e, hz⟩ := grow_is (P := P) cs E
  rw [e] at h
  exact (List.mem_append.mp h).imp id fun h => hz.subset h
theorem add_nodup {E : List α} {x : α} (h : (E.map P).Nodup) : ((addN P E x).map P).Nodup := by
  unfold addN
  split
  · exact h
  · rename_i hx
    rw [List.map_append, List.nodup_append]
    refine ⟨h, by simp, fun a ha b hb e => ?_⟩
    rw [List.map_singleton, List.mem_singleton] at hb
    exact hx (by rw [← hb, ← e]; exact ha)
theorem grow_nodup : ∀ (cs E : List α), (E.map P).Nodup → ((grow P E cs).map P).Nodup
  | [], E, h => h
  | x :: cs, E, h => grow_nodup cs (addN P E x) (add_nodup h)
theorem grow_all {E cs : List α} {x : α} (h : x ∈ cs) : P x ∈ (grow P E cs).map P := by
  obtain ⟨as, bs, rfl⟩ := List.append_of_mem h
  rw [show as ++ x :: bs = (as ++ [x]) ++ bs by rw [List.append_assoc]; rfl, grow_app, grow_snoc]
  obtain ⟨z, e, _⟩ := grow_is (P := P) bs (addN P (grow P E as) x)
  rw [e, List.map_append]
  refine List.mem_append_left _ ?_
  unfold addN
  split
  · rename_i hx; exact hx
  · rw [List.map_append]; exact List.mem_append_right _ List.mem_cons_self
theorem grow_le {E cs : List α} : E.length ≤ (grow P E cs).length := by
  obtain ⟨z, e, _⟩ := grow_is (P := P) cs E
  rw [e, List.length_append]
  exact Nat.le_add_right _ _
end
section
variable {lo n k : Nat} {b : List Int} {c h : List (List Int)}
/-- the profiles' first signs, and the last layer of these -/
def cands (k : Nat) (L : List (List Int)) : List (List Int) := (rg k).flatMap fun x => L.map fun sg => x :: sg
def lays (n k : Nat) (c h : List (List Int)) : Nat → List (List Int) × List (List Int)
  | 0 => ([[]], [[]])
  | j + 1 => (grow (profF n c h) (lays n k c h j).1 (cands k (lays n k c h j).2), (grow (profF n c h) (lays n k c h j).1 (cands k (lays n k c h j).2)).drop (lays n k c h j).1.length)
theorem mem_cands {k : Nat} {L : List (List Int)} {q : List Int} : q ∈ cands k L ↔ ∃ x sg, q = x :: sg ∧ (0 ≤ x ∧ x < k) ∧ sg ∈ L := by
  unfold cands
  rw [List.mem_flatMap]
  constructor
  · rintro ⟨x, hx, hq⟩
    obtain ⟨sg, hs, rfl⟩ := List.mem_map.mp hq
    exact ⟨x, sg, rfl, mem_rg.mp hx, hs⟩
  · rintro ⟨x, sg, rfl, hx, hs⟩
    exact ⟨x, mem_rg.mpr hx, List.mem_map.mpr ⟨sg, hs, rfl⟩⟩
structure Lays (n k : Nat) (c h : List (List Int)) (j : Nat) (st : List (List Int) × List (List Int)) : Prop where
  nd : (st.1.map (profF n c h)).Nodup
  isIn : ∀ sg ∈ st.1, In k sg
  sub : ∀ sg ∈ st.2, sg ∈ st.1
  clo : ∀ sg ∈ st.1, sg ∈ st.2 ∨ ∀ x : Int, 0 ≤ x ∧ x < k → profF n c h (x :: sg) ∈ st.1.map (profF n c h)
  emp : ([] : List Int) ∈ st.1
  srt : st.2.Pairwise fun a b => ltI a b = true
  len : ∀ sg ∈ st.1, sg.length ≤ j
  cnt : st.2 ≠ [] → j + 1 ≤ st.1.length
theorem ltI_cons {x y : Int} {l m : List Int} : ltI (x :: l) (y :: m) = true ↔ x < y ∨ (x = y ∧ ltI l m = true) := by
  rw [show ltI (x :: l) (y :: m) = (if x = y then ltI l m else decide (x < y)) from rfl]
  by_cases e : x = y
  · rw [if_pos e]
    constructor
    · exact fun h => .inr ⟨e, h⟩
    · rintro (h | h)
      · omega
      · exact h.2
  · rw [if_neg e, decide_eq_true_iff]
    constructor
    · exact fun h => .inl h
    · rintro (h | h)
      · exact h
      · exact absurd h.1 e
theorem rg_asc (n : Nat) : (rg n).Pairwise fun a b => a < b := by
  unfold rg
  rw [List.pairwise_map]
  exact List.Pairwise.imp (fun {a b} h => Int.ofNat_lt.mpr h) (List.pairwise_lt_range (n := n))
theorem cands_sorted {L : List (List Int)} (hL : L.Pairwise fun a b => ltI a b = true) : (cands k L).Pairwise fun a b => ltI a b = true := by
  unfold cands
  have hr := rg_asc k
  generalize rg k = R at hr
  induction R with
  | nil => exact List.Pairwise.nil
  | cons x R ih =>
    rw [List.flatMap_cons, List.pairwise_append]
    obtain ⟨h1, h2⟩ := List.pairwise_cons.mp hr
    refine ⟨?_, ih h2, fun a ha d hd => ?_⟩
    · rw [List.pairwise_map]
      exact hL.imp fun q => ltI_cons.mpr (.inr ⟨rfl, q⟩)
    · obtain ⟨sg, _, rfl⟩ := List.mem_map.mp ha
      obtain ⟨y, hy, hd⟩ := List.mem_flatMap.mp hd
      obtain ⟨sg2, _, rfl⟩ := List.mem_map.mp hd
      exact ltI_cons.mpr (.inl (h1 y hy))
theorem lays_is : ∀ j, Lays n k c h j (lays n k c h j)
  | 0 => by
    have e1 : ∀ sg : List Int, sg ∈ (lays n k c h 0).1 → sg = [] := fun sg hs => List.mem_singleton.mp hs
    refine ⟨by simp [lays], fun sg hs => ?_, fun sg hs => hs, fun sg hs => .inl hs, List.mem_cons_self, List.pairwise_singleton _ _, fun sg hs => ?_, fun _ => Nat.le_refl _⟩
    · rw [e1 sg hs]
      exact fun x hx => nomatch hx
    · rw [e1 sg hs]
      exact Nat.le_refl _
  | j + 1 => by
    have I := lays_is j
    generalize hst : lays n k c h j = st at I
    obtain ⟨E, L⟩ := st
    obtain ⟨z, e, hz⟩ := grow_is (P := profF n c h) (cands k L) E
    have e1 : lays n k c h (j + 1) = (E ++ z, z) := by
      unfold lays
      rw [hst]
      show (grow (profF n c h) E (cands k L), (grow (profF n c h) E (cands k L)).drop E.length) = _
      rw [e, List.drop_left]
    have nd := grow_nodup (P := profF n c h) (cands k L) E I.nd
    rw [e] at nd
    have hzc : ∀ q ∈ z, ∃ x sg, q = x :: sg ∧ (0 ≤ x ∧ x < k) ∧ sg ∈ L := fun q hq => mem_cands.mp (hz.subset hq)
    rw [e1]
    refine ⟨nd, fun sg hs => ?_, fun sg hs => List.mem_append_right _ hs, fun sg hs => ?_, List.mem_append_left _ I.emp, (cands_sorted I.srt).sublist hz, fun sg hs => ?_, fun hne => ?_⟩
    · rcases List.mem_append.mp hs with hs | hs
      · exact I.isIn sg hs
      · obtain ⟨x, q, rfl, hx, hq⟩ := hzc sg hs
        intro y hy
        rcases List.mem_cons.mp hy with rfl | hy
        · exact hx
        · exact I.isIn q (I.sub q hq) y hy
    · rcases List.mem_append.mp hs with hs | hs
      · refine .inr fun x hx => ?_
        rcases I.clo sg hs with h1 | h1
        · have := grow_all (P := profF n c h) (E := E) (mem_cands.mpr ⟨x, sg, rfl, hx, h1⟩)
          rw [e] at this
          exact this
        · rw [List.map_append]
          exact List.mem_append_left _ (h1 x hx)
      · exact .inl hs
    · rcases List.mem_append.mp hs with hs | hs
      · exact Nat.le_succ_of_le (I.len sg hs)
      · obtain ⟨x, q, rfl, hx, hq⟩ := hzc sg hs
        exact Nat.succ_le_succ (I.len q (I.sub q hq))
    · have hL : L ≠ [] := fun hl => by
        subst hl
        cases z with
        | nil => exact hne rfl
        | cons q z =>
          obtain ⟨x, sg, _, _, hm⟩ := hzc q List.mem_cons_self
          cases hm
      have := I.cnt hL
      have : 1 ≤ z.length := by
        cases z with
        | nil => exact absurd rfl hne
        | cons q z => exact Nat.succ_le_succ (Nat.zero_le _)
      show j + 1 + 1 ≤ (E ++ z).length
      rw [List.length_append]
      show j + 1 + 1 ≤ E.length + z.length
      have h3 : j + 1 ≤ E.length := I.cnt hL
      omega
theorem lays_stop {j : Nat} (hl : (lays n k c h j).2 = []) : lays n k c h (j + 1) = lays n k c h j := by
  generalize hst : lays n k c h j = st at hl
  obtain ⟨E, L⟩ := st
  obtain rfl : L = [] := hl
  unfold lays
  rw [hst]
  have e : cands k ([] : List (List Int)) = [] := by
    unfold cands
    induction rg k with
    | nil => rfl
    | cons x l ih => rw [List.flatMap_cons, ih]; rfl
  show (grow (profF n c h) E (cands k []), (grow (profF n c h) E (cands k [])).drop E.length) = _
  rw [e, grow_nil, List.drop_length]
theorem lays_stay {j : Nat} (hl : (lays n k c h j).2 = []) : ∀ i, lays n k c h (j + i) = lays n k c h j
  | 0 => rfl
  | i + 1 => by
    have ih := lays_stay hl i
    rw [← Nat.add_assoc, lays_stop (by rw [ih]; exact hl), ih]
/-! how many profiles there are -/
theorem ahead_in (m : MOk lo n k b c h) (hlo : 1 ≤ lo) (x : Int) (nums : List Int) : In 4 (aheadF n c h x nums) ∧ (0 : Int) ∈ aheadF n c h x nums := by
  have hn1 : 1 ≤ n := by have := m.lo; omega
  have hne : goF n c h x nums ≠ [] := fun z => by have := goF_len (n := n) (c := c) (h := h) (x := x) (nums := nums); rw [z] at this; simp at this; omega
  have hmin := minL_mem hne
  refine ⟨fun y hy => ?_, ?_⟩
  · unfold aheadF lessL at hy
    obtain ⟨g, hg, rfl⟩ := List.mem_map.mp hy
    have h1 := minL_le hg
    obtain ⟨i, hi, rfl⟩ := List.mem_map.mp (show g ∈ (rg n).map (goI n c h x nums) from hg)
    obtain ⟨j, hj, ej⟩ := List.mem_map.mp (show minL (goF n c h x nums) ∈ (rg n).map (goI n c h x nums) from hmin)
    have hi := mem_rg.mp hi
    have hj := mem_rg.mp hj
    have hm2 := minL_mem (l := (rg n).map fun l => itm (lin c j) l + itm (lin h l) x + itm nums l) (map_ne (rg_ne hn1))
    obtain ⟨l, hl, el⟩ := List.mem_map.mp hm2
    have hl' := mem_rg.mp hl
    have h2 : goI n c h x nums i ≤ itm (lin c i) l + itm (lin h l) x + itm nums l := minL_le (List.mem_map.mpr ⟨l, hl, rfl⟩)
    have gi := m.gc hi
    have gj := m.gc hj
    have hci := gi.2 _ (itm_mem (l := lin c i) (x := l) (by rw [gi.1]; exact hl'))
    have hcj := gj.2 _ (itm_mem (l := lin c j) (x := l) (by rw [gj.1]; exact hl'))
    have ej' : goI n c h x nums j = itm (lin c j) l + itm (lin h l) x + itm nums l := el.symm
    rw [← ej] at h1 ⊢
    omega
  · unfold aheadF lessL
    exact List.mem_map.mpr ⟨_, hmin, Int.sub_self _⟩
def boxN (n : Nat) : List (List Int) := (allR 4 n).filter fun l => decide ((0 : Int) ∈ l)
theorem boxN_len (h1 : 1 ≤ n) (h3 : n ≤ 3) : (boxN n).length ≤ 37 := by
  match n, h1, h3 with
  | 1, _, _ => decide
  | 2, _, _ => decide
  | 3, _, _ => decide
theorem prof_box (m : MOk lo n k b c h) (hlo : 1 ≤ lo) (sg : List Int) : profF n c h sg ∈ boxN n := by
  have hn1 : 1 ≤ n := by have := m.lo; omega
  unfold boxN
  rw [List.mem_filter, decide_eq_true_iff, mem_allR]
  cases sg with
  | nil =>
    refine ⟨⟨profF_len, fun y hy => ?_⟩, ?_⟩
    · have := List.eq_of_mem_replicate (show y ∈ List.replicate n (0 : Int) from hy)
      omega
    · show (0 : Int) ∈ List.replicate n (0 : Int)
      rw [List.mem_replicate]
      exact ⟨by omega, rfl⟩
  | cons x sg =>
    obtain ⟨h1, h2⟩ := ahead_in m hlo x (profF n c h sg)
    exact ⟨⟨profF_len, h1⟩, h2⟩
theorem box_le (m : MOk lo n k b c h) (hlo : 1 ≤ lo) {l : List (List Int)} (hn : l.Nodup) (hb : ∀ p ∈ l, ∃ sg, p = profF n c h sg) : l.length ≤ 37 :=
  Nat.le_trans (List.Nodup.length_le_of_subset hn fun p hp => by
    obtain ⟨sg, rfl⟩ := hb p hp
    exact prof_box m hlo sg) (boxN_len (by have := m.lo; omega) m.n3)
theorem lays_len (m : MOk lo n k b c h) (hlo : 1 ≤ lo) (j : Nat) : (lays n k c h j).1.length ≤ 37 := by
  have := box_le m hlo (lays_is (n := n) (k := k) (c := c) (h := h) j).nd fun p hp => by
    obtain ⟨sg, _, rfl⟩ := List.mem_map.mp hp
    exact ⟨sg, rfl⟩
  rw [List.length_map] at this
  exact this
theorem lays_few (m : MOk lo n k b c h) (hlo : 1 ≤ lo) {j : Nat} (hl : (lays n k c h j).2 ≠ []) : j ≤ 36 := by
  have h1 := (lays_is (n := n) (k := k) (c := c) (h := h) j).cnt hl
  have h2 := lays_len m hlo j
  omega
/-- all profiles' first signs -/
def allS (n k : Nat) (c h : List (List Int)) : List (List Int) := (lays n k c h 40).1
theorem lays_end (m : MOk lo n k b c h) (hlo : 1 ≤ lo) {j : Nat} (hj : j ≤ 40) (hl : (lays n k c h j).2 = []) : (lays n k c h j).1 = allS n k c h := by
  unfold allS
  rw [show 40 = j + (40 - j) by omega, lays_stay hl]
theorem lays_40 (m : MOk lo n k b c h) (hlo : 1 ≤ lo) : (lays n k c h 40).2 = [] := by
  cases e : (lays n k c h 40).2 with
  | nil => rfl
  | cons x l =>
    have := lays_few m hlo (j := 40) (by rw [e]; exact fun z => nomatch z)
    omega
theorem allS_clo (m : MOk lo n k b c h) (hlo : 1 ≤ lo) {sg : List Int} (hs : sg ∈ allS n k c h) {x : Int} (hx : 0 ≤ x ∧ x < k) : profF n c h (x :: sg) ∈ (allS n k c h).map (profF n c h) := by
  rcases (lays_is (n := n) (k := k) (c := c) (h := h) 40).clo sg hs with h1 | h1
  · rw [lays_40 m hlo] at h1
    cases h1
  · exact h1 x hx
/-- every profile of further signs is among them -/
theorem allS_all (m : MOk lo n k b c h) (hlo : 1 ≤ lo) : ∀ {sg : List Int}, In k sg → profF n c h sg ∈ (allS n k c h).map (profF n c h)
  | [], _ => List.mem_map.mpr ⟨[], (lays_is 40).emp, rfl⟩
  | x :: sg, hs => by
    obtain ⟨q, hq, e⟩ := List.mem_map.mp (allS_all m hlo (sg := sg) fun y hy => hs y (List.mem_cons_of_mem _ hy))
    have := allS_clo m hlo hq (hs x List.mem_cons_self)
    have e2 : profF n c h (x :: q) = profF n c h (x :: sg) := by
      show aheadF n c h x (profF n c h q) = aheadF n c h x (profF n c h sg)
      rw [e]
    rw [← e2]
    exact this
end
/-! ### closures, sorted tables (ed_clo) -/
section
variable {lo n k : Nat} {b : List Int} {c h : List (List Int)}
/-- the law's row of profiles, one member after another -/
def cloF (n k : Nat) (c h : List (List Int)) : Nat → List (List Int)
  | 0 => [noughts n]
  | j + 1 => if j < (cloF n k c h j).length then grow id (cloF n k c h j) ((rg k).map fun x => aheadF n c h x ((cloF n k c h j).getD j [])) else cloF n k c h j
structure Clo (n k : Nat) (c h : List (List Int)) (j : Nat) (R : List (List Int)) : Prop where
  nd : R.Nodup
  src : ∀ p ∈ R, ∃ sg, In k sg ∧ p = profF n c h sg
  emp : noughts n ∈ R
  clo : ∀ i, i < j → i < R.length → ∀ x : Int, 0 ≤ x ∧ x < k → aheadF n c h x (R.getD i []) ∈ R
theorem clo_is : ∀ j, Clo n k c h j (cloF n k c h j)
  | 0 => by
    refine ⟨by simp [cloF], fun p hp => ?_, List.mem_cons_self, fun i hi => absurd hi (Nat.not_lt_zero _)⟩
    rw [show p = noughts n from List.mem_singleton.mp hp]
    exact ⟨[], (fun x hx => nomatch hx), rfl⟩
  | j + 1 => by
    have I := clo_is j
    have e1 : cloF n k c h (j + 1) = if j < (cloF n k c h j).length then grow id (cloF n k c h j) ((rg k).map fun x => aheadF n c h x ((cloF n k c h j).getD j [])) else cloF n k c h j := rfl
    rw [e1]
    generalize cloF n k c h j = R at I
    split
    · rename_i hj
      obtain ⟨z, e, hz⟩ := grow_is (P := id) ((rg k).map fun x => aheadF n c h x (R.getD j [])) R
      have nd := grow_nodup (P := id) ((rg k).map fun x => aheadF n c h x (R.getD j [])) R (by rw [List.map_id]; exact I.nd)
      have ga : ∀ x : Int, 0 ≤ x ∧ x < k → aheadF n c h x (R.getD j []) ∈ R ++ z := fun x hx => by
        have := grow_all (P := id) (E := R) (List.mem_map.mpr ⟨x, mem_rg.mpr hx, rfl⟩ : aheadF n c h x (R.getD j []) ∈ (rg k).map fun x => aheadF n c h x (R.getD j []))
        rw [List.map_id, e] at this
        exact this
      rw [List.map_id, e] at nd
      rw [e]
      refine ⟨nd, fun p hp => ?_, List.mem_append_left _ I.emp, fun i hi hl x hx => ?_⟩
      · rcases List.mem_append.mp hp with hp | hp
        · exact I.src p hp
        · obtain ⟨x, hx, rfl⟩ := List.mem_map.mp (hz.subset hp)
          have hR : R.getD j [] ∈ R := by
            rw [List.getD, List.getElem?_eq_getElem hj]
            exact List.getElem_mem hj
          obtain ⟨sg, hs, e2⟩ := I.src _ hR
          refine ⟨x :: sg, fun y hy => ?_, by rw [e2]; rfl⟩
          rcases List.mem_cons.mp hy with rfl | hy
          · exact mem_rg.mp hx
          · exact hs y hy
      · have hiR : i < R.length := by omega
        have eg : (R ++ z).getD i [] = R.getD i [] := by rw [List.getD, List.getD, List.getElem?_append_left hiR]
        rw [eg]
        by_cases hij : i = j
        · rw [hij]; exact ga x hx
        · exact List.mem_append_left _ (I.clo i (by omega) hiR x hx)
    · exact ⟨I.nd, I.src, I.emp, fun i hi hl x hx => I.clo i (by omega) hl x hx⟩
theorem clo_len (m : MOk lo n k b c h) (hlo : 1 ≤ lo) (j : Nat) : (cloF n k c h j).length ≤ 37 :=
  box_le m hlo (clo_is (k := k) j).nd fun p hp => by
    obtain ⟨sg, _, e⟩ := (clo_is (k := k) j).src p hp
    exact ⟨sg, e⟩
theorem clo_all (m : MOk lo n k b c h) (hlo : 1 ≤ lo) {j : Nat} (hj : 37 ≤ j) : ∀ {sg : List Int}, In k sg → profF n c h sg ∈ cloF n k c h j
  | [], _ => (clo_is j).emp
  | x :: sg, hs => by
    have ih := clo_all m hlo hj (sg := sg) fun y hy => hs y (List.mem_cons_of_mem _ hy)
    obtain ⟨i, hi⟩ := List.mem_iff_getElem?.mp ih
    obtain ⟨hl, e⟩ := List.getElem?_eq_some_iff.mp hi
    have hL := clo_len m hlo j
    have := (clo_is (n := n) (k := k) (c := c) (h := h) j).clo i (by omega) hl x (hs x List.mem_cons_self)
    rw [List.getD, hi] at this
    exact this
theorem allS_src {sg : List Int} (hs : sg ∈ allS n k c h) : In k sg := (lays_is 40).isIn sg hs
theorem clo_perm (m : MOk lo n k b c h) (hlo : 1 ≤ lo) {j : Nat} (hj : 37 ≤ j) : ((allS n k c h).map (profF n c h)).Perm (cloF n k c h j) := by
  refine (List.perm_ext_iff_of_nodup (show ((allS n k c h).map (profF n c h)).Nodup from (lays_is 40).nd) (clo_is j).nd).mpr fun p => ?_
  constructor
  · intro hp
    obtain ⟨sg, hs, rfl⟩ := List.mem_map.mp hp
    exact clo_all m hlo hj (allS_src hs)
  · intro hp
    obtain ⟨sg, hs, rfl⟩ := (clo_is j).src p hp
    exact allS_all m hlo hs
theorem sortI_pw (l : List (List Int)) : (l.mergeSort leI).Pairwise fun a b => leI a b = true := List.pairwise_mergeSort leI_trans leI_total l
theorem sortI_uniq {l r : List (List Int)} (hp : l.Perm r) (hr : r.Pairwise fun a b => leI a b = true) : l.mergeSort leI = r :=
  ((List.mergeSort_perm l leI).trans hp).eq_of_pairwise (fun a b _ _ x y => le_anti (leI_le.mp x) (leI_le.mp y)) (sortI_pw l) hr
theorem sortI_perm {l r : List (List Int)} (hp : l.Perm r) : l.mergeSort leI = r.mergeSort leI := sortI_uniq (hp.trans (List.mergeSort_perm r leI).symm) (sortI_pw r)
/-- the least table -/
def tabF (n k : Nat) (c h : List (List Int)) : List (List Int) := ((allS n k c h).map (profF n c h)).mergeSort leI
theorem tab_clo (m : MOk lo n k b c h) (hlo : 1 ≤ lo) {j : Nat} (hj : 37 ≤ j) : (cloF n k c h j).mergeSort leI = tabF n k c h := (sortI_perm (clo_perm m hlo hj)).symm
theorem mem_tab (m : MOk lo n k b c h) (hlo : 1 ≤ lo) {p : List Int} : p ∈ tabF n k c h ↔ ∃ sg, In k sg ∧ p = profF n c h sg := by
  unfold tabF
  rw [List.mem_mergeSort]
  constructor
  · intro hp
    obtain ⟨sg, hs, rfl⟩ := List.mem_map.mp hp
    exact ⟨sg, allS_src hs, rfl⟩
  · rintro ⟨sg, hs, rfl⟩
    exact allS_all m hlo hs
theorem tab_len (m : MOk lo n k b c h) (hlo : 1 ≤ lo) : (tabF n k c h).length ≤ 37 := by
  unfold tabF
  rw [List.length_mergeSort, List.length_map]
  exact lays_len m hlo 40
theorem tab_ne : tabF n k c h ≠ [] := fun z => by
  have := (lays_is (n := n) (k := k) (c := c) (h := h) 40).emp
  have h2 : (tabF n k c h).length = (allS n k c h).length := by unfold tabF; rw [List.length_mergeSort, List.length_map]
  rw [z] at h2
  have h3 : allS n k c h = [] := List.length_eq_zero_iff.mp h2.symm
  unfold allS at h3
  rw [h3] at this
  cases this
/-- first signs in the order of their profiles -/
def leS (n : Nat) (c h : List (List Int)) (a d : List Int) : Bool := if profF n c h a = profF n c h d then leI a d else leI (profF n c h a) (profF n c h d)
theorem leI_refl (a : List Int) : leI a a = true := leI_le.mpr (le_refl a)
theorem leS_le {a d : List Int} (q : leS n c h a d = true) : leI (profF n c h a) (profF n c h d) = true := by
  unfold leS at q
  split at q
  · rename_i e
    rw [e]
    exact leI_refl _
  · exact q
theorem leS_trans (a d e : List Int) (h1 : leS n c h a d = true) (h2 : leS n c h d e = true) : leS n c h a e = true := by
  have l1 := leS_le h1
  have l2 := leS_le h2
  have l3 := leI_trans _ _ _ l1 l2
  unfold leS at h1 h2 ⊢
  split
  · rename_i e1
    have e2 : profF n c h a = profF n c h d := le_anti (leI_le.mp l1) (by rw [e1]; exact leI_le.mp l2)
    rw [if_pos e2] at h1
    rw [if_pos (e2.symm.trans e1)] at h2
    exact leI_trans _ _ _ h1 h2
  · exact l3
theorem leS_total (a d : List Int) : (leS n c h a d || leS n c h d a) = true := by
  unfold leS
  by_cases e : profF n c h a = profF n c h d
  · rw [if_pos e, if_pos e.symm]
    exact leI_total a d
  · rw [if_neg e, if_neg fun z => e z.symm]
    exact leI_total _ _
def firstsF (n k : Nat) (c h : List (List Int)) : List (List Int) := (allS n k c h).mergeSort (leS n c h)
theorem firsts_tab : (firstsF n k c h).map (profF n c h) = tabF n k c h := by
  unfold firstsF tabF
  refine (sortI_uniq ((List.mergeSort_perm (allS n k c h) (leS n c h)).symm.map (profF n c h)) ?_).symm
  rw [List.pairwise_map]
  exact (List.pairwise_mergeSort leS_trans leS_total _).imp leS_le
theorem mem_firsts {sg : List Int} : sg ∈ firstsF n k c h ↔ sg ∈ allS n k c h := List.mem_mergeSort
/-- the spread is at most the greatest difference of two costs of change to one state -/
theorem ahead_most (m : MOk lo n k b c h) (hlo : 1 ≤ lo) {w : Int} (hw : ∀ i j l : Int, 0 ≤ i ∧ i < n → 0 ≤ j ∧ j < n → 0 ≤ l ∧ l < n → itm (lin c i) l - itm (lin c j) l ≤ w) (x : Int) (nums : List Int) : ∀ y ∈ aheadF n c h x nums, y ≤ w := by
  have hn1 : 1 ≤ n := by have := m.lo; omega
  have hne : goF n c h x nums ≠ [] := fun z => by have := goF_len (n := n) (c := c) (h := h) (x := x) (nums := nums); rw [z] at this; simp at this; omega
  have hmin := minL_mem hne
  intro y hy
  unfold aheadF lessL at hy
  obtain ⟨g, hg, rfl⟩ := List.mem_map.mp hy
  obtain ⟨i, hi, rfl⟩ := List.mem_map.mp (show g ∈ (rg n).map (goI n c h x nums) from hg)
  obtain ⟨j, hj, ej⟩ := List.mem_map.mp (show minL (goF n c h x nums) ∈ (rg n).map (goI n c h x nums) from hmin)
  have hi := mem_rg.mp hi
  have hj := mem_rg.mp hj
  have hm2 := minL_mem (l := (rg n).map fun l => itm (lin c j) l + itm (lin h l) x + itm nums l) (map_ne (rg_ne hn1))
  obtain ⟨l, hl, el⟩ := List.mem_map.mp hm2
  have hl' := mem_rg.mp hl
  have h2 : goI n c h x nums i ≤ itm (lin c i) l + itm (lin h l) x + itm nums l := minL_le (List.mem_map.mpr ⟨l, hl, rfl⟩)
  have h3 := hw i j l hi hj hl'
  have ej' : goI n c h x nums j = itm (lin c j) l + itm (lin h l) x + itm nums l := el.symm
  rw [← ej]
  omega
end
/-! ### the dict of profiles, in general (ee_found) -/
section
variable {ρ : Loc} {s : Sto} {F O I : Loc → M W} {R : Loc → M (Loc × Fl)} {E : XC → Sto → Prop} {PS : (Loc × Fl) → Sto → Prop}
theorem st_putD {n : Nat} {k y : D} {ds : List D} (h1 : F ρ s = .ok (.d y) s) (h2 : O ρ s = .ok (.k n) s) (h3 : I ρ s = .ok (.d k) s) (h4 : s[n]? = some (some ds)) (ht : tupK ds = true) (hk : isTK k = true) (hl : ds.length < cap)
    (q : PS (ρ, .nx) (s.set n (some (dput k y ds)))) : (putDS F O I ρ s).sat PS E := by
  unfold putDS
  rw [bnd_ok h1, bnd_ok h2, bnd_ok h3, bnd_ok (o_dput h4 ht hk hl)]
  exact q
theorem st_putDS {n : Nat} {k y : D} {ds : List D} (h1 : F ρ s = .ok (.d y) s) (h2 : O ρ s = .ok (.k n) s) (h3 : I ρ s = .ok (.d k) s) (h4 : s[n]? = some (some ds)) (ht : tupK ds = true) (hk : isTK k = true) (hl : ds.length < cap)
    (q : (R ρ (s.set n (some (dput k y ds)))).sat PS E) : (seqS (putDS F O I) R ρ s).sat PS E := by
  rw [v_seq]
  exact st_putD h1 h2 h3 h4 ht hk hl q
end
theorem nk_inj {a b : List Int} : nk (tI a) = nk (tI b) ↔ a = b := by
  rw [nk_tI, nk_tI]
  constructor
  · intro h
    injection h with h
    injection h with h
    exact (List.map_inj_right fun x y h => NestedKey.num.inj h).mp h
  · intro h
    rw [h]
section
variable {lo n k : Nat} {b : List Int} {c h : List (List Int)}
def tP (n : Nat) (c h : List (List Int)) (sg : List Int) : D := tI (profF n c h sg)
def entD (n : Nat) (c h : List (List Int)) (sg : List Int) : D := .tup [tI (profF n c h sg), tI sg]
def dS (n : Nat) (c h : List (List Int)) (E : List (List Int)) : List D := E.map (entD n c h)
theorem tupK_dS {E : List (List Int)} : tupK (dS n c h E) = true := by
  unfold tupK
  rw [List.all_eq_true]
  intro d hd
  obtain ⟨sg, _, rfl⟩ := List.mem_map.mp hd
  exact isTK_tI _
theorem dfind_none {E : List (List Int)} {p : List Int} (hp : p ∉ E.map (profF n c h)) : dfind (tI p) (dS n c h E) = none := by
  unfold dfind
  rw [List.find?_eq_none.mpr fun d hd => ?_]
  · rfl
  · obtain ⟨sg, hs, rfl⟩ := List.mem_map.mp hd
    intro z
    have e : profF n c h sg = p := nk_inj.mp (of_decide_eq_true z)
    exact hp (List.mem_map.mpr ⟨sg, hs, e⟩)
theorem dfind_some : ∀ {E : List (List Int)} {sg : List Int}, (E.map (profF n c h)).Nodup → sg ∈ E → dfind (tI (profF n c h sg)) (dS n c h E) = some (tI sg)
  | [], sg, _, hs => nomatch hs
  | e :: E, sg, nd, hs => by
    rw [List.map_cons, List.nodup_cons] at nd
    by_cases he : profF n c h e = profF n c h sg
    · have e2 : sg = e := by
        rcases List.mem_cons.mp hs with hs | hs
        · exact hs
        · exact absurd (List.mem_map.mpr ⟨sg, hs, he.symm⟩) nd.1
      subst e2
      unfold dfind dS
      rw [List.map_cons, List.find?_cons_of_pos (by exact decide_eq_true rfl)]
      rfl
    · have hs2 : sg ∈ E := (List.mem_cons.mp hs).resolve_left fun z => he (by rw [z])
      have ih := dfind_some nd.2 hs2
      unfold dfind dS at ih ⊢
      rw [List.map_cons, List.find?_cons_of_neg (by
        intro z
        exact he (nk_inj.mp (of_decide_eq_true z)))]
      exact ih
theorem dfind_is {E : List (List Int)} {p : List Int} (nd : (E.map (profF n c h)).Nodup) : (dfind (tI p) (dS n c h E)).isSome = decide (p ∈ E.map (profF n c h)) := by
  by_cases hp : p ∈ E.map (profF n c h)
  · rw [decide_eq_true hp]
    obtain ⟨sg, hs, rfl⟩ := List.mem_map.mp hp
    rw [dfind_some nd hs]
    rfl
  · rw [dfind_none hp, decide_eq_false hp]
    rfl
theorem dput_new {E : List (List Int)} {sg : List Int} (hp : profF n c h sg ∉ E.map (profF n c h)) : dput (tI (profF n c h sg)) (tI sg) (dS n c h E) = dS n c h (E ++ [sg]) := by
  unfold dput
  rw [if_neg]
  · unfold dS
    rw [List.map_append]
    rfl
  · intro z
    obtain ⟨d, hd, e⟩ := List.any_eq_true.mp z
    obtain ⟨q, hq, rfl⟩ := List.mem_map.mp hd
    exact hp (List.mem_map.mpr ⟨q, hq, nk_inj.mp (of_decide_eq_true e)⟩)
/-- the store of a layer: what was found, and the newest behind it -/
def stG (n : Nat) (c h : List (List Int)) (s : Sto) (p : Nat) (E cs : List (List Int)) : Sto := s.set p (some (dS n c h (grow (profF n c h) E cs))) ++ [some (((grow (profF n c h) E cs).drop E.length).map (tP n c h))]
theorem grow_37 (m : MOk lo n k b c h) (hlo : 1 ≤ lo) {E cs : List (List Int)} (nd : (E.map (profF n c h)).Nodup) : (grow (profF n c h) E cs).length ≤ 37 := by
  have := box_le m hlo (grow_nodup (P := profF n c h) cs E nd) fun p hp => by
    obtain ⟨sg, _, rfl⟩ := List.mem_map.mp hp
    exact ⟨sg, rfl⟩
  rw [List.length_map] at this
  exact this
theorem stG_at {s : Sto} {p : Nat} {E cs : List (List Int)} (hp : p < s.length) : (stG n c h s p E cs)[p]? = some (some (dS n c h (grow (profF n c h) E cs))) := by
  unfold stG
  rw [List.getElem?_append_left (by rw [List.length_set]; exact hp), List.getElem?_set_self hp]
theorem r_layer (m : MOk lo n k b c h) (hlo : 1 ≤ lo) {E L : List (List Int)} {p : Nat} {s : Sto} (hp : s[p]? = some (some (dS n c h E))) (nd : (E.map (profF n c h)).Nodup) (hL : ∀ sg ∈ L, sg ∈ E ∧ sg.length ≤ 100) :
    f_layer_ahead [.d (mdl b c h), .k p, .d (.lst (L.map (tP n c h)))] s = .ok (.d (.lst (((grow (profF n c h) E (cands k L)).drop E.length).map (tP n c h)))) (s.set p (some (dS n c h (grow (profF n c h) E (cands k L))))) := by
  have hk3 := m.k3
  have hn1 : 1 ≤ n := by have := m.lo; omega
  have g0 := m.gh (x := 0) ⟨by omega, by omega⟩
  have hpl : p < s.length := (List.getElem?_eq_some_iff.mp hp).1
  have e0 : stG n c h s p E [] = s ++ [some []] := by
    unfold stG
    rw [grow_nil, List.drop_length]
    have : s.set p (some (dS n c h E)) = s := by
      refine List.ext_getElem? fun i => ?_
      by_cases hi : p = i
      · subst hi
        rw [List.getElem?_set_self hpl, hp]
      · rw [List.getElem?_set_ne hi]
    rw [this]
    rfl
  unfold f_layer_ahead s_layer_ahead
  refine eq_of_sat (E := NoE) ?_ fun _ _ z => z
  refine st_run (st_set (x := .h s.length) (s' := s ++ [some []]) rfl ?_)
  refine st_mid (fun ρ' s' => (∃ q4 q5 q6, ρ' = [some (.d (mdl b c h)), some (.k p), some (.d (.lst (L.map (tP n c h)))), some (.h s.length), q4, q5, q6]) ∧ s' = stG n c h s p E (cands k L)) ?_ ?_
  · rw [v_for]
    refine sat_of (a := (rg k).map D.int) (s := s ++ [some []]) (e_itR1 (n := k) (by simp only [op1, op2, opL, opS, argC, argN, slN, slS, andV, orV, notV, tstV, andT, orT, notT, ifE, truT, chn, calL, itS, itR1, Y.M.bnd, Y.M.ret, cst, getL, gB, gI, gD, o_add, o_sub, o_eq, o_ne, o_eqB, o_ltY, o_leY, o_gtY, o_geY, o_int, o_intB, o_abs, o_lenT, o_lenL, o_lenF, o_tupL, o_tupT, o_listT, o_listL, o_isi, o_slT, o_slL, o_is, o_isnot, o_tru, o_truT, o_truL, ↓reduceIte, List.map_cons, List.map_nil, List.cons_append, List.nil_append, List.length_cons, List.length_nil, List.replicate, List.getElem?_cons_zero, List.getElem?_cons_succ, List.set_cons_zero, List.set_cons_succ, Nat.reduceAdd, Nat.reduceSub, Nat.zero_add, o_m2, o_iL (m := h) (x := 0) (by rw [m.hl]; omega), o_lnI, g0.1]) (by omega)) ?_
    refine for_inv (fun i ρ' s' => (∃ q4 q5 q6, ρ' = [some (.d (mdl b c h)), some (.k p), some (.d (.lst (L.map (tP n c h)))), some (.h s.length), q4, q5, q6]) ∧ s' = stG n c h s p E (((rg k).take i).flatMap fun x => L.map fun sg => x :: sg)) (fun i d ρ' s' hd hI => ?_) (fun ρ' s' hI => ?_) ⟨⟨none, none, none, rfl⟩, e0.symm⟩
    · obtain ⟨⟨q4, q5, q6, rfl⟩, rfl⟩ := hI
      rw [List.getElem?_map, Option.map_eq_some_iff] at hd
      obtain ⟨x, hx, rfl⟩ := hd
      have hxk := mem_rg.mp (List.mem_of_getElem? hx)
      have ecs : ((rg k).take (i + 1)).flatMap (fun x => L.map fun sg => x :: sg) = ((rg k).take i).flatMap (fun x => L.map fun sg => x :: sg) ++ L.map fun sg => x :: sg := by
        rw [List.take_succ, hx, List.flatMap_append]
        simp
      rw [ecs]
      generalize ((rg k).take i).flatMap (fun x => L.map fun sg => x :: sg) = cs
      refine ⟨_, rfl, ?_⟩
      rw [v_for]
      refine sat_of (a := L.map (tP n c h)) (s := stG n c h s p E cs) (e_itS (d := .lst (L.map (tP n c h))) rfl rfl) ?_
      refine for_inv (fun j ρ' s' => (∃ q5 q6, ρ' = [some (.d (mdl b c h)), some (.k p), some (.d (.lst (L.map (tP n c h)))), some (.h s.length), some (.d (.int x)), q5, q6]) ∧ s' = stG n c h s p E (cs ++ (L.take j).map fun sg => x :: sg)) (fun j d ρ' s' hd hI => ?_) (fun ρ' s' hI => ?_) ⟨⟨_, _, rfl⟩, by rw [List.take_zero, List.map_nil, List.append_nil]⟩
      · obtain ⟨⟨q5, q6, rfl⟩, rfl⟩ := hI
        rw [List.getElem?_map, Option.map_eq_some_iff] at hd
        obtain ⟨sg, hsg, rfl⟩ := hd
        have hsL := hL sg (List.mem_of_getElem? hsg)
        have ej : cs ++ (L.take (j + 1)).map (fun sg => x :: sg) = (cs ++ (L.take j).map fun sg => x :: sg) ++ [x :: sg] := by
          rw [List.take_succ, hsg, List.map_append, List.append_assoc]
          rfl
        rw [ej]
        generalize cs ++ (L.take j).map (fun sg => x :: sg) = ds
        have hG := grow_37 (k := k) (b := b) m hlo (cs := ds) nd
        have ndG := grow_nodup (P := profF n c h) ds E nd
        have hat := stG_at (n := n) (c := c) (h := h) (E := E) (cs := ds) hpl
        have hle := grow_le (P := profF n c h) (E := E) (cs := ds)
        have es1 := grow_snoc (P := profF n c h) (E := E) (cs := ds) (x := x :: sg)
        refine ⟨_, rfl, ?_⟩
        refine st_set (x := .d (tI (profF n c h (x :: sg)))) (s' := stG n c h s p E ds) (e_cal (e_argC rfl (e_argC rfl (e_arg1 rfl))) rfl (r_ahead_of m hlo hxk (nums := profF n c h sg) profF_len _)) ?_
        have e := o_din (neg := true) hat tupK_dS (isTK_tI (profF n c h (x :: sg)))
        rw [dfind_is ndG] at e
        by_cases hm : profF n c h (x :: sg) ∈ (grow (profF n c h) E ds).map (profF n c h)
        · rw [decide_eq_true hm] at e
          refine st_if (b := false) (s' := stG n c h s p E ds) (e_tst (e_op2 (x := .d (tI (profF n c h (x :: sg)))) (y := .k p) rfl rfl e)) (fun z => by cases z) (fun _ => ⟨⟨_, _, rfl⟩, ?_⟩)
          unfold stG
          rw [es1]
          unfold addN
          rw [if_pos hm]
        · rw [decide_eq_false hm] at e
          refine st_if (b := true) (s' := stG n c h s p E ds) (e_tst (e_op2 (x := .d (tI (profF n c h (x :: sg)))) (y := .k p) rfl rfl e)) (fun _ => ?_) (fun z => by cases z)
          refine st_putDS (n := p) (k := tI (profF n c h (x :: sg))) (y := tI (x :: sg)) (ds := dS n c h (grow (profF n c h) E ds)) ?_ rfl rfl hat tupK_dS (isTK_tI _) (by unfold dS; rw [List.length_map]; unfold cap; omega) ?_
          · refine e_op2 (x := .d (tI [x])) (y := .d (tI sg)) (s' := stG n c h s p E ds) (s2 := stG n c h s p E ds) rfl (e_op2 (x := .k p) (y := .d (tI (profF n c h sg))) (s' := stG n c h s p E ds) (s2 := stG n c h s p E ds) rfl rfl (o_dix hat tupK_dS (isTK_tI _) (dfind_some ndG (grow_sub hsL.1)))) ?_
            exact o_catI (a := [x]) (b := sg) (by have := hsL.2; unfold cap; simp only [List.length_singleton]; omega)
          · rw [dput_new hm]
            have e2 : (stG n c h s p E ds).set p (some (dS n c h (grow (profF n c h) E ds ++ [x :: sg]))) = s.set p (some (dS n c h (grow (profF n c h) E ds ++ [x :: sg]))) ++ [some (((grow (profF n c h) E ds).drop E.length).map (tP n c h))] := by
              unfold stG
              rw [List.set_append_left _ _ (by rw [List.length_set]; exact hpl), List.set_set]
            rw [e2]
            refine st_push (x := tI (profF n c h (x :: sg))) (by rw [List.length_set]; rfl) (by rw [List.length_map, List.length_drop]; unfold cap; omega) (e_arg1 rfl) ⟨⟨_, _, rfl⟩, ?_⟩
            unfold stG
            rw [es1]
            unfold addN
            rw [if_neg hm, List.drop_append_of_le_length hle, List.map_append]
            rfl
      · obtain ⟨⟨q5, q6, rfl⟩, rfl⟩ := hI
        refine ⟨⟨_, _, _, rfl⟩, ?_⟩
        rw [List.length_map, List.take_length]
    · rw [List.length_map, List.take_length] at hI
      exact ⟨rfl, hI⟩
  · rintro ρ' s' ⟨⟨q4, q5, q6, rfl⟩, rfl⟩
    have hl : (s.set p (some (dS n c h (grow (profF n c h) E (cands k L))))).length = s.length := List.length_set
    refine st_ret (x := .d (.lst (((grow (profF n c h) E (cands k L)).drop E.length).map (tP n c h)))) (s' := s.set p (some (dS n c h (grow (profF n c h) E (cands k L)))) ++ [none]) ?_ ⟨rfl, rfl, by rw [← hl]; exact take_app⟩
    unfold stG
    rw [← hl]
    show getF 3 _ _ = _
    unfold getF
    show (match (s.set p (some (dS n c h (grow (profF n c h) E (cands k L)))) ++ [some (((grow (profF n c h) E (cands k L)).drop E.length).map (tP n c h))])[(s.set p (some (dS n c h (grow (profF n c h) E (cands k L))))).length]? with
      | some (some ds) => Res.ok (W.d (D.lst ds)) ((s.set p (some (dS n c h (grow (profF n c h) E (cands k L)))) ++ [some (((grow (profF n c h) E (cands k L)).drop E.length).map (tP n c h))]).set (s.set p (some (dS n c h (grow (profF n c h) E (cands k L))))).length none)
      | _ => .bad) = _
    rw [getLast', setLast]
theorem r_found (m : MOk lo n k b c h) (hlo : 1 ≤ lo) (s : Sto) : f_found_profiles [.d (mdl b c h)] s = .ok (.k s.length) (s ++ [some (dS n c h (allS n k c h))]) := by
  have hn1 : 1 ≤ n := by have := m.lo; omega
  have hn3 := m.n3
  unfold f_found_profiles s_found_profiles
  refine eq_of_sat (E := NoE) ?_ fun _ _ z => z
  refine st_run ?_
  refine st_set (x := .d (tI (noughts n))) (s' := s) (by simp only [op1, op2, opL, opS, argC, argN, slN, slS, andV, orV, notV, tstV, andT, orT, notT, ifE, truT, chn, calL, itS, itR1, Y.M.bnd, Y.M.ret, cst, getL, gB, gI, gD, o_add, o_sub, o_eq, o_ne, o_eqB, o_ltY, o_leY, o_gtY, o_geY, o_int, o_intB, o_abs, o_lenT, o_lenL, o_lenF, o_tupL, o_tupT, o_listT, o_listL, o_isi, o_slT, o_slL, o_is, o_isnot, o_tru, o_truT, o_truL, ↓reduceIte, List.map_cons, List.map_nil, List.cons_append, List.nil_append, List.length_cons, List.length_nil, List.replicate, List.getElem?_cons_zero, List.getElem?_cons_succ, List.set_cons_zero, List.set_cons_succ, Nat.reduceAdd, Nat.reduceSub, Nat.zero_add, t_one, o_m0, o_lnI, m.bl, o_zero hn1 (by omega)]) ?_
  refine st_set (x := .k s.length) (s' := s ++ [some (dS n c h [[]])]) (e_done (k := tI (noughts n)) (z := .tup []) rfl rfl (isTK_tI _)) ?_
  refine st_set (x := .d (.lst [tI (noughts n)])) (s' := s ++ [some (dS n c h [[]])]) (e_opL (e_arg1 rfl) (o_lst (ds := [tI (noughts n)]) rfl (by show 1 ≤ cap; unfold cap; omega))) ?_
  refine st_mid (fun ρ' s' => (∃ q, ρ' = [some (.d (mdl b c h)), some (.d (tI (noughts n))), some (.k s.length), q]) ∧ s' = s ++ [some (dS n c h (allS n k c h))]) ?_ ?_
  · refine while_inv (fun j ρ' s' => ∃ i, j + i = 40 ∧ ρ' = [some (.d (mdl b c h)), some (.d (tI (noughts n))), some (.k s.length), some (.d (.lst ((lays n k c h i).2.map (tP n c h))))] ∧ s' = s ++ [some (dS n c h (lays n k c h i).1)]) (fun j ρ' s' hI => ?_) (m := 40) (by decide) ⟨0, rfl, rfl, rfl⟩
    obtain ⟨i, hij, rfl, rfl⟩ := hI
    have I := lays_is (n := n) (k := k) (c := c) (h := h) i
    by_cases hl : (lays n k c h i).2 = []
    · rw [hl]
      refine sat_of (a := false) (s := s ++ [some (dS n c h (lays n k c h i).1)]) rfl ?_
      exact ⟨rfl, ⟨_, rfl⟩, by rw [lays_end m hlo (by omega) hl]⟩
    · have h36 := lays_few m hlo hl
      have hr := r_layer m hlo (s := s ++ [some (dS n c h (lays n k c h i).1)]) (p := s.length) (E := (lays n k c h i).1) (L := (lays n k c h i).2) getLast' I.nd fun sg hs => ⟨I.sub sg hs, by have := I.len sg (I.sub sg hs); omega⟩
      rw [setLast] at hr
      refine sat_of (a := true) (s := s ++ [some (dS n c h (lays n k c h i).1)]) ?_ ?_
      · generalize (lays n k c h i).2 = L at hl
        cases L with
        | nil => exact absurd rfl hl
        | cons x L => rfl
      · refine ⟨j - 1, by omega, ?_⟩
        refine st_setE (x := .d (.lst ((lays n k c h (i + 1)).2.map (tP n c h)))) (s' := s ++ [some (dS n c h (lays n k c h (i + 1)).1)]) (e_cal (e_argC rfl (e_argC rfl (e_arg1 rfl))) rfl hr) ?_
        exact ⟨i + 1, by omega, rfl, rfl⟩
  · rintro ρ' s' ⟨⟨q, rfl⟩, rfl⟩
    refine st_ret (x := .k s.length) (s' := s ++ [some (dS n c h (allS n k c h))]) rfl ?_
    have e1 : (s ++ [some (dS n c h (allS n k c h))]).take (s.length + 1) = s ++ [some (dS n c h (allS n k c h))] := List.take_of_length_le (by rw [List.length_append]; exact Nat.le_refl _)
    refine ⟨?_, ?_⟩
    · show decide (s.length < s.length + 1) = true
      exact decide_eq_true (Nat.lt_succ_self _)
    · first | exact ⟨rfl, e1⟩ | exact e1
end
/-! ### least_table, profiles, spread, first_signs (ef_tables) -/
section
variable {lo n k : Nat} {b : List Int} {c h : List (List Int)}
theorem sortD_tI (l : List (List Int)) : (l.map tI).mergeSort leD = (l.mergeSort leI).map tI := by
  refine (List.map_mergeSort fun a _ b _ => ?_).symm
  show leI a b = leD (tI a) (tI b)
  unfold leI leD
  rw [ltD_tI]
theorem keys_dS {E : List (List Int)} : (dS n c h E).map keyD = (E.map (profF n c h)).map tI := by
  unfold dS
  rw [List.map_map, List.map_map]
  rfl
theorem prof_ne (hn : 1 ≤ n) {sg : List Int} : profF n c h sg ≠ [] := fun z => by
  have := profF_len (n := n) (c := c) (h := h) (sg := sg)
  rw [z, List.length_nil] at this
  omega
theorem ok_keys (m : MOk lo n k b c h) (hlo : 1 ≤ lo) : OkSort (((allS n k c h).map (profF n c h)).map tI) := by
  have hn1 : 1 ≤ n := by have := m.lo; omega
  refine okSort_rows (by rw [List.length_map]; have := lays_len m hlo 40; unfold cap; unfold allS; omega) fun r hr => ?_
  obtain ⟨sg, _, rfl⟩ := List.mem_map.mp hr
  exact prof_ne hn1
theorem r_least (m : MOk lo n k b c h) (hlo : 1 ≤ lo) (s : Sto) : f_least_table [.d (mdl b c h)] s = .ok (.d (tII (tabF n k c h))) s := by
  unfold f_least_table s_least_table
  refine run_eq (st_ret (x := .d (tII (tabF n k c h))) (s' := s ++ [some (dS n c h (allS n k c h))]) ?_ ⟨rfl, take_app⟩)
  have e1 := o_sortD (n := s.length) (ds := dS n c h (allS n k c h)) (s := s ++ [some (dS n c h (allS n k c h))]) getLast' tupK_dS (by rw [keys_dS]; exact ok_keys m hlo)
  rw [keys_dS, sortD_tI] at e1
  refine e_opL (e_arg1 (e_opL (e_arg1 (e_cal (e_arg1 rfl) rfl (r_found m hlo s))) e1)) ?_
  rw [o_tupL]
  rfl
theorem r_profiles (m : MOk lo n k b c h) (hlo : 1 ≤ lo) (s : Sto) : f_profiles [.d (mdl b c h)] s = .ok (.d (tII (tabF n k c h))) s := by
  unfold f_profiles s_profiles
  refine run_eq (st_exp (sat_of (s := s) (a := .d .non) (by simp only [op1, op2, opL, opS, argC, argN, slN, slS, andV, orV, notV, tstV, andT, orT, notT, ifE, truT, chn, calL, itS, itR1, Y.M.bnd, Y.M.ret, cst, getL, gB, gI, gD, o_add, o_sub, o_eq, o_ne, o_eqB, o_ltY, o_leY, o_gtY, o_geY, o_int, o_intB, o_abs, o_lenT, o_lenL, o_lenF, o_tupL, o_tupT, o_listT, o_listL, o_isi, o_slT, o_slL, o_is, o_isnot, o_tru, o_truT, o_truL, ↓reduceIte, List.map_cons, List.map_nil, List.cons_append, List.nil_append, List.length_cons, List.length_nil, List.replicate, List.getElem?_cons_zero, List.getElem?_cons_succ, List.set_cons_zero, List.set_cons_succ, Nat.reduceAdd, Nat.reduceSub, Nat.zero_add, r_check_model m hlo]) ?_))
  exact ret_eq (s' := s) (e_cal (e_arg1 rfl) rfl (r_least m hlo s)) take_self
/-- the greatest number of all profiles -/
def sprF (n k : Nat) (c h : List (List Int)) : Int := maxL ((tabF n k c h).map maxL)
theorem tab_mem (m : MOk lo n k b c h) (hlo : 1 ≤ lo) {p : List Int} (hp : p ∈ tabF n k c h) : p.length = n ∧ p ≠ [] ∧ In 4 p := by
  have hn1 : 1 ≤ n := by have := m.lo; omega
  obtain ⟨sg, _, rfl⟩ := (mem_tab m hlo).mp hp
  exact ⟨profF_len, prof_ne hn1, (mem_allR.mp (List.mem_filter.mp (prof_box m hlo sg)).1).2⟩
theorem lc_spread (m : MOk lo n k b c h) (hlo : 1 ≤ lo) {vs : List Nat} {i : Nat} {ρ : Loc} {I : Loc → M (List D)} {s : Sto} (hI : I ρ s = .ok ((tabF n k c h).map tI) s) (hi : ∀ x : D, ((wipeL ρ vs).set i (some (.d x)))[i]? = some (some (.d x))) :
    opL (optL (fBest true)) (argC (lcE vs I (bName i) yes (opL (optL (fBest true)) (argC (getL i) argN))) argN) ρ s = .ok (.d (.int (sprF n k c h))) s := by
  have hlen := tab_len m hlo
  refine e_opL (e_arg1 (lc_e (l := tabF n k c h) tI (fun p => D.int (maxL p)) hI (by unfold cap; omega) fun p hp => ⟨_, rfl, ?_⟩)) ?_
  · obtain ⟨h1, h2, _⟩ := tab_mem m hlo hp
    refine e_opL (e_arg1 (x := .d (tI p)) (s' := s) ?_) (o_maxD h2 seq_tI)
    unfold getL
    rw [hi]
  · exact o_maxD (l := (tabF n k c h).map maxL) (map_ne tab_ne) (by rw [List.map_map]; rfl)
theorem r_spread (m : MOk lo n k b c h) (hlo : 1 ≤ lo) (s : Sto) : f_spread [.d (mdl b c h)] s = .ok (.d (.int (sprF n k c h))) s := by
  unfold f_spread s_spread
  refine run_eq (st_exp (sat_of (s := s) (a := .d .non) (by simp only [op1, op2, opL, opS, argC, argN, slN, slS, andV, orV, notV, tstV, andT, orT, notT, ifE, truT, chn, calL, itS, itR1, Y.M.bnd, Y.M.ret, cst, getL, gB, gI, gD, o_add, o_sub, o_eq, o_ne, o_eqB, o_ltY, o_leY, o_gtY, o_geY, o_int, o_intB, o_abs, o_lenT, o_lenL, o_lenF, o_tupL, o_tupT, o_listT, o_listL, o_isi, o_slT, o_slL, o_is, o_isnot, o_tru, o_truT, o_truL, ↓reduceIte, List.map_cons, List.map_nil, List.cons_append, List.nil_append, List.length_cons, List.length_nil, List.replicate, List.getElem?_cons_zero, List.getElem?_cons_succ, List.set_cons_zero, List.set_cons_succ, Nat.reduceAdd, Nat.reduceSub, Nat.zero_add, r_check_model m hlo]) ?_))
  refine ret_eq (s' := s) (lc_spread m hlo ?_ fun x => rfl) take_self
  exact e_itS (d := tII (tabF n k c h)) (e_cal (e_arg1 rfl) rfl (r_least m hlo s)) seq_tII
theorem spr_most (m : MOk lo n k b c h) (hlo : 1 ≤ lo) {w : Int} (h0 : 0 ≤ w) (hw : ∀ i j l : Int, 0 ≤ i ∧ i < n → 0 ≤ j ∧ j < n → 0 ≤ l ∧ l < n → itm (lin c i) l - itm (lin c j) l ≤ w) : sprF n k c h ≤ w := by
  unfold sprF
  obtain ⟨p, hp, e⟩ := List.mem_map.mp (maxL_mem (l := (tabF n k c h).map maxL) (map_ne tab_ne))
  rw [← e]
  obtain ⟨sg, _, rfl⟩ := (mem_tab m hlo).mp hp
  have hm := maxL_mem (tab_mem m hlo hp).2.1
  cases sg with
  | nil =>
    have := List.eq_of_mem_replicate (show maxL (profF n c h []) ∈ List.replicate n (0 : Int) from hm)
    omega
  | cons x sg => exact ahead_most m hlo hw x (profF n c h sg) _ hm
/-! first_signs -/
theorem alike_ent (a e : List Int) : PySem.W.alike (toPy (entD n c h a)) (toPy (entD n c h e)) = true := by
  have h1 := alike_tI (profF n c h a) (profF n c h e)
  have h2 := alike_tI a e
  unfold entD
  simp only [toPy, toPys, PySem.W.alike, PySem.W.alikeAll, h1, h2, Bool.and_true]
theorem depth_ent (a : List Int) : (toPy (entD n c h a)).depth ≤ 50 := by
  have h1 := depth_tI (profF n c h a)
  have h2 := depth_tI a
  unfold entD
  simp only [toPy, toPys, PyData.depth, PyData.depthAll, h1, h2]
  decide
theorem ltD_ent (a e : List Int) : ltD (entD n c h a) (entD n c h e) = if profF n c h a = profF n c h e then ltI a e else ltI (profF n c h a) (profF n c h e) := by
  unfold ltD entD
  show PySem.W.dataLt (.tuple [toPy (tI (profF n c h a)), toPy (tI a)]) (.tuple [toPy (tI (profF n c h e)), toPy (tI e)]) = _
  rw [PySem.W.dataLt_pair (alike_tI _ _) (alike_tI a e), dataLt_tI, dataLt_tI]
  simp only [eqv_tI]
  by_cases e1 : profF n c h a = profF n c h e
  · rw [if_pos e1, e1, ltI_irr]
    by_cases e2 : a = e
    · rw [e2, ltI_irr]
      simp
    · simp [e2]
  · rw [if_neg e1]
    simp [e1]
theorem sort_dS : (dS n c h (allS n k c h)).mergeSort leD = (firstsF n k c h).map (entD n c h) := by
  unfold dS firstsF
  refine (List.map_mergeSort fun a _ e _ => ?_).symm
  show leS n c h a e = leD (entD n c h a) (entD n c h e)
  unfold leS leD
  rw [ltD_ent]
  by_cases e1 : profF n c h a = profF n c h e
  · rw [if_pos e1, if_pos e1.symm]
    rfl
  · rw [if_neg e1, if_neg fun z => e1 z.symm]
    rfl
theorem ok_dS (m : MOk lo n k b c h) (hlo : 1 ≤ lo) : OkSort (dS n c h (allS n k c h)) := by
  refine ⟨fun d hd e he => ?_, .inl fun d hd => ?_, fun d hd => ?_, ?_⟩
  · obtain ⟨a, _, rfl⟩ := List.mem_map.mp hd
    obtain ⟨f, _, rfl⟩ := List.mem_map.mp he
    exact alike_ent a f
  · obtain ⟨a, _, rfl⟩ := List.mem_map.mp hd
    exact ⟨_, _, rfl⟩
  · obtain ⟨a, _, rfl⟩ := List.mem_map.mp hd
    exact depth_ent a
  · unfold dS
    rw [List.length_map]
    have := lays_len m hlo 40
    unfold cap allS
    omega
theorem r_first_signs (m : MOk lo n k b c h) (hlo : 1 ≤ lo) (s : Sto) :
    f_first_signs [.d (mdl b c h)] s = .ok (.h (s.length + 1)) (s ++ [some (dS n c h (allS n k c h))] ++ [some ((firstsF n k c h).map (entD n c h))]) := by
  have e2 : (s ++ [some (dS n c h (allS n k c h))]).length = s.length + 1 := by rw [List.length_append]; rfl
  have e1 := e_sortItH (F := calL 1 f_found_profiles (argC (getL 0) argN)) (ρ := [some (.d (mdl b c h))]) (n := s.length) (s := s) (s' := s ++ [some (dS n c h (allS n k c h))]) (e_cal (e_arg1 rfl) rfl (r_found m hlo s)) getLast' tupK_dS (ok_dS m hlo)
  rw [sort_dS, e2] at e1
  unfold f_first_signs s_first_signs
  refine eq_of_sat (E := NoE) ?_ fun _ _ z => z
  refine st_run (st_exp (sat_of (s := s) (a := .d .non) (by simp only [op1, op2, opL, opS, argC, argN, slN, slS, andV, orV, notV, tstV, andT, orT, notT, ifE, truT, chn, calL, itS, itR1, Y.M.bnd, Y.M.ret, cst, getL, gB, gI, gD, o_add, o_sub, o_eq, o_ne, o_eqB, o_ltY, o_leY, o_gtY, o_geY, o_int, o_intB, o_abs, o_lenT, o_lenL, o_lenF, o_tupL, o_tupT, o_listT, o_listL, o_isi, o_slT, o_slL, o_is, o_isnot, o_tru, o_truT, o_truL, ↓reduceIte, List.map_cons, List.map_nil, List.cons_append, List.nil_append, List.length_cons, List.length_nil, List.replicate, List.getElem?_cons_zero, List.getElem?_cons_succ, List.set_cons_zero, List.set_cons_succ, Nat.reduceAdd, Nat.reduceSub, Nat.zero_add, r_check_model m hlo]) ?_))
  refine st_ret e1 ?_
  refine ⟨?_, ?_⟩
  · show decide (s.length + 1 < s.length + 2) = true
    exact decide_eq_true (Nat.lt_succ_self _)
  · have e3 : (s ++ [some (dS n c h (allS n k c h))] ++ [some ((firstsF n k c h).map (entD n c h))]).take (s.length + 2) = s ++ [some (dS n c h (allS n k c h))] ++ [some ((firstsF n k c h).map (entD n c h))] := List.take_of_length_le (by rw [List.length_append, e2]; exact Nat.le_refl _)
    first | exact ⟨rfl, e3⟩ | exact e3
end
/-! ### the law's own closure and first signs (eg_lawtab) -/
theorem inP_mem (p : List Int) (l : List (List Int)) : inP (tI p) (l.map tI) = decide (p ∈ l) := by
  rw [inP_tI]
  by_cases hp : p ∈ l
  · rw [decide_eq_true hp]
    exact List.contains_iff_mem.mpr hp
  · rw [decide_eq_false hp]
    cases e : l.contains p with
    | false => rfl
    | true => exact absurd (List.contains_iff_mem.mp e) hp
theorem o_sortedH {n : Nat} {ds : List D} {s : Sto} (h : s[n]? = some (some ds)) (hc : OkSort ds) : optL fSortedB [.h n] s = .ok (.d (.lst (ds.mergeSort leD))) s := by
  unfold optL fSortedB fSortedT fSorted
  simp only [vw, h, Option.bind_some, lstOf, if_pos hc]
theorem o_lenH {n : Nat} {ds : List D} {s : Sto} (h : s[n]? = some (some ds)) : optL fLen [.h n] s = .ok (.d (.int ds.length)) s := by
  unfold optL fLen
  simp only [vw, h, seqOf, Option.bind_some]
  first | rfl | done
theorem o_atH {n j : Nat} {d : D} {ds : List D} {s : Sto} (h : s[n]? = some (some ds)) (hj : ds[j]? = some d) : opt2 fIx (.h n) (.d (.int (j : Nat))) s = .ok (.d d) s := by
  unfold opt2 fIx
  simp only [vw, h, seqOf, Option.bind_some, atI_nat hj, Option.map_some]
section
variable {lo n k : Nat} {b : List Int} {c h : List (List Int)}
/-- the store of the law's closure -/
def stC (s : Sto) (R : List (List Int)) : Sto := s ++ [some (R.map tI)]
theorem r_law_closure (m : MOk lo n k b c h) (hlo : 1 ≤ lo) (s : Sto) : f__law_closure [.d (mdl b c h), .d (.lst [tI (noughts n)])] s = .ok (.d (tII (tabF n k c h))) s := by
  have hk3 := m.k3
  have hn1 : 1 ≤ n := by have := m.lo; omega
  have g0 := m.gh (x := 0) ⟨by omega, by omega⟩
  unfold f__law_closure s__law_closure
  refine run_eq (st_set (x := .h s.length) (s' := s ++ [some [tI (noughts n)]]) (by unfold opL; rw [bnd_ok (e_arg1 rfl)]; rfl) ?_)
  refine st_mid (fun ρ' s' => (∃ q3 q4 q5, ρ' = [some (.d (mdl b c h)), some (.d (.lst [tI (noughts n)])), some (.h s.length), q3, q4, q5]) ∧ s' = stC s (cloF n k c h 200)) ?_ ?_
  · rw [v_for]
    refine sat_of (a := (rg 200).map D.int) (s := stC s (cloF n k c h 0)) (e_itR1 rfl (by decide)) ?_
    refine for_inv (fun j ρ' s' => (∃ q3 q4 q5, ρ' = [some (.d (mdl b c h)), some (.d (.lst [tI (noughts n)])), some (.h s.length), q3, q4, q5]) ∧ s' = stC s (cloF n k c h j)) (fun j d ρ' s' hd hI => ?_) (fun ρ' s' hI => ?_) ⟨⟨none, none, none, rfl⟩, rfl⟩
    · obtain ⟨⟨q3, q4, q5, rfl⟩, rfl⟩ := hI
      obtain ⟨rfl, hj⟩ := rg_at hd
      have e1 : cloF n k c h (j + 1) = if j < (cloF n k c h j).length then grow id (cloF n k c h j) ((rg k).map fun x => aheadF n c h x ((cloF n k c h j).getD j [])) else cloF n k c h j := rfl
      have hcl := clo_len (k := k) m hlo j
      have I := clo_is (n := n) (k := k) (c := c) (h := h) j
      rw [e1]
      generalize cloF n k c h j = R at hcl I
      refine ⟨_, rfl, ?_⟩
      refine st_if (b := decide (j < R.length)) (s' := stC s R) ?_ (fun hb => ?_) (fun hb => ?_)
      · refine e_tst (e_op2 (x := .d (.int (j : Nat))) (y := .d (.int (R.length : Nat))) (s' := stC s R) (s2 := stC s R) rfl (e_opL (e_arg1 rfl) ?_) ?_)
        · have := o_lenH (n := s.length) (ds := R.map tI) (s := stC s R) getLast'
          rw [List.length_map] at this
          exact this
        · rw [o_ltY]
          exact congrArg (fun z => Res.ok (W.d (D.bl z)) (stC s R)) (decide_eq_decide.mpr Int.ofNat_lt)
      · have hjR : j < R.length := of_decide_eq_true hb
        have hjg : R[j]? = some (R.getD j []) := by rw [List.getD, List.getElem?_eq_getElem hjR]; rfl
        have hnl : (R.getD j []).length = n := by
          obtain ⟨sg, _, e⟩ := I.src _ (List.mem_of_getElem? hjg)
          rw [e]
          exact profF_len
        rw [if_pos hjR, v_for]
        generalize R.getD j [] = p at hjg hnl
        refine sat_of (a := (rg k).map D.int) (s := stC s R) (e_itR1 (n := k) (by simp only [op1, op2, opL, opS, argC, argN, slN, slS, andV, orV, notV, tstV, andT, orT, notT, ifE, truT, chn, calL, itS, itR1, Y.M.bnd, Y.M.ret, cst, getL, gB, gI, gD, o_add, o_sub, o_eq, o_ne, o_eqB, o_ltY, o_leY, o_gtY, o_geY, o_int, o_intB, o_abs, o_lenT, o_lenL, o_lenF, o_tupL, o_tupT, o_listT, o_listL, o_isi, o_slT, o_slL, o_is, o_isnot, o_tru, o_truT, o_truL, ↓reduceIte, List.map_cons, List.map_nil, List.cons_append, List.nil_append, List.length_cons, List.length_nil, List.replicate, List.getElem?_cons_zero, List.getElem?_cons_succ, List.set_cons_zero, List.set_cons_succ, Nat.reduceAdd, Nat.reduceSub, Nat.zero_add, o_m2, o_iL (m := h) (x := 0) (by rw [m.hl]; omega), o_lnI, g0.1]) (by omega)) ?_
        refine for_inv (fun i ρ' s' => (∃ q4 q5, ρ' = [some (.d (mdl b c h)), some (.d (.lst [tI (noughts n)])), some (.h s.length), some (.d (.int j)), q4, q5]) ∧ s' = stC s (grow id R (((rg k).take i).map fun x => aheadF n c h x p))) (fun i d ρ' s' hd hI => ?_) (fun ρ' s' hI => ?_) ⟨⟨_, _, rfl⟩, rfl⟩
        · obtain ⟨⟨q4, q5, rfl⟩, rfl⟩ := hI
          rw [List.getElem?_map, Option.map_eq_some_iff] at hd
          obtain ⟨x, hx, rfl⟩ := hd
          have hxk := mem_rg.mp (List.mem_of_getElem? hx)
          have hik : i < k := by
            have := (List.getElem?_eq_some_iff.mp hx).1
            rw [rg_len] at this
            exact this
          have e2 : ((rg k).take (i + 1)).map (fun x => aheadF n c h x p) = (((rg k).take i).map fun x => aheadF n c h x p) ++ [aheadF n c h x p] := by
            rw [List.take_succ, hx, List.map_append]
            rfl
          rw [e2, grow_snoc]
          obtain ⟨z, ez, hz⟩ := grow_is (P := id) (((rg k).take i).map fun x => aheadF n c h x p) R
          have hzl : z.length ≤ 3 := by
            have := hz.length_le
            rw [List.length_map, List.length_take] at this
            omega
          have hGl : (grow id R (((rg k).take i).map fun x => aheadF n c h x p)).length ≤ 40 := by rw [ez, List.length_append]; omega
          have hGj : (grow id R (((rg k).take i).map fun x => aheadF n c h x p))[j]? = some p := by rw [ez, List.getElem?_append_left hjR]; exact hjg
          generalize grow id R (((rg k).take i).map fun x => aheadF n c h x p) = G at hGl hGj
          refine ⟨_, rfl, ?_⟩
          refine st_set (x := .d (tI (aheadF n c h x p))) (s' := stC s G) (e_cal (xs := [.d (mdl b c h), .d (.int x), .d (tI p)]) (s' := stC s G) (e_argC rfl (e_argC rfl (e_arg1 (e_op2 (x := .h s.length) (y := .d (.int (j : Nat))) (s' := stC s G) (s2 := stC s G) rfl rfl (o_atH (ds := G.map tI) getLast' (by rw [List.getElem?_map, hGj]; rfl)))))) rfl (r_law_ahead m hlo hxk hnl _)) ?_
          have e := o_inH (neg := true) (x := tI (aheadF n c h x p)) (ds := G.map tI) (n := s.length) (s := stC s G) getLast' (by rw [depth_tI]; decide)
          rw [inP_mem] at e
          by_cases hm : aheadF n c h x p ∈ G
          · rw [decide_eq_true hm] at e
            refine st_if (b := false) (s' := stC s G) (e_tst (e_op2 (x := .d (tI (aheadF n c h x p))) (y := .h s.length) rfl rfl e)) (fun z => by cases z) (fun _ => ⟨⟨_, _, rfl⟩, ?_⟩)
            unfold addN
            rw [if_pos (by rw [List.map_id]; exact hm)]
          · rw [decide_eq_false hm] at e
            refine st_if (b := true) (s' := stC s G) (e_tst (e_op2 (x := .d (tI (aheadF n c h x p))) (y := .h s.length) rfl rfl e)) (fun _ => ?_) (fun z => by cases z)
            refine st_push (x := tI (aheadF n c h x p)) rfl (by rw [List.length_map]; unfold cap; omega) (e_arg1 rfl) ⟨⟨_, _, rfl⟩, ?_⟩
            unfold addN stC
            rw [if_neg (by rw [List.map_id]; exact hm), List.map_append]
            rfl
        · obtain ⟨⟨q4, q5, rfl⟩, rfl⟩ := hI
          refine ⟨⟨_, _, _, rfl⟩, ?_⟩
          rw [List.length_map, List.take_length]
      · have hjR : ¬ j < R.length := of_decide_eq_false hb
        rw [if_neg hjR]
        exact ⟨⟨_, _, _, rfl⟩, rfl⟩
    · rw [List.length_map, rg_len] at hI
      exact ⟨rfl, hI⟩
  · rintro ρ' s' ⟨⟨q3, q4, q5, rfl⟩, rfl⟩
    have hcl := clo_len (k := k) m hlo 200
    have hok : OkSort ((cloF n k c h 200).map tI) := okSort_rows (by unfold cap; omega) fun r hr => by
      obtain ⟨sg, _, e⟩ := (clo_is 200).src r hr
      rw [e]
      exact prof_ne hn1
    have e1 := o_sortedH (n := s.length) (ds := (cloF n k c h 200).map tI) (s := stC s (cloF n k c h 200)) getLast' hok
    rw [sortD_tI, tab_clo m hlo (by decide)] at e1
    refine st_ret (x := .d (tII (tabF n k c h))) (s' := stC s (cloF n k c h 200)) (e_opL (e_arg1 (e_opL (e_arg1 rfl) e1)) ?_) ⟨rfl, take_app⟩
    rw [o_tupL]
    rfl
end
/-! ### the law's own first signs (eh_lawfirst) -/
theorem flat_cons {β γ : Type} (g : β → γ) (q : β → List γ) : ∀ R : List β, (R.flatMap fun b => g b :: q b).Perm (R.map g ++ R.flatMap q)
  | [] => List.Perm.refl _
  | b :: R => by
    rw [List.flatMap_cons, List.map_cons, List.flatMap_cons, List.cons_append, List.cons_append]
    exact ((List.Perm.append_left (q b) (flat_cons g q R)).trans (List.perm_append_comm_assoc _ _ _)).cons (g b)
theorem flat_swap {α β γ : Type} (f : α → β → γ) (R : List β) : ∀ L : List α, (L.flatMap fun a => R.map (f a)).Perm (R.flatMap fun b => L.map fun a => f a b)
  | [] => by
    have : (R.flatMap fun b => ([] : List α).map fun a => f a b) = [] := by
      induction R with
      | nil => rfl
      | cons b R ih => rw [List.flatMap_cons, ih]; rfl
    rw [this]
    exact List.Perm.refl _
  | a :: L => by
    rw [List.flatMap_cons]
    exact (List.Perm.append_left _ (flat_swap f R L)).trans (flat_cons (f a) (fun b => L.map fun a => f a b) R).symm
def extC (k : Nat) (sg : List Int) : List (List Int) := (rg k).map fun x => x :: sg
theorem extC_len (k : Nat) : ∀ L : List (List Int), (L.flatMap (extC k)).length = L.length * k
  | [] => by simp
  | sg :: L => by
    rw [List.flatMap_cons, List.length_append, extC_len k L, List.length_cons, Nat.succ_mul]
    unfold extC
    rw [List.length_map, rg_len, Nat.add_comm]
theorem leI_of {a d : List Int} (h : ltI a d = true) : leI a d = true := by
  rw [leI_iff, h]
  rfl
theorem sort_cands {k : Nat} {L : List (List Int)} (hL : L.Pairwise fun a b => ltI a b = true) : (L.flatMap (extC k)).mergeSort leI = cands k L :=
  sortI_uniq (flat_swap (fun sg x => x :: sg) (rg k) L) ((cands_sorted hL).imp leI_of)
section
variable {lo n k : Nat} {b : List Int} {c h : List (List Int)}
theorem lays_last (m : MOk lo n k b c h) (hlo : 1 ≤ lo) (j : Nat) : (lays n k c h j).2.length ≤ 37 := by
  have I := lays_is (n := n) (k := k) (c := c) (h := h) j
  have nd : (lays n k c h j).2.Nodup := I.srt.imp fun {a d} q e => by
    rw [e, ltI_irr] at q
    cases q
  have := List.Nodup.length_le_of_subset nd fun sg hs => I.sub sg hs
  have := lays_len (k := k) m hlo j
  omega
/-- the store of the law's first signs: a dict, what it no longer needs, a list -/
def stF (n : Nat) (c h : List (List Int)) (s : Sto) (E : List (List Int)) (Z : Sto) (l : List (List Int)) : Sto := (s ++ some (dS n c h E) :: Z) ++ [some (l.map tI)]
theorem stF_at {s Z : Sto} {E l : List (List Int)} : (stF n c h s E Z l)[s.length]? = some (some (dS n c h E)) := by
  unfold stF
  rw [List.append_assoc, List.getElem?_append_right (Nat.le_refl _), Nat.sub_self]
  rfl
theorem stF_set {s Z : Sto} {E E' l : List (List Int)} : (stF n c h s E Z l).set s.length (some (dS n c h E')) = stF n c h s E' Z l := by
  unfold stF
  rw [List.append_assoc, List.append_assoc, List.set_append_right _ _ (Nat.le_refl _), Nat.sub_self]
  rfl
theorem stF_len {s Z : Sto} {E : List (List Int)} : (s ++ some (dS n c h E) :: Z).length = s.length + 1 + Z.length := by
  rw [List.length_append, List.length_cons]
  omega
theorem r_law_first (m : MOk lo n k b c h) (hlo : 1 ≤ lo) (s : Sto) : f__law_first [.d (mdl b c h)] s = .ok (.k s.length) (s ++ [some (dS n c h (allS n k c h))]) := by
  have hk3 := m.k3
  have hn1 : 1 ≤ n := by have := m.lo; omega
  have hn3 := m.n3
  have g0 := m.gh (x := 0) ⟨by omega, by omega⟩
  have esign : ∀ (ρ : Loc) (S : Sto), ρ[0]? = some (some (.d (mdl b c h))) → itR1 (opL (optL fLen) (argC (op2 (opt2 fIx) (op2 (opt2 fIx) (getL 0) (cst (.int 2))) (cst (.int 0))) argN)) ρ S = .ok ((rg k).map D.int) S := fun ρ S h0 => by
    refine e_itR1 (n := k) ?_ (by omega)
    have e0 : getL 0 ρ S = .ok (.d (mdl b c h)) S := by unfold getL; rw [h0]
    refine e_opL (e_arg1 (e_op2 (x := .d (tII h)) (y := .d (.int 0)) (s' := S) (s2 := S) (e_op2 (x := .d (mdl b c h)) (y := .d (.int 2)) (s' := S) (s2 := S) e0 rfl o_m2) rfl (o_iL (m := h) (x := 0) (by rw [m.hl]; omega)))) ?_
    rw [o_lnI, g0.1]
  unfold f__law_first s__law_first
  refine eq_of_sat (E := NoE) ?_ fun _ _ z => z
  refine st_run ?_
  refine st_set (x := .k s.length) (s' := s ++ [some (dS n c h [[]])]) (e_done (k := tI (noughts n)) (z := .tup []) (by simp only [op1, op2, opL, opS, argC, argN, slN, slS, andV, orV, notV, tstV, andT, orT, notT, ifE, truT, chn, calL, itS, itR1, Y.M.bnd, Y.M.ret, cst, getL, gB, gI, gD, o_add, o_sub, o_eq, o_ne, o_eqB, o_ltY, o_leY, o_gtY, o_geY, o_int, o_intB, o_abs, o_lenT, o_lenL, o_lenF, o_tupL, o_tupT, o_listT, o_listL, o_isi, o_slT, o_slL, o_is, o_isnot, o_tru, o_truT, o_truL, ↓reduceIte, List.map_cons, List.map_nil, List.cons_append, List.nil_append, List.length_cons, List.length_nil, List.replicate, List.getElem?_cons_zero, List.getElem?_cons_succ, List.set_cons_zero, List.set_cons_succ, Nat.reduceAdd, Nat.reduceSub, Nat.zero_add, t_one, o_m0, o_lnI, m.bl, o_zero hn1 (by omega)]) rfl (isTK_tI _)) ?_
  refine st_set (x := .h (s.length + 1)) (s' := stF n c h s [[]] [] [[]]) (by rw [show s.length + 1 = (s ++ [some (dS n c h [[]])]).length by rw [List.length_append]; rfl]; rfl) ?_
  refine st_mid (fun ρ' s' => (∃ q2 q3 q4 q5 q6 q7, ρ' = [some (.d (mdl b c h)), some (.k s.length), q2, q3, q4, q5, q6, q7]) ∧ ∃ Z l, s' = stF n c h s (allS n k c h) Z l) ?_ ?_
  · rw [v_for]
    refine sat_of (a := (rg 40).map D.int) (s := stF n c h s [[]] [] [[]]) (e_itR1 rfl (by decide)) ?_
    refine for_inv (fun j ρ' s' => ∃ q3 q4 q5 q6 q7 Z, ρ' = [some (.d (mdl b c h)), some (.k s.length), some (.h (s.length + 1 + Z.length)), q3, q4, q5, q6, q7] ∧ s' = stF n c h s (lays n k c h j).1 Z (lays n k c h j).2) (fun j d ρ' s' hd hI => ?_) (fun ρ' s' hI => ?_) ⟨none, none, none, none, none, [], rfl, rfl⟩
    · obtain ⟨q3, q4, q5, q6, q7, Z, rfl, rfl⟩ := hI
      obtain ⟨rfl, hj⟩ := rg_at hd
      have I := lays_is (n := n) (k := k) (c := c) (h := h) j
      have hLl := lays_last (k := k) m hlo j
      have e1 : (lays n k c h (j + 1)) = (grow (profF n c h) (lays n k c h j).1 (cands k (lays n k c h j).2), (grow (profF n c h) (lays n k c h j).1 (cands k (lays n k c h j).2)).drop (lays n k c h j).1.length) := rfl
      rw [e1]
      have IL : ∀ sg ∈ (lays n k c h j).2, In k sg ∧ sg.length ≤ j := fun sg hs => ⟨I.isIn sg (I.sub sg hs), I.len sg (I.sub sg hs)⟩
      have Isrt := I.srt
      have Ind := I.nd
      clear I
      generalize (lays n k c h j).1 = E at Ind
      generalize (lays n k c h j).2 = L at IL Isrt hLl
      refine ⟨_, rfl, ?_⟩
      obtain ⟨A, hA⟩ : ∃ A, A = s ++ some (dS n c h E) :: Z := ⟨_, rfl⟩
      have hAl : A.length = s.length + 1 + Z.length := by rw [hA]; exact stF_len
      have hS : stF n c h s E Z L = A ++ [some (L.map tI)] := by rw [hA]; rfl
      rw [hS, ← hAl]
      refine st_set (x := .h (A ++ [some (L.map tI)]).length) (s' := A ++ [some (L.map tI)] ++ [some []]) rfl ?_
      have hBl : (A ++ [some (L.map tI)]).length = (A ++ [(none : Option (List D))]).length := by rw [List.length_append, List.length_append]; rfl
      rw [hBl]
      have hWn : ∀ (r : List (List Int)), r.length ≤ 37 → (r.flatMap (extC k)).length ≤ 111 := fun r hr => by
        rw [extC_len]
        have := Nat.mul_le_mul hr hk3
        omega
      refine st_mid (fun ρ' s' => (∃ q5 q6, ρ' = [some (.d (mdl b c h)), some (.k s.length), some (.h A.length), some (.d (.int j)), some (.h (A ++ [(none : Option (List D))]).length), q5, q6, q7]) ∧ s' = A ++ [none] ++ [some ((L.flatMap (extC k)).map tI)]) ?_ ?_
      · rw [v_for]
        refine sat_of (a := L.map tI) (s := A ++ [none] ++ [some []]) ?_ ?_
        · refine e_itS (d := .lst (L.map tI)) (s' := A ++ [none] ++ [some []]) ?_ rfl
          show getF 2 _ _ = _
          unfold getF
          show (match (A ++ [some (L.map tI)] ++ [some []])[A.length]? with
            | some (some ds) => Res.ok (W.d (D.lst ds)) ((A ++ [some (L.map tI)] ++ [some []]).set A.length none)
            | _ => .bad) = _
          rw [List.getElem?_append_left (by rw [List.length_append]; exact Nat.lt_succ_self _), getLast', List.set_append_left _ _ (by rw [List.length_append]; exact Nat.lt_succ_self _), setLast]
        · refine for_inv (fun i ρ' s' => (∃ q5 q6, ρ' = [some (.d (mdl b c h)), some (.k s.length), some (.h A.length), some (.d (.int j)), some (.h (A ++ [(none : Option (List D))]).length), q5, q6, q7]) ∧ s' = A ++ [none] ++ [some (((L.take i).flatMap (extC k)).map tI)]) (fun i d ρ' s' hd hI => ?_) (fun ρ' s' hI => ?_) ⟨⟨q5, q6, rfl⟩, rfl⟩
          · obtain ⟨⟨q5, q6, rfl⟩, rfl⟩ := hI
            rw [List.getElem?_map, Option.map_eq_some_iff] at hd
            obtain ⟨sg, hsg, rfl⟩ := hd
            have hsL := IL sg (List.mem_of_getElem? hsg)
            have hW1 := hWn (L.take i) (by rw [List.length_take]; omega)
            have ej : (L.take (i + 1)).flatMap (extC k) = (L.take i).flatMap (extC k) ++ extC k sg := by
              rw [List.take_succ, hsg, List.flatMap_append]
              simp
            rw [ej]
            generalize (L.take i).flatMap (extC k) = Wl at hW1
            refine ⟨_, rfl, ?_⟩
            rw [v_for]
            refine sat_of (a := (rg k).map D.int) (s := A ++ [none] ++ [some (Wl.map tI)]) (esign _ _ rfl) ?_
            refine for_inv (fun u ρ' s' => (∃ q6, ρ' = [some (.d (mdl b c h)), some (.k s.length), some (.h A.length), some (.d (.int j)), some (.h (A ++ [(none : Option (List D))]).length), some (.d (tI sg)), q6, q7]) ∧ s' = A ++ [none] ++ [some ((Wl ++ ((rg k).take u).map fun x => x :: sg).map tI)]) (fun u d ρ' s' hd hI => ?_) (fun ρ' s' hI => ?_) ⟨⟨_, rfl⟩, by rw [List.take_zero, List.map_nil, List.append_nil]⟩
            · obtain ⟨⟨q6, rfl⟩, rfl⟩ := hI
              rw [List.getElem?_map, Option.map_eq_some_iff] at hd
              obtain ⟨x, hx, rfl⟩ := hd
              have eu : Wl ++ ((rg k).take (u + 1)).map (fun x => x :: sg) = (Wl ++ ((rg k).take u).map fun x => x :: sg) ++ [x :: sg] := by
                rw [List.take_succ, hx, List.map_append, List.append_assoc]
                rfl
              have hul : (((rg k).take u).map fun x => x :: sg).length ≤ 3 := by rw [List.length_map, List.length_take, rg_len]; omega
              rw [eu]
              refine ⟨_, rfl, ?_⟩
              refine st_push (x := tI (x :: sg)) rfl (by rw [List.length_map, List.length_append]; unfold cap; omega) (e_arg1 (e_op2 (x := .d (tI [x])) (y := .d (tI sg)) (s' := A ++ [none] ++ [some ((Wl ++ ((rg k).take u).map fun x => x :: sg).map tI)]) (s2 := A ++ [none] ++ [some ((Wl ++ ((rg k).take u).map fun x => x :: sg).map tI)]) rfl rfl (o_catI (a := [x]) (b := sg) (by unfold cap; simp only [List.length_singleton]; omega)))) ⟨⟨_, rfl⟩, ?_⟩
              simp only [List.map_append]
              rfl
            · obtain ⟨⟨q6, rfl⟩, rfl⟩ := hI
              refine ⟨⟨_, _, rfl⟩, ?_⟩
              rw [List.length_map, List.take_length]
              rfl
          · rw [List.length_map, List.take_length] at hI
            exact ⟨rfl, hI⟩
      · rintro ρ' s' ⟨⟨q5, q6, rfl⟩, rfl⟩
        have hW2 := hWn L hLl
        have hWne : ∀ r ∈ L.flatMap (extC k), r ≠ [] := fun r hr => by
          obtain ⟨sg, _, hr⟩ := List.mem_flatMap.mp hr
          obtain ⟨x, _, rfl⟩ := List.mem_map.mp hr
          exact fun z => nomatch z
        have hsrt := sort_cands (k := k) Isrt
        have hcl : (cands k L).length ≤ 111 := by rw [← hsrt, List.length_mergeSort]; exact hW2
        generalize L.flatMap (extC k) = Wl at hW2 hWne hsrt
        obtain ⟨Z', hZ⟩ : ∃ Z', Z' = Z ++ [none, some (Wl.map tI)] := ⟨_, rfl⟩
        have hC : A ++ [none] ++ [some (Wl.map tI)] = s ++ some (dS n c h E) :: Z' := by rw [hA, hZ]; simp
        have hCl : (A ++ [none] ++ [some (Wl.map tI)]).length = s.length + 1 + Z'.length := by rw [hC]; exact stF_len
        have hat : (stF n c h s E Z' [])[(A ++ [(none : Option (List D))]).length]? = some (some (Wl.map tI)) := by
          show ((s ++ some (dS n c h E) :: Z') ++ [some []])[_]? = _
          rw [← hC, List.getElem?_append_left (by simp), getLast']
        refine st_set (x := .h (s.length + 1 + Z'.length)) (s' := stF n c h s E Z' []) (by rw [← hCl]; show Res.ok (W.h (A ++ [none] ++ [some (Wl.map tI)]).length) ((A ++ [none] ++ [some (Wl.map tI)]) ++ [some []]) = _; rw [hC]; rfl) ?_
        rw [v_for]
        refine sat_of (a := (cands k L).map tI) (s := stF n c h s E Z' []) ?_ ?_
        · refine e_itS (d := .lst ((cands k L).map tI)) (s' := stF n c h s E Z' []) (e_opL (e_arg1 rfl) ?_) rfl
          have e2 := o_sortedH hat (okSort_rows (by unfold cap; omega) hWne)
          rw [sortD_tI, hsrt] at e2
          exact e2
        · have estart : stF n c h s E Z' [] = stF n c h s (grow (profF n c h) E ((cands k L).take 0)) Z' ((grow (profF n c h) E ((cands k L).take 0)).drop E.length) := by
            rw [List.take_zero, grow_nil, List.drop_length]
          refine for_inv (fun i ρ' s' => (∃ q5 q6 q7, ρ' = [some (.d (mdl b c h)), some (.k s.length), some (.h (s.length + 1 + Z'.length)), some (.d (.int j)), some (.h (A ++ [(none : Option (List D))]).length), q5, q6, q7]) ∧ s' = stF n c h s (grow (profF n c h) E ((cands k L).take i)) Z' ((grow (profF n c h) E ((cands k L).take i)).drop E.length)) (fun i d ρ' s' hd hI => ?_) (fun ρ' s' hI => ?_) ⟨⟨_, _, _, rfl⟩, estart⟩
          · obtain ⟨⟨q5, q6, q7, rfl⟩, rfl⟩ := hI
            rw [List.getElem?_map, Option.map_eq_some_iff] at hd
            obtain ⟨sg, hsg, rfl⟩ := hd
            obtain ⟨x, sg0, rfl, hx, hs0⟩ := mem_cands.mp (List.mem_of_getElem? hsg)
            have hs0' := IL sg0 hs0
            have hin : In k (x :: sg0) := fun y hy => by
              rcases List.mem_cons.mp hy with rfl | hy
              · exact hx
              · exact hs0'.1 y hy
            have ei : (cands k L).take (i + 1) = (cands k L).take i ++ [x :: sg0] := by rw [List.take_succ, hsg]; rfl
            rw [ei]
            generalize (cands k L).take i = ds
            have hG := grow_37 (k := k) (b := b) m hlo (cs := ds) Ind
            have ndG := grow_nodup (P := profF n c h) ds E Ind
            have hle := grow_le (P := profF n c h) (E := E) (cs := ds)
            have es1 := grow_snoc (P := profF n c h) (E := E) (cs := ds) (x := x :: sg0)
            rw [es1]
            generalize grow (profF n c h) E ds = G at hG ndG hle
            refine ⟨_, rfl, ?_⟩
            refine st_set (x := .d (tI (profF n c h (x :: sg0)))) (s' := stF n c h s G Z' (G.drop E.length)) (e_cal (e_argC rfl (e_arg1 rfl)) rfl (r_law_profile m hlo hin (by rw [List.length_cons]; omega) _)) ?_
            have e := o_din (neg := true) (stF_at (n := n) (c := c) (h := h) (s := s) (Z := Z') (E := G) (l := G.drop E.length)) tupK_dS (isTK_tI (profF n c h (x :: sg0)))
            rw [dfind_is ndG] at e
            by_cases hm : profF n c h (x :: sg0) ∈ G.map (profF n c h)
            · rw [decide_eq_true hm] at e
              refine st_if (b := false) (s' := stF n c h s G Z' (G.drop E.length)) (e_tst (e_op2 (x := .d (tI (profF n c h (x :: sg0)))) (y := .k s.length) rfl rfl e)) (fun z => by cases z) (fun _ => ⟨⟨_, _, _, rfl⟩, ?_⟩)
              unfold addN
              rw [if_pos hm]
            · rw [decide_eq_false hm] at e
              refine st_if (b := true) (s' := stF n c h s G Z' (G.drop E.length)) (e_tst (e_op2 (x := .d (tI (profF n c h (x :: sg0)))) (y := .k s.length) rfl rfl e)) (fun _ => ?_) (fun z => by cases z)
              refine st_putDS (n := s.length) (k := tI (profF n c h (x :: sg0))) (y := tI (x :: sg0)) (ds := dS n c h G) rfl rfl rfl stF_at tupK_dS (isTK_tI _) (by unfold dS; rw [List.length_map]; unfold cap; omega) ?_
              rw [dput_new hm, stF_set]
              refine st_push (x := tI (x :: sg0)) (by rw [stF_len]; rfl) (by rw [List.length_map, List.length_drop]; unfold cap; omega) (e_arg1 rfl) ⟨⟨_, _, _, rfl⟩, ?_⟩
              unfold addN
              rw [if_neg hm, List.drop_append_of_le_length hle]
              unfold stF
              rw [List.map_append]
              rfl
          · obtain ⟨⟨q5, q6, q7, rfl⟩, rfl⟩ := hI
            refine ⟨_, _, _, _, _, Z', rfl, ?_⟩
            rw [List.length_map, List.take_length]
    · rw [List.length_map, rg_len] at hI
      obtain ⟨q3, q4, q5, q6, q7, Z, rfl, rfl⟩ := hI
      exact ⟨rfl, ⟨_, _, _, _, _, _, rfl⟩, Z, _, rfl⟩
  · rintro ρ' s' ⟨⟨q2, q3, q4, q5, q6, q7, rfl⟩, Z, l, rfl⟩
    refine st_ret (x := .k s.length) (s' := stF n c h s (allS n k c h) Z l) rfl ?_
    have e1 : (stF n c h s (allS n k c h) Z l).take (s.length + 1) = s ++ [some (dS n c h (allS n k c h))] := by
      unfold stF
      rw [List.append_assoc, List.take_append, List.take_of_length_le (by omega), show s.length + 1 - s.length = 1 by omega]
      rfl
    refine ⟨?_, ?_⟩
    · show decide (s.length < s.length + 1) = true
      exact decide_eq_true (Nat.lt_succ_self _)
    · first | exact ⟨rfl, e1⟩ | exact e1
end
/-! ### equal of a list of the store with data (ei_equalH) -/
theorem eq_seqH {n q : Nat} {ds : List D} (hl : ds.length ≤ 100000) (ih : ∀ e ∈ ds, ∀ s, f__law_equal n [.d e, .d e] s = .ok (.d (.bl true)) s) {s : Sto} (hq : s[q]? = some (some ds)) :
    (retS (opL (optL fAll) (argC (lcE [2] (itR1 (opL (optL fLen) (argC (getL 1) argN))) (bName 2) yes (calL 2 (f__law_equal n) (argC (op2 (opt2 fIx) (getL 0) (getL 2)) (argC (op2 (opt2 fIx) (getL 1) (getL 2)) argN)))) argN))
      [some (.h q), some (.d (.lst ds)), none] s).sat (fun r s' => r.2 = .rt (.d (.bl true)) ∧ s' = s) NoE := by
  refine st_ret (x := .d (.bl true)) (s' := s) ?_ ⟨rfl, rfl⟩
  refine e_opL (xs := [.d (.lst ((List.range ds.length).map fun _ => D.bl true))]) (s' := s) (e_arg1 (lc_e (l := List.range ds.length) (fun j : Nat => D.int j) (fun _ => D.bl true) ?_ (by rw [List.length_range]; unfold cap; omega) fun j hj => ⟨_, rfl, ?_⟩)) ?_
  · have := e_itR1 (F := opL (optL fLen) (argC (getL 1) argN)) (ρ := [some (.h q), some (.d (.lst ds)), none]) (s := s) (s' := s) (n := ds.length) rfl (by omega)
    rw [this]
    unfold rg
    rw [List.map_map]
    rfl
  · have hj := List.mem_range.mp hj
    have hg : ds[j]? = some ds[j] := List.getElem?_eq_getElem hj
    refine e_cal (xs := [.d ds[j], .d ds[j]]) (s' := s) (e_argC (e_op2 (x := .h q) (y := .d (.int (j : Nat))) (s' := s) (s2 := s) rfl rfl (o_atH hq hg)) (e_arg1 (e_op2 (x := .d (.lst ds)) (y := .d (.int (j : Nat))) (s' := s) (s2 := s) rfl rfl ?_))) rfl (ih _ (List.getElem_mem hj) s)
    refine o_of ?_
    unfold fIx
    simp only [vw, seqOf, Option.bind_some, atI_nat hg, Option.map_some]
  · have := x_allM (ds := (List.range ds.length).map fun j : Nat => D.int j) (p := fun _ => true) (s := s)
    unfold optL
    rw [show ((List.range ds.length).map fun _ => D.bl true) = ((List.range ds.length).map fun j : Nat => D.int j).map fun _ => D.bl true by rw [List.map_map]; rfl, this]
    simp
theorem r_equalH {n q : Nat} {ds : List D} (hd : deps ds < n) (hf : fines ds = true) (hl : ds.length ≤ 100000) {s : Sto} (hq : s[q]? = some (some ds)) : f__law_equal (n + 1) [.h q, .d (.lst ds)] s = .ok (.d (.bl true)) s := by
  refine eq_of_sat (E := NoE) ?_ fun _ _ z => z
  show (runD 0 3 (s__law_equal (f__law_equal n)) [.h q, .d (.lst ds)] s).sat _ _
  unfold s__law_equal
  refine st_run ?_
  refine st_ifS (b := false) (s' := s) rfl (fun z => by cases z) (fun _ => st_nxt ?_)
  refine st_ifS (b := false) (s' := s) rfl (fun z => by cases z) (fun _ => st_nxt ?_)
  refine st_ifS (b := false) (s' := s) rfl (fun z => by cases z) (fun _ => st_nxt ?_)
  refine st_ifS (b := false) (s' := s) rfl (fun z => by cases z) (fun _ => st_nxt ?_)
  refine st_ifS (b := false) (s' := s) rfl (fun z => by cases z) (fun _ => st_nxt ?_)
  have e1 : (andT (truT (op1 (gIsi Ty5.list) (getL 1))) (notT (truT (op1 (gIsi Ty5.list) (getL 0)))) [some (.h q), some (.d (.lst ds)), none] s) = .ok false s := by
    refine e_andT (b := true) (s' := s) rfl (fun _ => ?_) (fun z => by cases z)
    refine e_notT (b := true) (e_tru (x := .d (.bl true)) (s' := s) ?_ rfl)
    unfold op1
    rw [bnd_ok (show getL 0 [some (.h q), some (.d (.lst ds)), none] s = .ok (.h q) s from rfl)]
    unfold gIsi
    simp only [vw, hq]
    rfl
  refine st_ifS (b := false) (s' := s) e1 (fun z => by cases z) (fun _ => st_nxt ?_)
  have e2 : tstV (op2 (opt2 fNe) (opL (optL fLen) (argC (getL 0) argN)) (opL (optL fLen) (argC (getL 1) argN))) [some (.h q), some (.d (.lst ds)), none] s = .ok false s := by
    refine e_tst (e_op2 (x := .d (.int (ds.length : Nat))) (y := .d (.int (ds.length : Nat))) (s' := s) (s2 := s) (e_opL (e_arg1 rfl) (o_lenH hq)) rfl ?_)
    rw [o_ne]
    simp
  refine st_ifS (b := false) (s' := s) e2 (fun z => by cases z) (fun _ => st_nxt ?_)
  refine (eq_seqH (n := n) hl (fun e he s' => r_equal n e (by have := dep_mem he; omega) (fine_mem hf he) s') hq).mono ?_ fun _ _ z => z.elim
  rintro ⟨ρ', f⟩ s' ⟨rfl, rfl⟩
  exact ⟨rfl, rfl, take_len rfl⟩

end Y

namespace Y
open PySem L2
theorem listRg_17 {F : Loc → M W} {ρ : Loc} {s : Sto} {j : Nat} (h : F ρ s = .ok (.d (.int (j : Nat))) s) (hj : j ≤ 100000) : listRg F ρ s = .ok (.d (.lst ((rg j).map D.int))) s := by
  unfold listRg
  rw [bnd_ok h]
  show M.bnd (gRg1 (j : Nat)) _ s = _
  have e : gRg1 (j : Nat) s = .ok ((rg j).map D.int) s := by
    have := e_itR1 (F := F) (ρ := ρ) (s := s) (s' := s) (n := j) h hj
    unfold itR1 at this
    rw [bnd_ok h] at this
    exact this
  rw [bnd_ok e]
  rfl
theorem o_lnT17 {l : List (List Int)} {s : Sto} : optL fLen [.d (tII l)] s = .ok (.d (.int l.length)) s := by
  unfold optL
  rw [x_lenII]
theorem deps_ent {n : Nat} {c h : List (List Int)} (l : List (List Int)) : deps (l.map (entD n c h)) ≤ 2 := deps_le fun d hd => by
  obtain ⟨sg, _, rfl⟩ := List.mem_map.mp hd
  have h1 := dep_tI (profF n c h sg)
  have h2 := dep_tI sg
  show deps [tI (profF n c h sg), tI sg] + 1 ≤ 2
  have : deps [tI (profF n c h sg), tI sg] ≤ 1 := deps_le fun d hd => by
    rcases List.mem_cons.mp hd with rfl | hd
    · exact h1
    · rw [List.mem_singleton.mp hd]; exact h2
  omega
theorem law_true : ∀ (ns : List Int) (d : D), ns.length ≤ 63 → seqOf d = some (ns.map D.int) → (f_law [.d d] []).sat (fun x _ => x = .d (.bl true)) NoE := by
  intro ns d hl hd
  unfold f_law s_law
  refine st_run ?_
  refine st_setP (Q := fun x s' => x = .h 0 ∧ Strm s' ∧ s'.length = 1) ?_ ?_
  · simp only [v_ok, v_ret, v_bad, v_get, v_getF, v_cst, v_gB, v_gI, v_gD, v_and, v_or, v_not, v_tst, v_andT, v_orT, v_notT, v_if, v_op1, v_op2, v_opL, v_opt1, v_opt2, v_optL, v_optS, v_chn, v_argN, v_argC, v_gTup, v_gLst, v_gNew, v_truT, v_slN, v_slS, v_opS, v_isi, v_cal, v_itS, v_itR1, v_itR2, v_lcE, v_nxt, v_seq, v_set, v_asg, v_ifS, v_retS, v_exp, v_for, v_put, v_run, v_mth, v_yes, List.map_cons, List.map_nil, List.cons_append, List.nil_append, List.length_cons, List.length_nil, List.replicate, List.getElem?_cons_zero, List.getElem?_cons_succ, List.set_cons_zero, List.set_cons_succ, Option.some.injEq, exists_eq_left', exists_eq_left, Nat.reduceAdd, Nat.reduceSub, Nat.zero_add, W.d.injEq, D.int.injEq, D.bl.injEq, true_and, and_true, wipeL]
    exact (r_stream hd hl).mono (fun _ _ z => z) fun _ _ z => z
  rintro x s1 ⟨rfl, hs1, hl1⟩
  refine st_setP (Q := fun x s' => ∃ n k b c h, x = .d (mdl b c h) ∧ MOk 1 n k b c h ∧ Strm s') ?_ ?_
  · simp only [v_ok, v_ret, v_bad, v_get, v_getF, v_cst, v_gB, v_gI, v_gD, v_and, v_or, v_not, v_tst, v_andT, v_orT, v_notT, v_if, v_op1, v_op2, v_opL, v_opt1, v_opt2, v_optL, v_optS, v_chn, v_argN, v_argC, v_gTup, v_gLst, v_gNew, v_truT, v_slN, v_slS, v_opS, v_isi, v_cal, v_itS, v_itR1, v_itR2, v_lcE, v_nxt, v_seq, v_set, v_asg, v_ifS, v_retS, v_exp, v_for, v_put, v_run, v_mth, v_yes, List.map_cons, List.map_nil, List.cons_append, List.nil_append, List.length_cons, List.length_nil, List.replicate, List.getElem?_cons_zero, List.getElem?_cons_succ, List.set_cons_zero, List.set_cons_succ, Option.some.injEq, exists_eq_left', exists_eq_left, Nat.reduceAdd, Nat.reduceSub, Nat.zero_add, W.d.injEq, D.int.injEq, D.bl.injEq, true_and, and_true, wipeL]
    refine (r_model1 hs1).mono ?_ fun _ _ z => z
    rintro x s' ⟨n, k, b, c, h, rfl, m, hs⟩
    exact ⟨n, k, b, c, h, rfl, m, hs.1⟩
  rintro x s2 ⟨n, k, b, c, h, rfl, m, hs2⟩
  have hlo : 1 ≤ 1 := Nat.le_refl 1
  have hn1 : 1 ≤ n := m.lo
  have hn3 := m.n3
  have htl := tab_len (k := k) m hlo
  have heqT : ∀ s, f__law_equal 8 [.d (tII (tabF n k c h)), .d (tII (tabF n k c h))] s = .ok (.d (.bl true)) s := fun s =>
    r_equal 8 _ (by have := dep_tII (tabF n k c h); omega) (fine_tII (by omega) fun p hp => by have := (tab_mem m hlo hp).1; omega) s
  refine st_set (x := .d (tII (tabF n k c h))) (s' := s2) (e_cal (xs := [.d (mdl b c h), .d (.lst [tI (noughts n)])]) (s' := s2) (e_argC rfl (e_arg1 (e_opL (xs := [.d (tI (noughts n))]) (s' := s2) (e_arg1 (by simp only [op1, op2, opL, opS, argC, argN, slN, slS, andV, orV, notV, tstV, andT, orT, notT, ifE, truT, chn, calL, itS, itR1, Y.M.bnd, Y.M.ret, cst, getL, gB, gI, gD, o_add, o_sub, o_eq, o_ne, o_eqB, o_ltY, o_leY, o_gtY, o_geY, o_int, o_intB, o_abs, o_lenT, o_lenL, o_lenF, o_tupL, o_tupT, o_listT, o_listL, o_isi, o_slT, o_slL, o_is, o_isnot, o_tru, o_truT, o_truL, ↓reduceIte, List.map_cons, List.map_nil, List.cons_append, List.nil_append, List.length_cons, List.length_nil, List.replicate, List.getElem?_cons_zero, List.getElem?_cons_succ, List.set_cons_zero, List.set_cons_succ, Nat.reduceAdd, Nat.reduceSub, Nat.zero_add, t_one, o_m0, o_lnI, m.bl, o_zero hn1 (by omega)])) (o_lst (ds := [tI (noughts n)]) rfl (by show 1 ≤ cap; unfold cap; omega))))) rfl (r_law_closure m hlo s2)) ?_
  refine st_ifS (b := false) (s' := s2) (e_notT (b := true) (e_tru (e_cal (xs := [.d (tII (tabF n k c h)), .d (tII (tabF n k c h))]) (s' := s2) (e_argC (e_cal (e_arg1 rfl) rfl (r_profiles m hlo s2)) (e_arg1 rfl)) rfl (heqT s2)) rfl)) (fun z => by cases z) fun _ => st_nxt ?_
  obtain ⟨s3, hs3⟩ : ∃ s3, s3 = s2 ++ [some (dS n c h (allS n k c h))] := ⟨_, rfl⟩
  have hat3 : ∀ t : Sto, (s3 ++ t)[s2.length]? = some (some (dS n c h (allS n k c h))) := fun t => by
    rw [hs3, List.append_assoc, List.getElem?_append_right (Nat.le_refl _), Nat.sub_self]
    rfl
  refine st_set (x := .k s2.length) (s' := s3) (e_cal (e_arg1 rfl) rfl (by rw [r_law_first m hlo s2, hs3])) ?_
  obtain ⟨s4, hs4⟩ : ∃ s4, s4 = s3 ++ [some (dS n c h (allS n k c h))] := ⟨_, rfl⟩
  have hl4 : s4.length = s3.length + 1 := by rw [hs4, List.length_append]; rfl
  refine st_set (x := .h s4.length) (s' := s4 ++ [some ((firstsF n k c h).map (entD n c h))]) (e_cal (e_arg1 rfl) rfl (by rw [r_first_signs m hlo s3, hs4, List.length_append]; rfl)) ?_
  have hfl : (firstsF n k c h).length ≤ 37 := by unfold firstsF; rw [List.length_mergeSort]; exact lays_len m hlo 40
  have hfm : ∀ sg ∈ firstsF n k c h, sg ∈ allS n k c h ∧ sg.length ≤ 40 := fun sg hs => by
    have := mem_firsts.mp hs
    exact ⟨this, (lays_is 40).len sg this⟩
  have hfin : fines ((firstsF n k c h).map (entD n c h)) = true := fines_of fun d hd => by
    obtain ⟨sg, hs, rfl⟩ := List.mem_map.mp hd
    show (decide ([tI (profF n c h sg), tI sg].length ≤ 100000) && fines [tI (profF n c h sg), tI sg]) = true
    rw [Bool.and_eq_true]
    refine ⟨rfl, fines_of fun d hd => ?_⟩
    rcases List.mem_cons.mp hd with rfl | hd
    · exact fine_tI (by rw [profF_len]; omega)
    · rw [List.mem_singleton.mp hd]
      exact fine_tI (by have := (hfm sg hs).2; omega)
  refine st_ifS (b := false) (s' := s4 ++ [some ((firstsF n k c h).map (entD n c h))]) (e_notT (b := true) (e_tru (e_cal (xs := [.h s4.length, .d (.lst ((firstsF n k c h).map (entD n c h)))]) (s' := s4 ++ [some ((firstsF n k c h).map (entD n c h))]) (e_argC rfl (e_arg1 ?_)) rfl (r_equalH (n := 7) (by have := deps_ent (n := n) (c := c) (h := h) (firstsF n k c h); omega) hfin (by rw [List.length_map]; omega) getLast')) rfl)) (fun z => by cases z) fun _ => st_nxt ?_
  · refine lc_e (l := firstsF n k c h) (tP n c h) (entD n c h) ?_ (by unfold cap; omega) fun sg hs => ⟨_, rfl, ?_⟩
    · rw [e_itS (d := tII (tabF n k c h)) rfl seq_tII, ← firsts_tab, List.map_map]
      rfl
    · refine e_opL (xs := [.d (tI (profF n c h sg)), .d (tI sg)]) (s' := s4 ++ [some ((firstsF n k c h).map (entD n c h))]) (e_argC rfl (e_arg1 (e_op2 (x := .k s2.length) (y := .d (tI (profF n c h sg))) (s' := s4 ++ [some ((firstsF n k c h).map (entD n c h))]) (s2 := s4 ++ [some ((firstsF n k c h).map (entD n c h))]) rfl rfl (o_dix ?_ tupK_dS (isTK_tI _) (dfind_some (lays_is 40).nd (hfm sg hs).1))))) rfl
      rw [hs4, List.append_assoc]
      exact hat3 _
  refine st_mid (fun ρ' s' => ρ' = [some (.d d), some (.h 0), some (.d (mdl b c h)), some (.d (tII (tabF n k c h))), some (.k s2.length), some (.h s4.length), none, none, none, none, none, none] ∧ s' = s4 ++ [some ((firstsF n k c h).map (entD n c h) ++ [D.non])]) (st_push (x := D.non) rfl (by rw [List.length_map]; unfold cap; omega) (e_arg1 rfl) ⟨rfl, rfl, rfl⟩) ?_
  rintro ρ' s5 ⟨rfl, -⟩
  obtain ⟨s6, hs6⟩ : ∃ s6, s6 = s5 ++ [some (dS n c h (allS n k c h))] ++ [some ((firstsF n k c h).map (entD n c h))] := ⟨_, rfl⟩
  have hfT : (firstsF n k c h).length = (tabF n k c h).length := by rw [← firsts_tab, List.length_map]
  refine st_ifS (b := false) (s' := s6) (e_tst (e_op2 (x := .d (.int (tabF n k c h).length)) (y := .d (.int (tabF n k c h).length)) (s' := s6) (s2 := s6) (e_opL (xs := [.h (s5.length + 1)]) (s' := s6) (e_arg1 (e_cal (e_arg1 rfl) rfl (by rw [r_first_signs m hlo s5, hs6]))) ?_) (e_opL (e_arg1 rfl) o_lnT17) (by rw [o_ne]; simp))) (fun z => by cases z) fun _ => st_nxt ?_
  · have := o_lenH (n := s5.length + 1) (ds := (firstsF n k c h).map (entD n c h)) (s := s6) (by rw [hs6, show s5.length + 1 = (s5 ++ [some (dS n c h (allS n k c h))]).length by rw [List.length_append]; rfl]; exact getLast')
    rw [List.length_map, hfT] at this
    exact this
  refine st_set (x := .d (.lst ((rg n).map D.int))) (s' := s6) (listRg_17 (by simp only [op1, op2, opL, opS, argC, argN, slN, slS, andV, orV, notV, tstV, andT, orT, notT, ifE, truT, chn, calL, itS, itR1, Y.M.bnd, Y.M.ret, cst, getL, gB, gI, gD, o_add, o_sub, o_eq, o_ne, o_eqB, o_ltY, o_leY, o_gtY, o_geY, o_int, o_intB, o_abs, o_lenT, o_lenL, o_lenF, o_tupL, o_tupT, o_listT, o_listL, o_isi, o_slT, o_slL, o_is, o_isnot, o_tru, o_truT, o_truL, ↓reduceIte, List.map_cons, List.map_nil, List.cons_append, List.nil_append, List.length_cons, List.length_nil, List.replicate, List.getElem?_cons_zero, List.getElem?_cons_succ, List.set_cons_zero, List.set_cons_succ, Nat.reduceAdd, Nat.reduceSub, Nat.zero_add, o_m0, o_lnI, m.bl]) (by omega)) ?_
  refine st_set (x := .d (.int 0)) (s' := s6) rfl ?_
  refine st_mid (fun ρ' s' => (∃ (w : Int) (q8 q9 : Option W), ρ' = [some (.d d), some (.h 0), some (.d (mdl b c h)), some (.d (tII (tabF n k c h))), some (.k s2.length), some (.h s4.length), some (.d (.lst ((rg n).map D.int))), some (.d (.int w)), q8, q9, none, none] ∧ 0 ≤ w ∧ ∀ i j l : Int, 0 ≤ i ∧ i < n → 0 ≤ j ∧ j < n → 0 ≤ l ∧ l < n → itm (lin c i) l - itm (lin c j) l ≤ w) ∧ s' = s6) ?_ ?_
  · rw [v_for]
    refine sat_of (a := (rg n).map D.int) (s := s6) (e_itS (d := .lst ((rg n).map D.int)) rfl rfl) ?_
    refine for_inv (fun t ρ' s' => (∃ (w : Int) (q8 q9 : Option W), ρ' = [some (.d d), some (.h 0), some (.d (mdl b c h)), some (.d (tII (tabF n k c h))), some (.k s2.length), some (.h s4.length), some (.d (.lst ((rg n).map D.int))), some (.d (.int w)), q8, q9, none, none] ∧ 0 ≤ w ∧ ∀ i j l : Int, 0 ≤ i ∧ i < n → 0 ≤ j ∧ j < n → 0 ≤ l ∧ l < t → itm (lin c i) l - itm (lin c j) l ≤ w) ∧ s' = s6) (fun t dd ρ' s' hd hI => ?_) (fun ρ' s' hI => ?_) ⟨⟨0, none, none, rfl, Int.le_refl _, fun i j l _ _ h3 => by omega⟩, rfl⟩
    · obtain ⟨⟨w, q8, q9, rfl, hw0, hw⟩, rfl⟩ := hI
      obtain ⟨rfl, ht⟩ := rg_at hd
      have htn : (0 : Int) ≤ (t : Int) ∧ (t : Int) < n := by omega
      refine ⟨_, rfl, ?_⟩
      refine st_set (x := .d (.lst (((rg n).map fun st => itm (lin c st) t).map D.int))) (s' := s') ?_ ?_
      · rw [List.map_map]
        refine lc_e (l := rg n) D.int (fun st => D.int (itm (lin c st) t)) (e_itS (d := .lst ((rg n).map D.int)) rfl rfl) (by rw [rg_len]; unfold cap; omega) fun st hst => ⟨_, rfl, ?_⟩
        have hst := mem_rg.mp hst
        have g := m.gc hst
        simp only [op1, op2, opL, opS, argC, argN, slN, slS, andV, orV, notV, tstV, andT, orT, notT, ifE, truT, chn, calL, itS, itR1, Y.M.bnd, Y.M.ret, cst, getL, gB, gI, gD, o_add, o_sub, o_eq, o_ne, o_eqB, o_ltY, o_leY, o_gtY, o_geY, o_int, o_intB, o_abs, o_lenT, o_lenL, o_lenF, o_tupL, o_tupT, o_listT, o_listL, o_isi, o_slT, o_slL, o_is, o_isnot, o_tru, o_truT, o_truL, ↓reduceIte, List.map_cons, List.map_nil, List.cons_append, List.nil_append, List.length_cons, List.length_nil, List.replicate, List.getElem?_cons_zero, List.getElem?_cons_succ, List.set_cons_zero, List.set_cons_succ, Nat.reduceAdd, Nat.reduceSub, Nat.zero_add, wipeL, bName, o_m1, o_iL (m := c) (x := st) (by rw [m.cl]; exact hst), o_iI (l := lin c st) (x := (t : Int)) (by rw [g.1]; exact htn)]
      · have hne : ((rg n).map fun st => itm (lin c st) t) ≠ [] := map_ne (rg_ne hn1)
        have hmx := o_maxD (l := (rg n).map fun st => itm (lin c st) t) hne (d := .lst (((rg n).map fun st => itm (lin c st) t).map D.int)) rfl (s := s')
        have hmn := o_minD (l := (rg n).map fun st => itm (lin c st) t) hne (d := .lst (((rg n).map fun st => itm (lin c st) t).map D.int)) rfl (s := s')
        have hge : ∀ i : Int, 0 ≤ i ∧ i < n → itm (lin c i) t ≤ maxL ((rg n).map fun st => itm (lin c st) t) ∧ minL ((rg n).map fun st => itm (lin c st) t) ≤ itm (lin c i) t := fun i hi =>
          ⟨maxL_ge (List.mem_map.mpr ⟨i, mem_rg.mpr hi, rfl⟩), minL_le (List.mem_map.mpr ⟨i, mem_rg.mpr hi, rfl⟩)⟩
        generalize maxL ((rg n).map fun st => itm (lin c st) t) = mx at hmx hge
        generalize minL ((rg n).map fun st => itm (lin c st) t) = mn at hmn hge
        refine st_setE (x := .d (.int (if mx - mn > w then mx - mn else w))) (s' := s') (e_opL (xs := [.d (.int w), .d (.int (mx - mn))]) (s' := s') (e_argC rfl (e_arg1 (e_op2 (x := .d (.int mx)) (y := .d (.int mn)) (s' := s') (s2 := s') (e_opL (e_arg1 rfl) hmx) (e_opL (e_arg1 rfl) hmn) rfl))) rfl) ⟨⟨_, _, _, rfl, ?_, fun i j l hi hj hl => ?_⟩, rfl⟩
        · split <;> omega
        · by_cases hlt : l = t
          · subst hlt
            have h1 := hge i hi
            have h2 := hge j hj
            split <;> omega
          · have := hw i j l hi hj (by omega)
            split <;> omega
    · rw [List.length_map, rg_len] at hI
      exact ⟨rfl, hI⟩
  rintro ρ' s' ⟨⟨w, q8, q9, rfl, hw0, hw⟩, rfl⟩
  have hsp := r_spread m hlo s'
  have hle := spr_most (k := k) (h := h) m hlo hw0 hw
  refine st_retP (Q := fun x s' => x = .d (.bl true)) ?_ (fun x s' z => by rw [z]; exact ⟨rfl, rfl⟩)
  rw [v_and]
  refine sat_of (a := .d (.bl true)) (s := s') (e_cal (xs := [.d (.int (sprF n k c h)), .d (.int (sprF n k c h))]) (s' := s') (e_argC (e_cal (e_arg1 rfl) rfl hsp) (e_arg1 (lc_spread m hlo (e_itS (d := tII (tabF n k c h)) rfl seq_tII) fun x => rfl))) rfl (r_equal 8 (.int (sprF n k c h)) (by show 0 < 8; omega) rfl s')) ⟨true, rfl, ?_⟩
  rw [if_pos rfl]
  refine sat_of (a := .d (.bl true)) (s := s') ?_ rfl
  refine e_op2 (x := .d (.int (sprF n k c h))) (y := .d (.int w)) (s' := s') (s2 := s') (e_cal (e_arg1 rfl) rfl hsp) rfl ?_
  rw [o_leY, decide_eq_true hle]
end Y

namespace Y
open PySem L2
def top (i : Nat) : Stmt := PySem.Challenge.pw_surepast_k17_least_tables.main.body.getD i (.Pass ⟨0, 0, 0, 0⟩)
/-- what the module's names hold -/
structure Tp (mg : Str → Option Value) : Prop where
  b_abs : mg "abs" = none
  b_all : mg "all" = none
  b_bool : mg "bool" = none
  b_enumerate : mg "enumerate" = none
  b_int : mg "int" = none
  b_isinstance : mg "isinstance" = none
  b_len : mg "len" = none
  b_list : mg "list" = none
  b_max : mg "max" = none
  b_min : mg "min" = none
  b_range : mg "range" = none
  b_sorted : mg "sorted" = none
  b_str : mg "str" = none
  b_tuple : mg "tuple" = none
  b_zip : mg "zip" = none
  c_MOST_COST : ∃ t, mg "MOST_COST" = some (.int 3 t)
  c_MOST_KINDS : ∃ t, mg "MOST_KINDS" = some (.int 3 t)
  c_MOST_STATES : ∃ t, mg "MOST_STATES" = some (.int 3 t)
section
variable {P : Program} {w : World} {K : PySem.W.Frag} {mg : Str → Option Value} {base : Heap}
theorem sc_is_whole : FnScope ["value"] ["value"] (defScope (top 7)) := ⟨rfl, rfl, rfl, by decide +kernel, rfl, by decide +kernel, by decide +kernel⟩
theorem t_is_whole {f : Addr} {fd : FuncData} (T : Tp mg) (F : Fun K "is_whole" "is_whole" (top 7) f fd) :
    FnOk P w K mg base CX0 1 f fd ["value"] (Prom K mg 1 f_is_whole) := by
  have sc := sc_is_whole
  refine fn_prom (S := s_is_whole) 0 F sc rfl rfl (by decide) fun cdv A outer s H E hr => ?_
  exact ⟨_, (pss_one (ps_ret (pe_and (pe_callB call_isi (by rfl) T.b_isinstance PyProof.Rows.boot_isinstance (pa_cons (pv 0) (pa_cons (pe_bltn (v := .ty "int") (by rfl) T.b_int PyProof.Rows.boot_int rfl) pa_nil))) (pe_one (pe_not (pe_callB call_isi (by rfl) T.b_isinstance PyProof.Rows.boot_isinstance (pa_cons (pv 0) (pa_cons (pe_bltn (v := .ty "bool") (by rfl) T.b_bool PyProof.Rows.boot_bool rfl) pa_nil)))))))), (es_ret (ev_and (ev_isi (T := Ty5.int) rfl ev_var) (ev_not (ev_isi (T := Ty5.bool) rfl ev_var))))⟩
theorem sc_is_number : FnScope ["value", "low", "high"] ["value", "low", "high"] (defScope (top 8)) := ⟨rfl, rfl, rfl, by decide +kernel, rfl, by decide +kernel, by decide +kernel⟩
theorem t_is_number {f : Addr} {fd : FuncData} (T : Tp mg) (F : Fun K "is_number" "is_number" (top 8) f fd) (o_is_whole : Own P w K mg base CX0 1 "is_whole" 1 f_is_whole) :
    FnOk P w K mg base CX0 2 f fd ["value", "low", "high"] (Prom K mg 3 f_is_number) := by
  have sc := sc_is_number
  refine fn_prom (S := s_is_number) 0 F sc rfl rfl (by decide) fun cdv A outer s H E hr => ?_
  have hu := hr.units
  exact ⟨_, (pss_one (ps_ret (pe_and (pe_own o_is_whole (hr.mono (by decide)) (by rfl) passA (pa_cons (pv 0) pa_nil)) (pe_one (pe_chain (op_leY hu) (op_leY hu) (pv 1) (pv 0) (pv 2)))))), (es_ret (ev_and (ev_call (ea_cons ev_var ea_nil)) (ev_chn sem_cmp quiet2 sem_cmp quiet2 ev_var ev_var ev_var)))⟩
theorem sc_are_numbers : FnScope ["values", "low", "high", "value"] ["values", "low", "high"] (defScope (top 9)) := ⟨rfl, rfl, rfl, by decide +kernel, rfl, by decide +kernel, by decide +kernel⟩
theorem t_are_numbers {f : Addr} {fd : FuncData} (T : Tp mg) (F : Fun K "are_numbers" "are_numbers" (top 9) f fd) (o_is_number : Own P w K mg base CX0 2 "is_number" 3 f_is_number) :
    FnOk P w K mg base CX0 3 f fd ["values", "low", "high"] (Prom K mg 3 f_are_numbers) := by
  have sc := sc_are_numbers
  refine fn_prom (S := s_are_numbers) 0 F sc rfl rfl (by decide) fun cdv A outer s H E hr => ?_
  exact ⟨_, (pss_one (ps_ret (pe_callB (cr_all rfl) (by rfl) T.b_all PyProof.Rows.boot_all (pa_cons (pe_lc (own := [("value", 3)]) (tt := tYes) rfl sc.nd (pi_seq (pv 0)) (blkOk_by (by rfl)) (fun _ _ _ _ _ => (pgx 3 sc.nd)) (fun _ _ _ _ _ => pts_nil) (fun _ _ _ _ _ => (pe_own o_is_number (hr.mono (by decide)) (by rfl) passA (pa_cons (pv 3) (pa_cons (pv 1) (pa_cons (pv 2) pa_nil)))))) pa_nil)))), (es_ret (ev_cb sem_all quietL (ea_cons (ev_lc (ei_seq ev_var) eg_name (by rfl) et_yes (ev_call (ea_cons ev_var (ea_cons ev_var (ea_cons ev_var ea_nil))))) ea_nil)))⟩
theorem sc_is_tuple : FnScope ["value", "least", "most"] ["value", "least", "most"] (defScope (top 10)) := ⟨rfl, rfl, rfl, by decide +kernel, rfl, by decide +kernel, by decide +kernel⟩
theorem t_is_tuple {f : Addr} {fd : FuncData} (T : Tp mg) (F : Fun K "is_tuple" "is_tuple" (top 10) f fd) :
    FnOk P w K mg base CX0 1 f fd ["value", "least", "most"] (Prom K mg 3 f_is_tuple) := by
  have sc := sc_is_tuple
  refine fn_prom (S := s_is_tuple) 0 F sc rfl rfl (by decide) fun cdv A outer s H E hr => ?_
  have hu := hr.units
  exact ⟨_, (pss_one (ps_ret (pe_and (pe_callB call_isi (by rfl) T.b_isinstance PyProof.Rows.boot_isinstance (pa_cons (pv 0) (pa_cons (pe_bltn (v := .ty "tuple") (by rfl) T.b_tuple PyProof.Rows.boot_tuple rfl) pa_nil))) (pe_one (pe_chain (op_leY hu) (op_leY hu) (pv 1) (pe_callB call_lenY (by rfl) T.b_len PySem.boot_len (pa_cons (pv 0) pa_nil)) (pv 2)))))), (es_ret (ev_and (ev_isi (T := Ty5.tuple) rfl ev_var) (ev_chn sem_cmp quiet2 sem_cmp quiet2 ev_var (ev_cb sem_len quietL (ea_cons ev_var ea_nil)) ev_var)))⟩
theorem sc_is_table : FnScope ["value", "rows", "columns", "row"] ["value", "rows", "columns"] (defScope (top 11)) := ⟨rfl, rfl, rfl, by decide +kernel, rfl, by decide +kernel, by decide +kernel⟩
theorem t_is_table {f : Addr} {fd : FuncData} (T : Tp mg) (F : Fun K "is_table" "is_table" (top 11) f fd) (o_are_numbers : Own P w K mg base CX0 3 "are_numbers" 3 f_are_numbers) (o_is_tuple : Own P w K mg base CX0 1 "is_tuple" 3 f_is_tuple) :
    FnOk P w K mg base CX0 4 f fd ["value", "rows", "columns"] (Prom K mg 3 f_is_table) := by
  have sc := sc_is_table
  refine fn_prom (S := s_is_table) 0 F sc rfl rfl (by decide) fun cdv A outer s H E hr => ?_
  exact ⟨_, (pss_cons (ps_if (pt_not (pt_truth (pe_own o_is_tuple (hr.mono (by decide)) (by rfl) passA (pa_cons (pv 0) (pa_cons (pv 1) (pa_cons (pv 1) pa_nil)))) (by intro _; rfl))) (pss_one (ps_ret pe_bl)) pss_nil)
    (pss_one (ps_ret (pe_callB (cr_all rfl) (by rfl) T.b_all PyProof.Rows.boot_all (pa_cons (pe_lc (own := [("row", 3)]) (tt := tYes) rfl sc.nd (pi_seq (pv 0)) (blkOk_by (by rfl)) (fun _ _ _ _ _ => (pgx 3 sc.nd)) (fun _ _ _ _ _ => pts_nil) (fun _ _ _ _ _ => (pe_and (pe_own o_is_tuple (hr.mono (by decide)) (by rfl) passA (pa_cons (pv 3) (pa_cons (pv 2) (pa_cons (pv 2) pa_nil)))) (pe_one (pe_own o_are_numbers (hr.mono (by decide)) (by rfl) passA (pa_cons (pv 3) (pa_cons pe_int (pa_cons (pe_gint (by rfl) T.c_MOST_COST) pa_nil)))))))) pa_nil))))), (es_seq (es_if (et_not (et_truth (ev_call (ea_cons ev_var (ea_cons ev_var (ea_cons ev_var ea_nil)))))) (es_ret ev_bl) es_nil)
    (es_ret (ev_cb sem_all quietL (ea_cons (ev_lc (ei_seq ev_var) eg_name (by rfl) et_yes (ev_and (ev_call (ea_cons ev_var (ea_cons ev_var (ea_cons ev_var ea_nil)))) (ev_call (ea_cons ev_var (ea_cons ev_int (ea_cons ev_int ea_nil)))))) ea_nil))))⟩
theorem sc_is_model : FnScope ["value", "begin", "change", "show", "states"] ["value"] (defScope (top 12)) := ⟨rfl, rfl, rfl, by decide +kernel, rfl, by decide +kernel, by decide +kernel⟩
theorem t_is_model {f : Addr} {fd : FuncData} (T : Tp mg) (F : Fun K "is_model" "is_model" (top 12) f fd) (o_are_numbers : Own P w K mg base CX0 3 "are_numbers" 3 f_are_numbers) (o_is_tuple : Own P w K mg base CX0 1 "is_tuple" 3 f_is_tuple) (o_is_table : Own P w K mg base CX0 4 "is_table" 3 f_is_table) :
    FnOk P w K mg base CX0 5 f fd ["value"] (Prom K mg 1 f_is_model) := by
  have sc := sc_is_model
  refine fn_prom (S := s_is_model) 0 F sc rfl rfl (by decide) fun cdv A outer s H E hr => ?_
  exact ⟨_, (pss_cons (ps_if (pt_not (pt_truth (pe_own o_is_tuple (hr.mono (by decide)) (by rfl) passA (pa_cons (pv 0) (pa_cons pe_int (pa_cons pe_int pa_nil)))) (by intro _; rfl))) (pss_one (ps_ret pe_bl)) pss_nil)
    (pss_cons (ps_asg (pv 0) (pg_tup rfl (pgs_cons (pgx 1 sc.nd) (pgs_cons (pgx 2 sc.nd) (pgs_cons (pgx 3 sc.nd) pgs_nil)))))
    (pss_cons (ps_if (PW.pt (pw_or (pt_not (pt_truth (pe_own o_is_tuple (hr.mono (by decide)) (by rfl) passA (pa_cons (pv 1) (pa_cons pe_int (pa_cons (pe_gint (by rfl) T.c_MOST_STATES) pa_nil)))) (by intro _; rfl))) (pw_or1 (pt_not (pt_truth (pe_own o_are_numbers (hr.mono (by decide)) (by rfl) passA (pa_cons (pv 1) (pa_cons pe_int (pa_cons (pe_gint (by rfl) T.c_MOST_COST) pa_nil)))) (by intro _; rfl)))))) (pss_one (ps_ret pe_bl)) pss_nil)
    (pss_cons (psx 4 sc.nd (pe_callB call_lenY (by rfl) T.b_len PySem.boot_len (pa_cons (pv 1) pa_nil)))
    (pss_cons (ps_if (PW.pt (pw_or (pt_not (pt_truth (pe_own o_is_table (hr.mono (by decide)) (by rfl) passA (pa_cons (pv 2) (pa_cons (pv 4) (pa_cons (pv 4) pa_nil)))) (by intro _; rfl))) (pw_or1 (pt_not (pt_truth (pe_own o_is_tuple (hr.mono (by decide)) (by rfl) passA (pa_cons (pv 3) (pa_cons (pv 4) (pa_cons (pv 4) pa_nil)))) (by intro _; rfl)))))) (pss_one (ps_ret pe_bl)) pss_nil)
    (pss_one (ps_ret (pe_and (pe_own o_is_tuple (hr.mono (by decide)) (by rfl) passA (pa_cons (pe_ix ix_seq (pv 3) pe_int (fun _ _ => rfl)) (pa_cons pe_int (pa_cons (pe_gint (by rfl) T.c_MOST_KINDS) pa_nil)))) (pe_one (pe_own o_is_table (hr.mono (by decide)) (by rfl) passA (pa_cons (pv 3) (pa_cons (pv 4) (pa_cons (pe_callB call_lenY (by rfl) T.b_len PySem.boot_len (pa_cons (pe_ix ix_seq (pv 3) pe_int (fun _ _ => rfl)) pa_nil)) pa_nil))))))))))))), (es_seq (es_if (et_not (et_truth (ev_call (ea_cons ev_var (ea_cons ev_int (ea_cons ev_int ea_nil)))))) (es_ret ev_bl) es_nil)
    (es_seq (es_asg ev_var (eg_tup (eg_cons eg_name (eg_cons eg_name (eg_cons eg_name eg_nil)))))
    (es_seq (es_if (et_or (et_not (et_truth (ev_call (ea_cons ev_var (ea_cons ev_int (ea_cons ev_int ea_nil)))))) (et_not (et_truth (ev_call (ea_cons ev_var (ea_cons ev_int (ea_cons ev_int ea_nil))))))) (es_ret ev_bl) es_nil)
    (es_seq (es_set (ev_cb sem_len quietL (ea_cons ev_var ea_nil)))
    (es_seq (es_if (et_or (et_not (et_truth (ev_call (ea_cons ev_var (ea_cons ev_var (ea_cons ev_var ea_nil)))))) (et_not (et_truth (ev_call (ea_cons ev_var (ea_cons ev_var (ea_cons ev_var ea_nil))))))) (es_ret ev_bl) es_nil)
    (es_ret (ev_and (ev_call (ea_cons (ev_op2 sem_ix quiet2 ev_var ev_int) (ea_cons ev_int (ea_cons ev_int ea_nil)))) (ev_call (ea_cons ev_var (ea_cons ev_var (ea_cons (ev_cb sem_len quietL (ea_cons (ev_op2 sem_ix quiet2 ev_var ev_int) ea_nil)) ea_nil)))))))))))⟩
theorem sc_check_model : FnScope ["model"] ["model"] (defScope (top 13)) := ⟨rfl, rfl, rfl, by decide +kernel, rfl, by decide +kernel, by decide +kernel⟩
theorem t_check_model {f : Addr} {fd : FuncData} (T : Tp mg) (F : Fun K "check_model" "check_model" (top 13) f fd) (o_is_model : Own P w K mg base CX0 5 "is_model" 1 f_is_model) :
    FnOk P w K mg base CX0 6 f fd ["model"] (Prom K mg 1 f_check_model) := by
  have sc := sc_check_model
  refine fn_prom (S := s_check_model) 0 F sc rfl rfl (by decide) fun cdv A outer s H E hr => ?_
  exact ⟨_, (pss_one (ps_if (pt_not (pt_truth (pe_own o_is_model (hr.mono (by decide)) (by rfl) passA (pa_cons (pv 0) pa_nil)) (by intro _; rfl))) (pss_one ps_never) pss_nil)), (es_if (et_not (et_truth (ev_call (ea_cons ev_var ea_nil)))) es_bad es_nil)⟩
theorem sc_to_go : FnScope ["model", "sign", "numbers", "change", "show", "rest", "later", "number", "costs", "cost", "more"] ["model", "sign", "numbers"] (defScope (top 15)) := ⟨rfl, rfl, rfl, by decide +kernel, rfl, by decide +kernel, by decide +kernel⟩
theorem t_to_go {f : Addr} {fd : FuncData} (T : Tp mg) (F : Fun K "to_go" "to_go" (top 15) f fd) :
    FnOk P w K mg base CX0 1 f fd ["model", "sign", "numbers"] (Prom K mg 3 f_to_go) := by
  have sc := sc_to_go
  refine fn_prom (S := s_to_go) 0 F sc rfl rfl (by decide) fun cdv A outer s H E hr => ?_
  have hu := hr.units
  exact ⟨_, (pss_cons (ps_asg (pe_tup (pa_cons (pe_ix ix_seq (pv 0) pe_int (fun _ _ => rfl)) (pa_cons (pe_ix ix_seq (pv 0) pe_int (fun _ _ => rfl)) pa_nil))) (pg_tup rfl (pgs_cons (pgx 3 sc.nd) (pgs_cons (pgx 4 sc.nd) pgs_nil))))
    (pss_cons (psx 5 sc.nd (pe_lc (own := [("later", 6), ("number", 7)]) (tt := tYes) rfl sc.nd (pi_enY (by rfl) T.b_enumerate (pa_cons (pv 2) pa_nil)) (blkOk_by (by rfl)) (fun _ _ _ _ _ => (pg_tup rfl (pgs_cons (pgx 6 sc.nd) (pgs_cons (pgx 7 sc.nd) pgs_nil)))) (fun _ _ _ _ _ => pts_nil) (fun _ _ _ _ _ => (pe_op op_addY (pe_ix ix_seq (pe_ix ix_seq (pv 4) (pv 6) (fun _ _ => rfl)) (pv 1) (fun _ _ => rfl)) (pv 7)))))
    (pss_one (ps_ret (pe_callTy call_tupY (by rfl) T.b_tuple PyProof.Rows.boot_tuple (pa_cons (pe_lc (own := [("costs", 8)]) (tt := tYes) rfl sc.nd (pi_seq (pv 3)) (blkOk_by (by rfl)) (fun _ _ _ _ _ => (pgx 8 sc.nd)) (fun _ _ _ _ _ => pts_nil) (fun _ _ _ _ _ => (pe_callB (cr_best (mx := false) rfl hu) (by rfl) T.b_min PyProof.Rows.boot_min (pa_cons (pe_lc (own := [("cost", 9), ("more", 10)]) (tt := tYes) rfl sc.nd (pi_zipY (by rfl) T.b_zip (pa_cons (pv 8) (pa_cons (pv 5) pa_nil))) (blkOk_by (by rfl)) (fun _ _ _ _ _ => (pg_tup rfl (pgs_cons (pgx 9 sc.nd) (pgs_cons (pgx 10 sc.nd) pgs_nil)))) (fun _ _ _ _ _ => pts_nil) (fun _ _ _ _ _ => (pe_op op_addY (pv 9) (pv 10)))) pa_nil)))) pa_nil)))))), (es_seq (es_asg (ev_tup (ea_cons (ev_op2 sem_ix quiet2 ev_var ev_int) (ea_cons (ev_op2 sem_ix quiet2 ev_var ev_int) ea_nil))) (eg_tup (eg_cons eg_name (eg_cons eg_name eg_nil))))
    (es_seq (es_set (ev_lc (ei_en ev_var) (eg_tup (eg_cons eg_name (eg_cons eg_name eg_nil))) (by rfl) et_yes (ev_op2 sem_add quiet2 (ev_op2 sem_ix quiet2 (ev_op2 sem_ix quiet2 ev_var ev_var) ev_var) ev_var)))
    (es_ret (ev_cb sem_tuple quietL (ea_cons (ev_lc (ei_seq ev_var) eg_name (by rfl) et_yes (ev_cb sem_best quietL (ea_cons (ev_lc (ei_zipY ev_var ev_var) (eg_tup (eg_cons eg_name (eg_cons eg_name eg_nil))) (by rfl) et_yes (ev_op2 sem_add quiet2 ev_var ev_var)) ea_nil))) ea_nil)))))⟩
theorem sc_less_least : FnScope ["numbers", "least", "number"] ["numbers"] (defScope (top 17)) := ⟨rfl, rfl, rfl, by decide +kernel, rfl, by decide +kernel, by decide +kernel⟩
theorem t_less_least {f : Addr} {fd : FuncData} (T : Tp mg) (F : Fun K "less_least" "less_least" (top 17) f fd) :
    FnOk P w K mg base CX0 1 f fd ["numbers"] (Prom K mg 1 f_less_least) := by
  have sc := sc_less_least
  refine fn_prom (S := s_less_least) 0 F sc rfl rfl (by decide) fun cdv A outer s H E hr => ?_
  have hu := hr.units
  exact ⟨_, (pss_cons (psx 1 sc.nd (pe_callB (cr_best (mx := false) rfl hu) (by rfl) T.b_min PyProof.Rows.boot_min (pa_cons (pv 0) pa_nil)))
    (pss_one (ps_ret (pe_callTy call_tupY (by rfl) T.b_tuple PyProof.Rows.boot_tuple (pa_cons (pe_lc (own := [("number", 2)]) (tt := tYes) rfl sc.nd (pi_seq (pv 0)) (blkOk_by (by rfl)) (fun _ _ _ _ _ => (pgx 2 sc.nd)) (fun _ _ _ _ _ => pts_nil) (fun _ _ _ _ _ => (pe_op op_sub (pv 2) (pv 1)))) pa_nil))))), (es_seq (es_set (ev_cb sem_best quietL (ea_cons ev_var ea_nil)))
    (es_ret (ev_cb sem_tuple quietL (ea_cons (ev_lc (ei_seq ev_var) eg_name (by rfl) et_yes (ev_op2 sem_sub quiet2 ev_var ev_var)) ea_nil))))⟩
theorem sc_ahead_of : FnScope ["model", "sign", "numbers"] ["model", "sign", "numbers"] (defScope (top 18)) := ⟨rfl, rfl, rfl, by decide +kernel, rfl, by decide +kernel, by decide +kernel⟩
theorem t_ahead_of {f : Addr} {fd : FuncData} (T : Tp mg) (F : Fun K "ahead_of" "ahead_of" (top 18) f fd) (o_to_go : Own P w K mg base CX0 1 "to_go" 3 f_to_go) (o_less_least : Own P w K mg base CX0 1 "less_least" 1 f_less_least) :
    FnOk P w K mg base CX0 2 f fd ["model", "sign", "numbers"] (Prom K mg 3 f_ahead_of) := by
  have sc := sc_ahead_of
  refine fn_prom (S := s_ahead_of) 0 F sc rfl rfl (by decide) fun cdv A outer s H E hr => ?_
  exact ⟨_, (pss_one (ps_ret (pe_own o_less_least (hr.mono (by decide)) (by rfl) passA (pa_cons (pe_own o_to_go (hr.mono (by decide)) (by rfl) passA (pa_cons (pv 0) (pa_cons (pv 1) (pa_cons (pv 2) pa_nil)))) pa_nil)))), (es_ret (ev_call (ea_cons (ev_call (ea_cons ev_var (ea_cons ev_var (ea_cons ev_var ea_nil)))) ea_nil)))⟩
theorem sc_layer_ahead : FnScope ["model", "found", "layer", "newest", "sign", "numbers", "ahead"] ["model", "found", "layer"] (defScope (top 19)) := ⟨rfl, rfl, rfl, by decide +kernel, rfl, by decide +kernel, by decide +kernel⟩
theorem t_layer_ahead {f : Addr} {fd : FuncData} (T : Tp mg) (F : Fun K "layer_ahead" "layer_ahead" (top 19) f fd) (o_ahead_of : Own P w K mg base CX0 2 "ahead_of" 3 f_ahead_of) :
    FnOk P w K mg base CX0 3 f fd ["model", "found", "layer"] (Prom K mg 3 f_layer_ahead) := by
  have sc := sc_layer_ahead
  refine fn_prom (S := s_layer_ahead) 0 F sc rfl rfl (by decide) fun cdv A outer s H E hr => ?_
  have hu := hr.units
  exact ⟨_, (pss_cons (psx 3 sc.nd (pe_lst pa_nil))
    (pss_cons (ps_for PassesOwn.never rfl (pi_range1 (by rfl) T.b_range (pa_cons (pe_callB call_lenY (by rfl) T.b_len PySem.boot_len (pa_cons (pe_ix ix_seq (pe_ix ix_seq (pv 0) pe_int (fun _ _ => rfl)) pe_int (fun _ _ => rfl)) pa_nil)) pa_nil)) (pgx 4 sc.nd) (pss_one (ps_for PassesOwn.never rfl (pi_seq (pv 2)) (pgx 5 sc.nd) (pss_cons (psx 6 sc.nd (pe_own o_ahead_of (hr.mono (by decide)) (by rfl) passA (pa_cons (pv 0) (pa_cons (pv 4) (pa_cons (pv 5) pa_nil)))))
    (pss_one (ps_if (pt_cmpR (op_dnotin hu) (pv 6) (pv 1) (by rfl)) (pss_cons (ps_asg (pe_op op_addY (pe_tup (pa_cons (pv 4) pa_nil)) (pe_ix (ix_din hu) (pv 1) (pv 5) (fun _ _ => rfl))) (pg_sub (pv 1) (pv 6) (set_din hu)))
    (pss_one (ps_expr (pe_bm PySem.F.plainAttrs_list PySem.F.slot_list_append PySem.F.type_list_append mt_append (pv 3) (pa_cons (pv 6) pa_nil))))) pss_nil))))))
    (pss_one (ps_ret (pv 3))))), (es_seq (es_set (ev_new ea_nil))
    (es_seq (es_for (ei_rg1 (ev_cb sem_len quietL (ea_cons (ev_op2 sem_ix quiet2 (ev_op2 sem_ix quiet2 ev_var ev_int) ev_int) ea_nil))) eg_name (es_for (ei_seq ev_var) eg_name (es_seq (es_set (ev_call (ea_cons ev_var (ea_cons ev_var (ea_cons ev_var ea_nil)))))
    (es_if (et_tst (ev_op2 sem_din quiet2 ev_var ev_var)) (es_seq (es_putD (ev_op2 sem_add quiet2 (ev_tup (ea_cons ev_var ea_nil)) (ev_op2 sem_dix quiet2 ev_var ev_var)) ev_var ev_var)
    (es_exp (ev_mth sm_app ev_var (ea_cons ev_var ea_nil)))) es_nil))))
    (es_ret ev_frz)))⟩
theorem sc_found_profiles : FnScope ["model", "noughts", "found", "layer"] ["model"] (defScope (top 20)) := ⟨rfl, rfl, rfl, by decide +kernel, rfl, by decide +kernel, by decide +kernel⟩
theorem t_found_profiles {f : Addr} {fd : FuncData} (T : Tp mg) (F : Fun K "found_profiles" "found_profiles" (top 20) f fd) (o_layer_ahead : Own P w K mg base CX0 3 "layer_ahead" 3 f_layer_ahead) :
    FnOk P w K mg base CX0 4 f fd ["model"] (Prom K mg 1 f_found_profiles) := by
  have sc := sc_found_profiles
  refine fn_prom (S := s_found_profiles) 1 F sc rfl rfl (by decide) fun cdv A outer s H E hr => ?_
  have hu := hr.units
  exact ⟨_, (pss_cons (psx 1 sc.nd (pe_op op_mulY (pe_tup (pa_cons pe_int pa_nil)) (pe_callB call_lenY (by rfl) T.b_len PySem.boot_len (pa_cons (pe_ix ix_seq (pv 0) pe_int (fun _ _ => rfl)) pa_nil))))
    (pss_cons (psx 2 sc.nd (pe_done (hu) (pv 1) (pe_tup pa_nil)))
    (pss_cons (psx 3 sc.nd (pe_lst (pa_cons (pv 1) pa_nil)))
    (pss_cons (ps_while PassesOwn.never (pt_truth (pv 3) (by intro _; rfl)) (pss_one (psx 3 sc.nd (pe_own o_layer_ahead (hr.mono (by decide)) (by rfl) passA (pa_cons (pv 0) (pa_cons (pv 2) (pa_cons (pv 3) pa_nil)))))))
    (pss_one (ps_ret (pv 2))))))), (es_seq (es_set (ev_op2 sem_mul quiet2 (ev_tup (ea_cons ev_int ea_nil)) (ev_cb sem_len quietL (ea_cons (ev_op2 sem_ix quiet2 ev_var ev_int) ea_nil))))
    (es_seq (es_set (ev_done ev_var (ev_tup ea_nil)))
    (es_seq (es_set (ev_lst (ea_cons ev_var ea_nil)))
    (es_seq (es_while (et_truth ev_var) (es_set (ev_call (ea_cons ev_var (ea_cons ev_var (ea_cons ev_var ea_nil))))))
    (es_ret ev_var)))))⟩
theorem sc_least_table : FnScope ["model"] ["model"] (defScope (top 21)) := ⟨rfl, rfl, rfl, by decide +kernel, rfl, by decide +kernel, by decide +kernel⟩
theorem t_least_table {f : Addr} {fd : FuncData} (T : Tp mg) (F : Fun K "least_table" "least_table" (top 21) f fd) (o_found_profiles : Own P w K mg base CX0 4 "found_profiles" 1 f_found_profiles) :
    FnOk P w K mg base CX0 5 f fd ["model"] (Prom K mg 1 f_least_table) := by
  have sc := sc_least_table
  refine fn_prom (S := s_least_table) 0 F sc rfl rfl (by decide) fun cdv A outer s H E hr => ?_
  have hu := hr.units
  exact ⟨_, (pss_one (ps_ret (pe_callTy call_tupY (by rfl) T.b_tuple PyProof.Rows.boot_tuple (pa_cons (pe_callB (cr_sortD rfl hu) (by rfl) T.b_sorted PyProof.Rows.boot_sorted (pa_cons (pe_own o_found_profiles (hr.mono (by decide)) (by rfl) passA (pa_cons (pv 0) pa_nil)) pa_nil)) pa_nil)))), (es_ret (ev_cb sem_tuple quietL (ea_cons (ev_cb sem_sortD quietL (ea_cons (ev_call (ea_cons ev_var ea_nil)) ea_nil)) ea_nil)))⟩
theorem sc_profiles : FnScope ["model"] ["model"] (defScope (top 22)) := ⟨rfl, rfl, rfl, by decide +kernel, rfl, by decide +kernel, by decide +kernel⟩
theorem t_profiles {f : Addr} {fd : FuncData} (T : Tp mg) (F : Fun K "profiles" "profiles" (top 22) f fd) (o_check_model : Own P w K mg base CX0 6 "check_model" 1 f_check_model) (o_least_table : Own P w K mg base CX0 5 "least_table" 1 f_least_table) :
    FnOk P w K mg base CX0 7 f fd ["model"] (Prom K mg 1 f_profiles) := by
  have sc := sc_profiles
  refine fn_prom (S := s_profiles) 0 F sc rfl rfl (by decide) fun cdv A outer s H E hr => ?_
  exact ⟨_, (pss_cons (ps_expr (pe_own o_check_model (hr.mono (by decide)) (by rfl) passA (pa_cons (pv 0) pa_nil)))
    (pss_one (ps_ret (pe_own o_least_table (hr.mono (by decide)) (by rfl) passA (pa_cons (pv 0) pa_nil))))), (es_seq (es_exp (ev_call (ea_cons ev_var ea_nil)))
    (es_ret (ev_call (ea_cons ev_var ea_nil))))⟩
theorem sc_first_signs : FnScope ["model"] ["model"] (defScope (top 23)) := ⟨rfl, rfl, rfl, by decide +kernel, rfl, by decide +kernel, by decide +kernel⟩
theorem t_first_signs {f : Addr} {fd : FuncData} (T : Tp mg) (F : Fun K "first_signs" "first_signs" (top 23) f fd) (o_check_model : Own P w K mg base CX0 6 "check_model" 1 f_check_model) (o_found_profiles : Own P w K mg base CX0 4 "found_profiles" 1 f_found_profiles) :
    FnOk P w K mg base CX0 7 f fd ["model"] (Prom K mg 1 f_first_signs) := by
  have sc := sc_first_signs
  refine fn_prom (S := s_first_signs) 2 F sc rfl rfl (by decide) fun cdv A outer s H E hr => ?_
  have hu := hr.units
  exact ⟨_, (pss_cons (ps_expr (pe_own o_check_model (hr.mono (by decide)) (by rfl) passA (pa_cons (pv 0) pa_nil)))
    (pss_one (ps_ret (pe_callB (cr_sortItD rfl hu) (by rfl) T.b_sorted PyProof.Rows.boot_sorted (pa_cons (pe_ditems (pe_own o_found_profiles (hr.mono (by decide)) (by rfl) passA (pa_cons (pv 0) pa_nil))) pa_nil))))), (es_seq (es_exp (ev_call (ea_cons ev_var ea_nil)))
    (es_ret (ev_sortItH (ev_call (ea_cons ev_var ea_nil)))))⟩
theorem sc_spread : FnScope ["model", "numbers"] ["model"] (defScope (top 24)) := ⟨rfl, rfl, rfl, by decide +kernel, rfl, by decide +kernel, by decide +kernel⟩
theorem t_spread {f : Addr} {fd : FuncData} (T : Tp mg) (F : Fun K "spread" "spread" (top 24) f fd) (o_check_model : Own P w K mg base CX0 6 "check_model" 1 f_check_model) (o_least_table : Own P w K mg base CX0 5 "least_table" 1 f_least_table) :
    FnOk P w K mg base CX0 7 f fd ["model"] (Prom K mg 1 f_spread) := by
  have sc := sc_spread
  refine fn_prom (S := s_spread) 0 F sc rfl rfl (by decide) fun cdv A outer s H E hr => ?_
  have hu := hr.units
  exact ⟨_, (pss_cons (ps_expr (pe_own o_check_model (hr.mono (by decide)) (by rfl) passA (pa_cons (pv 0) pa_nil)))
    (pss_one (ps_ret (pe_callB (cr_best (mx := true) rfl hu) (by rfl) T.b_max PyProof.Rows.boot_max (pa_cons (pe_lc (own := [("numbers", 1)]) (tt := tYes) rfl sc.nd (pi_seq (pe_own o_least_table (hr.mono (by decide)) (by rfl) passA (pa_cons (pv 0) pa_nil))) (blkOk_by (by rfl)) (fun _ _ _ _ _ => (pgx 1 sc.nd)) (fun _ _ _ _ _ => pts_nil) (fun _ _ _ _ _ => (pe_callB (cr_best (mx := true) rfl hu) (by rfl) T.b_max PyProof.Rows.boot_max (pa_cons (pv 1) pa_nil)))) pa_nil))))), (es_seq (es_exp (ev_call (ea_cons ev_var ea_nil)))
    (es_ret (ev_cb sem_best quietL (ea_cons (ev_lc (ei_seq (ev_call (ea_cons ev_var ea_nil))) eg_name (by rfl) et_yes (ev_cb sem_best quietL (ea_cons ev_var ea_nil))) ea_nil))))⟩
theorem sc__law_stream : FnScope ["script"] ["script"] (defScope (top 26)) := ⟨rfl, rfl, rfl, by decide +kernel, rfl, by decide +kernel, by decide +kernel⟩
theorem t__law_stream {f : Addr} {fd : FuncData} (T : Tp mg) (F : Fun K "_law_stream" "_law_stream" (top 26) f fd) :
    FnOk P w K mg base CX0 1 f fd ["script"] (Prom K mg 1 f__law_stream) := by
  have sc := sc__law_stream
  refine fn_prom (S := s__law_stream) 1 F sc rfl rfl (by decide) fun cdv A outer s H E hr => ?_
  exact ⟨_, (pss_one (ps_ret (pe_lst (pa_cons (pe_callTy call_listY (by rfl) T.b_list PyProof.Rows.boot_list (pa_cons (pv 0) pa_nil)) (pa_cons pe_int (pa_cons pe_int pa_nil)))))), (es_ret (ev_new (ea_cons (ev_cb sem_list quietL (ea_cons ev_var ea_nil)) (ea_cons ev_int (ea_cons ev_int ea_nil)))))⟩
theorem sc__law_next : FnScope ["stream", "many", "k", "cell", "digit"] ["stream", "many"] (defScope (top 27)) := ⟨rfl, rfl, rfl, by decide +kernel, rfl, by decide +kernel, by decide +kernel⟩
theorem t__law_next {f : Addr} {fd : FuncData} (T : Tp mg) (F : Fun K "_law_next" "_law_next" (top 27) f fd) :
    FnOk P w K mg base CX0 1 f fd ["stream", "many"] (Prom K mg 2 f__law_next) := by
  have sc := sc__law_next
  refine fn_prom (S := s__law_next) 0 F sc rfl rfl (by decide) fun cdv A outer s H E hr => ?_
  have hu := hr.units
  exact ⟨_, (pss_cons (ps_if (pt_cmpR (op_eqD hu) (pe_ix ix_seq (pv 0) pe_int (fun _ _ => rfl)) pe_int (nomark _)) (pss_cons (psx 2 sc.nd (pe_ix ix_seq (pv 0) pe_int (fun _ _ => rfl)))
    (pss_cons (psx 3 sc.nd (pe_op op_addY pe_int (pv 2)))
    (pss_cons (ps_if (pt_cmpR (op_ltY hu) (pv 2) (pe_callB call_lenY (by rfl) T.b_len PySem.boot_len (pa_cons (pe_ix ix_seq (pv 0) pe_int (fun _ _ => rfl)) pa_nil)) (nomark _)) (pss_one (psx 3 sc.nd (pe_callB call_abs (by rfl) T.b_abs PyProof.Rows.boot_abs (pa_cons (pe_ix ix_seq (pe_ix ix_seq (pv 0) pe_int (fun _ _ => rfl)) (pv 2) (fun _ _ => rfl)) pa_nil)))) pss_nil)
    (pss_cons (ps_if (pt_cmpR (op_ltY hu) (pv 3) (pe_op op_pow pe_int pe_int) (nomark _)) (pss_cons (psx 3 sc.nd (pe_op op_mod (pe_callTy call_int1 (by rfl) T.b_int PyProof.Rows.boot_int (pa_cons (pe_op op_addY (pe_op op_addY (pe_op op_mulY (pv 3) pe_int) (pe_op op_mulY (pv 2) pe_int)) pe_int) pa_nil)) pe_int))
    (pss_one (psx 3 sc.nd (pe_op op_addY (pe_op op_mulY (pe_op op_mod (pe_callTy call_int1 (by rfl) T.b_int PyProof.Rows.boot_int (pa_cons (pe_op op_addY (pe_op op_mulY (pv 3) pe_int) pe_int) pa_nil)) pe_int) pe_int) (pv 3))))) pss_nil)
    (pss_cons (ps_asg (pv 3) (pg_sub (pv 0) pe_int set_list))
    (pss_one (ps_asg (pe_op op_addY (pv 2) pe_int) (pg_sub (pv 0) pe_int set_list)))))))) pss_nil)
    (pss_cons (psx 4 sc.nd (pe_op op_mod (pe_callTy call_int1 (by rfl) T.b_int PyProof.Rows.boot_int (pa_cons (pe_ix ix_seq (pv 0) pe_int (fun _ _ => rfl)) pa_nil)) (pv 1)))
    (pss_cons (ps_asg (pe_op op_fdivW (pe_ix ix_seq (pv 0) pe_int (fun _ _ => rfl)) (pv 1)) (pg_sub (pv 0) pe_int set_list))
    (pss_one (ps_ret (pv 4)))))), (es_seq (es_if (et_tst (ev_op2 sem_eq quiet2 (ev_op2 sem_ix quiet2 ev_var ev_int) ev_int)) (es_seq (es_set (ev_op2 sem_ix quiet2 ev_var ev_int))
    (es_seq (es_set (ev_op2 sem_add quiet2 ev_int ev_var))
    (es_seq (es_if (et_tst (ev_op2 sem_cmp quiet2 ev_var (ev_cb sem_len quietL (ea_cons (ev_op2 sem_ix quiet2 ev_var ev_int) ea_nil)))) (es_set (ev_cb sem_abs quietL (ea_cons (ev_op2 sem_ix quiet2 (ev_op2 sem_ix quiet2 ev_var ev_int) ev_var) ea_nil))) es_nil)
    (es_seq (es_if (et_tst (ev_op2 sem_cmp quiet2 ev_var (ev_op2 sem_pow quiet2 ev_int ev_int))) (es_seq (es_set (ev_op2 sem_mod quiet2 (ev_cb sem_int quietL (ea_cons (ev_op2 sem_add quiet2 (ev_op2 sem_add quiet2 (ev_op2 sem_mul quiet2 ev_var ev_int) (ev_op2 sem_mul quiet2 ev_var ev_int)) ev_int) ea_nil)) ev_int))
    (es_set (ev_op2 sem_add quiet2 (ev_op2 sem_mul quiet2 (ev_op2 sem_mod quiet2 (ev_cb sem_int quietL (ea_cons (ev_op2 sem_add quiet2 (ev_op2 sem_mul quiet2 ev_var ev_int) ev_int) ea_nil)) ev_int) ev_int) ev_var))) es_nil)
    (es_seq (es_put ev_var ev_var ev_int)
    (es_put (ev_op2 sem_add quiet2 ev_var ev_int) ev_var ev_int)))))) es_nil)
    (es_seq (es_set (ev_op2 sem_mod quiet2 (ev_cb sem_int quietL (ea_cons (ev_op2 sem_ix quiet2 ev_var ev_int) ea_nil)) ev_var))
    (es_seq (es_put (ev_op2 sem_fdv quiet2 (ev_op2 sem_ix quiet2 ev_var ev_int) ev_var) ev_var ev_int)
    (es_ret ev_var))))⟩
theorem sc__law_is_integer : FnScope ["actual"] ["actual"] (defScope (top 28)) := ⟨rfl, rfl, rfl, by decide +kernel, rfl, by decide +kernel, by decide +kernel⟩
theorem t__law_is_integer {f : Addr} {fd : FuncData} (T : Tp mg) (F : Fun K "_law_is_integer" "_law_is_integer" (top 28) f fd) :
    FnOk P w K mg base CX0 1 f fd ["actual"] (Prom K mg 1 f__law_is_integer) := by
  have sc := sc__law_is_integer
  refine fn_prom (S := s__law_is_integer) 0 F sc rfl rfl (by decide) fun cdv A outer s H E hr => ?_
  exact ⟨_, (pss_one (ps_ret (pe_and (pe_callB call_isi (by rfl) T.b_isinstance PyProof.Rows.boot_isinstance (pa_cons (pv 0) (pa_cons (pe_bltn (v := .ty "int") (by rfl) T.b_int PyProof.Rows.boot_int rfl) pa_nil))) (pe_one (pe_not (pe_callB call_isi (by rfl) T.b_isinstance PyProof.Rows.boot_isinstance (pa_cons (pv 0) (pa_cons (pe_bltn (v := .ty "bool") (by rfl) T.b_bool PyProof.Rows.boot_bool rfl) pa_nil)))))))), (es_ret (ev_and (ev_isi (T := Ty5.int) rfl ev_var) (ev_not (ev_isi (T := Ty5.bool) rfl ev_var))))⟩
theorem sc__law_equal : FnScope ["actual", "due", "at"] ["actual", "due"] (defScope (top 29)) := ⟨rfl, rfl, rfl, by decide +kernel, rfl, by decide +kernel, by decide +kernel⟩
theorem t__law_equal {f : Addr} {fd : FuncData} (T : Tp mg) (F : Fun K "_law_equal" "_law_equal" (top 29) f fd) (b : Binds K fd ["actual", "due"] []) (hm : mg "_law_equal" = some (.ref f)) (o__law_is_integer : Own P w K mg base CX0 1 "_law_is_integer" 1 f__law_is_integer) :
    ∀ n : Nat, FnOk P w K mg base CX0 (1 + n) f fd ["actual", "due"] (Prom K mg 2 (f__law_equal n))
  | 0 => fn_bad
  | n + 1 => by
    have self : Own P w K mg base CX0 (1 + n) "_law_equal" 2 (f__law_equal n) := own_mk (t__law_equal T F b hm o__law_is_integer n) F b hm
    have sc := sc__law_equal
    refine fn_prom (S := s__law_equal (f__law_equal n)) 0 F sc rfl rfl (by decide) fun cdv A outer s H E hr => ?_
    have hr : Room (1 + n) _ := hr
    have hu := hr.units
    exact ⟨_, (pss_cons (ps_if (pt_cmpR op_isN (pv 1) pe_non (nomark _)) (pss_one (ps_ret (pe_cmpR op_isN (pv 0) pe_non (nomark _)))) pss_nil)
    (pss_cons (ps_if (pt_truth (pe_callB call_isi (by rfl) T.b_isinstance PyProof.Rows.boot_isinstance (pa_cons (pv 1) (pa_cons (pe_bltn (v := .ty "bool") (by rfl) T.b_bool PyProof.Rows.boot_bool rfl) pa_nil))) (by intro _; rfl)) (pss_one (ps_ret (pe_and (pe_callB call_isi (by rfl) T.b_isinstance PyProof.Rows.boot_isinstance (pa_cons (pv 0) (pa_cons (pe_bltn (v := .ty "bool") (by rfl) T.b_bool PyProof.Rows.boot_bool rfl) pa_nil))) (pe_one (pe_cmpR (op_eqD hu) (pv 0) (pv 1) (nomark _)))))) pss_nil)
    (pss_cons (ps_if (pt_truth (pe_callB call_isi (by rfl) T.b_isinstance PyProof.Rows.boot_isinstance (pa_cons (pv 1) (pa_cons (pe_bltn (v := .ty "int") (by rfl) T.b_int PyProof.Rows.boot_int rfl) pa_nil))) (by intro _; rfl)) (pss_one (ps_ret (pe_and (pe_own o__law_is_integer (hr.mono (by omega)) (by rfl) passA (pa_cons (pv 0) pa_nil)) (pe_one (pe_cmpR (op_eqD hu) (pv 0) (pv 1) (nomark _)))))) pss_nil)
    (pss_cons (ps_if (pt_truth (pe_callB call_isi (by rfl) T.b_isinstance PyProof.Rows.boot_isinstance (pa_cons (pv 1) (pa_cons (pe_bltn (v := .ty "str") (by rfl) T.b_str PyProof.Rows.boot_str rfl) pa_nil))) (by intro _; rfl)) (pss_one (ps_ret (pe_and (pe_callB call_isi (by rfl) T.b_isinstance PyProof.Rows.boot_isinstance (pa_cons (pv 0) (pa_cons (pe_bltn (v := .ty "str") (by rfl) T.b_str PyProof.Rows.boot_str rfl) pa_nil))) (pe_one (pe_cmpR (op_eqD hu) (pv 0) (pv 1) (nomark _)))))) pss_nil)
    (pss_cons (ps_if (PW.pt (pw_and (pt_truth (pe_callB call_isi (by rfl) T.b_isinstance PyProof.Rows.boot_isinstance (pa_cons (pv 1) (pa_cons (pe_bltn (v := .ty "tuple") (by rfl) T.b_tuple PyProof.Rows.boot_tuple rfl) pa_nil))) (by intro _; rfl)) (pw_and1 (pt_not (pt_truth (pe_callB call_isi (by rfl) T.b_isinstance PyProof.Rows.boot_isinstance (pa_cons (pv 0) (pa_cons (pe_bltn (v := .ty "tuple") (by rfl) T.b_tuple PyProof.Rows.boot_tuple rfl) pa_nil))) (by intro _; rfl)))))) (pss_one (ps_ret pe_bl)) pss_nil)
    (pss_cons (ps_if (PW.pt (pw_and (pt_truth (pe_callB call_isi (by rfl) T.b_isinstance PyProof.Rows.boot_isinstance (pa_cons (pv 1) (pa_cons (pe_bltn (v := .ty "list") (by rfl) T.b_list PyProof.Rows.boot_list rfl) pa_nil))) (by intro _; rfl)) (pw_and1 (pt_not (pt_truth (pe_callB call_isi (by rfl) T.b_isinstance PyProof.Rows.boot_isinstance (pa_cons (pv 0) (pa_cons (pe_bltn (v := .ty "list") (by rfl) T.b_list PyProof.Rows.boot_list rfl) pa_nil))) (by intro _; rfl)))))) (pss_one (ps_ret pe_bl)) pss_nil)
    (pss_cons (ps_if (pt_cmpR (op_neD hu) (pe_callB call_lenY (by rfl) T.b_len PySem.boot_len (pa_cons (pv 0) pa_nil)) (pe_callB call_lenY (by rfl) T.b_len PySem.boot_len (pa_cons (pv 1) pa_nil)) (nomark _)) (pss_one (ps_ret pe_bl)) pss_nil)
    (pss_one (ps_ret (pe_callB (cr_all rfl) (by rfl) T.b_all PyProof.Rows.boot_all (pa_cons (pe_lc (own := [("at", 2)]) (tt := tYes) rfl sc.nd (pi_range1 (by rfl) T.b_range (pa_cons (pe_callB call_lenY (by rfl) T.b_len PySem.boot_len (pa_cons (pv 1) pa_nil)) pa_nil)) (blkOk_by (by rfl)) (fun _ _ _ _ _ => (pgx 2 sc.nd)) (fun _ _ _ _ _ => pts_nil) (fun _ _ _ _ _ => (pe_own self (hr.mono (by omega)) (by rfl) passA (pa_cons (pe_ix ix_seq (pv 0) (pv 2) (fun _ _ => rfl)) (pa_cons (pe_ix ix_seq (pv 1) (pv 2) (fun _ _ => rfl)) pa_nil))))) pa_nil))))))))))), (es_seq (es_if (et_tst (ev_op2 sem_is quiet2 ev_var ev_non)) (es_ret (ev_op2 sem_is quiet2 ev_var ev_non)) es_nil)
    (es_seq (es_if (et_truth (ev_isi (T := Ty5.bool) rfl ev_var)) (es_ret (ev_and (ev_isi (T := Ty5.bool) rfl ev_var) (ev_op2 sem_eq quiet2 ev_var ev_var))) es_nil)
    (es_seq (es_if (et_truth (ev_isi (T := Ty5.int) rfl ev_var)) (es_ret (ev_and (ev_call (ea_cons ev_var ea_nil)) (ev_op2 sem_eq quiet2 ev_var ev_var))) es_nil)
    (es_seq (es_if (et_truth (ev_isi (T := Ty5.str) rfl ev_var)) (es_ret (ev_and (ev_isi (T := Ty5.str) rfl ev_var) (ev_op2 sem_eq quiet2 ev_var ev_var))) es_nil)
    (es_seq (es_if (et_and (et_truth (ev_isi (T := Ty5.tuple) rfl ev_var)) (et_not (et_truth (ev_isi (T := Ty5.tuple) rfl ev_var)))) (es_ret ev_bl) es_nil)
    (es_seq (es_if (et_and (et_truth (ev_isi (T := Ty5.list) rfl ev_var)) (et_not (et_truth (ev_isi (T := Ty5.list) rfl ev_var)))) (es_ret ev_bl) es_nil)
    (es_seq (es_if (et_tst (ev_op2 sem_ne quiet2 (ev_cb sem_len quietL (ea_cons ev_var ea_nil)) (ev_cb sem_len quietL (ea_cons ev_var ea_nil)))) (es_ret ev_bl) es_nil)
    (es_ret (ev_cb sem_all quietL (ea_cons (ev_lc (ei_rg1 (ev_cb sem_len quietL (ea_cons ev_var ea_nil))) eg_name (by rfl) et_yes (ev_call (ea_cons (ev_op2 sem_ix quiet2 ev_var ev_var) (ea_cons (ev_op2 sem_ix quiet2 ev_var ev_var) ea_nil)))) ea_nil))))))))))⟩
theorem sc__law_model : FnScope ["stream", "states", "signs", "most", "begin", "change", "show", "k", "j"] ["stream"] (defScope (top 30)) := ⟨rfl, rfl, rfl, by decide +kernel, rfl, by decide +kernel, by decide +kernel⟩
theorem t__law_model {f : Addr} {fd : FuncData} (T : Tp mg) (F : Fun K "_law_model" "_law_model" (top 30) f fd) (o__law_next : Own P w K mg base CX0 1 "_law_next" 2 f__law_next) :
    FnOk P w K mg base CX0 2 f fd ["stream"] (Prom K mg 1 f__law_model) := by
  have sc := sc__law_model
  refine fn_prom (S := s__law_model) 0 F sc rfl rfl (by decide) fun cdv A outer s H E hr => ?_
  exact ⟨_, (pss_cons (psx 1 sc.nd (pe_op op_addY pe_int (pe_own o__law_next (hr.mono (by decide)) (by rfl) passA (pa_cons (pv 0) (pa_cons pe_int pa_nil)))))
    (pss_cons (psx 2 sc.nd (pe_op op_addY pe_int (pe_own o__law_next (hr.mono (by decide)) (by rfl) passA (pa_cons (pv 0) (pa_cons pe_int pa_nil)))))
    (pss_cons (psx 3 sc.nd (pe_ix ix_seq (pe_lst (pa_cons pe_int (pa_cons pe_int pa_nil))) (pe_own o__law_next (hr.mono (by decide)) (by rfl) passA (pa_cons (pv 0) (pa_cons pe_int pa_nil))) (fun _ _ => rfl)))
    (pss_cons (psx 4 sc.nd (pe_callTy call_tupY (by rfl) T.b_tuple PyProof.Rows.boot_tuple (pa_cons (pe_lc (own := [("k", 7)]) (tt := tYes) rfl sc.nd (pi_range1 (by rfl) T.b_range (pa_cons (pv 1) pa_nil)) (blkOk_by (by rfl)) (fun _ _ _ _ _ => (pgx 7 sc.nd)) (fun _ _ _ _ _ => pts_nil) (fun _ _ _ _ _ => (pe_own o__law_next (hr.mono (by decide)) (by rfl) passA (pa_cons (pv 0) (pa_cons (pv 3) pa_nil))))) pa_nil)))
    (pss_cons (psx 5 sc.nd (pe_callTy call_tupY (by rfl) T.b_tuple PyProof.Rows.boot_tuple (pa_cons (pe_lc (own := [("k", 7)]) (tt := tYes) rfl sc.nd (pi_range1 (by rfl) T.b_range (pa_cons (pv 1) pa_nil)) (blkOk_by (by rfl)) (fun _ _ _ _ _ => (pgx 7 sc.nd)) (fun _ _ _ _ _ => pts_nil) (fun _ _ _ _ _ => (pe_callTy call_tupY (by rfl) T.b_tuple PyProof.Rows.boot_tuple (pa_cons (pe_lc (own := [("j", 8)]) (tt := tYes) rfl sc.nd (pi_range1 (by rfl) T.b_range (pa_cons (pv 1) pa_nil)) (blkOk_by (by rfl)) (fun _ _ _ _ _ => (pgx 8 sc.nd)) (fun _ _ _ _ _ => pts_nil) (fun _ _ _ _ _ => (pe_own o__law_next (hr.mono (by decide)) (by rfl) passA (pa_cons (pv 0) (pa_cons (pv 3) pa_nil))))) pa_nil)))) pa_nil)))
    (pss_cons (psx 6 sc.nd (pe_callTy call_tupY (by rfl) T.b_tuple PyProof.Rows.boot_tuple (pa_cons (pe_lc (own := [("k", 7)]) (tt := tYes) rfl sc.nd (pi_range1 (by rfl) T.b_range (pa_cons (pv 1) pa_nil)) (blkOk_by (by rfl)) (fun _ _ _ _ _ => (pgx 7 sc.nd)) (fun _ _ _ _ _ => pts_nil) (fun _ _ _ _ _ => (pe_callTy call_tupY (by rfl) T.b_tuple PyProof.Rows.boot_tuple (pa_cons (pe_lc (own := [("j", 8)]) (tt := tYes) rfl sc.nd (pi_range1 (by rfl) T.b_range (pa_cons (pv 2) pa_nil)) (blkOk_by (by rfl)) (fun _ _ _ _ _ => (pgx 8 sc.nd)) (fun _ _ _ _ _ => pts_nil) (fun _ _ _ _ _ => (pe_own o__law_next (hr.mono (by decide)) (by rfl) passA (pa_cons (pv 0) (pa_cons (pv 3) pa_nil))))) pa_nil)))) pa_nil)))
    (pss_one (ps_ret (pe_tup (pa_cons (pv 4) (pa_cons (pv 5) (pa_cons (pv 6) pa_nil)))))))))))), (es_seq (es_set (ev_op2 sem_add quiet2 ev_int (ev_call (ea_cons ev_var (ea_cons ev_int ea_nil)))))
    (es_seq (es_set (ev_op2 sem_add quiet2 ev_int (ev_call (ea_cons ev_var (ea_cons ev_int ea_nil)))))
    (es_seq (es_set (ev_op2 sem_ix quiet2 (ev_lst (ea_cons ev_int (ea_cons ev_int ea_nil))) (ev_call (ea_cons ev_var (ea_cons ev_int ea_nil)))))
    (es_seq (es_set (ev_cb sem_tuple quietL (ea_cons (ev_lc (ei_rg1 ev_var) eg_name (by rfl) et_yes (ev_call (ea_cons ev_var (ea_cons ev_var ea_nil)))) ea_nil)))
    (es_seq (es_set (ev_cb sem_tuple quietL (ea_cons (ev_lc (ei_rg1 ev_var) eg_name (by rfl) et_yes (ev_cb sem_tuple quietL (ea_cons (ev_lc (ei_rg1 ev_var) eg_name (by rfl) et_yes (ev_call (ea_cons ev_var (ea_cons ev_var ea_nil)))) ea_nil))) ea_nil)))
    (es_seq (es_set (ev_cb sem_tuple quietL (ea_cons (ev_lc (ei_rg1 ev_var) eg_name (by rfl) et_yes (ev_cb sem_tuple quietL (ea_cons (ev_lc (ei_rg1 ev_var) eg_name (by rfl) et_yes (ev_call (ea_cons ev_var (ea_cons ev_var ea_nil)))) ea_nil))) ea_nil)))
    (es_ret (ev_tup (ea_cons ev_var (ea_cons ev_var (ea_cons ev_var ea_nil)))))))))))⟩
theorem sc__law_ahead : FnScope ["model", "sign", "numbers", "found", "state", "least", "later", "one"] ["model", "sign", "numbers"] (defScope (top 31)) := ⟨rfl, rfl, rfl, by decide +kernel, rfl, by decide +kernel, by decide +kernel⟩
theorem t__law_ahead {f : Addr} {fd : FuncData} (T : Tp mg) (F : Fun K "_law_ahead" "_law_ahead" (top 31) f fd) :
    FnOk P w K mg base CX0 1 f fd ["model", "sign", "numbers"] (Prom K mg 3 f__law_ahead) := by
  have sc := sc__law_ahead
  refine fn_prom (S := s__law_ahead) 0 F sc rfl rfl (by decide) fun cdv A outer s H E hr => ?_
  have hu := hr.units
  exact ⟨_, (pss_cons (psx 3 sc.nd (pe_lst pa_nil))
    (pss_cons (ps_for PassesOwn.never rfl (pi_range1 (by rfl) T.b_range (pa_cons (pe_callB call_lenY (by rfl) T.b_len PySem.boot_len (pa_cons (pv 2) pa_nil)) pa_nil)) (pgx 4 sc.nd) (pss_one (ps_expr (pe_bm PySem.F.plainAttrs_list PySem.F.slot_list_append PySem.F.type_list_append mt_append (pv 3) (pa_cons (pe_callB (cr_best (mx := false) rfl hu) (by rfl) T.b_min PyProof.Rows.boot_min (pa_cons (pe_lc (own := [("later", 6)]) (tt := tYes) rfl sc.nd (pi_range1 (by rfl) T.b_range (pa_cons (pe_callB call_lenY (by rfl) T.b_len PySem.boot_len (pa_cons (pv 2) pa_nil)) pa_nil)) (blkOk_by (by rfl)) (fun _ _ _ _ _ => (pgx 6 sc.nd)) (fun _ _ _ _ _ => pts_nil) (fun _ _ _ _ _ => (pe_op op_addY (pe_op op_addY (pe_ix ix_seq (pe_ix ix_seq (pe_ix ix_seq (pv 0) pe_int (fun _ _ => rfl)) (pv 4) (fun _ _ => rfl)) (pv 6) (fun _ _ => rfl)) (pe_ix ix_seq (pe_ix ix_seq (pe_ix ix_seq (pv 0) pe_int (fun _ _ => rfl)) (pv 6) (fun _ _ => rfl)) (pv 1) (fun _ _ => rfl))) (pe_ix ix_seq (pv 2) (pv 6) (fun _ _ => rfl))))) pa_nil)) pa_nil)))))
    (pss_cons (psx 5 sc.nd (pe_callB (cr_best (mx := false) rfl hu) (by rfl) T.b_min PyProof.Rows.boot_min (pa_cons (pv 3) pa_nil)))
    (pss_one (ps_ret (pe_callTy call_tupY (by rfl) T.b_tuple PyProof.Rows.boot_tuple (pa_cons (pe_lc (own := [("one", 7)]) (tt := tYes) rfl sc.nd (pi_seq (pv 3)) (blkOk_by (by rfl)) (fun _ _ _ _ _ => (pgx 7 sc.nd)) (fun _ _ _ _ _ => pts_nil) (fun _ _ _ _ _ => (pe_op op_sub (pv 7) (pv 5)))) pa_nil))))))), (es_seq (es_set (ev_new ea_nil))
    (es_seq (es_for (ei_rg1 (ev_cb sem_len quietL (ea_cons ev_var ea_nil))) eg_name (es_exp (ev_mth sm_app ev_var (ea_cons (ev_cb sem_best quietL (ea_cons (ev_lc (ei_rg1 (ev_cb sem_len quietL (ea_cons ev_var ea_nil))) eg_name (by rfl) et_yes (ev_op2 sem_add quiet2 (ev_op2 sem_add quiet2 (ev_op2 sem_ix quiet2 (ev_op2 sem_ix quiet2 (ev_op2 sem_ix quiet2 ev_var ev_int) ev_var) ev_var) (ev_op2 sem_ix quiet2 (ev_op2 sem_ix quiet2 (ev_op2 sem_ix quiet2 ev_var ev_int) ev_var) ev_var)) (ev_op2 sem_ix quiet2 ev_var ev_var))) ea_nil)) ea_nil))))
    (es_seq (es_set (ev_cb sem_best quietL (ea_cons ev_var ea_nil)))
    (es_ret (ev_cb sem_tuple quietL (ea_cons (ev_lc (ei_seq ev_frz) eg_name (by rfl) et_yes (ev_op2 sem_sub quiet2 ev_var ev_var)) ea_nil))))))⟩
theorem sc__law_profile : FnScope ["model", "signs", "numbers", "sign"] ["model", "signs"] (defScope (top 32)) := ⟨rfl, rfl, rfl, by decide +kernel, rfl, by decide +kernel, by decide +kernel⟩
theorem t__law_profile {f : Addr} {fd : FuncData} (T : Tp mg) (F : Fun K "_law_profile" "_law_profile" (top 32) f fd) (o__law_ahead : Own P w K mg base CX0 1 "_law_ahead" 3 f__law_ahead) :
    FnOk P w K mg base CX0 2 f fd ["model", "signs"] (Prom K mg 2 f__law_profile) := by
  have sc := sc__law_profile
  refine fn_prom (S := s__law_profile) 0 F sc rfl rfl (by decide) fun cdv A outer s H E hr => ?_
  exact ⟨_, (pss_cons (psx 2 sc.nd (pe_op op_mulY (pe_tup (pa_cons pe_int pa_nil)) (pe_callB call_lenY (by rfl) T.b_len PySem.boot_len (pa_cons (pe_ix ix_seq (pv 0) pe_int (fun _ _ => rfl)) pa_nil))))
    (pss_cons (ps_for PassesOwn.never rfl (pi_seq (pe_revY (pv 1))) (pgx 3 sc.nd) (pss_one (psx 2 sc.nd (pe_own o__law_ahead (hr.mono (by decide)) (by rfl) passA (pa_cons (pv 0) (pa_cons (pv 3) (pa_cons (pv 2) pa_nil)))))))
    (pss_one (ps_ret (pv 2))))), (es_seq (es_set (ev_op2 sem_mul quiet2 (ev_tup (ea_cons ev_int ea_nil)) (ev_cb sem_len quietL (ea_cons (ev_op2 sem_ix quiet2 ev_var ev_int) ea_nil))))
    (es_seq (es_for (ei_seq (ev_revY ev_var)) eg_name (es_set (ev_call (ea_cons ev_var (ea_cons ev_var (ea_cons ev_var ea_nil))))))
    (es_ret ev_var)))⟩
theorem sc__law_closure : FnScope ["model", "start", "row", "turn", "sign", "numbers"] ["model", "start"] (defScope (top 33)) := ⟨rfl, rfl, rfl, by decide +kernel, rfl, by decide +kernel, by decide +kernel⟩
theorem t__law_closure {f : Addr} {fd : FuncData} (T : Tp mg) (F : Fun K "_law_closure" "_law_closure" (top 33) f fd) (o__law_ahead : Own P w K mg base CX0 1 "_law_ahead" 3 f__law_ahead) :
    FnOk P w K mg base CX0 2 f fd ["model", "start"] (Prom K mg 2 f__law_closure) := by
  have sc := sc__law_closure
  refine fn_prom (S := s__law_closure) 0 F sc rfl rfl (by decide) fun cdv A outer s H E hr => ?_
  have hu := hr.units
  exact ⟨_, (pss_cons (psx 2 sc.nd (pe_callTy call_listY (by rfl) T.b_list PyProof.Rows.boot_list (pa_cons (pv 1) pa_nil)))
    (pss_cons (ps_for PassesOwn.never rfl (pi_range1 (by rfl) T.b_range (pa_cons pe_int pa_nil)) (pgx 3 sc.nd) (pss_one (ps_if (pt_cmpR (op_ltY hu) (pv 3) (pe_callB call_lenY (by rfl) T.b_len PySem.boot_len (pa_cons (pv 2) pa_nil)) (nomark _)) (pss_one (ps_for PassesOwn.never rfl (pi_range1 (by rfl) T.b_range (pa_cons (pe_callB call_lenY (by rfl) T.b_len PySem.boot_len (pa_cons (pe_ix ix_seq (pe_ix ix_seq (pv 0) pe_int (fun _ _ => rfl)) pe_int (fun _ _ => rfl)) pa_nil)) pa_nil)) (pgx 4 sc.nd) (pss_cons (psx 5 sc.nd (pe_own o__law_ahead (hr.mono (by decide)) (by rfl) passA (pa_cons (pv 0) (pa_cons (pv 4) (pa_cons (pe_ix ix_seq (pv 2) (pv 3) (fun _ _ => rfl)) pa_nil)))))
    (pss_one (ps_if (pt_cmpR (op_notInY hu) (pv 5) (pv 2) (by rfl)) (pss_one (ps_expr (pe_bm PySem.F.plainAttrs_list PySem.F.slot_list_append PySem.F.type_list_append mt_append (pv 2) (pa_cons (pv 5) pa_nil)))) pss_nil))))) pss_nil)))
    (pss_one (ps_ret (pe_callTy call_tupY (by rfl) T.b_tuple PyProof.Rows.boot_tuple (pa_cons (pe_callB (cr_sortB hu) (by rfl) T.b_sorted PyProof.Rows.boot_sorted (pa_cons (pv 2) pa_nil)) pa_nil)))))), (es_seq (es_set (ev_cb sem_listH quietH (ea_cons ev_var ea_nil)))
    (es_seq (es_for (ei_rg1 ev_int) eg_name (es_if (et_tst (ev_op2 sem_cmp quiet2 ev_var (ev_cb sem_len quietL (ea_cons ev_var ea_nil)))) (es_for (ei_rg1 (ev_cb sem_len quietL (ea_cons (ev_op2 sem_ix quiet2 (ev_op2 sem_ix quiet2 ev_var ev_int) ev_int) ea_nil))) eg_name (es_seq (es_set (ev_call (ea_cons ev_var (ea_cons ev_var (ea_cons (ev_op2 sem_ix quiet2 ev_var ev_var) ea_nil)))))
    (es_if (et_tst (ev_op2 sem_inY quiet2 ev_var ev_var)) (es_exp (ev_mth sm_app ev_var (ea_cons ev_var ea_nil))) es_nil))) es_nil))
    (es_ret (ev_cb sem_tuple quietL (ea_cons (ev_cb sem_sortedB quietL (ea_cons ev_var ea_nil)) ea_nil)))))⟩
theorem sc__law_first : FnScope ["model", "found", "last", "length", "longer", "signs", "sign", "numbers"] ["model"] (defScope (top 34)) := ⟨rfl, rfl, rfl, by decide +kernel, rfl, by decide +kernel, by decide +kernel⟩
theorem t__law_first {f : Addr} {fd : FuncData} (T : Tp mg) (F : Fun K "_law_first" "_law_first" (top 34) f fd) (o__law_profile : Own P w K mg base CX0 2 "_law_profile" 2 f__law_profile) :
    FnOk P w K mg base CX0 3 f fd ["model"] (Prom K mg 1 f__law_first) := by
  have sc := sc__law_first
  refine fn_prom (S := s__law_first) 1 F sc rfl rfl (by decide) fun cdv A outer s H E hr => ?_
  have hu := hr.units
  exact ⟨_, (pss_cons (psx 1 sc.nd (pe_done (hu) (pe_op op_mulY (pe_tup (pa_cons pe_int pa_nil)) (pe_callB call_lenY (by rfl) T.b_len PySem.boot_len (pa_cons (pe_ix ix_seq (pv 0) pe_int (fun _ _ => rfl)) pa_nil))) (pe_tup pa_nil)))
    (pss_cons (psx 2 sc.nd (pe_lst (pa_cons (pe_tup pa_nil) pa_nil)))
    (pss_cons (ps_for PassesOwn.never rfl (pi_range1 (by rfl) T.b_range (pa_cons pe_int pa_nil)) (pgx 3 sc.nd) (pss_cons (psx 4 sc.nd (pe_lst pa_nil))
    (pss_cons (ps_for PassesOwn.never rfl (pi_seq (pv 2)) (pgx 5 sc.nd) (pss_one (ps_for PassesOwn.never rfl (pi_range1 (by rfl) T.b_range (pa_cons (pe_callB call_lenY (by rfl) T.b_len PySem.boot_len (pa_cons (pe_ix ix_seq (pe_ix ix_seq (pv 0) pe_int (fun _ _ => rfl)) pe_int (fun _ _ => rfl)) pa_nil)) pa_nil)) (pgx 6 sc.nd) (pss_one (ps_expr (pe_bm PySem.F.plainAttrs_list PySem.F.slot_list_append PySem.F.type_list_append mt_append (pv 4) (pa_cons (pe_op op_addY (pe_tup (pa_cons (pv 6) pa_nil)) (pv 5)) pa_nil)))))))
    (pss_cons (psx 2 sc.nd (pe_lst pa_nil))
    (pss_one (ps_for PassesOwn.never rfl (pi_seq (pe_callB (cr_sortB hu) (by rfl) T.b_sorted PyProof.Rows.boot_sorted (pa_cons (pv 4) pa_nil))) (pgx 5 sc.nd) (pss_cons (psx 7 sc.nd (pe_own o__law_profile (hr.mono (by decide)) (by rfl) passA (pa_cons (pv 0) (pa_cons (pv 5) pa_nil))))
    (pss_one (ps_if (pt_cmpR (op_dnotin hu) (pv 7) (pv 1) (by rfl)) (pss_cons (ps_asg (pv 5) (pg_sub (pv 1) (pv 7) (set_din hu)))
    (pss_one (ps_expr (pe_bm PySem.F.plainAttrs_list PySem.F.slot_list_append PySem.F.type_list_append mt_append (pv 2) (pa_cons (pv 5) pa_nil))))) pss_nil)))))))))
    (pss_one (ps_ret (pv 1)))))), (es_seq (es_set (ev_done (ev_op2 sem_mul quiet2 (ev_tup (ea_cons ev_int ea_nil)) (ev_cb sem_len quietL (ea_cons (ev_op2 sem_ix quiet2 ev_var ev_int) ea_nil))) (ev_tup ea_nil)))
    (es_seq (es_set (ev_new (ea_cons (ev_tup ea_nil) ea_nil)))
    (es_seq (es_for (ei_rg1 ev_int) eg_name (es_seq (es_set (ev_new ea_nil))
    (es_seq (es_for (ei_seq ev_frz) eg_name (es_for (ei_rg1 (ev_cb sem_len quietL (ea_cons (ev_op2 sem_ix quiet2 (ev_op2 sem_ix quiet2 ev_var ev_int) ev_int) ea_nil))) eg_name (es_exp (ev_mth sm_app ev_var (ea_cons (ev_op2 sem_add quiet2 (ev_tup (ea_cons ev_var ea_nil)) ev_var) ea_nil)))))
    (es_seq (es_set (ev_new ea_nil))
    (es_for (ei_seq (ev_cb sem_sortedB quietL (ea_cons ev_var ea_nil))) eg_name (es_seq (es_set (ev_call (ea_cons ev_var (ea_cons ev_var ea_nil))))
    (es_if (et_tst (ev_op2 sem_din quiet2 ev_var ev_var)) (es_seq (es_putD ev_var ev_var ev_var)
    (es_exp (ev_mth sm_app ev_var (ea_cons ev_var ea_nil)))) es_nil)))))))
    (es_ret ev_var))))⟩
theorem sc_law : FnScope ["script", "stream", "model", "due", "first", "told", "states", "most", "later", "column", "numbers", "state"] ["script"] (defScope (top 35)) := ⟨rfl, rfl, rfl, by decide +kernel, rfl, by decide +kernel, by decide +kernel⟩
theorem t_law {f : Addr} {fd : FuncData} (T : Tp mg) (F : Fun K "law" "law" (top 35) f fd) (o_profiles : Own P w K mg base CX0 7 "profiles" 1 f_profiles) (o_first_signs : Own P w K mg base CX0 7 "first_signs" 1 f_first_signs) (o_spread : Own P w K mg base CX0 7 "spread" 1 f_spread) (o__law_stream : Own P w K mg base CX0 1 "_law_stream" 1 f__law_stream) (o__law_equal : Own P w K mg base CX0 9 "_law_equal" 2 (f__law_equal 8)) (o__law_model : Own P w K mg base CX0 2 "_law_model" 1 f__law_model) (o__law_closure : Own P w K mg base CX0 2 "_law_closure" 2 f__law_closure) (o__law_first : Own P w K mg base CX0 3 "_law_first" 1 f__law_first) :
    FnOk P w K mg base CX0 10 f fd ["script"] (Prom K mg 1 f_law) := by
  have sc := sc_law
  refine fn_prom (S := s_law) 0 F sc rfl rfl (by decide) fun cdv A outer s H E hr => ?_
  have hu := hr.units
  exact ⟨_, (pss_cons (psx 1 sc.nd (pe_own o__law_stream (hr.mono (by decide)) (by rfl) passA (pa_cons (pv 0) pa_nil)))
    (pss_cons (psx 2 sc.nd (pe_own o__law_model (hr.mono (by decide)) (by rfl) passA (pa_cons (pv 1) pa_nil)))
    (pss_cons (psx 3 sc.nd (pe_own o__law_closure (hr.mono (by decide)) (by rfl) passA (pa_cons (pv 2) (pa_cons (pe_lst (pa_cons (pe_op op_mulY (pe_tup (pa_cons pe_int pa_nil)) (pe_callB call_lenY (by rfl) T.b_len PySem.boot_len (pa_cons (pe_ix ix_seq (pv 2) pe_int (fun _ _ => rfl)) pa_nil))) pa_nil)) pa_nil))))
    (pss_cons (ps_if (pt_not (pt_truth (pe_own o__law_equal (hr.mono (by decide)) (by rfl) passA (pa_cons (pe_own o_profiles (hr.mono (by decide)) (by rfl) passA (pa_cons (pv 2) pa_nil)) (pa_cons (pv 3) pa_nil))) (by intro _; rfl))) (pss_one (ps_ret pe_bl)) pss_nil)
    (pss_cons (psx 4 sc.nd (pe_own o__law_first (hr.mono (by decide)) (by rfl) passA (pa_cons (pv 2) pa_nil)))
    (pss_cons (psx 5 sc.nd (pe_own o_first_signs (hr.mono (by decide)) (by rfl) passA (pa_cons (pv 2) pa_nil)))
    (pss_cons (ps_if (pt_not (pt_truth (pe_own o__law_equal (hr.mono (by decide)) (by rfl) passA (pa_cons (pv 5) (pa_cons (pe_lc (own := [("numbers", 10)]) (tt := tYes) rfl sc.nd (pi_seq (pv 3)) (blkOk_by (by rfl)) (fun _ _ _ _ _ => (pgx 10 sc.nd)) (fun _ _ _ _ _ => pts_nil) (fun _ _ _ _ _ => (pe_tup (pa_cons (pv 10) (pa_cons (pe_ix (ix_din hu) (pv 4) (pv 10) (fun _ _ => rfl)) pa_nil))))) pa_nil))) (by intro _; rfl))) (pss_one (ps_ret pe_bl)) pss_nil)
    (pss_cons (ps_expr (pe_bm PySem.F.plainAttrs_list PySem.F.slot_list_append PySem.F.type_list_append mt_append (pv 5) (pa_cons pe_non pa_nil)))
    (pss_cons (ps_if (pt_cmpR (op_neD hu) (pe_callB call_lenY (by rfl) T.b_len PySem.boot_len (pa_cons (pe_own o_first_signs (hr.mono (by decide)) (by rfl) passA (pa_cons (pv 2) pa_nil)) pa_nil)) (pe_callB call_lenY (by rfl) T.b_len PySem.boot_len (pa_cons (pv 3) pa_nil)) (nomark _)) (pss_one (ps_ret pe_bl)) pss_nil)
    (pss_cons (psx 6 sc.nd (pe_listRg rfl (by rfl) T.b_list (prg_1 (by rfl) T.b_range (pe_callB call_lenY (by rfl) T.b_len PySem.boot_len (pa_cons (pe_ix ix_seq (pv 2) pe_int (fun _ _ => rfl)) pa_nil)))))
    (pss_cons (psx 7 sc.nd pe_int)
    (pss_cons (ps_for PassesOwn.never rfl (pi_seq (pv 6)) (pgx 8 sc.nd) (pss_cons (ps_setLc (i := 9) (own := [("state", 11)]) (tt := tYes) rfl sc.nd rfl rfl (sw_true rfl rfl rfl (by decide +kernel)) (pi_seq (pv 6)) (blkOk_by (by rfl)) (fun _ _ _ _ _ => (pgx 11 sc.nd)) (fun _ _ _ _ _ => pts_nil) (fun _ _ _ _ _ => (pe_ix ix_seq (pe_ix ix_seq (pe_ix ix_seq (pv 2) pe_int (fun _ _ => rfl)) (pv 11) (fun _ _ => rfl)) (pv 8) (fun _ _ => rfl))))
    (pss_one (psx 7 sc.nd (pe_callB (cr_max2 rfl) (by rfl) T.b_max PyProof.Rows.boot_max (pa_cons (pv 7) (pa_cons (pe_op op_sub (pe_callB (cr_best (mx := true) rfl hu) (by rfl) T.b_max PyProof.Rows.boot_max (pa_cons (pv 9) pa_nil)) (pe_callB (cr_best (mx := false) rfl hu) (by rfl) T.b_min PyProof.Rows.boot_min (pa_cons (pv 9) pa_nil))) pa_nil)))))))
    (pss_one (ps_ret (pe_and (pe_own o__law_equal (hr.mono (by decide)) (by rfl) passA (pa_cons (pe_own o_spread (hr.mono (by decide)) (by rfl) passA (pa_cons (pv 2) pa_nil)) (pa_cons (pe_callB (cr_best (mx := true) rfl hu) (by rfl) T.b_max PyProof.Rows.boot_max (pa_cons (pe_lc (own := [("numbers", 10)]) (tt := tYes) rfl sc.nd (pi_seq (pv 3)) (blkOk_by (by rfl)) (fun _ _ _ _ _ => (pgx 10 sc.nd)) (fun _ _ _ _ _ => pts_nil) (fun _ _ _ _ _ => (pe_callB (cr_best (mx := true) rfl hu) (by rfl) T.b_max PyProof.Rows.boot_max (pa_cons (pv 10) pa_nil)))) pa_nil)) pa_nil))) (pe_one (pe_cmpR (op_leY hu) (pe_own o_spread (hr.mono (by decide)) (by rfl) passA (pa_cons (pv 2) pa_nil)) (pv 7) (nomark _)))))))))))))))))), (es_seq (es_set (ev_call (ea_cons ev_var ea_nil)))
    (es_seq (es_set (ev_call (ea_cons ev_var ea_nil)))
    (es_seq (es_set (ev_call (ea_cons ev_var (ea_cons (ev_lst (ea_cons (ev_op2 sem_mul quiet2 (ev_tup (ea_cons ev_int ea_nil)) (ev_cb sem_len quietL (ea_cons (ev_op2 sem_ix quiet2 ev_var ev_int) ea_nil))) ea_nil)) ea_nil))))
    (es_seq (es_if (et_not (et_truth (ev_call (ea_cons (ev_call (ea_cons ev_var ea_nil)) (ea_cons ev_var ea_nil))))) (es_ret ev_bl) es_nil)
    (es_seq (es_set (ev_call (ea_cons ev_var ea_nil)))
    (es_seq (es_set (ev_call (ea_cons ev_var ea_nil)))
    (es_seq (es_if (et_not (et_truth (ev_call (ea_cons ev_var (ea_cons (ev_lc (ei_seq ev_var) eg_name (by rfl) et_yes (ev_tup (ea_cons ev_var (ea_cons (ev_op2 sem_dix quiet2 ev_var ev_var) ea_nil)))) ea_nil))))) (es_ret ev_bl) es_nil)
    (es_seq (es_exp (ev_mth sm_app ev_var (ea_cons ev_non ea_nil)))
    (es_seq (es_if (et_tst (ev_op2 sem_ne quiet2 (ev_cb sem_len quietL (ea_cons (ev_call (ea_cons ev_var ea_nil)) ea_nil)) (ev_cb sem_len quietL (ea_cons ev_var ea_nil)))) (es_ret ev_bl) es_nil)
    (es_seq (es_set (ev_listRg (ev_cb sem_len quietL (ea_cons (ev_op2 sem_ix quiet2 ev_var ev_int) ea_nil))))
    (es_seq (es_set ev_int)
    (es_seq (es_for (ei_seq ev_var) eg_name (es_seq (es_set (ev_lc (ei_seq ev_var) eg_name (by rfl) et_yes (ev_op2 sem_ix quiet2 (ev_op2 sem_ix quiet2 (ev_op2 sem_ix quiet2 ev_var ev_int) ev_var) ev_var)))
    (es_set (ev_cb sem_max2 quietL (ea_cons ev_var (ea_cons (ev_op2 sem_sub quiet2 (ev_cb sem_best quietL (ea_cons ev_var ea_nil)) (ev_cb sem_best quietL (ea_cons ev_var ea_nil))) ea_nil))))))
    (es_ret (ev_and (ev_call (ea_cons (ev_call (ea_cons ev_var ea_nil)) (ea_cons (ev_cb sem_best quietL (ea_cons (ev_lc (ei_seq ev_var) eg_name (by rfl) et_yes (ev_cb sem_best quietL (ea_cons ev_var ea_nil))) ea_nil)) ea_nil))) (ev_op2 sem_cmp quiet2 (ev_call (ea_cons ev_var ea_nil)) ev_var)))))))))))))))⟩
end
end Y

namespace Y
open PySem L2

theorem all_mk {l : PySem.W.OpenLaw} {w : World} {K : PySem.W.Frag} {h : Heap} {mg : Str → Option Value} {fa f1 f2 f3 f4 f5 f6 f7 f8 f9 f10 f11 f12 f13 f14 f15 f16 f17 f18 f19 f20 f21 f22 f23 f24 f25 f26 : Addr} (X : K.In h) (G : h.Ns mainGlobals mg) (hfa : mg "law" = some (.ref fa))
    {od1 an1 od2 an2 od3 an3 od4 an4 od5 an5 od6 an6 od7 an7 od8 an8 od9 an9 od10 an10 od11 an11 od12 an12 od13 an13 od14 an14 od15 an15 od16 an16 od17 an17 od18 an18 od19 an19 od20 an20 od21 an21 od22 an22 od23 an23 od24 an24 od25 an25 od26 an26 : Option Addr} {sl1 sl2 sl3 sl4 sl5 sl6 sl7 sl8 sl9 sl10 sl11 sl12 sl13 sl14 sl15 sl16 sl17 sl18 sl19 sl20 sl21 sl22 sl23 sl24 sl25 sl26 : Array (Option Value)} {oc1 kV1 dc1 pm1 cd1 ct1 oc2 kV2 dc2 pm2 cd2 ct2 oc3 kV3 dc3 pm3 cd3 ct3 oc4 kV4 dc4 pm4 cd4 ct4 oc5 kV5 dc5 pm5 cd5 ct5 oc6 kV6 dc6 pm6 cd6 ct6 oc7 kV7 dc7 pm7 cd7 ct7 oc8 kV8 dc8 pm8 cd8 ct8 oc9 kV9 dc9 pm9 cd9 ct9 oc10 kV10 dc10 pm10 cd10 ct10 oc11 kV11 dc11 pm11 cd11 ct11 oc12 kV12 dc12 pm12 cd12 ct12 oc13 kV13 dc13 pm13 cd13 ct13 oc14 kV14 dc14 pm14 cd14 ct14 oc15 kV15 dc15 pm15 cd15 ct15 oc16 kV16 dc16 pm16 cd16 ct16 oc17 kV17 dc17 pm17 cd17 ct17 oc18 kV18 dc18 pm18 cd18 ct18 oc19 kV19 dc19 pm19 cd19 ct19 oc20 kV20 dc20 pm20 cd20 ct20 oc21 kV21 dc21 pm21 cd21 ct21 oc22 kV22 dc22 pm22 cd22 ct22 oc23 kV23 dc23 pm23 cd23 ct23 oc24 kV24 dc24 pm24 cd24 ct24 oc25 kV25 dc25 pm25 cd25 ct25 oc26 kV26 dc26 pm26 cd26 ct26 : Value}
    (a1 : PySem.W.nsIn K mainGlobals "is_whole" = some (some (.ref f1))) (l1 : K.lookup f1 = some ⟨oc1, od1, .func (PySem.W.fnOf "is_whole" "is_whole" (defArgs (top 7)) (defBody (top 7)) (defScope (top 7)) .none kV1 dc1 pm1 an1 cd1 ct1), sl1⟩) (c1 : PySem.W.codeIn K cd1 "is_whole" = true) (k1 : PySem.W.keepIn K (.ref f1) = true)
    (a2 : PySem.W.nsIn K mainGlobals "is_number" = some (some (.ref f2))) (l2 : K.lookup f2 = some ⟨oc2, od2, .func (PySem.W.fnOf "is_number" "is_number" (defArgs (top 8)) (defBody (top 8)) (defScope (top 8)) .none kV2 dc2 pm2 an2 cd2 ct2), sl2⟩) (c2 : PySem.W.codeIn K cd2 "is_number" = true) (k2 : PySem.W.keepIn K (.ref f2) = true)
    (a3 : PySem.W.nsIn K mainGlobals "are_numbers" = some (some (.ref f3))) (l3 : K.lookup f3 = some ⟨oc3, od3, .func (PySem.W.fnOf "are_numbers" "are_numbers" (defArgs (top 9)) (defBody (top 9)) (defScope (top 9)) .none kV3 dc3 pm3 an3 cd3 ct3), sl3⟩) (c3 : PySem.W.codeIn K cd3 "are_numbers" = true) (k3 : PySem.W.keepIn K (.ref f3) = true)
    (a4 : PySem.W.nsIn K mainGlobals "is_tuple" = some (some (.ref f4))) (l4 : K.lookup f4 = some ⟨oc4, od4, .func (PySem.W.fnOf "is_tuple" "is_tuple" (defArgs (top 10)) (defBody (top 10)) (defScope (top 10)) .none kV4 dc4 pm4 an4 cd4 ct4), sl4⟩) (c4 : PySem.W.codeIn K cd4 "is_tuple" = true) (k4 : PySem.W.keepIn K (.ref f4) = true)
    (a5 : PySem.W.nsIn K mainGlobals "is_table" = some (some (.ref f5))) (l5 : K.lookup f5 = some ⟨oc5, od5, .func (PySem.W.fnOf "is_table" "is_table" (defArgs (top 11)) (defBody (top 11)) (defScope (top 11)) .none kV5 dc5 pm5 an5 cd5 ct5), sl5⟩) (c5 : PySem.W.codeIn K cd5 "is_table" = true) (k5 : PySem.W.keepIn K (.ref f5) = true)
    (a6 : PySem.W.nsIn K mainGlobals "is_model" = some (some (.ref f6))) (l6 : K.lookup f6 = some ⟨oc6, od6, .func (PySem.W.fnOf "is_model" "is_model" (defArgs (top 12)) (defBody (top 12)) (defScope (top 12)) .none kV6 dc6 pm6 an6 cd6 ct6), sl6⟩) (c6 : PySem.W.codeIn K cd6 "is_model" = true) (k6 : PySem.W.keepIn K (.ref f6) = true)
    (a7 : PySem.W.nsIn K mainGlobals "check_model" = some (some (.ref f7))) (l7 : K.lookup f7 = some ⟨oc7, od7, .func (PySem.W.fnOf "check_model" "check_model" (defArgs (top 13)) (defBody (top 13)) (defScope (top 13)) .none kV7 dc7 pm7 an7 cd7 ct7), sl7⟩) (c7 : PySem.W.codeIn K cd7 "check_model" = true) (k7 : PySem.W.keepIn K (.ref f7) = true)
    (a8 : PySem.W.nsIn K mainGlobals "to_go" = some (some (.ref f8))) (l8 : K.lookup f8 = some ⟨oc8, od8, .func (PySem.W.fnOf "to_go" "to_go" (defArgs (top 15)) (defBody (top 15)) (defScope (top 15)) .none kV8 dc8 pm8 an8 cd8 ct8), sl8⟩) (c8 : PySem.W.codeIn K cd8 "to_go" = true) (k8 : PySem.W.keepIn K (.ref f8) = true)
    (a9 : PySem.W.nsIn K mainGlobals "less_least" = some (some (.ref f9))) (l9 : K.lookup f9 = some ⟨oc9, od9, .func (PySem.W.fnOf "less_least" "less_least" (defArgs (top 17)) (defBody (top 17)) (defScope (top 17)) .none kV9 dc9 pm9 an9 cd9 ct9), sl9⟩) (c9 : PySem.W.codeIn K cd9 "less_least" = true) (k9 : PySem.W.keepIn K (.ref f9) = true)
    (a10 : PySem.W.nsIn K mainGlobals "ahead_of" = some (some (.ref f10))) (l10 : K.lookup f10 = some ⟨oc10, od10, .func (PySem.W.fnOf "ahead_of" "ahead_of" (defArgs (top 18)) (defBody (top 18)) (defScope (top 18)) .none kV10 dc10 pm10 an10 cd10 ct10), sl10⟩) (c10 : PySem.W.codeIn K cd10 "ahead_of" = true) (k10 : PySem.W.keepIn K (.ref f10) = true)
    (a11 : PySem.W.nsIn K mainGlobals "layer_ahead" = some (some (.ref f11))) (l11 : K.lookup f11 = some ⟨oc11, od11, .func (PySem.W.fnOf "layer_ahead" "layer_ahead" (defArgs (top 19)) (defBody (top 19)) (defScope (top 19)) .none kV11 dc11 pm11 an11 cd11 ct11), sl11⟩) (c11 : PySem.W.codeIn K cd11 "layer_ahead" = true) (k11 : PySem.W.keepIn K (.ref f11) = true)
    (a12 : PySem.W.nsIn K mainGlobals "found_profiles" = some (some (.ref f12))) (l12 : K.lookup f12 = some ⟨oc12, od12, .func (PySem.W.fnOf "found_profiles" "found_profiles" (defArgs (top 20)) (defBody (top 20)) (defScope (top 20)) .none kV12 dc12 pm12 an12 cd12 ct12), sl12⟩) (c12 : PySem.W.codeIn K cd12 "found_profiles" = true) (k12 : PySem.W.keepIn K (.ref f12) = true)
    (a13 : PySem.W.nsIn K mainGlobals "least_table" = some (some (.ref f13))) (l13 : K.lookup f13 = some ⟨oc13, od13, .func (PySem.W.fnOf "least_table" "least_table" (defArgs (top 21)) (defBody (top 21)) (defScope (top 21)) .none kV13 dc13 pm13 an13 cd13 ct13), sl13⟩) (c13 : PySem.W.codeIn K cd13 "least_table" = true) (k13 : PySem.W.keepIn K (.ref f13) = true)
    (a14 : PySem.W.nsIn K mainGlobals "profiles" = some (some (.ref f14))) (l14 : K.lookup f14 = some ⟨oc14, od14, .func (PySem.W.fnOf "profiles" "profiles" (defArgs (top 22)) (defBody (top 22)) (defScope (top 22)) .none kV14 dc14 pm14 an14 cd14 ct14), sl14⟩) (c14 : PySem.W.codeIn K cd14 "profiles" = true) (k14 : PySem.W.keepIn K (.ref f14) = true)
    (a15 : PySem.W.nsIn K mainGlobals "first_signs" = some (some (.ref f15))) (l15 : K.lookup f15 = some ⟨oc15, od15, .func (PySem.W.fnOf "first_signs" "first_signs" (defArgs (top 23)) (defBody (top 23)) (defScope (top 23)) .none kV15 dc15 pm15 an15 cd15 ct15), sl15⟩) (c15 : PySem.W.codeIn K cd15 "first_signs" = true) (k15 : PySem.W.keepIn K (.ref f15) = true)
    (a16 : PySem.W.nsIn K mainGlobals "spread" = some (some (.ref f16))) (l16 : K.lookup f16 = some ⟨oc16, od16, .func (PySem.W.fnOf "spread" "spread" (defArgs (top 24)) (defBody (top 24)) (defScope (top 24)) .none kV16 dc16 pm16 an16 cd16 ct16), sl16⟩) (c16 : PySem.W.codeIn K cd16 "spread" = true) (k16 : PySem.W.keepIn K (.ref f16) = true)
    (a17 : PySem.W.nsIn K mainGlobals "_law_stream" = some (some (.ref f17))) (l17 : K.lookup f17 = some ⟨oc17, od17, .func (PySem.W.fnOf "_law_stream" "_law_stream" (defArgs (top 26)) (defBody (top 26)) (defScope (top 26)) .none kV17 dc17 pm17 an17 cd17 ct17), sl17⟩) (c17 : PySem.W.codeIn K cd17 "_law_stream" = true) (k17 : PySem.W.keepIn K (.ref f17) = true)
    (a18 : PySem.W.nsIn K mainGlobals "_law_next" = some (some (.ref f18))) (l18 : K.lookup f18 = some ⟨oc18, od18, .func (PySem.W.fnOf "_law_next" "_law_next" (defArgs (top 27)) (defBody (top 27)) (defScope (top 27)) .none kV18 dc18 pm18 an18 cd18 ct18), sl18⟩) (c18 : PySem.W.codeIn K cd18 "_law_next" = true) (k18 : PySem.W.keepIn K (.ref f18) = true)
    (a19 : PySem.W.nsIn K mainGlobals "_law_is_integer" = some (some (.ref f19))) (l19 : K.lookup f19 = some ⟨oc19, od19, .func (PySem.W.fnOf "_law_is_integer" "_law_is_integer" (defArgs (top 28)) (defBody (top 28)) (defScope (top 28)) .none kV19 dc19 pm19 an19 cd19 ct19), sl19⟩) (c19 : PySem.W.codeIn K cd19 "_law_is_integer" = true) (k19 : PySem.W.keepIn K (.ref f19) = true)
    (a20 : PySem.W.nsIn K mainGlobals "_law_equal" = some (some (.ref f20))) (l20 : K.lookup f20 = some ⟨oc20, od20, .func (PySem.W.fnOf "_law_equal" "_law_equal" (defArgs (top 29)) (defBody (top 29)) (defScope (top 29)) .none kV20 dc20 pm20 an20 cd20 ct20), sl20⟩) (c20 : PySem.W.codeIn K cd20 "_law_equal" = true) (k20 : PySem.W.keepIn K (.ref f20) = true)
    (a21 : PySem.W.nsIn K mainGlobals "_law_model" = some (some (.ref f21))) (l21 : K.lookup f21 = some ⟨oc21, od21, .func (PySem.W.fnOf "_law_model" "_law_model" (defArgs (top 30)) (defBody (top 30)) (defScope (top 30)) .none kV21 dc21 pm21 an21 cd21 ct21), sl21⟩) (c21 : PySem.W.codeIn K cd21 "_law_model" = true) (k21 : PySem.W.keepIn K (.ref f21) = true)
    (a22 : PySem.W.nsIn K mainGlobals "_law_ahead" = some (some (.ref f22))) (l22 : K.lookup f22 = some ⟨oc22, od22, .func (PySem.W.fnOf "_law_ahead" "_law_ahead" (defArgs (top 31)) (defBody (top 31)) (defScope (top 31)) .none kV22 dc22 pm22 an22 cd22 ct22), sl22⟩) (c22 : PySem.W.codeIn K cd22 "_law_ahead" = true) (k22 : PySem.W.keepIn K (.ref f22) = true)
    (a23 : PySem.W.nsIn K mainGlobals "_law_profile" = some (some (.ref f23))) (l23 : K.lookup f23 = some ⟨oc23, od23, .func (PySem.W.fnOf "_law_profile" "_law_profile" (defArgs (top 32)) (defBody (top 32)) (defScope (top 32)) .none kV23 dc23 pm23 an23 cd23 ct23), sl23⟩) (c23 : PySem.W.codeIn K cd23 "_law_profile" = true) (k23 : PySem.W.keepIn K (.ref f23) = true)
    (a24 : PySem.W.nsIn K mainGlobals "_law_closure" = some (some (.ref f24))) (l24 : K.lookup f24 = some ⟨oc24, od24, .func (PySem.W.fnOf "_law_closure" "_law_closure" (defArgs (top 33)) (defBody (top 33)) (defScope (top 33)) .none kV24 dc24 pm24 an24 cd24 ct24), sl24⟩) (c24 : PySem.W.codeIn K cd24 "_law_closure" = true) (k24 : PySem.W.keepIn K (.ref f24) = true)
    (a25 : PySem.W.nsIn K mainGlobals "_law_first" = some (some (.ref f25))) (l25 : K.lookup f25 = some ⟨oc25, od25, .func (PySem.W.fnOf "_law_first" "_law_first" (defArgs (top 34)) (defBody (top 34)) (defScope (top 34)) .none kV25 dc25 pm25 an25 cd25 ct25), sl25⟩) (c25 : PySem.W.codeIn K cd25 "_law_first" = true) (k25 : PySem.W.keepIn K (.ref f25) = true)
    (a26 : PySem.W.nsIn K mainGlobals "law" = some (some (.ref f26))) (l26 : K.lookup f26 = some ⟨oc26, od26, .func (PySem.W.fnOf "law" "law" (defArgs (top 35)) (defBody (top 35)) (defScope (top 35)) .none kV26 dc26 pm26 an26 cd26 ct26), sl26⟩) (c26 : PySem.W.codeIn K cd26 "law" = true) (k26 : PySem.W.keepIn K (.ref f26) = true)
    (zb_abs : PySem.W.nsIn K mainGlobals "abs" = some none)
    (zb_all : PySem.W.nsIn K mainGlobals "all" = some none)
    (zb_bool : PySem.W.nsIn K mainGlobals "bool" = some none)
    (zb_enumerate : PySem.W.nsIn K mainGlobals "enumerate" = some none)
    (zb_int : PySem.W.nsIn K mainGlobals "int" = some none)
    (zb_isinstance : PySem.W.nsIn K mainGlobals "isinstance" = some none)
    (zb_len : PySem.W.nsIn K mainGlobals "len" = some none)
    (zb_list : PySem.W.nsIn K mainGlobals "list" = some none)
    (zb_max : PySem.W.nsIn K mainGlobals "max" = some none)
    (zb_min : PySem.W.nsIn K mainGlobals "min" = some none)
    (zb_range : PySem.W.nsIn K mainGlobals "range" = some none)
    (zb_sorted : PySem.W.nsIn K mainGlobals "sorted" = some none)
    (zb_str : PySem.W.nsIn K mainGlobals "str" = some none)
    (zb_tuple : PySem.W.nsIn K mainGlobals "tuple" = some none)
    (zb_zip : PySem.W.nsIn K mainGlobals "zip" = some none)
    {tc_MOST_COST : Tok} (zc_MOST_COST : PySem.W.nsIn K mainGlobals "MOST_COST" = some (some (.int 3 tc_MOST_COST)))
    {tc_MOST_KINDS : Tok} (zc_MOST_KINDS : PySem.W.nsIn K mainGlobals "MOST_KINDS" = some (some (.int 3 tc_MOST_KINDS)))
    {tc_MOST_STATES : Tok} (zc_MOST_STATES : PySem.W.nsIn K mainGlobals "MOST_STATES" = some (some (.int 3 tc_MOST_STATES))) :
    ∃ fd : FuncData, (∀ (s : Shared) (v : Value), BindsTo s fd ⟨[v], []⟩ [("script", v)]) ∧ ∀ base : Heap, K.In base → base.Ns mainGlobals mg → FnOk l.prog w K mg base CX0 10 fa fd ["script"] (spLaw K) := by
  have e := hfa.symm.trans (PySem.W.mg_of X G a26)
  cases e
  have T : Tp mg := ⟨PySem.W.mg_none_of X G zb_abs, PySem.W.mg_none_of X G zb_all, PySem.W.mg_none_of X G zb_bool, PySem.W.mg_none_of X G zb_enumerate, PySem.W.mg_none_of X G zb_int, PySem.W.mg_none_of X G zb_isinstance, PySem.W.mg_none_of X G zb_len, PySem.W.mg_none_of X G zb_list, PySem.W.mg_none_of X G zb_max, PySem.W.mg_none_of X G zb_min, PySem.W.mg_none_of X G zb_range, PySem.W.mg_none_of X G zb_sorted, PySem.W.mg_none_of X G zb_str, PySem.W.mg_none_of X G zb_tuple, PySem.W.mg_none_of X G zb_zip, ⟨_, PySem.W.mg_of X G zc_MOST_COST⟩, ⟨_, PySem.W.mg_of X G zc_MOST_KINDS⟩, ⟨_, PySem.W.mg_of X G zc_MOST_STATES⟩⟩
  refine ⟨PySem.W.fnOf "law" "law" (defArgs (top 35)) (defBody (top 35)) (defScope (top 35)) .none kV26 dc26 pm26 an26 cd26 ct26, fun s v => .of_eq rfl, fun base _ _ => ?_⟩
  have F1 := fun_mk (st := (top 7)) l1 c1 k1
  have b1 := F1.binds (ps := ["value"]) fun _ _ _ _ _ _ us hl => match us, hl with | [_], _ => rfl
  have t1 := t_is_whole (P := l.prog) (w := w) (base := base) T F1
  have o1 := own_mk t1 F1 b1 (PySem.W.mg_of X G a1)
  have F2 := fun_mk (st := (top 8)) l2 c2 k2
  have b2 := F2.binds (ps := ["value", "low", "high"]) fun _ _ _ _ _ _ us hl => match us, hl with | [_, _, _], _ => rfl
  have t2 := t_is_number (P := l.prog) (w := w) (base := base) T F2 o1
  have o2 := own_mk t2 F2 b2 (PySem.W.mg_of X G a2)
  have F3 := fun_mk (st := (top 9)) l3 c3 k3
  have b3 := F3.binds (ps := ["values", "low", "high"]) fun _ _ _ _ _ _ us hl => match us, hl with | [_, _, _], _ => rfl
  have t3 := t_are_numbers (P := l.prog) (w := w) (base := base) T F3 o2
  have o3 := own_mk t3 F3 b3 (PySem.W.mg_of X G a3)
  have F4 := fun_mk (st := (top 10)) l4 c4 k4
  have b4 := F4.binds (ps := ["value", "least", "most"]) fun _ _ _ _ _ _ us hl => match us, hl with | [_, _, _], _ => rfl
  have t4 := t_is_tuple (P := l.prog) (w := w) (base := base) T F4
  have o4 := own_mk t4 F4 b4 (PySem.W.mg_of X G a4)
  have F5 := fun_mk (st := (top 11)) l5 c5 k5
  have b5 := F5.binds (ps := ["value", "rows", "columns"]) fun _ _ _ _ _ _ us hl => match us, hl with | [_, _, _], _ => rfl
  have t5 := t_is_table (P := l.prog) (w := w) (base := base) T F5 o3 o4
  have o5 := own_mk t5 F5 b5 (PySem.W.mg_of X G a5)
  have F6 := fun_mk (st := (top 12)) l6 c6 k6
  have b6 := F6.binds (ps := ["value"]) fun _ _ _ _ _ _ us hl => match us, hl with | [_], _ => rfl
  have t6 := t_is_model (P := l.prog) (w := w) (base := base) T F6 o3 o4 o5
  have o6 := own_mk t6 F6 b6 (PySem.W.mg_of X G a6)
  have F7 := fun_mk (st := (top 13)) l7 c7 k7
  have b7 := F7.binds (ps := ["model"]) fun _ _ _ _ _ _ us hl => match us, hl with | [_], _ => rfl
  have t7 := t_check_model (P := l.prog) (w := w) (base := base) T F7 o6
  have o7 := own_mk t7 F7 b7 (PySem.W.mg_of X G a7)
  have F8 := fun_mk (st := (top 15)) l8 c8 k8
  have b8 := F8.binds (ps := ["model", "sign", "numbers"]) fun _ _ _ _ _ _ us hl => match us, hl with | [_, _, _], _ => rfl
  have t8 := t_to_go (P := l.prog) (w := w) (base := base) T F8
  have o8 := own_mk t8 F8 b8 (PySem.W.mg_of X G a8)
  have F9 := fun_mk (st := (top 17)) l9 c9 k9
  have b9 := F9.binds (ps := ["numbers"]) fun _ _ _ _ _ _ us hl => match us, hl with | [_], _ => rfl
  have t9 := t_less_least (P := l.prog) (w := w) (base := base) T F9
  have o9 := own_mk t9 F9 b9 (PySem.W.mg_of X G a9)
  have F10 := fun_mk (st := (top 18)) l10 c10 k10
  have b10 := F10.binds (ps := ["model", "sign", "numbers"]) fun _ _ _ _ _ _ us hl => match us, hl with | [_, _, _], _ => rfl
  have t10 := t_ahead_of (P := l.prog) (w := w) (base := base) T F10 o8 o9
  have o10 := own_mk t10 F10 b10 (PySem.W.mg_of X G a10)
  have F11 := fun_mk (st := (top 19)) l11 c11 k11
  have b11 := F11.binds (ps := ["model", "found", "layer"]) fun _ _ _ _ _ _ us hl => match us, hl with | [_, _, _], _ => rfl
  have t11 := t_layer_ahead (P := l.prog) (w := w) (base := base) T F11 o10
  have o11 := own_mk t11 F11 b11 (PySem.W.mg_of X G a11)
  have F12 := fun_mk (st := (top 20)) l12 c12 k12
  have b12 := F12.binds (ps := ["model"]) fun _ _ _ _ _ _ us hl => match us, hl with | [_], _ => rfl
  have t12 := t_found_profiles (P := l.prog) (w := w) (base := base) T F12 o11
  have o12 := own_mk t12 F12 b12 (PySem.W.mg_of X G a12)
  have F13 := fun_mk (st := (top 21)) l13 c13 k13
  have b13 := F13.binds (ps := ["model"]) fun _ _ _ _ _ _ us hl => match us, hl with | [_], _ => rfl
  have t13 := t_least_table (P := l.prog) (w := w) (base := base) T F13 o12
  have o13 := own_mk t13 F13 b13 (PySem.W.mg_of X G a13)
  have F14 := fun_mk (st := (top 22)) l14 c14 k14
  have b14 := F14.binds (ps := ["model"]) fun _ _ _ _ _ _ us hl => match us, hl with | [_], _ => rfl
  have t14 := t_profiles (P := l.prog) (w := w) (base := base) T F14 o7 o13
  have o14 := own_mk t14 F14 b14 (PySem.W.mg_of X G a14)
  have F15 := fun_mk (st := (top 23)) l15 c15 k15
  have b15 := F15.binds (ps := ["model"]) fun _ _ _ _ _ _ us hl => match us, hl with | [_], _ => rfl
  have t15 := t_first_signs (P := l.prog) (w := w) (base := base) T F15 o7 o12
  have o15 := own_mk t15 F15 b15 (PySem.W.mg_of X G a15)
  have F16 := fun_mk (st := (top 24)) l16 c16 k16
  have b16 := F16.binds (ps := ["model"]) fun _ _ _ _ _ _ us hl => match us, hl with | [_], _ => rfl
  have t16 := t_spread (P := l.prog) (w := w) (base := base) T F16 o7 o13
  have o16 := own_mk t16 F16 b16 (PySem.W.mg_of X G a16)
  have F17 := fun_mk (st := (top 26)) l17 c17 k17
  have b17 := F17.binds (ps := ["script"]) fun _ _ _ _ _ _ us hl => match us, hl with | [_], _ => rfl
  have t17 := t__law_stream (P := l.prog) (w := w) (base := base) T F17
  have o17 := own_mk t17 F17 b17 (PySem.W.mg_of X G a17)
  have F18 := fun_mk (st := (top 27)) l18 c18 k18
  have b18 := F18.binds (ps := ["stream", "many"]) fun _ _ _ _ _ _ us hl => match us, hl with | [_, _], _ => rfl
  have t18 := t__law_next (P := l.prog) (w := w) (base := base) T F18
  have o18 := own_mk t18 F18 b18 (PySem.W.mg_of X G a18)
  have F19 := fun_mk (st := (top 28)) l19 c19 k19
  have b19 := F19.binds (ps := ["actual"]) fun _ _ _ _ _ _ us hl => match us, hl with | [_], _ => rfl
  have t19 := t__law_is_integer (P := l.prog) (w := w) (base := base) T F19
  have o19 := own_mk t19 F19 b19 (PySem.W.mg_of X G a19)
  have F20 := fun_mk (st := (top 29)) l20 c20 k20
  have b20 := F20.binds (ps := ["actual", "due"]) fun _ _ _ _ _ _ us hl => match us, hl with | [_, _], _ => rfl
  have t20 := t__law_equal (P := l.prog) (w := w) (base := base) T F20 b20 (PySem.W.mg_of X G a20) o19 8
  have o20 := own_mk t20 F20 b20 (PySem.W.mg_of X G a20)
  have F21 := fun_mk (st := (top 30)) l21 c21 k21
  have b21 := F21.binds (ps := ["stream"]) fun _ _ _ _ _ _ us hl => match us, hl with | [_], _ => rfl
  have t21 := t__law_model (P := l.prog) (w := w) (base := base) T F21 o18
  have o21 := own_mk t21 F21 b21 (PySem.W.mg_of X G a21)
  have F22 := fun_mk (st := (top 31)) l22 c22 k22
  have b22 := F22.binds (ps := ["model", "sign", "numbers"]) fun _ _ _ _ _ _ us hl => match us, hl with | [_, _, _], _ => rfl
  have t22 := t__law_ahead (P := l.prog) (w := w) (base := base) T F22
  have o22 := own_mk t22 F22 b22 (PySem.W.mg_of X G a22)
  have F23 := fun_mk (st := (top 32)) l23 c23 k23
  have b23 := F23.binds (ps := ["model", "signs"]) fun _ _ _ _ _ _ us hl => match us, hl with | [_, _], _ => rfl
  have t23 := t__law_profile (P := l.prog) (w := w) (base := base) T F23 o22
  have o23 := own_mk t23 F23 b23 (PySem.W.mg_of X G a23)
  have F24 := fun_mk (st := (top 33)) l24 c24 k24
  have b24 := F24.binds (ps := ["model", "start"]) fun _ _ _ _ _ _ us hl => match us, hl with | [_, _], _ => rfl
  have t24 := t__law_closure (P := l.prog) (w := w) (base := base) T F24 o22
  have o24 := own_mk t24 F24 b24 (PySem.W.mg_of X G a24)
  have F25 := fun_mk (st := (top 34)) l25 c25 k25
  have b25 := F25.binds (ps := ["model"]) fun _ _ _ _ _ _ us hl => match us, hl with | [_], _ => rfl
  have t25 := t__law_first (P := l.prog) (w := w) (base := base) T F25 o23
  have o25 := own_mk t25 F25 b25 (PySem.W.mg_of X G a25)
  have F26 := fun_mk (st := (top 35)) l26 c26 k26
  have b26 := F26.binds (ps := ["script"]) fun _ _ _ _ _ _ us hl => match us, hl with | [_], _ => rfl
  have t26 := t_law (P := l.prog) (w := w) (base := base) T F26 o14 o15 o16 o17 o20 o21 o24 o25
  exact law_end t26 law_true
theorem walk {l : PySem.W.OpenLaw} {q : Program} {loose : List Str} {XP : (Str → Option Value) → Heap → Prop} {YP : World → Heap → Prop} {d : DefRec} {K : Params → PySem.W.Frag} (hn : l.most = some 63) (hdf : d.params.defaults = [])
    (hY : ∀ (w : World) (h : Heap), YP w h → (K w.params).In h)
    (F : ∀ (w : World) (mg : Str → Option Value) (fa : Addr) (h : Heap), (K w.params).In h → h.Ns mainGlobals mg → mg d.name = some (.ref fa) →
      ∃ fd : FuncData, (∀ (s : Shared) (u : Value), BindsTo s fd ⟨[u], []⟩ [("script", u)]) ∧ ∀ base : Heap, (K w.params).In base → base.Ns mainGlobals mg → FnOk l.prog w (K w.params) mg base CX0 10 fa fd ["script"] (spLaw (K w.params))) :
    PySem.W.WalkO q loose XP YP l.row.toRowW d [] (fun f vs => PySem.call f vs) :=
  L2.walk_of (n := 63) (k := 10) (x := "script") (CX := fun _ => CX0) (sp := fun w => spLaw (K w.params)) hn (by decide) hdf ⟨rfl, by decide, by decide⟩ hY F (fun _ _ a ns hl _ hS => ⟨a, ns, rfl, hS, hl, fun _ => rfl⟩) fun _ _ _ _ _ z => z
end Y
open PySem PySem.W PyProof.Rows
set_option maxRecDepth 100000 in
set_option maxHeartbeats 0 in
theorem PySem.Challenge.cw_surepast_k17_least_tables_holds : PySem.Challenge.rw_surepast_k17_least_tables.Holds := by
  w_on; o_law; k_head; (case hw => w_witness2)
  k_fill
  refine Y.walk (l := PySem.Challenge.rw_surepast_k17_least_tables) rfl rfl (fun w h Y => PySem.W.kIn_of Y) ?F
  case F =>
    intro w mg fa h KX G hmg
    refine' Y.all_mk KX G hmg ?a1 ?l1 ?c1 ?k1 ?a2 ?l2 ?c2 ?k2 ?a3 ?l3 ?c3 ?k3 ?a4 ?l4 ?c4 ?k4 ?a5 ?l5 ?c5 ?k5 ?a6 ?l6 ?c6 ?k6 ?a7 ?l7 ?c7 ?k7 ?a8 ?l8 ?c8 ?k8 ?a9 ?l9 ?c9 ?k9 ?a10 ?l10 ?c10 ?k10 ?a11 ?l11 ?c11 ?k11 ?a12 ?l12 ?c12 ?k12 ?a13 ?l13 ?c13 ?k13 ?a14 ?l14 ?c14 ?k14 ?a15 ?l15 ?c15 ?k15 ?a16 ?l16 ?c16 ?k16 ?a17 ?l17 ?c17 ?k17 ?a18 ?l18 ?c18 ?k18 ?a19 ?l19 ?c19 ?k19 ?a20 ?l20 ?c20 ?k20 ?a21 ?l21 ?c21 ?k21 ?a22 ?l22 ?c22 ?k22 ?a23 ?l23 ?c23 ?k23 ?a24 ?l24 ?c24 ?k24 ?a25 ?l25 ?c25 ?k25 ?a26 ?l26 ?c26 ?k26 ?zb_abs ?zb_all ?zb_bool ?zb_enumerate ?zb_int ?zb_isinstance ?zb_len ?zb_list ?zb_max ?zb_min ?zb_range ?zb_sorted ?zb_str ?zb_tuple ?zb_zip ?zc_MOST_COST ?zc_MOST_KINDS ?zc_MOST_STATES
    (case a1 => k_is)
    (case l1 => k_is)
    (case c1 => k_is)
    (case k1 => k_is)
    (case a2 => k_is)
    (case l2 => k_is)
    (case c2 => k_is)
    (case k2 => k_is)
    (case a3 => k_is)
    (case l3 => k_is)
    (case c3 => k_is)
    (case k3 => k_is)
    (case a4 => k_is)
    (case l4 => k_is)
    (case c4 => k_is)
    (case k4 => k_is)
    (case a5 => k_is)
    (case l5 => k_is)
    (case c5 => k_is)
    (case k5 => k_is)
    (case a6 => k_is)
    (case l6 => k_is)
    (case c6 => k_is)
    (case k6 => k_is)
    (case a7 => k_is)
    (case l7 => k_is)
    (case c7 => k_is)
    (case k7 => k_is)
    (case a8 => k_is)
    (case l8 => k_is)
    (case c8 => k_is)
    (case k8 => k_is)
    (case a9 => k_is)
    (case l9 => k_is)
    (case c9 => k_is)
    (case k9 => k_is)
    (case a10 => k_is)
    (case l10 => k_is)
    (case c10 => k_is)
    (case k10 => k_is)
    (case a11 => k_is)
    (case l11 => k_is)
    (case c11 => k_is)
    (case k11 => k_is)
    (case a12 => k_is)
    (case l12 => k_is)
    (case c12 => k_is)
    (case k12 => k_is)
    (case a13 => k_is)
    (case l13 => k_is)
    (case c13 => k_is)
    (case k13 => k_is)
    (case a14 => k_is)
    (case l14 => k_is)
    (case c14 => k_is)
    (case k14 => k_is)
    (case a15 => k_is)
    (case l15 => k_is)
    (case c15 => k_is)
    (case k15 => k_is)
    (case a16 => k_is)
    (case l16 => k_is)
    (case c16 => k_is)
    (case k16 => k_is)
    (case a17 => k_is)
    (case l17 => k_is)
    (case c17 => k_is)
    (case k17 => k_is)
    (case a18 => k_is)
    (case l18 => k_is)
    (case c18 => k_is)
    (case k18 => k_is)
    (case a19 => k_is)
    (case l19 => k_is)
    (case c19 => k_is)
    (case k19 => k_is)
    (case a20 => k_is)
    (case l20 => k_is)
    (case c20 => k_is)
    (case k20 => k_is)
    (case a21 => k_is)
    (case l21 => k_is)
    (case c21 => k_is)
    (case k21 => k_is)
    (case a22 => k_is)
    (case l22 => k_is)
    (case c22 => k_is)
    (case k22 => k_is)
    (case a23 => k_is)
    (case l23 => k_is)
    (case c23 => k_is)
    (case k23 => k_is)
    (case a24 => k_is)
    (case l24 => k_is)
    (case c24 => k_is)
    (case k24 => k_is)
    (case a25 => k_is)
    (case l25 => k_is)
    (case c25 => k_is)
    (case k25 => k_is)
    (case a26 => k_is)
    (case l26 => k_is)
    (case c26 => k_is)
    (case k26 => k_is)
    (case zb_abs => k_is)
    (case zb_all => k_is)
    (case zb_bool => k_is)
    (case zb_enumerate => k_is)
    (case zb_int => k_is)
    (case zb_isinstance => k_is)
    (case zb_len => k_is)
    (case zb_list => k_is)
    (case zb_max => k_is)
    (case zb_min => k_is)
    (case zb_range => k_is)
    (case zb_sorted => k_is)
    (case zb_str => k_is)
    (case zb_tuple => k_is)
    (case zb_zip => k_is)
    (case zc_MOST_COST => k_is)
    (case zc_MOST_KINDS => k_is)
    (case zc_MOST_STATES => k_is)
