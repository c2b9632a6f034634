import PyProof.Rows.All
import Wide.All
import OpenK.AllK
import Wide.FinOn
import Lean
import PyProof.EqAt
import PyProof.EqKinds
import PyProof.TupleCall
import PySem.Challenge.RW_signmill_k10_whole_equal_words
set_option Elab.async false
set_option linter.all false
set_option maxRecDepth 100000
namespace L2
open PySem PySem.Spec PyProof.Rows
abbrev Key:=Sum Int Str
def keyIs:Key → Value → Bool
  | .inl k,v=>Value.isInt k v
  | .inr x,v=>Value.isStrOf x v
def keyH (w:World):Key → Int
  | .inl k=>hashInt k
  | .inr x=>hashStr w x
theorem keyIs_shape:∀ {k:Key} {v:Value},keyIs k v = true → (∃ i t,k = Sum.inl i ∧ v = Value.int i t) ∨ (∃ x t,k = Sum.inr x ∧ v = Value.str x t)
  | .inl i,v,h=>by
    obtain ⟨t,e⟩:=Value.isInt_shape (k:=i) (v:=v) h
    exact .inl ⟨i,t,rfl,e⟩
  | .inr x,v,h=>by
    obtain ⟨t,e⟩:=Value.isStrOf_shape (x:=x) (v:=v) h
    exact .inr ⟨x,t,rfl,e⟩
theorem keyIs_int (i:Int) (t:Tok):keyIs (.inl i) (.int i t) = true:=by simp [keyIs,Value.isInt]
theorem keyIs_str (x:Str) (t:Tok):keyIs (.inr x) (.str x t) = true:=by simp [keyIs,Value.isStrOf]
theorem key_ll (a b:Int):decide ((Sum.inl a:Key) = Sum.inl b) = (a == b):=by
  by_cases e:a = b
  · subst e; simp
  · have h:¬ (Sum.inl a:Key) = Sum.inl b:=fun q=>e (Sum.inl.inj q)
    rw [decide_eq_false h]
    exact (beq_eq_false_iff_ne.mpr e).symm
theorem key_rr (a b:Str):decide ((Sum.inr a:Key) = Sum.inr b) = decide (a = b):=by
  by_cases e:a = b
  · subst e; simp
  · have h:¬ (Sum.inr a:Key) = Sum.inr b:=fun q=>e (Sum.inr.inj q)
    rw [decide_eq_false h,decide_eq_false e]
theorem key_lr (a:Int) (b:Str):decide ((Sum.inl a:Key) = Sum.inr b) = false:=decide_eq_false (fun q=>nomatch q)
theorem key_rl (a:Str) (b:Int):decide ((Sum.inr a:Key) = Sum.inl b) = false:=decide_eq_false (fun q=>nomatch q)
def mixKind (prog:Program) (w:World):PySem.KeyKind prog w Key where
  is:=keyIs
  hash:=keyH w
  inj:=fun v a b ha hb=>by
    rcases keyIs_shape ha with ⟨i,t,rfl,rfl⟩ | ⟨x,t,rfl,rfl⟩
    · rcases keyIs_shape hb with ⟨j,u,rfl,e⟩ | ⟨y,u,rfl,e⟩
      · injection e with e1 _; rw [e1]
      · exact nomatch e
    · rcases keyIs_shape hb with ⟨j,u,rfl,e⟩ | ⟨y,u,rfl,e⟩
      · exact nomatch e
      · injection e with e1 _; rw [e1]
  byValue:=fun k v h=>by
    rcases keyIs_shape h with ⟨i,t,rfl,rfl⟩ | ⟨x,t,rfl,rfl⟩ <;> rfl
  pyHash:=fun hv h=>by
    rcases keyIs_shape hv with ⟨i,t,rfl,rfl⟩ | ⟨x,t,rfl,rfl⟩
    · exact wpAny_pyHash_int h
    · exact wpAny_pyHash_str h
  eqBool:=fun hu hv h=>by
    rcases keyIs_shape hu with ⟨i,t,rfl,rfl⟩ | ⟨x,t,rfl,rfl⟩
    · rcases keyIs_shape hv with ⟨j,u,rfl,rfl⟩ | ⟨y,u,rfl,rfl⟩
      · rw [key_ll] at h; exact wpAny_eqBool_int h
      · rw [key_lr] at h; exact SeqAt.EqAt.int_str i t y u _ _ _ _ h
    · rcases keyIs_shape hv with ⟨j,u,rfl,rfl⟩ | ⟨y,u,rfl,rfl⟩
      · rw [key_rl] at h; exact SeqAt.EqAt.str_int x t j u _ _ _ _ h
      · rw [key_rr] at h; exact wpAny_eqBool_str h
  «strs»:=fun k x t v h=>by
    rcases keyIs_shape h with ⟨i,u,rfl,e⟩ | ⟨y,u,rfl,e⟩
    · exact nomatch e
    · injection e with e1 _
      subst e1
      cases v <;> rfl
theorem mixKind_int (prog:Program) (w:World) (i:Int) (t:Tok):(mixKind prog w).is (.inl i) (.int i t) = true:=keyIs_int i t
theorem mixKind_str (prog:Program) (w:World) (x:Str) (t:Tok):(mixKind prog w).is (.inr x) (.str x t) = true:=keyIs_str x t
end L2
namespace L2
open PySem PySem.Spec PyProof.Rows
inductive V where
  | non | bl (b:Bool) | int (i:Int) | str (x:Str) | byt (b:Array UInt8) | flt (b:UInt64) | ref (a:Addr) | ty (n:String)
  deriving DecidableEq
def RelV:V → Value → Prop
  | .non,u=>u = Value.none
  | .bl b,u=>u = Value.bool b
  | .int i,u=>∃ t,u = Value.int i t
  | .str x,u=>∃ t,u = Value.str x t
  | .byt b,u=>∃ t,u = Value.bytes b t
  | .flt b,u=>∃ t,u = Value.float b t
  | .ref a,u=>u = Value.ref a
  | .ty n,u=>u = Value.type n
abbrev Vals:List V → List Value → Prop:=Paired RelV
theorem Vals.length {xs:List V} {us:List Value} (r:Vals xs us):xs.length = us.length:=Paired.length r
theorem Vals.get:∀ {xs:List V} {us:List Value} {i:Nat} {x:V},Vals xs us → xs[i]? = some x → ∃ u,us[i]? = some u ∧ RelV x u
  | _,_,_,_,.nil,e=>by simp at e
  | _,_,0,_,.cons r _,e=>by simp at e; subst e; exact ⟨_,rfl,r⟩
  | _,_,i + 1,x,.cons _ t,e=>by
    obtain ⟨u,h1,h2⟩:=Vals.get (i:=i) (x:=x) t (by simpa using e)
    exact ⟨u,by simpa using h1,h2⟩
theorem Vals.set {x:V} {u:Value} (r:RelV x u):∀ {xs:List V} {us:List Value} (i:Nat),Vals xs us → Vals (xs.set i x) (us.set i u)
  | _,_,_,.nil=>.nil
  | _,_,0,.cons _ t=>.cons r t
  | _,_,i + 1,.cons q t=>.cons q (Vals.set r i t)
theorem Vals.append:∀ {xs ys:List V} {us ws:List Value},Vals xs us → Vals ys ws → Vals (xs ++ ys) (us ++ ws)
  | _,_,_,_,.nil,s=>s
  | _,_,_,_,.cons r t,s=>.cons r (Vals.append t s)
theorem Vals.take:∀ {xs:List V} {us:List Value} (n:Nat),Vals xs us → Vals (xs.take n) (us.take n)
  | _,_,0,_=>.nil
  | _,_,_ + 1,.nil=>.nil
  | _,_,n + 1,.cons r t=>.cons r (Vals.take n t)
theorem Vals.drop:∀ {xs:List V} {us:List Value} (n:Nat),Vals xs us → Vals (xs.drop n) (us.drop n)
  | _,_,0,r=>r
  | _,_,_ + 1,.nil=>.nil
  | _,_,n + 1,.cons _ t=>Vals.drop n t
def RelO:Option V → Option Value → Prop
  | some v,some u=>RelV v u
  | none,none=>True
  | _,_=>False
def KV {κ:Type}:List (κ × V) → List (κ × Value) → Prop:=Paired fun (p:κ × V) (q:κ × Value)=>p.1 = q.1 ∧ RelV p.2 q.2
def kV:Key → V
  | .inl i=>.int i
  | .inr x=>.str x
inductive HO where
    | lst (xs:List V)
    | tup (xs:List V)
    | dK (kvs:List (Key × V)) | dT (kvs:List (List Key × V))
    | set (S:Int → Bool) (n:Nat)
    | ins (C dx:Addr) (fs:List (Str × V))
    | own (x:Addr)
    | xd (fs:List (Str × V))
    | met (f x:Addr)
    | rng (lo hi:Int)
    | frz (o:Obj) (u:HO)
    | tbl (ps:Array Value)
    | ext (φ:Heap → Prop)
abbrev Hp:=Addr → Option HO
def upd (H:Hp) (a:Addr) (o:HO):Hp:=fun b=>if b = a then some o else H b
theorem upd_same {H:Hp} {a:Addr} {o:HO}:upd H a o a = some o:=by unfold upd; rw [if_pos rfl]
theorem upd_ne {H:Hp} {a b:Addr} {o:HO} (h:b ≠ a):upd H a o b = H b:=by unfold upd; rw [if_neg h]
theorem ne_of {H:Hp} {a b:Addr} {o u:HO} (h:H a = some o) (h':H b = some u) (d:o ≠ u):a ≠ b:=by
  intro e; subst e; rw [h] at h'; exact d (Option.some.inj h')
theorem ne_of_none {H:Hp} {a b:Addr} {o:HO} (h:H a = some o) (h':H b = none):a ≠ b:=by
  intro e; subst e; rw [h] at h'; cases h'
section
variable (P:Program) (w:World)
def ObjOk (H:Hp) (h:Heap) (a:Addr):HO → Prop
  | .lst xs=>xs.length ≤ sizeLine ∧ ∃ (its:List Value) (n:Nat),Vals xs its ∧ h.get? a = some { cls:=.type "list",data:=.seq its.toArray n }
  | .tup xs=>xs.length ≤ sizeLine ∧ ∃ its:List Value,Vals xs its ∧ IsTup h a its.toArray
  | .dK kvs=>kvs.length ≤ sizeLine ∧ (a == sysModules) = false ∧ ∃ vs,KV kvs vs ∧ h.DictOf (mixKind P w) a vs
  | .dT kvs=>kvs.length ≤ sizeLine ∧ (a == sysModules) = false ∧ ∃ xs:List (List Key × Addr × Value),
      Paired (fun (p:List Key × V) (q:List Key × Addr × Value)=>p.1 = q.1 ∧ H q.2.1 = some (.tup (p.1.map kV)) ∧ RelV p.2 q.2.2) kvs xs ∧
      ∃ o es ep,h.get? a = some o ∧ o.ExactDict ∧ o.data = .dict es ep ∧ es.toList = xs.map (entryOfKey (tupleKind (mixKind P w))) ∧ (xs.map (·.1)).Nodup
  | .set S n=>h.SetOf (intKind P w) a S n
  | .ins C dx fs=>H dx = some (.own a) ∧ fs.length ≤ 1000 ∧ dx ≠ a ∧ h.get? a = some (PySem.W.instObj C dx) ∧
      ∃ mA,h.Ns1 dx mA ∧ (∀ f,RelO (fs.lookup f) (mA f)) ∧ PySem.Within mA (fs.map (·.1))
  | .own _=>∃ o,h.get? a = some o
  | .xd fs=>∃ mA,h.Ns1 a mA ∧ ∀ f,RelO (fs.lookup f) (mA f)
  | .rng lo hi=>∃ t u v,h.get? a = some { cls:=.type "range",data:=.fields #[.int lo t,.int hi u,.int 1 v] }
  | .frz o u=>h.get? a = some o ∧ ObjOk H h a u
  | .tbl ps=>h.get? a = some { cls:=.none,data:=.fields ps }
  | .met f x=>h.get? a = some (PySem.W.methodObj (.ref f) (.ref x))
  | .ext φ=>φ h ∧ (∃ o,h.get? a = some o) ∧ ∀ h1 h2:Heap,φ h1 → (∀ o,h1.get? a = some o → h2.get? a = some o) → φ h2
def HOk (H:Hp) (h:Heap):Prop:=∀ a o,H a = some o → ObjOk P w H h a o
end
section
variable {P:Program} {w:World} {H H':Hp} {h h':Heap} {a:Addr} {o:HO}
theorem ObjOk.lt (x:ObjOk P w H h a o):a < h.objs.size:=by
  cases o with
  | lst xs=>obtain ⟨_,_,_,_,e⟩:=x; exact Heap.lt_size e
  | tup xs=>obtain ⟨_,_,_,p⟩:=x; exact p.lt
  | dK kvs=>obtain ⟨_,_,_,_,o,_,_,e,_⟩:=x; exact Heap.lt_size e
  | dT kvs=>obtain ⟨_,_,_,_,o,_,_,e,_⟩:=x; exact Heap.lt_size e
  | set S n=>obtain ⟨o,_,_,_,e,_⟩:=x; exact Heap.lt_size e
  | ins C dx fs=>obtain ⟨_,_,_,e,_⟩:=x; exact Heap.lt_size e
  | own y=>obtain ⟨_,e⟩:=x; exact Heap.lt_size e
  | xd fs=>obtain ⟨_,⟨_,_,_,e,_⟩,_⟩:=x; exact Heap.lt_size e
  | rng lo hi=>obtain ⟨_,_,_,e⟩:=x; exact Heap.lt_size e
  | frz ob u=>obtain ⟨e,_⟩:=x; exact Heap.lt_size e
  | tbl ps=>exact Heap.lt_size (show h.get? a = some _ from x)
  | met f y=>exact Heap.lt_size (show h.get? a = some _ from x)
  | ext φ=>obtain ⟨_,⟨_,e⟩,_⟩:=x; exact Heap.lt_size e
theorem Paired.mapP {α β:Type} {F G:α → β → Prop}:∀ {l₁:List α} {l₂:List β},Paired F l₁ l₂ → (∀ a b,F a b → G a b) → Paired G l₁ l₂
  | _,_,.nil,_=>.nil
  | _,_,.cons r t,f=>.cons (f _ _ r) (Paired.mapP t f)
theorem ObjOk.stay (x:ObjOk P w H h a o) (k:∀ b u,(b = a ∨ H b = some (.own a)) → h.get? b = some u → h'.get? b = some u)
    (ho:∀ b,H b = some (.own a) → H' b = some (.own a)) (ht:∀ b xs,H b = some (.tup xs) → H' b = some (.tup xs)):ObjOk P w H' h' a o:=by
  induction o with
  | lst xs=>obtain ⟨z,its,n,r,e⟩:=x; exact ⟨z,its,n,r,k _ _ (.inl rfl) e⟩
  | tup xs=>obtain ⟨z,its,r,ob,e,c⟩:=x; exact ⟨z,its,r,ob,k _ _ (.inl rfl) e,c⟩
  | dK kvs=>obtain ⟨z,y,vs,r,ob,es,ep,e,c⟩:=x; exact ⟨z,y,vs,r,ob,es,ep,k _ _ (.inl rfl) e,c⟩
  | dT kvs =>
    obtain ⟨z,y,xs,r,ob,es,ep,e,c⟩:=x
    exact ⟨z,y,xs,Paired.mapP r fun p q z=>⟨z.1,ht _ _ z.2.1,z.2.2⟩,ob,es,ep,k _ _ (.inl rfl) e,c⟩
  | set S n=>obtain ⟨ob,es,ep,t,e,c⟩:=x; exact ⟨ob,es,ep,t,k _ _ (.inl rfl) e,c⟩
  | ins C dx fs =>
    obtain ⟨d,z,ne,e,mA,⟨od,es,ep,e2,c⟩,r⟩:=x
    exact ⟨ho _ d,z,ne,k _ _ (.inl rfl) e,mA,⟨od,es,ep,k _ _ (.inr d) e2,c⟩,r⟩
  | own y=>obtain ⟨ob,e⟩:=x; exact ⟨ob,k _ _ (.inl rfl) e⟩
  | xd fs=>obtain ⟨mA,⟨od,es,ep,e,c⟩,r⟩:=x; exact ⟨mA,⟨od,es,ep,k _ _ (.inl rfl) e,c⟩,r⟩
  | rng lo hi=>obtain ⟨t,u,v,e⟩:=x; exact ⟨t,u,v,k _ _ (.inl rfl) e⟩
  | frz ob u ih=>obtain ⟨e,q⟩:=x; exact ⟨k _ _ (.inl rfl) e,ih q⟩
  | tbl ps =>
    have e:h.get? a = some { cls:=.none,data:=.fields ps }:=x
    show h'.get? a = some { cls:=.none,data:=.fields ps }
    exact k a _ (.inl rfl) e
  | met f y =>
    have e:h.get? a = some (PySem.W.methodObj (.ref f) (.ref y)):=x
    show h'.get? a = some (PySem.W.methodObj (.ref f) (.ref y))
    exact k a _ (.inl rfl) e
  | ext φ=>obtain ⟨p,⟨o,e⟩,st⟩:=x; exact ⟨st _ _ p fun o q=>k _ _ (.inl rfl) q,⟨o,k _ _ (.inl rfl) e⟩,st⟩
theorem HOk.lt (x:HOk P w H h) (e:H a = some o):a < h.objs.size:=(x a o e).lt
theorem HOk.fresh (x:HOk P w H h) (e:h.objs.size ≤ a):H a = none:=by
  cases q:H a with
  | none=>rfl
  | some u=>exact absurd (Nat.lt_of_lt_of_le (x.lt q) e) (Nat.lt_irrefl _)
theorem HOk.kept (x:HOk P w H h) (k:∀ b u,h.get? b = some u → h'.get? b = some u):HOk P w H h':=fun a o e =>
  (x a o e).stay (fun b u _ q=>k b u q) (fun _ q=>q) fun _ _ q=>q
theorem HOk.laid (x:HOk P w H h) (k:∀ b u,h.get? b = some u → h'.get? b = some u) (hp:h.objs.size ≤ a) (new:ObjOk P w (upd H a o) h' a o):HOk P w (upd H a o) h':=fun b u e=>by
  have hn:=x.fresh hp
  by_cases hb:b = a
  · subst hb; rw [upd_same] at e; cases e; exact new
  · rw [upd_ne hb] at e
    exact (x b u e).stay (fun c v _ q=>k c v q) (fun c q=>by rw [upd_ne (ne_of_none q hn)]; exact q) fun c xs q=>by rw [upd_ne (ne_of_none q hn)]; exact q
end
def Rd (H:Hp) (a:Addr) (u:HO):Prop:=H a = some u ∨ ∃ o,H a = some (.frz o u)
theorem Rd.ok {P:Program} {w:World} {H:Hp} {h:Heap} {a:Addr} {u:HO} (r:Rd H a u) (x:HOk P w H h):ObjOk P w H h a u:=by
  rcases r with r | ⟨o,r⟩
  · exact x a u r
  · obtain ⟨_,q⟩:=x a _ r
    exact q
def Mut:Option HO → Prop
  | some (.lst _)=>True
  | some (.dK _)=>True
  | some (.dT _)=>True
  | some (.set _ _)=>True
  | some (.ins _ _ _)=>True
  | some (.ext _)=>True
  | _=>False
section
variable {P:Program} {w:World} {H:Hp} {h h':Heap} {x e:Addr} {o':HO}
theorem HOk.write (ok:HOk P w H h) (mu:Mut (H x)) (he:e = x ∨ H e = some (.own x)) (k:∀ b u,b ≠ e → h.get? b = some u → h'.get? b = some u) (heo:∃ u,h'.get? e = some u)
    (new:ObjOk P w (upd H x o') h' x o'):HOk P w (upd H x o') h':=fun b u q=>by
  have nown:∀ c y,H c = some (.own y) → c ≠ x:=fun c y r z=>by subst z; rw [r] at mu; exact mu
  have ntup:∀ c xs,H c = some (.tup xs) → c ≠ x:=fun c xs r z=>by subst z; rw [r] at mu; exact mu
  by_cases hb:b = x
  · subst hb; rw [upd_same] at q; cases q; exact new
  · rw [upd_ne hb] at q
    by_cases hbe:b = e
    · have q':H b = some (.own x):=by
        rcases he with z | z
        · exact absurd (hbe.trans z) hb
        · rw [hbe]; exact z
      rw [q] at q'; cases q'
      obtain ⟨v,hv⟩:=heo
      exact ⟨v,by rw [hbe]; exact hv⟩
    · refine (ok b u q).stay (fun c v hc r=>k c v ?_ r) (fun c r=>by rw [upd_ne (nown c b r)]; exact r) fun c xs r=>by rw [upd_ne (ntup c xs r)]; exact r
      rcases hc with rfl | hc
      · exact hbe
      · rintro rfl
        rcases he with z | z
        · exact nown c b hc z
        · rw [hc] at z; cases z; exact hb rfl
end
structure Un (fs ex:List Addr) (H H':Hp) (h h':Heap):Prop where
  keep:∀ b o,h.get? b = some o → H b = none → b ∉ fs → b ∉ ex → h'.get? b = some o
  slot:∀ b o,h.get? b = some o → H b = none → b ∈ fs → b ∉ ex → ∃ sl,h'.get? b = some { o with slots:=sl }
  free:∀ b o,h.get? b = some o → H b = none → b ∉ ex → H' b = none
  there:∀ b o,h.get? b = some o → b ∉ ex → ∃ o',h'.get? b = some o'
  tups:∀ b xs,H b = some (.tup xs) → H' b = some (.tup xs)
  frzs:∀ b o u,H b = some (.frz o u) → H' b = some (.frz o u)
  tbls:∀ b ps,H b = some (.tbl ps) → ∃ more,H' b = some (.tbl (ps ++ more))
section
variable {fs fs' ex ex':List Addr} {H H1 H2:Hp} {h h1 h2 h':Heap} {a x e:Addr} {o:HO}
theorem Un.any (u:Un fs ex H H1 h h1) {b:Addr} {ob:Obj} (q:h.get? b = some ob) (n:H b = none) (hx:b ∉ ex):∃ sl,h1.get? b = some { ob with slots:=sl }:=by
  by_cases hb:b ∈ fs
  · exact u.slot b ob q n hb hx
  · exact ⟨ob.slots,u.keep b ob q n hb hx⟩
theorem Un.kept (k:∀ b u,h.get? b = some u → h'.get? b = some u):Un fs ex H H h h' :=
  ⟨fun b ob q _ _ _=>k b ob q,fun b ob q _ _ _=>⟨ob.slots,k b ob q⟩,fun _ _ _ n _=>n,fun b ob q _=>⟨ob,k b ob q⟩,fun _ _ q=>q,fun _ _ _ q=>q,fun _ ps q=>⟨#[],by rw [q]; simp⟩⟩
theorem Un.refl:Un fs ex H H h h:=Un.kept fun _ _ q=>q
theorem Un.laid (k:∀ b u,h.get? b = some u → h'.get? b = some u) (hp:h.objs.size ≤ a) (hn:H a = none):Un fs ex H (upd H a o) h h' where
  keep:=fun b u q _ _ _=>k b u q
  slot:=fun b u q _ _ _=>⟨u.slots,k b u q⟩
  free:=fun b u q n _=>by rw [upd_ne (Nat.ne_of_lt (Nat.lt_of_lt_of_le (Heap.lt_size q) hp))]; exact n
  there:=fun b u q _=>⟨u,k b u q⟩
  tups:=fun b xs q=>by rw [upd_ne (ne_of_none q hn)]; exact q
  frzs:=fun b u xs q=>by rw [upd_ne (ne_of_none q hn)]; exact q
  tbls:=fun b ps q=>⟨#[],by rw [upd_ne (ne_of_none q hn),q]; simp⟩
theorem Un.write (mu:Mut (H x)) (he:e = x ∨ H e = some (.own x)) (k:∀ b u,b ≠ e → h.get? b = some u → h'.get? b = some u) (heo:∃ u,h'.get? e = some u):Un fs ex H (upd H x o) h h':=by
  have hx:∀ b,H b = none → b ≠ x:=fun b n z=>by subst z; rw [n] at mu; exact mu
  have hb:∀ b,H b = none → b ≠ e:=fun b n z=>by
    subst z
    rcases he with r | r
    · exact hx b n r
    · rw [n] at r; cases r
  have hm:∀ b u,H b = some u → ¬ Mut (some u) → b ≠ x:=fun b u q nm z=>by subst z; rw [q] at mu; exact nm mu
  refine ⟨fun b u q n _ _=>k b u (hb b n) q,fun b u q n _ _=>⟨u.slots,k b u (hb b n) q⟩,fun b u q n _=>by rw [upd_ne (hx b n)]; exact n,fun b u q _=>?_,
    fun b xs q=>by rw [upd_ne (hm b _ q fun z=>z)]; exact q,fun b u xs q=>by rw [upd_ne (hm b _ q fun z=>z)]; exact q,fun b ps q=>⟨#[],by rw [upd_ne (hm b _ q fun z=>z),q]; simp⟩⟩
  by_cases hbe:b = e
  · subst hbe; exact heo
  · exact ⟨u,k b u hbe q⟩
end
def trk (h:Heap) (H:Hp):List Addr:=(List.range h.objs.size).filter fun a=>(H a).isSome
def hidT (h:Heap) (H:Hp):Heap:=PySem.W.hideAll h (trk h H)
theorem hidT_size (h:Heap) (H:Hp):(hidT h H).objs.size = h.objs.size:=PySem.W.hideAll_size _ _
theorem hidT_get {h:Heap} {H:Hp} {b:Addr} {o:Obj} (e:h.get? b = some o) (n:H b = none):(hidT h H).get? b = some o :=
  PySem.W.hideAll_get _ e fun hm=>by
    have q:(H b).isSome = true:=(List.mem_filter.mp hm).2
    rw [n] at q; simp at q
theorem of_hidT {h:Heap} {H:Hp} {b:Addr} {o:Obj} (e:(hidT h H).get? b = some o):h.get? b = some o ∧ H b = none:=by
  have e':h.get? b = some o:=PySem.W.of_hideAll (trk h H) e
  refine ⟨e',?_⟩
  cases q:H b with
  | none=>rfl
  | some x =>
    have hm:b ∈ trk h H:=List.mem_filter.mpr ⟨List.mem_range.mpr (Heap.lt_size e'),by simp [q]⟩
    have z:(hidT h H).get? b = none:=PySem.W.hideAll_none (trk h H) hm
    rw [z] at e; cases e
def allNews (g h:Heap) (L:Addr):List (Addr × Obj):=(List.range h.objs.size).filterMap fun a=>if a = L ∨ (g.get? a).isSome = true then none else (h.get? a).map fun o=>(a,o)
theorem mem_allNews {g h:Heap} {L a:Addr} {o:Obj} (h1:a ≠ L) (h2:g.get? a = none) (h3:h.get? a = some o):(a,o) ∈ allNews g h L :=
  List.mem_filterMap.mpr ⟨a,List.mem_range.mpr (Heap.lt_size h3),by simp [h1,h2,h3]⟩
theorem of_mem_allNews {g h:Heap} {L:Addr} {p:Addr × Obj} (hp:p ∈ allNews g h L):p.1 ≠ L ∧ g.get? p.1 = none ∧ h.get? p.1 = some p.2:=by
  obtain ⟨b,_,e⟩:=List.mem_filterMap.mp hp
  split at e
  · cases e
  · rename_i hn
    cases q:h.get? b with
    | none=>rw [q] at e; simp at e
    | some u =>
      rw [q] at e
      simp only [Option.map_some,Option.some.injEq] at e
      subst e
      refine ⟨fun z=>hn (.inl z),?_,q⟩
      show g.get? b = none
      cases r:g.get? b with
      | none=>rfl
      | some v=>exact (hn (.inr (by simp [r]))).elim
def rest (g h:Heap) (L d:Addr):List (Addr × Obj):=(allNews g h L).filter fun p=>decide (p.1 ≠ d)
theorem news_all {g h:Heap} {L:Addr}:News g L h (allNews g h L):=fun p hp=>let ⟨a,b,c⟩:=of_mem_allNews hp; ⟨c,a,b⟩
end L2
namespace L2
open PySem PySem.Spec PyProof.Rows
structure Mod (K:PySem.W.Frag) (mg:Str → Option Value) (base:Heap):Prop where
  kin:K.In base
  glob:base.Ns mainGlobals mg
  blt:∃ mb,base.Ns builtinsNs mb ∧ ∀ x:Str,x ≠ "__name__" → mb x = bootBuiltins x
  nolimit:base.NoLimit
structure Cx where
  prog:Program
  w:World
  K:PySem.W.Frag
  mg:Str → Option Value
  base:Heap
  A:Around
  N:List Str
  s₀:Shared
  H₀:Hp
  env:Env
  outer:List Env
  stack:List Env
  ex:List Addr
  fn:Str → Bool
  calm:Bool
  pn:List (Addr × Obj)
  xe:Value → Shared → Prop
def frs (l:List Env):List Addr:=l.filterMap (·.frame)
abbrev Cx.fs (X:Cx):List Addr:=frs X.outer
def Vis (sc:Scope) (x:Str):Prop:=sc.names.lookup x = some .local ∨ sc.names.lookup x = some .cell ∨ sc.names.lookup x = some .free
def Loc (sc:Scope) (x:Str):Prop:=sc.names.lookup x = some .local ∨ sc.names.lookup x = some .cell
def Look (env:Env) (h:Heap) (m:Str → Option Value) (x:Str) (u:Value):Prop :=
  (env.kindOf x = some .local ∧ m x = some u) ∨ ((env.kindOf x = some .cell ∨ env.kindOf x = some .free) ∧ ∃ c,env.cells.lookup x = some c ∧ h.IsCell c (some u))
structure Cx.Ok (X:Cx):Prop where
  mod:Mod X.K X.mg X.base
  kind:X.env.scope.kind = .function
  glob:X.env.globals = mainGlobals
  blt:X.env.builtins = builtinsNs
  above:X.s₀.heap.objs.size ≤ X.env.locals
  inj:∀ x y c,X.env.cells.lookup x = some c → X.env.cells.lookup y = some c → x = y
  has:∀ x,(X.env.kindOf x = some .cell ∨ X.env.kindOf x = some .free) → ∃ c,X.env.cells.lookup x = some c
  cab:∀ x c,X.fn x = true → X.env.cells.lookup x = some c → X.s₀.heap.objs.size ≤ c
  hd:X.calm = true → X.A.handled = none
  frames:X.A.frames = some X.stack
  stk:X.stack = X.outer ∨ (X.stack = X.env :: X.outer ∧ X.env.frame = some X.env.locals)
  exf:∀ b ∈ X.ex,b ≠ X.env.locals ∧ ∀ x c,X.env.cells.lookup x = some c → c ≠ b
  bs:∀ b o,X.base.get? b = some o → X.s₀.heap.get? b = some o ∧ X.H₀ b = none
  bsz:X.base.objs.size ≤ X.s₀.heap.objs.size
  noex:∀ b o,X.base.get? b = some o → b ∉ X.ex
  exfs:∀ b ∈ X.ex,b ∉ X.fs
  funs:X.s₀.heap.FunFrames X.base X.outer
  frf:∀ b ∈ X.fs,X.H₀ b = none
structure Inv (X:Cx) (pins:List (Addr × Obj)) (σ:List (Option V)) (H:Hp) (s:Shared):Prop where
  ok:X.Ok
  os:s.os = X.s₀.os
  bare:AllBare s.gens
  base:Un X.fs X.ex X.H₀ H X.s₀.heap s.heap
  loc:∃ m,s.heap.Ns X.env.locals m ∧ ∀ (i:Nat) (x:Str) (v:V),X.N[i]? = some x → σ[i]? = some (some v) → Vis X.env.scope x → ∃ u,RelV v u ∧ Look X.env s.heap m x u
  cell:∀ x c,X.env.cells.lookup x = some c → ∃ v,s.heap.IsCell c v
  free:H X.env.locals = none
  freeC:∀ x c,X.env.cells.lookup x = some c → H c = none
  pin:∀ p ∈ X.pn ++ pins,s.heap.get? p.1 = some p.2 ∧ H p.1 = none ∧ p.1 ≠ X.env.locals ∧ p.1 ∉ X.fs ∧ ∀ v,p.2.data ≠ .cell v
  hok:HOk X.prog X.w H s.heap
  len:σ.length = X.N.length
section
variable {X:Cx} {pins:List (Addr × Obj)} {σ:List (Option V)} {H H':Hp} {s:Shared} {h':Heap}
theorem Cx.Ok.nofr (ok:X.Ok) {b:Addr} {o:Obj} (e:X.base.get? b = some o):b ∉ X.fs:=fun hb=>by
  have:=(ok.funs.mem hb).1
  rw [e] at this; cases this
theorem Inv.bs (I:Inv X pins σ H s):∀ b o,X.base.get? b = some o → s.heap.get? b = some o ∧ H b = none:=fun b o e =>
  ⟨I.base.keep b o (I.ok.bs b o e).1 (I.ok.bs b o e).2 (I.ok.nofr e) (I.ok.noex b o e),I.base.free b o (I.ok.bs b o e).1 (I.ok.bs b o e).2 (I.ok.noex b o e)⟩
theorem Inv.bk (I:Inv X pins σ H s):∀ b o,X.base.get? b = some o → s.heap.get? b = some o:=fun b o e=>(I.bs b o e).1
theorem Inv.mod (I:Inv X pins σ H s):Mod X.K X.mg X.base:=I.ok.mod
theorem Inv.kIn (I:Inv X pins σ H s):X.K.In s.heap:=I.ok.mod.kin.keeps I.bk
theorem Inv.nolimit (I:Inv X pins σ H s):s.heap.NoLimit:=I.ok.mod.nolimit.keeps I.bk
theorem Inv.fr (I:Inv X pins σ H s):∃ m,Fr X.base X.env.locals s.heap m :=
  let ⟨m,hn,_⟩:=I.loc
  ⟨m,hn,I.bk,Nat.le_trans I.ok.bsz I.ok.above⟩
theorem Inv.lt (I:Inv X pins σ H s):X.env.locals < s.heap.objs.size:=let ⟨_,hn,_⟩:=I.loc; hn.lt
theorem Inv.sz (I:Inv X pins σ H s):X.s₀.heap.objs.size ≤ s.heap.objs.size:=Nat.le_trans I.ok.above (Nat.le_of_lt I.lt)
theorem Inv.nofs (I:Inv X pins σ H s) {a:Addr} (h:s.heap.objs.size ≤ a):a ∉ X.fs:=fun hb=>by
  obtain ⟨_,o,ho,_⟩:=I.ok.funs.mem hb
  exact absurd (Nat.lt_of_lt_of_le (Heap.lt_size ho) (Nat.le_trans I.sz h)) (Nat.lt_irrefl _)
theorem Inv.cne (I:Inv X pins σ H s):∀ x c,X.env.cells.lookup x = some c → c ≠ X.env.locals:=fun x c e z=>by
  obtain ⟨v,o,ho,hd⟩:=I.cell x c e
  obtain ⟨m,⟨o',es,ep,ho',hd',_⟩,_⟩:=I.loc
  rw [z,ho'] at ho; cases ho; rw [hd'] at hd; cases hd
theorem Inv.funs (I:Inv X pins σ H s):s.heap.FunFrames X.base X.outer:=by
  have all:∀ (l:List Env),(∀ b ∈ frs l,b ∈ X.fs) → X.s₀.heap.FunFrames X.base l → s.heap.FunFrames X.base l:=by
    intro l
    induction l with
    | nil=>intro _ _; trivial
    | cons env r ih =>
      intro hs hl
      obtain ⟨hk,⟨L,o,hf,hn,ho,hd⟩,hr⟩:=hl
      have hL:L ∈ X.fs:=hs L (by unfold frs; rw [List.filterMap_cons,hf]; exact List.mem_cons_self)
      obtain ⟨sl,e⟩:=I.base.slot L o ho (I.ok.frf L hL) hL fun z=>I.ok.exfs L z hL
      exact ⟨hk,⟨L,_,hf,hn,e,hd⟩,ih (fun b hb=>hs b (by unfold frs; rw [List.filterMap_cons,hf]; exact List.mem_cons_of_mem _ hb)) hr⟩
  exact all X.outer (fun _ hb=>hb) I.ok.funs
theorem Inv.stack (I:Inv X pins σ H s):s.heap.FunFrames X.base X.stack:=by
  rcases I.ok.stk with e | ⟨e,hf⟩
  · rw [e]; exact I.funs
  · rw [e]
    obtain ⟨m,hn,_⟩:=I.loc
    refine .cons (by rw [I.ok.kind]; decide) hf hn ?_ I.funs
    exact Heap.get?_none_of_le (Nat.le_trans I.ok.bsz I.ok.above)
theorem Inv.stkSub (I:Inv X pins σ H s):∀ b ∈ frs X.stack,b ∈ X.env.locals :: X.fs:=fun b hb=>by
  rcases I.ok.stk with e | ⟨e,hf⟩
  · rw [e] at hb; exact List.mem_cons_of_mem _ hb
  · rw [e] at hb
    unfold frs at hb
    rw [List.filterMap_cons,hf] at hb
    exact hb
theorem Inv.stkFree (I:Inv X pins σ H s):∀ b ∈ frs X.stack,H b = none:=fun b hb=>by
  rcases List.mem_cons.mp (I.stkSub b hb) with e | hb
  · rw [e]; exact I.free
  · obtain ⟨_,o,ho,_⟩:=I.ok.funs.mem hb
    exact I.base.free b o ho (I.ok.frf b hb) fun z=>I.ok.exfs b z hb
theorem Inv.step {g':Array GenState} {t':Nat} {d':Drawn} {ch:List Addr} (I:Inv X pins σ H s)
    (hch:∀ b ∈ ch,(b ∈ X.ex ∨ X.s₀.heap.objs.size ≤ b) ∧ b ≠ X.env.locals ∧ (∀ x c,X.env.cells.lookup x = some c → c ≠ b) ∧ ∀ p ∈ X.pn ++ pins,p.1 ≠ b)
    (keep:∀ b o,b ≠ X.env.locals → b ∉ X.fs → b ∉ ch → s.heap.get? b = some o → H b = none → h'.get? b = some o)
    (slot:∀ b o,b ≠ X.env.locals → b ∈ X.fs → b ∉ ch → s.heap.get? b = some o → H b = none → ∃ sl,h'.get? b = some { o with slots:=sl }) (free:∀ b o,b ∉ ch → s.heap.get? b = some o → H b = none → H' b = none)
    (there:∀ b o,b ∉ ch → s.heap.get? b = some o → ∃ o',h'.get? b = some o')
    (tups:∀ b xs,H b = some (.tup xs) → H' b = some (.tup xs)) (frzs:∀ b o u,H b = some (.frz o u) → H' b = some (.frz o u)) (tbls:∀ b ps,H b = some (.tbl ps) → ∃ more,H' b = some (.tbl (ps ++ more)))
    (ns:∀ m,s.heap.Ns X.env.locals m → h'.Ns X.env.locals m) (hok:HOk X.prog X.w H' h') (hg:AllBare g') :
    Inv X pins σ H' { s with heap:=h',gens:=g',drawn:=d',toks:=t' }:=by
  have neL:∀ b o,X.s₀.heap.get? b = some o → b ≠ X.env.locals:=fun b o e=>Nat.ne_of_lt (Nat.lt_of_lt_of_le (Heap.lt_size e) I.ok.above)
  have neC:∀ b o,X.s₀.heap.get? b = some o → b ∉ X.ex → b ∉ ch:=fun b o e hx hb=>by
    rcases (hch b hb).1 with z | z
    · exact hx z
    · exact absurd (Nat.lt_of_lt_of_le (Heap.lt_size e) z) (Nat.lt_irrefl _)
  have cellK:∀ x c,X.env.cells.lookup x = some c → ∀ v,s.heap.IsCell c v → h'.IsCell c v:=fun x c e v ⟨o,ho,hd⟩=>by
    have nch:c ∉ ch:=fun z=>(hch c z).2.2.1 x c e rfl
    by_cases hc:c ∈ X.fs
    · obtain ⟨sl,q⟩:=slot c o (I.cne x c e) hc nch ho (I.freeC x c e)
      exact ⟨_,q,hd⟩
    · exact ⟨o,keep c o (I.cne x c e) hc nch ho (I.freeC x c e),hd⟩
  refine ⟨I.ok,I.os,hg,⟨fun b o e n hb hx=>?_,fun b o e n hb hx=>?_,fun b o e n hx=>?_,fun b o e hx=>?_,fun b xs e=>tups b xs (I.base.tups b xs e),fun b o xs e=>frzs b o xs (I.base.frzs b o xs e),fun b ps e=>?_⟩,?_,fun x c e=>?_,?_,fun x c e=>?_,fun p hp=>?_,hok,I.len⟩
  · exact keep b o (neL b o e) hb (neC b o e hx) (I.base.keep b o e n hb hx) (I.base.free b o e n hx)
  · obtain ⟨sl,e1⟩:=I.base.slot b o e n hb hx
    obtain ⟨sl',e2⟩:=slot b _ (neL b o e) hb (neC b o e hx) e1 (I.base.free b o e n hx)
    exact ⟨sl',e2⟩
  · obtain ⟨o',e1⟩:=I.base.there b o e hx
    exact free b o' (neC b o e hx) e1 (I.base.free b o e n hx)
  · obtain ⟨o',e1⟩:=I.base.there b o e hx
    exact there b o' (neC b o e hx) e1
  · obtain ⟨m1,e1⟩:=I.base.tbls b ps e
    obtain ⟨m2,e2⟩:=tbls b _ e1
    exact ⟨m1 ++ m2,by rw [e2,Array.append_assoc]⟩
  · obtain ⟨m,hn,hl⟩:=I.loc
    refine ⟨m,ns m hn,fun i x v e1 e2 e3=>?_⟩
    obtain ⟨u,r,l⟩:=hl i x v e1 e2 e3
    refine ⟨u,r,?_⟩
    rcases l with l | ⟨k,c,e,z⟩
    · exact .inl l
    · exact .inr ⟨k,c,e,cellK x c e _ z⟩
  · obtain ⟨v,z⟩:=I.cell x c e
    exact ⟨v,cellK x c e v z⟩
  · obtain ⟨m,⟨o,_,_,ho,_⟩,_⟩:=I.loc
    exact free _ o (fun z=>(hch _ z).2.1 rfl) ho I.free
  · obtain ⟨v,o,ho,hd⟩:=I.cell x c e
    exact free c o (fun z=>(hch c z).2.2.1 x c e rfl) ho (I.freeC x c e)
  · obtain ⟨e,n,ne,nf,d⟩:=I.pin p hp
    have nch:p.1 ∉ ch:=fun z=>(hch p.1 z).2.2.2 p hp rfl
    exact ⟨keep p.1 p.2 ne nf nch e n,free p.1 p.2 nch e n,ne,nf,d⟩
theorem Inv.un {t':Nat} (I:Inv X pins σ H s) (u:Un X.fs [] H H' s.heap h') (hok:HOk X.prog X.w H' h'):Inv X pins σ H' { s with heap:=h',toks:=t' }:=by
  obtain ⟨m,⟨o,es,ep,ho,r⟩,_⟩:=id I.loc
  obtain ⟨sl,hL⟩:=u.any ho I.free (by simp)
  exact I.step (g':=s.gens) (d':=s.drawn) (ch:=[]) (fun _ z=>nomatch z) (fun b o _ hb _ e n=>u.keep b o e n hb (by simp)) (fun b o _ hb _ e n=>u.slot b o e n hb (by simp)) (fun b o _ e n=>u.free b o e n (by simp)) (fun b o _ e=>u.there b o e (by simp)) u.tups u.frzs u.tbls (fun m' hm=>by
    obtain ⟨o',es',ep',ho',r'⟩:=hm
    rw [ho] at ho'; cases ho'
    exact ⟨_,es',ep',hL,r'⟩) hok I.bare
theorem Inv.call {g':Array GenState} {t':Nat} {d':Drawn} {ch:List Addr} (I:Inv X pins σ H s) (u:Un (frs X.stack) ch H H' s.heap h') (hok:HOk X.prog X.w H' h') (hg:AllBare g')
    (hch:∀ b ∈ ch,(b ∈ X.ex ∨ X.s₀.heap.objs.size ≤ b) ∧ b ≠ X.env.locals ∧ (∀ x c,X.env.cells.lookup x = some c → c ≠ b) ∧ ∀ p ∈ X.pn ++ pins,p.1 ≠ b) :
    Inv X pins σ H' { s with heap:=h',gens:=g',drawn:=d',toks:=t' }:=by
  obtain ⟨m,⟨o,es,ep,ho,r⟩,_⟩:=id I.loc
  obtain ⟨sl,hL⟩:=u.any ho I.free fun z=>(hch _ z).2.1 rfl
  exact I.step (ch:=ch) hch (fun b o hL hb hc e n=>u.keep b o e n (fun z=>(List.mem_cons.mp (I.stkSub b z)).elim hL hb) hc) (fun b o _ _ hc e n=>u.any e n hc) (fun b o hc e n=>u.free b o e n hc) (fun b o hc e=>u.there b o e hc) u.tups u.frzs u.tbls (fun m' hm=>by
    obtain ⟨o',es',ep',ho',r'⟩:=hm
    rw [ho] at ho'; cases ho'
    exact ⟨_,es',ep',hL,r'⟩) hok hg
theorem Inv.turned {t':Nat} {it:Addr} (I:Inv X pins σ H s) (k:∀ b o,b ≠ it → s.heap.get? b = some o → h'.get? b = some o) (hn:H it = none) (hL:it ≠ X.env.locals)
    (h1:it ∈ X.ex ∨ X.s₀.heap.objs.size ≤ it) (h2:∀ x c,X.env.cells.lookup x = some c → c ≠ it) (h3:∀ p ∈ X.pn ++ pins,p.1 ≠ it):Inv X pins σ H { s with heap:=h',toks:=t' }:=by
  have nit:∀ b u,H b = some u → b ≠ it:=fun b u e z=>by rw [z,hn] at e; cases e
  refine I.step (g':=s.gens) (d':=s.drawn) (ch:=[it]) (fun b hb=>?_) (fun b o _ _ hc e _=>k b o (fun z=>hc (by simp [z])) e) (fun b o _ _ hc e _=>⟨o.slots,k b o (fun z=>hc (by simp [z])) e⟩) (fun _ _ _ _ n=>n)
    (fun b o hc e=>⟨o,k b o (fun z=>hc (by simp [z])) e⟩) (fun _ _ e=>e) (fun _ _ _ e=>e) (fun b ps e=>⟨#[],by rw [e]; simp⟩) (fun m hm=>?_) (fun b u e=>?_) I.bare
  · have e:b = it:=by simpa using hb
    subst e
    exact ⟨h1,hL,h2,h3⟩
  · obtain ⟨o,es,ep,ho,r⟩:=hm
    exact ⟨o,es,ep,k _ o (Ne.symm hL) ho,r⟩
  · refine (I.hok b u e).stay (fun c v hc q=>k c v ?_ q) (fun _ q=>q) fun _ _ q=>q
    rcases hc with z | z
    · rw [z]; exact nit b u e
    · exact nit c _ z
theorem Inv.tok (I:Inv X pins σ H s) (t:Nat):Inv X pins σ H { s with toks:=t }:=I.un (h':=s.heap) (t':=t) Un.refl I.hok
theorem Inv.kept {t':Nat} (I:Inv X pins σ H s) (k:∀ b u,s.heap.get? b = some u → h'.get? b = some u):Inv X pins σ H { s with heap:=h',toks:=t' }:=I.un (Un.kept k) (I.hok.kept k)
theorem Inv.laid {a:Addr} {o:HO} {t':Nat} (I:Inv X pins σ H s) (k:∀ b u,s.heap.get? b = some u → h'.get? b = some u) (hp:s.heap.objs.size ≤ a) (new:ObjOk X.prog X.w (upd H a o) h' a o) :
    Inv X pins σ (upd H a o) { s with heap:=h',toks:=t' }:=I.un (Un.laid k hp (I.hok.fresh hp)) (I.hok.laid k hp new)
theorem Inv.write {x e:Addr} {o:HO} {t':Nat} (I:Inv X pins σ H s) (mu:Mut (H x)) (he:e = x ∨ H e = some (.own x)) (k:∀ b u,b ≠ e → s.heap.get? b = some u → h'.get? b = some u) (heo:∃ u,h'.get? e = some u)
    (new:ObjOk X.prog X.w (upd H x o) h' x o):Inv X pins σ (upd H x o) { s with heap:=h',toks:=t' }:=I.un (Un.write mu he k heo) (I.hok.write mu he k heo new)
theorem Inv.weak {σ':List (Option V)} (I:Inv X pins σ H s) (hl:σ'.length = σ.length) (w:∀ (i:Nat) v,σ'[i]? = some (some v) → σ[i]? = some (some v)):Inv X pins σ' H s :=
  ⟨I.ok,I.os,I.bare,I.base,let ⟨m,hn,hl'⟩:=I.loc; ⟨m,hn,fun i x v e1 e2 e3=>hl' i x v e1 (w i v e2) e3⟩,I.cell,I.free,I.freeC,I.pin,I.hok,hl.trans I.len⟩
theorem Inv.pins_of {pins':List (Addr × Obj)} (I:Inv X pins σ H s) (h:∀ p ∈ pins',s.heap.get? p.1 = some p.2 ∧ H p.1 = none ∧ p.1 ≠ X.env.locals ∧ p.1 ∉ X.fs ∧ ∀ v,p.2.data ≠ .cell v):Inv X pins' σ H s :=
  ⟨I.ok,I.os,I.bare,I.base,I.loc,I.cell,I.free,I.freeC,fun p hp=>(List.mem_append.mp hp).elim (fun z=>I.pin p (List.mem_append_left _ z)) (h p),I.hok,I.len⟩
theorem nodup_ix {N:List Str} (hN:N.Nodup) {i j:Nat} {x:Str} (a:N[i]? = some x) (b:N[j]? = some x):i = j:=by
  obtain ⟨h1,e1⟩:=List.getElem?_eq_some_iff.mp a
  obtain ⟨h2,e2⟩:=List.getElem?_eq_some_iff.mp b
  exact (List.getElem_inj hN).mp (e1.trans e2.symm)
theorem store_ok2 {M:Model} {A:Around} {E:Value → Shared → Prop} {i:Nat} {x:Str} {v:V} {u:Value} {Q:Unit → Shared → Prop} (I:Inv X pins σ H s) (hN:X.N.Nodup) (hi:X.N[i]? = some x) (hx:Loc X.env.scope x) (r:RelV v u)
    (h:∀ s',Inv X pins (σ.set i (some v)) H s' → (∃ a,Heap.SameBut a s.heap s'.heap ∧ (a = X.env.locals ∨ X.env.cells.lookup x = some a)) → Q () s') (hf:X.fn x = true ∨ X.env.scope.names.lookup x = some .local:=by first | exact .inl rfl | exact .inr rfl | assumption):wpAny M A (storeName X.env x u) Q E s:=by
  obtain ⟨m,hn,hl⟩:=id I.loc
  have hcls:(X.env.scope.kind == .class || (X.env.scope.kind == .module && X.env.locals != X.env.globals)) = false:=by rw [I.ok.kind]; rfl
  have hiσ:i < σ.length:=by rw [I.len]; exact (List.getElem?_eq_some_iff.mp hi).1
  have cne:=I.cne
  have tracked:∀ {a:Addr} {h':Heap},(∃ o,s.heap.get? a = some o ∧ H a = none) → Heap.SameBut a s.heap h' → HOk X.prog X.w H h':=fun {a h'} ha hs b ob e=>by
    obtain ⟨_,_,hfree⟩:=ha
    refine (I.hok b ob e).stay (fun c w' hc q=>(hs.2 c ?_).trans q) (fun _ q=>q) fun _ _ q=>q
    rintro rfl
    rcases hc with rfl | hc
    · rw [hfree] at e; cases e
    · rw [hfree] at hc; cases hc
  rcases hx with hk | hk
  · refine wpAny_storeName_local hk hn (fun h' hn' hs=>?_) hcls
    obtain ⟨oL,_,_,hoL,_⟩:=id hn
    refine h _ ⟨I.ok,I.os,I.bare,⟨fun b o e n hb hx=>?_,fun b o e n hb hx=>?_,I.base.free,fun b o e hx=>?_,I.base.tups,I.base.frzs,I.base.tbls⟩,⟨_,hn',fun j y v' e1 e2 e3=>?_⟩,fun y c e=>?_,I.free,I.freeC,fun p hp=>?_,tracked ⟨oL,hoL,I.free⟩ hs,by simpa using I.len⟩ ⟨_,hs,.inl rfl⟩
    · exact (hs.2 b (Nat.ne_of_lt (Nat.lt_of_lt_of_le (Heap.lt_size e) I.ok.above))).trans (I.base.keep b o e n hb hx)
    · obtain ⟨sl,e1⟩:=I.base.slot b o e n hb hx
      exact ⟨sl,(hs.2 b (Nat.ne_of_lt (Nat.lt_of_lt_of_le (Heap.lt_size e) I.ok.above))).trans e1⟩
    · obtain ⟨o',e1⟩:=I.base.there b o e hx
      exact ⟨o',(hs.2 b (Nat.ne_of_lt (Nat.lt_of_lt_of_le (Heap.lt_size e) I.ok.above))).trans e1⟩
    · by_cases hj:j = i
      · subst hj
        rw [hi] at e1; cases e1
        rw [List.getElem?_set_self hiσ] at e2
        cases e2
        exact ⟨u,r,.inl ⟨hk,by simp⟩⟩
      · rw [List.getElem?_set_ne (Ne.symm hj)] at e2
        obtain ⟨u',r',q⟩:=hl j y v' e1 e2 e3
        refine ⟨u',r',?_⟩
        rcases q with ⟨k,e⟩ | ⟨k,c,e,z⟩
        · refine .inl ⟨k,?_⟩
          have:y ≠ x:=fun e=>hj (nodup_ix hN e1 (e ▸ hi))
          simp [this,e]
        · exact .inr ⟨k,c,e,z.sameBut hs (cne y c e)⟩
    · obtain ⟨w',z⟩:=I.cell y c e
      exact ⟨w',z.sameBut hs (cne y c e)⟩
    · obtain ⟨e,n,ne,nf,d⟩:=I.pin p hp
      exact ⟨(hs.2 p.1 ne).trans e,n,ne,nf,d⟩
  · have hfn:X.fn x = true:=by
      rcases hf with z | z
      · exact z
      · rw [z] at hk; cases hk
    obtain ⟨c,hc⟩:=I.ok.has x (.inl hk)
    obtain ⟨w',z⟩:=I.cell x c hc
    refine wpAny_storeName_cell I.ok.kind hk hc z (fun h' hc' hs=>?_)
    obtain ⟨oc,hoc,hocd⟩:=id z
    refine h { s with heap:=h' } ⟨I.ok,I.os,I.bare,⟨fun b o e n hb hx=>?_,fun b o e n hb hx=>?_,I.base.free,fun b o e hx=>?_,I.base.tups,I.base.frzs,I.base.tbls⟩,⟨m,hn.sameBut hs (Ne.symm (cne x c hc)),fun j y v' e1 e2 e3=>?_⟩,fun y c' e=>?_,I.free,I.freeC,fun p hp=>?_,tracked ⟨oc,hoc,I.freeC x c hc⟩ hs,by simpa using I.len⟩ ⟨c,hs,.inr hc⟩
    · exact (hs.2 b (Nat.ne_of_lt (Nat.lt_of_lt_of_le (Heap.lt_size e) (I.ok.cab x c hfn hc)))).trans (I.base.keep b o e n hb hx)
    · obtain ⟨sl,e1⟩:=I.base.slot b o e n hb hx
      exact ⟨sl,(hs.2 b (Nat.ne_of_lt (Nat.lt_of_lt_of_le (Heap.lt_size e) (I.ok.cab x c hfn hc)))).trans e1⟩
    · obtain ⟨o',e1⟩:=I.base.there b o e hx
      exact ⟨o',(hs.2 b (Nat.ne_of_lt (Nat.lt_of_lt_of_le (Heap.lt_size e) (I.ok.cab x c hfn hc)))).trans e1⟩
    · by_cases hj:j = i
      · subst hj
        rw [hi] at e1; cases e1
        rw [List.getElem?_set_self hiσ] at e2
        cases e2
        exact ⟨u,r,.inr ⟨.inl hk,c,hc,hc'⟩⟩
      · rw [List.getElem?_set_ne (Ne.symm hj)] at e2
        obtain ⟨u',r',q⟩:=hl j y v' e1 e2 e3
        refine ⟨u',r',?_⟩
        rcases q with q | ⟨k,c',e,z'⟩
        · exact .inl q
        · refine .inr ⟨k,c',e,z'.sameBut hs ?_⟩
          rintro rfl
          exact hj (nodup_ix hN e1 (I.ok.inj _ _ _ e hc ▸ hi))
    · by_cases hcc:c' = c
      · subst hcc; exact ⟨_,hc'⟩
      · obtain ⟨w2,z2⟩:=I.cell y c' e
        exact ⟨w2,z2.sameBut hs hcc⟩
    · obtain ⟨e,n,ne,nf,d⟩:=I.pin p hp
      refine ⟨(hs.2 p.1 ?_).trans e,n,ne,nf,d⟩
      intro q
      rw [q,hoc] at e
      have q':oc = p.2:=Option.some.inj e
      exact d w' (by rw [← q']; exact hocd)
theorem store_ok {M:Model} {A:Around} {E:Value → Shared → Prop} {i:Nat} {x:Str} {v:V} {u:Value} {Q:Unit → Shared → Prop} (I:Inv X pins σ H s) (hN:X.N.Nodup) (hi:X.N[i]? = some x) (hx:Loc X.env.scope x) (r:RelV v u)
    (h:∀ s',Inv X pins (σ.set i (some v)) H s' → Q () s') (hf:X.fn x = true ∨ X.env.scope.names.lookup x = some .local:=by first | exact .inl rfl | exact .inr rfl | assumption):wpAny M A (storeName X.env x u) Q E s :=
  store_ok2 I hN hi hx r (fun s' I' _=>h s' I') hf
theorem Inv.call' {s':Shared} {ch:List Addr} (I:Inv X pins σ H s) (ho:s'.os = s.os) (u:Un (frs X.stack) ch H H' s.heap s'.heap) (hok:HOk X.prog X.w H' s'.heap) (hg:AllBare s'.gens)
    (hch:∀ b ∈ ch,(b ∈ X.ex ∨ X.s₀.heap.objs.size ≤ b) ∧ b ≠ X.env.locals ∧ (∀ x c,X.env.cells.lookup x = some c → c ≠ b) ∧ ∀ p ∈ X.pn ++ pins,p.1 ≠ b):Inv X pins σ H' s':=by
  obtain ⟨h',g',d',t',o'⟩:=s'
  have e:o' = s.os:=ho
  subst e
  exact I.call (g':=g') (t':=t') (d':=d') u hok hg hch
end
abbrev XK:=Value → Option Addr → Hp → Prop
abbrev St:=List (Option V)
abbrev VK:=V → Hp → Prop
abbrev TE:=St → Hp → VK → Prop
abbrev TT:=St → Hp → (Bool → Hp → Prop) → Prop
abbrev TA:=St → Hp → (List V → Hp → Prop) → Prop
structure Ends where
  nx:St → Hp → Prop
  rt:VK
  bk:St → Hp → Prop:=fun _ _=>False
  ct:St → Hp → Prop:=fun _ _=>False
abbrev TS:=Ends → St → Hp → Prop
inductive EP (X:Cx) (pins:List (Addr × Obj)) (σ:St) (Q:VK) (u:Value) (s':Shared):Prop
  | mk (v:V) (H':Hp) (h1_:Inv X pins σ H' s') (h2_:RelV v u) (h3_:Q v H'):EP X pins σ Q u s'
inductive TP (X:Cx) (pins:List (Addr × Obj)) (σ:St) (Q:Bool → Hp → Prop) (b:Bool) (s':Shared):Prop
  | mk (H':Hp) (h1_:Inv X pins σ H' s') (h2_:Q b H'):TP X pins σ Q b s'
inductive AP (X:Cx) (pins:List (Addr × Obj)) (σ:St) (Q:List V → Hp → Prop) (us:List Value) (s':Shared):Prop
  | mk (vs:List V) (H':Hp) (h1_:Inv X pins σ H' s') (h2_:Vals vs us) (h3_:Q vs H'):AP X pins σ Q us s'
inductive IP (X:Cx) (pins:List (Addr × Obj)) (k:St → Hp → Prop) (s':Shared):Prop
  | mk (σ':St) (H':Hp) (h1_:Inv X pins σ' H' s') (h2_:k σ' H'):IP X pins k s'
inductive JP (X:Cx) (pins:List (Addr × Obj)) (k:VK) (u:Value) (s':Shared):Prop
  | mk (v:V) (σ':St) (H':Hp) (h1_:Inv X pins σ' H' s') (h2_:RelV v u) (h3_:k v H'):JP X pins k u s'
def SP (X:Cx) (pins:List (Addr × Obj)) (D:Ends) (f:Flow) (s':Shared):Prop :=
  match f with
  | .next=>IP X pins D.nx s'
  | .brk=>IP X pins D.bk s'
  | .cont=>IP X pins D.ct s'
  | .ret u=>JP X pins D.rt u s'
def PE (X:Cx) (e:Expr) (t:TE):Prop :=
  ∀ (pins:List (Addr × Obj)) (s:Shared) (σ:St) (H:Hp) (Q:VK),Inv X pins σ H s → t σ H Q → wpAny (model X.prog X.w) X.A (eval e X.env) (EP X pins σ Q) X.xe s
def PT (X:Cx) (e:Expr) (t:TT):Prop :=
  ∀ (pins:List (Addr × Obj)) (s:Shared) (σ:St) (H:Hp) (Q:Bool → Hp → Prop),Inv X pins σ H s → t σ H Q → wpAny (model X.prog X.w) X.A (isTrue e X.env (eval e X.env)) (TP X pins σ Q) X.xe s
def PW (X:Cx) (e:Expr) (t:TT):Prop :=
  ∀ (whole:Sem Value) (pins:List (Addr × Obj)) (s:Shared) (σ:St) (H:Hp) (Q:Bool → Hp → Prop),Inv X pins σ H s → t σ H Q → wpAny (model X.prog X.w) X.A (isTrue e X.env whole) (TP X pins σ Q) X.xe s
theorem PW.pt {X:Cx} {e:Expr} {t:TT} (h:PW X e t):PT X e t:=h _
def PA (X:Cx) (es:List Expr) (t:TA):Prop :=
  ∀ (pos:Pos) (pins:List (Addr × Obj)) (s:Shared) (σ:St) (H:Hp) (Q:List V → Hp → Prop),Inv X pins σ H s → t σ H Q → wpAny (model X.prog X.w) X.A (spliced (backTo pos (starEach es X.env))) (AP X pins σ Q) X.xe s
def PS (X:Cx) (st:Stmt) (t:TS):Prop :=
  ∀ (pins:List (Addr × Obj)) (s:Shared) (σ:St) (H:Hp) (D:Ends),Inv X pins σ H s → t D σ H → wpAny (model X.prog X.w) X.A (exec st X.env) (SP X pins D) X.xe s
def PSs (X:Cx) (st:List Stmt) (t:TS):Prop :=
  ∀ (pins:List (Addr × Obj)) (s:Shared) (σ:St) (H:Hp) (D:Ends),Inv X pins σ H s → t D σ H → wpAny (model X.prog X.w) X.A (execs st X.env) (SP X pins D) X.xe s
theorem thn {α:Type} {t:Sem α} {Q Q':α → Shared → Prop} {M:Model} {A:Around} {E:Value → Shared → Prop} {s:Shared} (h:wpAny M A t Q E s) (hQ:∀ a s,Q a s → Q' a s):wpAny M A t Q' E s:=wpAny_mono h hQ fun _ _ x=>x
end L2
namespace L2
open PySem PySem.Spec PyProof.Rows
section
variable {X:Cx}
theorem bin {a b:Expr} {ta tb:TE} (ha:PE X a ta) (hb:PE X b tb) {pins:List (Addr × Obj)} {s:Shared} {σ:St} {H:Hp} {R:V → V → Hp → Prop} (I:Inv X pins σ H s) (h:ta σ H fun x H1=>tb σ H1 fun y H2=>R x y H2)
    {α:Type} {Q:α → Shared → Prop} {f:Value → Value → Sem α}
    (hf:∀ v u s2 x y H2,Inv X pins σ H2 s2 → RelV x v → RelV y u → R x y H2 → wpAny (model X.prog X.w) X.A (f v u) Q X.xe s2) :
    wpAny (model X.prog X.w) X.A (eval a X.env) (fun v s₁=>wpAny (model X.prog X.w) X.A (eval b X.env) (fun u s₂=>wpAny (model X.prog X.w) X.A (f v u) Q X.xe s₂) X.xe s₁) X.xe s:=by
  refine thn (ha pins s σ H _ I h) fun v s1 ⟨x,H1,I1,r1,q1⟩=>?_
  refine thn (hb pins s1 σ H1 _ I1 q1) fun u s2 ⟨y,H2,I2,r2,q2⟩=>?_
  exact hf v u s2 x y H2 I2 r1 r2 q2
inductive tVar (i:Nat) (σ:St) (H:Hp) (Q:VK):Prop
  | mk (v:_) (h1_:σ[i]? = some (some v)) (h2_:Q v H):tVar i σ H Q
def tC (v:V):TE:=fun _ H Q=>Q v H
theorem pe_var {i:Nat} {x:Str} {pos:Pos} (hN:X.N[i]? = some x) (hv:Vis X.env.scope x) (hd:(x == ("__debug__":Str)) = false:=by decide) (hcd:(x == ("__classdict__":Str)) = false:=by decide):PE X (.Name x pos) (tVar i):=by
  intro pins s σ H Q I h
  obtain ⟨v,e,h⟩:=h
  obtain ⟨m,hn,hl⟩:=I.loc
  obtain ⟨u,r,l⟩:=hl i x v hN e hv
  have fin:EP X pins σ Q u s:=⟨v,H,I,r,h⟩
  rcases l with ⟨hk,hm⟩ | ⟨hk,c,hc,hcell⟩
  · exact wpAny_Name (wpAny_loadName_local I.ok.kind hk hn hm fin) hd
  · rcases hk with hk | hk
    · exact wpAny_Name (wpAny_loadName_cell I.ok.kind hk hc hcell fin) hd
    · exact wpAny_Name (wpAny_loadName_free I.ok.kind hk hc hcell fin hcd) hd
theorem pe_int {i j pos}:PE X (.Constant (.int i) j pos) (tC (.int i)):=fun _ _ _ H _ I h=>wpAny_Constant_int ⟨.int i,H,I.tok _,⟨_,rfl⟩,h⟩
theorem pe_bl {b j pos}:PE X (.Constant (.bool b) j pos) (tC (.bl b)):=fun _ _ _ H _ I h=>Constant_bool ⟨.bl b,H,I,rfl,h⟩
theorem pe_non {j pos}:PE X (.Constant .none j pos) (tC .non):=fun _ _ _ H _ I h=>Constant_none ⟨.non,H,I,rfl,h⟩
theorem pe_str {x j pos}:PE X (.Constant (.str x) j pos) (tC (.str x)):=fun _ _ _ H _ I h=>Calls.Constant_str ⟨.str x,H,I.tok _,⟨_,rfl⟩,h⟩
def Gl (X:Cx) (x:Str):Prop:=X.env.kindOf x = some .globalImplicit
theorem ld_glob {E:Value → Shared → Prop} {pins:List (Addr × Obj)} {s:Shared} {σ:St} {H:Hp} {x:Str} {u:Value} {pos:Pos} {Q:Value → Shared → Prop} (I:Inv X pins σ H s) (hg:Gl X x) (hm:X.mg x = some u) (h:Q u s)
    (hd:(x == ("__debug__":Str)) = false:=by decide):wpAny (model X.prog X.w) X.A (eval (.Name x pos) X.env) Q E s :=
  Calls.Name_function_global I.ok.kind hg (Calls.loadGlobal_global (by rw [I.ok.glob]; exact I.mod.glob.keeps I.bk) hm h) hd
theorem ld_blt {E:Value → Shared → Prop} {pins:List (Addr × Obj)} {s:Shared} {σ:St} {H:Hp} {x:Str} {u:Value} {pos:Pos} {Q:Value → Shared → Prop} (I:Inv X pins σ H s) (hg:Gl X x) (hm:X.mg x = none) (hv:bootBuiltins x = some u) (h:Q u s)
    (hn:x ≠ "__name__":=by decide) (hd:(x == ("__debug__":Str)) = false:=by decide):wpAny (model X.prog X.w) X.A (eval (.Name x pos) X.env) Q E s:=by
  obtain ⟨mb,h1,h2⟩:=I.mod.blt
  exact Calls.Name_function_global I.ok.kind hg (Calls.loadGlobal_builtin (by rw [I.ok.glob]; exact I.mod.glob.keeps I.bk) hm (by rw [I.ok.blt]; exact h1.keeps I.bk) ((h2 x hn).trans hv) h) hd
theorem pe_bltn {x:Str} {v:V} {u:Value} {pos:Pos} (hg:Gl X x) (hm:X.mg x = none) (hv:bootBuiltins x = some u) (r:RelV v u) (hn:x ≠ "__name__":=by decide) (hd:(x == ("__debug__":Str)) = false:=by decide):PE X (.Name x pos) (tC v) :=
  fun _ _ _ H _ I h=>ld_blt I hg hm hv ⟨v,H,I,r,h⟩ hn hd
variable {a b:Expr} {ta tb:TE} {pos:Pos}
def PC (X:Cx) (op:CmpOp) (a b:Expr) (t:TE):Prop :=
  ∀ (pins:List (Addr × Obj)) (s:Shared) (σ:St) (H:Hp) (Q:VK),Inv X pins σ H s → t σ H Q →
    wpAny (model X.prog X.w) X.A (eval a X.env) (fun v s₁=>wpAny (model X.prog X.w) X.A (eval b X.env) (fun u s₂=>wpAny (model X.prog X.w) X.A (compareOp op v u) (EP X pins σ Q) X.xe s₂) X.xe s₁) X.xe s
theorem nobehind (b:Expr) {op:CmpOp} (h:op ≠ .In) (h2:op ≠ .NotIn):behindInMarks op b = false:=by
  have e1:(op == CmpOp.In) = false:=by cases op <;> first | rfl | exact absurd rfl h
  have e2:(op == CmpOp.NotIn) = false:=by cases op <;> first | rfl | exact absurd rfl h2
  cases b <;> simp [behindInMarks,e1,e2]
def tIsN (ta:TE):TE:=fun σ H Q=>ta σ H fun x H1=>Q (.bl (decide (x = .non))) H1
def tNotN (ta:TE):TE:=fun σ H Q=>ta σ H fun x H1=>Q (.bl (!decide (x = .non))) H1
theorem RelV.none_iff {x:V} {v:Value} (r:RelV x v):(v == Value.none) = decide (x = .non):=by
  cases x with
  | non=>cases r; rfl
  | bl _=>cases r; rfl
  | int _=>obtain ⟨t,rfl⟩:=r; rfl
  | str _=>obtain ⟨t,rfl⟩:=r; rfl
  | byt _=>obtain ⟨t,rfl⟩:=r; rfl
  | flt _=>obtain ⟨t,rfl⟩:=r; rfl
  | ref _=>cases r; rfl
  | ty _=>cases r; rfl
theorem pc_isN {j pos'} (ha:PE X a ta):PC X .Is a (.Constant .none j pos') (tIsN ta):=by
  intro pins s σ H Q I h
  refine thn (ha pins s σ H _ I h) fun v s1 ⟨x,H1,I1,r1,q1⟩=>?_
  exact Constant_none (is_none_gen ⟨.bl _,H1,I1,by rw [r1.none_iff]; rfl,q1⟩)
theorem pc_notN {j pos'} (ha:PE X a ta):PC X .IsNot a (.Constant .none j pos') (tNotN ta):=by
  intro pins s σ H Q I h
  refine thn (ha pins s σ H _ I h) fun v s1 ⟨x,H1,I1,r1,q1⟩=>?_
  exact Constant_none (isnot_none_gen ⟨.bl _,H1,I1,by rw [r1.none_iff]; rfl,q1⟩)
inductive tBI (Q:(Bool → Hp → Prop)) (x:V) (H1:Hp):Prop
  | mk (c:_) (h1_:x = .bl c) (h2_:Q c H1):tBI Q x H1
def tB (t:TE):TT:=fun σ H Q=>t σ H fun x H1=>tBI Q x H1
theorem pt_cmp {op:CmpOp} {t:TE} (h:PC X op a b t) (h1:behindInMarks op b = false:=by first | exact nobehind _ (by decide) (by decide) | rfl):PT X (.Compare a [op] [b] pos) (tB t):=by
  intro pins s σ H Q I hw
  refine wpAny_isTrue_Compare1 (thn (h pins s σ H _ I hw) fun v s1 h1=>thn h1 fun u s2 h2=>thn h2 fun c s3 ⟨x,H1,I1,r1,q1⟩=>?_) h1
  obtain ⟨d,rfl,q⟩:=q1
  cases r1
  exact wpAny_truthy_bool ⟨H1,I1,q⟩
theorem pt_val {e:Expr} {t:TE} (h:PE X e t) (he:∀ whole,isTrue e X.env whole = (do let v ← whole; standAt e.pos; holding [v] (truthy v)):=by intro _; rfl):PT X e (tB t):=by
  intro pins s σ H Q I hw
  refine isTrue_plain (thn (h pins s σ H _ I hw) fun v s1 ⟨x,H1,I1,r1,q1⟩=>?_) (he _)
  obtain ⟨d,rfl,q⟩:=q1
  cases r1
  exact wpAny_truthy_bool ⟨H1,I1,q⟩
variable {tA tB':TT} {rest:List Expr}
def tAnd (t u:TT):TT:=fun σ H Q=>t σ H fun c H1=>if c = true then u σ H1 Q else Q false H1
def tOr (t u:TT):TT:=fun σ H Q=>t σ H fun c H1=>if c = true then Q true H1 else u σ H1 Q
def tNot (t:TT):TT:=fun σ H Q=>t σ H fun c H1=>Q (!c) H1
theorem pw_and1 (ha:PT X a tA):PW X (.BoolOp .And [a] pos) tA:=by
  intro wh pins s σ H Q I h
  refine isTrue_and (thn (ha pins s σ H Q I h) fun c s1 e=>?_)
  cases c with
  | true=>exact isTrue_and_nil e
  | false=>exact e
theorem pw_or1 (ha:PT X a tA):PW X (.BoolOp .Or [a] pos) tA:=by
  intro wh pins s σ H Q I h
  refine isTrue_or (thn (ha pins s σ H Q I h) fun c s1 e=>?_)
  cases c with
  | false=>exact isTrue_or_nil e
  | true=>exact e
theorem pw_and (ha:PT X a tA) (hb:PW X (.BoolOp .And (b :: rest) pos) tB'):PW X (.BoolOp .And (a :: b :: rest) pos) (tAnd tA tB'):=by
  intro wh pins s σ H Q I h
  refine isTrue_and (thn (ha pins s σ H _ I h) fun c s1 ⟨H1,I1,q1⟩=>?_)
  cases c with
  | true=>exact hb wh pins s1 σ H1 Q I1 q1
  | false=>exact ⟨H1,I1,q1⟩
theorem pw_or (ha:PT X a tA) (hb:PW X (.BoolOp .Or (b :: rest) pos) tB'):PW X (.BoolOp .Or (a :: b :: rest) pos) (tOr tA tB'):=by
  intro wh pins s σ H Q I h
  refine isTrue_or (thn (ha pins s σ H _ I h) fun c s1 ⟨H1,I1,q1⟩=>?_)
  cases c with
  | true=>exact ⟨H1,I1,q1⟩
  | false=>exact hb wh pins s1 σ H1 Q I1 q1
theorem pt_not (ha:PT X a tA):PT X (.UnaryOp .Not a pos) (tNot tA):=by
  intro pins s σ H Q I h
  exact isTrue_not (thn (ha pins s σ H (fun c H1=>Q (!c) H1) I h) fun c s1 ⟨H1,I1,q1⟩=>⟨H1,I1,q1⟩)
inductive tAndVI (ta tb:TE) (σ:St) (Q:VK) (x:V) (H1:Hp):Prop
  | mk (c:_) (h1_:x = .bl c) (h2_:if c = true then tb σ H1 Q else Q (.bl false) H1):tAndVI ta tb σ Q x H1
def tAndV (ta tb:TE):TE:=fun σ H Q=>ta σ H fun x H1=>tAndVI ta tb σ Q x H1
inductive tOrVI (ta tb:TE) (σ:St) (Q:VK) (x:V) (H1:Hp):Prop
  | mk (c:_) (h1_:x = .bl c) (h2_:if c = true then Q (.bl true) H1 else tb σ H1 Q):tOrVI ta tb σ Q x H1
def tOrV (ta tb:TE):TE:=fun σ H Q=>ta σ H fun x H1=>tOrVI ta tb σ Q x H1
inductive tNotVI (Q:VK) (x:V) (H1:Hp):Prop
  | mk (c:_) (h1_:x = .bl c) (h2_:Q (.bl (!c)) H1):tNotVI Q x H1
def tNotV (ta:TE):TE:=fun σ H Q=>ta σ H fun x H1=>tNotVI Q x H1
theorem pe_one {op} {t:TE} (h:PE X a t):PE X (.BoolOp op [a] pos) t:=fun pins s σ H Q I hw=>BoolOp_one (h pins s σ H Q I hw)
theorem pe_and (ha:PE X a ta) (hb:PE X (.BoolOp .And (b :: rest) pos) tb):PE X (.BoolOp .And (a :: b :: rest) pos) (tAndV ta tb):=by
  intro pins s σ H Q I h
  refine BoolOp_and (thn (ha pins s σ H _ I h) fun v s1 ⟨x,H1,I1,r1,q1⟩=>?_)
  obtain ⟨c,rfl,q1⟩:=q1
  cases r1
  refine wpAny_truthy_bool ?_
  cases c with
  | true=>exact hb pins s1 σ H1 Q I1 q1
  | false=>exact ⟨.bl false,H1,I1,rfl,q1⟩
theorem pe_or (ha:PE X a ta) (hb:PE X (.BoolOp .Or (b :: rest) pos) tb):PE X (.BoolOp .Or (a :: b :: rest) pos) (tOrV ta tb):=by
  intro pins s σ H Q I h
  refine BoolOp_or (thn (ha pins s σ H _ I h) fun v s1 ⟨x,H1,I1,r1,q1⟩=>?_)
  obtain ⟨c,rfl,q1⟩:=q1
  cases r1
  refine wpAny_truthy_bool ?_
  cases c with
  | false=>exact hb pins s1 σ H1 Q I1 q1
  | true=>exact ⟨.bl true,H1,I1,rfl,q1⟩
theorem pe_not (ha:PE X a ta):PE X (.UnaryOp .Not a pos) (tNotV ta):=by
  intro pins s σ H Q I h
  refine UnaryOp_ (thn (ha pins s σ H _ I h) fun v s1 ⟨x,H1,I1,r1,q1⟩=>?_)
  obtain ⟨c,rfl,q1⟩:=q1
  cases r1
  exact not_of (wpAny_truthy_bool ⟨.bl (!c),H1,I1,rfl,q1⟩)
def tIf (t:TT) (ta tb:TE):TE:=fun σ H Q=>t σ H fun c H1=>if c = true then ta σ H1 Q else tb σ H1 Q
theorem pe_ifExp {c:Expr} (hc:PT X c tA) (ha:PE X a ta) (hb:PE X b tb):PE X (.IfExp c a b pos) (tIf tA ta tb):=by
  intro pins s σ H Q I h
  refine wpAny_IfExp (thn (hc pins s σ H _ I h) fun d s1 ⟨H1,I1,q1⟩=>?_)
  cases d with
  | true=>exact ha pins s1 σ H1 Q I1 q1
  | false=>exact hb pins s1 σ H1 Q I1 q1
end
end L2
namespace L2
open PySem PySem.Spec PyProof.Rows
def SqL (K:PySem.W.Frag) (H:Hp) (a:Addr) (xs:List V):Prop :=
  Rd H a (.lst xs) ∨
    ∃ (o:Obj) (its:Array Value) (n:Nat),K.lookup a = some o ∧ o.cls = .type "list" ∧ o.dict = none ∧ o.data = .seq its n ∧ its.size ≤ sizeLine ∧ Vals xs its.toList
def SqT (K:PySem.W.Frag) (H:Hp) (a:Addr) (xs:List V):Prop :=
  Rd H a (.tup xs) ∨
    ∃ (o:Obj) (its:Array Value) (n:Nat),K.lookup a = some o ∧ o.cls = .type "tuple" ∧ o.data = .seq its n ∧ its.size ≤ sizeLine ∧ Vals xs its.toList
def absV:Value → Option V
  | .none=>some .non
  | .bool b=>some (.bl b)
  | .int i _=>some (.int i)
  | .str x _=>some (.str x)
  | .bytes b _=>some (.byt b)
  | .float b _=>some (.flt b)
  | .ref a=>some (.ref a)
  | .type n=>some (.ty n)
  | _=>none
theorem RelV.abs {x:V} {u:Value} (r:RelV x u):absV u = some x:=by
  cases x with
  | non=>cases r; rfl
  | bl _=>cases r; rfl
  | int _=>obtain ⟨t,rfl⟩:=r; rfl
  | str _=>obtain ⟨t,rfl⟩:=r; rfl
  | byt _=>obtain ⟨t,rfl⟩:=r; rfl
  | flt _=>obtain ⟨t,rfl⟩:=r; rfl
  | ref _=>cases r; rfl
  | ty _=>cases r; rfl
theorem RelV.inj {x y:V} {u:Value} (r:RelV x u) (q:RelV y u):x = y:=Option.some.inj (r.abs.symm.trans q.abs)
theorem Vals.inj:∀ {xs ys:List V} {us:List Value},Vals xs us → Vals ys us → xs = ys
  | _,_,_,.nil,.nil=>rfl
  | _,_,_,.cons r t,.cons r' t'=>by rw [r.inj r',Vals.inj t t']
section
variable {X:Cx} {pins:List (Addr × Obj)} {σ:St} {H:Hp} {s:Shared} {a:Addr} {xs ys:List V}
theorem SqL.of {K:PySem.W.Frag} (h:H a = some (.lst xs)):SqL K H a xs:=.inl (.inl h)
theorem SqT.of {K:PySem.W.Frag} (h:H a = some (.tup xs)):SqT K H a xs:=.inl (.inl h)
theorem Inv.list (I:Inv X pins σ H s) (h:SqL X.K H a xs):∃ its:List Value,Vals xs its ∧ PlainL s.heap a its.toArray ∧ xs.length ≤ sizeLine:=by
  rcases h with h | ⟨o,its,n,hk,hc,hd,hs,hz,r⟩
  · obtain ⟨z,its,n,r,e⟩:=h.ok I.hok
    exact ⟨its,r,⟨_,n,e,rfl,rfl,rfl⟩,z⟩
  · refine ⟨its.toList,r,⟨o,n,I.kIn a o hk,hc,hd,by simpa using hs⟩,?_⟩
    have e:=r.length
    simp only [Array.length_toList] at e
    lia
theorem Inv.tuple (I:Inv X pins σ H s) (h:SqT X.K H a xs):∃ its:List Value,Vals xs its ∧ IsTup s.heap a its.toArray ∧ xs.length ≤ sizeLine:=by
  rcases h with h | ⟨o,its,n,hk,hc,hs,hz,r⟩
  · obtain ⟨z,its,r,p⟩:=h.ok I.hok
    exact ⟨its,r,p,z⟩
  · refine ⟨its.toList,r,⟨o,I.kIn a o hk,hc,n,by simpa using hs⟩,?_⟩
    have e:=r.length
    simp only [Array.length_toList] at e
    lia
theorem Inv.list_inj (I:Inv X pins σ H s) (h:SqL X.K H a xs) (h':SqL X.K H a ys):xs = ys:=by
  obtain ⟨its,r,⟨o,n,e,_,_,d⟩,_⟩:=I.list h
  obtain ⟨its',r',⟨o',n',e',_,_,d'⟩,_⟩:=I.list h'
  rw [e] at e'; cases e'
  rw [d] at d'
  injection d' with d1 _
  have:its = its':=by simpa using congrArg Array.toList d1
  subst this
  exact r.inj r'
end
abbrev Cx.wish (X:Cx) (E:Value → Shared → Prop):Cx:={ X with xe:=E }
abbrev Cx.nox (X:Cx):Cx:=X.wish fun _ _=>False
theorem Cx.Ok.wish {X:Cx} (ok:X.Ok) (E:Value → Shared → Prop):(X.wish E).Ok :=
  ⟨ok.mod,ok.kind,ok.glob,ok.blt,ok.above,ok.inj,ok.has,ok.cab,ok.hd,ok.frames,ok.stk,ok.exf,ok.bs,ok.bsz,ok.noex,ok.exfs,ok.funs,ok.frf⟩
theorem Cx.Ok.unwish {X:Cx} {E:Value → Shared → Prop} (ok:(X.wish E).Ok):X.Ok :=
  ⟨ok.mod,ok.kind,ok.glob,ok.blt,ok.above,ok.inj,ok.has,ok.cab,ok.hd,ok.frames,ok.stk,ok.exf,ok.bs,ok.bsz,ok.noex,ok.exfs,ok.funs,ok.frf⟩
section
variable {X:Cx} {pins:List (Addr × Obj)} {σ:St} {H:Hp} {s:Shared} {E:Value → Shared → Prop}
theorem Inv.wish (I:Inv X pins σ H s) (E:Value → Shared → Prop):Inv (X.wish E) pins σ H s:=⟨I.ok.wish E,I.os,I.bare,I.base,I.loc,I.cell,I.free,I.freeC,I.pin,I.hok,I.len⟩
theorem Inv.unwish (I:Inv (X.wish E) pins σ H s):Inv X pins σ H s:=⟨I.ok.unwish,I.os,I.bare,I.base,I.loc,I.cell,I.free,I.freeC,I.pin,I.hok,I.len⟩
theorem SP.unwish {D:Ends} {f:Flow} {s':Shared} (h:SP (X.wish E) pins D f s'):SP X pins D f s':=by
  cases f with
  | next=>obtain ⟨σ',H',I,q⟩:=h; exact ⟨σ',H',I.unwish,q⟩
  | brk=>obtain ⟨σ',H',I,q⟩:=h; exact ⟨σ',H',I.unwish,q⟩
  | cont=>obtain ⟨σ',H',I,q⟩:=h; exact ⟨σ',H',I.unwish,q⟩
  | ret u=>obtain ⟨v,σ',H',I,r,q⟩:=h; exact ⟨v,σ',H',I.unwish,r,q⟩
theorem PSs.nox {st:List Stmt} {t:TS} (h:PSs X.nox st t):PSs X st t:=fun pins s σ H D I hw =>
  wpAny_mono (h pins s σ H D (I.wish _) hw) (fun _ _ q=>q.unwish) fun _ _ z=>False.elim z
end
section
variable {X:Cx} {st:Stmt} {rest:List Stmt} {t u:TS} {e:Expr} {te:TE} {pos:Pos}
def tNext:TS:=fun D σ H=>D.nx σ H
def tSeq (t u:TS):TS:=fun D σ H=>t { D with nx:=u D } σ H
theorem pss_nil:PSs X [] tNext:=fun _ _ σ H _ I h=>wpAny_execs_nil ⟨σ,H,I,h⟩
theorem pss_cons (h1:PS X st t) (h2:PSs X rest u):PSs X (st :: rest) (tSeq t u):=by
  intro pins s σ H D I h
  refine wpAny_execs_cons (thn (h1 pins s σ H { D with nx:=u D } I h) fun f s1 q=>?_)
  cases f with
  | next =>
    obtain ⟨σ',H',I',q⟩:=q
    exact h2 pins s1 σ' H' D I' q
  | ret v=>exact q
  | brk=>exact q
  | cont=>exact q
theorem pss_one (h1:PS X st t):PSs X [st] t:=by
  intro pins s σ H D I h
  refine wpAny_execs_cons (thn (h1 pins s σ H D I h) fun f s1 q=>?_)
  cases f with
  | next=>exact wpAny_execs_nil q
  | ret v=>exact q
  | brk=>exact q
  | cont=>exact q
theorem Inv.quiet {pins:List (Addr × Obj)} {σ:St} {H:Hp} {s:Shared} (I:Inv X pins σ H s):interactive X.env = false:=by simp [interactive,I.ok.kind]
def tDrop (te:TE):TS:=fun D σ H=>te σ H fun _ H1=>D.nx σ H1
theorem ps_expr (he:PE X e te) (hs:swapsWith e none pos.line X.env = pure false:=by rfl):PS X (.Expr e pos) (tDrop te):=by
  intro pins s σ H D I h
  exact wpAny_Expr_any (thn (he pins s σ H _ I h) fun v s1 ⟨x,H1,I1,r1,q1⟩=>⟨σ,H1,I1,q1⟩) I.quiet hs
def tRet (te:TE):TS:=fun D σ H=>te σ H D.rt
theorem ps_ret (he:PE X e te):PS X (.Return (some e) pos) (tRet te):=by
  intro pins s σ H D I h
  exact wpAny_Return_some (thn (he pins s σ H _ I h) fun v s1 ⟨x,H1,I1,r1,q1⟩=>⟨x,σ,H1,I1,r1,q1⟩)
def tIfS (c:TT) (t u:TS):TS:=fun D σ H=>c σ H fun b H1=>if b = true then t D σ H1 else u D σ H1
theorem ps_if {c:Expr} {a b:List Stmt} {tc:TT} (hc:PT X c tc) (ha:PSs X a t) (hb:PSs X b u):PS X (.If c a b pos) (tIfS tc t u):=by
  intro pins s σ H D I h
  refine wpAny_If (thn (hc pins s σ H _ I h) fun d s1 ⟨H1,I1,q1⟩=>?_)
  cases d with
  | true=>exact ha pins s1 σ H1 D I1 q1
  | false=>exact hb pins s1 σ H1 D I1 q1
def tNever:TS:=fun _ _ _=>False
theorem pss_never {sts:List Stmt}:PSs X sts tNever:=fun _ _ _ _ _ _ h=>h.elim
end
abbrev TG:=V → St → Hp → (St → Hp → Prop) → Prop
abbrev TGs:=List V → St → Hp → (St → Hp → Prop) → Prop
def PG (X:Cx) (target:Expr) (t:TG):Prop :=
  ∀ (pins:List (Addr × Obj)) (s:Shared) (σ:St) (H:Hp) (v:V) (u:Value) (Q:St → Hp → Prop),Inv X pins σ H s → RelV v u → t v σ H Q →
    wpAny (model X.prog X.w) X.A (assign target X.env u) (fun _ s'=>∃ σ' H',Inv X pins σ' H' s' ∧ Q σ' H') X.xe s
def PGs (X:Cx) (ts:List Expr) (t:TGs):Prop :=
  ∀ (pins:List (Addr × Obj)) (s:Shared) (σ:St) (H:Hp) (vs:List V) (us:List Value) (Q:St → Hp → Prop),Inv X pins σ H s → Vals vs us → t vs σ H Q →
    wpAny (model X.prog X.w) X.A (assignInOrder ((assignEach ts X.env).map (·.2)) us) (fun _ s'=>∃ σ' H',Inv X pins σ' H' s' ∧ Q σ' H') X.xe s
abbrev TIp:=V → V → Hp → VK → Prop
def PIp (X:Cx) (op:Operator) (t:TIp):Prop :=
  ∀ (pins:List (Addr × Obj)) (s:Shared) (σ:St) (H:Hp) (x y:V) (v u:Value) (Q:VK),Inv X pins σ H s → RelV x v → RelV y u → t x y H Q →
    wpAny (model X.prog X.w) X.A (inplaceOp op v u) (EP X pins σ Q) X.xe s
section
variable {X:Cx} {pos:Pos}
def gName (i:Nat):TG:=fun v σ H Q=>Q (σ.set i (some v)) H
theorem pg_name {i:Nat} {x:Str} (hN:X.N.Nodup) (hi:X.N[i]? = some x) (hx:Loc X.env.scope x) (hf:X.fn x = true ∨ X.env.scope.names.lookup x = some .local:=by first | exact .inl rfl | exact .inr rfl | assumption):PG X (.Name x pos) (gName i):=by
  intro pins s σ H v u Q I r h
  exact wpAny_assign_Name (store_ok I hN hi hx r (fun s' I'=>⟨_,H,I',h⟩) hf)
def gNil:TGs:=fun vs σ H Q=>vs = [] ∧ Q σ H
inductive gCons (t:TG) (u:TGs) (vs:List V) (σ:St) (H:Hp) (Q:(St → Hp → Prop)):Prop
  | mk (v:_) (r:_) (h1_:vs = v :: r) (h2_:t v σ H fun σ' H'=>u r σ' H' Q):gCons t u vs σ H Q
theorem pgs_nil:PGs X [] gNil:=by
  intro pins s σ H vs us Q I r h
  obtain ⟨e,h⟩:=h
  subst e
  cases r
  exact assignInOrder_nil ⟨σ,H,I,h⟩
theorem pgs_cons {e:Expr} {es:List Expr} {t:TG} {u:TGs} (h1:PG X e t) (h2:PGs X es u)
    (hs:(assignEach (e :: es) X.env).map (·.2) = assign e X.env :: (assignEach es X.env).map (·.2):=by rfl):PGs X (e :: es) (gCons t u):=by
  intro pins s σ H vs us Q I r h
  obtain ⟨v,vr,e1,h⟩:=h
  subst e1
  cases r with
  | cons r rr =>
    rw [hs]
    refine assignInOrder_cons (thn (h1 pins s σ H _ _ _ I r h) fun _ s1 ⟨σ1,H1,I1,q1⟩=>?_)
    exact h2 pins s1 σ1 H1 _ _ Q I1 rr q1
inductive gTup (K:PySem.W.Frag) (n:Nat) (t:TGs) (v:V) (σ:St) (H:Hp) (Q:(St → Hp → Prop)):Prop
  | mk (a:_) (xs:_) (h1_:v = .ref a) (h2_:SqT K H a xs) (h3_:xs.length = n) (h4_:t xs σ H Q):gTup K n t v σ H Q
theorem pg_tup {es:List Expr} {k:Nat} {t:TGs} {n:Nat} (hc:X.calm = true) (h:PGs X es t)
    (hn:(assignEach es X.env).length = n:=by rfl) (hst:(assignEach es X.env).findIdx? (·.1) = none:=by rfl):PG X (.Tuple es k pos) (gTup X.K n t):=by
  intro pins s σ H v u Q I r hw
  obtain ⟨a,xs,e1,hq,hl,hw⟩:=hw
  subst e1
  cases r
  obtain ⟨its,rv,ht,hz⟩:=I.tuple hq
  refine assign_Tuple_tuple (I.ok.hd hc) ht (by simp [hn,← hl,rv.length]) hst fun h' hx=>?_
  have I1:Inv X pins σ H { s with heap:=h' }:=I.kept (t':=s.toks) fun b o e=>hx b o (Nat.ne_of_lt (Heap.lt_size e)) e
  exact h pins _ σ H xs _ Q I1 (by simpa using rv) hw
def tAsg (te:TE) (g:TG):TS:=fun D σ H=>te σ H fun x H1=>g x σ H1 D.nx
theorem ps_asg {tg e:Expr} {te:TE} {g:TG} (he:PE X e te) (hg:PG X tg g) (hs:swapsWithSole [tg] e pos.line X.env = pure false:=by rfl) (hw:swappedStores [tg] e X.env = pure none:=by rfl)
    (h1:(assignEach [tg] X.env).map (·.2) = [assign tg X.env]:=by rfl):PS X (.Assign [tg] e pos) (tAsg te g):=by
  intro pins s σ H D I h
  refine wpAny_Assign_stores (thn (he pins s σ H _ I h) fun v s1 ⟨x,H1,I1,r1,q1⟩=>?_) hs hw
  rw [h1]
  exact thn (hg pins s1 σ H1 x v _ I1 r1 q1) fun _ s2 ⟨a,b,c,d⟩=>⟨a,b,c,d⟩
theorem ps_set {i:Nat} {x:Str} {e:Expr} {te:TE} {pos':Pos} (hN:X.N.Nodup) (hi:X.N[i]? = some x) (hx:Loc X.env.scope x) (he:PE X e te) (hs:swapsWith e (some (.Name x pos')) pos.line X.env = pure false:=by rfl) (hf:X.fn x = true ∨ X.env.scope.names.lookup x = some .local:=by first | exact .inl rfl | exact .inr rfl | assumption) :
    PS X (.Assign [.Name x pos'] e pos) (tAsg te (gName i)):=by
  intro pins s σ H D I h
  refine wpAny_Assign_Name (thn (he pins s σ H _ I h) fun v s1 ⟨y,H1,I1,r1,q1⟩=>?_) hs
  exact store_ok I1 hN hi hx r1 (fun s2 I2=>⟨_,H1,I2,q1⟩) hf
inductive tAug (i:Nat) (te:TE) (ti:TIp) (D:Ends) (σ:St) (H:Hp):Prop
  | mk (x:_) (h1_:σ[i]? = some (some x)) (h2_:te σ H fun y H1=>ti x y H1 fun z H2=>D.nx (σ.set i (some z)) H2):tAug i te ti D σ H
theorem ps_aug {i:Nat} {x:Str} {e:Expr} {te:TE} {op:Operator} {ti:TIp} {pos':Pos} (hN:X.N.Nodup) (hi:X.N[i]? = some x) (hx:Loc X.env.scope x) (he:PE X e te) (ho:PIp X op ti) (hf:X.fn x = true ∨ X.env.scope.names.lookup x = some .local:=by first | exact .inl rfl | exact .inr rfl | assumption) :
    PS X (.AugAssign (.Name x pos') op e pos) (tAug i te ti):=by
  intro pins s σ H D I h
  obtain ⟨v,e1,h⟩:=h
  obtain ⟨m,hn,hl⟩:=I.loc
  have vis:Vis X.env.scope x:=by rcases hx with k | k; exact .inl k; exact .inr (.inl k)
  obtain ⟨u,r,l⟩:=hl i x v hi e1 vis
  refine wpAny_AugAssign_Name ?_
  have go:wpAny (model X.prog X.w) X.A (eval e X.env) (fun w s₂=>wpAny (model X.prog X.w) X.A (inplaceOp op u w) (fun r s₃=>wpAny (model X.prog X.w) X.A (storeName X.env x r) (fun _=>SP X pins D .next) X.xe s₃) X.xe s₂) X.xe s:=by
    refine thn (he pins s σ H _ I h) fun w s1 ⟨y,H1,I1,r1,q1⟩=>?_
    refine thn (ho pins s1 σ H1 v y u w _ I1 r r1 q1) fun z s2 ⟨zv,H2,I2,r2,q2⟩=>?_
    exact store_ok I2 hN hi hx r2 (fun s3 I3=>⟨_,H2,I3,q2⟩) hf
  rcases l with ⟨hk,hm⟩ | ⟨hk,c,hc,hcell⟩
  · exact wpAny_loadName_local I.ok.kind hk hn hm go
  · rcases hk with hk | hk
    · exact wpAny_loadName_cell I.ok.kind hk hc hcell go
    · rcases hx with k | k
      · have:X.env.scope.names.lookup x = some .free:=hk
        rw [k] at this; cases this
      · have:X.env.scope.names.lookup x = some .free:=hk
        rw [k] at this; cases this
inductive ipI (f:Int → Int → Int) (x:V) (y:V) (H:Hp) (Q:VK):Prop
  | mk (i:_) (j:_) (h1_:x = .int i) (h2_:y = .int j) (h3_:Q (.int (f i j)) H):ipI f x y H Q
theorem ip_add:PIp X .Add (ipI fun i j=>i + j):=by
  intro pins s σ H x y v u Q I r1 r2 h
  obtain ⟨i,j,e1,e2,q⟩:=h
  subst e1; subst e2
  obtain ⟨t,rfl⟩:=r1
  obtain ⟨t',rfl⟩:=r2
  exact iadd_int ⟨.int _,H,I.tok _,⟨_,rfl⟩,q⟩
end
section
variable {X:Cx} {pos:Pos}
def tWhile (c:TT) (tb:TS):TS:=fun D σ H=>∃ W:Nat → St → Hp → Prop,(∃ m,W m σ H) ∧ ∀ m σ H,W m σ H →
  c σ H fun b H1=>if b = true then ∃ N:St → Hp → Prop,(∀ σ' H',N σ' H' → ∃ m',m' < m ∧ W m' σ' H') ∧ tb { D with nx:=N,ct:=N,bk:=D.nx } σ H1 else D.nx σ H1
theorem ps_while {c:Expr} {body:List Stmt} {tc:TT} {tb:TS} (hp:PassesOwn (model X.prog X.w) X.A X.env X.xe) (hc:PT X c tc) (hb:PSs X body tb):PS X (.While c body [] pos) (tWhile tc tb):=by
  intro pins s σ H D I h
  obtain ⟨W,⟨m0,w0⟩,turn⟩:=h
  refine wpAny_While (codeAny_whileLoop (fun n s'=>∃ σ' H',Inv X pins σ' H' s' ∧ W n σ' H') ?_ m0 ⟨σ,H,I,w0⟩)
  rintro n s1 ⟨σ1,H1,I1,w1⟩
  refine wpAny_passesOwn hp (thn (hc pins s1 σ1 H1 _ I1 (turn n σ1 H1 w1)) fun b s2 ⟨H2,I2,q2⟩=>?_)
  cases b with
  | true =>
    obtain ⟨N,hN,q2⟩:=q2
    rw [if_pos rfl]
    refine wpAny_passesOwn hp (thn (hb pins s2 σ1 H2 _ I2 q2) fun f s3 q3=>?_)
    cases f with
    | next =>
      obtain ⟨σ3,H3,I3,n3⟩:=q3
      obtain ⟨m',hm,w3⟩:=hN σ3 H3 n3
      exact ⟨m',hm,σ3,H3,I3,w3⟩
    | cont =>
      obtain ⟨σ3,H3,I3,n3⟩:=q3
      obtain ⟨m',hm,w3⟩:=hN σ3 H3 n3
      exact ⟨m',hm,σ3,H3,I3,w3⟩
    | brk=>exact q3
    | ret v=>exact q3
  | false =>
    rw [if_neg Bool.false_ne_true]
    exact wpAny_execs_nil ⟨σ1,H2,I2,q2⟩
end
structure It where
  go:Nat → Hp → Prop
  yld:Nat → Hp → V → Hp → Prop
  stop:Nat → Hp → Prop
def FpOk (X:Cx) (pins:List (Addr × Obj)) (H:Hp) (b:Addr):Prop :=
  H b = none ∧ b ≠ X.env.locals ∧ b ∉ X.fs ∧ (b ∈ X.ex ∨ X.s₀.heap.objs.size ≤ b) ∧ (∀ x c,X.env.cells.lookup x = some c → c ≠ b) ∧ ∀ p ∈ X.pn ++ pins,p.1 ≠ b
theorem Inv.fpOk {X:Cx} {pins:List (Addr × Obj)} {σ:St} {H H':Hp} {s:Shared} {b:Addr} (I:Inv X pins σ H s) (hb:s.heap.objs.size ≤ b) (hn:H' b = none):FpOk X pins H' b:=by
  refine ⟨hn,Nat.ne_of_gt (Nat.lt_of_lt_of_le I.lt hb),I.nofs hb,.inr (Nat.le_trans I.sz hb),fun x c e z=>?_,fun p hp z=>?_⟩
  · obtain ⟨v,q⟩:=I.cell x c e
    exact absurd (Nat.lt_of_lt_of_le q.lt (by rw [z]; exact hb)) (Nat.lt_irrefl _)
  · exact absurd (Nat.lt_of_lt_of_le (Heap.lt_size (I.pin p hp).1) (by rw [z]; exact hb)) (Nat.lt_irrefl _)
structure Turn (P:Program) (w:World) (K:PySem.W.Frag) (tg:Expr) (J:It) (fp:List Addr) (it:Addr) (tn:Nat → Heap → Prop):Prop where
  mem:it ∈ fp
  obj:∀ i h,tn i h → ∀ b ∈ fp,∃ o,h.get? b = some o ∧ ∀ v,o.data ≠ .cell v
  keep:∀ i h h',tn i h → (∀ b ∈ fp,∀ o,h.get? b = some o → h'.get? b = some o) → tn i h'
  item:∀ (X:Cx),X.prog = P → X.w = w → X.K = K → X.calm = true → ∀ (i:Nat) (pins:List (Addr × Obj)) (s:Shared) (σ:St) (H:Hp) (E:Value → Shared → Prop),Inv X pins σ H s → (∀ b ∈ fp,FpOk X pins H b) → tn i s.heap → J.go i H →
    wpAny (model P w) X.A (pyNext (.ref it)) (fun r s1=>∃ u,r = some u ∧
      wpAny (model P w) X.A (letOwnedTupleGo tg (.ref it) u) (fun _ s2=>∃ x H',Inv X pins σ H' s2 ∧ RelV x u ∧ J.yld i H x H' ∧ tn (i + 1) s2.heap ∧ ∀ b ∈ fp,H' b = none) E s1) E s
  done:∀ (X:Cx),X.prog = P → X.w = w → X.K = K → X.calm = true → ∀ (i:Nat) (pins:List (Addr × Obj)) (s:Shared) (σ:St) (H:Hp) (E:Value → Shared → Prop),Inv X pins σ H s → (∀ b ∈ fp,FpOk X pins H b) → tn i s.heap → J.stop i H →
    wpAny (model P w) X.A (pyNext (.ref it)) (fun r s1=>r = none ∧ Inv X pins σ H s1) E s
  self:∀ (A:Around) (i:Nat) (s:Shared) (Q:Value → Shared → Prop) (E:Value → Shared → Prop),tn i s.heap → Q (.ref it) s → wpAny (model P w) A (pyIter (.ref it)) Q E s
abbrev TI:=St → Hp → (It → Hp → Prop) → Prop
def PIE (X:Cx) (pins:List (Addr × Obj)) (σ:St) (tg:Expr) (R:It → Hp → Prop) (itv:Value) (s2:Shared):Prop :=
  ∃ (it:Addr) (fp:List Addr) (tn:Nat → Heap → Prop) (J:It) (H':Hp),itv = .ref it ∧ Inv X pins σ H' s2 ∧ Turn X.prog X.w X.K tg J fp it tn ∧ tn 0 s2.heap ∧ (∀ b ∈ fp,FpOk X pins H' b) ∧ R J H'
def PI (X:Cx) (tg iter:Expr) (wi:TI):Prop :=
  ∀ (pins:List (Addr × Obj)) (s:Shared) (σ:St) (H:Hp) (R:It → Hp → Prop),Inv X pins σ H s → wi σ H R →
    wpAny (model X.prog X.w) X.A (eval iter X.env) (fun v s1=>wpAny (model X.prog X.w) X.A (pyIter v) (PIE X pins σ tg R) X.xe s1) X.xe s
theorem go_of {M:Model} {A:Around} {E:Value → Shared → Prop} {s:Shared} {tg:Expr} {it:Addr} {u:Value} {o:Obj} {n:String} {vs:Array Value} {Q:Unit → Shared → Prop} (ho:s.heap.get? it = some o) (hc:o.cls = .type n) (hd:o.data = .fields vs)
    (hn:["enumerate","zip","dict_itemiterator","dict_reverseitemiterator","odict_iterator","itertools.zip_longest","itertools.pairwise"].contains n = false) (hQ:Q () s):wpAny M A (letOwnedTupleGo tg (.ref it) u) Q E s:=by
  unfold letOwnedTupleGo
  cases tg <;> first
    | exact wpAny_pure hQ
    | (cases u <;> first
        | exact wpAny_pure hQ
        | (refine wpAny_bind (wpAny_load ho ?_)
           rw [hc,hd]
           show wpAny M A (if (["enumerate","zip","dict_itemiterator","dict_reverseitemiterator","odict_iterator","itertools.zip_longest","itertools.pairwise"].contains n && vs[0]? == some (rawInt _)) = true then _ else _) Q E s
           rw [if_neg (by intro h; rw [hn,Bool.false_and] at h; cases h)]
           exact wpAny_pure hQ))
def Itl (K:PySem.W.Frag) (a:Addr):It :=
  ⟨fun i H=>∃ xs x,SqL K H a xs ∧ xs[i]? = some x,fun i H x H'=>H' = H ∧ ∀ xs,SqL K H a xs → xs[i]? = some x,fun i H=>∃ xs,SqL K H a xs ∧ xs.length ≤ i⟩
def Itr (lo:Int) (n:Nat):It:=⟨fun i _=>i < n,fun i H x H'=>H' = H ∧ x = .int (lo + i),fun i _=>n ≤ i⟩
theorem turn_list {P:Program} {w:World} {K:PySem.W.Frag} {tg:Expr} (a it:Addr):Turn P w K tg (Itl K a) [it] it (fun i h=>h.IsListIter it a i) where
  mem:=by simp
  obj:=fun i h st b hb=>by
    have e:b = it:=by simpa using hb
    subst e
    obtain ⟨o,e,c,d⟩:=st
    exact ⟨o,e,fun v z=>by rw [d] at z; cases z⟩
  keep:=fun i h h' st k=>st.at fun o e=>k it (by simp) o e
  item:=by
    intro X hP hw hK hc i pins s σ H E I hf st hg
    subst hP hw hK
    obtain ⟨xs,x,hq,hx⟩:=hg
    obtain ⟨its,rv,p,hz⟩:=I.list hq
    obtain ⟨u,hu,ru⟩:=rv.get hx
    obtain ⟨f0,f1,f2,f3,f4,f5⟩:=hf it (by simp)
    refine wpAny_pyNext_list_item st p.isList (x:=u) (by simpa using hu) fun h' st' sb=>?_
    have I1:Inv X pins σ H { s with heap:=h' }:=I.turned (t':=s.toks) (fun b o hb e=>(sb.2 b hb).trans e) f0 f1 f3 f4 f5
    obtain ⟨o,e,c,d⟩:=id st'
    exact ⟨u,rfl,go_of (s:={ s with heap:=h' }) e c d (by decide) ⟨x,H,I1,ru,⟨rfl,fun ys hy=>by rw [I.list_inj hy hq]; exact hx⟩,st',fun b hb=>(hf b hb).1⟩⟩
  done:=by
    intro X hP hw hK hc i pins s σ H E I hf st hg
    subst hP hw hK
    obtain ⟨xs,hq,hx⟩:=hg
    obtain ⟨its,rv,p,hz⟩:=I.list hq
    obtain ⟨f0,f1,f2,f3,f4,f5⟩:=hf it (by simp)
    have hl:=rv.length
    exact wpAny_pyNext_list_end (I.ok.hd hc) st p.isList (by simp; lia) fun h' eb=>⟨rfl,I.turned (t':=s.toks) (fun b o hb e=>eb b o hb e) f0 f1 f3 f4 f5⟩
  self:=fun _ _ _ _ _ st h=>wpAny_pyIter_listiter st h
theorem turn_range {P:Program} {w:World} {K:PySem.W.Frag} {tg:Expr} (it:Addr) (lo:Int) (n:Nat):Turn P w K tg (Itr lo n) [it] it (fun i h=>IsRangeIter h it (lo + (i:Nat) * 1) ((n:Int) - (i:Nat)) 1) where
  mem:=by simp
  obj:=fun i h st b hb=>by
    have e:b = it:=by simpa using hb
    subst e
    exact ⟨_,st,fun v z=>by
      have z':Data.fields _ = Data.cell v:=z
      cases z'⟩
  keep:=fun i h h' st k=>k it (by simp) _ st
  item:=by
    intro X hP hw hK hc i pins s σ H E I hf st hg
    subst hP hw hK
    obtain ⟨f0,f1,f2,f3,f4,f5⟩:=hf it (by simp)
    have W:=Walks.range (prog:=X.prog) (w:=X.w) (I.ok.hd hc) it lo 1 n
    refine W.item i s _ _ hg st fun v h' tk hv st' kk=>?_
    obtain ⟨t,rfl⟩:=hv
    have I1:Inv X pins σ H { s with heap:=h',toks:=tk }:=I.turned (fun b o hb e=>kk b o (by simpa using hb) e) f0 f1 f3 f4 f5
    refine ⟨_,rfl,go_of (s:={ s with heap:=h',toks:=tk }) (n:="range_iterator") st' rfl rfl (by decide) ⟨.int (lo + i),H,I1,⟨t,?_⟩,⟨rfl,rfl⟩,st',fun b hb=>(hf b hb).1⟩⟩
    rw [Int.mul_one]
  done:=by
    intro X hP hw hK hc i pins s σ H E I hf st hg
    subst hP hw hK
    obtain ⟨f0,f1,f2,f3,f4,f5⟩:=hf it (by simp)
    exact wpAny_pyNext_range_end (I.ok.hd hc) st (by have:n ≤ i:=hg; lia) fun h' eb=>⟨rfl,I.turned (t':=s.toks) (fun b o hb e=>eb b o hb e) f0 f1 f3 f4 f5⟩
  self:=fun _ _ _ _ _ st h=>wpAny_pyIter_rangeiter st h
end L2
namespace L2
open PySem PySem.Spec PyProof.Rows
section
variable {X:Cx} {tg:Expr}
inductive iListI (K:PySem.W.Frag) (R:(It → Hp → Prop)) (x:V) (H1:Hp):Prop
  | mk (a:_) (h1_:x = .ref a) (h2_:(∃ xs,SqL K H1 a xs)) (h3_:R (Itl K a) H1):iListI K R x H1
def iList (K:PySem.W.Frag) (tl:TE):TI:=fun σ H R=>tl σ H fun x H1=>iListI K R x H1
theorem pi_list {l:Expr} {tl:TE} (hl:PE X l tl):PI X tg l (iList X.K tl):=by
  intro pins s σ H R I h
  refine thn (hl pins s σ H _ I h) fun v s1 ⟨x,H1,I1,r1,q1⟩=>?_
  obtain ⟨a,e,⟨xs,hq⟩,q⟩:=q1
  subst e
  cases r1
  obtain ⟨its,rv,p,hz⟩:=I1.list hq
  refine wpAny_pyIter_list p.isList ?_
  refine ⟨s1.heap.objs.size,[s1.heap.objs.size],_,_,H1,rfl,I1.kept (t':=s1.toks) fun b o e=>Heap.get?_push_of_some _ e,turn_list a _,⟨_,Heap.get?_push_size _ rfl,rfl,rfl⟩,fun b hb=>?_,q⟩
  have e:b = s1.heap.objs.size:=by simpa using hb
  subst e
  exact I1.fpOk (Nat.le_refl _) (I1.hok.fresh (Nat.le_refl _))
theorem range_it {pins:List (Addr × Obj)} {σ:St} {H:Hp} {s:Shared} {R:It → Hp → Prop} {E:Value → Shared → Prop} {lo hi:Int} {t u v:Tok} {tk:Nat} (I:Inv X pins σ H s) (h1:-(2 ^ 62) ≤ lo) (h2:lo < 2 ^ 62) (h3:-(2 ^ 62) ≤ hi) (h4:hi < 2 ^ 62)
    (q:R (Itr lo (hi - lo).toNat) H):wpAny (model X.prog X.w) X.A (pyIter (.ref s.heap.objs.size)) (PIE X pins σ tg R) E { s with heap:=s.heap.push { cls:=.type "range",data:=.fields #[.int lo t,.int hi u,.int 1 v] },toks:=tk }:=by
  refine wpAny_pyIter_range (IsRange.new ..) (small_one h1 h2 h3 h4) ?_
  have I1:Inv X pins σ H { s with heap:=s.heap.push { cls:=.type "range",data:=.fields #[.int lo t,.int hi u,.int 1 v] },toks:=tk }:=I.kept fun b o e=>Heap.get?_push_of_some _ e
  refine ⟨(s.heap.push { cls:=.type "range",data:=.fields #[.int lo t,.int hi u,.int 1 v] }).objs.size,[(s.heap.push { cls:=.type "range",data:=.fields #[.int lo t,.int hi u,.int 1 v] }).objs.size],_,_,H,rfl,
    I1.kept (t':=tk) fun b o e=>Heap.get?_push_of_some _ e,turn_range _ lo (hi - lo).toNat,?_,fun b hb=>?_,q⟩
  · have e1:lo + ((0:Nat):Int) * 1 = lo:=by simp
    have e2:(((hi - lo).toNat:Nat):Int) - ((0:Nat):Int) = Builtin.Range.rangeSize lo hi 1:=by rw [rangeSize_one]; split <;> lia
    show IsRangeIter _ _ (lo + ((0:Nat):Int) * 1) ((((hi - lo).toNat:Nat):Int) - ((0:Nat):Int)) 1
    rw [e1,e2]
    exact Heap.get?_push_size _ rfl
  · have e:b = (s.heap.push { cls:=.type "range",data:=.fields #[.int lo t,.int hi u,.int 1 v] }).objs.size:=by simpa using hb
    subst e
    exact I1.fpOk (Nat.le_refl _) (I1.hok.fresh (Nat.le_refl _))
inductive iRng1I (R:(It → Hp → Prop)) (vs:List V) (H1:Hp):Prop
  | mk (j:Int) (h1_:vs = [.int j]) (h2_:-(2 ^ 62) ≤ j) (h3_:j < 2 ^ 62) (h4_:R (Itr 0 j.toNat) H1):iRng1I R vs H1
def iRng1 (ta:TA):TI:=fun σ H R=>ta σ H fun vs H1=>iRng1I R vs H1
inductive iRng2I (R:(It → Hp → Prop)) (vs:List V) (H1:Hp):Prop
  | mk (i j:Int) (h1_:vs = [.int i,.int j]) (h2_:(-(2 ^ 62) ≤ i ∧ i < 2 ^ 62 ∧ -(2 ^ 62) ≤ j ∧ j < 2 ^ 62)) (h3_:R (Itr i (j - i).toNat) H1):iRng2I R vs H1
def iRng2 (ta:TA):TI:=fun σ H R=>ta σ H fun vs H1=>iRng2I R vs H1
theorem pi_range1 {a:Expr} {ta:TA} {p pos:Pos} (hg:Gl X "range") (hm:X.mg "range" = none) (ha:PA X [a] ta) (hs:starEach [a] X.env = [(false,eval a X.env)]:=by rfl):PI X tg (.Call (.Name "range" p) [a] [] pos) (iRng1 ta):=by
  intro pins s σ H R I h
  refine Call_ (ld_blt I hg hm boot_range (PyProof.Rows.callWith_type1 (thn (ha pos pins s σ H _ I h) fun us s1 ⟨vs,H1,I1,r1,q1⟩=>?_) hs rfl))
  obtain ⟨j,e,q1,q2,q⟩:=q1
  subst e
  cases r1 with
  | cons r rr =>
    cases rr
    obtain ⟨t,rfl⟩:=r
    exact call_range_1 (range_it I1 (by lia) (by lia) q1 q2 (by simpa using q))
theorem pi_range2 {a b:Expr} {ta:TA} {p pos:Pos} (hg:Gl X "range") (hm:X.mg "range" = none) (ha:PA X [a,b] ta) (hs:starEach [a,b] X.env = [(false,eval a X.env),(false,eval b X.env)]:=by rfl) (hs2:starEach [b] X.env = [(false,eval b X.env)]:=by rfl) :
    PI X tg (.Call (.Name "range" p) [a,b] [] pos) (iRng2 ta):=by
  intro pins s σ H R I h
  refine Call_ (ld_blt I hg hm boot_range (PyProof.Rows.callWith_type1 (thn (ha pos pins s σ H _ I h) fun us s1 ⟨vs,H1,I1,r1,q1⟩=>?_) (by rw [hs,hs2]) (by rw [hs2]; rfl)))
  obtain ⟨i,j,e,⟨q1,q2,q3,q4⟩,q⟩:=q1
  subst e
  cases r1 with
  | cons r rr =>
    cases rr with
    | cons r' rr =>
      cases rr
      obtain ⟨t,rfl⟩:=r
      obtain ⟨t',rfl⟩:=r'
      exact call_range_2 (range_it I1 q1 q2 q3 q4 q)
def tFor (wi:TI) (g:TG) (tb:TS):TS:=fun D σ H=>wi σ H fun J H1=>∃ W:Nat → Nat → St → Hp → Prop,(∃ m,W 0 m σ H1) ∧ ∀ i m σ H,W i m σ H →
  (J.stop i H ∧ D.nx σ H) ∨ (J.go i H ∧ ∃ N:St → Hp → Prop,(∀ σ' H',N σ' H' → ∃ m',m' < m ∧ W (i + 1) m' σ' H') ∧ ∀ x H',J.yld i H x H' → g x σ H' fun σ2 H2=>tb { D with nx:=N,ct:=N,bk:=D.nx } σ2 H2)
def pinsAt (fp:List Addr) (h:Heap):List (Addr × Obj):=fp.filterMap fun b=>(h.get? b).map fun o=>(b,o)
theorem mem_pinsAt {fp:List Addr} {h:Heap} {b:Addr} {o:Obj} (hb:b ∈ fp) (e:h.get? b = some o):(b,o) ∈ pinsAt fp h:=List.mem_filterMap.mpr ⟨b,hb,by rw [e]; rfl⟩
theorem of_pinsAt {fp:List Addr} {h:Heap} {p:Addr × Obj} (hp:p ∈ pinsAt fp h):p.1 ∈ fp ∧ h.get? p.1 = some p.2:=by
  obtain ⟨b,hb,e⟩:=List.mem_filterMap.mp hp
  cases q:h.get? b with
  | none=>rw [q] at e; cases e
  | some o =>
    rw [q] at e
    have e':(b,o) = p:=Option.some.inj e
    subst e'
    exact ⟨hb,q⟩
theorem Inv.pinned {pins:List (Addr × Obj)} {σ:St} {H:Hp} {s:Shared} {fp:List Addr} (I:Inv X pins σ H s) (hf:∀ b ∈ fp,FpOk X pins H b) (ho:∀ b ∈ fp,∃ o,s.heap.get? b = some o ∧ ∀ v,o.data ≠ .cell v):Inv X (pins ++ pinsAt fp s.heap) σ H s :=
  I.pins_of fun p hp=>(List.mem_append.mp hp).elim (fun z=>I.pin p (List.mem_append_right _ z)) fun z=>by
    obtain ⟨hb,e⟩:=of_pinsAt z
    obtain ⟨f0,f1,f2,_⟩:=hf p.1 hb
    obtain ⟨o,e',d⟩:=ho p.1 hb
    rw [e] at e'; cases e'
    exact ⟨e,f0,f1,f2,d⟩
theorem Inv.unpinned {pins pl:List (Addr × Obj)} {σ:St} {H:Hp} {s:Shared} (I:Inv X (pins ++ pl) σ H s):Inv X pins σ H s:=I.pins_of fun p hp=>I.pin p (List.mem_append_right _ (List.mem_append_left _ hp))
theorem ps_for {iter:Expr} {body:List Stmt} {wi:TI} {g:TG} {tb:TS} {pos:Pos} (hp:PassesOwn (model X.prog X.w) X.A X.env X.xe) (hc:X.calm = true) (hi:PI X tg iter wi) (hg:PG X tg g) (hb:PSs X body tb)
    (hs:∀ x,foldedSetIterable iter X.env x = pure x:=by intro _; rfl):PS X (.For tg iter body [] pos) (tFor wi g tb):=by
  intro pins s σ H D I h
  refine wpAny_For (thn (hi pins s σ H _ I h) fun v s1 h1=>thn h1 fun itv s2 h2=>?_) hs
  obtain ⟨it,fp,tn,J,H2,e,I2,T,st2,f2,W,⟨m0,w0⟩,turn⟩:=h2
  subst e
  have stat:∀ {H':Hp},(∀ b ∈ fp,H' b = none) → ∀ b ∈ fp,FpOk X pins H' b:=fun hn b hb=>⟨hn b hb,(f2 b hb).2⟩
  refine codeAny_forLoop_any (fun n s'=>∃ i σ' H',Inv X pins σ' H' s' ∧ tn i s'.heap ∧ (∀ b ∈ fp,H' b = none) ∧ W i n σ' H') ?_ m0 ⟨0,σ,H2,I2,st2,fun b hb=>(f2 b hb).1,w0⟩
  rintro n s3 ⟨i,σ3,H3,I3,st3,fr3,w3⟩
  rcases turn i n σ3 H3 w3 with ⟨stop,qn⟩ | ⟨go,N,hN,step⟩
  · refine wpAny_passesOwn hp (thn (T.done X rfl rfl rfl hc i pins s3 σ3 H3 X.xe I3 (stat fr3) st3 stop) fun r s4 ⟨hr,I4⟩=>?_)
    subst hr
    exact wpAny_execs_nil ⟨σ3,H3,I4,qn⟩
  · refine wpAny_passesOwn hp (thn (T.item X rfl rfl rfl hc i pins s3 σ3 H3 X.xe I3 (stat fr3) st3 go) fun r s4 ⟨u,hr,h4⟩=>?_)
    subst hr
    refine wpAny_passesOwn hp (thn h4 fun _ s5 ⟨x,H5,I5,r5,y5,st5,fr5⟩=>?_)
    have I5':=I5.pinned (stat fr5) (T.obj _ _ st5)
    refine wpAny_passesOwn hp (thn (hg _ s5 σ3 H5 x u _ I5' r5 (step x H5 y5)) fun _ s6 ⟨σ6,H6,I6,q6⟩=>?_)
    refine wpAny_passesOwn hp (thn (hb _ s6 σ6 H6 _ I6 q6) fun f s7 q7=>?_)
    have again:∀ {σ7:St} {H7:Hp},Inv X (pins ++ pinsAt fp s5.heap) σ7 H7 s7 → N σ7 H7 → ∃ m,m < n ∧ ∃ i σ' H',Inv X pins σ' H' s7 ∧ tn i s7.heap ∧ (∀ b ∈ fp,H' b = none) ∧ W i m σ' H':=fun {σ7 H7} I7 n7=>by
      obtain ⟨m',hm,w7⟩:=hN σ7 H7 n7
      refine ⟨m',hm,i + 1,σ7,H7,I7.unpinned,T.keep _ _ _ st5 fun b hb o e=>(I7.pin (b,o) (List.mem_append_right _ (List.mem_append_right _ (mem_pinsAt hb e)))).1,fun b hb=>?_,w7⟩
      obtain ⟨o,e,d⟩:=T.obj _ _ st5 b hb
      exact (I7.pin (b,o) (List.mem_append_right _ (List.mem_append_right _ (mem_pinsAt hb e)))).2.1
    cases f with
    | next=>obtain ⟨σ7,H7,I7,n7⟩:=q7; exact again I7 n7
    | cont=>obtain ⟨σ7,H7,I7,n7⟩:=q7; exact again I7 n7
    | brk=>obtain ⟨σ7,H7,I7,q7⟩:=q7; exact ⟨σ7,H7,I7.unpinned,q7⟩
    | ret v=>obtain ⟨x7,σ7,H7,I7,r7,q7⟩:=q7; exact ⟨x7,σ7,H7,I7.unpinned,r7,q7⟩
end
theorem for_list {K:PySem.W.Frag} {a:Addr} {xs:List V} {g:TG} {tb:TS} {D:Ends} {σ:St} {H:Hp} (Pv:Nat → St → Hp → Prop) (h0:Pv 0 σ H) (hl:∀ i σ H,i ≤ xs.length → Pv i σ H → SqL K H a xs)
    (hs:∀ i x σ H,xs[i]? = some x → Pv i σ H → g x σ H fun σ2 H2=>tb { D with nx:=Pv (i + 1),ct:=Pv (i + 1),bk:=D.nx } σ2 H2) (hd:∀ σ H,Pv xs.length σ H → D.nx σ H) :
    ∃ W:Nat → Nat → St → Hp → Prop,(∃ m,W 0 m σ H) ∧ ∀ i m σ H,W i m σ H →
      ((Itl K a).stop i H ∧ D.nx σ H) ∨ ((Itl K a).go i H ∧ ∃ N:St → Hp → Prop,(∀ σ' H',N σ' H' → ∃ m',m' < m ∧ W (i + 1) m' σ' H') ∧ ∀ x H',(Itl K a).yld i H x H' → g x σ H' fun σ2 H2=>tb { D with nx:=N,ct:=N,bk:=D.nx } σ2 H2):=by
  refine ⟨fun i m σ H=>m = xs.length - i ∧ i ≤ xs.length ∧ Pv i σ H,⟨xs.length,by simp,Nat.zero_le _,h0⟩,?_⟩
  rintro i m σ H ⟨rfl,hi,p⟩
  have q:=hl i σ H hi p
  by_cases hlt:i < xs.length
  · refine .inr ⟨⟨xs,xs[i],q,by simp [hlt]⟩,Pv (i + 1),fun σ' H' p'=>⟨xs.length - (i + 1),by lia,rfl,hlt,p'⟩,fun x H' y=>?_⟩
    obtain ⟨e,y⟩:=y
    subst e
    exact hs i x σ _ (y xs q) p
  · have e:i = xs.length:=by lia
    subst e
    exact .inl ⟨⟨xs,q,Nat.le_refl _⟩,hd σ H p⟩
theorem for_range {lo:Int} {n:Nat} {g:TG} {tb:TS} {D:Ends} {σ:St} {H:Hp} (Pv:Nat → St → Hp → Prop) (h0:Pv 0 σ H)
    (hs:∀ i σ H,i < n → Pv i σ H → g (.int (lo + i)) σ H fun σ2 H2=>tb { D with nx:=Pv (i + 1),ct:=Pv (i + 1),bk:=D.nx } σ2 H2) (hd:∀ σ H,Pv n σ H → D.nx σ H) :
    ∃ W:Nat → Nat → St → Hp → Prop,(∃ m,W 0 m σ H) ∧ ∀ i m σ H,W i m σ H →
      ((Itr lo n).stop i H ∧ D.nx σ H) ∨ ((Itr lo n).go i H ∧ ∃ N:St → Hp → Prop,(∀ σ' H',N σ' H' → ∃ m',m' < m ∧ W (i + 1) m' σ' H') ∧ ∀ x H',(Itr lo n).yld i H x H' → g x σ H' fun σ2 H2=>tb { D with nx:=N,ct:=N,bk:=D.nx } σ2 H2):=by
  refine ⟨fun i m σ H=>m = n - i ∧ i ≤ n ∧ Pv i σ H,⟨n,by simp,Nat.zero_le _,h0⟩,?_⟩
  rintro i m σ H ⟨rfl,hi,p⟩
  by_cases hlt:i < n
  · refine .inr ⟨hlt,Pv (i + 1),fun σ' H' p'=>⟨n - (i + 1),by lia,rfl,hlt,p'⟩,fun x H' y=>?_⟩
    obtain ⟨e,y⟩:=y
    subst e y
    exact hs i σ _ hlt p
  · have e:i = n:=by lia
    subst e
    exact .inl ⟨Nat.le_refl _,hd σ H p⟩
end L2
namespace L2
open PySem PySem.Spec PyProof.Rows
abbrev R2:=V → V → Hp → VK → Prop
def OpR (X:Cx) (f:Value → Value → Sem Value) (r:R2):Prop :=
  ∀ (pins:List (Addr × Obj)) (s:Shared) (σ:St) (H:Hp) (x y:V) (v u:Value) (Q:VK),Inv X pins σ H s → RelV x v → RelV y u → r x y H Q →
    wpAny (model X.prog X.w) X.A (f v u) (EP X pins σ Q) X.xe s
def UnR (X:Cx) (f:Value → Sem Value) (r:V → Hp → VK → Prop):Prop :=
  ∀ (pins:List (Addr × Obj)) (s:Shared) (σ:St) (H:Hp) (x:V) (v:Value) (Q:VK),Inv X pins σ H s → RelV x v → r x H Q →
    wpAny (model X.prog X.w) X.A (f v) (EP X pins σ Q) X.xe s
def CallR (X:Cx) (f:Value) (r:List V → Hp → VK → Prop):Prop :=
  ∀ (pins:List (Addr × Obj)) (s:Shared) (σ:St) (H:Hp) (xs:List V) (us:List Value) (Q:VK),Inv X pins σ H s → Vals xs us → r xs H Q →
    wpAny (model X.prog X.w) X.A (call f us) (EP X pins σ Q) X.xe s
def TruR (X:Cx) (r:V → Hp → (Bool → Hp → Prop) → Prop):Prop :=
  ∀ (pins:List (Addr × Obj)) (s:Shared) (σ:St) (H:Hp) (x:V) (v:Value) (Q:Bool → Hp → Prop),Inv X pins σ H s → RelV x v → r x H Q →
    wpAny (model X.prog X.w) X.A (truthy v) (TP X pins σ Q) X.xe s
def tOp (r:R2) (ta tb:TE):TE:=fun σ H Q=>ta σ H fun x H1=>tb σ H1 fun y H2=>r x y H2 Q
def tUn (r:V → Hp → VK → Prop) (ta:TE):TE:=fun σ H Q=>ta σ H fun x H1=>r x H1 Q
inductive rI (C:Int → Int → Prop) (g:Int → Int → V) (x:V) (y:V) (H:Hp) (Q:VK):Prop
  | mk (i:_) (j:_) (h1_:x = .int i) (h2_:y = .int j) (h3_:C i j) (h4_:Q (g i j) H):rI C g x y H Q
inductive rI0 (g:Int → Int → V) (x:V) (y:V) (H:Hp) (Q:VK):Prop
  | mk (i:_) (j:_) (h1_:x = .int i) (h2_:y = .int j) (h3_:Q (g i j) H):rI0 g x y H Q
inductive rU (g:Int → V) (x:V) (H:Hp) (Q:VK):Prop
  | mk (i:_) (h1_:x = .int i) (h2_:Q (g i) H):rU g x H Q
section
variable {X:Cx} {a b c:Expr} {ta tb tc:TE} {pos:Pos}
theorem binT (ha:PE X a ta) (hb:PE X b tb) {pins:List (Addr × Obj)} {s:Shared} {σ:St} {H:Hp} {R:V → V → Hp → Prop} (I:Inv X pins σ H s)
    (h:ta σ H fun x H1=>tb σ H1 fun y H2=>R x y H2) {Q:Value → Shared → Prop} {f:Value → Value → Sem Value}
    (hf:∀ v u s2 x y H2,Inv X pins σ H2 s2 → RelV x v → RelV y u → R x y H2 → wpAny (model X.prog X.w) X.A (f v u) Q X.xe s2) :
    wpAny (model X.prog X.w) X.A (eval a X.env) (fun v s₁=>wpAny (model X.prog X.w) X.A (eval b X.env) (fun u s₂=>wpAny (model X.prog X.w) X.A (f v u) Q X.xe s₂) X.xe s₁) X.xe s:=by
  refine thn (ha pins s σ H _ I h) fun v s1 ⟨x,H1,I1,r1,q1⟩=>?_
  refine thn (hb pins s1 σ H1 _ I1 q1) fun u s2 ⟨y,H2,I2,r2,q2⟩=>?_
  exact hf v u s2 x y H2 I2 r1 r2 q2
theorem pe_op {op:Operator} {r:R2} (ho:OpR X (binaryOp op) r) (ha:PE X a ta) (hb:PE X b tb):PE X (.BinOp a op b pos) (tOp r ta tb):=by
  intro pins s σ H Q I h
  exact wpAny_BinOp (binT ha hb I h fun v u s2 x y H2 I2 rx ry q=>ho pins s2 σ H2 x y v u Q I2 rx ry q)
theorem pe_un {op:UnaryOp} {r:V → Hp → VK → Prop} (ho:UnR X (unaryOp op) r) (ha:PE X a ta):PE X (.UnaryOp op a pos) (tUn r ta):=by
  intro pins s σ H Q I h
  exact UnaryOp_ (thn (ha pins s σ H _ I h) fun v s1 ⟨x,H1,I1,r1,q1⟩=>ho pins s1 σ H1 x v Q I1 r1 q1)
theorem opI {f:Value → Value → Sem Value} {C:Int → Int → Prop} {g:Int → Int → Int}
    (rule:∀ (i j:Int) (t u:Tok) (s:Shared) (Q:Value → Shared → Prop) (E:Value → Shared → Prop),C i j → Q (.int (g i j) s.toks) { s with toks:=s.toks + 1 } → wpAny (model X.prog X.w) X.A (f (.int i t) (.int j u)) Q E s) :
    OpR X f (rI C fun i j=>.int (g i j)):=by
  intro pins s σ H x y v u Q I rx ry h
  obtain ⟨i,j,rfl,rfl,hc,q⟩:=h
  obtain ⟨t,rfl⟩:=rx
  obtain ⟨t',rfl⟩:=ry
  exact rule i j t t' s _ _ hc ⟨.int (g i j),H,I.tok _,⟨_,rfl⟩,q⟩
theorem opI0 {f:Value → Value → Sem Value} {g:Int → Int → Int}
    (rule:∀ (i j:Int) (t u:Tok) (s:Shared) (Q:Value → Shared → Prop) (E:Value → Shared → Prop),Q (.int (g i j) s.toks) { s with toks:=s.toks + 1 } → wpAny (model X.prog X.w) X.A (f (.int i t) (.int j u)) Q E s) :
    OpR X f (rI0 fun i j=>.int (g i j)):=by
  intro pins s σ H x y v u Q I rx ry h
  obtain ⟨i,j,rfl,rfl,q⟩:=h
  obtain ⟨t,rfl⟩:=rx
  obtain ⟨t',rfl⟩:=ry
  exact rule i j t t' s _ _ ⟨.int (g i j),H,I.tok _,⟨_,rfl⟩,q⟩
theorem opB0 {f:Value → Value → Sem Value} {g:Int → Int → Bool}
    (rule:∀ (i j:Int) (t u:Tok) (s:Shared) (Q:Value → Shared → Prop) (E:Value → Shared → Prop),Q (.bool (g i j)) s → wpAny (model X.prog X.w) X.A (f (.int i t) (.int j u)) Q E s) :
    OpR X f (rI0 fun i j=>.bl (g i j)):=by
  intro pins s σ H x y v u Q I rx ry h
  obtain ⟨i,j,rfl,rfl,q⟩:=h
  obtain ⟨t,rfl⟩:=rx
  obtain ⟨t',rfl⟩:=ry
  exact rule i j t t' s _ _ ⟨.bl (g i j),H,I,rfl,q⟩
def CDiv (i j:Int):Prop:=0 < j ∧ j < 1073741824
def CPow (i j:Int):Prop:=0 ≤ j ∧ j ≤ 1000000 ∧ i.natAbs < 2 ^ 64
def CMul (i j:Int):Prop:=(-(2 ^ 64) < i ∧ i < 2 ^ 64) ∨ (-(2 ^ 64) < j ∧ j < 2 ^ 64)
theorem CMul.ok {i j:Int} (h:CMul i j):IntMulOk i j:=by
  rcases h with ⟨h1,h2⟩ | ⟨h1,h2⟩
  · exact .of_left (intBits_le_64 h1 h2)
  · exact .of_right (intBits_le_64 h1 h2)
theorem op_add:OpR X (binaryOp .Add) (rI0 fun i j=>.int (i + j)):=opI0 fun _ _ _ _ _ _ _ q=>add_int q
theorem op_sub:OpR X (binaryOp .Sub) (rI0 fun i j=>.int (i - j)):=opI0 fun _ _ _ _ _ _ _ q=>sub_int q
theorem op_mul:OpR X (binaryOp .Mult) (rI CMul fun i j=>.int (i * j)):=opI fun _ _ _ _ _ _ _ hc q=>mul_int q hc.ok
theorem op_fdiv:OpR X (binaryOp .FloorDiv) (rI CDiv fun i j=>.int (i / j)):=opI fun i j _ _ _ _ _ hc q=>by
  have h1:(0:Int) < j:=hc.1
  have h2:j < 1073741824:=hc.2
  exact floordiv_int (by lia) (by rw [Int.fdiv_eq_ediv_of_nonneg i (by lia)]; exact q) (.inl (PyProof.noPylong_small (by lia)))
theorem op_mod:OpR X (binaryOp .Mod) (rI (fun _ j=>0 < j) fun i j=>.int (i % j)):=opI fun i j _ _ _ _ _ hc q=>by
  have h1:(0:Int) < j:=hc
  exact mod_int' (by lia) (by rw [Int.fmod_eq_emod_of_nonneg i (by lia)]; exact q)
theorem op_pow:OpR X (binaryOp .Pow) (rI CPow fun i j=>.int (i ^ j.toNat)):=opI fun _ _ _ _ _ _ _ hc q=>pow_int_small hc.1 hc.2.1 hc.2.2 q
theorem unI {f:Value → Sem Value} {g:Int → Int}
    (rule:∀ (i:Int) (t:Tok) (s:Shared) (Q:Value → Shared → Prop) (E:Value → Shared → Prop),Q (.int (g i) s.toks) { s with toks:=s.toks + 1 } → wpAny (model X.prog X.w) X.A (f (.int i t)) Q E s) :
    UnR X f (rU fun i=>.int (g i)):=by
  intro pins s σ H x v Q I rx h
  obtain ⟨i,rfl,q⟩:=h
  obtain ⟨t,rfl⟩:=rx
  exact rule i t s _ _ ⟨.int (g i),H,I.tok _,⟨_,rfl⟩,q⟩
theorem un_neg:UnR X (unaryOp .USub) (rU fun i=>.int (-i)):=unI fun _ _ _ _ _ q=>neg_int q
end
def scal:V → V → Bool
  | .non,.non=>true | .non,.int _=>true | .int _,.non=>true | .non,.bl _=>true | .bl _,.non=>true | .non,.str _=>true | .str _,.non=>true
  | .int _,.int _=>true | .bl _,.bl _=>true | .str _,.str _=>true | .byt _,.byt _=>true
  | .int _,.str _=>true | .str _,.int _=>true | .bl _,.str _=>true | .str _,.bl _=>true
  | _,_=>false
def rEq:R2:=fun x y H Q=>scal x y = true ∧ Q (.bl (decide (x = y))) H
def rNe:R2:=fun x y H Q=>scal x y = true ∧ Q (.bl (!decide (x = y))) H
theorem dec_int {i j:Int}:decide (V.int i = V.int j) = (i == j):=by
  rw [Bool.eq_iff_iff]
  simp
theorem dec_bl {i j:Bool}:decide (V.bl i = V.bl j) = (i == j):=by
  rw [Bool.eq_iff_iff]
  simp
theorem dec_str {i j:Str}:decide (V.str i = V.str j) = (i == j):=by
  rw [Bool.eq_iff_iff]
  simp
theorem dec_byt {i j:Array UInt8}:decide (V.byt i = V.byt j) = (i.toList == j.toList):=by
  rw [Bool.eq_iff_iff]
  cases i
  cases j
  simp
section
variable {X:Cx} {a b c:Expr} {ta tb tc:TE} {pos:Pos}
theorem fin_bl {pins:List (Addr × Obj)} {σ:St} {H:Hp} {s:Shared} {Q:VK} {k k':Bool} (I:Inv X pins σ H s) (q:Q (.bl k) H) (e:k = k'):EP X pins σ Q (.bool k') s:=by
  subst e
  exact ⟨.bl k,H,I,rfl,q⟩
theorem op_eq:OpR X (compareOp .Eq) rEq:=by
  intro pins s σ H x y v u Q I rx ry h
  obtain ⟨hs,q⟩:=h
  cases x with
  | non =>
    cases rx
    cases y with
    | non=>cases ry; exact PySem.EqNone.eq_none_none (fin_bl I q (by simp))
    | bl j=>cases ry; exact PySem.EqNone.eq_none_bool (fin_bl I q (by simp))
    | int j=>obtain ⟨t',rfl⟩:=ry; exact PySem.EqNone.eq_none_int (fin_bl I q (by simp))
    | str j=>obtain ⟨t',rfl⟩:=ry; exact PySem.EqNone.eq_none_str (fin_bl I q (by simp))
    | _=>exact absurd (show false = true from hs) Bool.false_ne_true
  | bl i =>
    cases rx
    cases y with
    | non=>cases ry; exact PySem.EqNone.eq_bool_none (fin_bl I q (by simp))
    | bl j=>cases ry; exact eq_bool (fin_bl I q dec_bl)
    | str j=>obtain ⟨t',rfl⟩:=ry; exact PySem.EqMixed.eq_bool_str (fin_bl I q (by simp))
    | _=>exact absurd (show false = true from hs) Bool.false_ne_true
  | int i =>
    obtain ⟨t,rfl⟩:=rx
    cases y with
    | non=>cases ry; exact PySem.EqNone.eq_int_none (fin_bl I q (by simp))
    | int j=>obtain ⟨t',rfl⟩:=ry; exact eq_int (fin_bl I q dec_int)
    | str j=>obtain ⟨t',rfl⟩:=ry; exact PySem.EqMixed.eq_int_str (fin_bl I q (by simp))
    | _=>exact absurd (show false = true from hs) Bool.false_ne_true
  | str i =>
    obtain ⟨t,rfl⟩:=rx
    cases y with
    | non=>cases ry; exact PySem.EqNone.eq_str_none (fin_bl I q (by simp))
    | bl j=>cases ry; exact PySem.EqMixed.eq_str_bool (fin_bl I q (by simp))
    | int j=>obtain ⟨t',rfl⟩:=ry; exact PySem.EqMixed.eq_str_int (fin_bl I q (by simp))
    | str j=>obtain ⟨t',rfl⟩:=ry; exact eq_str (fin_bl I q dec_str)
    | _=>exact absurd (show false = true from hs) Bool.false_ne_true
  | byt i =>
    obtain ⟨t,rfl⟩:=rx
    cases y with
    | byt j=>obtain ⟨t',rfl⟩:=ry; exact PySem.W.eq_bytes (fin_bl I q dec_byt)
    | _=>exact absurd (show false = true from hs) Bool.false_ne_true
  | _=>cases y <;> exact absurd (show false = true from hs) Bool.false_ne_true
theorem op_ne:OpR X (compareOp .NotEq) rNe:=by
  intro pins s σ H x y v u Q I rx ry h
  obtain ⟨hs,q⟩:=h
  cases x with
  | non =>
    cases rx
    cases y with
    | non=>cases ry; exact PySem.EqNone.ne_none_none (fin_bl I q (by simp))
    | bl j=>cases ry; exact PySem.EqNone.ne_none_bool (fin_bl I q (by simp))
    | int j=>obtain ⟨t',rfl⟩:=ry; exact PySem.EqNone.ne_none_int (fin_bl I q (by simp))
    | str j=>obtain ⟨t',rfl⟩:=ry; exact PySem.EqNone.ne_none_str (fin_bl I q (by simp))
    | _=>exact absurd (show false = true from hs) Bool.false_ne_true
  | bl i =>
    cases rx
    cases y with
    | non=>cases ry; exact PySem.EqNone.ne_bool_none (fin_bl I q (by simp))
    | bl j=>cases ry; exact ne_bool (fin_bl I q (congrArg not dec_bl))
    | str j=>obtain ⟨t',rfl⟩:=ry; exact PySem.EqMixed.ne_bool_str (fin_bl I q (by simp))
    | _=>exact absurd (show false = true from hs) Bool.false_ne_true
  | int i =>
    obtain ⟨t,rfl⟩:=rx
    cases y with
    | non=>cases ry; exact PySem.EqNone.ne_int_none (fin_bl I q (by simp))
    | int j=>obtain ⟨t',rfl⟩:=ry; exact ne_int (fin_bl I q (congrArg not dec_int))
    | str j=>obtain ⟨t',rfl⟩:=ry; exact PySem.EqMixed.ne_int_str (fin_bl I q (by simp))
    | _=>exact absurd (show false = true from hs) Bool.false_ne_true
  | str i =>
    obtain ⟨t,rfl⟩:=rx
    cases y with
    | non=>cases ry; exact PySem.EqNone.ne_str_none (fin_bl I q (by simp))
    | bl j=>cases ry; exact PySem.EqMixed.ne_str_bool (fin_bl I q (by simp))
    | int j=>obtain ⟨t',rfl⟩:=ry; exact PySem.EqMixed.ne_str_int (fin_bl I q (by simp))
    | str j=>obtain ⟨t',rfl⟩:=ry; exact ne_str (fin_bl I q (congrArg not dec_str))
    | _=>exact absurd (show false = true from hs) Bool.false_ne_true
  | byt i =>
    obtain ⟨t,rfl⟩:=rx
    cases y with
    | byt j=>obtain ⟨t',rfl⟩:=ry; exact PySem.W.ne_bytes (fin_bl I q (congrArg not dec_byt))
    | _=>exact absurd (show false = true from hs) Bool.false_ne_true
  | _=>cases y <;> exact absurd (show false = true from hs) Bool.false_ne_true
theorem op_lt:OpR X (compareOp .Lt) (rI0 fun i j=>.bl (decide (i < j))):=opB0 fun _ _ _ _ _ _ _ q=>lt_int q
theorem op_le:OpR X (compareOp .LtE) (rI0 fun i j=>.bl (decide (i ≤ j))):=opB0 fun _ _ _ _ _ _ _ q=>le_int q
theorem op_gt:OpR X (compareOp .Gt) (rI0 fun i j=>.bl (decide (j < i))):=opB0 fun _ _ _ _ _ _ _ q=>gt_int q
theorem op_ge:OpR X (compareOp .GtE) (rI0 fun i j=>.bl (decide (j ≤ i))):=opB0 fun _ _ _ _ _ _ _ q=>ge_int q
theorem op_lt_str:OpR X (compareOp .Lt) (fun x y H Q=>∃ i j,x = .str i ∧ y = .str j ∧ Q (.bl (decide (i.cps.toList < j.cps.toList))) H):=by
  intro pins s σ H x y v u Q I rx ry h
  obtain ⟨i,j,rfl,rfl,q⟩:=h
  obtain ⟨t,rfl⟩:=rx
  obtain ⟨t',rfl⟩:=ry
  exact lt_str (fin_bl I q rfl)
theorem op_in_str:OpR X (compareOp .In) (fun x y H Q=>∃ i j,x = .str i ∧ y = .str j ∧ Q (.bl (!(Builtin.Str.occurrences j i 0 j.length 1).isEmpty)) H):=by
  intro pins s σ H x y v u Q I rx ry h
  obtain ⟨i,j,rfl,rfl,q⟩:=h
  obtain ⟨t,rfl⟩:=rx
  obtain ⟨t',rfl⟩:=ry
  exact in_str (fin_bl I q rfl)
theorem op_notin_str:OpR X (compareOp .NotIn) (fun x y H Q=>∃ i j,x = .str i ∧ y = .str j ∧ Q (.bl (!(!(Builtin.Str.occurrences j i 0 j.length 1).isEmpty))) H):=by
  intro pins s σ H x y v u Q I rx ry h
  obtain ⟨i,j,rfl,rfl,q⟩:=h
  obtain ⟨t,rfl⟩:=rx
  obtain ⟨t',rfl⟩:=ry
  exact notIn_str (fin_bl I q rfl)
theorem nomark (b:Expr) {op:CmpOp} (h:op ≠ .In:=by decide) (h2:op ≠ .NotIn:=by decide):behindInMarks op b = false:=by
  have e1:(op == CmpOp.In) = false:=by cases op <;> first | rfl | exact absurd rfl h
  have e2:(op == CmpOp.NotIn) = false:=by cases op <;> first | rfl | exact absurd rfl h2
  cases b <;> simp [behindInMarks,e1,e2]
theorem pe_cmpR {op:CmpOp} {r:R2} (ho:OpR X (compareOp op) r) (ha:PE X a ta) (hb:PE X b tb) (hm:behindInMarks op b = false):PE X (.Compare a [op] [b] pos) (tOp r ta tb):=by
  intro pins s σ H Q I h
  exact wpAny_Compare1 (binT ha hb I h fun v u s2 x y H2 I2 rx ry q=>ho pins s2 σ H2 x y v u Q I2 rx ry q) hm
inductive tTestI (H:Hp) (Q:(Bool → Hp → Prop)) (x:V) (H':Hp):Prop
  | mk (k:_) (h1_:x = .bl k) (h2_:Q k H'):tTestI H Q x H'
def tTest (t:TE):TT:=fun σ H Q=>t σ H fun x H'=>tTestI H Q x H'
theorem pt_cmpR {op:CmpOp} {r:R2} (ho:OpR X (compareOp op) r) (ha:PE X a ta) (hb:PE X b tb) (hm:behindInMarks op b = false):PT X (.Compare a [op] [b] pos) (tTest (tOp r ta tb)):=by
  intro pins s σ H Q I h
  refine wpAny_isTrue_Compare1 (thn (ha pins s σ H _ I h) fun v s1 ⟨x,H1,I1,r1,q1⟩=>thn (hb pins s1 σ H1 _ I1 q1) fun u s2 ⟨y,H2,I2,r2,q2⟩ =>
    thn (ho pins s2 σ H2 x y v u _ I2 r1 r2 q2) fun c s3 ⟨z,H3,I3,r3,k,e,q3⟩=>?_) hm
  subst e
  cases r3
  exact wpAny_truthy_bool ⟨H3,I3,q3⟩
def TruV (K:PySem.W.Frag) (x:V) (H:Hp) (k:Bool):Prop :=
  match x with
  | .non=>k = false
  | .bl b=>k = b
  | .int i=>k = (i != 0)
  | .str y=>y.length ≤ sizeLine ∧ k = ((y.length:Int) != 0)
  | .byt y=>y.size ≤ sizeLine ∧ k = ((y.size:Int) != 0)
  | .ref p=>(∃ xs,SqL K H p xs ∧ k = !xs.isEmpty) ∨ (∃ xs,SqT K H p xs ∧ k = !xs.isEmpty) ∨ ∃ kvs,H p = some (.dK kvs) ∧ k = !kvs.isEmpty
  | _=>False
theorem isEmpty_kv {κ:Type} {kvs:List (κ × V)} {vs:List (κ × Value)} (r:KV kvs vs):(!vs.isEmpty) = !kvs.isEmpty:=by
  cases r <;> rfl
theorem isEmpty_of {xs:List V} {its:List Value} (r:Vals xs its):(!its.toArray.isEmpty) = !xs.isEmpty:=by
  cases r <;> simp
theorem line63:(sizeLine:Nat) < 2 ^ 63:=by rw [sizeLine_eq]; decide
theorem tru_ok:TruR X (fun x H Q=>∃ k,TruV X.K x H k ∧ Q k H):=by
  intro pins s σ H x v Q I rx h
  obtain ⟨k,e,q⟩:=h
  have hl:=line63
  have hs:sizeLine = 16777216:=sizeLine_eq
  cases x with
  | non =>
    cases rx
    have e':k = false:=e
    subst e'
    exact truthy_none ⟨H,I,q⟩
  | bl b =>
    cases rx
    have e':k = b:=e
    subst e'
    exact wpAny_truthy_bool ⟨H,I,q⟩
  | int i =>
    obtain ⟨t,rfl⟩:=rx
    have e':k = (i != 0):=e
    subst e'
    exact PySem.P.truthy_int ⟨H,I,q⟩
  | str y =>
    obtain ⟨t,rfl⟩:=rx
    obtain ⟨hy,e'⟩:y.length ≤ sizeLine ∧ k = ((y.length:Int) != 0):=e
    subst e'
    exact PySem.P.truthy_str (by lia) ⟨H,I.tok _,q⟩
  | byt y =>
    obtain ⟨t,rfl⟩:=rx
    obtain ⟨hy,e'⟩:y.size ≤ sizeLine ∧ k = ((y.size:Int) != 0):=e
    subst e'
    exact PySem.W.truthy_bytes (by lia) ⟨H,I.tok _,q⟩
  | ref p =>
    cases rx
    have e':(∃ xs,SqL X.K H p xs ∧ k = !xs.isEmpty) ∨ (∃ xs,SqT X.K H p xs ∧ k = !xs.isEmpty) ∨ ∃ kvs,H p = some (.dK kvs) ∧ k = !kvs.isEmpty:=e
    rcases e' with ⟨xs,hx,e'⟩ | ⟨xs,hx,e'⟩ | ⟨kvs,hx,e'⟩
    · subst e'
      obtain ⟨its,r,pl,hz⟩:=I.list hx
      have hlen:=r.length
      exact wpAny_truthy_list pl.isList (by simp only [List.size_toArray]; lia) ⟨H,I.tok _,by rw [isEmpty_of r]; exact q⟩
    · subst e'
      obtain ⟨its,r,pl,hz⟩:=I.tuple hx
      have hlen:=r.length
      exact truthy_tuple pl (by simp only [List.size_toArray]; lia) ⟨H,I.tok _,by rw [isEmpty_of r]; exact q⟩
    · subst e'
      obtain ⟨hz,hS,vs,r,m⟩:kvs.length ≤ sizeLine ∧ (p == sysModules) = false ∧ ∃ vs,KV kvs vs ∧ s.heap.DictOf (mixKind X.prog X.w) p vs:=I.hok p _ hx
      have hlen:kvs.length = vs.length:=Paired.length r
      exact wpAny_truthy_dict hS m (by lia) ⟨H,I.tok _,by rw [isEmpty_kv r]; exact q⟩
  | _=>exact (show False from e).elim
theorem pt_truth (ha:PE X a ta) (he:∀ whole,isTrue a X.env whole = (do let v ← whole; standAt a.pos; holding [v] (truthy v))) :
    PT X a (fun σ H Q=>ta σ H fun x H'=>∃ k,TruV X.K x H' k ∧ Q k H'):=by
  intro pins s σ H Q I h
  exact isTrue_plain (thn (ha pins s σ H _ I h) fun v s1 ⟨x,H1,I1,r1,q1⟩=>tru_ok pins s1 σ H1 x v Q I1 r1 q1) (he _)
theorem op_add_str:OpR X (binaryOp .Add) (fun x y H Q=>∃ i j,x = .str i ∧ y = .str j ∧ i.length + j.length ≤ sizeLine ∧ Q (.str (i ++ j)) H):=by
  intro pins s σ H x y v u Q I rx ry h
  obtain ⟨i,j,rfl,rfl,hz,q⟩:=h
  obtain ⟨t,rfl⟩:=rx
  obtain ⟨t',rfl⟩:=ry
  exact add_str (fun t' tk=>⟨.str (i ++ j),H,I.tok _,⟨_,rfl⟩,q⟩) hz
theorem vals1 {x:V} {us:List Value} (r:Vals [x] us):∃ u,us = [u] ∧ RelV x u:=by
  cases r with
  | cons r1 r2=>cases r2; exact ⟨_,rfl,r1⟩
theorem vals2 {x y:V} {us:List Value} (r:Vals [x,y] us):∃ u w',us = [u,w'] ∧ RelV x u ∧ RelV y w':=by
  cases r with
  | cons r1 r2 =>
    cases r2 with
    | cons r3 r4=>cases r4; exact ⟨_,_,rfl,r1,r3⟩
theorem call_max2 (hc:X.calm = true):CallR X (.builtin "max") (fun xs H Q=>∃ i j,xs = [.int i,.int j] ∧ Q (.int (if j > i then j else i)) H):=by
  intro pins s σ H xs us Q I r h
  obtain ⟨i,j,rfl,q⟩:=h
  obtain ⟨u,w',rfl,⟨t,rfl⟩,⟨t',rfl⟩⟩:=vals2 r
  refine max_two_ints (I.ok.hd hc) fun h' tk k=>⟨_,H,I.kept k,?_,q⟩
  by_cases hj:j > i
  · rw [if_pos hj,if_pos hj]; exact ⟨_,rfl⟩
  · rw [if_neg hj,if_neg hj]; exact ⟨_,rfl⟩
theorem call_min2 (hc:X.calm = true):CallR X (.builtin "min") (fun xs H Q=>∃ i j,xs = [.int i,.int j] ∧ Q (.int (if j < i then j else i)) H):=by
  intro pins s σ H xs us Q I r h
  obtain ⟨i,j,rfl,q⟩:=h
  obtain ⟨u,w',rfl,⟨t,rfl⟩,⟨t',rfl⟩⟩:=vals2 r
  refine min_two_ints (I.ok.hd hc) fun h' tk k=>⟨_,H,I.kept k,?_,q⟩
  by_cases hj:j < i
  · rw [if_pos hj,if_pos hj]; exact ⟨_,rfl⟩
  · rw [if_neg hj,if_neg hj]; exact ⟨_,rfl⟩
theorem call_int1:CallR X (.type "int") (fun xs H Q=>(∃ i,xs = [.int i] ∧ Q (.int i) H) ∨ ∃ k,xs = [.bl k] ∧ Q (.int (if k then 1 else 0)) H):=by
  intro pins s σ H xs us Q I r h
  rcases h with ⟨i,rfl,q⟩ | ⟨k,rfl,q⟩
  · obtain ⟨u,rfl,t,rfl⟩:=vals1 r
    exact call_int_int ⟨.int i,H,I,⟨_,rfl⟩,q⟩
  · obtain ⟨u,rfl,r1⟩:=vals1 r
    cases r1
    exact call_int_bool ⟨.int (if k then 1 else 0),H,I.tok _,⟨_,rfl⟩,q⟩
end
end L2
namespace L2
open PySem PySem.Spec PyProof.Rows
structure ObjM (h:Heap) (x dx C:Addr) (mA:Str → Option Value):Prop where
  obj:h.get? x = some (PySem.W.instObj C dx)
  ns:h.Ns1 dx mA
  ne:dx ≠ x
theorem lookIn_ns {h:Heap} {dx:Addr} {mA:Str → Option Value} (n:h.Ns1 dx mA):∃ od,h.get? dx = some od ∧ ∀ name,PySem.W.lookIn name od = some (mA name):=by
  obtain ⟨o,es,ep,ho,hd,hk,_,hm⟩:=n
  refine ⟨o,ho,fun name=>?_⟩
  have e:=hm name
  unfold nsFind findBy at e
  rw [← Array.find?_toList] at e
  unfold PySem.W.lookIn
  rw [hd]
  dsimp only
  split
  · rename_i y q
    rw [q] at e
    exact congrArg some e
  · rename_i q
    rw [q] at e
    have a:es.toList.any (·.refKey) = false:=by
      rw [List.any_eq_false]
      intro y hy
      obtain ⟨z,t,hkey⟩:=hk y (Array.mem_toList_iff.mp hy)
      simp [DictEntry.refKey,hkey]
    have a':¬ es.toList.any (·.refKey) = true:=by rw [a]; exact Bool.false_ne_true
    rw [if_neg a']
    exact congrArg some e
theorem ObjM.look {h:Heap} {x dx C:Addr} {mA:Str → Option Value} (I:ObjM h x dx C mA):∃ od,PySem.W.InstAt h x (PySem.W.instObj C dx) C (some od) ∧ ∀ name,PySem.W.lookIn name od = some (mA name) :=
  let ⟨od,ho,hl⟩:=lookIn_ns I.ns
  ⟨od,⟨I.obj,rfl,rfl,ho⟩,hl⟩
section
variable {prog:Program} {w:World} {A:Around} {E:Value → Shared → Prop} {s:Shared} {K:PySem.W.Frag} {x dx C f:Addr} {mA:Str → Option Value} {name:Str} {v:Value}
end
theorem RelO.some_of {v:V} {o:Option Value} (r:RelO (some v) o):∃ u,o = some u ∧ RelV v u:=by
  cases o with
  | none=>exact (show False from r).elim
  | some u=>exact ⟨u,rfl,r⟩
section
variable {P:Program} {w:World} {H H':Hp} {h h':Heap} {a C dx:Addr} {fs fs':List (Str × V)}
theorem ins_get (hok:HOk P w H h) (e:H a = some (.ins C dx fs)):∃ mA,ObjM h a dx C mA ∧ (∀ f,RelO (fs.lookup f) (mA f)) ∧ PySem.Within mA (fs.map (·.1)) ∧ fs.length ≤ 1000 ∧ H dx = some (.own a):=by
  obtain ⟨d,z,ne,ob,mA,n,r,q⟩:=(show ObjOk P w H h a (.ins C dx fs) from hok a _ e)
  exact ⟨mA,⟨ob,n,ne⟩,r,q,z,d⟩
end
structure Cls (K:PySem.W.Frag) (C:Addr):Prop where
  pg:PySem.W.plainGet K C Str.empty = true
  hd:PySem.W.hasDictIn K C = true
  po:PySem.W.plainOver K C = true
  sa:PySem.W.findIn K (.ref C) "__setattr__" = some (some (.builtin "object.__setattr__"))
theorem Cls.get {K:PySem.W.Frag} {C:Addr} (c:Cls K C) (f:Str):PySem.W.plainGet K C f = true:=c.pg
section
variable {X:Cx} {pins:List (Addr × Obj)} {σ:St} {H:Hp} {s:Shared} {a C dx:Addr} {fs:List (Str × V)} {f:Str} {v:V} {A:Around} {E:Value → Shared → Prop}
end
section
variable {X:Cx} {o e value:Expr} {f:Str} {pos pos' tpos:Pos} {ta tv:TE}
end
section
variable {X:Cx} {pins:List (Addr × Obj)} {σ:St} {H:Hp} {s:Shared} {A:Around} {E:Value → Shared → Prop} {Q:Value → Shared → Prop} {c:Value} {b:Bool}
inductive TyOf (K:PySem.W.Frag) (H:Hp):V → Value → Prop where
  | non:TyOf K H .non (.type "NoneType")
  | bl (x:Bool):TyOf K H (.bl x) (.type "bool")
  | int (i:Int):TyOf K H (.int i) (.type "int")
  | str (x:Str):TyOf K H (.str x) (.type "str")
  | flt (x:UInt64):TyOf K H (.flt x) (.type "float")
  | lst {a:Addr} {xs:List V} (e:H a = some (.lst xs)):TyOf K H (.ref a) (.type "list")
  | frz {a:Addr} {o:Obj} {xs:List V} (e:H a = some (.frz o (.lst xs))):TyOf K H (.ref a) (.type "list")
  | tup {a:Addr} {xs:List V} (e:H a = some (.tup xs)):TyOf K H (.ref a) (.type "tuple")
  | dK {a:Addr} {kvs:List (Key × V)} (e:H a = some (.dK kvs)):TyOf K H (.ref a) (.type "dict")
  | dT {a:Addr} {kvs:List (List Key × V)} (e:H a = some (.dT kvs)):TyOf K H (.ref a) (.type "dict")
  | ins {a C dx:Addr} {fs:List (Str × V)} (e:H a = some (.ins C dx fs)) (cl:Cls K C) (ha:PySem.W.findIn K (.ref C) "__class__" = some (some (.builtin "object.__class__")))
      (hn:PySem.W.specialIn K (.builtin "object.__class__") "__get__" = some (some (.builtin "getset_descriptor.__get__"))) (htk:PySem.W.takesIn K (.builtin "object.__class__") = some true)
      (hm:PySem.W.mroIn K C (.type "object") = some true):TyOf K H (.ref a) (.ref C)
end
end L2
namespace L2
open PySem PySem.Spec PyProof.Rows
structure Room (k:Nat) (A:Around):Prop where
  hd:A.handled = none
  dp:A.depth + 3 * k + 5 < recursionLimit
  un:A.units + 16 * k + 200 < cLine
theorem Room.mono {j k:Nat} {A:Around} (r:Room k A) (h:j ≤ k):Room j A:=⟨r.hd,by have:=r.dp; lia,by have:=r.un; lia⟩
theorem Room.deeper {k:Nat} {A:Around} (r:Room (k + 1) A) (env:Env):Room k (A.deeper env) :=
  ⟨r.hd,by have:=r.dp; show A.depth + 1 + 3 * k + 5 < _; lia,by have:=r.un; show A.units + 3 + 16 * k + 200 < _; lia⟩
theorem Room.depth {k:Nat} {A:Around} (r:Room k A):A.depth < recursionLimit:=by have:=r.dp; lia
theorem Room.units {k:Nat} {A:Around} (r:Room k A):A.units + 64 < cLine:=by have:=r.un; lia
theorem Room.units0 {k:Nat} {A:Around} (r:Room k A):A.units < cLine:=by have:=r.un; lia
def tNil:TA:=fun _ H Q=>Q [] H
def tCons (ta:TE) (tr:TA):TA:=fun σ H Q=>ta σ H fun x H1=>tr σ H1 fun xs H2=>Q (x :: xs) H2
section
variable {X:Cx} {e:Expr} {es:List Expr} {te:TE} {t:TA} {pos:Pos}
theorem pa_nil:PA X [] tNil:=fun _ _ _ _ H Q I h=>Calls.spliced_nil ⟨[],H,I,.nil,h⟩
theorem pa_cons (ha:PE X e te) (hr:PA X es t) (hs:starEach (e :: es) X.env = (false,eval e X.env) :: starEach es X.env:=by rfl):PA X (e :: es) (tCons te t):=by
  intro pos pins s σ H Q I h
  rw [hs]
  show wpAny _ _ (spliced ((false,eval e X.env) :: backTo pos (starEach es X.env))) _ _ s
  refine Calls.spliced_cons (thn (ha pins s σ H _ I h) fun u s1 ⟨x,H1,I1,r1,q1⟩=>?_)
  exact thn (hr pos pins s1 σ H1 _ I1 q1) fun us s2 ⟨xs,H2,I2,r2,q2⟩=>⟨x :: xs,H2,I2,.cons r1 r2,q2⟩
def tTup (t:TA):TE:=fun σ H Q=>t σ H fun xs H1=>xs.length ≤ sizeLine ∧ ∀ p,H1 p = none → Q (.ref p) (upd H1 p (.tup xs))
def tLst (t:TA):TE:=fun σ H Q=>t σ H fun xs H1=>xs.length ≤ sizeLine ∧ ∀ p,H1 p = none → Q (.ref p) (upd H1 p (.lst xs))
theorem pe_tup {x1} (h:PA X es t):PE X (.Tuple es x1 pos) (tTup t):=by
  intro pins s σ H Q I hq
  refine wpAny_Tuple_spliced (thn (h pos pins s σ H _ I hq) fun us s1 ⟨xs,H1,I1,r,z,q⟩=>⟨by rw [← r.length]; exact z,?_⟩)
  have hf:H1 s1.heap.objs.size = none:=I1.hok.fresh (Nat.le_refl _)
  refine ⟨.ref s1.heap.objs.size,upd H1 s1.heap.objs.size (.tup xs),I1.laid (t':=s1.toks) (fun b u e=>Heap.get?_push_of_some _ e) (Nat.le_refl _) ?_,rfl,q _ hf⟩
  exact ⟨z,us,r,⟨_,Heap.get?_push_size _ rfl,rfl,_,rfl⟩⟩
theorem pe_lst (h:PA X es t):PE X (.List es pos) (tLst t):=by
  intro pins s σ H Q I hq
  refine wpAny_List_spliced (thn (h pos pins s σ H _ I hq) fun us s1 ⟨xs,H1,I1,r,z,q⟩=>⟨by rw [← r.length]; exact z,?_⟩)
  have hf:H1 s1.heap.objs.size = none:=I1.hok.fresh (Nat.le_refl _)
  refine ⟨.ref s1.heap.objs.size,upd H1 s1.heap.objs.size (.lst xs),I1.laid (t':=s1.toks) (fun b u e=>Heap.get?_push_of_some _ e) (Nat.le_refl _) ?_,rfl,q _ hf⟩
  exact ⟨z,us,0,r,Heap.get?_push_size _ rfl⟩
end
abbrev Sp:=List V → Hp → VK → XK → Prop
abbrev CXT:=List Env → Hp → Shared → XK → Value → Shared → Prop
structure Env0 (P:Program) (w:World) (K:PySem.W.Frag) (mg:Str → Option Value) (base:Heap) (A:Around) (outer:List Env) (s:Shared) (H:Hp):Prop where
  frames:A.frames = some outer
  mod:Mod K mg base
  bs:∀ b o,base.get? b = some o → s.heap.get? b = some o ∧ H b = none
  bsz:base.objs.size ≤ s.heap.objs.size
  funs:s.heap.FunFrames base outer
  frf:∀ b ∈ frs outer,H b = none
  hok:HOk P w H s.heap
  bare:AllBare s.gens
def CE (outer:List Env) (P:Program) (w:World) (H:Hp) (s:Shared) (Q:VK) (u:Value) (s':Shared):Prop :=
  ∃ v H',s'.os = s.os ∧ AllBare s'.gens ∧ Un (frs outer) [] H H' s.heap s'.heap ∧ HOk P w H' s'.heap ∧ RelV v u ∧ Q v H'
def CR (CX:CXT) (outer:List Env) (P:Program) (w:World) (H:Hp) (s:Shared) (Q:VK) (E:XK) (r:Result) (s':Shared):Prop :=
  match r with
  | .ok (.ret u)=>CE outer P w H s Q u s'
  | .ok _=>False
  | .error e=>CX outer H s E e s'
structure FnOk (P:Program) (w:World) (K:PySem.W.Frag) (mg:Str → Option Value) (base:Heap) (CX:CXT) (k:Nat) (f:Addr) (fd:FuncData) (ps:List Str) (sp:Sp):Prop where
  len:∀ vs H Q E,sp vs H Q E → vs.length = ps.length
  run:∀ (A:Around) (outer:List Env) (s:Shared) (H:Hp) (args:Args) (us:List Value) (vs:List V) (Q:VK) (E:XK),Room k A → Env0 P w K mg base A outer s H → BindsTo s fd args (ps.zip us) → Vals vs us → sp vs H Q E →
    codeAny (model P w) A (.call (.ref f) args) (CR CX outer P w H s Q E) s
section
variable {X:Cx} {pins:List (Addr × Obj)} {σ:St} {H:Hp} {s s':Shared}
theorem Inv.env0 (I:Inv X pins σ H s):Env0 X.prog X.w X.K X.mg X.base X.A X.stack s H :=
  ⟨I.ok.frames,I.ok.mod,I.bs,Nat.le_trans I.ok.bsz I.sz,I.stack,I.stkFree,I.hok,I.bare⟩
theorem Inv.after {Q:VK} {u:Value} (I:Inv X pins σ H s) (h:CE X.stack X.prog X.w H s Q u s'):EP X pins σ Q u s':=by
  obtain ⟨v,H',os,bare,un,hok,r,q⟩:=h
  obtain ⟨hh,g,d,t,os'⟩:=s'
  obtain rfl:os' = s.os:=os
  exact ⟨v,H',I.call (h':=hh) (g':=g) (d':=d) (t':=t) (ch:=[]) un hok bare (fun b z=>absurd z (by simp)),r,q⟩
end
def tCall (sp:Sp) (dvs:List V) (E:XK) (t:TA):TE:=fun σ H Q=>t σ H fun vs H1=>sp (vs ++ dvs) H1 Q E
def Binds (K:PySem.W.Frag) (fd:FuncData) (ps:List Str) (ds:List Value):Prop :=
  ∀ (s:Shared) (us:List Value),K.In s.heap → (us ++ ds).length = ps.length → BindsTo s fd ⟨us,[]⟩ (ps.zip (us ++ ds))
theorem Binds.all {K:PySem.W.Frag} {fd:FuncData} {ps:List Str} (h:∀ us:List Value,us.length = ps.length → bindArgs fd ⟨us,[]⟩ = pure (ps.zip us)):Binds K fd ps []:=fun s us _ hl=>by
  rw [List.append_nil] at hl ⊢
  exact .of_eq (h us hl)
def Passes (CX:CXT) (X:Cx) (E:XK):Prop:=∀ (pins:List (Addr × Obj)) (σ:St) (H:Hp) (s:Shared) (e:Value) (s':Shared),Inv X pins σ H s → CX X.stack H s E e s' → X.xe e s'
section
variable {X:Cx} {CX:CXT} {k:Nat} {f C:Addr} {fd:FuncData} {ps:List Str} {sp:Sp} {dvs:List V} {ds:List Value} {E:XK} {x m:Str} {p pos apos:Pos} {e o:Expr} {es:List Expr} {ta:TE} {t:TA}
theorem run_fn {pins:List (Addr × Obj)} {σ:St} {H:Hp} {s:Shared} {Q:VK} {us:List Value} {vs:List V} (F:FnOk X.prog X.w X.K X.mg X.base CX k f fd ps sp) (hr:Room k X.A) (hb:Binds X.K fd ps ds) (hd:Vals dvs ds) (hx:Passes CX X E)
    (I:Inv X pins σ H s) (r:Vals vs us) (h:sp (vs ++ dvs) H Q E):wpAny (model X.prog X.w) X.A (call (.ref f) us) (EP X pins σ Q) X.xe s:=by
  have r2:Vals (vs ++ dvs) (us ++ ds):=r.append hd
  have hl:(us ++ ds).length = ps.length:=by rw [← r2.length]; exact F.len _ _ _ _ h
  refine wpAny_call (codeAny_mono (F.run X.A X.stack s H ⟨us,[]⟩ (us ++ ds) (vs ++ dvs) Q E hr I.env0 (hb s us I.kIn hl) r2 h) fun r s' hq=>?_)
  cases r with
  | error e=>exact hx pins σ H s e s' I hq
  | ok fl =>
    cases fl with
    | ret u=>exact I.after hq
    | next=>exact False.elim hq
    | brk=>exact False.elim hq
    | cont=>exact False.elim hq
theorem pe_call (F:FnOk X.prog X.w X.K X.mg X.base CX k f fd ps sp) (hr:Room k X.A) (hg:Gl X x) (hm:X.mg x = some (.ref f)) (hk:PySem.W.keepIn X.K (.ref f) = true) (hb:Binds X.K fd ps ds) (hd:Vals dvs ds) (hx:Passes CX X E)
    (ha:PA X (e :: es) t) (hdb:(x == ("__debug__":Str)) = false:=by decide) (he:starEach (e :: es) X.env = (false,eval e X.env) :: starEach es X.env:=by rfl) (hpl:(backTo pos (starEach es X.env)).any (·.1) = false:=by rfl) :
    PE X (.Call (.Name x p) (e :: es) [] pos) (tCall sp dvs E t):=by
  intro pins s σ H Q I h
  refine wpAny_Call_Name_kw (ld_glob I hg hm ?_ hdb)
  refine PySem.W.callWith_K (h₀:=X.base) I.ok.mod.kin hk (thn (ha pos pins s σ H _ I h) fun us s1 ⟨vs,H1,I1,r,q⟩=>⟨I1.kIn,?_⟩) he hpl
  exact run_fn F hr hb hd hx I1 r q
end
def PK (X:Cx) (kws:List Keyword) (t:TA):Prop :=
  ∀ (pos:Pos) (pins:List (Addr × Obj)) (s:Shared) (σ:St) (H:Hp) (Q:List V → Hp → Prop),Inv X pins σ H s → t σ H Q → wpAny (model X.prog X.w) X.A (evalAll ((backToKw pos (keywordEach kws X.env)).map (·.2))) (AP X pins σ Q) X.xe s
section
variable {X:Cx} {CX:CXT} {k:Nat} {f C:Addr} {fd:FuncData} {ps ks:List Str} {sp:Sp} {E:XK} {x m:Str} {p pos apos kpos:Pos} {e o:Expr} {es:List Expr} {kws:List Keyword} {te ta:TE} {t tk:TA} {nm:Option Str}
theorem pk_nil:PK X [] tNil:=fun _ _ _ _ H Q I h=>wpAny_evalAll_nil ⟨[],H,I,.nil,h⟩
theorem pk_cons (ha:PE X e te) (hr:PK X kws t):PK X (⟨nm,e,kpos⟩ :: kws) (tCons te t):=by
  intro pos pins s σ H Q I h
  show wpAny _ _ (evalAll ((do let v ← eval e X.env; standAt pos; pure v) :: (backToKw pos (keywordEach kws X.env)).map (·.2))) _ _ s
  refine wpAny_evalAll_cons (wpAny_bind (thn (ha pins s σ H _ I h) fun u s1 ⟨x,H1,I1,r1,q1⟩=>wpAny_bind (wpAny_standAt (wpAny_pure ?_))))
  exact thn (hr pos pins s1 σ H1 _ I1 q1) fun us s2 ⟨xs,H2,I2,r2,q2⟩=>⟨x :: xs,H2,I2,.cons r1 r2,q2⟩
variable {g:List Value → List Value → List Value} {gV:List V → List V → List V}
end
structure FnScope (N P:List Str) (sc:Scope):Prop where
  kind:sc.kind = .function
  co:sc.isCoroutine = false
  gen:sc.isGenerator = false
  nd:N.Nodup
  pre:N.take P.length = P
  par:∀ x ∈ P,sc.names.lookup x = some .local ∨ sc.names.lookup x = some .cell
  nofree:∀ y ∈ sc.names,y.2 ≠ .free
theorem bindL_out {kindOf:Str → Option NameKind} {x:Str}:∀ {binds:List (Str × Value)} {m:Str → Option Value},(∀ v,(x,v) ∉ binds) → bindL kindOf binds m x = m x
  | [],_,_=>rfl
  | (n,v) :: r,m,h=>by
    unfold bindL
    rw [bindL_out fun w hw=>h w (List.mem_cons_of_mem _ hw)]
    split
    · have:x ≠ n:=by rintro rfl; exact h v List.mem_cons_self
      simp [this]
    · rfl
theorem bindC_out {kindOf:Str → Option NameKind} {x:Str}:∀ {binds:List (Str × Value)} {m:Str → Option Value},(∀ v,(x,v) ∉ binds) → bindC kindOf binds m x = m x
  | [],_,_=>rfl
  | (n,v) :: r,m,h=>by
    unfold bindC
    rw [bindC_out fun w hw=>h w (List.mem_cons_of_mem _ hw)]
    split
    · rfl
    · have:x ≠ n:=by rintro rfl; exact h v List.mem_cons_self
      simp [this]
theorem bindL_get {kindOf:Str → Option NameKind} {x:Str} {v:Value}:∀ {P:List Str} {vs:List Value} {i:Nat} {m:Str → Option Value},P.Nodup → P[i]? = some x → vs[i]? = some v → kindOf x = some .local →
    bindL kindOf (P.zip vs) m x = some v
  | [],_,_,_,_,h,_,_=>by simp at h
  | _ :: _,[],_,_,_,_,h,_=>by simp at h
  | p :: P,w :: vs,0,m,nd,h1,h2,hk=>by
    simp at h1 h2; subst h1; subst h2
    show bindL kindOf ((p,w) :: P.zip vs) m p = _
    unfold bindL
    rw [bindL_out fun v hv=>(List.nodup_cons.mp nd).1 (List.of_mem_zip hv).1,if_pos hk]
    simp
  | p :: P,w :: vs,i + 1,m,nd,h1,h2,hk=>by
    show bindL kindOf ((p,w) :: P.zip vs) m x = _
    unfold bindL
    exact bindL_get (i:=i) (List.nodup_cons.mp nd).2 (by simpa using h1) (by simpa using h2) hk
theorem bindC_get {kindOf:Str → Option NameKind} {x:Str} {v:Value}:∀ {P:List Str} {vs:List Value} {i:Nat} {m:Str → Option Value},P.Nodup → P[i]? = some x → vs[i]? = some v → kindOf x ≠ some .local →
    bindC kindOf (P.zip vs) m x = some v
  | [],_,_,_,_,h,_,_=>by simp at h
  | _ :: _,[],_,_,_,_,h,_=>by simp at h
  | p :: P,w :: vs,0,m,nd,h1,h2,hk=>by
    simp at h1 h2; subst h1; subst h2
    show bindC kindOf ((p,w) :: P.zip vs) m p = _
    unfold bindC
    rw [bindC_out fun v hv=>(List.nodup_cons.mp nd).1 (List.of_mem_zip hv).1,if_neg hk]
    simp
  | p :: P,w :: vs,i + 1,m,nd,h1,h2,hk=>by
    show bindC kindOf ((p,w) :: P.zip vs) m x = _
    unfold bindC
    exact bindC_get (i:=i) (List.nodup_cons.mp nd).2 (by simpa using h1) (by simpa using h2) hk
def start (N:List Str) (vs:List V):St:=vs.map some ++ List.replicate (N.length - vs.length) none
def cxOf (CX:CXT) (P:Program) (w:World) (K:PySem.W.Frag) (mg:Str → Option Value) (base:Heap) (N:List Str) (qual:Str) (scope:Scope) (f:Addr) (cd:Value) (A:Around) (outer:List Env) (s:Shared) (H:Hp) (E:XK):Cx where
  prog:=P
  w:=w
  K:=K
  mg:=mg
  base:=base
  A:=A.deeper (envOfC qual scope s.heap.objs.size f cd)
  N:=N
  s₀:=s
  H₀:=H
  env:=envOfC qual scope s.heap.objs.size f cd
  outer:=outer
  stack:=envOfC qual scope s.heap.objs.size f cd :: outer
  ex:=[]
  calm:=true
  fn:=fun _=>true
  pn:=[]
  xe:=fun e s'=>wpAny (model P w) (A.deeper (envOfC qual scope s.heap.objs.size f cd)) (leaving (envOfC qual scope s.heap.objs.size f cd) e) (fun _ s''=>CX outer H s E e s'') (fun e' s''=>CX outer H s E e' s'') s'
theorem cell_has {sc:Scope} {n:Nat} {x:Str} (h:sc.names.lookup x = some .cell):∃ c,(cellsFrom n sc.names []).lookup x = some c:=by
  have q:=PySem.W.cellsFrom_some sc.names n [] (.inl h)
  exact Option.isSome_iff_exists.mp q
theorem inv_start {CX:CXT} {P:Program} {w:World} {K:PySem.W.Frag} {mg:Str → Option Value} {base:Heap} {N ps:List Str} {qual:Str} {scope:Scope} {f:Addr} {cd:Value} {A:Around} {outer:List Env} {s s1:Shared} {H:Hp} {E:XK} {us:List Value} {vs:List V}
    (S:FnScope N ps scope) (hd:A.handled = none) (e0:Env0 P w K mg base A outer s H) (hl:vs.length = ps.length) (r:Vals vs us)
    (x:InCallC s s.heap.objs.size (bindL (envOfC qual scope s.heap.objs.size f cd).kindOf (ps.zip us) fun _=>none) (cellsFrom (s.heap.objs.size + 1) scope.names []) (bindC (envOfC qual scope s.heap.objs.size f cd).kindOf (ps.zip us) fun _=>none) s1) :
    Inv (cxOf CX P w K mg base N qual scope f cd A outer s H E) [] (start N vs) H s1:=by
  have hpl:ps.length ≤ N.length:=by have:=congrArg List.length S.pre; rw [List.length_take] at this; lia
  obtain ⟨h1,tk,rfl,hk⟩:=x.done
  have noA:∀ b:Addr,b ∉ (cxOf CX P w K mg base N qual scope f cd A outer s H E).ex:=fun b z=>absurd (show b ∈ ([]:List Addr) from z) (by simp)
  refine ⟨⟨e0.mod,S.kind,rfl,rfl,Nat.le_refl _,fun y z c h1 h2=>?_,fun y hy=>?_,fun y c _ h=>?_,fun _=>hd,Around.frames_deeper e0.frames,.inr ⟨rfl,rfl⟩,fun b z=>absurd z (noA b),e0.bs,e0.bsz,fun b _ _=>noA b,fun b z=>absurd z (noA b),e0.funs,e0.frf⟩,
    rfl,e0.bare,Un.kept hk,⟨_,x.toInCall.ns,fun i y v h1 h2 h3=>?_⟩,fun y c h=>⟨_,x.cell y c h⟩,e0.hok.fresh (Nat.le_refl _),fun y c h=>?_,fun p hp=>absurd (show p ∈ ([]:List (Addr × Obj)) from hp) (by simp),e0.hok.kept hk,?_⟩
  · exact name_of_addr x.apart (PySem.mem_of_lookup h1) (PySem.mem_of_lookup h2)
  · have hy:scope.names.lookup y = some .cell ∨ scope.names.lookup y = some .free:=hy
    rcases hy with hy | hy
    · exact cell_has hy
    · exact absurd rfl (S.nofree _ (PySem.mem_of_lookup hy))
  · exact Nat.le_of_lt (x.above y c (PySem.mem_of_lookup h))
  · have hi:i < vs.length:=by
      unfold start at h2
      by_cases hi:i < vs.length
      · exact hi
      · rw [List.getElem?_append_right (by simpa using hi)] at h2
        rw [List.getElem?_replicate] at h2
        split at h2 <;> cases h2
    have ha:vs[i]? = some v:=by
      unfold start at h2
      rw [List.getElem?_append_left (by simpa using hi),List.getElem?_map] at h2
      cases e:vs[i]? with
      | none=>rw [e] at h2; cases h2
      | some a=>rw [e] at h2; cases h2; rfl
    obtain ⟨u,hu,rv⟩:=r.get ha
    have hp:ps[i]? = some y:=by
      rw [← S.pre,List.getElem?_take_of_lt (by lia)]; exact h1
    have ndP:ps.Nodup:=by rw [← S.pre]; exact S.nd.sublist (List.take_sublist _ _)
    refine ⟨u,rv,?_⟩
    rcases S.par y (List.mem_of_getElem? hp) with k | k
    · exact .inl ⟨k,bindL_get ndP hp hu k⟩
    · obtain ⟨c,e⟩:=cell_has (n:=s.heap.objs.size + 1) k
      refine .inr ⟨.inl k,c,e,?_⟩
      have q:=x.cell y c e
      rw [bindC_get ndP hp hu (by show scope.names.lookup y ≠ _; rw [k]; decide)] at q
      exact q
  · exact e0.hok.fresh (Nat.le_of_lt (x.above y c (PySem.mem_of_lookup h)))
  · unfold start
    show _ = N.length
    rw [List.length_append,List.length_map,List.length_replicate]
    lia
theorem fn_of {CX:CXT} {P:Program} {w:World} {K:PySem.W.Frag} {mg:Str → Option Value} {base:Heap} {k:Nat} {f:Addr} {name qual:Str} {params:Arguments} {body:List Stmt} {scope:Scope} {dV kV doc pm cdv ct oc:Value} {an od:Option Addr}
    {osl:Array (Option Value)} {N ps:List Str} {sp:Sp} (lk:K.lookup f = some ⟨oc,od,.func (PySem.W.fnOf name qual params body scope dV kV doc pm an cdv ct),osl⟩) (hcd:PySem.W.codeIn K cdv qual = true) (S:FnScope N ps scope)
    (len:∀ vs H Q E,sp vs H Q E → vs.length = ps.length)
    (hbody:∀ (A:Around) (outer:List Env) (s:Shared) (H:Hp) (vs:List V) (Q:VK) (E:XK),Room k (A.deeper (envOfC qual scope s.heap.objs.size f cdv)) → sp vs H Q E →
      ∃ t,PSs (cxOf CX P w K mg base N qual scope f cdv A outer s H E) body t ∧ t { nx:=fun _ H'=>Q .non H',rt:=Q } (start N vs) H) :
    FnOk P w K mg base CX (k + 1) f (PySem.W.fnOf name qual params body scope dV kV doc pm an cdv ct) ps sp:=by
  refine ⟨len,fun A outer s H args us vs Q E hr e0 hb r hsp=>?_⟩
  have hl:=len _ _ _ _ hsp
  have KX:K.In s.heap:=e0.mod.kin.keeps fun b o e=>(e0.bs b o e).1
  have lim:s.heap.NoLimit:=e0.mod.nolimit.keeps fun b o e=>(e0.bs b o e).1
  have hkind:∀ y ∈ ps.zip us,scope.names.lookup y.1 = some .local ∨ (scope.names.lookup y.1 = some .cell ∧ ((cellsFrom (s.heap.objs.size + 1) scope.names []).lookup y.1).isSome = true):=fun ⟨n,v⟩ hy=>by
    rcases S.par n (List.of_mem_zip hy).1 with q | q
    · exact .inl q
    · exact .inr ⟨q,PySem.W.cellsFrom_some _ _ _ (.inl q)⟩
  refine codeAny_call_function hr.depth (KX _ _ lk) rfl S.co S.gen rfl (PySem.W.codeRec_of KX hcd) (hb _ _ _ _ ?_)
  refine wpAny_newFunctionEnv_cells S.kind hkind fun env he s1 x=>?_
  subst he
  refine ⟨lim.keeps x.toInCall.keep,codeAny_func ?_⟩
  obtain ⟨t,ht,hq⟩:=hbody A outer s H vs Q E (hr.deeper _) hsp
  have I:Inv (cxOf CX P w K mg base N qual scope f cdv A outer s H E) [] (start N vs) H s1:=inv_start S hr.hd e0 hl r x
  refine wpAny_mono (ht [] s1 (start N vs) H _ I hq) (fun fl s' hs=>?_) fun e s' hs=>hs
  have fin:∀ {σ':St} {H':Hp} {v:V} {u:Value},Inv (cxOf CX P w K mg base N qual scope f cdv A outer s H E) [] σ' H' s' → RelV v u → Q v H' → CE outer P w H s Q u s' :=
    fun {σ' H' v u} J rv q=>⟨v,H',J.os,J.bare,J.base,J.hok,rv,q⟩
  cases fl with
  | ret u =>
    obtain ⟨v,σ',H',J,rv,q⟩:=hs
    exact fin J rv q
  | next =>
    obtain ⟨σ',H',J,q⟩:=hs
    exact fin (v:=V.non) (u:=Value.none) J rfl q
  | brk =>
    obtain ⟨_,_,_,q⟩:=hs
    exact False.elim q
  | cont =>
    obtain ⟨_,_,_,q⟩:=hs
    exact False.elim q
end L2
namespace L2
open PySem PySem.Spec PyProof.Rows
section
variable {X:Cx} {x:Str} {p pos:Pos} {e:Expr} {es:List Expr} {t:TA} {id T:String} {r:List V → Hp → VK → Prop}
def tCB (r:List V → Hp → VK → Prop) (t:TA):TE:=fun σ H Q=>t σ H fun vs H1=>r vs H1 Q
theorem pe_callB (hc:CallR X (.builtin id) r) (hg:Gl X x) (hm:X.mg x = none) (hv:bootBuiltins x = some (.builtin id)) (ha:PA X (e :: es) t) (hn:x ≠ "__name__":=by decide) (hdb:(x == ("__debug__":Str)) = false:=by decide)
    (he:starEach (e :: es) X.env = (false,eval e X.env) :: starEach es X.env:=by rfl) (hpl:(backTo pos (starEach es X.env)).any (·.1) = false:=by rfl):PE X (.Call (.Name x p) (e :: es) [] pos) (tCB r t):=by
  intro pins s σ H Q I h
  refine wpAny_Call_Name_kw (ld_blt I hg hm hv ?_ hn hdb)
  exact PyProof.Rows.callWith_builtin1 (thn (ha pos pins s σ H _ I h) fun us s1 ⟨vs,H1,I1,r1,q1⟩=>hc pins s1 σ H1 vs us Q I1 r1 q1) he hpl
theorem pe_callTy (hc:CallR X (.type T) r) (hg:Gl X x) (hm:X.mg x = none) (hv:bootBuiltins x = some (.type T)) (ha:PA X (e :: es) t) (hn:x ≠ "__name__":=by decide) (hdb:(x == ("__debug__":Str)) = false:=by decide)
    (he:starEach (e :: es) X.env = (false,eval e X.env) :: starEach es X.env:=by rfl) (hpl:(backTo pos (starEach es X.env)).any (·.1) = false:=by rfl):PE X (.Call (.Name x p) (e :: es) [] pos) (tCB r t):=by
  intro pins s σ H Q I h
  refine wpAny_Call_Name_kw (ld_blt I hg hm hv ?_ hn hdb)
  exact PyProof.Rows.callWith_type1 (thn (ha pos pins s σ H _ I h) fun us s1 ⟨vs,H1,I1,r1,q1⟩=>hc pins s1 σ H1 vs us Q I1 r1 q1) he hpl
end
end L2
namespace HT
open PySem PyProof.Rows
section
open PySem.SeqAt
open PySem.AutoSeq1 (wpAny_loadPart')
open PySem.MeetsSeq PySem.MeetsSeq2 PySem.MeetsSeq3
end
section
variable {prog:Program} {w:World} {A:Around} {E:Value → Shared → Prop} {s:Shared}
def sIx (n d:Nat):Option Int → Nat
  | none=>d
  | some v=>if v < 0 then (v + (n:Int)).toNat else min v.toNat n
theorem sIx_none (n d:Nat):sIx n d none = d:=rfl
theorem sIx_nat (n d k:Nat):sIx n d (some (k:Int)) = min k n:=by
  show (if (k:Int) < 0 then ((k:Int) + (n:Int)).toNat else min (k:Int).toNat n) = min k n
  rw [if_neg (by lia),Int.toNat_natCast]
theorem sIx_le (n d:Nat) (hd:d ≤ n) (o:Option Int):sIx n d o ≤ n:=by
  cases o with
  | none=>exact hd
  | some v =>
    show (if v < 0 then (v + (n:Int)).toNat else min v.toNat n) ≤ n
    by_cases hv:v < 0
    · rw [if_pos hv]; lia
    · rw [if_neg hv]; exact Nat.min_le_right _ _
theorem clip_eq (v:Int) (n d:Nat):(if v < 0 then max (v + (n:Int)) 0 else min v (n:Int)) = ((sIx n d (some v):Nat):Int):=by
  show (if v < 0 then max (v + (n:Int)) 0 else min v (n:Int)) = (((if v < 0 then (v + (n:Int)).toNat else min v.toNat n):Nat):Int)
  by_cases hv:v < 0
  · simp only [if_pos hv]; lia
  · simp only [if_neg hv]; lia
end
end HT
namespace L2
open PySem PySem.Spec PyProof.Rows
abbrev TO:=St → Hp → (Option Int → Hp → Prop) → Prop
def PO (X:Cx) (e:Option Expr) (t:TO):Prop :=
  ∀ (pins:List (Addr × Obj)) (s:Shared) (σ:St) (H:Hp) (Q:Option Int → Hp → Prop),Inv X pins σ H s → t σ H Q →
    wpAny (model X.prog X.w) X.A (evalPart e X.env) (fun u s'=>∃ o H',Inv X pins σ H' s' ∧ IsPart u o ∧ Q o H') X.xe s
def tNoPart:TO:=fun _ H Q=>Q none H
inductive tPartI (Q:(Option Int → Hp → Prop)) (x:V) (H1:Hp):Prop
  | mk (i:_) (h1_:x = .int i) (h2_:Q (some i) H1):tPartI Q x H1
def tPart (t:TE):TO:=fun σ H Q=>t σ H fun x H1=>tPartI Q x H1
theorem intsAre_of {ns:List Int}:∀ {us:List Value},Vals (ns.map V.int) us → IntsAre us ns:=by
  induction ns with
  | nil=>intro us r; rw [List.map_nil] at r; cases r; exact .nil
  | cons n ns ih =>
    intro us r
    rw [List.map_cons] at r
    cases r with
    | cons r1 r2 =>
      obtain ⟨t,e⟩:=r1
      subst e
      exact .cons n t (ih r2)
section
variable {X:Cx} {e:Expr} {te:TE} {lo hi:Option Expr} {tl th:TO} {pos p2:Pos}
theorem po_none:PO X none tNoPart:=by
  intro pins s σ H Q I h
  rw [evalPart_none]
  exact wpAny_pure ⟨none,H,I,.none,h⟩
theorem po_some (h:PE X e te):PO X (some e) (tPart te):=by
  intro pins s σ H Q I hw
  rw [evalPart_some]
  refine thn (h pins s σ H _ I hw) fun u s1 ⟨x,H1,I1,r1,q1⟩=>?_
  obtain ⟨i,rfl,q⟩:=q1
  obtain ⟨t,rfl⟩:=r1
  exact ⟨some i,H1,I1,.int i t,q⟩
def SlR (X:Cx) (r:V → Option Int → Option Int → Hp → VK → Prop):Prop :=
  ∀ (pins:List (Addr × Obj)) (s:Shared) (σ:St) (H:Hp) (x:V) (v vl vu:Value) (lo hi:Option Int) (sl:Addr) (Q:VK),Inv X pins σ H s → RelV x v → s.heap.IsSliceOf sl vl vu .none → IsPart vl lo → IsPart vu hi → r x lo hi H Q →
    ∃ T id,typeLookup (.type T) "__getitem__" = pure (some (.builtin id)) ∧ s.TypeIs v T ∧ wpAny (model X.prog X.w) X.A (getItem v (.ref sl)) (EP X pins σ Q) X.xe s
def tSl (r:V → Option Int → Option Int → Hp → VK → Prop) (te:TE) (tl th:TO):TE:=fun σ H Q=>te σ H fun x H1=>tl σ H1 fun l H2=>th σ H2 fun u H3=>r x l u H3 Q
theorem pe_slice {r:V → Option Int → Option Int → Hp → VK → Prop} (hr:SlR X r) (he:PE X e te) (hl:PO X lo tl) (hu:PO X hi th):PE X (.Subscript e (.Slice lo hi none p2) pos) (tSl r te tl th):=by
  intro pins s σ H Q I h
  refine Subscript_ (thn (he pins s σ H _ I h) fun v s1 ⟨x,H1,I1,r1,q1⟩=>?_)
  refine wpAny_Slice (thn (hl pins s1 σ H1 _ I1 q1) fun vl s2 ⟨l,H2,I2,pl,q2⟩=>thn (hu pins s2 σ H2 _ I2 q2) fun vu s3 ⟨u,H3,I3,pu,q3⟩=>?_)
  rw [evalPart_none]
  refine wpAny_pure ?_
  have I4:Inv X pins σ H3 { s3 with heap:=s3.heap.push { cls:=.type "slice",data:=.fields #[vl,vu,.none] } }:=I3.kept (t':=s3.toks) fun b ob q=>Heap.get?_push_of_some _ q
  obtain ⟨T,id,hT,ht,hg⟩:=hr pins { s3 with heap:=s3.heap.push { cls:=.type "slice",data:=.fields #[vl,vu,.none] } } σ H3 x v vl vu l u s3.heap.objs.size Q I4 r1 (Heap.IsSliceOf.new ..) pl pu q3
  show wpAny (model X.prog X.w) X.A (subscriptTail e (.Slice lo hi none p2) v (.ref s3.heap.objs.size)) (EP X pins σ Q) X.xe { s3 with heap:=s3.heap.push { cls:=.type "slice",data:=.fields #[vl,vu,.none] } }
  exact tail_any (ops:=[.ref s3.heap.objs.size,v]) ht hT hg (by with_unfolding_all rfl)
def cutV (xs:List V) (lo hi:Option Int):List V:=(xs.drop (HT.sIx xs.length 0 lo)).take (HT.sIx xs.length xs.length hi - HT.sIx xs.length 0 lo)
theorem cutV_length (xs:List V) (lo hi:Option Int):(cutV xs lo hi).length ≤ xs.length:=by
  unfold cutV
  rw [List.length_take,List.length_drop]
  lia
end
end L2
namespace L2
open PySem PySem.Spec PyProof.Rows
def ixN (n:Nat) (i:Int):Option Nat:=if 0 ≤ i then (if i < n then some i.toNat else none) else if -(n:Int) ≤ i then some (i + n).toNat else none
def atI {α:Type} (xs:List α) (i:Int):Option α:=(ixN xs.length i).bind fun j=>xs[j]?
theorem ixN_seq {n:Nat} {i:Int} {j:Nat} (h:ixN n i = some j):seqIndex? i n = some j ∧ j < n ∧ -(n:Int) ≤ i ∧ i < n:=by
  unfold ixN at h
  by_cases h0:0 ≤ i
  · rw [if_pos h0] at h
    by_cases h1:i < n
    · rw [if_pos h1] at h
      have e:i.toNat = j:=Option.some.inj h
      exact ⟨by rw [seqIndex_of h0 h1,e],by lia,by lia,h1⟩
    · rw [if_neg h1] at h; cases h
  · rw [if_neg h0] at h
    by_cases h1:-(n:Int) ≤ i
    · rw [if_pos h1] at h
      have e:(i + n).toNat = j:=Option.some.inj h
      exact ⟨by rw [seqIndex_neg (by lia) h1,e],by lia,h1,by lia⟩
    · rw [if_neg h1] at h; cases h
theorem atI_get {α:Type} {xs:List α} {i:Int} {v:α} (h:atI xs i = some v):∃ j,seqIndex? i xs.length = some j ∧ xs[j]? = some v ∧ j < xs.length ∧ -(xs.length:Int) ≤ i ∧ i < xs.length:=by
  unfold atI at h
  cases e:ixN xs.length i with
  | none=>rw [e] at h; cases h
  | some j =>
    rw [e] at h
    obtain ⟨h1,h2,h3,h4⟩:=ixN_seq e
    exact ⟨j,h1,h,h2,h3,h4⟩
theorem atI_nat {α:Type} {xs:List α} {j:Nat} {v:α} (h:xs[j]? = some v):atI xs (j:Int) = some v:=by
  have hj:j < xs.length:=(List.getElem?_eq_some_iff.mp h).1
  have e:ixN xs.length (j:Int) = some j:=by
    unfold ixN
    rw [if_pos (by lia),if_pos (by lia)]; simp
  unfold atI; rw [e]; exact h
theorem atI_last {α:Type} (xs:List α) (v:α):atI (xs ++ [v]) (-1) = some v:=by
  have hl:(xs ++ [v]).length = xs.length + 1:=by simp
  have e:ixN (xs ++ [v]).length (-1) = some xs.length:=by
    unfold ixN
    rw [hl,if_neg (by decide),if_pos (by lia)]
    congr 1
    lia
  unfold atI
  rw [e]
  show (xs ++ [v])[xs.length]? = some v
  simp
def PlainIx (b:Expr):Prop:=∀ o i,subscripted b false o i = operate [o,i] (getItem o i)
def IxR (X:Cx) (r:R2):Prop :=
  ∀ (value slice:Expr) (pins:List (Addr × Obj)) (s:Shared) (σ:St) (H:Hp) (x y:V) (v u:Value) (Q:VK),Inv X pins σ H s → RelV x v → RelV y u → r x y H Q →
    subscripted slice false v u = operate [v,u] (getItem v u) → wpAny (model X.prog X.w) X.A (subscriptTail value slice v u) (EP X pins σ Q) X.xe s
def MtR (X:Cx) (id:String) (r:V → List V → Hp → VK → Prop):Prop :=
  ∀ (pins:List (Addr × Obj)) (s:Shared) (σ:St) (H:Hp) (x:V) (xs:List V) (v:Value) (us:List Value) (Q:VK),Inv X pins σ H s → RelV x v → Vals xs us → r x xs H Q →
    wpAny (model X.prog X.w) X.A (call (.builtin id) (v :: us)) (EP X pins σ Q) X.xe s
section
variable {X:Cx} {a b:Expr} {ta tb:TE} {pos:Pos}
theorem IxR.or {r r':R2} (h:IxR X r) (h':IxR X r'):IxR X (fun x y H Q=>r x y H Q ∨ r' x y H Q):=by
  intro value slice pins s σ H x y v u Q I rx ry q hs
  rcases q with q | q
  · exact h value slice pins s σ H x y v u Q I rx ry q hs
  · exact h' value slice pins s σ H x y v u Q I rx ry q hs
theorem pe_ix {r:R2} (hr:IxR X r) (ha:PE X a ta) (hb:PE X b tb) (hs:PlainIx b):PE X (.Subscript a b pos) (tOp r ta tb):=by
  intro pins s σ H Q I h
  exact Subscript_ (binT ha hb I h fun v u s2 x y H2 I2 rx ry q=>hr a b pins s2 σ H2 x y v u Q I2 rx ry q (hs _ _))
inductive rIxL (K:PySem.W.Frag) (x:V) (y:V) (H:Hp) (Q:VK):Prop
  | mk (p:_) (xs:_) (i:_) (v:_) (h1_:x = .ref p) (h2_:y = .int i) (h3_:SqL K H p xs) (h4_:atI xs i = some v) (h5_:Q v H):rIxL K x y H Q
inductive rIxT (K:PySem.W.Frag) (x:V) (y:V) (H:Hp) (Q:VK):Prop
  | mk (p:_) (xs:_) (i:_) (v:_) (h1_:x = .ref p) (h2_:y = .int i) (h3_:SqT K H p xs) (h4_:atI xs i = some v) (h5_:Q v H):rIxT K x y H Q
inductive rIxS (x:V) (y:V) (H:Hp) (Q:VK):Prop
  | mk (z:_) (i:_) (c:_) (h1_:x = .str z) (h2_:y = .int i) (h3_:z.length ≤ sizeLine) (h4_:atI z.cps.toList i = some c) (h5_:Q (.str ⟨#[c]⟩) H):rIxS x y H Q
theorem ix_list:IxR X (rIxL X.K):=by
  intro value slice pins s σ H x y v u Q I rx ry h hs
  obtain ⟨p,xs,i,z,rfl,rfl,hq,he,q⟩:=h
  cases rx
  obtain ⟨t,rfl⟩:=ry
  obtain ⟨its,r,pl,hz⟩:=I.list hq
  obtain ⟨j,h1,h2,h3,h4,h5⟩:=atI_get he
  obtain ⟨w,ew,rw'⟩:=r.get h2
  have hl:=r.length
  have hn:=line63
  have fin:EP X pins σ Q w s:=⟨z,H,I,rw',q⟩
  by_cases h0:0 ≤ i
  · have hj:i.toNat = j:=by
      rw [seqIndex_of h0 h5] at h1
      exact Option.some.inj h1
    exact item_listR pl.isList h0 (by lia) (by rw [hj]; simpa using ew) fin hs
  · have hj:(i + (its.toArray.size:Int)).toNat = j:=by
      rw [seqIndex_neg (by lia) h4] at h1
      rw [List.size_toArray,← hl]
      exact Option.some.inj h1
    exact subscriptTail_builtinR (x:=w) pl.isList.typeIs slot_list_getitem.lookup
      (wpAny_getItem_list_neg (Q:=fun r s'=>r = w ∧ EP X pins σ Q r s') pl.isList (by lia) (by rw [List.size_toArray] <;> lia) (by lia) (by rw [hj]; simpa using ew) ⟨rfl,fin⟩) hs
theorem ix_tup:IxR X (rIxT X.K):=by
  intro value slice pins s σ H x y v u Q I rx ry h hs
  obtain ⟨p,xs,i,z,rfl,rfl,hq,he,q⟩:=h
  cases rx
  obtain ⟨t,rfl⟩:=ry
  obtain ⟨its,r,pl,hz⟩:=I.tuple hq
  obtain ⟨j,h1,h2,h3,h4,h5⟩:=atI_get he
  obtain ⟨w,ew,rw'⟩:=r.get h2
  have hl:=r.length
  have hn:=line63
  have fin:EP X pins σ Q w s:=⟨z,H,I,rw',q⟩
  exact subscriptTail_builtinR (x:=w) pl.typeIs slot_tuple_getitem.lookup
    (getItem_tuple (j:=j) (Q:=fun r s'=>r = w ∧ EP X pins σ Q r s') pl (by lia) (by lia) (by rw [List.size_toArray,← hl]; exact h1) (by simpa using ew) ⟨rfl,fin⟩) hs
theorem ix_str:IxR X rIxS:=by
  intro value slice pins s σ H x y v u Q I rx ry h hs
  obtain ⟨z,i,c,rfl,rfl,hz,he,q⟩:=h
  obtain ⟨t,rfl⟩:=rx
  obtain ⟨t',rfl⟩:=ry
  obtain ⟨j,h1,h2,h3,h4,h5⟩:=atI_get he
  have hl:z.cps.toList.length = z.length:=by simp [Str.length]
  rw [hl] at h1 h4 h5
  have hn:=line63
  exact tail_any (typeIs_str s z t) slot_str_getitem.lookup (getItem_str (c:=c) (by
    have e1:decide (i < -(2 ^ 63:Int)) = false:=decide_eq_false (by lia)
    have e2:decide (i ≥ 2 ^ 63) = false:=decide_eq_false (by lia)
    rw [e1,e2,Bool.or_false]) (by rw [h1]; simpa using h2) ⟨.str ⟨#[c]⟩,H,I.tok _,⟨_,rfl⟩,q⟩) hs
def rIx (K:PySem.W.Frag):R2:=fun x y H Q=>rIxL K x y H Q ∨ rIxT K x y H Q ∨ rIxS x y H Q
theorem ix_seq:IxR X (rIx X.K):=ix_list.or (ix_tup.or ix_str)
theorem slice_bounds (lo hi:Option Int) (n:Nat):(sliceBounds lo hi none n).1 = ((HT.sIx n 0 lo:Nat):Int) ∧ (sliceBounds lo hi none n).2.1 = ((HT.sIx n n hi:Nat):Int) ∧ (sliceBounds lo hi none n).2.2 = 1:=by
  refine ⟨?_,?_,rfl⟩
  · cases lo with
    | none=>simp [sliceBounds,HT.sIx]
    | some i =>
      simp only [sliceBounds,HT.sIx,Option.getD_none,show (1:Int) > 0 by decide,if_true]
      by_cases h:i < 0
      · simp only [h,if_true] <;> lia
      · simp only [h,if_false] <;> lia
  · cases hi with
    | none=>simp [sliceBounds,HT.sIx]
    | some i =>
      simp only [sliceBounds,HT.sIx,Option.getD_none,show (1:Int) > 0 by decide,if_true]
      by_cases h:i < 0
      · simp only [h,if_true] <;> lia
      · simp only [h,if_false] <;> lia
theorem slicePick_cut (its:List Value) (lo hi:Option Int):slicePick its.toArray lo hi none = ((its.drop (HT.sIx its.length 0 lo)).take (HT.sIx its.length its.length hi - HT.sIx its.length 0 lo)).toArray:=by
  obtain ⟨h1,h2,h3⟩:=slice_bounds lo hi its.toArray.size
  unfold slicePick
  rw [h1,h2,h3]
  simp only [sliceRange_one,pick_run,List.size_toArray] <;> rfl
inductive rSlL (K:PySem.W.Frag) (x:V) (lo:Option Int) (hi:Option Int) (H:Hp) (Q:VK):Prop
  | mk (a:_) (xs:_) (h1_:x = .ref a) (h2_:SqL K H a xs) (h3_:∀ p,H p = none → Q (.ref p) (upd H p (.lst (cutV xs lo hi)))):rSlL K x lo hi H Q
theorem sl_list:SlR X (rSlL X.K):=by
  intro pins s σ H x v vl vu lo hi sl Q I rx hs pl pu h
  obtain ⟨a,xs,rfl,hx,q⟩:=h
  cases rx
  obtain ⟨its,r,ht,hz⟩:=I.list hx
  have hlen:=r.length
  refine ⟨"list",_,slot_list_getitem.lookup,ht.isList.typeIs,?_⟩
  refine wpAny_getItem_list_slice ht.isList hs pl pu .none (by simp) ?_ (by rw [List.size_toArray] <;> lia)
  rw [slicePick_cut,← hlen]
  refine ⟨.ref s.heap.objs.size,_,I.laid (t':=s.toks) (o:=.lst (cutV xs lo hi)) (fun b ob q=>Heap.get?_push_of_some _ q) (Nat.le_refl _) ?_,rfl,q _ (I.hok.fresh (Nat.le_refl _))⟩
  exact ⟨Nat.le_trans (cutV_length xs lo hi) hz,_,0,(r.drop (HT.sIx xs.length 0 lo)).take (HT.sIx xs.length xs.length hi - HT.sIx xs.length 0 lo),Heap.get?_push_size _ rfl⟩
inductive rLenQ (K:PySem.W.Frag) (xs:List V) (H:Hp) (Q:VK):Prop
  | mk (p:Addr) (ys:List V) (h1_:xs = [.ref p]) (h2_:SqL K H p ys ∨ SqT K H p ys) (h3_:Q (.int ys.length) H):rLenQ K xs H Q
theorem call_len_seq:CallR X (.builtin "len") (rLenQ X.K):=by
  intro pins s σ H xs us Q I r h
  obtain ⟨p,ys,rfl,hq,q⟩:=h
  obtain ⟨u,rfl,rx⟩:=vals1 r
  cases rx
  have hn:=line63
  rcases hq with hq | hq
  · obtain ⟨its,r',pl,hz⟩:=I.list hq
    have hlen:=r'.length
    exact Calls.call_len_list pl.isList (by simp only [List.size_toArray] <;> lia) ⟨.int ys.length,H,I.tok _,⟨s.toks + 1,by rw [List.size_toArray,hlen]⟩,q⟩
  · obtain ⟨its,r',pl,hz⟩:=I.tuple hq
    have hlen:=r'.length
    exact len_tuple pl (by simp only [List.size_toArray] <;> lia) ⟨.int ys.length,H,I.tok _,⟨s.toks + 1,by rw [List.size_toArray,hlen]⟩,q⟩
theorem call_len_str:CallR X (.builtin "len") (fun xs H Q=>∃ z,xs = [.str z] ∧ z.length ≤ sizeLine ∧ Q (.int z.length) H):=by
  intro pins s σ H xs us Q I r h
  obtain ⟨z,rfl,hz,q⟩:=h
  obtain ⟨u,rfl,t,rfl⟩:=vals1 r
  have hn:=line63
  exact len_str (by lia) ⟨.int z.length,H,I.tok _,⟨_,rfl⟩,q⟩
inductive rListO (K:PySem.W.Frag) (xs:List V) (H:Hp) (Q:VK):Prop
  | mk (p:Addr) (ys:List V) (h1_:xs = [.ref p]) (h2_:SqL K H p ys ∨ SqT K H p ys) (h3_:∀ l,H l = none → Q (.ref l) (upd H l (.lst ys))):rListO K xs H Q
theorem call_list_of:CallR X (.type "list") (rListO X.K):=by
  intro pins s σ H xs us Q I r h
  obtain ⟨p,ys,rfl,hq,q⟩:=h
  obtain ⟨u,rfl,rx⟩:=vals1 r
  cases rx
  have fin:∀ (its:List Value),Vals ys its → ys.length ≤ sizeLine → ∀ (h':Heap) (c':Nat),(∀ b o',s.heap.get? b = some o' → h'.get? b = some o') →
      h'.get? s.heap.objs.size = some { cls:=.type "list",dict:=none,data:=.seq its.toArray c',slots:=#[] } → EP X pins σ Q (.ref s.heap.objs.size) { s with heap:=h' }:=fun its r' hz h' c' kp e =>
    ⟨.ref s.heap.objs.size,_,I.laid (t':=s.toks) kp (Nat.le_refl _) (show ObjOk X.prog X.w _ h' _ (.lst ys) from ⟨hz,its,c',r',e⟩),rfl,q _ (I.hok.fresh (Nat.le_refl _))⟩
  rcases hq with hq | hq
  · obtain ⟨its,r',pl,hz⟩:=I.list hq
    have hlen:=r'.length
    obtain ⟨o,ho,hc,n,hd⟩:=pl.isList
    exact call_list_seq p (.inl rfl) ho hc hd (fun h' c' kp e=>fin its r' hz h' c' kp e) (by simp only [List.size_toArray] <;> lia)
  · obtain ⟨its,r',pl,hz⟩:=I.tuple hq
    have hlen:=r'.length
    obtain ⟨o,ho,hc,n,hd⟩:=pl
    exact call_list_seq p (.inr rfl) ho hc hd (fun h' c' kp e=>fin its r' hz h' c' kp e) (by simp only [List.size_toArray] <;> lia)
def tyV (K:PySem.W.Frag) (T:String) (x:V) (H:Hp):Prop:=match x with
  | .str _=>T = "str"
  | .int _=>T = "int"
  | .ref p=>(T = "list" ∧ ∃ xs,SqL K H p xs) ∨ (T = "tuple" ∧ ∃ o,K.lookup p = some o ∧ o.cls = .type "tuple" ∧ o.dict = none) ∨
      (T = "dict" ∧ ((∃ kvs,H p = some (.dK kvs)) ∨ ∃ kvs,H p = some (.dT kvs))) ∨ (T = "set" ∧ ∃ S n,H p = some (.set S n))
  | _=>False
theorem tyV_is {pins:List (Addr × Obj)} {σ:St} {H:Hp} {s:Shared} {T:String} {x:V} {v:Value} (I:Inv X pins σ H s) (r:RelV x v) (ty:tyV X.K T x H) :
    s.TypeIs v T ∧ ∀ a,v = .ref a → ∃ ob,s.heap.get? a = some ob ∧ ob.dict = none:=by
  cases x with
  | str z =>
    obtain ⟨t,rfl⟩:=r
    cases (show T = "str" from ty)
    exact ⟨typeIs_str s z t,fun _ e=>nomatch e⟩
  | int i =>
    obtain ⟨t,rfl⟩:=r
    cases (show T = "int" from ty)
    exact ⟨typeIs_int s i t,fun _ e=>nomatch e⟩
  | ref p =>
    cases r
    rcases ty with ⟨rfl,xs,hq⟩ | ⟨rfl,o,hk,hc,hd⟩ | ⟨rfl,hk⟩ | ⟨rfl,S,n,hk⟩
    · obtain ⟨its,_,pl,_⟩:=I.list hq
      refine ⟨pl.isList.typeIs,fun a e=>?_⟩
      cases e
      obtain ⟨o,n,e,c,hd,_⟩:=pl
      exact ⟨o,e,hd⟩
    · refine ⟨⟨o,I.kIn p o hk,hc⟩,fun a e=>?_⟩
      cases e
      exact ⟨o,I.kIn _ o hk,hd⟩
    · have z:∃ o,s.heap.get? p = some o ∧ o.ExactDict:=by
        rcases hk with ⟨kvs,hk⟩ | ⟨kvs,hk⟩
        · obtain ⟨_,_,_,_,o,_,_,e,ex,_⟩:=I.hok p _ hk
          exact ⟨o,e,ex⟩
        · obtain ⟨_,_,_,_,o,_,_,e,ex,_⟩:=I.hok p _ hk
          exact ⟨o,e,ex⟩
      obtain ⟨o,e,ex⟩:=z
      refine ⟨⟨o,e,ex.1⟩,fun a e2=>?_⟩
      cases e2
      exact ⟨o,e,ex.2.1⟩
    · obtain ⟨o,_,_,_,e,ex,_⟩:=I.hok p _ hk
      refine ⟨⟨o,e,ex.1⟩,fun a e2=>?_⟩
      cases e2
      exact ⟨o,e,ex.2.1⟩
  | _=>exact False.elim ty
def tBM0 (K:PySem.W.Frag) (T:String) (r:V → List V → Hp → VK → Prop) (to:TE):TE:=fun σ H Q=>to σ H fun x H1=>tyV K T x H1 ∧ r x [] H1 Q
def tBM (K:PySem.W.Frag) (T:String) (r:V → List V → Hp → VK → Prop) (to:TE) (t:TA):TE:=fun σ H Q=>to σ H fun x H1=>tyV K T x H1 ∧ t σ H1 fun xs H2=>r x xs H2 Q
variable {o e:Expr} {es:List Expr} {to:TE} {t:TA} {name:Str} {apos cpos:Pos} {T id:String} {r:V → List V → Hp → VK → Prop}
theorem pe_bm0 (pa:PlainAttrs T) (slot:Slot T name id) (hty:typeOf (.builtin id) = pure (.type "method_descriptor")) (hm:MtR X id r) (ho:PE X o to)
    (hbase:attributeBase o name X.env (eval o X.env) = eval o X.env:=by rfl) (hline:(apos.endLine == cpos.line) = true:=by rfl):PE X (.Call (.Attribute o name apos) [] [] cpos) (tBM0 X.K T r to):=by
  intro pins s σ H Q I h
  refine wpAny_Call_method0_late hbase hline (thn (ho pins s σ H _ I h) fun v s1 ⟨x,H1,I1,r1,ty,q1⟩=>?_)
  obtain ⟨h1,h2⟩:=tyV_is I1 r1 ty
  exact ⟨T,id,pa,slot,hty,h1,h2,Calls.callWith_builtin rfl (PySem.evalArgs_none (hm pins s1 σ H1 x [] v [] Q I1 r1 .nil q1))⟩
theorem pe_bm (pa:PlainAttrs T) (slot:Slot T name id) (hty:typeOf (.builtin id) = pure (.type "method_descriptor")) (hm:MtR X id r) (ho:PE X o to) (ha:PA X (e :: es) t)
    (hbase:attributeBase o name X.env (eval o X.env) = eval o X.env:=by rfl)
    (hfew:((backTo cpos (starEach (e :: es) X.env)).all (fun x=>!x.1) && (backToKw cpos (keywordEach [] X.env)).all (fun x=>x.1.isSome)
      && decide ((e :: es).length + ([]:List Keyword).length + (if ([]:List Keyword).isEmpty then 0 else 1) < 30)) = true:=by rfl)
    (hline:(apos.endLine == cpos.line) = true:=by rfl) (hs:starEach (e :: es) X.env = (false,eval e X.env) :: starEach es X.env:=by rfl) (hplain:(backTo cpos (starEach es X.env)).any (·.1) = false:=by rfl) :
    PE X (.Call (.Attribute o name apos) (e :: es) [] cpos) (tBM X.K T r to t):=by
  intro pins s σ H Q I h
  refine wpAny_Call_method_late hbase hfew hline rfl (thn (ho pins s σ H _ I h) fun v s1 ⟨x,H1,I1,r1,ty,q1⟩=>?_)
  obtain ⟨h1,h2⟩:=tyV_is I1 r1 ty
  refine ⟨T,id,pa,slot,hty,h1,h2,?_⟩
  have hA:=ha cpos pins s1 σ H1 _ I1 q1
  rw [hs] at hA ⊢
  refine Calls.callWith_builtin (by show (false || (backTo cpos (starEach es X.env)).any (·.1)) = false; rw [hplain] <;> rfl) (Calls.evalArgs_plain ?_)
  exact thn hA fun us s2 ⟨vs,H2,I2,r2,q2⟩=>hm pins s2 σ H2 x vs v us Q I2 r1 r2 q2
end
end L2
namespace L2
open PySem PySem.Spec PyProof.Rows
def MtM (X:Cx) (id:String) (r:V → List V → Hp → VK → Prop):Prop :=
  ∀ (pins:List (Addr × Obj)) (s:Shared) (σ:St) (H:Hp) (x:V) (xs:List V) (v:Value) (us:List Value) (Q:VK),Inv X pins σ H s → RelV x v → Vals xs us → r x xs H Q →
    wpAny (model X.prog X.w) X.A (call (.builtin id) (v :: us)) (EP X pins σ Q) X.xe s
theorem Vals.uncons {x:V} {xs:List V} {us:List Value} (h:Vals (x :: xs) us):∃ u us',us = u :: us' ∧ RelV x u ∧ Vals xs us':=by
  cases h with
  | cons r t=>exact ⟨_,_,rfl,r,t⟩
theorem Vals.none {us:List Value} (h:Vals [] us):us = []:=by
  cases h with
  | nil=>rfl
theorem Vals.one {x:V} {us:List Value} (h:Vals [x] us):∃ u,us = [u] ∧ RelV x u:=by
  obtain ⟨u,us',rfl,r,t⟩:=h.uncons
  cases t.none
  exact ⟨u,rfl,r⟩
theorem Vals.two {x y:V} {us:List Value} (h:Vals [x,y] us):∃ u v,us = [u,v] ∧ RelV x u ∧ RelV y v:=by
  obtain ⟨u,us',rfl,r,t⟩:=h.uncons
  obtain ⟨v,rfl,q⟩:=t.one
  exact ⟨u,v,rfl,r,q⟩
theorem Vals.zero:∀ {us:List Value},Vals [] us → us = []
  | _,.nil=>rfl
theorem Vals.dropLast {xs:List V} {us:List Value} (h:Vals xs us):Vals xs.dropLast us.dropLast:=by
  induction h with
  | nil=>exact .nil
  | cons r t ih =>
    cases t with
    | nil=>exact .nil
    | cons q t'=>exact .cons r ih
theorem Vals.eraseIdx:∀ {xs:List V} {us:List Value} (i:Nat),Vals xs us → Vals (xs.eraseIdx i) (us.eraseIdx i)
  | _,_,_,.nil=>.nil
  | _,_,0,.cons _ t=>t
  | _,_,i + 1,.cons r t=>.cons r (Vals.eraseIdx i t)
theorem erase_last {α:Type} (l:List α):l.eraseIdx (l.length - 1) = l.dropLast:=by
  induction l with
  | nil=>rfl
  | cons a r ih =>
    cases r with
    | nil=>rfl
    | cons b r =>
      have e:(a :: b :: r).length - 1 = ((b :: r).length - 1) + 1:=by
        have h1:(a :: b :: r).length = r.length + 2:=rfl
        have h2:(b :: r).length = r.length + 1:=rfl
        lia
      rw [e,List.eraseIdx_cons_succ,ih]
      all_goals rfl
theorem len_erase {α:Type}:∀ (l:List α) (i:Nat),(l.eraseIdx i).length ≤ l.length
  | [],_=>Nat.le_refl _
  | _ :: _,0=>Nat.le_succ _
  | _ :: r,i + 1=>Nat.succ_le_succ (len_erase r i)
section
variable {X:Cx} {pins:List (Addr × Obj)} {σ:St} {H:Hp} {s:Shared} {l b:Addr} {xs ys zs:List V}
theorem Inv.lset {its its':List Value} {n:Nat} {f:Array Value → Array Value} {t':Nat} (I:Inv X pins σ H s) (hH:H l = some (.lst xs))
    (e:s.heap.get? l = some { cls:=.type "list",data:=.seq its.toArray n }) (hf:f its.toArray = its'.toArray) (hv:Vals ys its') (hz:ys.length ≤ sizeLine) :
    Inv X pins σ (upd H l (.lst ys)) { s with heap:=s.heap.update l (Obj.mapSeq f),toks:=t' }:=by
  have q:=PySem.IsL.update e f
  rw [hf] at q
  refine I.write (x:=l) (e:=l) (by rw [hH]; exact trivial) (.inl rfl) (fun b' u hb hu=>(Heap.get?_update_other s.heap (Obj.mapSeq f) (Ne.symm hb)).trans hu) ⟨_,q⟩ ?_
  exact ⟨hz,its',_,hv,q⟩
theorem Inv.lnew {its:List Value} {t':Nat} (I:Inv X pins σ H s) (hv:Vals ys its) (hz:ys.length ≤ sizeLine) :
    Inv X pins σ (upd H s.heap.objs.size (.lst ys)) { s with heap:=s.heap.push { cls:=.type "list",data:=.seq its.toArray },toks:=t' } :=
  I.laid (fun _ _ q=>Heap.get?_push_of_some _ q) (Nat.le_refl _) ⟨hz,its,0,hv,Heap.get?_push_size _ rfl⟩
theorem Inv.fresh (I:Inv X pins σ H s):H s.heap.objs.size = none:=I.hok.fresh (Nat.le_refl _)
theorem Inv.lstM (I:Inv X pins σ H s) (hH:H l = some (.lst xs)):xs.length ≤ sizeLine ∧ ∃ (its:List Value) (n:Nat),Vals xs its ∧ xs.length = its.length ∧ s.heap.get? l = some { cls:=.type "list",data:=.seq its.toArray n }:=by
  obtain ⟨z,its,n,r,e⟩:=I.hok l _ hH
  exact ⟨z,its,n,r,r.length,e⟩
theorem notLongL {n:Nat} (h:n ≤ sizeLine):Builtin.List.listTooLong n = false:=by
  unfold Builtin.List.listTooLong
  exact decide_eq_false (by lia)
end
section
variable {X:Cx}
inductive rAppend (x:V) (vs:List V) (H:Hp) (Q:VK):Prop
  | mk (l:_) (xs:_) (y:_) (h1_:x = .ref l) (h2_:vs = [y]) (h3_:H l = some (.lst xs)) (h4_:xs.length < sizeLine) (h5_:Q .non (upd H l (.lst (xs ++ [y])))):rAppend x vs H Q
theorem mt_append:MtM X "list.append" rAppend:=by
  intro pins s σ H x vs v us Q I rx rv h
  obtain ⟨l,xs,y,rfl,rfl,hH,hz,q⟩:=h
  cases rx
  obtain ⟨u,rfl,ru⟩:=rv.one
  obtain ⟨z,its,n,r,hl,e⟩:=I.lstM hH
  refine call_meets F.slot_list_append ⟨_,e,rfl⟩ F.entry_list_append (F.args_list_append_2 _ _) (PySem.list_append l its.toArray n u (by rw [List.size_toArray]; lia)) ⟨e,?_⟩
  refine ⟨.non,_,I.lset (its':=its ++ [u]) hH e (by simp) (r.append (.cons ru .nil)) ?_,rfl,q⟩
  rw [List.length_append,List.length_singleton]
  lia
inductive rExtend (x:V) (vs:List V) (H:Hp) (Q:VK):Prop
  | mk (l:_) (b:_) (xs:_) (zs:_) (h1_:x = .ref l) (h2_:vs = [.ref b]) (h3_:H l = some (.lst xs)) (h4_:H b = some (.lst zs)) (h5_:xs.length + zs.length ≤ sizeLine) (h6_:Q .non (upd H l (.lst (xs ++ zs)))):rExtend x vs H Q
theorem mt_extend:MtM X "list.extend" rExtend:=by
  intro pins s σ H x vs v us Q I rx rv h
  obtain ⟨l,b,xs,zs,rfl,rfl,hH,hB,hz,q⟩:=h
  cases rx
  obtain ⟨u,rfl,ru⟩:=rv.one
  cases ru
  obtain ⟨z,its,n,r,hl,e⟩:=I.lstM hH
  obtain ⟨z2,its2,n2,r2,hl2,e2⟩:=I.lstM hB
  have hsz:its.toArray.size + its2.toArray.size ≤ sizeLine:=by rw [List.size_toArray,List.size_toArray]; lia
  have hlong:¬ (!its.toArray.isEmpty && Builtin.List.listTooLong (its.toArray.size + its2.toArray.size)) = true:=by
    rw [notLongL hsz,Bool.and_false]
    exact Bool.false_ne_true
  refine call_meets F.slot_list_extend ⟨_,e,rfl⟩ F.entry_list_extend (F.args_list_extend_2 _ _)
    (AutoSeq1.list_extend_list_list_0 l its.toArray n b its2.toArray n2 hlong (by rw [List.size_toArray]; lia) (by lia)) ⟨e,e2,?_⟩
  refine ⟨.non,_,I.lset (its':=its ++ its2) hH e (by simp) (r.append r2) ?_,rfl,q⟩
  rw [List.length_append]
  lia
inductive rPop (x:V) (vs:List V) (H:Hp) (Q:VK):Prop
  | mk (l:_) (xs:_) (y:_) (h1_:x = .ref l) (h2_:vs = []) (h3_:H l = some (.lst xs)) (h4_:xs[xs.length - 1]? = some y) (h5_:Q y (upd H l (.lst xs.dropLast))):rPop x vs H Q
theorem mt_pop:MtM X "list.pop" rPop:=by
  intro pins s σ H x vs v us Q I rx rv h
  obtain ⟨l,xs,y,rfl,rfl,hH,hy,q⟩:=h
  cases rx
  have hus:=rv.zero
  subst hus
  obtain ⟨z,its,n,r,hl,e⟩:=I.lstM hH
  obtain ⟨u,hu,ru⟩:=r.get hy
  have hy':its.toArray[its.toArray.size - 1]? = some u:=by
    show its.toArray[its.length - 1]? = some u
    rw [← Array.getElem?_toList,← hl]
    exact hu
  refine call_meets F.slot_list_pop ⟨_,e,rfl⟩ F.entry_list_pop (F.args_list_pop_1 _) (MeetsSeq.list_pop_last l its.toArray n u hy' (by rw [List.size_toArray]; lia)) ⟨e,?_⟩
  refine ⟨y,_,I.lset (its':=its.dropLast) hH e ?_ r.dropLast ?_,ru,q⟩
  · show its.toArray.eraseIdxIfInBounds (its.toArray.size - 1) = its.dropLast.toArray
    rw [List.size_toArray,List.eraseIdxIfInBounds_toArray,erase_last]
  · rw [List.length_dropLast]
    lia
inductive rPopAt (x:V) (vs:List V) (H:Hp) (Q:VK):Prop
  | mk (l:_) (xs:_) (i:_) (k:_) (y:_) (h1_:x = .ref l) (h2_:vs = [.int i]) (h3_:H l = some (.lst xs)) (h4_:-(2 ^ 63) ≤ i) (h5_:i < 2 ^ 63) (h6_:seqIndex? i xs.length = some k) (h7_:xs[k]? = some y) (h8_:Q y (upd H l (.lst (xs.eraseIdx k)))):rPopAt x vs H Q
theorem mt_popAt:MtM X "list.pop" rPopAt:=by
  intro pins s σ H x vs v us Q I rx rv h
  obtain ⟨l,xs,i,k,y,rfl,rfl,hH,h1,h2,hk,hy,q⟩:=h
  cases rx
  obtain ⟨u,rfl,ru⟩:=rv.one
  obtain ⟨t,rfl⟩:=ru
  obtain ⟨z,its,n,r,hl,e⟩:=I.lstM hH
  obtain ⟨w,hw,rw'⟩:=r.get hy
  refine call_meets F.slot_list_pop ⟨_,e,rfl⟩ F.entry_list_pop (F.args_list_pop_2 _ _)
    (MeetsSeq.list_pop_at l its.toArray n i t k w (fitsIndex_both h1 h2) (by rw [List.size_toArray,← hl]; exact hk) (by rw [← Array.getElem?_toList]; exact hw) (by rw [List.size_toArray]; lia)) ⟨e,?_⟩
  refine ⟨y,_,I.lset (its':=its.eraseIdx k) hH e ?_ (r.eraseIdx k) ?_,rw',q⟩
  · show its.toArray.eraseIdxIfInBounds k = (its.eraseIdx k).toArray
    rw [List.eraseIdxIfInBounds_toArray]
  · have:=len_erase xs k
    lia
end
section
variable {prog:Program} {w:World} {A:Around} {E:Value → Shared → Prop} {s:Shared}
end
section
variable {X:Cx}
end
end L2
namespace Att
open PySem PySem.W PySem.Calls PyProof.Rows
theorem ints_of_wellAll {P:Params} {h:Heap}:∀ (ns:List Int) (vs:List Value),WellAll P h vs (ns.map WData.int) → IntsAre vs ns:=by
  intro ns
  induction ns with
  | nil =>
    intro vs w
    rw [List.map_nil] at w
    cases w
    exact .nil
  | cons n ns ih =>
    intro vs w
    rw [List.map_cons] at w
    cases w with
    | cons a b =>
      cases a
      exact .cons _ _ (ih _ b)
theorem script_of {l:OpenLaw} {n:Nat} (hn:l.most = some n) {P:Params} {h:Heap} {args:List WData} {vals:List Value}
    (hpre:l.row.toRowW.claim.pre args = true) (hwl:WellAll P h vals args) :
    ∃ a vs ns,vals = [Value.ref a] ∧ args = [WData.list (ns.map WData.int)] ∧ h.get? a = some { cls:=.type "list",data:=.seq vs.toArray } ∧ IntsAre vs ns ∧ ns.length ≤ n:=by
  have hsh:WShape.hasAll [] args [.list .int] = true:=(pre_splitW hpre).1
  have hc:l.pre.holds [] { args:=args } = true:=(pre_splitW hpre).2
  obtain ⟨d,r,rfl,h1,h2⟩:=hasAllW_cons hsh
  obtain rfl:=hasAllW_nil h2
  obtain ⟨xs,rfl,h3⟩:=hasW_list h1
  obtain ⟨ns,rfl⟩:=items_int h3
  have hlen:ns.length ≤ n:=by
    unfold OpenLaw.pre at hc
    have h4:(WTm.not (.lt (.lit (.int (n:Int))) (.len (.arg 0)))).holds [] { args:=[.list (ns.map .int)] } = true:=by
      have h4:=(holds_andW hc).1
      rw [hn] at h4
      exact h4
    have h5:=condW_of h4 (w_not (w_lt w_lit (w_len_list (w_arg rfl))))
    rw [List.length_map] at h5
    refine Nat.le_of_not_lt fun q=>?_
    have q':(n:Int) < ((ns.length:Nat):Int):=by lia
    first
      | (rw [decide_eq_true q'] at h5; exact absurd h5 (by decide))
      | (simp at h5; lia)
  cases hwl with
  | cons w1 w2 =>
    cases w2
    cases w1 with
    | list ho hall=>exact ⟨_,_,ns,rfl,rfl,ho,ints_of_wellAll ns _ hall,hlen⟩
theorem post_true (l:OpenLaw) (args:List WData):l.row.toRowW.claim.post args (.bool true) args = true :=
  postW_of (r:=l.row.toRowW) (X:=(true == true))
    (show WShape.has [] (.bool true) .bool = true by first | rfl | decide | simp [WShape.has,WShape.arms,WShape.armsAll])
    (show (WTm.eq .res (.lit (.bool true))).value [] { args:=args,res:=some (.bool true),after:=args } = some (.bool (true == true)) from w_eq_bool (w_res rfl) w_lit) rfl
theorem attach_call {l:OpenLaw} {n:Nat} {q:Program} {loose:List Str} {XP:(Str → Option Value) → Heap → Prop} {YP:World → Heap → Prop} {d:DefRec}
    (hn:l.most = some n) (hdf:d.params.defaults = [])
    (call:∀ (w:World) (s₀ s₁:Shared) (mg mb:Str → Option Value) (fa:Addr) (o:Obj) (pm cd doc:Value) (a:Addr) (vs:List Value) (ns:List Int),
      Ground q loose [] XP w s₀ mg mb s₁.heap → YP w s₁.heap →
      s₁.heap.get? fa = some o → o.data = .func (docDef d.name d.params d.body d.scope pm cd doc) → s₁.heap.CodeRec cd d.name → mg d.name = some (.ref fa) →
      s₁.heap.get? a = some { cls:=.type "list",data:=.seq vs.toArray } → IntsAre vs ns → ns.length ≤ n → s₁.gens = #[] →
      codeAny (model l.prog w) callerA (.call (.ref fa) ⟨[.ref a],[]⟩) (fun r s'=>r = .ok (.ret (.bool true)) ∧ OldK s₁.heap s'.heap ∧ s'.os = s₁.os ∧ AllBare s'.gens) s₁) :
    WalkO q loose XP YP l.row.toRowW d [] (fun f vs=>PySem.call f vs):=by
  intro w s₀ s₁ mg mb G Y fa o pm cd doc dV kV ho hd hcd hD hmg hg args vals as hpre hlay hrd hwl hlo
  obtain rfl:dV = .none:=Dflts.none hD hdf
  obtain rfl:kV = .none:=Dflts.noKw hD
  obtain ⟨a,vs,ns,rfl,rfl,hobj,hints,hlen⟩:=script_of hn hpre hwl
  refine enter_call (codeAny_mono (call w s₀ s₁ mg mb fa o pm cd doc a vs ns G Y ho (fd_plain hd) hcd hmg hobj hints hlen hg) fun r s' hq=>?_)
  obtain ⟨rfl,h2,h3,h4⟩:=hq
  exact ⟨.inl ⟨.bool true,.bool true,[],rfl,fun _=>rfl,.bool true,post_true l _,fun _=>⟨List.Pairwise.nil,fun _ hm=>(nomatch hm)⟩⟩,h2,h3,h4⟩
section
variable {prog:Program} {w:World} {A:Around} {E:Value → Shared → Prop} {s:Shared} {K:Frag}
end
end Att
namespace L2
open PySem PySem.Spec PyProof.Rows
theorem vals_ints:∀ {vs:List Value} {ns:List Int},IntsAre vs ns → Vals (ns.map V.int) vs
  | _,_,.nil=>.nil
  | _,_,.cons n t h=>.cons ⟨t,rfl⟩ (vals_ints h)
def Only (H:Hp):Prop:=∀ b,H b = none ∨ ∃ o xs,H b = some (.frz o (.lst xs))
theorem law_call {P:Program} {w:World} {K:PySem.W.Frag} {mg mb:Str → Option Value} {CX:CXT} {k:Nat} {fa a:Addr} {fd:FuncData} {x:Str} {sp:Sp} {s₁:Shared} {vs:List Value} {ns:List Int}
    (KX:K.In s₁.heap) (hns:s₁.heap.Ns mainGlobals mg) (hb:s₁.heap.Ns builtinsNs mb) (hbb:∀ x:Str,x ≠ "__name__" → mb x = bootBuiltins x) (hlim:s₁.heap.NoLimit) (hg:s₁.gens = #[])
    (ha:s₁.heap.get? a = some { cls:=.type "list",data:=.seq vs.toArray }) (hi:IntsAre vs ns) (hl:ns.length ≤ sizeLine) (hr:Room k callerA)
    (F:∀ base:Heap,K.In base → base.Ns mainGlobals mg → FnOk P w K mg base CX k fa fd [x] sp) (hbind:∀ (s:Shared) (u:Value),BindsTo s fd ⟨[u],[]⟩ [(x,u)])
    (hsp:∀ H:Hp,Only H → SqL K H a (ns.map V.int) → sp [.ref a] H (fun v _=>v = .bl true) fun _ _ _=>False)
    (hCX:∀ H e s',CX [] H s₁ (fun _ _ _=>False) e s' → False) :
    codeAny (model P w) callerA (.call (.ref fa) ⟨[.ref a],[]⟩) (fun r s'=>r = .ok (.ret (.bool true)) ∧ OldK s₁.heap s'.heap ∧ s'.os = s₁.os ∧ AllBare s'.gens) s₁:=by
  have rv:=vals_ints hi
  have lenV:=hi.length
  have core:∀ H:Hp,Only H → SqL K H a (ns.map V.int) → HOk P w H s₁.heap → (∀ b,H b ≠ none → b = a) → (H a ≠ none → K.lookup a = none) →
      codeAny (model P w) callerA (.call (.ref fa) ⟨[.ref a],[]⟩) (fun r s'=>r = .ok (.ret (.bool true)) ∧ OldK s₁.heap s'.heap ∧ s'.os = s₁.os ∧ AllBare s'.gens) s₁:=by
    intro H hO hS hok hA hK
    have base_of:∀ {b:Addr} {o:Obj},s₁.heap.get? b = some o → H b = none → (hidT s₁.heap H).get? b = some o:=fun e n=>hidT_get e n
    have noA:∀ {b:Addr} {o:Obj} {es:Array DictEntry} {ep:Nat},s₁.heap.get? b = some o → o.data = .dict es ep → H b = none:=fun {b o es ep} e d=>by
      cases q:H b with
      | none=>rfl
      | some u =>
        have e':b = a:=hA b (by rw [q]; simp)
        subst e'
        rw [ha] at e; cases e
        have d':Data.seq vs.toArray _ = Data.dict es ep:=d
        cases d'
    have nsK:∀ {b:Addr} {m:Str → Option Value},s₁.heap.Ns b m → (hidT s₁.heap H).Ns b m:=fun {b m} ⟨o,es,ep,e,d,r⟩=>⟨o,es,ep,base_of e (noA e d),d,r⟩
    have hKb:K.In (hidT s₁.heap H):=fun b o e=>base_of (KX b o e) (by
      cases q:H b with
      | none=>rfl
      | some u =>
        have e':b = a:=hA b (by rw [q]; simp)
        subst e'
        rw [hK (by rw [q]; simp)] at e; cases e)
    have hM:Mod K mg (hidT s₁.heap H):=⟨hKb,nsK hns,⟨mb,nsK hb,hbb⟩,let ⟨mc,h1,h2⟩:=hlim; ⟨mc,nsK h1,h2⟩⟩
    have e0:Env0 P w K mg (hidT s₁.heap H) callerA [] s₁ H:=⟨rfl,hM,fun b o e=>of_hidT e,Nat.le_of_eq (hidT_size _ _),trivial,fun b hb=>absurd (show b ∈ ([]:List Addr) from hb) (by simp),hok,.of_eq hg⟩
    refine codeAny_mono ((F _ hKb (nsK hns)).run callerA [] s₁ H ⟨[.ref a],[]⟩ [.ref a] [.ref a] _ _ hr e0 (hbind s₁ (.ref a)) (.cons rfl .nil) (hsp H hO hS)) fun r s' h=>?_
    cases r with
    | error e=>exact (hCX H e s' h).elim
    | ok fl =>
      cases fl with
      | next=>exact False.elim h
      | brk=>exact False.elim h
      | cont=>exact False.elim h
      | ret u =>
        obtain ⟨v,H',os,bare,un,hok',r',q⟩:=h
        have q':v = .bl true:=q
        subst q'
        obtain rfl:u = Value.bool true:=r'
        refine ⟨rfl,OldK.of_keep fun b o e=>?_,os,bare⟩
        cases q:H b with
        | none=>exact un.keep b o e q (by intro z; exact absurd (show b ∈ ([]:List Addr) from z) (by simp)) (by simp)
        | some u =>
          rcases hO b with z | ⟨ob,xs,z⟩
          · rw [q] at z; cases z
          · have z2:=un.frzs b ob _ z
            obtain ⟨e1,_⟩:=hok b _ z
            obtain ⟨e2,_⟩:=hok' b _ z2
            rw [e] at e1; cases e1
            exact e2
  cases hk:K.lookup a with
  | some o =>
    have e:=KX a o hk
    rw [ha] at e
    cases e
    refine core (fun _=>none) (fun _=>.inl rfl) (.inr ⟨_,vs.toArray,_,hk,rfl,rfl,rfl,by rw [List.size_toArray,lenV]; exact hl,by simpa using rv⟩) (fun b u z=>by have z':(none:Option HO) = some u:=z; cases z') (fun b z=>absurd rfl z) fun z=>absurd rfl z
  | none =>
    refine core (fun b=>if b = a then some (.frz { cls:=.type "list",data:=.seq vs.toArray } (.lst (ns.map V.int))) else none) (fun b=>?_) (.inl (.inr ⟨{ cls:=.type "list",data:=.seq vs.toArray },if_pos rfl⟩)) (fun b u z=>?_) (fun b z=>?_) fun _=>hk
    · by_cases hb:b = a
      · exact .inr ⟨_,_,if_pos hb⟩
      · exact .inl (if_neg hb)
    · by_cases hb:b = a
      · have z':=(if_pos hb).symm.trans z
        cases z'
        subst hb
        exact ⟨ha,by rw [List.length_map]; exact hl,vs,_,rv,ha⟩
      · have z':=(if_neg hb).symm.trans z
        cases z'
    · by_cases hb:b = a
      · exact hb
      · exact absurd (if_neg hb) z
end L2
namespace L2
open PySem PySem.Spec PyProof.Rows
theorem walk_of {l:PySem.W.OpenLaw} {n k:Nat} {q:Program} {loose:List Str} {XP:(Str → Option Value) → Heap → Prop} {YP:World → Heap → Prop} {d:DefRec} {K:Params → PySem.W.Frag} {CX:World → CXT} {sp:World → Sp} {x:Str}
    (hn:l.most = some n) (hn2:n ≤ sizeLine) (hdf:d.params.defaults = []) (hr:Room k callerA)
    (hY:∀ (w:World) (h:Heap),YP w h → (K w.params).In h)
    (F:∀ (w:World) (mg:Str → Option Value) (fa:Addr) (h:Heap),(K w.params).In h → h.Ns mainGlobals mg → mg d.name = some (.ref fa) →
      ∃ fd:FuncData,(∀ (s:Shared) (u:Value),BindsTo s fd ⟨[u],[]⟩ [(x,u)]) ∧
        ∀ base:Heap,(K w.params).In base → base.Ns mainGlobals mg → FnOk l.prog w (K w.params) mg base (CX w) k fa fd [x] (sp w))
    (hsp:∀ (w:World) (H:Hp) (a:Addr) (ns:List Int),ns.length ≤ n → Only H → SqL (K w.params) H a (ns.map V.int) → sp w [.ref a] H (fun v _=>v = .bl true) fun _ _ _=>False)
    (hCX:∀ (w:World) (H:Hp) (s:Shared) (e:Value) (s':Shared),CX w [] H s (fun _ _ _=>False) e s' → False) :
    PySem.W.WalkO q loose XP YP l.row.toRowW d [] (fun f vs=>PySem.call f vs):=by
  refine Att.attach_call hn hdf fun w s₀ s₁ mg mb fa o pm cd doc a vs ns G Y ho hd hcd hmg hobj hints hlen hg=>?_
  have KX:=hY w _ Y
  obtain ⟨fd,hb,hF⟩:=F w mg fa _ KX G.T.g hmg
  exact law_call KX G.T.g G.T.b G.T.builtins G.T.nolimit hg hobj hints (Nat.le_trans hlen hn2) hr hF hb (fun H hO hS=>hsp w H a ns hlen hO hS) fun H e s'=>hCX w H s₁ e s'
end L2
namespace L2
open PySem PySem.Spec PyProof.Rows
def defArgs (s:Stmt):Arguments:=match s with
  | .FunctionDef _ a _ _ _ _ _ _ _ _=>a
  | _=>{ posonlyargs:=[],args:=[],vararg:=none,kwonlyargs:=[],kw_defaults:=[],kwarg:=none,defaults:=[] }
def defBody (s:Stmt):List Stmt:=match s with
  | .FunctionDef _ _ b _ _ _ _ _ _ _=>b
  | _=>[]
def defScope (s:Stmt):Scope:=match s with
  | .FunctionDef _ _ _ _ _ _ sc _ _ _=>sc
  | _=>{ kind:=.function,names:=[],isGenerator:=false,isCoroutine:=false }
abbrev CX0:CXT:=fun _ _ _ _ _ _=>False
abbrev E0:XK:=fun _ _ _=>False
theorem pass0 {X:Cx}:Passes CX0 X E0:=fun _ _ _ _ _ _ _ h=>h.elim
structure Fun (K:PySem.W.Frag) (x qual:Str) (st:Stmt) (f:Addr) (fd:FuncData):Prop where
  ex:∃ (oc:Value) (od:Option Addr) (kV doc pm:Value) (an:Option Addr) (cdv ct:Value) (osl:Array (Option Value)),
    fd = PySem.W.fnOf x qual (defArgs st) (defBody st) (defScope st) .none kV doc pm an cdv ct ∧ K.lookup f = some ⟨oc,od,.func fd,osl⟩ ∧ PySem.W.codeIn K cdv qual = true
  kp:PySem.W.keepIn K (.ref f) = true
section
variable {P:Program} {w:World} {K:PySem.W.Frag} {mg:Str → Option Value} {base:Heap}
theorem Fun.ok {x qual:Str} {st:Stmt} {f:Addr} {fd:FuncData} {N ps:List Str} {k:Nat} {sp:Sp} (F:Fun K x qual st f fd) (S:FnScope N ps (defScope st)) (len:∀ vs H Q E,sp vs H Q E → vs.length = ps.length)
    (hbody:∀ (cdv:Value) (A:Around) (outer:List Env) (s:Shared) (H:Hp) (vs:List V) (Q:VK) (E:XK),Room k (A.deeper (envOfC qual (defScope st) s.heap.objs.size f cdv)) → sp vs H Q E →
      ∃ t,PSs (cxOf CX0 P w K mg base N qual (defScope st) f cdv A outer s H E).nox (defBody st) t ∧ t { nx:=fun _ H'=>Q .non H',rt:=Q } (start N vs) H):FnOk P w K mg base CX0 (k + 1) f fd ps sp:=by
  obtain ⟨oc,od,kV,doc,pm,an,cdv,ct,osl,rfl,lk,hcd⟩:=F.ex
  refine fn_of lk hcd S len fun A outer s H vs Q E hr hsp=>?_
  obtain ⟨t,h,q⟩:=hbody cdv A outer s H vs Q E hr hsp
  exact ⟨t,h.nox,q⟩
theorem Fun.binds {x qual:Str} {st:Stmt} {f:Addr} {fd:FuncData} {ps:List Str} (F:Fun K x qual st f fd)
    (h:∀ (kV doc pm:Value) (an:Option Addr) (cdv ct:Value) (us:List Value),us.length = ps.length → bindArgs (PySem.W.fnOf x qual (defArgs st) (defBody st) (defScope st) .none kV doc pm an cdv ct) ⟨us,[]⟩ = pure (ps.zip us)):Binds K fd ps []:=by
  obtain ⟨oc,od,kV,doc,pm,an,cdv,ct,osl,rfl,lk,hcd⟩:=F.ex
  exact .all (h kV doc pm an cdv ct)
theorem fun_mk {x qual:Str} {st:Stmt} {f:Addr} {oc:Value} {od an:Option Addr} {osl:Array (Option Value)} {kV doc pm cdv ct:Value} (l:K.lookup f = some ⟨oc,od,.func (PySem.W.fnOf x qual (defArgs st) (defBody st) (defScope st) .none kV doc pm an cdv ct),osl⟩)
    (c:PySem.W.codeIn K cdv qual = true) (k:PySem.W.keepIn K (.ref f) = true):Fun K x qual st f (PySem.W.fnOf x qual (defArgs st) (defBody st) (defScope st) .none kV doc pm an cdv ct):=⟨⟨oc,od,kV,doc,pm,an,cdv,ct,osl,rfl,l,c⟩,k⟩
end
theorem hu_of {A:Around} {k:Nat} (hr:Room k A):A.units + 1 < cLine:=Nat.lt_of_le_of_lt (Nat.add_le_add_left (by decide:1 ≤ 64) _) hr.units
theorem small1000 {n:Nat} (h:n ≤ 1000):n < sizeLine:=Nat.lt_of_le_of_lt h (by decide)
section
variable {X:Cx}
theorem pv (i:Nat) {x:Str} {pos:Pos} (hN:X.N[i]? = some x:=by rfl) (hv:Vis X.env.scope x:=by first | exact Or.inl rfl | exact Or.inr (Or.inl rfl) | exact Or.inr (Or.inr rfl)) (hd:(x == ("__debug__":Str)) = false:=by decide)
    (hcd:(x == ("__classdict__":Str)) = false:=by decide):PE X (.Name x pos) (tVar i):=pe_var hN hv hd hcd
end
theorem iteF {A B:Prop} (h:B):if false = true then A else B:=by
  rw [if_neg Bool.false_ne_true]
  exact h
theorem iteT {A B:Prop} (h:A):if true = true then A else B:=by
  rw [if_pos rfl]
  exact h
theorem ite2 {c A B:Prop} [Decidable c] (h1:c → A) (h2:¬ c → B):if c then A else B:=by
  by_cases h:c
  · rw [if_pos h]
    exact h1 h
  · rw [if_neg h]
    exact h2 h
theorem iteNS {c A B:Prop} [Decidable c] (hc:c) (h:B):if (!decide c) = true then A else B:=by
  rw [decide_eq_true hc]
  exact iteF h
def Same (H H':Hp):Prop:=∀ b o,H b = some o → H' b = some o
theorem Same.refl (H:Hp):Same H H:=fun _ _ h=>h
theorem Same.trans {H H1 H2:Hp} (a:Same H H1) (b:Same H1 H2):Same H H2:=fun c o h=>b c o (a c o h)
theorem Same.free {H H':Hp} (e:Same H H') {l:Addr} (h:H' l = Option.none):H l = Option.none:=by
  cases q:H l with
  | none=>rfl
  | some o =>
    rw [e l o q] at h
    cases h
theorem Same.seq {K:PySem.W.Frag} {H H':Hp} {a:Addr} {xs:List V} (e:Same H H') (h:SqL K H a xs):SqL K H' a xs:=by
  rcases h with (h | ⟨o,h⟩) | h
  · exact .inl (.inl (e _ _ h))
  · exact .inl (.inr ⟨o,e _ _ h⟩)
  · exact .inr h
end L2
set_option maxHeartbeats 4000000
namespace L2
open PySem PySem.Spec PyProof.Rows
def compCx (X:Cx) (scope:Scope) (cl:List (Str × Addr)) (C:Addr) (Nc:List Str) (ex:List Addr) (s:Shared) (H:Hp):Cx :=
  { X with N:=Nc,s₀:=s,H₀:=H,env:=compEnvC scope cl C X.env,outer:=X.stack,ex:=ex,fn:=fun _=>false,pn:=[],xe:=fun _ _=>False }
theorem forIn_clos {env:Env} (F:Str × NameKind → List (Str × Addr) → Sem (ForInStep (List (Str × Addr))))
    (h1:∀ n a cs,env.cells.lookup n = some a → F (n,.free) cs = pure (.yield ((n,a) :: cs))) (h2:∀ n k cs,k ≠ .free → F (n,k) cs = pure (.yield cs)) :
    ∀ (names:List (Str × NameKind)) (cs:List (Str × Addr)),(∀ x,(x,NameKind.free) ∈ names → ∃ c,env.cells.lookup x = some c) → (∀ y c,cs.lookup y = some c → env.cells.lookup y = some c) →
      ∃ cl,forIn names cs F = pure cl ∧ (∀ y c,cl.lookup y = some c → env.cells.lookup y = some c) ∧ ∀ y,((y,NameKind.free) ∈ names ∨ ∃ c,cs.lookup y = some c) → ∃ c,cl.lookup y = some c:=by
  intro names
  induction names with
  | nil =>
    intro cs _ hcs
    exact ⟨cs,rfl,hcs,fun y h=>h.elim (fun z=>by simp at z) fun z=>z⟩
  | cons x r ih =>
    intro cs hf hcs
    obtain ⟨n,k⟩:=x
    have hfr:∀ x,(x,NameKind.free) ∈ r → ∃ c,env.cells.lookup x = some c:=fun x hx=>hf x (List.mem_cons_of_mem _ hx)
    by_cases hk:k = .free
    · subst hk
      obtain ⟨a,ha⟩:=hf n List.mem_cons_self
      obtain ⟨cl,e,p1,p2⟩:=ih ((n,a) :: cs) hfr (fun y c hy=>by
        rw [List.lookup_cons] at hy
        cases hyn:y == n with
        | true =>
          rw [hyn] at hy
          cases hy
          rw [beq_iff_eq.mp hyn]
          exact ha
        | false =>
          rw [hyn] at hy
          exact hcs y c hy)
      refine ⟨cl,?_,p1,fun y h=>p2 y ?_⟩
      · rw [List.forIn_cons,h1 n a cs ha]
        exact e
      · by_cases hyn:y = n
        · subst hyn
          exact .inr ⟨a,by rw [List.lookup_cons,beq_self_eq_true]⟩
        · rcases h with h | ⟨c,h⟩
          · rcases List.mem_cons.mp h with h | h
            · cases h
              exact absurd rfl hyn
            · exact .inl h
          · refine .inr ⟨c,?_⟩
            rw [List.lookup_cons,beq_eq_false_iff_ne.mpr hyn]
            exact h
    · obtain ⟨cl,e,p1,p2⟩:=ih cs hfr hcs
      refine ⟨cl,?_,p1,fun y h=>p2 y ?_⟩
      · rw [List.forIn_cons,h2 n k cs hk]
        exact e
      · rcases h with h | h
        · rcases List.mem_cons.mp h with h | h
          · cases h
            exact absurd rfl hk
          · exact .inl h
        · exact .inr h
theorem closure_ok {scope:Scope} {env:Env} (hf:∀ x,(x,NameKind.free) ∈ scope.names → ∃ c,env.cells.lookup x = some c) :
    ∃ cl,closureFor scope env = pure cl ∧ (∀ y c,cl.lookup y = some c → env.cells.lookup y = some c) ∧ ∀ y,(y,NameKind.free) ∈ scope.names → ∃ c,cl.lookup y = some c:=by
  have key:=forIn_clos (env:=env) (fun (x:Str × NameKind) (r:List (Str × Addr))=>(match x with
      | (name,kind)=>if (kind == NameKind.free) = true then do
          let a ← cellOf env name
          pure (ForInStep.yield ((name,a) :: r))
        else pure (ForInStep.yield r):Sem (ForInStep (List (Str × Addr)))))
    (fun n a cs h=>by
      show (if (NameKind.free == NameKind.free) = true then _ else _) = _
      rw [if_pos (by decide)]
      unfold cellOf
      rw [h]
      rfl)
    (fun n k cs h=>by
      show (if (k == NameKind.free) = true then _ else _) = _
      rw [if_neg (by simpa using h)])
    scope.names [] hf (fun y c h=>by simp at h)
  obtain ⟨cl,e,p1,p2⟩:=key
  refine ⟨cl,?_,p1,fun y h=>p2 y (.inl h)⟩
  unfold closureFor
  show (forIn scope.names ([]:List (Str × Addr)) _ >>= _) = _
  rw [show (forIn scope.names ([]:List (Str × Addr)) (fun (x:Str × NameKind) (r:List (Str × Addr))=>(match x with
      | (name,kind)=>if (kind == NameKind.free) = true then do
          let a ← cellOf env name
          pure (ForInStep.yield ((name,a) :: r))
        else pure (ForInStep.yield r):Sem (ForInStep (List (Str × Addr)))))) = pure cl from e]
  rfl
structure CompScope (osc:Scope) (N:List Str) (scope:Scope) (own cap:List Str) (js:List Nat):Prop where
  kind:scope.kind = .function
  nocell:∀ y ∈ scope.names,y.2 ≠ .cell
  loc:∀ x ∈ scope.names,x.2 = .local → scope.names.lookup x.1 = some .local
  fr:∀ x ∈ scope.names,x.2 = .free → osc.names.lookup x.1 = some .cell ∨ osc.names.lookup x.1 = some .free
  nd:(own ++ cap).Nodup
  ix:cap.map some = js.map (fun j=>N[j]?)
  cp:∀ x ∈ cap,scope.names.lookup x = some .free
theorem lookup_relabel {env:Env} (x:Str):∀ (names:List (Str × NameKind)),
    (names.map fun (n,k)=>if (k == NameKind.free && env.scope.kind == .function && env.kindOf n == some .cell) then (n,NameKind.cell) else (n,k)).lookup x =
      (names.lookup x).map fun k=>if (k == NameKind.free && env.scope.kind == .function && env.kindOf x == some .cell) then NameKind.cell else k
  | []=>rfl
  | (n,k) :: r=>by
    have ih:=lookup_relabel (env:=env) x r
    rw [List.map_cons]
    show List.lookup x ((if (k == NameKind.free && env.scope.kind == .function && env.kindOf n == some .cell) = true then (n,NameKind.cell) else (n,k)) :: _) = _
    have e:(if (k == NameKind.free && env.scope.kind == .function && env.kindOf n == some .cell) = true then (n,NameKind.cell) else (n,k)) =
        (n,if (k == NameKind.free && env.scope.kind == .function && env.kindOf n == some .cell) = true then NameKind.cell else k):=by split <;> rfl
    rw [e]
    by_cases hx:x = n
    · subst hx
      rw [List.lookup_cons_self,List.lookup_cons_self]
      rfl
    · have hb:(x == n) = false:=beq_eq_false_iff_ne.mpr hx
      rw [List.lookup_cons,List.lookup_cons]
      show (match x == n with | true=>_ | false=>_) = Option.map _ (match x == n with | true=>_ | false=>_)
      rw [hb]
      exact ih
def compSt (own:List Str) (js:List Nat) (σ:St):St:=List.replicate own.length none ++ js.map fun j=>(σ[j]?).join
section
variable {X:Cx} {pins:List (Addr × Obj)} {σ:St} {H:Hp} {s:Shared}
theorem Inv.notStack (I:Inv X pins σ H s) {b:Addr} (h1:b ≠ X.env.locals) (h2:b ∉ X.fs):b ∉ frs X.stack:=fun z=>by
  rcases List.mem_cons.mp (I.stkSub b z) with h | h
  · exact h1 h
  · exact h2 h
theorem comp_inv (I:Inv X pins σ H s) {scope:Scope} {cl:List (Str × Addr)} {own cap:List Str} {js:List Nat} (S:CompScope X.env.scope X.N scope own cap js)
    (p1:∀ y c,cl.lookup y = some c → X.env.cells.lookup y = some c) (p2:∀ y,(y,NameKind.free) ∈ scope.names → ∃ c,cl.lookup y = some c)
    {fp:List Addr} (hfp:∀ b ∈ fp,FpOk X pins H b) (hobj:∀ b ∈ fp,∃ o,s.heap.get? b = some o) {C:Addr} (hC:s.heap.objs.size ≤ C) {h₁:Heap} {tk:Nat} {m:Str → Option Value}
    (hns:h₁.Ns C m) (keep:∀ b o,s.heap.get? b = some o → h₁.get? b = some o) :
    Inv (compCx X scope cl C (own ++ cap) fp s H) [] (compSt own js σ) H { s with heap:=h₁,toks:=tk }:=by
  have hjl:cap.length = js.length:=by
    have:=congrArg List.length S.ix
    simpa using this
  have hlk:∀ x k,(compEnvC scope cl C X.env).kindOf x = some k → (k = .cell ∨ k = .free) → (x,NameKind.free) ∈ scope.names:=by
    intro x k hk hkk
    have hk':(scope.names.lookup x).map (fun k=>if (k == NameKind.free && X.env.scope.kind == .function && X.env.kindOf x == some .cell) then NameKind.cell else k) = some k:=by
      rw [← lookup_relabel]
      exact hk
    cases e:scope.names.lookup x with
    | none=>rw [e] at hk'; cases hk'
    | some k0 =>
      rw [e] at hk'
      have hm:=PySem.mem_of_lookup e
      have hk'':(if (k0 == NameKind.free && X.env.scope.kind == .function && X.env.kindOf x == some .cell) = true then NameKind.cell else k0) = k:=Option.some.inj hk'
      by_cases hf:k0 = .free
      · subst hf; exact hm
      · have:(k0 == NameKind.free) = false:=by simpa using hf
        rw [this,Bool.false_and,Bool.false_and,if_neg Bool.false_ne_true] at hk''
        subst hk''
        rcases hkk with z | z
        · exact absurd z (S.nocell _ hm)
        · exact absurd z hf
  refine ⟨⟨I.ok.mod,S.kind,I.ok.glob,I.ok.blt,hC,fun x y c h1 h2=>I.ok.inj x y c (p1 x c h1) (p1 y c h2),fun x h=>?_,fun x c h _=>absurd h (show ¬ (false = true) from Bool.false_ne_true),I.ok.hd,I.ok.frames,.inl rfl,fun b hb=>⟨?_,fun x c e=>?_⟩,I.bs,
    Nat.le_trans I.ok.bsz I.sz,fun b o e hb=>?_,fun b hb=>?_,I.stack,I.stkFree⟩,rfl,I.bare,Un.kept keep,⟨m,hns,fun i x v e1 e2 e3=>?_⟩,fun x c e=>?_,I.hok.fresh hC,fun x c e=>I.freeC x c (p1 x c e),fun p hp=>absurd hp (by simp [compCx]),I.hok.kept keep,?_⟩
  · rcases h with h | h
    · exact p2 x (hlk x _ h (.inl rfl))
    · exact p2 x (hlk x _ h (.inr rfl))
  · obtain ⟨o,e⟩:=hobj b hb
    exact Nat.ne_of_lt (Nat.lt_of_lt_of_le (Heap.lt_size e) hC)
  · exact (hfp b hb).2.2.2.2.1 x c (p1 x c e)
  · obtain ⟨_,_,_,h4,_⟩:=hfp b hb
    rcases h4 with h4 | h4
    · exact I.ok.noex b o e h4
    · exact absurd (Nat.lt_of_lt_of_le (Heap.lt_size e) (Nat.le_trans I.ok.bsz h4)) (Nat.lt_irrefl _)
  · obtain ⟨_,h2,h3,_⟩:=hfp b hb
    exact I.notStack h2 h3
  · have e1':(own ++ cap)[i]? = some x:=e1
    have hi:own.length ≤ i:=by
      by_cases hi:own.length ≤ i
      · exact hi
      · unfold compSt at e2
        rw [List.getElem?_append_left (by simpa using hi),List.getElem?_replicate] at e2
        split at e2 <;> cases e2
    rw [List.getElem?_append_right hi] at e1'
    unfold compSt at e2
    rw [List.getElem?_append_right (by simpa using hi),List.length_replicate,List.getElem?_map] at e2
    cases ej:js[i - own.length]? with
    | none=>rw [ej] at e2; cases e2
    | some j =>
      rw [ej] at e2
      have e2':(σ[j]?).join = some v:=Option.some.inj e2
      have e2'':σ[j]? = some (some v):=by
        cases eσ:σ[j]? with
        | none=>rw [eσ] at e2'; cases e2'
        | some o =>
          rw [eσ] at e2'
          have:o = some v:=e2'
          rw [this]
      have hN:X.N[j]? = some x:=by
        have q:=congrArg (fun l=>l[i - own.length]?) S.ix
        simp only [List.getElem?_map,e1',ej,Option.map_some] at q
        exact (Option.some.inj q).symm
      have hcap:x ∈ cap:=List.mem_of_getElem? e1'
      have hfree:=S.cp x hcap
      have hmem:=PySem.mem_of_lookup hfree
      have hvis:Vis X.env.scope x:=by
        rcases S.fr _ hmem rfl with h | h
        · exact .inr (.inl h)
        · exact .inr (.inr h)
      obtain ⟨m0,_,hl⟩:=I.loc
      obtain ⟨u,r,l⟩:=hl j x v hN e2'' hvis
      obtain ⟨c,hc⟩:=p2 x hmem
      have hcc:=p1 x c hc
      have hk:(compEnvC scope cl C X.env).kindOf x = some .cell ∨ (compEnvC scope cl C X.env).kindOf x = some .free:=by
        have e:(compEnvC scope cl C X.env).kindOf x = (scope.names.lookup x).map (fun k=>if (k == NameKind.free && X.env.scope.kind == .function && X.env.kindOf x == some .cell) then NameKind.cell else k):=lookup_relabel x scope.names
        rw [e,hfree]
        by_cases hb:(NameKind.free == NameKind.free && X.env.scope.kind == .function && X.env.kindOf x == some .cell) = true
        · exact .inl (congrArg some (if_pos hb))
        · exact .inr (congrArg some (if_neg hb))
      refine ⟨u,r,.inr ⟨hk,c,hc,?_⟩⟩
      rcases l with ⟨hkl,_⟩ | ⟨_,c',hc',o,ho,hd⟩
      · have hkl':X.env.scope.names.lookup x = some .local:=hkl
        rcases S.fr _ hmem rfl with h | h
        · have h:X.env.scope.names.lookup x = some .cell:=h
          rw [hkl'] at h; cases h
        · have h:X.env.scope.names.lookup x = some .free:=h
          rw [hkl'] at h; cases h
      · rw [hcc] at hc'
        cases hc'
        exact ⟨o,keep _ _ ho,hd⟩
  · obtain ⟨v,o,ho,hd⟩:=I.cell x c (p1 x c e)
    exact ⟨v,o,keep _ _ ho,hd⟩
  · unfold compSt
    show _ = (own ++ cap).length
    rw [List.length_append,List.length_append,List.length_replicate,List.length_map,hjl]
end
def PF (X:Cx) (ifs:List Expr) (t:TT):Prop :=
  ∀ (pins:List (Addr × Obj)) (s:Shared) (σ:St) (H:Hp) (Q:Bool → Hp → Prop),Inv X pins σ H s → t σ H Q →
    wpAny (model X.prog X.w) X.A (forIn ifs true fun c r=>if r = true then do let ok ← isTrue c X.env (eval c X.env); pure (ForInStep.yield ok) else pure (ForInStep.yield r)) (TP X pins σ Q) X.xe s
def tNoTest:TT:=fun _ H Q=>Q true H
theorem pf_nil {X:Cx}:PF X [] tNoTest:=fun _ _ _ H _ I h=>wpAny_tests_nil ⟨H,I,h⟩
theorem pf_one {X:Cx} {c:Expr} {t:TT} (h:PT X c t):PF X [c] t:=fun pins s σ H Q I hw=>wpAny_tests_one (h pins s σ H Q I hw)
theorem compLoop_go {prog:Program} {w:World} {A:Around} {R:Result → Shared → Prop} {s:Shared} {elt target iter:Expr} {ifs:List Expr} {scope:Scope} {pos:Pos} {it acc:Value} {env:Env} (I:Nat → Shared → Prop)
    (turn:∀ n s,I n s → wpAny (model prog w) A (pyNext it) (fun r s₁=>match r with
      | none=>R (.ok .next) s₁
      | some v=>wpAny (model prog w) A (letOwnedTupleGo target it v) (fun _ s₁'=>wpAny (model prog w) A (assign target env v) (fun _ s₂ =>
          wpAny (model prog w) A (forIn ifs true fun c r=>if r = true then do let ok ← isTrue c env (eval c env); pure (ForInStep.yield ok) else pure (ForInStep.yield r)) (fun ok s₃ =>
            if ok = true then wpAny (model prog w) A (eval elt env) (fun x s₄ =>
              wpAny (model prog w) A (call (.builtin "list.append") [acc,x]) (fun _ s₅=>∃ m,m < n ∧ I m s₅) (fun _ _=>False) s₄) (fun _ _=>False) s₃
            else ∃ m,m < n ∧ I m s₃) (fun _ _=>False) s₂) (fun _ _=>False) s₁') (fun _ _=>False) s₁) (fun _ _=>False) s)
    (n:Nat) (h:I n s) :
    codeAny (model prog w) A (.compLoop (.ListComp elt [⟨target,iter,ifs,0⟩] scope pos) 0 it acc env) R s:=by
  refine codeAny_loop rfl I (fun n s hI=>?_) n h
  show wpAny _ A ((compTurn (.ListComp elt [⟨target,iter,ifs,0⟩] scope pos) 0 it acc env).onRaise (fun x=>do noteFrame x env; theTreesLotGoes x)) _ _ s
  refine wpAny_noted (wpAny_mono (E:=fun _ _=>False) ?_ (fun _ _ z=>z) fun _ _ z=>z.elim)
  rw [compTurn_list]
  refine wpAny_bind (wpAny_standAt (wpAny_bind (wpAny_mono (turn n s hI) (fun r s₁ h₁=>?_) fun _ _ h'=>h')))
  cases r with
  | none=>exact wpAny_pure h₁
  | some v =>
    refine wpAny_bind (wpAny_mono h₁ (fun _ s₁' h₁'=>?_) fun _ _ h'=>h')
    refine wpAny_bind (wpAny_mono h₁' (fun _ s₂ h₂=>wpAny_bind (wpAny_mono h₂ (fun ok s₃ h₃=>?_) fun _ _ h'=>h')) fun _ _ h'=>h')
    cases ok with
    | false=>exact wpAny_pure ⟨rfl,h₃⟩
    | true =>
      exact wpAny_bind (wpAny_bind (wpAny_mono h₃ (fun x s₄ h₄=>wpAny_bind (wpAny_mono h₄ (fun _ s₅ h₅=>wpAny_pure (wpAny_pure ⟨rfl,h₅⟩)) fun _ _ h'=>h')) fun _ _ h'=>h'))
def tTurns (k:Nat) (J:It) (g:TG) (tt:TT) (te:TE) (σc:St) (fin:List V → Hp → Prop) (H1:Hp):Prop :=
  ∃ W:Nat → Nat → List V → Hp → Prop,(∃ m,W 0 m [] H1) ∧ ∀ i m acc H,W i m acc H →
    (J.stop i H ∧ acc.length ≤ sizeLine ∧ fin acc H) ∨
    (J.go i H ∧ acc.length < sizeLine ∧ ∃ N:List V → Hp → Prop,(∀ acc' H',N acc' H' → ∃ m',m' < m ∧ W (i + 1) m' acc' H') ∧ ∀ x H',J.yld i H x H' → g x σc H' fun σ2 H2=>σ2.drop k = σc.drop k ∧ tt σ2 H2 fun b H3 =>
      if b = true then te σ2 H3 fun y H4=>N (acc ++ [y]) H4 else N acc H3)
section
variable {X:Cx} {pins:List (Addr × Obj)} {σ:St} {H:Hp} {s:Shared}
theorem comp_run (I:Inv X pins σ H s) (hc:X.calm = true) {scope:Scope} {own cap:List Str} {js:List Nat} (S:CompScope X.env.scope X.N scope own cap js) {cl:List (Str × Addr)}
    (p1:∀ y c,cl.lookup y = some c → X.env.cells.lookup y = some c) (p2:∀ y,(y,NameKind.free) ∈ scope.names → ∃ c,cl.lookup y = some c)
    {tg iter elt:Expr} {ifs:List Expr} {pos:Pos} {J:It} {fp:List Addr} {it:Addr} {tn:Nat → Heap → Prop} (T:Turn X.prog X.w X.K tg J fp it tn) (st:tn 0 s.heap) (hf:∀ b ∈ fp,FpOk X pins H b)
    {g:TG} {tt:TT} {te:TE} (hp:∀ cl C ex s H,PG (compCx X scope cl C (own ++ cap) ex s H) tg g ∧ PF (compCx X scope cl C (own ++ cap) ex s H) ifs tt ∧ PE (compCx X scope cl C (own ++ cap) ex s H) elt te)
    {fin:List V → Hp → Prop} (hw:tTurns own.length J g tt te (compSt own js σ) fin H) {E:Value → Shared → Prop} {RR:Value → Addr → Result → Shared → Prop}
    (hRR:∀ a C acc H' s' m,s.heap.objs.size ≤ a → fin acc H' → H' a = none → s'.heap.Ns C m → s.heap.objs.size ≤ C → (upd H' a (.lst acc)) C = none → Inv X pins σ (upd H' a (.lst acc)) s' → RR (.ref a) C (.ok .next) s') :
    wpAny (model X.prog X.w) X.A (newList []) (fun acc s₃=>wpAny (model X.prog X.w) X.A (newFunctionEnv scope X.env.globals cl [] X.env.qual none .none (some X.env)) (fun cenv s₄ =>
      codeAny (model X.prog X.w) X.A (.compStart (.ListComp elt [⟨tg,iter,ifs,0⟩] scope pos) 0 (.ref it) acc { cenv with scope:=relabel scope X.env }) (RR acc cenv.locals) s₄) E s₃) E s:=by
  obtain ⟨W,⟨m0,w0⟩,turn⟩:=hw
  refine wpAny_newObj_type (wpAny_newFunctionEnv S.nocell (by intro y hy; simp at hy) (fun h₁ hns₁ hsb₁=>?_) S.kind)
  dsimp only at hns₁ hsb₁ ⊢
  generalize hH2:s.heap.push { cls:=.type "list",dict:=none,data:=.seq ([]:List Value).toArray } = H2 at hns₁ hsb₁ ⊢
  have hCs:H2.objs.size = s.heap.objs.size + 1:=by rw [← hH2,Heap.size_push]
  have hCle:s.heap.objs.size ≤ H2.objs.size:=by rw [hCs]; exact Nat.le_succ _
  have hDC:s.heap.objs.size ≠ H2.objs.size:=by rw [hCs]; exact Nat.ne_of_lt (Nat.lt_succ_self _)
  have old:∀ b o,s.heap.get? b = some o → h₁.get? b = some o:=fun b o e=>hsb₁.extBut b o (Nat.ne_of_lt (Nat.lt_of_lt_of_le (Heap.lt_size e) hCle)) (Heap.get?_push_of_some _ (hH2 ▸ Heap.get?_push_of_some _ e))
  have hacc:h₁.PlainList s.heap.objs.size #[]:=⟨_,hsb₁.extBut _ _ hDC (Heap.get?_push_of_some _ (hH2 ▸ Heap.get?_push_size _ rfl))⟩
  have hobj:∀ b ∈ fp,∃ o,s.heap.get? b = some o:=fun b hb=>let ⟨o,e,_⟩:=T.obj _ _ st b hb; ⟨o,e⟩
  have hlt:∀ b ∈ fp,b < s.heap.objs.size:=fun b hb=>let ⟨o,e⟩:=hobj b hb; Heap.lt_size e
  have st1:tn 0 h₁:=T.keep _ _ _ st fun b hb o e=>old b o e
  generalize hC:H2.objs.size = C at *
  generalize ha:s.heap.objs.size = a at *
  have hnl:X.env.locals < a:=by rw [← ha]; exact I.lt
  have hafs:a ∉ X.fs:=I.nofs (by rw [ha]; exact Nat.le_refl _)
  have hCfs:C ∉ X.fs:=I.nofs (by rw [ha]; exact hCle)
  have hfree0:H a = none:=I.hok.fresh (by rw [ha]; exact Nat.le_refl _)
  have cellA:∀ x c,cl.lookup x = some c → c < a:=fun x c e=>by
    obtain ⟨v,q⟩:=I.cell x c (p1 x c e)
    rw [← ha]; exact q.lt
  have I1:Inv (compCx X scope cl C (own ++ cap) fp s H) [] (compSt own js σ) H { s with heap:=h₁,toks:=s.toks + ([]:List (Str × Value)).length } :=
    comp_inv I S p1 p2 hf hobj (by rw [ha]; exact hCle) hns₁ old
  obtain ⟨pg,pf,pe⟩:=hp cl C fp s H
  have loop:codeAny (model X.prog X.w) X.A (.compLoop (.ListComp elt [⟨tg,iter,ifs,0⟩] scope pos) 0 (.ref it) (.ref a) (compEnvC scope cl C X.env)) (RR (.ref a) C)
      { s with heap:=h₁,toks:=s.toks + ([]:List (Str × Value)).length }:=by
    have stat:∀ {H':Hp} {its:List Value} {k:Nat},(∀ b ∈ fp,H' b = none) → ∀ b ∈ fp,FpOk (compCx X scope cl C (own ++ cap) fp s H) [(a,{ cls:=.type "list",data:=.seq its.toArray k })] H' b:=fun hn b hb =>
      ⟨hn b hb,Nat.ne_of_lt (Nat.lt_of_lt_of_le (hlt b hb) hCle),I.notStack (hf b hb).2.1 (hf b hb).2.2.1,.inl hb,fun x c e=>(hf b hb).2.2.2.2.1 x c (p1 x c e),fun p hp=>by
        have hpe:p.1 = a:=by
          have hp':p ∈ [(a,_)]:=hp
          rw [List.mem_singleton.mp hp']
        rw [hpe]
        exact Nat.ne_of_gt (hlt b hb)⟩
    refine compLoop_go (env:=compEnvC scope cl C X.env) (fun n s'=>∃ i acc its k H',Inv (compCx X scope cl C (own ++ cap) fp s H) [(a,{ cls:=.type "list",data:=.seq (its:List Value).toArray k })] (compSt own js σ) H' s' ∧ tn i s'.heap ∧ (∀ b ∈ fp,H' b = none) ∧ Vals acc its ∧ acc.length ≤ sizeLine ∧ W i n acc H') ?_ m0 ?_
    · rintro n s3 ⟨i,acc,its,k,H3,I3,st3,fr3,rv,hz,w3⟩
      rcases turn i n acc H3 w3 with ⟨stop,hz',qn⟩ | ⟨go,hz',N,hN,step⟩
      · refine thn (T.done (compCx X scope cl C (own ++ cap) fp s H) rfl rfl rfl hc i _ s3 _ H3 _ I3 (stat fr3) st3 stop) fun r s4 ⟨hr,I4⟩=>?_
        subst hr
        have hpa:=I4.pin (a,{ cls:=.type "list",data:=.seq its.toArray k }) (by simp [compCx])
        have hHa:H3 a = none:=hpa.2.1
        obtain ⟨m4,hn4,_⟩:=I4.loc
        have hHC:H3 C = none:=I4.free
        refine hRR a C acc H3 s4 m4 (Nat.le_refl _) qn hHa hn4 hCle (by rw [upd_ne (Ne.symm hDC)]; exact hHC) ?_
        refine I.call' (ch:=fp) I4.os ?_ ?_ I4.bare fun b hb=>⟨(hf b hb).2.2.2.1,(hf b hb).2.1,(hf b hb).2.2.2.2.1,(hf b hb).2.2.2.2.2⟩
        · have u:=I4.base
          have ne:∀ b o,s.heap.get? b = some o → b ≠ a:=fun b o e=>Nat.ne_of_lt (by rw [← ha]; exact Heap.lt_size e)
          have hne:∀ {b u},H3 b = some u → b ≠ a:=fun e z=>by rw [z,hHa] at e; cases e
          exact ⟨u.keep,u.slot,fun b o e n hx=>by rw [upd_ne (ne b o e)]; exact u.free b o e n hx,u.there,fun b xs e=>by have e':=u.tups b xs e; rw [upd_ne (hne e')]; exact e',
            fun b o v e=>by have e':=u.frzs b o v e; rw [upd_ne (hne e')]; exact e',fun b ps e=>by obtain ⟨more,e'⟩:=u.tbls b ps e; exact ⟨more,by rw [upd_ne (hne e')]; exact e'⟩⟩
        · intro b o e
          by_cases hb:b = a
          · subst hb
            rw [upd_same] at e
            cases e
            exact ⟨hz',its,k,rv,hpa.1⟩
          · rw [upd_ne hb] at e
            have nea:∀ c v,H3 c = some v → c ≠ a:=fun c v q z=>by rw [z,hHa] at q; cases q
            exact (I4.hok b o e).stay (fun _ _ _ q=>q) (fun c q=>by rw [upd_ne (nea c _ q)]; exact q) fun c xs q=>by rw [upd_ne (nea c _ q)]; exact q
      · refine thn (T.item (compCx X scope cl C (own ++ cap) fp s H) rfl rfl rfl hc i _ s3 _ H3 _ I3 (stat fr3) st3 go) fun r s4 ⟨u,hr,h4⟩=>?_
        subst hr
        refine thn h4 fun _ s5 ⟨x,H5,I5,r5,y5,st5,fr5⟩=>?_
        have I5':=I5.pinned (stat fr5) (T.obj _ _ st5)
        have carry:∀ {σ':St} {H':Hp} {s':Shared},Inv (compCx X scope cl C (own ++ cap) fp s H) ([(a,{ cls:=.type "list",data:=.seq its.toArray k })] ++ pinsAt fp s5.heap) σ' H' s' → tn (i + 1) s'.heap ∧ (∀ b ∈ fp,H' b = none):=fun {σ' H' s'} I7=>by
          refine ⟨T.keep _ _ _ st5 fun b hb o e=>(I7.pin (b,o) (List.mem_append_right _ (List.mem_append_right _ (mem_pinsAt hb e)))).1,fun b hb=>?_⟩
          obtain ⟨o,e,d⟩:=T.obj _ _ st5 b hb
          exact (I7.pin (b,o) (List.mem_append_right _ (List.mem_append_right _ (mem_pinsAt hb e)))).2.1
        have weak:∀ {ps:List (Addr × Obj)} {σ':St} {H':Hp} {s':Shared},Inv (compCx X scope cl C (own ++ cap) fp s H) ps σ' H' s' → σ'.drop own.length = (compSt own js σ).drop own.length → Inv (compCx X scope cl C (own ++ cap) fp s H) ps (compSt own js σ) H' s':=fun {ps σ' H' s'} I7 hσ=>by
          refine I7.weak ?_ fun j v e=>?_
          · rw [I7.len,I1.len]
          · by_cases hj:own.length ≤ j
            · have q:=congrArg (fun l=>l[j - own.length]?) hσ
              simp only [List.getElem?_drop] at q
              rw [Nat.add_sub_cancel' hj] at q
              rw [q]; exact e
            · unfold compSt at e
              rw [List.getElem?_append_left (by simpa using hj),List.getElem?_replicate] at e
              split at e <;> cases e
        refine thn (pg _ s5 _ H5 x u _ I5' r5 (step x H5 y5)) fun _ s6 ⟨σ6,H6,I6,hσ,q6⟩=>?_
        refine thn (pf _ s6 σ6 H6 _ I6 q6) fun ok s7 ⟨H7,I7,q7⟩=>?_
        cases ok with
        | false =>
          rw [if_neg Bool.false_ne_true] at q7 ⊢
          obtain ⟨m',hm,w7⟩:=hN _ _ q7
          exact ⟨m',hm,i + 1,acc,its,k,H7,weak I7.unpinned hσ,(carry I7).1,(carry I7).2,rv,hz,w7⟩
        | true =>
          rw [if_pos rfl] at q7 ⊢
          refine thn (pe _ s7 σ6 H7 _ I7 q7) fun y s8 ⟨yv,H8,I8,ry,q8⟩=>?_
          obtain ⟨m',hm,w8⟩:=hN _ _ q8
          have hp8:=I8.pin (a,{ cls:=.type "list",data:=.seq its.toArray k }) (by simp [compCx])
          refine wpAny_list_append_plain (items:=its.toArray) ⟨k,hp8.1⟩ (fun h9 hl9 hs9=>?_) (by rw [List.size_toArray,← rv.length]; exact hz)
          obtain ⟨k9,e9⟩:=hl9
          have I9:Inv (compCx X scope cl C (own ++ cap) fp s H) [] σ6 H8 { s8 with heap:=h9 } :=
            (I8.pins_of (pins':=[]) (fun p hp=>absurd hp (by simp))).turned (it:=a) (t':=s8.toks) (fun b o hb e=>(hs9.2 b hb).trans e) hp8.2.1 hDC (.inr (Nat.le_of_eq ha)) (fun x c e=>Nat.ne_of_lt (cellA x c e)) (fun p hp=>absurd hp (by simp [compCx]))
          refine ⟨m',hm,i + 1,acc ++ [yv],its ++ [y],k9,H8,(weak I9 hσ).pins_of fun p hp=>?_,T.keep _ _ _ (carry I8).1 fun b hb o e=>(hs9.2 b (Nat.ne_of_lt (hlt b hb))).trans e,(carry I8).2,rv.append (.cons ry .nil),by rw [List.length_append,List.length_singleton]; exact hz',w8⟩
          have hp':p = (a,{ cls:=.type "list",data:=.seq (its ++ [y]).toArray k9 }):=by simpa using hp
          subst hp'
          refine ⟨?_,hp8.2.1,hDC,I.notStack (Nat.ne_of_gt hnl) hafs,fun v z=>nomatch z⟩
          show h9.get? a = _
          rw [e9]
          simp
    · obtain ⟨k0,e0⟩:=hacc
      refine ⟨0,[],[],k0,H,I1.pins_of fun p hp=>?_,st1,fun b hb=>(hf b hb).1,.nil,Nat.zero_le _,w0⟩
      have hp':p = (a,{ cls:=.type "list",data:=.seq ([]:List Value).toArray k0 }):=by simpa using hp
      subst hp'
      exact ⟨e0,hfree0,hDC,I.notStack (Nat.ne_of_gt hnl) hafs,fun v z=>nomatch z⟩
  exact codeAny_compStart_list loop (T.self _ 0 _ _ _ st1 loop)
def tComp (own:List Str) (js:List Nat) (wi:TI) (g:TG) (tt:TT) (te:TE):TE:=fun σ H Q=>wi σ H fun J H1 =>
  tTurns own.length J g tt te (compSt own js σ) (fun acc H'=>∀ p,H' p = none → Q (.ref p) (upd H' p (.lst acc))) H1
variable {scope:Scope} {own cap:List Str} {js:List Nat} {tg iter elt:Expr} {ifs:List Expr} {pos:Pos} {wi:TI} {g:TG} {tt:TT} {te:TE}
theorem pe_comp (hc:X.calm = true) (S:CompScope X.env.scope X.N scope own cap js) (hi:PI X tg iter wi)
    (hp:∀ cl C ex s H,PG (compCx X scope cl C (own ++ cap) ex s H) tg g ∧ PF (compCx X scope cl C (own ++ cap) ex s H) ifs tt ∧ PE (compCx X scope cl C (own ++ cap) ex s H) elt te)
    (hs:∀ x,foldedSetIterable iter X.env x = pure x:=by intro _; rfl):PE X (.ListComp elt [⟨tg,iter,ifs,0⟩] scope pos) (tComp own js wi g tt te):=by
  intro pins s σ H Q I h
  obtain ⟨cl,e,p1,p2⟩:=closure_ok (scope:=scope) (env:=X.env) (fun x hx=>I.ok.has x (S.fr _ hx rfl))
  rw [eval_ListComp]
  refine wpAny_comprehension_free (use:=none) rfl hs e S.kind S.loc (thn (hi pins s σ H _ I h) fun v s1 h1=>thn h1 fun itv s2 h2=>?_)
  obtain ⟨it,fp,tn,J,H2,e2,I2,T,st2,f2,hw⟩:=h2
  subst e2
  refine comp_run I2 hc S p1 p2 T st2 f2 hp hw (RR:=fun acc C=>compPost (model X.prog X.w) X.A X.xe none (EP X pins σ Q) acc C) ?_
  intro a C acc H' s' m ha hfin hHa hn hC hHC I'
  have ltC:∀ b,b < s2.heap.objs.size → b ≠ C:=fun b hb=>Nat.ne_of_lt (Nat.lt_of_lt_of_le hb hC)
  exact ⟨m,hn,fun h' hs'=>⟨.ref a,_,I'.turned (it:=C) (t':=s'.toks) (fun b o hb e=>(hs'.2 b hb).trans e) hHC (Ne.symm (ltC _ I2.lt)) (.inr (Nat.le_trans I2.sz hC))
    (fun x c e=>let ⟨_,q⟩:=I2.cell x c e; ltC c q.lt) (fun p hp=>ltC _ (Heap.lt_size (I2.pin p hp).1)),rfl,hfin a hHa⟩⟩
theorem ps_comp {i:Nat} {y:Str} {py spos:Pos} (hc:X.calm = true) (S:CompScope X.env.scope X.N scope own cap js) (hi:PI X tg iter wi)
    (hp:∀ cl C ex s H,PG (compCx X scope cl C (own ++ cap) ex s H) tg g ∧ PF (compCx X scope cl C (own ++ cap) ex s H) ifs tt ∧ PE (compCx X scope cl C (own ++ cap) ex s H) elt te)
    (hN:X.N.Nodup) (hiy:X.N[i]? = some y) (hy:X.env.scope.names.lookup y = some .local)
    (hsw:swapsWith (.ListComp elt [⟨tg,iter,ifs,0⟩] scope pos) (some (.Name y py)) spos.line X.env = pure true:=by rfl)
    (hs:∀ x,foldedSetIterable iter X.env x = pure x:=by intro _; rfl):PS X (.Assign [.Name y py] (.ListComp elt [⟨tg,iter,ifs,0⟩] scope pos) spos) (tAsg (tComp own js wi g tt te) (gName i)):=by
  intro pins s σ H D I h
  obtain ⟨cl,e,p1,p2⟩:=closure_ok (scope:=scope) (env:=X.env) (fun x hx=>I.ok.has x (S.fr _ hx rfl))
  rw [exec_Assign_Name_used _ _ _ _ hsw]
  refine wpAny_bind (wpAny_standAt (wpAny_bind ?_))
  show wpAny _ X.A (do let _ ← comprehension (.ListComp elt [⟨tg,iter,ifs,0⟩] scope pos) scope X.env _ (newList []) false (eval iter X.env) (some (assign (.Name y py) X.env))) _ _ s
  refine wpAny_bind (wpAny_mono (wpAny_comprehension_free (use:=some (assign (.Name y py) X.env)) (Q:=fun _ s'=>SP X pins D .next s') rfl hs e S.kind S.loc
    (thn (hi pins s σ H _ I h) fun v s1 h1=>thn h1 fun itv s2 h2=>?_)) (fun _ s' hq=>wpAny_pure (wpAny_pure hq)) fun _ _ e=>e)
  obtain ⟨it,fp,tn,J,H2,e2,I2,T,st2,f2,hw⟩:=h2
  subst e2
  refine comp_run I2 hc S p1 p2 T st2 f2 hp hw (RR:=fun acc C=>compPost (model X.prog X.w) X.A X.xe (some (assign (.Name y py) X.env)) (fun _ s'=>SP X pins D .next s') acc C) ?_
  intro a C acc H' s' m ha hfin hHa hn hC hHC I'
  have ltC:∀ b,b < s2.heap.objs.size → b ≠ C:=fun b hb=>Nat.ne_of_lt (Nat.lt_of_lt_of_le hb hC)
  show wpAny _ X.A (assign (.Name y py) X.env (.ref a)) _ _ _
  refine wpAny_assign_Name (store_ok2 I' hN hiy (.inl hy) (v:=.ref a) rfl (fun s'' I'' ⟨b,hsb,hb⟩=>?_) (.inr hy))
  have hbC:b ≠ C:=by
    rcases hb with hb | hb
    · rw [hb]; exact ltC _ I2.lt
    · obtain ⟨_,q⟩:=I2.cell y b hb
      exact ltC b q.lt
  refine ⟨m,hn.sameBut hsb (Ne.symm hbC),fun h' hs'=>⟨_,_,I''.turned (it:=C) (t':=s''.toks) (fun b o hb e=>(hs'.2 b hb).trans e) hHC (Ne.symm (ltC _ I2.lt)) (.inr (Nat.le_trans I2.sz hC))
    (fun x c e=>let ⟨_,q⟩:=I2.cell x c e; ltC c q.lt) (fun p hp=>ltC _ (Heap.lt_size (I2.pin p hp).1)),hfin a hHa⟩⟩
end
def Ite (K:PySem.W.Frag) (a:Addr):It :=
  ⟨fun i H=>∃ xs x,SqL K H a xs ∧ xs[i]? = some x,fun i H x H'=>∃ p y,H p = none ∧ x = .ref p ∧ H' = upd H p (.tup [.int i,y]) ∧ ∀ xs,SqL K H a xs → xs[i]? = some y,fun i H=>∃ xs,SqL K H a xs ∧ xs.length = i⟩
theorem turn_enum {P:Program} {w:World} {K:PySem.W.Frag} {es:List Expr} {kk:Nat} {tp:Pos} (a e it:Addr) (hei:e ≠ it):Turn P w K (.Tuple es kk tp) (Ite K a) [e,it] e (fun i h=>(∃ old,IsEnum h e it i old) ∧ h.IsListIter it a i) where
  mem:=by simp
  obj:=fun i h st b hb=>by
    obtain ⟨⟨old,he⟩,o,e1,c,d⟩:=st
    rcases List.mem_cons.mp hb with hb | hb
    · subst hb
      exact ⟨_,he,fun v z=>nomatch z⟩
    · have hb:b = it:=by simpa using hb
      subst hb
      exact ⟨o,e1,fun v z=>by rw [d] at z; cases z⟩
  keep:=fun i h h' st k=>⟨let ⟨old,he⟩:=st.1; ⟨old,k e (by simp) _ he⟩,st.2.at fun o e'=>k it (by simp) o e'⟩
  item:=by
    intro X hP hw hK hc i pins s σ H E I hf st hg
    subst hP hw hK
    obtain ⟨xs,x,hq,hx⟩:=hg
    obtain ⟨its,rv,p,hz⟩:=I.list hq
    obtain ⟨u,hu,ru⟩:=rv.get hx
    obtain ⟨⟨old,he⟩,hit⟩:=st
    obtain ⟨f0,f1,f2,f3,f4,f5⟩:=hf e (by simp)
    obtain ⟨g0,g1,g2,g3,g4,g5⟩:=hf it (by simp)
    have hai:a ≠ it:=by
      rintro rfl
      obtain ⟨o,e1,c1,d1⟩:=hit
      obtain ⟨o',n',e2,c2,_⟩:=p
      rw [e1] at e2; cases e2
      rw [c1] at c2
      exact absurd (Value.type.inj c2) (by decide)
    have hea:e ≠ a:=by
      rintro rfl
      obtain ⟨o',n',e2,c2,_⟩:=p
      have he':=he
      unfold IsEnum at he'
      rw [e2] at he'
      cases he'
      exact absurd (Value.type.inj c2) (by decide)
    have hil:i < its.toArray.size:=by
      rw [List.size_toArray,← rv.length]
      exact (List.getElem?_eq_some_iff.mp hx).1
    refine wpAny_pyNext_enum_itemD (Draws.list (by first | exact I.ok.hd hc | (show X.A.handled = none; exact I.ok.hd hc)) it a hai its.toArray) he ⟨hit,p.isList⟩ hil hei (by simp; exact ⟨hei,hea⟩) fun y h' tk hy hout hst hT hsz hk=>?_
    have hyu:y = u:=by
      have hy':its.toArray[i]? = some y:=hy
      rw [List.getElem?_toArray,hu] at hy'
      exact (Option.some.inj hy').symm
    subst hyu
    have ltT:∀ b o,s.heap.get? b = some o → b ≠ s.heap.objs.size:=fun b o q=>Nat.ne_of_lt (Heap.lt_size q)
    refine ⟨_,rfl,wpAny_letOwnedTupleGo_enum hout fun h2 he2 hs2=>?_⟩
    have k2:∀ b o,b ≠ e → b ≠ it → s.heap.get? b = some o → h2.get? b = some o:=fun b o h1 h3 q=>(hs2.2 b h1).trans (hk b o h1 h3 q)
    have hpT:s.heap.objs.size ≠ e:=Nat.ne_of_gt (Heap.lt_size he)
    have hT2:h2.get? s.heap.objs.size = some { cls:=.type "tuple",data:=.seq #[.int i tk,y] }:=(hs2.2 _ hpT).trans hT
    have I1:Inv X pins σ (upd H s.heap.objs.size (.tup [.int i,x])) { s with heap:=h2,toks:=tk + 1 }:=by
      have hfr:H s.heap.objs.size = none:=I.hok.fresh (Nat.le_refl _)
      refine I.step (g':=s.gens) (d':=s.drawn) (ch:=[e,it]) (fun b hb=>?_) (fun b o _ _ hb q _=>k2 b o (fun z=>hb (by simp [z])) (fun z=>hb (by simp [z])) q) (fun b o _ _ hb q _=>⟨o.slots,k2 b o (fun z=>hb (by simp [z])) (fun z=>hb (by simp [z])) q⟩)
        (fun b o _ q n=>by rw [upd_ne (ltT b o q)]; exact n) (fun b o hb q=>⟨o,k2 b o (fun z=>hb (by simp [z])) (fun z=>hb (by simp [z])) q⟩) (fun b ys q=>by rw [upd_ne (ne_of_none q hfr)]; exact q) (fun b o v q=>by rw [upd_ne (ne_of_none q hfr)]; exact q)
        (fun b ps q=>⟨#[],by rw [upd_ne (ne_of_none q hfr),q]; simp⟩) (fun m hm=>?_) (fun b v q=>?_) I.bare
      · rcases List.mem_cons.mp hb with hb | hb
        · subst hb; exact ⟨f3,f1,f4,f5⟩
        · have hb:b = it:=by simpa using hb
          subst hb; exact ⟨g3,g1,g4,g5⟩
      · obtain ⟨o,es',ep,ho,r⟩:=hm
        exact ⟨o,es',ep,k2 _ o (Ne.symm f1) (Ne.symm g1) ho,r⟩
      · by_cases hb:b = s.heap.objs.size
        · subst hb
          rw [upd_same] at q
          cases q
          refine ⟨by show 2 ≤ sizeLine; decide,[.int i tk,y],.cons ⟨tk,rfl⟩ (.cons ru .nil),⟨_,hT2,rfl,_,rfl⟩⟩
        · rw [upd_ne hb] at q
          have nn:∀ c v,H c = some v → c ≠ e ∧ c ≠ it:=fun c v z=>⟨fun z'=>(by rw [z',f0] at z; cases z),fun z'=>(by rw [z',g0] at z; cases z)⟩
          refine (I.hok b v q).stay (fun c v' hc' q'=>?_) (fun c q'=>by rw [upd_ne (ne_of_none q' hfr)]; exact q') fun c ys q'=>by rw [upd_ne (ne_of_none q' hfr)]; exact q'
          rcases hc' with z | z
          · subst z; exact k2 _ _ (nn _ _ q).1 (nn _ _ q).2 q'
          · exact k2 _ _ (nn _ _ z).1 (nn _ _ z).2 q'
    refine ⟨.ref s.heap.objs.size,_,I1,rfl,⟨s.heap.objs.size,x,I.hok.fresh (Nat.le_refl _),rfl,rfl,fun ys hy=>by rw [I.list_inj hy hq]; exact hx⟩,⟨⟨_,he2⟩,?_⟩,fun b hb=>?_⟩
    · exact hst.1.at fun o q=>(hs2.2 it (Ne.symm hei)).trans q
    · have hbe:b < s.heap.objs.size:=by
        rcases List.mem_cons.mp hb with hb | hb
        · rw [hb]; exact Heap.lt_size he
        · have hb:b = it:=by simpa using hb
          obtain ⟨o,e1,_⟩:=hit
          rw [hb]; exact Heap.lt_size e1
      rw [upd_ne (Nat.ne_of_lt hbe)]
      exact (hf b hb).1
  done:=by
    intro X hP hw hK hc i pins s σ H E I hf st hg
    subst hP hw hK
    obtain ⟨xs,hq,hx⟩:=hg
    obtain ⟨its,rv,p,hz⟩:=I.list hq
    obtain ⟨⟨old,he⟩,hit⟩:=st
    obtain ⟨g0,g1,g2,g3,g4,g5⟩:=hf it (by simp)
    have hai:a ≠ it:=by
      rintro rfl
      obtain ⟨o,e1,c1,d1⟩:=hit
      obtain ⟨o',n',e2,c2,_⟩:=p
      rw [e1] at e2; cases e2
      rw [c1] at c2
      exact absurd (Value.type.inj c2) (by decide)
    have hn:its.toArray.size = i:=by rw [List.size_toArray,← rv.length]; exact hx
    exact wpAny_pyNext_enum_endD (Draws.list (by first | exact I.ok.hd hc | (show X.A.handled = none; exact I.ok.hd hc)) it a hai its.toArray) he ⟨by rw [hn]; exact hit,p.isList⟩ fun h' hx=>⟨rfl,I.turned (it:=it) (t':=s.toks) (fun b o hb q=>hx b o hb q) g0 g1 g3 g4 g5⟩
  self:=fun _ _ _ _ _ st h=>let ⟨old,he⟩:=st.1; wpAny_pyIter_enum he h
theorem bootEnumerate:bootBuiltins "enumerate" = some (.type "enumerate"):=by decide +kernel
inductive iEnumI (K:PySem.W.Frag) (R:(It → Hp → Prop)) (vs:List V) (H1:Hp):Prop
  | mk (a:_) (h1_:vs = [.ref a]) (h2_:(∃ xs,SqL K H1 a xs)) (h3_:R (Ite K a) H1):iEnumI K R vs H1
def iEnum (K:PySem.W.Frag) (ta:TA):TI:=fun σ H R=>ta σ H fun vs H1=>iEnumI K R vs H1
theorem pi_enum {X:Cx} {a:Expr} {ta:TA} {p pos:Pos} {es:List Expr} {kk:Nat} {tp:Pos} (hg:Gl X "enumerate") (hm:X.mg "enumerate" = none) (ha:PA X [a] ta) (hs:starEach [a] X.env = [(false,eval a X.env)]:=by rfl) :
    PI X (.Tuple es kk tp) (.Call (.Name "enumerate" p) [a] [] pos) (iEnum X.K ta):=by
  intro pins s σ H R I h
  refine Call_ (ld_blt I hg hm bootEnumerate (PyProof.Rows.callWith_type1 (thn (ha pos pins s σ H _ I h) fun us s1 ⟨vs,H1,I1,r1,q1⟩=>?_) hs rfl))
  obtain ⟨l,e,⟨xs,hq⟩,q⟩:=q1
  subst e
  obtain ⟨u,eu,ru⟩:=vals1 r1
  subst eu
  cases ru
  obtain ⟨its,rv,pl,hz⟩:=I1.list hq
  refine call_enumerate_list pl.isList fun h' he hi hsz hk=>?_
  refine wpAny_pyIter_enum he ?_
  have I2:Inv X pins σ H1 { s1 with heap:=h' }:=I1.kept (t':=s1.toks) hk
  refine ⟨s1.heap.objs.size + 1,[s1.heap.objs.size + 1,s1.heap.objs.size],_,_,H1,rfl,I2,turn_enum l _ _ (Nat.succ_ne_self _),⟨⟨_,he⟩,hi⟩,fun b hb=>?_,q⟩
  have hb':s1.heap.objs.size ≤ b:=by
    rcases List.mem_cons.mp hb with hb | hb
    · rw [hb]; exact Nat.le_succ _
    · have hb:b = s1.heap.objs.size:=by simpa using hb
      rw [hb]; exact Nat.le_refl _
  exact I1.fpOk hb' (I1.hok.fresh hb')
def Its (x:Str):It:=⟨fun i _=>i < x.cps.size,fun i H y H'=>H' = H ∧ ∃ c,x.cps[i]? = some c ∧ y = .str ⟨#[c]⟩,fun i _=>x.cps.size = i⟩
theorem turn_str {P:Program} {w:World} {K:PySem.W.Frag} {tg:Expr} (it:Addr) (x:Str) (t:Tok) (ty:String) (hn:["enumerate","zip","dict_itemiterator","dict_reverseitemiterator","odict_iterator","itertools.zip_longest","itertools.pairwise"].contains ty = false)
    (hW:∀ A':Around,A'.handled = none → Walks P w A' it [it] [it] x.cps.size (SignAt x) (fun i h=>h.IsStrIter it ty x t i))
    (hself:∀ (A:Around) (i:Nat) (s:Shared) (Q:Value → Shared → Prop) (E:Value → Shared → Prop),s.heap.IsStrIter it ty x t i → Q (.ref it) s → wpAny (model P w) A (pyIter (.ref it)) Q E s):Turn P w K tg (Its x) [it] it (fun i h=>h.IsStrIter it ty x t i) where
  mem:=by simp
  obj:=fun i h st b hb=>by
    have e:b = it:=by simpa using hb
    subst e
    obtain ⟨o,e,c,d⟩:=st
    exact ⟨o,e,fun v z=>by rw [d] at z; cases z⟩
  keep:=fun i h h' st k=>let ⟨o,e,r⟩:=st; ⟨o,k it (by simp) o e,r⟩
  item:=by
    intro X hP hw hK hc i pins s σ H E I hf st hg
    subst hP hw hK
    obtain ⟨f0,f1,f2,f3,f4,f5⟩:=hf it (by simp)
    refine (hW X.A (I.ok.hd hc)).item i s _ _ hg st fun v h' tk hv st' kk=>?_
    obtain ⟨c,u,e1,e2⟩:=hv
    subst e2
    have I1:Inv X pins σ H { s with heap:=h',toks:=tk }:=I.turned (fun b o hb e=>kk b o (by simpa using hb) e) f0 f1 f3 f4 f5
    obtain ⟨o,eo,c0,d0⟩:=id st'
    exact ⟨_,rfl,go_of (s:={ s with heap:=h',toks:=tk }) eo c0 d0 hn ⟨.str ⟨#[c]⟩,H,I1,⟨u,rfl⟩,⟨rfl,c,e1,rfl⟩,st',fun b hb=>(hf b hb).1⟩⟩
  done:=by
    intro X hP hw hK hc i pins s σ H E I hf st hg
    subst hP hw hK
    obtain ⟨f0,f1,f2,f3,f4,f5⟩:=hf it (by simp)
    have hg:x.cps.size = i:=hg
    refine (hW X.A (I.ok.hd hc)).done s _ _ (by rw [hg]; exact st) fun h' tk kk=>⟨rfl,I.turned (fun b o hb e=>kk b o (by simpa using hb) e) f0 f1 f3 f4 f5⟩
  self:=hself
inductive iStrI (R:(It → Hp → Prop)) (x:V) (H1:Hp):Prop
  | mk (z:_) (h1_:x = .str z) (h2_:R (Its z) H1):iStrI R x H1
def iStr (tl:TE):TI:=fun σ H R=>tl σ H fun x H1=>iStrI R x H1
theorem pi_str {X:Cx} {tg l:Expr} {tl:TE} (hl:PE X l tl):PI X tg l (iStr tl):=by
  intro pins s σ H R I h
  refine thn (hl pins s σ H _ I h) fun v s1 ⟨x,H1,I1,r1,q1⟩=>?_
  obtain ⟨z,e,q⟩:=q1
  subst e
  obtain ⟨t,rfl⟩:=r1
  have fin:∀ (ty:String) (T:Turn X.prog X.w X.K tg (Its z) [s1.heap.objs.size] s1.heap.objs.size (fun i h=>h.IsStrIter s1.heap.objs.size ty z t i)),
      PIE X pins σ tg R (.ref s1.heap.objs.size) { s1 with heap:=s1.heap.push { cls:=.type ty,data:=.fields #[.str z t,.int 0 0] } }:=fun ty T=>by
    refine ⟨_,_,_,_,H1,rfl,I1.kept (t':=s1.toks) fun b o e=>Heap.get?_push_of_some _ e,T,⟨_,Heap.get?_push_size _ rfl,rfl,rfl⟩,fun b hb=>?_,q⟩
    have e:b = s1.heap.objs.size:=by simpa using hb
    subst e
    exact I1.fpOk (Nat.le_refl _) (I1.hok.fresh (Nat.le_refl _))
  cases ha:z.cps.all (· < 128)
  · exact wpAny_pyIter_wide ha (fin _ (turn_str _ z t _ (by decide) (fun A' hA=>Walks.strWide hA _ z t) fun A i s Q E st h=>wpAny_pyIter_striter_wide st h))
  · exact wpAny_pyIter_ascii ha (fin _ (turn_str _ z t _ (by decide) (fun A' hA=>Walks.strAscii hA _ z t) fun A i s Q E st h=>wpAny_pyIter_striter_ascii st h))
section
variable {K:PySem.W.Frag} {k:Nat} {g:TG} {tt:TT} {te:TE} {σc:St} {fin:List V → Hp → Prop} {H:Hp}
theorem turns_of (J:It) (n:Nat) (Pv:Nat → List V → Hp → Prop) (h0:Pv 0 [] H) (hlen:∀ i acc H,Pv i acc H → acc.length ≤ i) (hn:n < sizeLine) (hgo:∀ i acc H,i < n → Pv i acc H → J.go i H) (hst:∀ acc H,Pv n acc H → J.stop n H)
    (hs:∀ i acc H x H',i < n → Pv i acc H → J.yld i H x H' → g x σc H' fun σ2 H2=>σ2.drop k = σc.drop k ∧ tt σ2 H2 fun b H3=>if b = true then te σ2 H3 fun y H4=>Pv (i + 1) (acc ++ [y]) H4 else Pv (i + 1) acc H3)
    (hd:∀ acc H,Pv n acc H → fin acc H):tTurns k J g tt te σc fin H:=by
  refine ⟨fun i m acc H=>m = n - i ∧ i ≤ n ∧ Pv i acc H,⟨n,by simp,Nat.zero_le _,h0⟩,?_⟩
  rintro i m acc H ⟨rfl,hi,p⟩
  have hl:=hlen i acc H p
  by_cases hlt:i < n
  · exact .inr ⟨hgo i acc H hlt p,by lia,Pv (i + 1),fun acc' H' p'=>⟨n - (i + 1),by lia,rfl,hlt,p'⟩,fun x H' y=>hs i acc H x H' hlt p y⟩
  · have e:i = n:=by lia
    subst e
    exact .inl ⟨hst acc H p,by lia,hd acc H p⟩
theorem turns_list {a:Addr} {xs:List V} (Pv:Nat → List V → Hp → Prop) (h0:Pv 0 [] H) (hlen:∀ i acc H,Pv i acc H → acc.length ≤ i) (hn:xs.length < sizeLine) (hl:∀ i acc H,Pv i acc H → SqL K H a xs)
    (hs:∀ i acc H x,xs[i]? = some x → Pv i acc H → g x σc H fun σ2 H2=>σ2.drop k = σc.drop k ∧ tt σ2 H2 fun b H3=>if b = true then te σ2 H3 fun y H4=>Pv (i + 1) (acc ++ [y]) H4 else Pv (i + 1) acc H3)
    (hd:∀ acc H,Pv xs.length acc H → fin acc H):tTurns k (Itl K a) g tt te σc fin H:=by
  refine turns_of _ xs.length Pv h0 hlen hn (fun i acc H hi p=>⟨xs,xs[i],hl i acc H p,by simp [hi]⟩) (fun acc H p=>⟨xs,hl _ acc H p,Nat.le_refl _⟩) (fun i acc H x H' hi p y=>?_) hd
  obtain ⟨e,y⟩:=y
  subst e
  exact hs i acc _ x (y xs (hl i acc _ p)) p
theorem turns_enum {a:Addr} {xs:List V} (Pv:Nat → List V → Hp → Prop) (h0:Pv 0 [] H) (hlen:∀ i acc H,Pv i acc H → acc.length ≤ i) (hn:xs.length < sizeLine) (hl:∀ i acc H,Pv i acc H → SqL K H a xs)
    (hs:∀ i acc H x p,xs[i]? = some x → Pv i acc H → H p = none → g (.ref p) σc (upd H p (.tup [.int i,x])) fun σ2 H2=>σ2.drop k = σc.drop k ∧ tt σ2 H2 fun b H3=>if b = true then te σ2 H3 fun y H4=>Pv (i + 1) (acc ++ [y]) H4 else Pv (i + 1) acc H3)
    (hd:∀ acc H,Pv xs.length acc H → fin acc H):tTurns k (Ite K a) g tt te σc fin H:=by
  refine turns_of _ xs.length Pv h0 hlen hn (fun i acc H hi p=>⟨xs,xs[i],hl i acc H p,by simp [hi]⟩) (fun acc H p=>⟨xs,hl _ acc H p,rfl⟩) (fun i acc H x H' hi p y=>?_) hd
  obtain ⟨q,z,e1,e2,e3,e4⟩:=y
  subst e2 e3
  exact hs i acc _ z q (e4 xs (hl i acc _ p)) p e1
theorem turns_range {lo:Int} {n:Nat} (Pv:Nat → List V → Hp → Prop) (h0:Pv 0 [] H) (hlen:∀ i acc H,Pv i acc H → acc.length ≤ i) (hn:n < sizeLine)
    (hs:∀ i acc H,i < n → Pv i acc H → g (.int (lo + i)) σc H fun σ2 H2=>σ2.drop k = σc.drop k ∧ tt σ2 H2 fun b H3=>if b = true then te σ2 H3 fun y H4=>Pv (i + 1) (acc ++ [y]) H4 else Pv (i + 1) acc H3)
    (hd:∀ acc H,Pv n acc H → fin acc H):tTurns k (Itr lo n) g tt te σc fin H:=by
  refine turns_of _ n Pv h0 hlen hn (fun i acc H hi p=>hi) (fun acc H p=>Nat.le_refl _) (fun i acc H x H' hi p y=>?_) hd
  obtain ⟨e1,e2⟩:=y
  subst e1 e2
  exact hs i acc _ hi p
theorem turns_str {z:Str} (Pv:Nat → List V → Hp → Prop) (h0:Pv 0 [] H) (hlen:∀ i acc H,Pv i acc H → acc.length ≤ i) (hn:z.cps.size < sizeLine)
    (hs:∀ i acc H c,z.cps[i]? = some c → Pv i acc H → g (.str ⟨#[c]⟩) σc H fun σ2 H2=>σ2.drop k = σc.drop k ∧ tt σ2 H2 fun b H3=>if b = true then te σ2 H3 fun y H4=>Pv (i + 1) (acc ++ [y]) H4 else Pv (i + 1) acc H3)
    (hd:∀ acc H,Pv z.cps.size acc H → fin acc H):tTurns k (Its z) g tt te σc fin H:=by
  refine turns_of _ z.cps.size Pv h0 hlen hn (fun i acc H hi p=>hi) (fun acc H p=>rfl) (fun i acc H x H' hi p y=>?_) hd
  obtain ⟨e1,c,e2,e3⟩:=y
  subst e1 e3
  exact hs i acc _ c e2 p
end
end L2
namespace L2
open PySem PySem.Spec PyProof.Rows
abbrev Sx (w:List Nat):Str:=⟨w.toArray⟩
theorem Sx_len (w:List Nat):(Sx w).length = w.length:=by simp [Sx,Str.length]
theorem Sx_cps (w:List Nat):(Sx w).cps.toList = w:=by simp [Sx]
theorem Sx_inj {a b:List Nat} (h:Sx a = Sx b):a = b:=by
  have:=congrArg (fun z=>z.cps.toList) h
  simpa [Sx] using this
theorem Sx_app (a b:List Nat):Sx a ++ Sx b = Sx (a ++ b):=by
  show (⟨a.toArray ++ b.toArray⟩:Str) = ⟨(a ++ b).toArray⟩
  simp
def cutW (w:List Nat) (lo hi:Option Int):List Nat:=(w.drop (HT.sIx w.length 0 lo)).take (HT.sIx w.length w.length hi - HT.sIx w.length 0 lo)
theorem cutW_length (xs:List Nat) (lo hi:Option Int):(cutW xs lo hi).length ≤ xs.length:=by
  unfold cutW
  rw [List.length_take,List.length_drop]
  lia
theorem clipS (v:Option Int) (n d:Nat) (hd:d ≤ n):(match v with
    | none=>(d:Int)
    | some i=>max 0 (min (if i < 0 then i + (n:Int) else i) (n:Int))) = ((HT.sIx n d v:Nat):Int):=by
  cases v with
  | none=>rfl
  | some i =>
    show max 0 (min (if i < 0 then i + (n:Int) else i) (n:Int)) = _
    rw [← HT.clip_eq i n d]
    split <;> lia
theorem indices_eq (lo hi:Option Int) (n:Nat):Builtin.Str.strSliceIndices lo hi 1 n = (List.range (HT.sIx n n hi - HT.sIx n 0 lo)).map (HT.sIx n 0 lo + ·):=by
  have h1:=clipS lo n 0 (Nat.zero_le _)
  have h2:=clipS hi n n (Nat.le_refl _)
  rw [← sliceRange_one,← h1,← h2]
  unfold Builtin.Str.strSliceIndices
  simp only [show (1:Int) > 0 by decide,if_true]
  rfl
theorem slice_Sx (w:List Nat) (lo hi:Option Int):Txt.slice (Sx w) lo hi = Sx (cutW w lo hi):=by
  have e:(Builtin.Str.strSliceIndices lo hi 1 (Sx w).length).filterMap ((Sx w).cps[·]?) = cutW w lo hi:=by
    rw [indices_eq,pick_run,Sx_len,Sx_cps]
    rfl
  unfold Txt.slice
  split
  · rename_i h
    have hl:(Builtin.Str.strSliceIndices lo hi 1 (Sx w).length).length = (Sx w).length:=by simpa using h
    rw [indices_eq,List.length_map,List.length_range,Sx_len] at hl
    have b1:=HT.sIx_le w.length 0 (Nat.zero_le _) lo
    have b2:=HT.sIx_le w.length w.length (Nat.le_refl _) hi
    have e0:HT.sIx w.length 0 lo = 0:=by lia
    have e1:HT.sIx w.length w.length hi = w.length:=by lia
    unfold cutW
    rw [e0,e1]
    simp
  · rw [e]
section
variable {X:Cx}
theorem part_of {v:Value} {o:Option Int} (h:IsPart v o):∃ l:Option (Int × Tok),v = partValue l ∧ l.map (·.1) = o:=by
  cases h with
  | none=>exact ⟨none,rfl,rfl⟩
  | int i t=>exact ⟨some (i,t),rfl,rfl⟩
inductive rSlS (x:V) (lo:Option Int) (hi:Option Int) (H:Hp) (Q:VK):Prop
  | mk (w:_) (h1_:x = .str (Sx w)) (h2_:w.length ≤ sizeLine) (h3_:Q (.str (Sx (cutW w lo hi))) H):rSlS x lo hi H Q
theorem sl_str:SlR X rSlS:=by
  intro pins s σ H x v vl vu lo hi sl Q I rx hs pl pu h
  obtain ⟨w,rfl,hz,q⟩:=h
  obtain ⟨t,rfl⟩:=rx
  obtain ⟨l,rfl,el⟩:=part_of pl
  obtain ⟨u,rfl,eu⟩:=part_of pu
  refine ⟨"str",_,PySem.F.slot_str_getitem.lookup,typeIs_str _ _ _,?_⟩
  obtain ⟨o,e1,e2,e3⟩:=hs
  refine wpAny_getItem_str_slice (l:=l) (u:=u) (st:=none) ⟨o,e1,e2,e3⟩ rfl ?_
  have key:(Txt.slice (Sx w) (l.map (·.1)) (u.map (·.1))).length ≤ sizeLine ∧ ∀ t' k,EP X pins σ Q (.str (Txt.slice (Sx w) (l.map (·.1)) (u.map (·.1))) t') { s with toks:=k }:=by
    rw [el,eu,slice_Sx]
    refine ⟨by rw [Sx_len]; exact Nat.le_trans (cutW_length w lo hi) hz,fun t' k=>⟨.str (Sx (cutW w lo hi)),H,I.tok k,⟨t',rfl⟩,q⟩⟩
  exact post_val_or_str key
def atW (w l:List Nat) (p:Nat):Bool:=(w.drop p).take l.length == l
theorem subAt_Sx (w l:List Nat) (p:Nat):Builtin.Str.subAt (Sx w) (Sx l) p = atW w l p:=by
  unfold Builtin.Str.subAt atW
  rw [Sx_len]
  show ((w.toArray.extract p (p + l.length)) == l.toArray) = _
  rw [Bool.eq_iff_iff,beq_iff_eq,beq_iff_eq]
  constructor
  · intro h
    have:=congrArg Array.toList h
    simpa [List.extract_eq_drop_take] using this
  · intro h
    apply Array.ext'
    simpa [List.extract_eq_drop_take] using h
inductive rStarts (x:V) (vs:List V) (H:Hp) (Q:VK):Prop
  | mk (w:_) (l:_) (i:_) (h1_:x = .str (Sx w)) (h2_:vs = [.str (Sx l),.int i]) (h3_:0 ≤ i) (h4_:Q (.bl (decide (i.toNat + l.length ≤ w.length) && atW w l i.toNat)) H):rStarts x vs H Q
theorem mt_starts:MtR X "str.startswith" rStarts:=by
  intro pins s σ H x vs v us Q I rx rv h
  obtain ⟨w,l,i,rfl,rfl,hi,q⟩:=h
  obtain ⟨t,rfl⟩:=rx
  obtain ⟨u,u2,rfl,r1,r2⟩:=rv.two
  obtain ⟨t1,rfl⟩:=r1
  obtain ⟨t2,rfl⟩:=r2
  refine SC.startswith3 ⟨_,H,I,?_,q⟩
  show Value.bool _ = Value.bool _
  congr 1
  unfold Txt.startswith3
  have e:fromIndex (Sx w).length i = i.toNat:=by
    unfold fromIndex
    rw [if_neg (by lia)]
    congr 1
    lia
  rw [e,Sx_len,Sx_len,subAt_Sx]
theorem strsAre_of:∀ {ws:List (List Nat)} {us:List Value},Vals (ws.map fun w=>V.str (Sx w)) us → StrsAre us (ws.map Sx)
  | [],_,.nil=>.nil
  | w :: ws,_,.cons r rr=>by
    obtain ⟨t,rfl⟩:=r
    exact .cons (Sx w) t (strsAre_of rr)
theorem join_Sx:∀ ws:List (List Nat),Txt.join (Sx []) (ws.map Sx) = Sx ws.flatten:=by
  intro ws
  show Builtin.Str.glued _ _ = _
  rw [StrLaws.glued_eq_join]
  induction ws with
  | nil=>rfl
  | cons w r ih =>
    cases r with
    | nil=>simp [Str.join]
    | cons y r =>
      show Sx w ++ Sx [] ++ Str.join (Sx []) ((y :: r).map Sx) = _
      rw [ih,Sx_app,Sx_app]
      simp
inductive rJoin (K:PySem.W.Frag) (x:V) (vs:List V) (H:Hp) (Q:VK):Prop
  | mk (p:Addr) (ws:List (List Nat)) (h1_:x = .str (Sx [])) (h2_:vs = [.ref p]) (h3_:SqL K H p (ws.map fun w=>V.str (Sx w))) (h4_:(ws.map List.length).sum ≤ 16777216) (h5_:Q (.str (Sx ws.flatten)) H):rJoin K x vs H Q
theorem mt_join:MtR X "str.join" (rJoin X.K):=by
  intro pins s σ H x vs v us Q I rx rv h
  obtain ⟨p,ws,rfl,rfl,hl,hz,q⟩:=h
  obtain ⟨t,rfl⟩:=rx
  obtain ⟨u,rfl,ru⟩:=rv.one
  cases ru
  obtain ⟨its,r,pl,hz'⟩:=I.list hl
  refine join_list (ys:=ws.map Sx) pl.isList (by simpa using strsAre_of r) ?_ fun t' k=>?_
  · rw [List.map_map,Sx_len]
    have e:(Str.length ∘ Sx) = List.length:=by funext w; exact Sx_len w
    rw [e]
    simp
    exact hz
  · rw [join_Sx]
    exact ⟨.str (Sx ws.flatten),H,I.tok k,⟨t',rfl⟩,q⟩
inductive rAddS (x:V) (y:V) (H:Hp) (Q:VK):Prop
  | mk (a:_) (b:_) (h1_:x = .str (Sx a)) (h2_:y = .str (Sx b)) (h3_:a.length + b.length ≤ sizeLine) (h4_:Q (.str (Sx (a ++ b))) H):rAddS x y H Q
theorem op_addS:OpR X (binaryOp .Add) rAddS:=by
  intro pins s σ H x y v u Q I rx ry h
  obtain ⟨a,b,rfl,rfl,hz,q⟩:=h
  refine op_add_str pins s σ H _ _ v u Q I rx ry ⟨Sx a,Sx b,rfl,rfl,by rw [Sx_len,Sx_len]; exact hz,?_⟩
  rw [Sx_app]
  exact q
inductive rLenS (xs:List V) (H:Hp) (Q:VK):Prop
  | mk (w:_) (h1_:xs = [.str (Sx w)]) (h2_:w.length ≤ sizeLine) (h3_:Q (.int w.length) H):rLenS xs H Q
theorem call_lenS:CallR X (.builtin "len") rLenS:=by
  intro pins s σ H xs us Q I r h
  obtain ⟨w,rfl,hz,q⟩:=h
  refine call_len_str pins s σ H _ us Q I r ⟨Sx w,rfl,by rw [Sx_len]; exact hz,?_⟩
  rw [Sx_len]
  exact q
inductive rIxW (x:V) (y:V) (H:Hp) (Q:VK):Prop
  | mk (w:_) (i:_) (c:_) (h1_:x = .str (Sx w)) (h2_:y = .int i) (h3_:w.length ≤ sizeLine) (h4_:atI w i = some c) (h5_:Q (.str (Sx [c])) H):rIxW x y H Q
theorem ix_W:IxR X rIxW:=by
  intro value slice pins s σ H x y v u Q I rx ry h hs
  obtain ⟨w,i,c,rfl,rfl,hz,e,q⟩:=h
  exact ix_str value slice pins s σ H _ _ v u Q I rx ry ⟨Sx w,i,c,rfl,rfl,by rw [Sx_len]; exact hz,by rw [Sx_cps]; exact e,q⟩ hs
def rEqNil (K:PySem.W.Frag) (neg:Bool):R2:=fun x y H Q=>∃ p q xs,x = .ref p ∧ y = .ref q ∧ SqL K H p xs ∧ SqL K H q [] ∧ Q (.bl (if neg then !xs.isEmpty else xs.isEmpty)) H
theorem op_eqNil (hu:X.A.units < cLine):OpR X (compareOp .Eq) (rEqNil X.K false):=by
  intro pins s σ H x y v u Q I rx ry h
  obtain ⟨p,q,xs,rfl,rfl,h1,h2,k⟩:=h
  cases rx
  cases ry
  obtain ⟨its,r1,p1,_⟩:=I.list h1
  obtain ⟨its2,r2,p2,_⟩:=I.list h2
  cases r2
  cases r1 with
  | nil =>
    refine SeqAt.eq_listAt (e:=fun _=>true) p1.isList p2.isList rfl hu (fun j h1 _=>absurd h1 (by simp)) ⟨.bl true,H,I,rfl,k⟩
  | cons r rr =>
    exact SeqAt.eq_list_lengthsAt p1.isList p2.isList (by simp) hu ⟨.bl false,H,I,rfl,k⟩
theorem op_neNil (hu:X.A.units < cLine):OpR X (compareOp .NotEq) (rEqNil X.K true):=by
  intro pins s σ H x y v u Q I rx ry h
  obtain ⟨p,q,xs,rfl,rfl,h1,h2,k⟩:=h
  cases rx
  cases ry
  obtain ⟨its,r1,p1,_⟩:=I.list h1
  obtain ⟨its2,r2,p2,_⟩:=I.list h2
  cases r2
  cases r1 with
  | nil =>
    exact PySem.EqBoolInt.of_rcne (SeqAt.RcNeAt.lists (e:=fun _=>true) p1.isList p2.isList rfl hu (fun j h1 _=>absurd h1 (by simp))) ⟨.bl false,H,I,rfl,k⟩
  | cons r rr =>
    exact PySem.EqBoolInt.of_rcne (SeqAt.RcNeAt.lists_lengths p1.isList p2.isList (by simp) hu) ⟨.bl true,H,I,rfl,k⟩
end
end L2
namespace L2
open PySem PySem.Spec PyProof.Rows
section
variable {X:Cx}
inductive rCatR (K:PySem.W.Frag) (x:V) (y:V) (H:Hp) (Q:VK):Prop
  | mk (l:_) (b:_) (xs:_) (zs:_) (h1_:x = .ref l) (h2_:y = .ref b) (h3_:SqL K H l xs) (h4_:SqL K H b zs) (h5_:xs.length + zs.length ≤ sizeLine) (h6_:∀ p,H p = none → Q (.ref p) (upd H p (.lst (xs ++ zs)))):rCatR K x y H Q
theorem op_catR:OpR X (binaryOp .Add) (rCatR X.K):=by
  intro pins s σ H x y v u Q I rx ry h
  obtain ⟨l,b,xs,zs,rfl,rfl,hH,hB,hz,q⟩:=h
  cases rx
  cases ry
  obtain ⟨its,r1,p1,_⟩:=I.list hH
  obtain ⟨its2,r2,p2,_⟩:=I.list hB
  obtain ⟨⟨cls,dd,data,sl⟩,ho,hc,n,hd⟩:=id p1.isList
  obtain ⟨⟨cls2,dd2,data2,sl2⟩,ho2,hc2,n2,hd2⟩:=id p2.isList
  simp only at hc hd hc2 hd2
  subst hc hd hc2 hd2
  have fin:EP X pins σ Q (.ref s.heap.objs.size) { s with heap:=s.heap.push { cls:=.type "list",data:=.seq (its ++ its2).toArray } } :=
    ⟨.ref _,_,I.lnew (t':=s.toks) (r1.append r2) (by rw [List.length_append]; lia),rfl,q _ I.fresh⟩
  have ea:its.toArray ++ its2.toArray = (its ++ its2).toArray:=by simp
  rw [← ea] at fin
  refine concat_meets ⟨_,ho,rfl⟩ ⟨_,ho2,rfl⟩ noFill_list_add seq_list_add PySem.F.slot_list_add PySem.F.entry_list_add (PySem.F.args_list_add_2 _ _) (list_addW l b its.toArray its2.toArray n n2 dd dd2 sl sl2 (by rw [List.size_toArray,List.size_toArray,← r1.length,← r2.length]; exact hz)) ⟨ho,ho2,?_⟩
  exact fin
theorem TyOf.kit {pins:List (Addr × Obj)} {σ:St} {H:Hp} {s:Shared} {x:V} {u t:Value} (I:Inv X pins σ H s) (rx:RelV x u) (ty:TyOf X.K H x t) :
    ∃ F:Heap → Prop,PySem.W.KitX X.K u t F ∧ F s.heap ∧ u ≠ .builtin "__main__.__loader__#opaque":=by
  cases ty with
  | non=>cases (show u = Value.none from rx); exact ⟨_,PySem.W.kitx_none,True.intro,fun z=>nomatch z⟩
  | bl y=>cases (show u = Value.bool y from rx); exact ⟨_,PySem.W.kitx_bool,True.intro,fun z=>nomatch z⟩
  | int i=>obtain ⟨t,q⟩:=(show ∃ t,u = Value.int i t from rx); cases q; exact ⟨_,PySem.W.kitx_int,True.intro,fun z=>nomatch z⟩
  | str y=>obtain ⟨t,q⟩:=(show ∃ t,u = Value.str y t from rx); cases q; exact ⟨_,PySem.W.kitx_str,True.intro,fun z=>nomatch z⟩
  | flt y=>obtain ⟨t,q⟩:=(show ∃ t,u = Value.float y t from rx); cases q; exact ⟨_,PySem.W.kitx_float,True.intro,fun z=>nomatch z⟩
  | @lst a xs ea =>
    cases (show u = Value.ref a from rx)
    obtain ⟨_,_,n,_,h1⟩:=(show ObjOk X.prog X.w H s.heap a (.lst xs) from I.hok a _ ea)
    exact ⟨_,PySem.W.kitx_list,⟨_,h1,rfl⟩,fun z=>nomatch z⟩
  | @frz a ob xs ea =>
    cases (show u = Value.ref a from rx)
    obtain ⟨_,_,_,n,_,h1⟩:=(show ObjOk X.prog X.w H s.heap a (.frz ob (.lst xs)) from I.hok a _ ea)
    exact ⟨_,PySem.W.kitx_list,⟨_,h1,rfl⟩,fun z=>nomatch z⟩
  | @tup a xs ea =>
    cases (show u = Value.ref a from rx)
    obtain ⟨_,_,_,p⟩:=(show ObjOk X.prog X.w H s.heap a (.tup xs) from I.hok a _ ea)
    obtain ⟨o,h1,h2,_⟩:=p
    exact ⟨_,PySem.W.kitx_tuple,⟨o,h1,h2⟩,fun z=>nomatch z⟩
  | @dK a kvs ea =>
    cases (show u = Value.ref a from rx)
    obtain ⟨_,_,vs,_,p⟩:=(show ObjOk X.prog X.w H s.heap a (.dK kvs) from I.hok a _ ea)
    obtain ⟨o,es,ep,h1,h2,_⟩:=p
    exact ⟨_,PySem.W.kitx_dict,⟨o,h1,h2.1⟩,fun z=>nomatch z⟩
  | @dT a kvs ea =>
    cases (show u = Value.ref a from rx)
    obtain ⟨_,_,xs,_,o,es,ep,h1,h2,_⟩:=(show ObjOk X.prog X.w H s.heap a (.dT kvs) from I.hok a _ ea)
    exact ⟨_,PySem.W.kitx_dict,⟨o,h1,h2.1⟩,fun z=>nomatch z⟩
  | @ins a C dx fs ea cl ha hn htk hm =>
    cases (show u = Value.ref a from rx)
    obtain ⟨mA,O,_⟩:=ins_get I.hok ea
    obtain ⟨od,J,_⟩:=O.look
    exact ⟨_,PySem.W.kitx_own (cl.get _) cl.hd ha hn htk hm,J,fun z=>nomatch z⟩
inductive rIsi (K:PySem.W.Frag) (xs:List V) (H:Hp) (Q:VK):Prop
  | mk (x:_) (T:_) (t:_) (b:_) (h1_:xs = [x,.ty T]) (h2_:TyOf K H x t) (h3_:PySem.W.kitOne K t (.type T) = some b) (h4_:Q (.bl b) H):rIsi K xs H Q
theorem call_isi:CallR X (.builtin "isinstance") (rIsi X.K):=by
  intro pins s σ H xs us Q I r h
  obtain ⟨x,T,t,b,rfl,ty,e,q⟩:=h
  obtain ⟨u,u2,rfl,r1,r2⟩:=r.two
  cases r2
  obtain ⟨F,Z,p,hx⟩:=ty.kit I r1
  exact PySem.W.kia_one Z I.kIn p e hx fun tk=>⟨.bl b,H,I.tok tk,rfl,q⟩
inductive rIsiT (K:PySem.W.Frag) (xs:List V) (H:Hp) (Q:VK):Prop
  | mk (x:V) (p:Addr) (Ts:List String) (t:Value) (b:Bool) (h1_:xs = [x,.ref p]) (h2_:H p = some (.tup (Ts.map V.ty))) (h3_:TyOf K H x t) (h4_:PySem.W.kitAny K t (Ts.map Value.type) = some b) (h5_:Q (.bl b) H):rIsiT K xs H Q
theorem vals_ty:∀ {Ts:List String} {us:List Value},Vals (Ts.map V.ty) us → us = Ts.map Value.type
  | [],_,.nil=>rfl
  | _ :: _,_,.cons r rr=>by cases r; rw [vals_ty rr]; rfl
theorem call_isiT:CallR X (.builtin "isinstance") (rIsiT X.K):=by
  intro pins s σ H xs us Q I r h
  obtain ⟨x,p,Ts,t,b,rfl,hp,ty,e,q⟩:=h
  obtain ⟨u,u2,rfl,r1,r2⟩:=r.two
  cases r2
  obtain ⟨F,Z,pF,hx⟩:=ty.kit I r1
  obtain ⟨_,its,rv,⟨cls,dd,data,sl⟩,h1,h2,n,h3⟩:=I.hok p _ hp
  simp only at h2 h3
  subst h2 h3
  have e2:=vals_ty rv
  subst e2
  exact PySem.W.kia_tup Z I.kIn pF h1 e hx fun tk=>⟨.bl b,H,I.tok tk,rfl,q⟩
theorem maxK_args (a v:Value):argsOk "max" ⟨[a],[(Str.ofString "default",v)]⟩:=by unfold argsOk; kernel_rfl
end
section
variable {prog:Program} {w:World} {A:Around} {R:Result → Shared → Prop} {I:Addr} {fp wr:List Addr} {n:Nat} {P:Nat → Value → Prop} {St:Nat → Heap → Prop} {kw:List (Str × Value)}
theorem maxK_name:(toString "max" ++ toString ".loop":String) = "max.loop":=by decide
theorem maxK_loop (W:Walks prog w A.in1 I fp wr n P St) (bt:Nat → Nat → Bool) (hcmp:CmpOf prog w A.in1 .Gt P bt) (S:Addr) (hSf:S ∉ fp) :
    ∀ (k j:Nat) (s:Shared) (vb:Value) (c:Nat),n - (j + 1) = k → j + 1 ≤ n → St (j + 1) s.heap → P (argBest bt j) vb →
    s.heap.get? S = some { cls:=.type "list",dict:=none,data:=.seq #[vb,vb] c,slots:=#[] } →
    (∀ v h' tk,P (argBest bt (n - 1)) v → (∀ b o,b ∉ wr → b ≠ S → s.heap.get? b = some o → h'.get? b = some o) → R (.ok (.ret v)) { s with heap:=h',toks:=tk }) →
    codeAny (model prog w) A (.builtin "max.loop" ⟨[.ref I,.none,.ref S],kw⟩) R s:=by
  have hSw:S ∉ wr:=fun h=>hSf (W.sub _ h)
  intro k
  induction k with
  | zero =>
    intro j s vb c hk hj hst hPb hS hR
    have hin:j + 1 = n:=by lia
    refine codeAny_builtin PySem.F.entry_max_loop ?_
    rw [Around.under_plainId PySem.F.plain_max_loop _]
    show wpAny _ A.in1 (seqItems? (.ref S) >>= _) _ _ s
    refine wpAny_bind (wpAny_seqItems hS rfl ?_)
    show wpAny _ A.in1 (tryCatch (pyNext (.ref I)) _ >>= _) _ _ s
    refine wpAny_bind (wpAny_tryCatch (W.done s _ _ (hin ▸ hst) fun h' tk hk'=>?_))
    have hS':=hk' S _ hSw hS
    show wpAny _ A.in1 (updateSeq S (fun _=>#[]) >>= _) _ _ _
    refine wpAny_bind ?_
    refine wpAny_updateSeq hS' rfl (wpAny_bind (wpAny_letGo (wpAny_pure ?_)))
    refine hR vb _ tk (by rw [← hin]; exact hPb) fun b o hbw hbS e=>(Heap.get?_update_other _ _ (Ne.symm hbS)).trans (hk' b o hbw e)
  | succ k ih =>
    intro j s vb c hk hj hst hPb hS hR
    have hlt:j + 1 < n:=by lia
    refine codeAny_builtin PySem.F.entry_max_loop ?_
    rw [Around.under_plainId PySem.F.plain_max_loop _]
    show wpAny _ A.in1 (seqItems? (.ref S) >>= _) _ _ s
    refine wpAny_bind (wpAny_seqItems hS rfl ?_)
    show wpAny _ A.in1 (tryCatch (pyNext (.ref I)) _ >>= _) _ _ s
    refine wpAny_bind (wpAny_tryCatch (W.item (j + 1) s _ _ hlt hst fun v h' tk hP hst' hk'=>?_))
    have hS':=hk' S _ hSw hS
    show wpAny _ A.in1 (tryCatch (holding [v,v] (richCompare .Gt v vb >>= _)) _ >>= _) _ _ _
    refine wpAny_bind (wpAny_tryCatch (wpAny_holding (wpAny_bind (hcmp (j + 1) (argBest bt j) v vb _ _ _ hP hPb ?_))))
    refine wpAny_bind (wpAny_holding (wpAny_truthy_bool ?_))
    refine wpAny_bind (wpAny_letGo (wpAny_pure ?_))
    cases hb:bt (j + 1) (argBest bt j) with
    | true =>
      simp only [if_true]
      refine wpAny_bind ?_
      refine wpAny_updateSeq hS' rfl (wpAny_bind (wpAny_letGo ?_))
      rw [maxK_name]
      refine wpAny_pure ⟨plainId_quiet PySem.F.plain_max_loop _,ih (j + 1) _ v _ (by lia) hlt (W.frame _ _ _ hst' fun b hbf o e=>?_) (by simp only [argBest,hb,if_true]; exact hP) (Heap.get?_update_self _ hS' rfl)
        fun v' h'' tk'' hP' hk''=>?_⟩
      · exact (Heap.get?_update_other _ _ (fun h:S = b=>hSf (by rw [h]; exact hbf))).trans e
      · exact hR v' h'' tk'' hP' fun b o hbw hbS e=>hk'' b o hbw hbS ((Heap.get?_update_other _ _ (Ne.symm hbS)).trans (hk' b o hbw e))
    | false =>
      simp only [Bool.false_eq_true,if_false]
      refine wpAny_bind (wpAny_letGo ?_)
      rw [maxK_name]
      refine wpAny_pure ⟨plainId_quiet PySem.F.plain_max_loop _,ih (j + 1) _ vb c (by lia) hlt hst' (by simp only [argBest,hb,Bool.false_eq_true,if_false]; exact hPb) hS' fun v' h'' tk'' hP' hk''=>?_⟩
      exact hR v' h'' tk'' hP' fun b o hbw hbS e=>hk'' b o hbw hbS (hk' b o hbw e)
end
def maxD (d:Int):List Int → Int
  | []=>d
  | x :: r=>r.foldl max x
theorem foldl_max (r:List Int):∀ x:Int,x ≤ r.foldl max x ∧ (∀ y ∈ r,y ≤ r.foldl max x) ∧ (r.foldl max x = x ∨ r.foldl max x ∈ r):=by
  induction r with
  | nil=>intro x; exact ⟨Int.le_refl _,fun y hy=>by simp at hy,.inl rfl⟩
  | cons z r ih =>
    intro x
    obtain ⟨h1,h2,h3⟩:=ih (max x z)
    rw [List.foldl_cons]
    refine ⟨by lia,fun y hy=>?_,?_⟩
    · rcases List.mem_cons.mp hy with rfl | hy
      · lia
      · exact h2 y hy
    · rcases h3 with h3 | h3
      · by_cases h:z ≤ x
        · left; lia
        · right; rw [h3]; have:max x z = z:=by lia
          rw [this]; exact List.mem_cons_self
      · right; exact List.mem_cons_of_mem _ h3
theorem maxD_ge {d:Int} {ns:List Int} {y:Int} (h:y ∈ ns):y ≤ maxD d ns:=by
  cases ns with
  | nil=>simp at h
  | cons x r =>
    obtain ⟨h1,h2,_⟩:=foldl_max r x
    rcases List.mem_cons.mp h with rfl | h
    · exact h1
    · exact h2 y h
theorem maxD_mem {d:Int} {ns:List Int} (h:ns ≠ []):maxD d ns ∈ ns:=by
  cases ns with
  | nil=>exact absurd rfl h
  | cons x r =>
    obtain ⟨_,_,h3⟩:=foldl_max r x
    rcases h3 with h3 | h3
    · show r.foldl max x ∈ _
      rw [h3]; exact List.mem_cons_self
    · exact List.mem_cons_of_mem _ h3
theorem argBest_max (ns:List Int):∀ k,k < ns.length → argBest (fun i j=>decide (ns.getD i 0 > ns.getD j 0)) k ≤ k ∧ ∀ j,j ≤ k → ns.getD j 0 ≤ ns.getD (argBest (fun i j=>decide (ns.getD i 0 > ns.getD j 0)) k) 0:=by
  intro k
  induction k with
  | zero => intro _; exact ⟨Nat.le_refl _, fun j hj => by have : j = 0 := by lia
                                                          subst this; exact Int.le_refl _⟩
  | succ k ih =>
    intro hk
    obtain ⟨h1,h2⟩:=ih (by lia)
    simp only [argBest]
    split
    · rename_i h
      have h':ns.getD (k + 1) 0 > ns.getD (argBest (fun i j=>decide (ns.getD i 0 > ns.getD j 0)) k) 0:=by simpa using h
      refine ⟨Nat.le_refl _,fun j hj=>?_⟩
      by_cases hjk:j = k + 1
      · subst hjk; exact Int.le_refl _
      · have:=h2 j (by lia)
        lia
    · rename_i h
      have h':¬ ns.getD (k + 1) 0 > ns.getD (argBest (fun i j=>decide (ns.getD i 0 > ns.getD j 0)) k) 0:=by simpa using h
      refine ⟨by lia,fun j hj=>?_⟩
      by_cases hjk:j = k + 1
      · subst hjk; lia
      · exact h2 j (by lia)
theorem argBest_maxD (d:Int) (ns:List Int) (h:ns ≠ []):ns.getD (argBest (fun i j=>decide (ns.getD i 0 > ns.getD j 0)) (ns.length - 1)) 0 = maxD d ns:=by
  have hl:0 < ns.length:=List.length_pos_iff.mpr h
  obtain ⟨h1,h2⟩:=argBest_max ns (ns.length - 1) (by lia)
  have hb:argBest (fun i j=>decide (ns.getD i 0 > ns.getD j 0)) (ns.length - 1) < ns.length:=by lia
  refine Int.le_antisymm ?_ ?_
  · apply maxD_ge
    rw [List.getD_eq_getElem?_getD,List.getElem?_eq_getElem hb]
    exact List.getElem_mem hb
  · obtain ⟨j,hj,e⟩:=List.mem_iff_getElem.mp (maxD_mem (d:=d) h)
    have:=h2 j (by lia)
    rw [← e]
    rw [List.getD_eq_getElem?_getD,List.getElem?_eq_getElem hj] at this
    exact this
section
variable {X:Cx}
theorem max_dflt {pins:List (Addr × Obj)} {σ:St} {H:Hp} {s:Shared} {l:Addr} {ns:List Int} {d:Int} {t:Tok} {Q:VK} (I:Inv X pins σ H s) (hc:X.calm = true) (hl:SqL X.K H l (ns.map V.int)) (q:Q (.int (maxD d ns)) H) :
    wpAny (model X.prog X.w) X.A (call (.builtin "max") [.ref l] [(Str.ofString "default",.int d t)]) (EP X pins σ Q) X.xe s:=by
  obtain ⟨its,rv,pl,hz⟩:=I.list hl
  have hi:=intsAre_of rv
  have hh:X.A.handled = none:=I.ok.hd hc
  have hll:l < s.heap.objs.size:=by obtain ⟨o,_,e,_⟩:=pl; exact Heap.lt_size e
  have hlen:its.length = ns.length:=by rw [← rv.length,List.length_map]
  refine kmb_tree PySem.F.kind_max PySem.F.plain_max PySem.F.entry_max (maxK_args _ _) ?_
  show wpAny _ X.A.in1 (Builtin.Builtins.bindParams "max" ["key","default"] 0 ⟨[],[(Str.ofString "default",.int d t)]⟩ >>= _) _ _ s
  refine wpAny_bind (wpAny_of_eq (show Builtin.Builtins.bindParams "max" ["key","default"] 0 ⟨[],[(Str.ofString "default",.int d t)]⟩ = pure [none,some (.int d t)] from rfl) ?_)
  refine wpAny_bind (wpAny_pure ?_)
  refine wpAny_bind (wpAny_pyIter_list pl.isList ?_)
  refine wpAny_bind (wpAny_newObj_type ?_)
  rw [maxK_name]
  have hlI:l ≠ s.heap.objs.size:=Nat.ne_of_lt hll
  have W:=Walks.list (prog:=X.prog) (w:=X.w) (A:=X.A.in1) (show X.A.in1.handled = none from hh) s.heap.objs.size l hlI its.toArray
  generalize hg:(s.heap.push { cls:=.type "list_iterator",data:=.fields #[.ref l,.int 0 0] }) = g1
  have hsz:g1.objs.size = s.heap.objs.size + 1:=by rw [← hg,Heap.size_push]
  have hkeep:∀ b o,s.heap.get? b = some o → (g1.push { cls:=.type "list",dict:=none,data:=.seq ([]:List Value).toArray }).get? b = some o:=fun b o e=>Heap.get?_push_of_some _ (hg ▸ Heap.get?_push_of_some _ e)
  have hst:(g1.push { cls:=.type "list",dict:=none,data:=.seq ([]:List Value).toArray }).IsListIter s.heap.objs.size l 0 ∧ (g1.push { cls:=.type "list",dict:=none,data:=.seq ([]:List Value).toArray }).IsList l its.toArray :=
    ⟨⟨_,Heap.get?_push_of_some _ (hg ▸ Heap.get?_push_size _ rfl),rfl,rfl⟩,pl.isList.at fun o e=>hkeep _ o e⟩
  have hS:(g1.push { cls:=.type "list",dict:=none,data:=.seq ([]:List Value).toArray }).get? g1.objs.size = some { cls:=.type "list",dict:=none,data:=.seq #[] 0,slots:=#[] }:=Heap.get?_push_size _ rfl
  have hSf:g1.objs.size ∉ [s.heap.objs.size,l]:=by
    rw [hsz]
    intro z
    rcases List.mem_cons.mp z with z | z
    · lia
    · have z:s.heap.objs.size + 1 = l:=by simpa using z
      rw [← z] at hll
      exact absurd (Nat.lt_of_succ_lt hll) (Nat.lt_irrefl _)
  have hSw:g1.objs.size ∉ [s.heap.objs.size]:=fun z=>hSf (List.mem_cons.mpr (.inl (by simpa using z)))
  refine wpAny_pure ⟨plainId_quiet PySem.F.plain_max_loop _,?_⟩
  refine codeAny_builtin PySem.F.entry_max_loop ?_
  rw [Around.under_plainId PySem.F.plain_max_loop _]
  show wpAny _ X.A.in1 (seqItems? (.ref g1.objs.size) >>= _) _ _ _
  refine wpAny_bind (wpAny_seqItems hS rfl ?_)
  show wpAny _ X.A.in1 (tryCatch (pyNext (.ref s.heap.objs.size)) _ >>= _) _ _ _
  by_cases hns:ns = []
  · subst hns
    have e0:its.toArray.size = 0:=by rw [List.size_toArray,hlen]; rfl
    refine wpAny_bind (wpAny_tryCatch (W.done _ _ _ (by rw [e0]; exact hst) fun h' tk hk'=>?_))
    refine wpAny_bind (wpAny_rule ?_)
    refine wpAny_pure ?_
    exact ⟨.int d,H,I.kept fun b o e=>hk' b o (by simpa using Nat.ne_of_lt (Heap.lt_size e)) (hkeep b o e),⟨t,rfl⟩,q⟩
  · have hpos:0 < its.toArray.size:=by
      rw [List.size_toArray,hlen]
      exact List.length_pos_iff.mpr hns
    refine wpAny_bind (wpAny_tryCatch (W.item 0 _ _ _ hpos hst fun v h' tk hP hst' hk'=>?_))
    have hS':=hk' _ _ hSw hS
    show wpAny _ X.A.in1 (updateSeq g1.objs.size (fun _=>#[v,v]) >>= _) _ _ _
    refine wpAny_bind ?_
    refine wpAny_updateSeq hS' rfl ?_
    rw [maxK_name]
    have hval:∀ (i:Nat) (v:Value),its.toArray[i]? = some v → ∃ t,v = .int (ns.getD i 0) t:=fun i v e=>by
      rw [List.getElem?_toArray] at e
      have hil:i < its.length:=(List.getElem?_eq_some_iff.mp e).1
      have hin:(ns.map V.int)[i]? = some (V.int (ns.getD i 0)):=by
        rw [List.getElem?_map,List.getD_eq_getElem?_getD,List.getElem?_eq_getElem (by lia)]
        rfl
      obtain ⟨u,e1,r1⟩:=rv.get hin
      rw [e] at e1
      cases e1
      exact r1
    refine wpAny_pure ⟨plainId_quiet PySem.F.plain_max_loop _,maxK_loop W (fun i j=>decide (ns.getD i 0 > ns.getD j 0)) (CmpOf.ints_gt (fun i=>ns.getD i 0) hval) g1.objs.size hSf _ 0 _ v _ rfl hpos (W.frame _ _ _ hst' fun b hbf o e=>?_) hP (Heap.get?_update_self _ hS' rfl) fun v' h'' tk'' hP' hk''=>?_⟩
    · exact (Heap.get?_update_other _ _ (fun h:g1.objs.size = b=>hSf (by rw [h]; exact hbf))).trans e
    · have hP2:its.toArray[argBest (fun i j=>decide (ns.getD i 0 > ns.getD j 0)) (its.toArray.size - 1)]? = some v':=hP'
      obtain ⟨t',rfl⟩:=hval _ _ hP2
      rw [List.size_toArray,hlen,argBest_maxD d ns hns]
      refine ⟨.int (maxD d ns),H,I.kept fun b o e=>?_,⟨t',rfl⟩,q⟩
      have hb1:b ∉ [s.heap.objs.size]:=by simpa using Nat.ne_of_lt (Heap.lt_size e)
      have hb2:b ≠ g1.objs.size:=by rw [hsz]; exact Nat.ne_of_lt (Nat.lt_succ_of_lt (Heap.lt_size e))
      exact hk'' b o hb1 hb2 ((Heap.get?_update_other _ _ (Ne.symm hb2)).trans (hk' b o hb1 (hkeep b o e)))
inductive tMaxDI (K:PySem.W.Frag) (Q:VK) (vs:List V) (zs:List V) (H2:Hp):Prop
  | mk (l:_) (ns:_) (d:_) (h1_:vs = [.ref l]) (h2_:zs = [.int d]) (h3_:SqL K H2 l (ns.map V.int)) (h4_:Q (.int (maxD d ns)) H2):tMaxDI K Q vs zs H2
def tMaxD (K:PySem.W.Frag) (ta tk:TA):TE:=fun σ H Q=>ta σ H fun vs H1=>tk σ H1 fun zs H2=>tMaxDI K Q vs zs H2
theorem pe_maxD {e e':Expr} {ta tk:TA} {p pos kpos:Pos} (hc:X.calm = true) (hg:Gl X "max") (hm:X.mg "max" = none) (ha:PA X [e] ta) (hk:PK X [⟨some (Str.ofString "default"),e',kpos⟩] tk)
    (he:backTo pos (starEach [e] X.env) = (false,eval e X.env) :: backTo pos (starEach [] X.env):=by rfl):PE X (.Call (.Name "max" p) [e] [⟨some (Str.ofString "default"),e',kpos⟩] pos) (tMaxD X.K ta tk):=by
  intro pins s σ H Q I h
  refine wpAny_Call_Name_kw (ld_blt I hg hm boot_max ?_)
  refine callWith_kw (thn (ha pos pins s σ H _ I h) fun us s1 ⟨vs,H1,I1,r1,q1⟩=>thn (hk pos pins s1 σ H1 _ I1 q1) fun ws s2 ⟨zs,H2,I2,r2,l,ns,d,e1,e2,hl,q⟩=>?_) he (hplain:=by rw [he]; rfl)
  subst e1 e2
  obtain ⟨u,rfl,ru⟩:=r1.one
  obtain ⟨u2,rfl,ru2⟩:=r2.one
  cases ru
  obtain ⟨t,rfl⟩:=ru2
  exact max_dflt I2 hc hl q
end
end L2
namespace L2
open PySem PySem.Spec PyProof.Rows
def ltV:V → V → Bool
  | .int a,.int b=>decide (a < b)
  | .str a,.str b=>decide (a.cps.toList < b.cps.toList)
  | _,_=>false
def kindV:V → V → Bool
  | .int _,.int _=>true
  | .str _,.str _=>true
  | _,_=>false
def kindsV:List V → List V → Bool
  | x :: xs,y :: ys=>kindV x y && kindsV xs ys
  | _,_=>true
def lexV:List V → List V → Bool
  | [],[]=>false
  | [],_ :: _=>true
  | _ :: _,[]=>false
  | x :: xs,y :: ys=>if x = y then lexV xs ys else ltV x y
theorem lexV_cons (x y:V) (xs ys:List V):lexV (x :: xs) (y :: ys) = if x = y then lexV xs ys else ltV x y:=rfl
theorem kind_eq (A:Around) (s:Shared) {x y:V} {u v:Value} (rx:RelV x u) (ry:RelV y v) (h:kindV x y = true):∃ e,SeqAt.EqAt A s u v e ∧ (e = true ↔ x = y):=by
  cases x <;> cases y <;> first | (cases (show false = true from h); done) | skip
  · rename_i a b
    obtain ⟨t,rfl⟩:=rx
    obtain ⟨t',rfl⟩:=ry
    exact ⟨(a == b),SeqAt.EqAt.int_int a t b t',by simp⟩
  · rename_i a b
    obtain ⟨t,rfl⟩:=rx
    obtain ⟨t',rfl⟩:=ry
    exact ⟨(a == b),SeqAt.EqAt.str_str a t b t',by simp⟩
theorem kind_lt (A:Around) (s:Shared) {x y:V} {u v:Value} (rx:RelV x u) (ry:RelV y v) (h:kindV x y = true) (prog:Program) (w:World) (E:Value → Shared → Prop) (Q:Value → Shared → Prop) (q:Q (.bool (ltV x y)) s) :
    wpAny (model prog w) A (richCompare .Lt u v) Q E s:=by
  cases x <;> cases y <;> first | (cases (show false = true from h); done) | skip
  · obtain ⟨t,rfl⟩:=rx
    obtain ⟨t',rfl⟩:=ry
    exact (PyProof.Rows.lt_int q:wpAny (model prog w) A (compareOp .Lt _ _) Q E s)
  · rename_i a b
    obtain ⟨t,rfl⟩:=rx
    obtain ⟨t',rfl⟩:=ry
    exact richCompare_gives (op:=.Lt) (typeIs_str s a t) (typeIs_str s b t') PySem.F.slot_str_lt PySem.F.entry_str_lt (PySem.F.args_str_lt_2 _ _) (gives_str_lt a b t t') (fun x=>nomatch x) q
section
open PySem.SeqAt
open PySem.AutoSeq1 (wpAny_loadPart')
open PySem.MeetsSeq PySem.MeetsSeq2 PySem.MeetsSeq3
theorem tuple_lt_flat (l b:Addr) (items items2:Array Value) (n n2:Nat) (dd dd2:Option Addr) (sl sl2:Array (Option Value)) (ns ms:List V) (hi:Vals ns items.toList) (hj:Vals ms items2.toList) (hk:kindsV ns ms = true) :
    Meets (Builtin.«tuple.__lt__» ⟨[.ref l,.ref b],[]⟩)
      (fun _ R s=>s.heap.get? l = some { cls:=.type "tuple",dict:=dd,data:=.seq items n,slots:=sl } ∧ s.heap.get? b = some { cls:=.type "tuple",dict:=dd2,data:=.seq items2 n2,slots:=sl2 } ∧
        R (.ok (.ret (.bool (lexV ns ms)))) s) :=
  .of_wp fun prog w A R s h=>by
    obtain ⟨hp,g,d,tk,os⟩:=s; obtain ⟨hl,hb,h⟩:=h
    have f2:=AutoSeq1.sub_tuple_tuple
    have z1:items.size = ns.length:=by rw [hi.length]; simp
    have z2:items2.size = ms.length:=by rw [hj.length]; simp
    wp_walk using wpAny_loadPart' hl,wpAny_loadPart' hb,wpAny_forIn_list _ (fun rest b s'=>b.1 = none ∧ s' = ⟨hp,g,d,tk,os⟩ ∧ ∃ (vs ws:List Value) (ns' ms':List V),rest = vs.zip ws ∧
      Vals ns' vs ∧ Vals ms' ws ∧ kindsV ns' ms' = true ∧ ns'.length + items2.size = ms'.length + items.size ∧ R (.ok (.ret (.bool (lexV ns' ms')))) ⟨hp,g,d,tk,os⟩) _
    case turn =>
      rintro ⟨y,x⟩ rest b s' ⟨hb',rfl,vs,ws,ns',ms',hz,hvi,hwi,hkk,hlen,hR⟩
      cases hvi with
      | nil=>rw [List.zip_nil_left] at hz; cases hz
      | cons ra hvi' =>
        cases hwi with
        | nil=>rw [List.zip_nil_right] at hz; cases hz
        | cons rc hwi' =>
          rw [List.zip_cons_cons] at hz
          injection hz with hyx hrest
          injection hyx with hy hx
          subst hy hx
          rw [lexV_cons] at hR
          have hkk':=Bool.and_eq_true_iff.mp hkk
          simp only [List.length_cons] at hlen
          obtain ⟨e,he,hiff⟩:=kind_eq A.in1 ⟨hp,g,d,tk,os⟩ ra rc hkk'.1
          refine wpAny_bind (he prog w _ _ ?_)
          cases e with
          | true =>
            rw [if_pos (hiff.mp rfl)] at hR
            wp_walk
            exact ⟨rfl,rfl,_,_,_,_,hrest,hvi',hwi',hkk'.2,by lia,hR⟩
          | false =>
            rw [if_neg (fun q=>absurd (hiff.mpr q) Bool.false_ne_true)] at hR
            have hri:=kind_lt A.in1 ⟨hp,g,d,tk,os⟩ ra rc hkk'.1 prog w
            wp_walk using hri
            exact ⟨_,rfl,by simpa using hR⟩
    case fin =>
      rintro ⟨b1,b2⟩ s' ⟨hb',rfl,vs,ws,ns',ms',hz,hvi,hwi,hkk,hlen,hR⟩
      simp only at hb'
      subst hb'
      have hv:lexV ns' ms' = decide (items.size < items2.size):=by
        cases hvi with
        | nil =>
          cases hwi with
          | nil =>
            simp only [List.length_nil] at hlen
            exact (decide_eq_false (by lia)).symm
          | cons _ hw =>
            simp only [List.length_nil,List.length_cons] at hlen
            exact (decide_eq_true (by lia)).symm
        | cons _ hv =>
          cases hwi with
          | nil =>
            simp only [List.length_nil,List.length_cons] at hlen
            exact (decide_eq_false (by lia)).symm
          | cons _ hw =>
            rw [List.zip_cons_cons] at hz
            cases hz
      rw [hv] at hR
      wp_walk
      exact ⟨_,rfl,by simpa [Builtin.Tuple.tupleCompareSizes] using hR⟩
    case h =>
      exact ⟨rfl,rfl,items.toList,items2.toList,ns,ms,rfl,hi,hj,hk,by lia,h⟩
end
section
variable {X:Cx}
inductive rLtF (K:PySem.W.Frag) (x:V) (y:V) (H:Hp) (Q:VK):Prop
  | mk (a:_) (b:_) (xs:_) (ys:_) (h1_:x = .ref a) (h2_:y = .ref b) (h3_:SqT K H a xs) (h4_:SqT K H b ys) (h5_:kindsV xs ys = true) (h6_:Q (.bl (lexV xs ys)) H):rLtF K x y H Q
theorem op_ltF (hu:X.A.units < cLine):OpR X (compareOp .Lt) (rLtF X.K):=by
  intro pins s σ H x y v u Q I rx ry h
  obtain ⟨a,b,xs,ys,rfl,rfl,ha,hb,hk,q⟩:=h
  cases rx
  cases ry
  obtain ⟨its,r1,p1,_⟩:=I.tuple ha
  obtain ⟨its2,r2,p2,_⟩:=I.tuple hb
  obtain ⟨⟨cls,dd,data,sl⟩,ho,hc,n,hd⟩:=id p1
  obtain ⟨⟨cls2,dd2,data2,sl2⟩,ho2,hc2,n2,hd2⟩:=id p2
  simp only at hc hd hc2 hd2
  subst hc hd hc2 hd2
  have fin:EP X pins σ Q (.bool (lexV xs ys)) s:=⟨.bl (lexV xs ys),H,I,rfl,q⟩
  exact richCompare_meets_room (op:=.Lt) ⟨_,ho,rfl⟩ ⟨_,ho2,rfl⟩ PySem.F.slot_tuple_lt PySem.F.entry_tuple_lt (PySem.F.args_tuple_lt_2 _ _) (tuple_lt_flat a b its.toArray its2.toArray n n2 dd dd2 sl sl2 xs ys r1 r2 hk)
    ⟨ho,ho2,show Value.bool (lexV xs ys) ≠ Value.notImplemented ∧ _ from ⟨(fun x=>nomatch x),fin⟩⟩ hu
end
section
variable {P:Program} {w:World} {K:PySem.W.Frag} {mg:Str → Option Value} {base:Heap}
def Dfn (K:PySem.W.Frag) (mg:Str → Option Value) (x:Str) (st:Stmt) (ps:List Str):Prop:=∃ (f:Addr) (fd:FuncData),mg x = some (.ref f) ∧ Binds K fd ps [] ∧ Fun K x x st f fd
def Ok (P:Program) (w:World) (K:PySem.W.Frag) (mg:Str → Option Value) (base:Heap) (x:Str) (ps:List Str) (k:Nat) (sp:Sp):Prop :=
  ∃ (f:Addr) (fd:FuncData),mg x = some (.ref f) ∧ PySem.W.keepIn K (.ref f) = true ∧ Binds K fd ps [] ∧ FnOk P w K mg base CX0 k f fd ps sp
theorem Dfn.ok {x:Str} {st:Stmt} {N ps:List Str} {k:Nat} {sp:Sp} (D:Dfn K mg x st ps) (S:FnScope N ps (defScope st)) (len:∀ vs H Q E,sp vs H Q E → vs.length = ps.length)
    (hbody:∀ (f:Addr) (cdv:Value) (A:Around) (outer:List Env) (s:Shared) (H:Hp) (vs:List V) (Q:VK) (E:XK),Room k (A.deeper (envOfC x (defScope st) s.heap.objs.size f cdv)) → sp vs H Q E →
      ∃ t,PSs (cxOf CX0 P w K mg base N x (defScope st) f cdv A outer s H E).nox (defBody st) t ∧ t { nx:=fun _ H'=>Q .non H',rt:=Q } (start N vs) H):Ok P w K mg base x ps (k + 1) sp:=by
  obtain ⟨f,fd,hm,hb,F⟩:=D
  exact ⟨f,fd,hm,F.kp,hb,F.ok S len (hbody f)⟩
end
theorem pe_fn {X:Cx} {x:Str} {ps:List Str} {k:Nat} {sp:Sp} {e:Expr} {es:List Expr} {t:TA} {p pos:Pos} (O:Ok X.prog X.w X.K X.mg X.base x ps k sp) (hr:Room k X.A) (hg:Gl X x) (ha:PA X (e :: es) t)
    (hdb:(x == ("__debug__":Str)) = false:=by decide) (he:starEach (e :: es) X.env = (false,eval e X.env) :: starEach es X.env:=by rfl) (hpl:(backTo pos (starEach es X.env)).any (·.1) = false:=by rfl) :
    PE X (.Call (.Name x p) (e :: es) [] pos) (tCall sp [] E0 t):=by
  obtain ⟨f,fd,hm,hk,hb,F⟩:=O
  exact pe_call F hr hg hm hk hb .nil pass0 ha hdb he hpl
structure Blt (mg:Str → Option Value):Prop where
  len:mg "len" = none
  rng:mg "range" = none
  enm:mg "enumerate" = none
  mx:mg "max" = none
  it:mg "int" = none
  isi:mg "isinstance" = none
  lst:mg "list" = none
  tup:mg "tuple" = none
  str:mg "str" = none
  bol:mg "bool" = none
theorem same_new {H:Hp} {p:Addr} (h:H p = none) (o:HO):Same H (upd H p o):=fun b u q=>by rw [upd_ne (ne_of_none q h)]; exact q
theorem Same.own {H0 H:Hp} {l:Addr} (s:Same H0 H) (h:H0 l = none) (o:HO):Same H0 (upd H l o):=fun b u q=>by rw [upd_ne (ne_of_none q h)]; exact s b u q
theorem noTest {σ:St} {H:Hp} {F G:Hp → Prop} (h:F H):tNoTest σ H fun b H3=>if b = true then F H3 else G H3:=by
  show if true = true then F H else G H
  rw [if_pos rfl]
  exact h
def allStr:List Expr → Option (List Str)
  | []=>some []
  | .Constant (.str x) _ _ :: r=>(allStr r).map (x :: ·)
  | _=>none
theorem pa_strs {X:Cx}:∀ {es:List Expr} {zs:List Str},allStr es = some zs → PA X es (fun _ H Q=>Q (zs.map V.str) H)
  | [],zs,h=>by
    cases h
    exact fun pos pins s σ H Q I q=>pa_nil pos pins s σ H Q I q
  | e :: r,zs,h=>by
    unfold allStr at h
    split at h
    · rename_i h'; cases h'
    · rename_i x k p r' h'
      cases h'
      cases e':allStr r with
      | none=>rw [e'] at h; cases h
      | some zr =>
        rw [e'] at h
        cases h
        exact fun pos pins s σ H Q I q=>pa_cons pe_str (pa_strs e') rfl pos pins s σ H Q I q
    · cases h
def retE:List Stmt → Expr
  | [.Return (some e) _]=>e
  | _=>.Constant .none 0 ⟨0,0,0,0⟩
def argE:Expr → Nat → Expr
  | .Call _ as _ _,i=>as.getD i (.Constant .none 0 ⟨0,0,0,0⟩)
  | _,_=>.Constant .none 0 ⟨0,0,0,0⟩
def asgE:List Stmt → Nat → Expr
  | b,i=>match b.getD i (.Pass ⟨0,0,0,0⟩) with
    | .Assign _ e _=>e
    | _=>.Constant .none 0 ⟨0,0,0,0⟩
def compSc:Expr → Scope
  | .ListComp _ _ sc _=>sc
  | _=>{ kind:=.function,names:=[],isGenerator:=false,isCoroutine:=false }
end L2
namespace L2
open PySem PySem.Spec PyProof.Rows
theorem HOk.at {P:Program} {w:World} {H:Hp} {h:Heap} (x:HOk P w H h) {a:Addr} {o:HO} (e:H a = some o):∃ ob,h.get? a = some ob:=by
  have q:=x a o e
  clear e
  cases o with
  | lst xs=>obtain ⟨_,_,_,_,e⟩:=q; exact ⟨_,e⟩
  | tup xs=>obtain ⟨_,_,_,o,e,_⟩:=q; exact ⟨_,e⟩
  | dK kvs=>obtain ⟨_,_,_,_,o,_,_,e,_⟩:=q; exact ⟨_,e⟩
  | dT kvs=>obtain ⟨_,_,_,_,o,_,_,e,_⟩:=q; exact ⟨_,e⟩
  | set S n=>obtain ⟨o,_,_,_,e,_⟩:=q; exact ⟨_,e⟩
  | ins C dx fs=>obtain ⟨_,_,_,e,_⟩:=q; exact ⟨_,e⟩
  | own y=>obtain ⟨_,e⟩:=q; exact ⟨_,e⟩
  | xd fs=>obtain ⟨_,⟨_,_,_,e,_⟩,_⟩:=q; exact ⟨_,e⟩
  | rng lo hi=>obtain ⟨_,_,_,e⟩:=q; exact ⟨_,e⟩
  | frz ob u=>obtain ⟨e,_⟩:=q; exact ⟨_,e⟩
  | tbl ps=>exact ⟨_,(show h.get? a = some _ from q)⟩
  | met f y=>exact ⟨_,(show h.get? a = some _ from q)⟩
  | ext φ=>obtain ⟨_,⟨_,e⟩,_⟩:=q; exact ⟨_,e⟩
theorem HOk.off {P:Program} {w:World} {H:Hp} {h:Heap} (x:HOk P w H h) {a:Addr} (e:h.get? a = none):H a = none:=by
  cases q:H a with
  | none=>rfl
  | some o =>
    obtain ⟨ob,z⟩:=x.at q
    rw [e] at z; cases z
structure Off (X:Cx) (pins:List (Addr × Obj)) (H:Hp) (b:Addr):Prop where
  old:X.s₀.heap.get? b = none
  free:H b = none
  loc:b ≠ X.env.locals
  cell:∀ y c,X.env.cells.lookup y = some c → c ≠ b
  pin:∀ p ∈ X.pn ++ pins,p.1 ≠ b
  frs:b ∉ frs X.stack
section
variable {X:Cx} {pins:List (Addr × Obj)} {σ:St} {H H':Hp} {s s':Shared} {h':Heap}
end
def Tr (h:Heap) (x C T:Addr):Prop :=
  ∃ oe vs oT ts a0,h.get? x = some oe ∧ (oe.cls = .ref C ∧ vs[0]? = some a0) ∧ oe.data = .fields vs ∧ vs[1]? = some (.ref T) ∧ T ≠ x ∧ h.get? T = some oT ∧ oT.data = .fields ts ∧ ts[3]? = some .none
section
variable {K:PySem.W.Frag} {h:Heap} {C:Addr} {bmB:List Value} {newId:String}
end
end L2
namespace L2
open PySem PySem.Spec PyProof.Rows
section
variable {M:Model} {A:Around} {E:Value → Shared → Prop} {h:Heap} {g:Array GenState} {d:Drawn} {t:Nat} {os:OsState} {K:PySem.W.Frag} {C D x:Addr} {oe:Obj} {bmB bmD:List Value} {newId newD:String}
end
section
variable {prog:Program} {w:World} {A:Around} {E:Value → Shared → Prop} {h:Heap} {g:Array GenState} {d:Drawn} {t:Nat} {os:OsState} {K:PySem.W.Frag} {C x:Addr} {oe:Obj}
end
end L2
namespace L2
open PySem PySem.Spec PyProof.Rows
theorem pss_imp {X:Cx} {st:List Stmt} {t t':TS} (h:PSs X st t) (k:∀ D σ H,t' D σ H → t D σ H):PSs X st t':=fun pins s σ H D I q=>h pins s σ H D I (k D σ H q)
def XP (X:Cx) (pins:List (Addr × Obj)) (σ:St) (E:XK) (e:Value) (s':Shared):Prop :=
  ∃ x C T H',e = .ref x ∧ Inv X pins σ H' s' ∧ Tr s'.heap x C T ∧ Off X pins H' x ∧ Off X pins H' T ∧ E (.ref C) none H'
abbrev TEx:=St → Hp → VK → XK → Prop
def PEx (X:Cx) (e:Expr) (t:TEx):Prop :=
  ∀ (pins:List (Addr × Obj)) (s:Shared) (σ:St) (H:Hp) (Q:VK) (E:XK),Inv X pins σ H s → t σ H Q E → wpAny (model X.prog X.w) X.A (eval e X.env) (EP X pins σ Q) (XP X pins σ E) s
abbrev TSx:=Ends → XK → St → Hp → Prop
def PSx (X:Cx) (st:Stmt) (t:TSx):Prop :=
  ∀ (pins:List (Addr × Obj)) (s:Shared) (σ:St) (H:Hp) (D:Ends) (E:XK),Inv X pins σ H s → t D E σ H → wpAny (model X.prog X.w) X.A (exec st X.env) (SP X pins D) (XP X pins σ E) s
section
variable {X:Cx} {pins:List (Addr × Obj)} {σ:St} {H:Hp} {s s':Shared}
variable {k:Nat} {f:Addr} {fd:FuncData} {ps:List Str} {sp:Sp} {x:Str} {p pos:Pos} {e:Expr} {es:List Expr} {t:TA}
end
section
variable {X:Cx} {pins:List (Addr × Obj)} {σ:St} {H:Hp} {s:Shared} {x:Addr} {oe:Obj}
end
section
variable {X:Cx} {pins:List (Addr × Obj)} {σ:St} {H:Hp} {s:Shared} {x C T Dc:Addr} {cx:Str} {cp hp pos:Pos} {b₀:Stmt} {suite:List Stmt} {E:Value → Shared → Prop} {bmB bmD:List Value} {newId newD:String}
end
section
variable {X:Cx} {x C:Addr} {oe:Obj}
end
end L2
namespace L2
open PySem PySem.Spec PyProof.Rows
def Itv (K:PySem.W.Frag) (a:Addr) (n:Nat):It :=
  ⟨fun i H=>∃ xs,SqL K H a xs ∧ xs.length = n ∧ i < n,fun i H x H'=>H' = H ∧ ∀ xs,SqL K H a xs → xs.length = n → xs[n - 1 - i]? = some x,fun i _=>i = n⟩
theorem turn_rev {P:Program} {w:World} {K:PySem.W.Frag} {tg:Expr} (a it:Addr) (n:Nat):Turn P w K tg (Itv K a n) [it] it (fun i h=>h.IsRevIter it a ((n:Int) - 1 - (i:Int))) where
  mem:=by simp
  obj:=fun i h st b hb=>by
    have e:b = it:=by simpa using hb
    subst e
    obtain ⟨o,e,c,d⟩:=st
    exact ⟨o,e,fun v z=>by rw [d] at z; cases z⟩
  keep:=fun i h h' st k=>st.at fun o e=>k it (by simp) o e
  item:=by
    intro X hP hw hK hc i pins s σ H E I hf st hg
    subst hP hw hK
    obtain ⟨xs,hq,hn,hi⟩:=hg
    have hlt:n - 1 - i < xs.length:=by lia
    have hx:xs[n - 1 - i]? = some xs[n - 1 - i]:=List.getElem?_eq_getElem hlt
    obtain ⟨its,rv,p,hz⟩:=I.list hq
    obtain ⟨u,hu,ru⟩:=rv.get hx
    obtain ⟨f0,f1,f2,f3,f4,f5⟩:=hf it (by simp)
    have e1:(n:Int) - 1 - (i:Int) = ((n - 1 - i:Nat):Int):=by lia
    have st0:=st
    rw [e1] at st0
    refine wpAny_pyNext_rev_item st0 p.isList (x:=u) (by simpa using hu) fun h' st' sb=>?_
    have e2:((n - 1 - i:Nat):Int) - 1 = (n:Int) - 1 - ((i + 1:Nat):Int):=by lia
    rw [e2] at st'
    have I1:Inv X pins σ H { s with heap:=h' }:=I.turned (t':=s.toks) (fun b o hb e=>(sb.2 b hb).trans e) f0 f1 f3 f4 f5
    obtain ⟨o,e,c,d⟩:=id st'
    exact ⟨u,rfl,go_of (s:={ s with heap:=h' }) e c d (by decide) ⟨_,H,I1,ru,⟨rfl,fun ys hy _=>by rw [I.list_inj hy hq]; exact hx⟩,st',fun b hb=>(hf b hb).1⟩⟩
  done:=by
    intro X hP hw hK hc i pins s σ H E I hf st hg
    subst hP hw hK
    have hi:i = n:=hg
    subst hi
    obtain ⟨f0,f1,f2,f3,f4,f5⟩:=hf it (by simp)
    have e1:(i:Int) - 1 - (i:Int) = -1:=by lia
    rw [e1] at st
    exact wpAny_pyNext_rev_end (I.ok.hd hc) st fun h' eb=>⟨rfl,I.turned (t':=s.toks) (fun b o hb e=>eb b o hb e) f0 f1 f3 f4 f5⟩
  self:=fun _ _ _ _ _ st h=>wpAny_pyIter_revIter st h
theorem boot_rev:bootBuiltins "reversed" = some (.type "reversed"):=by decide +kernel
inductive iRevI (K:PySem.W.Frag) (R:(It → Hp → Prop)) (vs:List V) (H1:Hp):Prop
  | mk (a:_) (xs:_) (h1_:vs = [.ref a]) (h2_:SqL K H1 a xs) (h3_:R (Itv K a xs.length) H1):iRevI K R vs H1
def iRev (K:PySem.W.Frag) (ta:TA):TI:=fun σ H R=>ta σ H fun vs H1=>iRevI K R vs H1
theorem pi_rev {X:Cx} {tg a:Expr} {ta:TA} {p pos:Pos} (hg:Gl X "reversed") (hm:X.mg "reversed" = none) (ha:PA X [a] ta) (hs:starEach [a] X.env = [(false,eval a X.env)]:=by rfl) :
    PI X tg (.Call (.Name "reversed" p) [a] [] pos) (iRev X.K ta):=by
  intro pins s σ H R I h
  refine Call_ (ld_blt I hg hm boot_rev (PyProof.Rows.callWith_type1 (thn (ha pos pins s σ H _ I h) fun us s1 ⟨vs,H1,I1,r1,q1⟩=>?_) hs rfl))
  obtain ⟨l,xs,e,hq,q⟩:=q1
  subst e
  obtain ⟨u,eu,ru⟩:=vals1 r1
  subst eu
  cases ru
  obtain ⟨its,rv,pl,hz⟩:=I1.list hq
  refine call_reversed_list pl.isList ?_
  have hl:(its.toArray.size:Int) - 1 = (xs.length:Int) - 1 - ((0:Nat):Int):=by rw [List.size_toArray,← rv.length]; lia
  have st:(s1.heap.push (revObj l ((its.toArray.size:Int) - 1))).IsRevIter s1.heap.objs.size l ((xs.length:Int) - 1 - ((0:Nat):Int)):=by
    rw [← hl]
    exact ⟨_,Heap.get?_push_size _ rfl,rfl,rfl⟩
  refine wpAny_pyIter_revIter (s:={ s1 with heap:=s1.heap.push (revObj l ((its.toArray.size:Int) - 1)) }) st ?_
  refine ⟨s1.heap.objs.size,[s1.heap.objs.size],_,_,H1,rfl,I1.kept (t':=s1.toks) fun b o e=>Heap.get?_push_of_some _ e,turn_rev l _ xs.length,st,fun b hb=>?_,q⟩
  have e:b = s1.heap.objs.size:=by simpa using hb
  subst e
  exact I1.fpOk (Nat.le_refl _) (I1.hok.fresh (Nat.le_refl _))
theorem rev_get {xs:List V} {i:Nat} (h:i < xs.length):xs.reverse[i]? = xs[xs.length - 1 - i]?:=by
  rw [List.getElem?_reverse h]
section
variable {K:PySem.W.Frag} {k:Nat} {g:TG} {tt:TT} {te:TE} {σc:St} {fin:List V → Hp → Prop} {H:Hp}
theorem turns_rev {a:Addr} {xs:List V} (Pv:Nat → List V → Hp → Prop) (h0:Pv 0 [] H) (hlen:∀ i acc H,Pv i acc H → acc.length ≤ i) (hn:xs.length < sizeLine) (hl:∀ i acc H,Pv i acc H → SqL K H a xs)
    (hs:∀ i acc H x,xs.reverse[i]? = some x → Pv i acc H → g x σc H fun σ2 H2=>σ2.drop k = σc.drop k ∧ tt σ2 H2 fun b H3=>if b = true then te σ2 H3 fun y H4=>Pv (i + 1) (acc ++ [y]) H4 else Pv (i + 1) acc H3)
    (hd:∀ acc H,Pv xs.length acc H → fin acc H):tTurns k (Itv K a xs.length) g tt te σc fin H:=by
  refine turns_of _ xs.length Pv h0 hlen hn (fun i acc H hi p=>⟨xs,hl i acc H p,rfl,hi⟩) (fun acc H p=>rfl) (fun i acc H x H' hi p y=>?_) hd
  obtain ⟨e,y⟩:=y
  subst e
  exact hs i acc _ x (by rw [rev_get hi]; exact y xs (hl i acc _ p) rfl) p
theorem for_enum {a:Addr} {xs:List V} {g:TG} {tb:TS} {D:Ends} {σ:St} {H:Hp} (Pv:Nat → St → Hp → Prop) (h0:Pv 0 σ H) (hl:∀ i σ H,i ≤ xs.length → Pv i σ H → SqL K H a xs)
    (hs:∀ i x p σ H,xs[i]? = some x → Pv i σ H → H p = none → g (.ref p) σ (upd H p (.tup [.int i,x])) fun σ2 H2=>tb { D with nx:=Pv (i + 1),ct:=Pv (i + 1),bk:=D.nx } σ2 H2) (hd:∀ σ H,Pv xs.length σ H → D.nx σ H) :
    ∃ W:Nat → Nat → St → Hp → Prop,(∃ m,W 0 m σ H) ∧ ∀ i m σ H,W i m σ H →
      ((Ite K a).stop i H ∧ D.nx σ H) ∨ ((Ite K a).go i H ∧ ∃ N:St → Hp → Prop,(∀ σ' H',N σ' H' → ∃ m',m' < m ∧ W (i + 1) m' σ' H') ∧ ∀ x H',(Ite K a).yld i H x H' → g x σ H' fun σ2 H2=>tb { D with nx:=N,ct:=N,bk:=D.nx } σ2 H2):=by
  refine ⟨fun i m σ H=>m = xs.length - i ∧ i ≤ xs.length ∧ Pv i σ H,⟨xs.length,by simp,Nat.zero_le _,h0⟩,?_⟩
  rintro i m σ H ⟨rfl,hi,p⟩
  have q:=hl i σ H hi p
  by_cases hlt:i < xs.length
  · refine .inr ⟨⟨xs,xs[i],q,by simp [hlt]⟩,Pv (i + 1),fun σ' H' p'=>⟨xs.length - (i + 1),by lia,rfl,hlt,p'⟩,fun x H' y=>?_⟩
    obtain ⟨r,z,e1,e2,e3,e4⟩:=y
    subst e2 e3
    exact hs i z r σ _ (e4 xs q) p e1
  · have e:i = xs.length:=by lia
    subst e
    exact .inl ⟨⟨xs,q,rfl⟩,hd σ H p⟩
end
end L2
namespace L2
open PySem PySem.Spec PyProof.Rows
inductive rStarts1 (x:V) (vs:List V) (H:Hp) (Q:VK):Prop
  | mk (w:_) (l:_) (h1_:x = .str (Sx w)) (h2_:vs = [.str (Sx l)]) (h3_:Q (.bl (decide (l.length ≤ w.length) && atW w l 0)) H):rStarts1 x vs H Q
theorem mt_starts1 {X:Cx}:MtR X "str.startswith" rStarts1:=by
  intro pins s σ H x vs v us Q I rx rv h
  obtain ⟨w,l,rfl,rfl,q⟩:=h
  obtain ⟨t,rfl⟩:=rx
  obtain ⟨u,rfl,r1⟩:=vals1 rv
  obtain ⟨t1,rfl⟩:=r1
  refine SC.startswith ⟨_,H,I,?_,q⟩
  show Value.bool _ = Value.bool _
  congr 1
  unfold Txt.startswith
  rw [Nat.zero_add,Sx_len,Sx_len,subAt_Sx]
end L2
namespace L2
open PySem PySem.Spec PyProof.Rows
section
variable {κ:Type} [DecidableEq κ]
def valV (kvs:List (κ × V)) (k:κ):Option V:=(kvs.find? fun kv=>decide (kv.1 = k)).map (·.2)
def putK (kvs:List (κ × V)) (k:κ) (v:V):List (κ × V) :=
  if (kvs.any fun kv=>decide (kv.1 = k)) = true then kvs.map (fun kv=>if kv.1 = k then (kv.1,v) else kv) else kvs ++ [(k,v)]
theorem valV_pos {p:κ × V} {r:List (κ × V)} {k:κ} (e:p.1 = k):valV (p :: r) k = some p.2:=by simp [valV,List.find?_cons,e]
theorem valV_neg {p:κ × V} {r:List (κ × V)} {k:κ} (e:¬ p.1 = k):valV (p :: r) k = valV r k:=by simp [valV,List.find?_cons,e]
theorem valV_any (k:κ):∀ kvs:List (κ × V),(kvs.any fun kv=>decide (kv.1 = k)) = (valV kvs k).isSome
  | []=>rfl
  | p :: r=>by
    rw [List.any_cons]
    by_cases e:p.1 = k
    · simp only [valV_pos e,decide_eq_true e,Bool.true_or,Option.isSome_some]
    · rw [valV_neg e,decide_eq_false e,Bool.false_or]; exact valV_any k r
theorem valV_map (k j:κ) (y:V):∀ kvs:List (κ × V),valV (kvs.map fun kv=>if kv.1 = k then (kv.1,y) else kv) j = (valV kvs j).map fun x=>if j = k then y else x
  | []=>rfl
  | p :: r=>by
    have ih:=valV_map k j y r
    rw [List.map_cons]
    by_cases h:p.1 = k
    · rw [if_pos h]
      by_cases e:p.1 = j
      · rw [valV_pos (p:=(p.1,y)) e,valV_pos e,Option.map_some,if_pos (e.symm.trans h)]
      · rw [valV_neg (p:=(p.1,y)) e,valV_neg e,ih]
    · rw [if_neg h]
      by_cases e:p.1 = j
      · rw [valV_pos (p:=p) e,valV_pos e,Option.map_some,if_neg (fun z=>h (e.trans z))]
      · rw [valV_neg (p:=p) e,valV_neg e,ih]
theorem valV_snoc (k j:κ) (y:V):∀ kvs:List (κ × V),valV kvs k = none → valV (kvs ++ [(k,y)]) j = if j = k then some y else valV kvs j
  | [],_=>by
    by_cases e:k = j
    · rw [if_pos e.symm]; exact valV_pos (p:=(k,y)) e
    · rw [if_neg (fun z=>e z.symm)]; exact valV_neg (p:=(k,y)) e
  | p :: r,hn=>by
    rw [List.cons_append]
    have hk:¬ p.1 = k:=fun z=>by rw [valV_pos z] at hn; cases hn
    rw [valV_neg hk] at hn
    have ih:=valV_snoc k j y r hn
    by_cases e:p.1 = j
    · rw [valV_pos e,valV_pos e,if_neg (fun z=>hk (e.trans z))]
    · rw [valV_neg e,valV_neg e,ih]
theorem valV_put (kvs:List (κ × V)) (k j:κ) (y:V):valV (putK kvs k y) j = if j = k then some y else valV kvs j:=by
  unfold putK
  by_cases a:(kvs.any fun kv=>decide (kv.1 = k)) = true
  · rw [if_pos a,valV_map]
    rw [valV_any] at a
    by_cases e:j = k
    · obtain ⟨x,hx⟩:=Option.isSome_iff_exists.mp a
      rw [if_pos e,e,hx,Option.map_some,if_pos rfl]
    · rw [if_neg e]
      cases valV kvs j with
      | none=>rfl
      | some x=>rw [Option.map_some,if_neg e]
  · rw [if_neg a]
    refine valV_snoc k j y kvs ?_
    rw [valV_any] at a
    cases q:valV kvs k with
    | none=>rfl
    | some x=>rw [q] at a; exact (a rfl).elim
theorem length_putK (kvs:List (κ × V)) (k:κ) (v:V):(putK kvs k v).length ≤ kvs.length + 1:=by
  unfold putK
  split
  · rw [List.length_map]; lia
  · rw [List.length_append,List.length_cons,List.length_nil]; lia
theorem RelO.isSome_eq {o:Option V} {u:Option Value} (r:RelO o u):o.isSome = u.isSome:=by
  cases o with
  | none=>cases u with
    | none=>rfl
    | some _=>exact (show False from r).elim
  | some _=>cases u with
    | none=>exact (show False from r).elim
    | some _=>rfl
theorem KV.val {kvs:List (κ × V)} {vs:List (κ × Value)} (r:KV kvs vs) (k:κ):RelO (valV kvs k) (valueAt vs k):=by
  unfold KV at r
  induction r with
  | nil=>exact True.intro
  | @cons p q ps qs h t ih =>
    obtain ⟨h1,h2⟩:=h
    by_cases e:p.1 = k
    · have e':q.1 = k:=h1.symm.trans e
      have b:valueAt (q :: qs) k = some q.2:=by simp [valueAt,List.find?_cons,e']
      rw [valV_pos e,b]; exact h2
    · have e':¬ q.1 = k:=fun z=>e (h1.trans z)
      have b:valueAt (q :: qs) k = valueAt qs k:=by simp [valueAt,List.find?_cons,e']
      rw [valV_neg e,b]; exact ih
theorem KV.any {kvs:List (κ × V)} {vs:List (κ × Value)} (r:KV kvs vs) (k:κ):(kvs.any fun kv=>decide (kv.1 = k)) = vs.any fun kv=>decide (kv.1 = k):=by
  unfold KV at r
  induction r with
  | nil=>rfl
  | cons h t ih=>rw [List.any_cons,List.any_cons,ih,h.1]
theorem KV.repl {kvs:List (κ × V)} {vs:List (κ × Value)} (r:KV kvs vs) (k:κ) {y:V} {u:Value} (ry:RelV y u) :
    KV (kvs.map fun kv=>if kv.1 = k then (kv.1,y) else kv) (vs.map fun kv=>if kv.1 = k then (kv.1,u) else kv):=by
  unfold KV at r ⊢
  induction r with
  | nil=>exact .nil
  | @cons p q ps qs h t ih =>
    rw [List.map_cons,List.map_cons]
    refine .cons ?_ ih
    obtain ⟨h1,h2⟩:=h
    by_cases e:p.1 = k
    · rw [if_pos e,if_pos (h1.symm.trans e)]; exact ⟨h1,ry⟩
    · rw [if_neg e,if_neg (fun z=>e (h1.trans z))]; exact ⟨h1,h2⟩
theorem KV.put {kvs:List (κ × V)} {vs:List (κ × Value)} (r:KV kvs vs) (k:κ) {y:V} {u:Value} (ry:RelV y u):KV (putK kvs k y) (stored vs k u):=by
  unfold putK stored
  rw [r.any k]
  by_cases e:(vs.any fun kv=>decide (kv.1 = k)) = true
  · rw [if_pos e,if_pos e]; exact r.repl k ry
  · rw [if_neg e,if_neg e]; exact Paired.snoc r ⟨rfl,ry⟩
theorem KV.length {kvs:List (κ × V)} {vs:List (κ × Value)} (r:KV kvs vs):kvs.length = vs.length:=Paired.length r
end
theorem kV_is {P:Program} {w:World} {k:Key} {u:Value} (r:RelV (kV k) u):(mixKind P w).is k u = true:=by
  cases k with
  | inl i=>obtain ⟨t,e⟩:=(show ∃ t,u = Value.int i t from r); subst e; exact mixKind_int P w i t
  | inr x=>obtain ⟨t,e⟩:=(show ∃ t,u = Value.str x t from r); subst e; exact mixKind_str P w x t
theorem items_are {P:Program} {w:World}:∀ {ks:List Key} {us:List Value},Vals (ks.map kV) us → ItemsAre (mixKind P w) ks us
  | [],_,r=>by rw [List.map_nil] at r; cases r; exact .nil
  | k :: ks,_,r=>by
    rw [List.map_cons] at r
    cases r with
    | cons h t=>exact .cons (kV_is h) (items_are t)
abbrev KT (H:Hp):List (List Key × V) → List (List Key × Addr × Value) → Prop:=Paired fun p q=>p.1 = q.1 ∧ H q.2.1 = some (.tup (p.1.map kV)) ∧ RelV p.2 q.2.2
theorem KT.val {H:Hp} {kvs:List (List Key × V)} {xs:List (List Key × Addr × Value)} (r:KT H kvs xs) (k:List Key):RelO (valV kvs k) ((atKey xs k).map (·.2)):=by
  induction r with
  | nil=>exact True.intro
  | @cons p q ps qs h t ih =>
    obtain ⟨h1,_,h2⟩:=h
    by_cases e:p.1 = k
    · have e':q.1 = k:=h1.symm.trans e
      have b:atKey (q :: qs) k = some q.2:=by simp [atKey,List.find?_cons,e']
      rw [valV_pos e,b]; exact h2
    · have e':¬ q.1 = k:=fun z=>e (h1.trans z)
      have b:atKey (q :: qs) k = atKey qs k:=by simp [atKey,List.find?_cons,e']
      rw [valV_neg e,b]; exact ih
theorem KT.repl {H:Hp} {kvs:List (List Key × V)} {xs:List (List Key × Addr × Value)} (r:KT H kvs xs) (k:List Key) {y:V} {u:Value} (ry:RelV y u) :
    KT H (kvs.map fun kv=>if kv.1 = k then (kv.1,y) else kv) (xs.map (putAt k u)):=by
  induction r with
  | nil=>exact .nil
  | @cons p q ps qs h t ih =>
    rw [List.map_cons,List.map_cons]
    refine .cons ?_ ih
    obtain ⟨h1,h2,h3⟩:=h
    unfold putAt
    by_cases e:p.1 = k
    · rw [if_pos e,if_pos (h1.symm.trans e)]; exact ⟨h1,h2,ry⟩
    · rw [if_neg e,if_neg (fun z=>e (h1.trans z))]; exact ⟨h1,h2,h3⟩
theorem KT.put {H:Hp} {kvs:List (List Key × V)} {xs:List (List Key × Addr × Value)} (r:KT H kvs xs) (k:List Key) {b:Addr} {y:V} {u:Value} (hb:H b = some (.tup (k.map kV))) (ry:RelV y u) :
    KT H (putK kvs k y) (storedH xs k b u):=by
  have e:(kvs.any fun kv=>decide (kv.1 = k)) = (atKey xs k).isSome:=by
    rw [valV_any,(r.val k).isSome_eq,Option.isSome_map]
  unfold putK storedH
  rw [e]
  by_cases q:(atKey xs k).isSome = true
  · rw [if_pos q,if_pos q]; exact r.repl k ry
  · rw [if_neg q,if_neg q]; exact Paired.snoc r ⟨rfl,hb,ry⟩
theorem KT.keeps {H H':Hp} {kvs:List (List Key × V)} {xs:List (List Key × Addr × Value)} (r:KT H kvs xs) (ht:∀ b ys,H b = some (.tup ys) → H' b = some (.tup ys)):KT H' kvs xs :=
  Paired.mapP r fun _ _ z=>⟨z.1,ht _ _ z.2.1,z.2.2⟩
section
variable {P:Program} {w:World} {H:Hp} {h:Heap} {a:Addr}
theorem rd_of {u:HO} (ok:HOk P w H h) (e:Rd H a u):ObjOk P w H h a u:=e.ok ok
theorem dk_rd {kvs:List (Key × V)} (ok:HOk P w H h) (e:Rd H a (.dK kvs)):kvs.length ≤ sizeLine ∧ (a == sysModules) = false ∧ ∃ vs,KV kvs vs ∧ h.DictOf (mixKind P w) a vs :=
  show ObjOk P w H h a (.dK kvs) from rd_of ok e
theorem dk_of {kvs:List (Key × V)} (ok:HOk P w H h) (e:H a = some (.dK kvs)):kvs.length ≤ sizeLine ∧ (a == sysModules) = false ∧ ∃ vs,KV kvs vs ∧ h.DictOf (mixKind P w) a vs:=dk_rd ok (.inl e)
theorem key_of {ks:List Key} (ok:HOk P w H h) (e:H a = some (.tup (ks.map kV))):(tupleKind (mixKind P w)).is h ks a:=by
  obtain ⟨_,its,r,o,h1,h2,n,h3⟩:=(show ObjOk P w H h a (.tup (ks.map kV)) from ok a _ e)
  exact ⟨o,its.toArray,n,h1,h2,h3,by simpa using items_are r⟩
theorem dt_rd {kvs:List (List Key × V)} (ok:HOk P w H h) (e:Rd H a (.dT kvs)):kvs.length ≤ sizeLine ∧ (a == sysModules) = false ∧
    ∃ xs,KT H kvs xs ∧ h.DictOfH (tupleKind (mixKind P w)) a xs:=by
  obtain ⟨z,y,xs,r,o,es,ep,h1,h2,h3,h4,h5⟩:=(show ObjOk P w H h a (.dT kvs) from rd_of ok e)
  refine ⟨z,y,xs,r,o,es,ep,h1,h2,h3,h4,fun x hx=>?_,h5⟩
  have all:∀ {l:List (List Key × V)} {m:List (List Key × Addr × Value)},KT H l m → ∀ x ∈ m,(tupleKind (mixKind P w)).is h x.1 x.2.1:=by
    intro l m q
    induction q with
    | nil=>intro x hx; exact nomatch hx
    | @cons p q ps qs hq t ih =>
      intro x hx
      rcases List.mem_cons.mp hx with e | hx
      · subst e
        exact key_of ok (by rw [← hq.1]; exact hq.2.1)
      · exact ih x hx
  exact all r x hx
theorem dt_of {kvs:List (List Key × V)} (ok:HOk P w H h) (e:H a = some (.dT kvs)):kvs.length ≤ sizeLine ∧ (a == sysModules) = false ∧
    ∃ xs,KT H kvs xs ∧ h.DictOfH (tupleKind (mixKind P w)) a xs:=dt_rd ok (.inl e)
end
def DGet (H:Hp) (a:Addr) (y:V) (r:Option V):Prop :=
  (∃ kvs k,Rd H a (.dK kvs) ∧ y = kV k ∧ r = valV kvs k) ∨ ∃ kvs k b,Rd H a (.dT kvs) ∧ y = .ref b ∧ H b = some (.tup (k.map kV)) ∧ r = valV kvs k
def DPut (H:Hp) (a:Addr) (y v:V) (H':Hp):Prop :=
  (∃ kvs k,H a = some (.dK kvs) ∧ y = kV k ∧ kvs.length < sizeLine ∧ H' = upd H a (.dK (putK kvs k v))) ∨
  ∃ kvs k b,H a = some (.dT kvs) ∧ y = .ref b ∧ H b = some (.tup (k.map kV)) ∧ kvs.length < sizeLine ∧ H' = upd H a (.dT (putK kvs k v))
theorem DGet.k {H:Hp} {a:Addr} {kvs:List (Key × V)} {k:Key} (e:H a = some (.dK kvs)):DGet H a (kV k) (valV kvs k):=.inl ⟨kvs,k,.inl e,rfl,rfl⟩
theorem DPut.k {H:Hp} {a:Addr} {kvs:List (Key × V)} {k:Key} {v:V} (e:H a = some (.dK kvs)) (hl:kvs.length < sizeLine):DPut H a (kV k) v (upd H a (.dK (putK kvs k v))):=.inl ⟨kvs,k,e,rfl,hl,rfl⟩
section
variable {X:Cx} {pins:List (Addr × Obj)} {σ:St} {H:Hp} {s:Shared} {a:Addr} {y v:V} {u r:Value} {o:Option V} {A:Around} {E:Value → Shared → Prop}
theorem Inv.big (I:Inv X pins σ H s):sysModules < s.heap.objs.size:=by
  have h:mainGlobals < s.heap.objs.size:=(I.mod.glob.keeps I.bk).lt
  exact Nat.lt_trans (by decide) h
theorem d_getItem {Q:Value → Shared → Prop} (hu:A.units + 1 < cLine) (I:Inv X pins σ H s) (g:DGet H a y (some v)) (ry:RelV y u) (h:∀ w' s',Inv X pins σ H s' → RelV v w' → Q w' s') :
    wpAny (model X.prog X.w) A (getItem (.ref a) u) Q E s:=by
  rcases g with ⟨kvs,k,e,ey,l⟩ | ⟨kvs,k,b,e,ey,eb,l⟩
  · subst ey
    obtain ⟨z,hd,vs,rel,dd⟩:=dk_rd I.hok e
    obtain ⟨w',hw,rw'⟩:=RelO.some_of (v:=v) (o:=valueAt vs k) (by rw [l]; exact rel.val k)
    exact wpAny_getItem_of (kV_is ry) dd.mapOf hw (h w' _ (I.tok _) rw')
  · subst ey
    cases (show u = Value.ref b from ry)
    obtain ⟨z,hd,xs,rel,dd⟩:=dt_rd I.hok e
    obtain ⟨w',hw,rw'⟩:=RelO.some_of (v:=v) (o:=(atKey xs k).map (·.2)) (by rw [l]; exact rel.val k)
    obtain ⟨p,hp,hp2⟩:=Option.map_eq_some_iff.mp hw
    refine wpAny_getItem_heap (tupleKind_room_in1 hu) (key_of I.hok eb) dd hp ?_
    rw [hp2]
    exact h w' _ (I.tok _) rw'
theorem d_write {h':Heap} {t':Nat} {ob:HO} (I:Inv X pins σ H s) (mu:Mut (H a)) (hs:Heap.SameBut a s.heap h') (he:∃ q,h'.get? a = some q) (new:ObjOk X.prog X.w (upd H a ob) h' a ob) :
    Inv X pins σ (upd H a ob) { s with heap:=h',toks:=t' } :=
  I.write (x:=a) (e:=a) mu (.inl rfl) (fun b q hb z=>(hs.2 b hb).trans z) he new
theorem dk_new {P:Program} {w:World} {H':Hp} {h':Heap} {kvs:List (Key × V)} {vs:List (Key × Value)} (z:kvs.length ≤ sizeLine) (hd:(a == sysModules) = false) (rel:KV kvs vs) (dd:h'.DictOf (mixKind P w) a vs) :
    ObjOk P w H' h' a (.dK kvs):=⟨z,hd,vs,rel,dd⟩
theorem d_setItem {H':Hp} {Q:Unit → Shared → Prop} (hu:A.units + 1 < cLine) (I:Inv X pins σ H s) (g:DPut H a y v H') (ry:RelV y u) (rv:RelV v r) (h:∀ s',Inv X pins σ H' s' → Q () s') :
    wpAny (model X.prog X.w) A (setItem (.ref a) u r) Q E s:=by
  rcases g with ⟨kvs,k,e,ey,l,eH⟩ | ⟨kvs,k,b,e,ey,eb,l,eH⟩
  · subst ey eH
    obtain ⟨z,hd,vs,rel,dd⟩:=dk_of I.hok e
    have hz:vs.length ≤ sizeLine:=by rw [← rel.length]; exact z
    have hl:(putK kvs k v).length ≤ sizeLine:=by have:=length_putK kvs k v; lia
    refine wpAny_setItem_pairs (hsz:=hz) (kV_is ry) dd fun h' dd' hs=>h _ ?_
    have he:∃ q,h'.get? a = some q:=let ⟨q,_,_,hq,_⟩:=dd'; ⟨q,hq⟩
    exact d_write I (by rw [e]; exact True.intro) hs he (dk_new hl hd (rel.put k rv) dd')
  · subst ey eH
    cases (show u = Value.ref b from ry)
    obtain ⟨z,hd,xs,rel,dd⟩:=dt_of I.hok e
    have hz:xs.length ≤ sizeLine:=by rw [← Paired.length rel]; exact z
    have hl:(putK kvs k v).length ≤ sizeLine:=by have:=length_putK kvs k v; lia
    refine wpAny_setItem_heap (hsz:=hz) (tupleKind_room_in1 hu) (key_of I.hok eb) dd fun h' dd' hs=>h _ ?_
    obtain ⟨q,es,ep,hq,h2,h3,h4,_,h5⟩:=dd'
    refine d_write I (by rw [e]; exact True.intro) hs ⟨q,hq⟩ ⟨hl,hd,_,(rel.put k eb rv).keeps fun c ys ec=>?_,q,es,ep,hq,h2,h3,h4,h5⟩
    rw [upd_ne (ne_of ec e (fun z=>nomatch z))]
    exact ec
end
section
variable {X:Cx} {pins:List (Addr × Obj)} {σ:St} {H:Hp} {s:Shared} {a:Addr} {kvs:List (Key × V)} {k:Key} {u:Value} {A:Around} {E:Value → Shared → Prop}
end
def NoSl (i:Expr):Prop:=∀ ov iv,subscripted i false ov iv = operate [ov,iv] (getItem ov iv)
theorem subD_of {prog:Program} {w:World} {A:Around} {E:Value → Shared → Prop} {s:Shared} {env:Env} {value slice:Expr} {pos:Pos} {T id:String} {Q:Value → Shared → Prop}
    (hl:typeLookup (.type T) "__getitem__" = pure (some (.builtin id))) (hs:NoSl slice)
    (h:wpAny (model prog w) A (eval value env) (fun o s₁=>wpAny (model prog w) A (eval slice env) (fun i s₂=>s₂.TypeIs o T ∧ wpAny (model prog w) A (getItem o i) Q E s₂) E s₁) E s) :
    wpAny (model prog w) A (eval (.Subscript value slice pos) env) Q E s:=by
  refine Subscript_ (wpAny_mono h (fun o s₁ h₁=>wpAny_mono h₁ (fun i s₂ h₂=>?_) fun _ _ x=>x) fun _ _ x=>x)
  obtain ⟨hT,h₂⟩:=h₂
  unfold subscriptTail
  refine wpAny_bind ?_
  rw [getitemInPython_of_ne hT.not_modules]
  refine wpAny_bind (wpAny_specialOf hT hl ?_)
  have fin:wpAny (model prog w) A (subscripted slice false o i) (fun r s₃=>wpAny (model prog w) A (letTemporaryGo value o r >>= fun _=>pure r) Q E s₃) E s₂:=by
    rw [hs o i]
    exact wpAny_operating (wpAny_mono h₂ (fun r s₃ h₃=>wpAny_bind (wpAny_letTemporaryGo (wpAny_pure h₃))) fun _ _ x=>x)
  first
    | exact wpAny_pure (wpAny_bind fin)
    | exact wpAny_bind (wpAny_pure (wpAny_bind fin))
    | exact wpAny_bind fin
theorem dict_typeIs {X:Cx} {pins:List (Addr × Obj)} {σ:St} {H:Hp} {s:Shared} {a:Addr} {y:V} {o:Option V} (I:Inv X pins σ H s) (g:DGet H a y o):s.TypeIs (.ref a) "dict":=by
  rcases g with ⟨kvs,k,e,_,_⟩ | ⟨kvs,k,b,e,_,_,_⟩
  · obtain ⟨_,_,vs,_,dd⟩:=dk_rd I.hok e
    exact dd.typeIs
  · obtain ⟨_,_,xs,_,dd⟩:=dt_rd I.hok e
    exact dd.typeIs
inductive tDGetI (Q:VK) (x:V) (y:V) (H2:Hp):Prop
  | mk (a:_) (v:_) (h1_:x = .ref a) (h2_:DGet H2 a y (some v)) (h3_:Q v H2):tDGetI Q x y H2
def tDGet (td ty:TE):TE:=fun σ H Q=>td σ H fun x H1=>ty σ H1 fun y H2=>tDGetI Q x y H2
inductive sDPutI (D:Ends) (σ:St) (v:V) (x:V) (y:V) (H3:Hp):Prop
  | mk (a:_) (H4:_) (h1_:x = .ref a) (h2_:DPut H3 a y v H4) (h3_:D.nx σ H4):sDPutI D σ v x y H3
def sDPut (td ty tv:TE):TS:=fun D σ H=>tv σ H fun v H1=>td σ H1 fun x H2=>ty σ H2 fun y H3=>sDPutI D σ v x y H3
section
variable {X:Cx} {o i e value:Expr} {pos pos' tpos:Pos} {td ty tv:TE}
theorem pe_dget (hu:X.A.units + 1 < cLine) (ho:PE X o td) (hi:PE X i ty) (hs:NoSl i):PE X (.Subscript o i pos) (tDGet td ty):=by
  intro pins s σ H Q I h
  refine subD_of PySem.F.slot_dict_getitem.lookup hs (thn (ho pins s σ H _ I h) fun u s1 ⟨x,H1,I1,rx,q1⟩=>thn (hi pins s1 σ H1 _ I1 q1) fun iv s2 ⟨y,H2,I2,ry,a,v,ex,g,q2⟩=>?_)
  subst ex
  obtain rfl:u = Value.ref a:=rx
  exact ⟨dict_typeIs I2 g,d_getItem hu I2 g ry fun w' s3 I3 rw'=>⟨v,H2,I3,rw',q2⟩⟩
theorem ps_dput (hu:X.A.units + 1 < cLine) (ho:PE X o td) (hi:PE X i ty) (hv:PE X value tv) (hs:swapsWith value (some (.Subscript o i pos')) pos.line X.env = pure false) :
    PS X (.Assign [.Subscript o i pos'] value pos) (sDPut td ty tv):=by
  intro pins s σ H D I h
  refine wpAny_Assign_Subscript (thn (hv pins s σ H _ I h) fun r s1 ⟨v,H1,I1,rv,q1⟩=>thn (ho pins s1 σ H1 _ I1 q1) fun u s2 ⟨x,H2,I2,rx,q2⟩=>thn (hi pins s2 σ H2 _ I2 q2) fun iv s3 ⟨y,H3,I3,ry,a,H4,ex,g,q3⟩=>?_) hs
  subst ex
  obtain rfl:u = Value.ref a:=rx
  exact d_setItem hu I3 g ry rv fun s4 I4=>⟨σ,H4,I4,q3⟩
end
theorem dk_empty {P:Program} {w:World} {H:Hp} (h:Heap) (hb:sysModules < h.objs.size):ObjOk P w H (h.push { cls:=.type "dict",data:=.dict #[] }) h.objs.size (.dK []) :=
  ⟨Nat.zero_le _,beq_eq_false_iff_ne.mpr (Ne.symm (Nat.ne_of_lt hb)),[],.nil,Heap.DictOf.new h⟩
def tDNewK:TE:=fun _ H Q=>∀ p,H p = none → Q (.ref p) (upd H p (.dK []))
section
variable {X:Cx} {pos:Pos}
theorem pe_dnewK:PE X (.Dict [] [] pos) tDNewK:=fun pins s σ H Q I h =>
  wpAny_Dict_empty ⟨.ref s.heap.objs.size,_,I.laid (a:=s.heap.objs.size) (o:=.dK []) (t':=s.toks) (fun _ _ q=>Heap.get?_push_of_some _ q) (Nat.le_refl _) (dk_empty s.heap I.big),rfl,h _ (I.hok.fresh (Nat.le_refl _))⟩
end
end L2
namespace L2
open PySem PySem.Spec PyProof.Rows
inductive tNotTI (K:PySem.W.Frag) (Q:VK) (x:V) (H1:Hp):Prop
  | mk (k:_) (h1_:TruV K x H1 k) (h2_:Q (.bl (!k)) H1):tNotTI K Q x H1
def tNotT (K:PySem.W.Frag) (ta:TE):TE:=fun σ H Q=>ta σ H fun x H1=>tNotTI K Q x H1
theorem pe_notT {X:Cx} {a:Expr} {ta:TE} {pos:Pos} (ha:PE X a ta):PE X (.UnaryOp .Not a pos) (tNotT X.K ta):=by
  intro pins s σ H Q I h
  refine UnaryOp_ (thn (ha pins s σ H _ I h) fun v s1 ⟨x,H1,I1,r1,q1⟩=>?_)
  exact not_of (thn (tru_ok pins s1 σ H1 x v (fun k H'=>Q (.bl (!k)) H') I1 r1 (let ⟨k,a,b⟩:=q1; ⟨k,a,b⟩)) fun b s2 ⟨H2,I2,q2⟩=>⟨.bl (!b),H2,I2,rfl,q2⟩)
end L2
namespace L2
open PySem PySem.Spec PyProof.Rows
section
variable {X:Cx} {o b:Expr} {to tb:TE} {j:Int} {z:Str} {k1 k2:Nat} {p1 p2 p3 apos cpos:Pos}
theorem Inv.unbooked {pins:List (Addr × Obj)} {σ:St} {H:Hp} {s:Shared} (I:Inv X pins σ H s) (kb:PySem.W.nsIn X.K cStatics sharingNotToldKey = some none):NoneBooked s.heap:=by
  obtain ⟨mc,h1,_⟩:=I.nolimit
  exact ⟨mc,h1,PySem.W.ns_none_of I.kIn h1 kb⟩
def tRepl (to tb:TE) (j:Int) (z:Str):TE:=fun σ H Q=>to σ H fun x H1=>∃ u:Str,x = .str u ∧ u.length ≤ 1000 ∧ tb σ H1 fun y H2=>∃ (w:Str) (c:Nat),y = .str w ∧ w.length ≤ sizeLine ∧ atI w.cps.toList j = some c ∧ Q (.str (Txt.replace u ⟨#[c]⟩ z)) H2
theorem pe_repl (kb:PySem.W.nsIn X.K cStatics sharingNotToldKey = some none) (hz:z.length ≤ 14) (ho:PE X o to) (hb:PE X b tb)
    (hbase:attributeBase o "replace" X.env (eval o X.env) = eval o X.env:=by rfl)
    (hfew:((backTo cpos (starEach [.Subscript b (.Constant (.int j) k1 p1) p2,.Constant (.str z) k2 p3] X.env)).all (fun x=>!x.1) && (backToKw cpos (keywordEach [] X.env)).all (fun x=>x.1.isSome)
      && decide ((2:Nat) + ([]:List Keyword).length + (if ([]:List Keyword).isEmpty then 0 else 1) < 30)) = true:=by rfl)
    (hline:(apos.endLine == cpos.line) = true:=by rfl)
    (hs:starEach [.Subscript b (.Constant (.int j) k1 p1) p2,.Constant (.str z) k2 p3] X.env = (false,eval (.Subscript b (.Constant (.int j) k1 p1) p2) X.env) :: starEach [.Constant (.str z) k2 p3] X.env:=by rfl)
    (hs2:starEach [.Constant (.str z) k2 p3] X.env = (false,eval (.Constant (.str z) k2 p3) X.env) :: starEach [] X.env:=by rfl)
    (hix:∀ v u,subscripted (.Constant (.int j) k1 p1) false v u = operate [v,u] (getItem v u):=by intro _ _; rfl) :
    PE X (.Call (.Attribute o "replace" apos) [.Subscript b (.Constant (.int j) k1 p1) p2,.Constant (.str z) k2 p3] [] cpos) (tRepl to tb j z):=by
  intro pins s σ H Q I h
  refine wpAny_Call_method_late hbase hfew hline rfl (thn (ho pins s σ H _ I h) fun v s1 ⟨x,H1,I1,r1,u,ex,hu,q1⟩=>?_)
  subst ex
  obtain ⟨h1,h2⟩:=tyV_is I1 r1 (T:="str") rfl
  obtain ⟨t,rfl⟩:=r1
  refine ⟨"str","str.replace",PySem.F.plainAttrs_str,PySem.F.slot_str_replace,by first | exact PySem.F.type_str_replace | rfl,h1,h2,?_⟩
  rw [hs]
  refine Calls.callWith_builtin (by show (false || (backTo cpos (starEach [.Constant (.str z) k2 p3] X.env)).any (·.1)) = false; rw [hs2]; rfl) (Calls.evalArgs_plain (Calls.spliced_cons ?_))
  refine Subscript_ (thn (hb pins s1 σ H1 _ I1 q1) fun v2 s2 ⟨y,H2,I2,r2,w,c,ey,hw,hat,q2⟩=>wpAny_Constant_int ?_)
  subst ey
  obtain ⟨t2,rfl⟩:=r2
  obtain ⟨jj,g1,g2,g3,g4,g5⟩:=atI_get hat
  have hl:w.cps.toList.length = w.length:=by simp [Str.length]
  rw [hl] at g1 g4 g5
  have hn:=line63
  refine tail_any (typeIs_str _ w t2) PySem.F.slot_str_getitem.lookup (getItem_str (c:=c) (by
    have e1:decide (j < -(2 ^ 63:Int)) = false:=decide_eq_false (by lia)
    have e2:decide (j ≥ 2 ^ 63) = false:=decide_eq_false (by lia)
    rw [e1,e2,Bool.or_false]) (by rw [g1]; simpa using g2) ?_) (hix _ _)
  show wpAny _ _ (spliced (backTo cpos (starEach [.Constant (.str z) k2 p3] X.env))) _ _ _
  rw [hs2]
  refine Calls.spliced_cons (Calls.Constant_str (k:=k2) (pos:=p3) (Calls.spliced_nil ?_))
  refine SC.replaceA (by show s2.toks + 1 ≠ 0; lia) (by show s2.toks + 1 + 1 ≠ 0; lia) (by show s2.toks + 1 ≠ s2.toks + 1 + 1; lia) (by
    have:(u.length + 1) * z.length ≤ 1001 * 14:=Nat.mul_le_mul (by lia) hz
    lia) (fun t' k=>⟨.str (Txt.replace u ⟨#[c]⟩ z),H2,I2.tok k,⟨t',rfl⟩,q2⟩) (I2.unbooked kb)
end
end L2
namespace L2
open PySem PySem.Spec PyProof.Rows Builtin.Str
end L2
namespace L2
open PySem PySem.Spec PyProof.Rows Builtin.Str
theorem glue_map {f:Nat → Nat} {g1 g2:Array Nat} (hg:g1 = g2.map f):∀ (ps:List Str) (a1 a2:Array Nat),a1 = a2.map f → (∀ p ∈ ps,p.cps.map f = p.cps) → ps.foldl (fun acc p=>acc ++ g1 ++ p.cps) a1 = (ps.foldl (fun acc p=>acc ++ g2 ++ p.cps) a2).map f
  | [],_,_,h,_=>h
  | p :: r,a1,a2,h,hp=>by
    rw [List.foldl_cons,List.foldl_cons]
    refine glue_map hg r _ _ ?_ fun q hq=>hp q (List.mem_cons_of_mem _ hq)
    rw [Array.map_append,Array.map_append,hp p List.mem_cons_self,h,hg]
theorem repl_exact (x:Str) (c d:Nat):Txt.replace x ⟨#[c]⟩ ⟨#[d]⟩ = ⟨x.cps.map fun e=>if e = c then d else e⟩:=by
  obtain ⟨fz,hG,hn⟩:=StrLaws.occ_tight x ⟨#[c]⟩ (Nat.le_refl 1)
  generalize hparts:partsBetween x (occurrences x ⟨#[c]⟩ 0 x.length (x.length + 1)) (⟨#[c]⟩:Str).length = parts
  have free:∀ p ∈ parts,c ∉ p.cps.toList:=by
    rw [← hparts,StrLaws.partsBetween_eq]
    exact StrLaws.parts_free x c _ 0 fz hG hn
  have self:glued ⟨#[c]⟩ parts = x:=by
    rw [← hparts]
    exact StrLaws.glued_between_self x ⟨#[c]⟩ (x.length + 1)
  have hr:Txt.replace x ⟨#[c]⟩ ⟨#[d]⟩ = glued ⟨#[d]⟩ parts:=by
    unfold Txt.replace
    split
    · rename_i h
      have he:(occurrences x ⟨#[c]⟩ 0 x.length (x.length + 1)).isEmpty = true:=by
        rcases Bool.or_eq_true_iff.mp h with z | z
        · exact z
        · have:=(Bool.and_eq_true_iff.mp z).1
          exact absurd (eq_of_beq this) (by show ¬ (1 = 0); decide)
      rw [List.isEmpty_iff.mp he] at hparts
      have hl:parts.length = 1:=by rw [← hparts,length_partsBetween]; rfl
      obtain ⟨p,rfl⟩:∃ p,parts = [p]:=List.length_eq_one_iff.mp hl
      exact self.symm
    · rw [hparts]
  rw [hr]
  have key:∀ p:Str,c ∉ p.cps.toList → p.cps.map (fun e=>if e = c then d else e) = p.cps:=fun p hp=>by
    apply Array.ext'
    rw [Array.toList_map]
    conv=>rhs; rw [← List.map_id p.cps.toList]
    refine List.map_congr_left fun e he=>?_
    rw [if_neg (fun z=>hp (by rw [← z]; exact he))]
    rfl
  have kk:(glued ⟨#[d]⟩ parts).cps = (glued ⟨#[c]⟩ parts).cps.map (fun e=>if e = c then d else e):=by
    unfold glued
    refine glue_map (by simp) _ _ _ ?_ fun p hp=>key p (free p (List.mem_of_mem_drop hp))
    cases parts with
    | nil=>exact (key Str.empty (by show c ∉ ([]:List Nat); simp)).symm
    | cons p r=>exact (key p (free p List.mem_cons_self)).symm
  rw [self] at kk
  show (⟨(glued ⟨#[d]⟩ parts).cps⟩:Str) = _
  rw [kk]
end L2
namespace L2
open PySem PySem.Spec PyProof.Rows PySem.W
def KOk (n:Nat) (lt:Nat → Nat → Bool) {α:Type} (P:α → Prop):KasT α → Prop
  | .ret a=>P a
  | .ask i j k=>i < n ∧ j < n ∧ KOk n lt P (k (lt i j))
section
variable {n:Nat} {lt:Nat → Nat → Bool} {α β:Type}
theorem KOk.bind {P:α → Prop} {R:β → Prop} {f:α → KasT β}:∀ {t:KasT α},KOk n lt P t → (∀ a,P a → KOk n lt R (f a)) → KOk n lt R (t.bind f)
  | .ret a,h,k=>k a h
  | .ask i j c,h,k=>⟨h.1,h.2.1,KOk.bind (t:=c (lt i j)) h.2.2 k⟩
theorem KOk.wp {cmp:Nat → Nat → (Bool → Shared → Prop) → Shared → Prop} {s:Shared} (hc:∀ i j (C:Bool → Shared → Prop),i < n → j < n → C (lt i j) s → cmp i j C s) {P:α → Prop} {Q:α → Shared → Prop} (hq:∀ a,P a → Q a s) :
    ∀ {t:KasT α},KOk n lt P t → t.kasWp cmp Q s
  | .ret a,h=>hq a h
  | .ask i j c,h=>hc i j _ h.1 h.2.1 (KOk.wp hc hq (t:=c (lt i j)) h.2.2)
def PIn (n:Nat) (p:Array Nat):Prop:=∀ x ∈ p.toList,x < n
theorem PIn.get {p:Array Nat} (h:PIn n p) (hn:0 < n) (i:Nat):p.getD i 0 < n:=by
  by_cases hi:i < p.size
  · have e:p.getD i 0 = p[i]:=by simp [Array.getD,hi]
    rw [e]
    exact h _ (by simp)
  · have e:p.getD i 0 = 0:=by simp [Array.getD,hi]
    rw [e]
    exact hn
theorem PIn.perm {p q:Array Nat} (h:PIn n p) (e:q.Perm p):PIn n q:=fun x hx=>h x ((Array.perm_iff_toList_perm.mp e).mem_iff.mp hx)
theorem rev_perm (p:Array Nat) (i j:Nat):(kas_rev p i j).Perm p:=mirror_perm _ _ _ _
theorem ok_desc (hn:0 < n):∀ f (p:Array Nat) m q,PIn n p → KOk n lt (fun r=>r.1.Perm p) (kas_desc f p m q)
  | 0,p,_,_,_=>Array.Perm.refl _
  | f + 1,p,m,q,h=>by
    unfold kas_desc
    refine ⟨h.get hn _,h.get hn _,?_⟩
    dsimp only
    split
    · split
      · have e:=ok_desc hn f (kas_rev p (m - (q + 1)) m) (m + 1) 0 (h.perm (rev_perm _ _ _))
        exact KOk.mono e fun r hr=>hr.trans (rev_perm _ _ _)
      · exact ok_desc hn f p (m + 1) 0 h
    · refine ⟨h.get hn _,h.get hn _,?_⟩
      dsimp only
      split
      · exact Array.Perm.refl _
      · exact ok_desc hn f p (m + 1) (q + 1) h
where
  KOk.mono {α:Type} {P R:α → Prop}:∀ {t:KasT α},KOk n lt P t → (∀ a,P a → R a) → KOk n lt R t
  | .ret a,h,k=>k a h
  | .ask i j c,h,k=>⟨h.1,h.2.1,KOk.mono (t:=c (lt i j)) h.2.2 k⟩
end
end L2
namespace L2
open PySem PySem.Spec PyProof.Rows PySem.W
structure SKey where
  k:Int
  s:Str
  u:Addr
  a:Str
  b:Str
def SKey.flat (z:SKey):List V:=[.int z.k,.str z.s,.str z.a,.str z.b]
inductive KeyAt (H:Hp) (v:V) (z:SKey):Prop
  | mk (t:_) (h1_:v = .ref t) (h2_:H t = some (.tup [.int z.k,.str z.s,.ref z.u])) (h3_:H z.u = some (.tup [.str z.a,.str z.b])):KeyAt H v z
def KeyH (h:Heap) (v:Value) (z:SKey):Prop:=∃ t c1 c2 c3 c4,v = .ref t ∧ h.IsTuple t #[.int z.k c1,.str z.s c2,.ref z.u] ∧ h.IsTuple z.u #[.str z.a c3,.str z.b c4]
section
variable {prog:Program} {w:World} {A:Around} {E:Value → Shared → Prop} {s:Shared}
theorem key_lt {v1 v2:Value} {z1 z2:SKey} {Q:Bool → Shared → Prop} (h1:KeyH s.heap v1 z1) (h2:KeyH s.heap v2 z2) (hu:A.units + 2 < cLine) (q:Q (lexV z1.flat z2.flat) s):wpAny (model prog w) A (keyLt' (tuples' true) v1 v2) Q E s:=by
  obtain ⟨t1,c1,c2,c3,c4,rfl,i1,j1⟩:=h1
  obtain ⟨t2,d1,d2,d3,d4,rfl,i2,j2⟩:=h2
  obtain ⟨o1,g1,_,n1,e1⟩:=i1
  obtain ⟨o2,g2,_,n2,e2⟩:=i2
  refine kat_lt g1 e1 g2 e2 ?_
  show KatLex prog w A true _ Q [(.int z1.k c1,.int z2.k d1),(.str z1.s c2,.str z2.s d2),(.ref z1.u,.ref z2.u)] 0 s
  have q1:Q (if V.int z1.k = V.int z2.k then (if V.str z1.s = V.str z2.s then lexV [.str z1.a,.str z1.b] [.str z2.a,.str z2.b] else ltV (.str z1.s) (.str z2.s)) else ltV (.int z1.k) (.int z2.k)) s:=q
  refine kat_cons (SeqAt.EqAt.int_int z1.k c1 z2.k d1 prog w _ _ ?_)
  refine kat_go (fun e=>kat_yes ?_) (fun e=>kat_no ?_)
  · have ek:z1.k = z2.k:=eq_of_beq e
    rw [if_pos (by rw [ek])] at q1
    refine kat_cons (SeqAt.EqAt.str_str z1.s c2 z2.s d2 prog w _ _ ?_)
    refine kat_go (fun e=>kat_yes ?_) (fun e=>kat_no ?_)
    · have es:z1.s = z2.s:=eq_of_beq e
      rw [if_pos (by rw [es])] at q1
      by_cases hz:z1.u = z2.u
      · have ee:lexV [V.str z1.a,V.str z1.b] [V.str z2.a,V.str z2.b] = false:=by
          rw [hz] at j1
          obtain ⟨o3,g3,_,n3,e3⟩:=j1
          obtain ⟨o4,g4,_,n4,e4⟩:=j2
          rw [g3] at g4
          cases g4
          rw [e3] at e4
          have z:=(Data.seq.inj e4).1
          have za:z1.a = z2.a:=by
            have:=congrArg (fun x:Array Value=>x[0]?) z
            simpa using And.left (by simpa using this)
          have zb:z1.b = z2.b:=by
            have:=congrArg (fun x:Array Value=>x[1]?) z
            simpa using And.left (by simpa using this)
          rw [za,zb,lexV_cons,if_pos rfl,lexV_cons,if_pos rfl]
          rfl
        rw [ee] at q1
        rw [hz]
        refine kat_cons (SeqAt.EqAt.same _ prog w _ _ ?_)
        exact kat_yes (kat_nil q1)
      · have rc:=SeqAt.RcAt.tuples (A:=A) (e:=fun j=>if j = 0 then z1.a == z2.a else z1.b == z2.b) j1 j2 (by lia) (fun j h1 h2=>by
          have hj:j = 0 ∨ j = 1:=by
            have:j < 2:=h1
            lia
          rcases hj with rfl | rfl
          · exact SeqAt.EqAt.str_str _ _ _ _
          · exact SeqAt.EqAt.str_str _ _ _ _)
        refine kat_cons (SeqAt.EqAt.of_refs hz rc prog w _ _ ?_)
        refine kat_go (fun e=>kat_yes ?_) (fun e=>kat_no ?_)
        · have ee:lexV [V.str z1.a,V.str z1.b] [V.str z2.a,V.str z2.b] = false:=by
            have e':=(Bool.and_eq_true_iff.mp e).1
            have e0:=(List.all_eq_true.mp e') 0 (List.mem_range.mpr (by show 0 < 2; decide))
            have e1:=(List.all_eq_true.mp e') 1 (List.mem_range.mpr (by show 1 < 2; decide))
            have za:z1.a = z2.a:=eq_of_beq (by simpa using e0)
            have zb:z1.b = z2.b:=eq_of_beq (by simpa using e1)
            rw [za,zb,lexV_cons,if_pos rfl,lexV_cons,if_pos rfl]
            rfl
          rw [ee] at q1
          exact kat_nil q1
        · refine kat_one _ _ ?_
          obtain ⟨⟨cls,dd,data,sl⟩,ho,hc,n,hd⟩:=id j1
          obtain ⟨⟨cls2,dd2,data2,sl2⟩,ho2,hc2,n2,hd2⟩:=id j2
          simp only at hc hd hc2 hd2
          subst hc hd hc2 hd2
          refine richCompare_meets_room (op:=.Lt) ⟨_,ho,rfl⟩ ⟨_,ho2,rfl⟩ PySem.F.slot_tuple_lt PySem.F.entry_tuple_lt (PySem.F.args_tuple_lt_2 _ _) (tuple_lt_flat z1.u z2.u _ _ n n2 dd dd2 sl sl2 [.str z1.a,.str z1.b] [.str z2.a,.str z2.b] (.cons ⟨_,rfl⟩ (.cons ⟨_,rfl⟩ .nil)) (.cons ⟨_,rfl⟩ (.cons ⟨_,rfl⟩ .nil)) rfl)
            ⟨ho,ho2,show Value.bool _ ≠ Value.notImplemented ∧ _ from ⟨(fun x=>nomatch x),q1⟩⟩ (by lia)
    · have es:z1.s ≠ z2.s:=fun z=>by rw [z] at e; simp at e
      rw [if_neg (fun z=>es (V.str.inj z))] at q1
      refine kat_one _ _ ?_
      exact kind_lt A s (x:=.str z1.s) (y:=.str z2.s) ⟨_,rfl⟩ ⟨_,rfl⟩ rfl prog w _ _ (q1)
  · have ek:z1.k ≠ z2.k:=fun z=>by rw [z] at e; simp at e
    rw [if_neg (fun z=>ek (V.int.inj z))] at q1
    exact kat_lt_int q1
end
end L2
namespace L2
open PySem PySem.Spec PyProof.Rows PySem.W
theorem ns_one {h:Heap} {a:Addr} {m m':Str → Option Value} (x:h.Ns a m) (y:h.Ns a m'):m' = m:=by
  obtain ⟨o,es,ep,ho,hd,_,hf⟩:=x
  obtain ⟨o',es',ep',ho',hd',_,hf'⟩:=y
  rw [ho] at ho'
  cases ho'
  rw [hd] at hd'
  cases hd'
  exact funext fun z=>(hf' z).symm.trans (hf z)
theorem pair_getD {α β:Type} {F:α → β → Prop} {d:α} {e:β}:∀ {l₁:List α} {l₂:List β} {i:Nat},Paired F l₁ l₂ → i < l₁.length → F (l₁.getD i d) (l₂.getD i e)
  | _,_,_,.nil,h=>absurd h (Nat.not_lt_zero _)
  | _,_,0,.cons r _,_=>r
  | _,_,i + 1,.cons _ t,h=>pair_getD (i:=i) t (Nat.lt_of_succ_lt_succ h)
theorem getD_range {α:Type} (d:α):∀ l:List α,(List.range l.length).map (fun i=>l.getD i d) = l:=by
  intro l
  refine List.ext_getElem (by simp) fun i h1 h2=>?_
  simp [h2]
theorem map_getD {α β:Type} {F:α → β → Prop} {d:α} {e:β} {l₁:List α} {l₂:List β} (h:Paired F l₁ l₂):∀ ps:List Nat,(∀ i ∈ ps,i < l₁.length) → Paired F (ps.map fun i=>l₁.getD i d) (ps.map fun i=>l₂.getD i e)
  | [],_=>.nil
  | i :: r,hr=>.cons (pair_getD h (hr i (by simp))) (map_getD h r fun j hj=>hr j (by simp [hj]))
theorem key_firsts {h:Heap}:∀ {vs:List Value} {zs:List SKey},Paired (KeyH h) vs zs → ∃ fs,KatTups h vs fs ∧ fs.length = vs.length ∧ ∀ v ∈ fs,∃ k c,v = Value.int k c
  | _,_,.nil=>⟨[],.nil,rfl,fun _ hv=>nomatch hv⟩
  | _,_,.cons r t=>by
    obtain ⟨fs,h1,h2,h3⟩:=key_firsts t
    obtain ⟨a,c1,c2,c3,c4,rfl,⟨o,ho,hc,n,hd⟩,_⟩:=r
    refine ⟨_ :: fs,KatTups.cons ho hc hd rfl h1,by simp [h2],fun v hv=>?_⟩
    rcases List.mem_cons.mp hv with z | z
    · exact ⟨_,_,z⟩
    · exact h3 v z
section
variable {X:Cx}
theorem keys_at {pins:List (Addr × Obj)} {σ:St} {H:Hp} {s:Shared} {h':Heap} (I:Inv X pins σ H s) (kp:∀ b o,b ≠ X.env.locals → s.heap.get? b = some o → h'.get? b = some o):∀ {ys:List V} {its:List Value} {zs:List SKey},Vals ys its → Paired (KeyAt H) ys zs → Paired (KeyH h') its zs
  | _,_,_,.nil,.nil=>.nil
  | _,_,_,.cons r rr,.cons k kk=>by
    refine .cons ?_ (keys_at I kp rr kk)
    obtain ⟨t,rfl,ht,hu⟩:=k
    have e:_ = Value.ref t:=r
    have nL:∀ b o,H b = some o → b ≠ X.env.locals:=fun b o q z=>by rw [z,I.free] at q; cases q
    obtain ⟨_,i1,v1,o1,g1,c1,n1,d1⟩:=I.hok t _ ht
    obtain ⟨_,i2,v2,o2,g2,c2,n2,d2⟩:=I.hok _ _ hu
    cases v1 with
    | cons a1 v1 =>
    cases v1 with
    | cons a2 v1 =>
    cases v1 with
    | cons a3 v1 =>
    cases v1
    cases v2 with
    | cons b1 v2 =>
    cases v2 with
    | cons b2 v2 =>
    cases v2
    obtain ⟨x1,rfl⟩:=a1
    obtain ⟨x2,rfl⟩:=a2
    cases (show _ = Value.ref _ from a3)
    obtain ⟨x3,rfl⟩:=b1
    obtain ⟨x4,rfl⟩:=b2
    exact ⟨t,x1,x2,x3,x4,e,⟨o1,kp _ _ (nL _ _ ht) g1,c1,n1,d1⟩,⟨o2,kp _ _ (nL _ _ hu) g2,c2,n2,d2⟩⟩
theorem Inv.sorted {pins:List (Addr × Obj)} {σ:St} {H:Hp} {s:Shared} {h':Heap} {m:Str → Option Value} {D:Addr} {ys:List V} {its:List Value} {c:Nat} (I:Inv X pins σ H s) (hm:s.heap.Ns X.env.locals m) (hm':h'.Ns X.env.locals m)
    (kp:∀ b o,b ≠ X.env.locals → s.heap.get? b = some o → h'.get? b = some o) (nD:s.heap.get? D = none) (hD:h'.get? D = some { cls:=.type "list",data:=.seq its.toArray c }) (r:Vals ys its) (hl:ys.length ≤ sizeLine):Inv X pins σ (upd H D (.lst ys)) { s with heap:=h' }:=by
  have hn:H D = none:=I.hok.off nD
  have ne:∀ b o,s.heap.get? b = some o → b ≠ D:=fun b o e z=>by rw [z,nD] at e; cases e
  refine I.step (g':=s.gens) (d':=s.drawn) (t':=s.toks) (ch:=[]) (fun _ z=>nomatch z) (fun b o hL _ _ e _=>kp b o hL e) (fun b o hL _ _ e _=>⟨o.slots,kp b o hL e⟩) (fun b o _ e n=>by rw [upd_ne (ne b o e)]; exact n) (fun b o _ e=>?_)
    (fun b xs e=>by rw [upd_ne (ne_of_none e hn)]; exact e) (fun b o u e=>by rw [upd_ne (ne_of_none e hn)]; exact e) (fun b ps e=>⟨#[],by rw [upd_ne (ne_of_none e hn),e]; simp⟩) (fun m2 h2=>by rw [ns_one hm h2]; exact hm') (fun b u e=>?_) I.bare
  · by_cases hb:b = X.env.locals
    · rw [hb]
      obtain ⟨o',_,_,ho',_⟩:=hm'
      exact ⟨o',ho'⟩
    · exact ⟨o,kp b o hb e⟩
  · by_cases hb:b = D
    · rw [hb,upd_same] at e
      cases e
      rw [hb]
      exact ⟨hl,its,c,r,hD⟩
    · rw [upd_ne hb] at e
      have tr:∀ c u,H c = some u → c ≠ X.env.locals:=fun c u q z=>by rw [z,I.free] at q; cases q
      refine (I.hok b u e).stay (fun c v hc q=>?_) (fun c q=>by rw [upd_ne (ne_of_none q hn)]; exact q) fun c xs q=>by rw [upd_ne (ne_of_none q hn)]; exact q
      rcases hc with z | z
      · subst z; exact kp c v (tr c u e) q
      · exact kp c v (tr c _ z) q
end
end L2
namespace L2
open PySem PySem.Spec PyProof.Rows PySem.W
theorem out_short (vs:List Value):((vs.toArray.zip vs.toArray).map (·.2)) = vs.toArray:=by
  refine Array.ext (by simp) fun i h1 h2=>?_
  simp
section
variable {prog:Program} {w:World} {A:Around} {E:Value → Shared → Prop} {s:Shared}
theorem sorted_short {l:Addr} {vs:List Value} {Q:Value → Shared → Prop} (hl:s.heap.IsList l vs.toArray) (short:vs.length < 2)
    (h:∀ h' D c,(∀ b o,s.heap.get? b = some o → h'.get? b = some o) → s.heap.get? D = none → h'.get? D = some { cls:=.type "list",data:=.seq vs.toArray c } → Q (.ref D) { s with heap:=h' }) :
    wpAny (model prog w) A (call (.builtin "sorted") [.ref l]) Q E s:=by
  have big:vs.length ≤ sizeLine:=by rw [sizeLine_eq]; lia
  let g1:=(s.heap.push (seqObj "list" #[] 0)).update s.heap.objs.size (Obj.mapSeq (· ++ vs.toArray))
  have z1:g1.objs.size = s.heap.objs.size + 1:=by show ((s.heap.push _).update _ _).objs.size = _; rw [Heap.size_update,size_push']
  let g2:=g1.push (seqObj "list" vs.toArray 0)
  have o2:g2.get? (s.heap.objs.size + 1) = some (seqObj "list" vs.toArray 0):=by rw [← z1]; exact Heap.get?_push_size _ rfl
  have k2:∀ b o,s.heap.get? b = some o → g2.get? b = some o:=fun b o e=>by
    have lt:b < s.heap.objs.size:=Heap.lt_size e
    refine Heap.get?_push_of_some _ ?_
    show ((s.heap.push _).update _ _).get? b = _
    rw [Heap.get?_update_other _ _ (Nat.ne_of_gt lt)]
    exact Heap.get?_push_of_some _ e
  let g3:=g2.update (s.heap.objs.size + 1) (Obj.mapSeq fun _=>(#[]:Array Value))
  obtain ⟨c3,o3⟩:∃ c3,g3.get? (s.heap.objs.size + 1) = some (seqObj "list" #[] c3):=⟨_,get?_update_seq o2 fun _=>#[]⟩
  have k3:∀ b o,s.heap.get? b = some o → g3.get? b = some o:=fun b o e=>by
    have lt:b < s.heap.objs.size:=Heap.lt_size e
    show (g2.update _ _).get? b = _
    rw [Heap.get?_update_other _ _ (Nat.ne_of_gt (Nat.lt_succ_of_lt lt))]
    exact k2 b o e
  let g4:=(g3.push (seqObj "tuple" vs.toArray 0)).push (seqObj "list" #[] 0)
  have o4:g4.get? (s.heap.objs.size + 1) = some (seqObj "list" #[] c3):=Heap.get?_push_of_some _ (Heap.get?_push_of_some _ o3)
  have k4:∀ b o,s.heap.get? b = some o → g4.get? b = some o:=fun b o e=>Heap.get?_push_of_some _ (Heap.get?_push_of_some _ (k3 b o e))
  let g5:=g4.update (s.heap.objs.size + 1) (Obj.mapSeq fun _=>vs.toArray)
  obtain ⟨c5,o5⟩:∃ c5,g5.get? (s.heap.objs.size + 1) = some (seqObj "list" vs.toArray c5):=⟨_,get?_update_seq o4 fun _=>vs.toArray⟩
  have k5:∀ b o,s.heap.get? b = some o → g5.get? b = some o:=fun b o e=>by
    have lt:b < s.heap.objs.size:=Heap.lt_size e
    show (g4.update _ _).get? b = _
    rw [Heap.get?_update_other _ _ (Nat.ne_of_gt (Nat.lt_succ_of_lt lt))]
    exact k4 b o e
  have fin:Q (.ref (s.heap.objs.size + 1)) { s with heap:=g5 }:=h g5 _ c5 k5 (Heap.get?_none_of_le (Nat.le_succ _)) o5
  refine Calls.call_function_entry kind_sorted plain_sorted entry_sorted (args_sorted1 _) (by
    unfold Builtin.«sorted»
    refine wpAny_bind (m:=checkCount "sorted" 1 1 _) (wpAny_pure (wpAny_bind (collect_list hl (wpAny_bind (wpAny_newList ?_ big)) big)))
    show wpAny _ _ _ _ _ { s with heap:=g2 }
    rw [show g1.objs.size = s.heap.objs.size + 1 from z1]
    refine wpAny_bind (wpAny_holding (wpAny_call_entry slot_list_sort ⟨_,o2,rfl⟩ entry_list_sort (by
      rw [list_sort_plain]
      refine wpAny_bind (listItems_at o2 rfl (wpAny_bind (listUpdate_at o2 rfl (wpAny_bind (seqEpoch_at o3 rfl (wpAny_bind (wpAny_newTuple (wpAny_bind (wpAny_newList (wpAny_holding ?_) (Nat.zero_le _))) (by exact big))))) (by rw [List.size_toArray]; lia) (Nat.zero_le _))))
      show wpAny (model prog w) _ _ _ _ { s with heap:=g4 }
      dsimp only
      have sh:vs.toArray.size < 2:=by rw [List.size_toArray]; exact short
      rw [if_pos sh,if_pos sh]
      refine wpAny_bind (wpAny_pure (by
        rw [StateT.run_pure]
        refine wpAny_bind (wpAny_pure (by
          dsimp only
          refine wpAny_bind (seqEpoch_at o4 rfl (wpAny_bind (listUpdate_at o4 rfl ?_ (Nat.zero_le _) (by
            have e:((arrOf (SortSt.mk' general' (vs.toArray.zip vs.toArray) #[] 7 none)).map (·.2)) = vs.toArray:=out_short vs
            first | (rw [e,List.size_toArray]; lia) | (show ((vs.toArray.zip vs.toArray).map (·.2)).size ≤ _; simp; lia)))))
          simp only [if_false,Bool.false_eq_true,bne_self_eq_false]
          refine wpAny_pure ⟨_,rfl,wpAny_pure ⟨_,rfl,?_⟩⟩
          have e:((arrOf (SortSt.mk' general' (vs.toArray.zip vs.toArray) #[] 7 none)).map (·.2)) = vs.toArray:=out_short vs
          show Q (.ref (s.heap.objs.size + 1)) { s with heap:=g4.update (s.heap.objs.size + 1) (Obj.mapSeq fun _=>(arrOf (SortSt.mk' general' (vs.toArray.zip vs.toArray) #[] 7 none)).map (·.2)) }
          rw [e]
          exact fin))))) (args_list_sort _))))
end
section
variable {X:Cx}
end
end L2
namespace L2
open PySem PySem.Spec PyProof.Rows PySem.W
structure Ord (n:Nat) (lt:Nat → Nat → Bool):Prop where
  tr:∀ i j k,i < n → j < n → k < n → lt i j = true → lt j k = true → lt i k = true
  tot:∀ i j,i < n → j < n → i ≠ j → lt i j = false → lt j i = true
def PP (n:Nat) (p:Array Nat):Prop:=p.Perm (List.toArray (List.range n))
def Up (lt:Nat → Nat → Bool) (p:Array Nat) (m:Nat):Prop:=∀ i j,i < j → j < m → lt (p.getD i 0) (p.getD j 0) = true
def Dn (lt:Nat → Nat → Bool) (p:Array Nat) (m:Nat):Prop:=∀ i j,i < j → j < m → lt (p.getD j 0) (p.getD i 0) = true
section
variable {n:Nat} {lt:Nat → Nat → Bool}
theorem PP.toL {p:Array Nat} (h:PP n p):p.toList.Perm (List.range n):=by simpa using Array.perm_iff_toList_perm.mp h
theorem PP.size {p:Array Nat} (h:PP n p):p.size = n:=by
  have:=h.toL.length_eq
  simpa using this
theorem PP.pin {p:Array Nat} (h:PP n p):PIn n p:=fun x hx=>List.mem_range.mp (h.toL.mem_iff.mp hx)
theorem getD_of {p:Array Nat} {i:Nat} (hi:i < p.size):p.getD i 0 = p[i]:=by simp [Array.getD,hi]
theorem getD_opt (p:Array Nat) (i:Nat):p.getD i 0 = (p[i]?).getD 0:=by simp [Array.getD_eq_getD_getElem?]
theorem PP.inj {p:Array Nat} (h:PP n p) {i j:Nat} (hi:i < n) (hj:j < n) (hij:i ≠ j):p.getD i 0 ≠ p.getD j 0:=by
  have hn:p.toList.Nodup:=h.toL.nodup_iff.mpr List.nodup_range
  have hs:=h.size
  rw [getD_of (by lia),getD_of (by lia)]
  intro e
  have e':p.toList[i]'(by simp; lia) = p.toList[j]'(by simp; lia):=by simpa using e
  have hp:=List.pairwise_iff_getElem.mp hn
  rcases Nat.lt_or_ge i j with h1 | h1
  · exact hp i j (by simp; lia) (by simp; lia) h1 e'
  · exact hp j i (by simp; lia) (by simp; lia) (by lia) e'.symm
theorem Up.one (p:Array Nat):Up lt p 1:=fun i j h1 h2=>by lia
theorem Up.succ (o:Ord n lt) {p:Array Nat} (h:PP n p) {m:Nat} (hm:1 ≤ m) (hn:m < n) (u:Up lt p m) (e:lt (p.getD (m - 1) 0) (p.getD m 0) = true):Up lt p (m + 1):=fun i j h1 h2=>by
  have hn0:0 < n:=by lia
  by_cases hj:j < m
  · exact u i j h1 hj
  have hjm:j = m:=by lia
  subst hjm
  by_cases hi:i = j - 1
  · rw [hi]; exact e
  · exact o.tr _ (p.getD (j - 1) 0) _ (h.pin.get hn0 _) (h.pin.get hn0 _) (h.pin.get hn0 _) (u i (j - 1) (by lia) (by lia)) e
theorem Dn.succ (o:Ord n lt) {p:Array Nat} (h:PP n p) {m:Nat} (hm:1 ≤ m) (hn:m < n) (u:Dn lt p m) (e:lt (p.getD m 0) (p.getD (m - 1) 0) = true):Dn lt p (m + 1):=fun i j h1 h2=>by
  have hn0:0 < n:=by lia
  by_cases hj:j < m
  · exact u i j h1 hj
  have hjm:j = m:=by lia
  subst hjm
  by_cases hi:i = j - 1
  · rw [hi]; exact e
  · exact o.tr _ (p.getD (j - 1) 0) _ (h.pin.get hn0 _) (h.pin.get hn0 _) (h.pin.get hn0 _) e (u i (j - 1) (by lia) (by lia))
theorem up_asc (o:Ord n lt) {p:Array Nat} (h:PP n p):∀ f m,1 ≤ m → m + f ≤ n → Up lt p m → KOk n lt (fun r=>m ≤ r ∧ r ≤ m + f ∧ Up lt p r ∧ (r < m + f → lt (p.getD r 0) (p.getD (r - 1) 0) = true)) (kas_asc p f m)
  | 0,m,_,_,u=>⟨Nat.le_refl _,Nat.le_refl _,u,fun z=>absurd z (Nat.lt_irrefl _)⟩
  | f + 1,m,hm,hf,u=>by
    have hn0:0 < n:=by lia
    refine ⟨h.pin.get hn0 _,h.pin.get hn0 _,?_⟩
    dsimp only
    split
    · rename_i c
      exact ⟨Nat.le_refl _,by lia,u,fun _=>c⟩
    · rename_i c
      have e:=o.tot _ _ (h.pin.get hn0 _) (h.pin.get hn0 _) (h.inj (i:=m) (j:=m - 1) (by lia) (by lia) (by lia)) (Bool.eq_false_iff.mpr c)
      refine ok_desc.KOk.mono (up_asc o h f (m + 1) (by lia) (by lia) (u.succ o h hm (by lia) e)) fun r ⟨h1,h2,h3,h4⟩=>⟨by lia,by lia,h3,fun z=>h4 (by lia)⟩
theorem dn_desc (o:Ord n lt) {p:Array Nat} (h:PP n p):∀ f m,1 ≤ m → m + f ≤ n → Dn lt p m → KOk n lt (fun r=>m ≤ r.2.1 ∧ r.2.1 ≤ m + f ∧ r.2.2 = 0 ∧ r.1 = p ∧ Dn lt p r.2.1) (kas_desc f p m 0)
  | 0,m,_,_,u=>⟨Nat.le_refl _,Nat.le_refl _,rfl,rfl,u⟩
  | f + 1,m,hm,hf,u=>by
    have hn0:0 < n:=by lia
    unfold kas_desc
    refine ⟨h.pin.get hn0 _,h.pin.get hn0 _,?_⟩
    dsimp only
    split
    · rename_i c
      rw [if_neg (by lia)]
      refine ok_desc.KOk.mono (dn_desc o h f (m + 1) (by lia) (by lia) (u.succ o h hm (by lia) c)) fun r ⟨h1,h2,h3,h4,h5⟩=>⟨by lia,by lia,h3,h4,h5⟩
    · rename_i c
      have e:=o.tot _ _ (h.pin.get hn0 _) (h.pin.get hn0 _) (h.inj (i:=m) (j:=m - 1) (by lia) (by lia) (by lia)) (Bool.eq_false_iff.mpr c)
      refine ⟨h.pin.get hn0 _,h.pin.get hn0 _,?_⟩
      dsimp only
      rw [if_pos e]
      exact ⟨Nat.le_refl _,Nat.le_add_right _ _,rfl,rfl,u⟩
theorem rev_getD {p:Array Nat} {m:Nat} (hm:m ≤ p.size) (i:Nat):(kas_rev p 0 m).getD i 0 = if i < m then p.getD (m - 1 - i) 0 else p.getD i 0:=by
  rw [getD_opt]
  unfold kas_rev
  rw [getElem?_mirror_all hm]
  by_cases h:i < m
  · rw [if_pos ⟨Nat.zero_le _,h⟩,if_pos h,getD_opt,Nat.zero_add]
  · rw [if_neg (fun z=>h z.2),if_neg h,getD_opt]
theorem PP.rev {p:Array Nat} (h:PP n p) (i j:Nat):PP n (kas_rev p i j):=(rev_perm p i j).trans h
theorem up_tail3 (o:Ord n lt) {p:Array Nat} (h:PP n p) {m:Nat} (hm:1 ≤ m) (hmn:m ≤ n) (d:Dn lt p m):KOk n lt (fun r=>1 ≤ r.1 ∧ r.1 ≤ n ∧ PP n r.2 ∧ Up lt r.2 r.1) (kas_tail3 m n p):=by
  have hs:=h.size
  have u:Up lt (kas_rev p 0 m) m:=fun i j h1 h2=>by
    rw [rev_getD (by lia),rev_getD (by lia),if_pos (by lia),if_pos h2]
    exact d (m - 1 - j) (m - 1 - i) (by lia) (by lia)
  exact KOk.bind (up_asc o (h.rev 0 m) (n - m) m hm (by lia) u) fun r ⟨h1,h2,h3,_⟩=>⟨by show 1 ≤ r; lia,by show r ≤ n; lia,h.rev 0 m,h3⟩
theorem up_count (o:Ord n lt) {p:Array Nat} (h:PP n p) (hn:2 ≤ n):KOk n lt (fun r=>1 ≤ r.1 ∧ r.1 ≤ n ∧ PP n r.2 ∧ Up lt r.2 r.1) (kas_count n p):=by
  have hn0:0 < n:=by lia
  refine KOk.bind (up_asc o h (n - 1) 1 (Nat.le_refl _) (by lia) (Up.one p)) fun m ⟨h1,h2,h3,h4⟩=>?_
  split
  · exact ⟨h1,by show m ≤ n; lia,h,h3⟩
  · rename_i c
    have hmn:m ≠ n:=fun z=>c (by rw [z]; simp)
    split
    · rename_i c2
      refine ⟨h.pin.get hn0 _,h.pin.get hn0 _,?_⟩
      dsimp only
      rw [if_pos (h3 0 (m - 1) (by lia) (by lia))]
      exact ⟨h1,by show m ≤ n; lia,h,h3⟩
    · have hm1:m = 1:=by lia
      subst hm1
      have d2:Dn lt p 2:=fun i j h1 h2=>by
        have hi:i = 0:=by lia
        have hj:j = 1:=by lia
        subst hi hj
        exact h4 (by lia)
      unfold kas_descPart
      refine KOk.bind (dn_desc o h (n - (1 + 1)) (1 + 1) (by lia) (by lia) d2) fun r ⟨g1,g2,g3,g4,g5⟩=>?_
      rw [if_neg (by lia)]
      rw [g4]
      exact up_tail3 o h (by lia) (by lia) g5
theorem up_place (o:Ord n lt) {p:Array Nat} (h:PP n p) {k:Nat} (hk:k < n) (u:Up lt p k):∀ f l r,r - l ≤ f → l ≤ r → r ≤ k → (∀ i,i < l → lt (p.getD i 0) (p.getD k 0) = true) → (∀ i,r ≤ i → i < k → lt (p.getD k 0) (p.getD i 0) = true) →
    KOk n lt (fun l'=>l' ≤ k ∧ (∀ i,i < l' → lt (p.getD i 0) (p.getD k 0) = true) ∧ ∀ i,l' ≤ i → i < k → lt (p.getD k 0) (p.getD i 0) = true) (kas_place p k f l r)
  | 0,l,r,hf,hl,hr,h1,h2=>⟨by lia,h1,fun i a b=>h2 i (by lia) b⟩
  | f + 1,l,r,hf,hl,hr,h1,h2=>by
    have hn0:0 < n:=by lia
    unfold kas_place
    split
    · exact ⟨by lia,h1,fun i a b=>h2 i (by lia) b⟩
    · refine ⟨h.pin.get hn0 _,h.pin.get hn0 _,?_⟩
      dsimp only
      split
      · rename_i c
        refine up_place o h hk u f l ((l + r) / 2) (by lia) (by lia) (by lia) h1 fun i a b=>?_
        by_cases hi:i = (l + r) / 2
        · rw [hi]; exact c
        · exact o.tr _ _ _ (h.pin.get hn0 _) (h.pin.get hn0 _) (h.pin.get hn0 _) c (u ((l + r) / 2) i (by lia) b)
      · rename_i c
        have e:=o.tot _ _ (h.pin.get hn0 _) (h.pin.get hn0 _) (h.inj (i:=k) (j:=(l + r) / 2) hk (by lia) (by lia)) (Bool.eq_false_iff.mpr c)
        refine up_place o h hk u f ((l + r) / 2 + 1) r (by lia) (by lia) hr (fun i a=>?_) h2
        by_cases hi:i = (l + r) / 2
        · rw [hi]; exact e
        · by_cases hi2:i < (l + r) / 2
          · exact o.tr _ _ _ (h.pin.get hn0 _) (h.pin.get hn0 _) (h.pin.get hn0 _) (u i ((l + r) / 2) hi2 (by lia)) e
          · lia
theorem bub_getD {p:Array Nat} {k l:Nat} (hk:k < p.size) (hl:l ≤ k) (i:Nat):(bubble p k (k - l)).getD i 0 = if i = l then p.getD k 0 else if l < i ∧ i ≤ k then p.getD (i - 1) 0 else p.getD i 0:=by
  rw [getD_opt,getElem?_bubble hk _ (by lia)]
  have e:k - (k - l) = l:=by lia
  rw [e]
  by_cases h1:i = l
  · rw [if_pos h1,if_pos h1,getD_opt]
  · rw [if_neg h1,if_neg h1]
    by_cases h2:l < i ∧ i ≤ k
    · rw [if_pos h2,if_pos h2,getD_opt]
    · rw [if_neg h2,if_neg h2,getD_opt]
theorem up_bin (o:Ord n lt):∀ f (p:Array Nat) k,PP n p → k + f = n → Up lt p k → KOk n lt (fun r=>PP n r ∧ Up lt r n) (kas_bin f p k)
  | 0,p,k,h,hf,u=>⟨h,by
    have:k = n:=by lia
    rw [← this]; exact u⟩
  | f + 1,p,k,h,hf,u=>by
    have hs:=h.size
    unfold kas_bin
    refine KOk.bind (up_place o h (k:=k) (by lia) u k 0 k (by lia) (Nat.zero_le _) (Nat.le_refl _) (fun i z=>absurd z (Nat.not_lt_zero _)) (fun i a b=>by lia)) fun l ⟨hl,h1,h2⟩=>?_
    refine up_bin o f _ (k + 1) ((bubble_perm _ _ _).trans h) (by lia) fun i j hij hj=>?_
    rw [bub_getD (by lia) hl,bub_getD (by lia) hl]
    by_cases ei:i = l
    · rw [if_pos ei,if_neg (by lia),if_pos (by lia)]
      exact h2 (j - 1) (by lia) (by lia)
    · rw [if_neg ei]
      by_cases ej:j = l
      · rw [if_pos ej,if_neg (by lia)]
        exact h1 i (by lia)
      · rw [if_neg ej]
        by_cases a:l < i ∧ i ≤ k
        · rw [if_pos a,if_pos (by lia)]
          exact u (i - 1) (j - 1) (by lia) (by lia)
        · rw [if_neg a]
          by_cases b:l < j ∧ j ≤ k
          · rw [if_pos b]
            exact u i (j - 1) (by lia) (by lia)
          · rw [if_neg b]
            exact u i j hij (by lia)
theorem up_sort (o:Ord n lt) (hn:2 ≤ n):KOk n lt (fun r=>PP n r ∧ Up lt r n) (kas_sort n):=by
  have h:PP n (List.toArray (List.range n)):=Array.Perm.refl _
  unfold kas_sort
  refine KOk.bind (up_count o h hn) fun r ⟨h1,h2,h3,h4⟩=>?_
  split
  · have e:max r.1 1 = r.1:=by lia
    rw [e]
    exact up_bin o _ _ _ h3 (by lia) h4
  · rename_i c
    have e:r.1 = n:=by lia
    rw [e] at h4
    exact ⟨h3,h4⟩
end
end L2
namespace L2
open PySem PySem.Spec PyProof.Rows PySem.W
section
variable {X:Cx}
def StrictK (zs:List SKey):Prop:=(∀ a b c,a ∈ zs → b ∈ zs → c ∈ zs → lexV a.flat b.flat = true → lexV b.flat c.flat = true → lexV a.flat c.flat = true) ∧ zs.Pairwise fun a b=>lexV a.flat b.flat = true ∨ lexV b.flat a.flat = true
inductive rSortO (xs:List V) (H:Hp) (Q:VK):Prop
  | mk (p:_) (ys:_) (zs:_) (h1_:xs = [.ref p]) (h2_:H p = some (.lst ys)) (h3_:Paired (KeyAt H) ys zs) (h4_:ys.length < 64) (h5_:StrictK zs) (h6_:∀ l ys' zs',H l = none → zs'.Perm zs → Paired (KeyAt H) ys' zs' → zs'.Pairwise (fun a b=>lexV a.flat b.flat = true) → Q (.ref l) (upd H l (.lst ys'))):rSortO xs H Q
abbrev sk0:SKey:=⟨0,"",0,"",""⟩
theorem sk_mem {zs:List SKey} {i:Nat} (h:i < zs.length):zs.getD i sk0 ∈ zs:=by
  rw [List.getD_eq_getElem?_getD,List.getElem?_eq_getElem h]
  exact List.getElem_mem h
theorem StrictK.ord {zs:List SKey} (h:StrictK zs):Ord zs.length fun i j=>lexV ((zs.getD i sk0).flat) ((zs.getD j sk0).flat) where
  tr:=fun i j k hi hj hk e1 e2=>h.1 _ _ _ (sk_mem hi) (sk_mem hj) (sk_mem hk) e1 e2
  tot:=fun i j hi hj hij e=>by
    have hp:=List.pairwise_iff_getElem.mp h.2
    have gi:zs.getD i sk0 = zs[i]:=by rw [List.getD_eq_getElem?_getD,List.getElem?_eq_getElem hi]; rfl
    have gj:zs.getD j sk0 = zs[j]:=by rw [List.getD_eq_getElem?_getD,List.getElem?_eq_getElem hj]; rfl
    rw [gi,gj] at e ⊢
    rcases Nat.lt_or_ge i j with z | z
    · rcases hp i j hi hj z with y | y
      · rw [e] at y; cases y
      · exact y
    · rcases hp j i hj hi (by lia) with y | y
      · exact y
      · rw [e] at y; cases y
theorem call_sortO (hu:X.A.units + 10 < cLine):CallR X (.builtin "sorted") rSortO:=by
  intro pins s σ H xs us Q I r ⟨p,ys,zs,ex,hp,hk,h64,hst,q⟩
  subst ex
  obtain ⟨u,rfl,ru⟩:=vals1 r
  obtain rfl:u = Value.ref p:=ru
  obtain ⟨z,its,n,rv,he⟩:=I.hok p _ hp
  have hlen:=rv.length
  have hkl:=Paired.length hk
  by_cases h2:2 ≤ ys.length
  · have hil:s.heap.IsList p its.toArray:=⟨_,he,rfl,n,rfl⟩
    obtain ⟨m,F⟩:=I.fr
    refine kat_sorted (h₀:=X.base) (L:=X.env.locals) (m:=m) (news:=allNews X.base s.heap X.env.locals) F news_all hil (by lia) (by lia) fun D e1 h' F' N' hlt=>?_
    have kp:∀ b o,b ≠ X.env.locals → s.heap.get? b = some o → h'.get? b = some o:=fun b o hb e=>by
      cases qb:X.base.get? b with
      | some o' =>
        have:=I.bk b o' qb
        rw [e] at this
        cases this
        exact F'.keep b _ qb
      | none=>exact (N' (b,o) (List.mem_cons_of_mem _ (mem_allNews hb qb e))).1
    have nDL:=(N' _ List.mem_cons_self).2.1
    have nDb:=(N' _ List.mem_cons_self).2.2
    have nD:s.heap.get? D = none:=by
      cases qd:s.heap.get? D with
      | none=>rfl
      | some o=>exact absurd (hlt (D,o) (mem_allNews nDL nDb qd)) (Nat.lt_irrefl _)
    have hK:Paired (KeyH h') its zs:=keys_at I kp rv hk
    have lz:=Paired.length hK
    obtain ⟨fs,k1,k2,k3⟩:=key_firsts hK
    refine kat_kind (fs:=fs) (T:=.type "int") k1 (by lia) (fun v hv=>?_) (by decide) ?_
    · obtain ⟨k,c,rfl⟩:=k3 v hv
      exact Looks.of_pure rfl
    refine KOk.wp (n:=its.length) (lt:=fun i j=>lexV ((zs.getD i sk0).flat) ((zs.getD j sk0).flat)) (P:=fun r=>PP its.length r ∧ Up (fun i j=>lexV ((zs.getD i sk0).flat) ((zs.getD j sk0).flat)) r its.length) (fun i j C hi hj hC=>?_) (fun pm ⟨hpm,hup⟩=>?_) (up_sort (by rw [lz]; exact hst.ord) (by lia))
    · exact key_lt (pair_getD hK hi) (pair_getD hK hj) (by show X.A.units + 1 + 1 + 2 < cLine; lia) hC
    · have pl:pm.toList.Perm (List.range its.length):=hpm.toL
      have hin:∀ i ∈ pm.toList,i < its.length:=fun i hi=>List.mem_range.mp (pl.mem_iff.mp hi)
      have hps:=hpm.size
      refine KasFin.intro F' N' (.head fun q hq z=>?_) fun h2 c F2 N2=>?_
      · exact absurd (hlt q hq) (by rw [z]; exact Nat.lt_irrefl _)
      · have kp2:∀ b o,b ≠ X.env.locals → s.heap.get? b = some o → h2.get? b = some o:=fun b o hb e=>by
          cases qb:X.base.get? b with
          | some o' =>
            have:=I.bk b o' qb
            rw [e] at this
            cases this
            exact F2.keep b _ qb
          | none=>exact (N2 (b,o) (List.mem_cons_of_mem _ (mem_allNews hb qb e))).1
        have pv:(pm.toList.map fun i=>ys.getD i .non).Perm ys:=by
          have:=pl.map (fun i=>ys.getD i V.non)
          rw [← hlen,getD_range] at this
          exact this
        have pz:(pm.toList.map fun i=>zs.getD i sk0).Perm zs:=by
          have:=pl.map (fun i=>zs.getD i sk0)
          rw [lz,getD_range] at this
          exact this
        have hpr:(pm.toList.map fun i=>zs.getD i sk0).Pairwise (fun a b=>lexV a.flat b.flat = true):=by
          rw [List.pairwise_iff_getElem]
          intro i j hi hj hij
          rw [List.length_map,Array.length_toList] at hi hj
          have:=hup i j hij (by lia)
          rw [getD_of hi,getD_of hj] at this
          simpa using this
        show EP X pins σ Q (.ref D) { s with heap:=h2 }
        refine ⟨.ref D,_,I.sorted (h':=h2) (ys:=pm.toList.map fun i=>ys.getD i .non) (its:=pm.toList.map fun i=>its.getD i .none) (c:=c) F.ns F2.ns kp2 nD (N2 _ List.mem_cons_self).1 (map_getD rv _ fun i hi=>by have:=hin i hi; lia) (by rw [pv.length_eq]; exact z),rfl,
          q D _ _ (I.hok.off nD) pz (map_getD hk _ fun i hi=>by have:=hin i hi; lia) hpr⟩
  · obtain ⟨m,hm,_⟩:=id I.loc
    refine sorted_short (vs:=its) ⟨_,he,rfl,n,rfl⟩ (by lia) fun h' D c kp nD hD=>?_
    refine ⟨.ref D,_,I.sorted hm (hm.keeps kp) (fun b o _ e=>kp b o e) nD hD rv z,rfl,q D ys zs (I.hok.off nD) (List.Perm.refl _) hk ?_⟩
    match zs,hkl with
    | [],_=>exact .nil
    | [_],_=>exact List.pairwise_singleton _ _
    | _ :: _ :: _,hkl=>simp at hkl; lia
end
end L2
seal L2.PSs L2.PS L2.PE L2.PT L2.PA L2.PK L2.PG L2.PGs L2.PI L2.PF L2.PEx L2.PSx
namespace L2
open PySem PySem.Spec PyProof.Rows
section
variable {P:Program} {w:World} {K:PySem.W.Frag} {mg:Str → Option Value} {base:Heap}
end
end L2
namespace Sg
abbrev Wd:=List Nat
abbrev Rl:=Wd × Wd
def atP (w l:Wd) (p:Nat):Bool:=(w.drop p).take l.length == l
theorem atP_iff {w l:Wd} {p:Nat}:atP w l p = true ↔ (w.drop p).take l.length = l:=by simp [atP]
theorem atP_len {w l:Wd} {p:Nat} (h:atP w l p = true) (hl:l ≠ []):p + l.length ≤ w.length:=by
  have h':=congrArg List.length (atP_iff.mp h)
  rw [List.length_take,List.length_drop] at h'
  have:0 < l.length:=List.length_pos_iff.mpr hl
  lia
def bef (a b:Wd):Bool:=if a.length = b.length then decide (a < b) else decide (a.length < b.length)
def numsAt (rs:List Rl) (w:Wd) (p:Nat):List Nat:=(List.range rs.length).filter fun i=>atP w (rs.getD i ([],[])).1 p
def firstF (rs:List Rl) (w:Wd):Nat → Nat → Option (Nat × Nat)
  | 0,_=>none
  | k + 1,s=>match (numsAt rs w s).head? with
    | some i=>some (s,i)
    | none=>firstF rs w k (s + 1)
def first (rs:List Rl) (w:Wd):Option (Nat × Nat):=firstF rs w w.length 0
def app (rs:List Rl) (w:Wd) (p i:Nat):Wd:=w.take p ++ (rs.getD i ([],[])).2 ++ w.drop (p + (rs.getD i ([],[])).1.length)
theorem numsAt_mem {rs:List Rl} {w:Wd} {p i:Nat}:i ∈ numsAt rs w p ↔ i < rs.length ∧ atP w (rs.getD i ([],[])).1 p = true:=by
  unfold numsAt
  rw [List.mem_filter,List.mem_range]
theorem firstF_none {rs:List Rl} {w:Wd}:∀ {k s:Nat},firstF rs w k s = none ↔ ∀ q,s ≤ q → q < s + k → numsAt rs w q = []:=by
  intro k
  induction k with
  | zero=>intro s; simp [firstF]; intro q h1 h2; lia
  | succ k ih =>
    intro s
    unfold firstF
    cases e:(numsAt rs w s).head? with
    | some i =>
      simp only [reduceCtorEq,false_iff]
      intro h
      rw [h s (Nat.le_refl _) (by lia)] at e
      cases e
    | none =>
      have e':numsAt rs w s = []:=List.head?_eq_none_iff.mp e
      simp only
      rw [ih]
      constructor
      · intro h q h1 h2
        by_cases hq:q = s
        · rw [hq]; exact e'
        · exact h q (by lia) (by lia)
      · intro h q h1 h2
        exact h q (by lia) (by lia)
theorem firstF_some {rs:List Rl} {w:Wd}:∀ {k s p i:Nat},firstF rs w k s = some (p,i) → s ≤ p ∧ p < s + k ∧ (numsAt rs w p).head? = some i ∧ ∀ q,s ≤ q → q < p → numsAt rs w q = []:=by
  intro k
  induction k with
  | zero=>intro s p i h; cases h
  | succ k ih =>
    intro s p i h
    unfold firstF at h
    cases e:(numsAt rs w s).head? with
    | some j =>
      rw [e] at h
      cases h
      exact ⟨Nat.le_refl _,by lia,e,fun q h1 h2=>by lia⟩
    | none =>
      rw [e] at h
      obtain ⟨h1,h2,h3,h4⟩:=ih h
      refine ⟨by lia,by lia,h3,fun q g1 g2=>?_⟩
      by_cases hq:q = s
      · rw [hq]; exact List.head?_eq_none_iff.mp e
      · exact h4 q (by lia) g2
theorem firstF_skip {rs:List Rl} {w:Wd}:∀ {d k s:Nat},(∀ q,s ≤ q → q < s + d → numsAt rs w q = []) → firstF rs w (d + k) s = firstF rs w k (s + d):=by
  intro d
  induction d with
  | zero=>intro k s _; simp
  | succ d ih =>
    intro k s h
    have e:d + 1 + k = (d + k) + 1:=by lia
    rw [e,firstF,h s (Nat.le_refl _) (by lia)]
    show firstF rs w (d + k) (s + 1) = _
    rw [ih (fun q h1 h2=>h q (by lia) (by lia))]
    congr 1
    lia
inductive Down (rs:List Rl):Wd → Wd → List (Nat × Nat) → Prop
  | done {w}:first rs w = none → Down rs w w []
  | step {w p i f ss}:first rs w = some (p,i) → Down rs (app rs w p i) f ss → Down rs w f ((p,i) :: ss)
theorem Down.det {rs:List Rl} {w f:Wd} {ss:List (Nat × Nat)} (h:Down rs w f ss):∀ {f' ss'},Down rs w f' ss' → f' = f ∧ ss' = ss:=by
  induction h with
  | done e =>
    intro f' ss' h'
    cases h' with
    | done _=>exact ⟨rfl,rfl⟩
    | step e' _=>rw [e] at e'; cases e'
  | step e _ ih =>
    intro f' ss' h'
    cases h' with
    | done e'=>rw [e] at e'; cases e'
    | step e' h2 =>
      rw [e] at e'
      cases e'
      obtain ⟨h3,h4⟩:=ih h2
      exact ⟨h3,by rw [h4]⟩
def dig (al:Wd) (c:Nat):Nat:=al.idxOf c + 1
def rank (al:Wd) (w:Wd):Nat:=w.foldl (fun a c=>a * al.length + dig al c) 0
def Over (al w:Wd):Prop:=∀ c ∈ w,c ∈ al
def geo (b:Nat):Nat → Nat
  | 0=>0
  | n + 1=>geo b n * b + 1
theorem geo_pow (b:Nat):∀ n,geo b n * b + 1 = geo b n + b ^ n
  | 0=>by simp [geo]
  | n + 1=>by
    have ih:=geo_pow b n
    show (geo b n * b + 1) * b + 1 = (geo b n * b + 1) + b ^ (n + 1)
    rw [ih,Nat.add_mul,Nat.pow_succ]
    lia
theorem rank_app (al a b:Wd):rank al (a ++ b) = rank al a * al.length ^ b.length + rank al b:=by
  unfold rank
  rw [List.foldl_append]
  generalize a.foldl (fun a c=>a * al.length + dig al c) 0 = n
  have key:∀ (b:Wd) (n m:Nat),b.foldl (fun a c=>a * al.length + dig al c) (n + m) = n * al.length ^ b.length + b.foldl (fun a c=>a * al.length + dig al c) m:=by
    intro b
    induction b with
    | nil=>intro n m; simp
    | cons c b ih =>
      intro n m
      rw [List.foldl_cons,List.foldl_cons]
      have e:(n + m) * al.length + dig al c = n * al.length + (m * al.length + dig al c):=by rw [Nat.add_mul]; lia
      rw [e,ih,List.length_cons,Nat.pow_succ,Nat.mul_assoc,Nat.mul_comm al.length]
  have:=key b n 0
  simpa using this
theorem rank_cons (al:Wd) (c:Nat) (w:Wd):rank al (c :: w) = dig al c * al.length ^ w.length + rank al w:=by
  have h:=rank_app al [c] w
  have e:rank al [c] = dig al c:=by simp [rank]
  rw [e] at h
  exact h
theorem dig_le {al:Wd} {c:Nat} (h:c ∈ al):1 ≤ dig al c ∧ dig al c ≤ al.length:=by
  have:=List.idxOf_lt_length_iff.mpr h
  unfold dig
  lia
theorem rank_le {al:Wd}:∀ {w:Wd},Over al w → geo al.length w.length ≤ rank al w ∧ rank al w ≤ geo al.length w.length * al.length:=by
  intro w
  induction w with
  | nil=>intro _; simp [rank,geo]
  | cons c w ih =>
    intro h
    obtain ⟨h1,h2⟩:=ih fun x hx=>h x (List.mem_cons_of_mem _ hx)
    obtain ⟨d1,d2⟩:=dig_le (h c List.mem_cons_self)
    have g:=geo_pow al.length w.length
    rw [rank_cons,List.length_cons]
    show geo al.length w.length * al.length + 1 ≤ _ ∧ _ ≤ (geo al.length w.length * al.length + 1) * al.length
    have e1:1 * al.length ^ w.length ≤ dig al c * al.length ^ w.length:=Nat.mul_le_mul_right _ d1
    have e2:dig al c * al.length ^ w.length ≤ al.length * al.length ^ w.length:=Nat.mul_le_mul_right _ d2
    constructor
    · lia
    · rw [g,Nat.add_mul,Nat.mul_comm (al.length ^ w.length)]
      lia
theorem rank_short {al a b:Wd} (ha:Over al a) (hb:Over al b) (h:a.length < b.length):rank al a < rank al b:=by
  have h1:=(rank_le ha).2
  have h2:=(rank_le hb).1
  have mono:∀ d n,geo al.length (n + 1) ≤ geo al.length (n + 1 + d):=by
    intro d
    induction d with
    | zero=>intro n; exact Nat.le_refl _
    | succ d ih =>
      intro n
      refine Nat.le_trans (ih n) ?_
      have hg:=geo_pow al.length (n + 1 + d)
      show _ ≤ geo al.length (n + 1 + d) * al.length + 1
      lia
  have h3:=mono (b.length - (a.length + 1)) a.length
  have e:a.length + 1 + (b.length - (a.length + 1)) = b.length:=by lia
  rw [e] at h3
  have h4:geo al.length (a.length + 1) = geo al.length a.length * al.length + 1:=rfl
  lia
def Inc (al:Wd):Prop:=al.Pairwise (· < ·)
theorem idx_ne {x z:Nat} {al:Wd} (h:¬ z = x):(z :: al).idxOf x = al.idxOf x + 1:=by
  rw [List.idxOf_cons]
  have:(z == x) = false:=by simpa using h
  rw [this]
  rfl
theorem idx_lt:∀ {al:Wd},Inc al → ∀ {x y:Nat},x ∈ al → y ∈ al → x < y → al.idxOf x < al.idxOf y:=by
  intro al
  induction al with
  | nil=>intro _ x y hx; simp at hx
  | cons z al ih =>
    intro hi x y hx hy hxy
    obtain ⟨h1,h2⟩:=List.pairwise_cons.mp hi
    by_cases ex:x = z
    · subst ex
      have ey:¬ x = y:=by lia
      rw [List.idxOf_cons_self,idx_ne ey]
      lia
    · have hx':x ∈ al:=(List.mem_cons.mp hx).resolve_left ex
      have hzx:=h1 x hx'
      have ey:¬ y = z:=by lia
      have hy':y ∈ al:=(List.mem_cons.mp hy).resolve_left ey
      have:=ih h2 hx' hy' hxy
      rw [idx_ne (fun e=>ex e.symm),idx_ne (fun e=>ey e.symm)]
      lia
theorem rank_lex {al:Wd} (hi:Inc al):∀ {a b:Wd},Over al a → Over al b → a.length = b.length → a < b → rank al a < rank al b:=by
  intro a
  induction a with
  | nil=>intro b _ _ hl h; cases b with
    | nil=>exact absurd h (List.lt_irrefl _)
    | cons _ _=>simp at hl
  | cons x a ih =>
    intro b ha hb hl h
    cases b with
    | nil=>simp at hl
    | cons y b =>
      have hl':a.length = b.length:=by simpa using hl
      have ha':Over al a:=fun c hc=>ha c (List.mem_cons_of_mem _ hc)
      have hb':Over al b:=fun c hc=>hb c (List.mem_cons_of_mem _ hc)
      rw [rank_cons,rank_cons,hl']
      rcases List.cons_lt_cons_iff.mp h with h | ⟨h,h'⟩
      · have h1:=(rank_le ha').2
        have h2:=(rank_le hb').1
        rw [hl'] at h1
        have g:=geo_pow al.length b.length
        have hd:dig al x + 1 ≤ dig al y:=by
          have:=idx_lt hi (ha x List.mem_cons_self) (hb y List.mem_cons_self) h
          unfold dig
          lia
        have h3:(dig al x + 1) * al.length ^ b.length ≤ dig al y * al.length ^ b.length:=Nat.mul_le_mul_right _ hd
        rw [Nat.add_mul] at h3
        lia
      · subst h
        have:=ih ha' hb' hl' h'
        lia
theorem rank_bef {al:Wd} (hi:Inc al) {a b:Wd} (ha:Over al a) (hb:Over al b) (h:bef a b = true):rank al a < rank al b:=by
  unfold bef at h
  split at h
  · rename_i hl
    exact rank_lex hi ha hb hl (by simpa using h)
  · exact rank_short ha hb (by simpa using h)
structure Good (rs:List Rl) (al:Wd) (n:Nat):Prop where
  inc:Inc al
  bf:∀ r ∈ rs,bef r.2 r.1 = true
  sm:∀ r ∈ rs,Over al r.1 ∧ Over al r.2
  ln:∀ r ∈ rs,r.1.length ≤ n
theorem bef_nil (a:Wd):bef a [] = false:=by
  unfold bef
  cases a with
  | nil=>simp
  | cons c a=>simp
theorem Good.ne {rs:List Rl} {al:Wd} {n:Nat} (g:Good rs al n) {r:Rl} (h:r ∈ rs):r.1 ≠ []:=fun e=>by
  have:=g.bf r h
  rw [e,bef_nil] at this
  cases this
theorem bef_len {a b:Wd} (h:bef a b = true):a.length ≤ b.length:=by
  unfold bef at h
  split at h
  · lia
  · have:a.length < b.length:=by simpa using h
    lia
theorem getD_mem {rs:List Rl} {i:Nat} (h:i < rs.length):rs.getD i ([],[]) ∈ rs:=by
  rw [List.getD_eq_getElem?_getD,List.getElem?_eq_getElem h]
  exact List.getElem_mem h
theorem split_at {w l:Wd} {p:Nat} (h:atP w l p = true) (hp:p + l.length ≤ w.length):w = w.take p ++ l ++ w.drop (p + l.length):=by
  have h1:=atP_iff.mp h
  have h2:w.drop p = l ++ w.drop (p + l.length):=by
    have:=List.take_append_drop l.length (w.drop p)
    rw [h1,List.drop_drop] at this
    exact this.symm
  rw [List.append_assoc,← h2,List.take_append_drop]
theorem first_at {rs:List Rl} {al:Wd} {n:Nat} (g:Good rs al n) {w:Wd} {p i:Nat} (h:first rs w = some (p,i)) :
    p < w.length ∧ i < rs.length ∧ atP w (rs.getD i ([],[])).1 p = true ∧ p + (rs.getD i ([],[])).1.length ≤ w.length ∧ ∀ q,q < p → numsAt rs w q = []:=by
  obtain ⟨_,h2,h3,h4⟩:=firstF_some h
  have hm:=numsAt_mem.mp (List.mem_of_mem_head? h3)
  exact ⟨by lia,hm.1,hm.2,atP_len hm.2 (g.ne (getD_mem hm.1)),fun q hq=>h4 q (Nat.zero_le _) hq⟩
theorem app_small {rs:List Rl} {al:Wd} {n:Nat} (g:Good rs al n) {w:Wd} {p i:Nat} (hw:Over al w) (hi:i < rs.length):Over al (app rs w p i):=by
  intro c hc
  unfold app at hc
  rcases List.mem_append.mp hc with hc | hc
  · rcases List.mem_append.mp hc with hc | hc
    · exact hw c (List.mem_of_mem_take hc)
    · exact (g.sm _ (getD_mem hi)).2 c hc
  · exact hw c (List.mem_of_mem_drop hc)
theorem app_len {rs:List Rl} {al:Wd} {n:Nat} (g:Good rs al n) {w:Wd} {p i:Nat} (hi:i < rs.length) (hp:p + (rs.getD i ([],[])).1.length ≤ w.length):(app rs w p i).length ≤ w.length:=by
  have h:=bef_len (g.bf _ (getD_mem hi))
  unfold app
  rw [List.length_append,List.length_append,List.length_take,List.length_drop]
  lia
theorem bef_ctx {a b u v:Wd} (h:bef a b = true):bef (u ++ a ++ v) (u ++ b ++ v) = true:=by
  unfold bef at h ⊢
  simp only [List.length_append]
  by_cases hl:a.length = b.length
  · rw [if_pos hl] at h
    rw [if_pos (by lia)]
    have h:a < b:=by simpa using h
    have key:∀ (a b:Wd),a.length = b.length → a < b → a ++ v < b ++ v:=by
      intro a
      induction a with
      | nil=>intro b hl h; cases b with
        | nil=>exact absurd h (List.lt_irrefl _)
        | cons _ _=>simp at hl
      | cons x a ih =>
        intro b hl h
        cases b with
        | nil=>simp at hl
        | cons y b =>
          rw [List.cons_append,List.cons_append,List.cons_lt_cons_iff]
          rcases List.cons_lt_cons_iff.mp h with h | ⟨h,h'⟩
          · exact .inl h
          · exact .inr ⟨h,ih b (by simpa using hl) h'⟩
    have key2:∀ (u:Wd) (a b:Wd),a < b → u ++ a < u ++ b:=by
      intro u
      induction u with
      | nil=>intro a b h; exact h
      | cons x u ih =>
        intro a b h
        rw [List.cons_append,List.cons_append,List.cons_lt_cons_iff]
        exact .inr ⟨rfl,ih a b h⟩
    rw [List.append_assoc,List.append_assoc]
    simpa using key2 u _ _ (key a b hl h)
  · rw [if_neg hl] at h
    rw [if_neg (by lia)]
    have h:a.length < b.length:=by simpa using h
    simpa using (by lia:u.length + a.length + v.length < u.length + b.length + v.length)
theorem app_bef {rs:List Rl} {al:Wd} {n:Nat} (g:Good rs al n) {w:Wd} {p i:Nat} (hi:i < rs.length) (ha:atP w (rs.getD i ([],[])).1 p = true) (hp:p + (rs.getD i ([],[])).1.length ≤ w.length):bef (app rs w p i) w = true:=by
  have e:=split_at ha hp
  have h:=bef_ctx (u:=w.take p) (v:=w.drop (p + (rs.getD i ([],[])).1.length)) (g.bf _ (getD_mem hi))
  rw [← e] at h
  exact h
theorem app_rank {rs:List Rl} {al:Wd} {n:Nat} (g:Good rs al n) {w:Wd} {p i:Nat} (hw:Over al w) (h:first rs w = some (p,i)):rank al (app rs w p i) < rank al w:=by
  obtain ⟨_,hi,ha,hp,_⟩:=first_at g h
  exact rank_bef g.inc (app_small g hw hi) hw (app_bef g hi ha hp)
theorem none_ahead {rs:List Rl} {al:Wd} {n:Nat} (g:Good rs al n) {w:Wd} {p i:Nat} (h:first rs w = some (p,i)):∀ q,q + n ≤ p → numsAt rs (app rs w p i) q = []:=by
  obtain ⟨hpl,hi,ha,hp,hq⟩:=first_at g h
  intro q hqn
  by_cases hqp:q < p
  · rw [List.eq_nil_iff_forall_not_mem]
    intro j hj
    obtain ⟨hj1,hj2⟩:=numsAt_mem.mp hj
    have hl:=g.ln _ (getD_mem hj1)
    have:j ∈ numsAt rs w q:=by
      refine numsAt_mem.mpr ⟨hj1,atP_iff.mpr ?_⟩
      have h1:=atP_iff.mp hj2
      have e:((app rs w p i).drop q).take (rs.getD j ([],[])).1.length = (w.drop q).take (rs.getD j ([],[])).1.length:=by
        unfold app
        rw [List.append_assoc,List.drop_append_of_le_length (by rw [List.length_take]; lia),List.take_append_of_le_length (by rw [List.length_drop,List.length_take]; lia),List.drop_take,List.take_take]
        congr 1
        lia
      rw [← e]
      exact h1
    rw [hq q hqp] at this
    simp at this
  · have hn:n = 0:=by lia
    have:=g.ln _ (getD_mem hi)
    have h0:(rs.getD i ([],[])).1 = []:=List.length_eq_zero_iff.mp (by lia)
    exact absurd h0 (g.ne (getD_mem hi))
end Sg
namespace Sg
open PySem L2
abbrev tx (w:Wd):V:=.str (Sx w)
inductive RlAt (H:Hp) (v:V) (r:Rl):Prop
  | mk (p:_) (h1_:v = .ref p) (h2_:H p = some (.tup [tx r.1,tx r.2])):RlAt H v r
inductive StAt (H:Hp) (v:V) (s:Nat × Nat):Prop
  | mk (p:_) (h1_:v = .ref p) (h2_:H p = some (.tup [.int s.1,.int s.2])):StAt H v s
inductive RsAt (H:Hp) (a:Addr) (rs:List Rl):Prop
  | mk (vs:_) (h1_:H a = some (.lst vs)) (h2_:Paired (RlAt H) vs rs):RsAt H a rs
inductive SsAt (H:Hp) (a:Addr) (ss:List (Nat × Nat)):Prop
  | mk (vs:_) (h1_:H a = some (.lst vs)) (h2_:Paired (StAt H) vs ss):SsAt H a ss
def Tups (H H':Hp):Prop:=∀ p xs,H p = some (.tup xs) → H' p = some (.tup xs)
theorem tups_of {H H':Hp} (s:Same H H'):Tups H H':=fun p xs h=>s p _ h
theorem Tups.trans {H H1 H2:Hp} (a:Tups H H1) (b:Tups H1 H2):Tups H H2:=fun p xs h=>b p xs (a p xs h)
theorem tups_own {H:Hp} {l:Addr} {xs ys:List V} (h:H l = some (.lst xs)):Tups H (upd H l (.lst ys)):=fun p zs q=>by
  rw [upd_ne (fun e=>by rw [e,h] at q; cases q)]
  exact q
theorem pairImp {α β:Type} {F G:α → β → Prop}:∀ {l₁:List α} {l₂:List β},Paired F l₁ l₂ → (∀ a b,F a b → G a b) → Paired G l₁ l₂
  | _,_,.nil,_=>.nil
  | _,_,.cons r t,f=>.cons (f _ _ r) (pairImp t f)
theorem RlAt.mono {H H':Hp} (s:Tups H H') {v:V} {r:Rl} (h:RlAt H v r):RlAt H' v r:=let ⟨p,e,q⟩:=h; ⟨p,e,s p _ q⟩
theorem StAt.mono {H H':Hp} (s:Tups H H') {v:V} {r:Nat × Nat} (h:StAt H v r):StAt H' v r:=let ⟨p,e,q⟩:=h; ⟨p,e,s p _ q⟩
theorem RsAt.mono {H H':Hp} (s:Same H H') {a:Addr} {rs:List Rl} (h:RsAt H a rs):RsAt H' a rs:=let ⟨vs,e,q⟩:=h; ⟨vs,s _ _ e,pairImp q fun _ _ z=>z.mono (tups_of s)⟩
theorem SsAt.mono {H H':Hp} (s:Same H H') {a:Addr} {rs:List (Nat × Nat)} (h:SsAt H a rs):SsAt H' a rs:=let ⟨vs,e,q⟩:=h; ⟨vs,s _ _ e,pairImp q fun _ _ z=>z.mono (tups_of s)⟩
theorem pairGetL {α β:Type} {F:α → β → Prop}:∀ {l₁:List α} {l₂:List β} {i:Nat} {a:α},Paired F l₁ l₂ → l₁[i]? = some a → ∃ b,l₂[i]? = some b ∧ F a b
  | _,_,_,_,.nil,e=>by simp at e
  | _,_,0,_,.cons r _,e=>by simp at e; subst e; exact ⟨_,rfl,r⟩
  | _,_,i + 1,x,.cons _ t,e=>by
    obtain ⟨u,h1,h2⟩:=pairGetL (i:=i) (a:=x) t (by simpa using e)
    exact ⟨u,by simpa using h1,h2⟩
theorem pairGetR {α β:Type} {F:α → β → Prop}:∀ {l₁:List α} {l₂:List β} {i:Nat} {b:β},Paired F l₁ l₂ → l₂[i]? = some b → ∃ a,l₁[i]? = some a ∧ F a b
  | _,_,_,_,.nil,e=>by simp at e
  | _,_,0,_,.cons r _,e=>by simp at e; subst e; exact ⟨_,rfl,r⟩
  | _,_,i + 1,x,.cons _ t,e=>by
    obtain ⟨u,h1,h2⟩:=pairGetR (i:=i) (b:=x) t (by simpa using e)
    exact ⟨u,by simpa using h1,h2⟩
theorem pairLen {α β:Type} {F:α → β → Prop} {l₁:List α} {l₂:List β} (h:Paired F l₁ l₂):l₁.length = l₂.length:=Paired.length h
theorem pairApp {α β:Type} {F:α → β → Prop}:∀ {a₁ b₁:List α} {a₂ b₂:List β},Paired F a₁ a₂ → Paired F b₁ b₂ → Paired F (a₁ ++ b₁) (a₂ ++ b₂)
  | _,_,_,_,.nil,s=>s
  | _,_,_,_,.cons r t,s=>.cons r (pairApp t s)
theorem szl {n:Nat} (h:n ≤ 1000):n ≤ sizeLine:=Nat.le_of_lt (small1000 h)
theorem getD_some {α:Type} {xs:List α} {i:Nat} {d:α} (h:i < xs.length):xs[i]? = some (xs.getD i d):=by
  rw [List.getD_eq_getElem?_getD,List.getElem?_eq_getElem h]
  rfl
theorem RsAt.get {H:Hp} {a:Addr} {rs:List Rl} (h:RsAt H a rs) {i:Nat} (hi:i < rs.length):∃ vs p,H a = some (.lst vs) ∧ vs.length = rs.length ∧ vs[i]? = some (.ref p) ∧ H p = some (.tup [tx (rs.getD i ([],[])).1,tx (rs.getD i ([],[])).2]):=by
  obtain ⟨vs,e,q⟩:=h
  obtain ⟨v,h1,p,h2,h3⟩:=pairGetR q (getD_some (d:=([],[])) hi)
  subst h2
  exact ⟨vs,p,e,(pairLen q),h1,h3⟩
def FsAt (H:Hp) (v:V):Option (Nat × Nat) → Prop
  | none=>v = .non
  | some s=>StAt H v s
inductive spBef (vs:List V) (H:Hp) (Q:VK) (E_:XK):Prop
  | mk (a:_) (b:_) (h1_:vs = [tx a,tx b]) (h2_:a.length ≤ 1000) (h3_:b.length ≤ 1000) (h4_:∀ H',Same H H' → Q (.bl (bef a b)) H'):spBef vs H Q E_
inductive spNums (vs:List V) (H:Hp) (Q:VK) (E_:XK):Prop
  | mk (a:_) (rs:_) (al:_) (n:_) (w:_) (p:_) (h1_:vs = [.ref a,tx w,.int ((p:Nat):Int)]) (h2_:RsAt H a rs) (h3_:Good rs al n) (h4_:rs.length ≤ 500) (h5_:∀ r H',Same H H' → H' r = some (.lst ((numsAt rs w p).map fun (i:Nat)=>V.int (i:Int))) → Q (.ref r) H'):spNums vs H Q E_
inductive spFirst (vs:List V) (H:Hp) (Q:VK) (E_:XK):Prop
  | mk (a:_) (rs:_) (al:_) (n:_) (w:_) (s:_) (h1_:vs = [.ref a,tx w,.int ((s:Nat):Int)]) (h2_:RsAt H a rs) (h3_:Good rs al n) (h4_:rs.length ≤ 500) (h5_:w.length ≤ 1000) (h6_:s ≤ 1000) (h7_:∀ v H',Same H H' → FsAt H' v (firstF rs w (w.length - s) s) → Q v H'):spFirst vs H Q E_
inductive spStep (vs:List V) (H:Hp) (Q:VK) (E_:XK):Prop
  | mk (a:_) (rs:_) (w:_) (p:_) (i:_) (h1_:vs = [.ref a,tx w,.int ((p:Nat):Int),.int ((i:Nat):Int)]) (h2_:RsAt H a rs) (h3_:i < rs.length) (h4_:p < w.length) (h5_:atP w (rs.getD i ([],[])).1 p = true) (h6_:p + (rs.getD i ([],[])).1.length ≤ w.length) (h7_:w.length ≤ 1000) (h8_:(rs.getD i ([],[])).2.length ≤ 1000) (h9_:∀ H',Same H H' → Q (tx (app rs w p i)) H'):spStep vs H Q E_
inductive spDown (vs:List V) (H:Hp) (Q:VK) (E_:XK):Prop
  | mk (a:_) (rs:_) (al:_) (n:_) (w:_) (h1_:vs = [.ref a,tx w]) (h2_:RsAt H a rs) (h3_:Good rs al n) (h4_:n ≤ 900) (h5_:rs.length ≤ 500) (h6_:Over al w) (h7_:w.length ≤ 900) (h8_:rank al w ≤ 4000000) (h9_:∀ t l f ss H',Same H H' → H' t = some (.tup [tx f,.ref l]) → SsAt H' l ss → Down rs w f ss → f.length ≤ w.length → Q (.ref t) H'):spDown vs H Q E_
end Sg
namespace Sg
open PySem L2
theorem lexV_bef (a b:Wd):lexV [.int (a.length:Int),tx a] [.int (b.length:Int),tx b] = bef a b:=by
  unfold bef
  rw [lexV_cons]
  by_cases h:a.length = b.length
  · rw [if_pos h,h,if_pos rfl,lexV_cons]
    by_cases e:a = b
    · subst e
      rw [if_pos rfl]
      show false = _
      exact (decide_eq_false (List.lt_irrefl _)).symm
    · rw [if_neg (fun z=>e (Sx_inj (V.str.inj z)))]
      show decide ((Sx a).cps.toList < (Sx b).cps.toList) = _
      rw [Sx_cps,Sx_cps]
  · rw [if_neg h,if_neg (fun z=>h (by have:=V.int.inj z; lia))]
    show decide ((a.length:Int) < (b.length:Int)) = _
    rw [Bool.eq_iff_iff,decide_eq_true_iff,decide_eq_true_iff]
    lia
theorem firstF_mk {rs:List Rl} {w:Wd} {k s i j:Nat} (h:∀ q,s ≤ q → q < s + i → numsAt rs w q = []) (hi:i < k) (e:(numsAt rs w (s + i)).head? = some j):firstF rs w k s = some (s + i,j):=by
  have hk:k = i + ((k - i - 1) + 1):=by lia
  rw [hk,firstF_skip h,firstF,e]
theorem cutW_at {w:Wd} {p k:Nat} (hp:p ≤ w.length):cutW w (some (p:Int)) (some ((p:Int) + (k:Int))) = (w.drop p).take k:=by
  have e:(p:Int) + (k:Int) = ((p + k:Nat):Int):=rfl
  unfold cutW
  rw [e,HT.sIx_nat,HT.sIx_nat,Nat.min_eq_left hp]
  by_cases h:p + k ≤ w.length
  · rw [Nat.min_eq_left h,Nat.add_sub_cancel_left]
  · rw [Nat.min_eq_right (by lia),List.take_of_length_le (by rw [List.length_drop]; lia),List.take_of_length_le (by rw [List.length_drop]; lia)]
theorem cutW_to {w:Wd} {p:Nat}:cutW w none (some (p:Int)) = w.take p:=by
  unfold cutW
  rw [HT.sIx_none,HT.sIx_nat,List.drop_zero,Nat.sub_zero]
  by_cases h:p ≤ w.length
  · rw [Nat.min_eq_left h]
  · rw [Nat.min_eq_right (by lia),List.take_of_length_le (Nat.le_refl _),List.take_of_length_le (by lia)]
theorem cutW_from {w:Wd} {p:Nat}:cutW w (some (p:Int)) none = w.drop p:=by
  unfold cutW
  rw [HT.sIx_none,HT.sIx_nat]
  by_cases h:p ≤ w.length
  · rw [Nat.min_eq_left h,List.take_of_length_le (by rw [List.length_drop]; lia)]
  · rw [Nat.min_eq_right (by lia),List.drop_of_length_le (Nat.le_refl _),List.drop_of_length_le (by lia),List.take_nil]
theorem nums_succ (rs:List Rl) (w:Wd) (p i:Nat):((List.range (i + 1)).filter fun i=>atP w (rs.getD i ([],[])).1 p) = ((List.range i).filter fun i=>atP w (rs.getD i ([],[])).1 p) ++ (if atP w (rs.getD i ([],[])).1 p = true then [i] else []):=by
  rw [List.range_succ,List.filter_append]
  congr 1
  by_cases h:atP w (rs.getD i ([],[])).1 p = true
  · rw [if_pos h]; simp only [List.filter_cons,h,if_true,List.filter_nil]
  · rw [if_neg h]; simp only [List.filter_cons,h,List.filter_nil]; rfl
end Sg
namespace Sg
open PySem L2
inductive Dt where
  | non | bl (b:Bool) | int (i:Int) | str (z:Str) | tup (l:List Dt) | lst (l:List Dt)
inductive Rep (H:Hp):V → Dt → Prop
  | non:Rep H .non .non
  | bl (b:Bool):Rep H (.bl b) (.bl b)
  | int (i:Int):Rep H (.int i) (.int i)
  | str (z:Str):Rep H (.str z) (.str z)
  | tup {p:Addr} {vs:List V} {ds:List Dt}:H p = some (.tup vs) → vs.length = ds.length → (∀ (i:Nat) v d,vs[i]? = some v → ds[i]? = some d → Rep H v d) → Rep H (.ref p) (.tup ds)
  | lst {p:Addr} {vs:List V} {ds:List Dt}:H p = some (.lst vs) → vs.length = ds.length → (∀ (i:Nat) v d,vs[i]? = some v → ds[i]? = some d → Rep H v d) → Rep H (.ref p) (.lst ds)
mutual
def Dt.size:Dt → Nat
  | .tup l=>1 + Dt.sizes l
  | .lst l=>1 + Dt.sizes l
  | _=>1
def Dt.sizes:List Dt → Nat
  | []=>0
  | d :: r=>d.size + Dt.sizes r
end
theorem Dt.size_pos (d:Dt):1 ≤ d.size:=by cases d <;> simp [Dt.size]
theorem Dt.sizes_app:∀ a b:List Dt,Dt.sizes (a ++ b) = Dt.sizes a + Dt.sizes b
  | [],b=>by simp [Dt.sizes]
  | d :: r,b=>by simp [Dt.sizes,Dt.sizes_app r b]; lia
theorem Dt.sizes_len:∀ a:List Dt,a.length ≤ Dt.sizes a
  | []=>Nat.le_refl _
  | d :: r=>by have:=Dt.sizes_len r; have:=d.size_pos; simp [Dt.sizes]; lia
inductive TdAt (H0 H:Hp) (v:V) (d:Dt):Prop
  | mk (t:_) (v1:_) (v2:_) (h1_:v = .ref t) (h2_:H t = some (.tup [v1,v2])) (h3_:Rep H0 v1 d) (h4_:Rep H0 v2 d):TdAt H0 H v d
theorem TdAt.mono {H0 H H':Hp} (s:Tups H H') {v:V} {d:Dt} (h:TdAt H0 H v d):TdAt H0 H' v d:=let ⟨t,v1,v2,e,h1,h2,h3⟩:=h; ⟨t,v1,v2,e,s _ _ h1,h2,h3⟩
inductive SoW (H0:Hp) (vf vd:V) (l:Addr) (m:Nat) (σ:St) (H:Hp):Prop
  | mk (tv:_) (ds:_) (x:_) (y:_) (z:_) (h1_:m = Dt.sizes ds) (h2_:σ = [some vf,some vd,some (.ref l),x,y,z]) (h3_:Same H0 H) (h4_:H l = some (.lst tv)) (h5_:Paired (TdAt H0 H) tv ds) (h6_:Dt.sizes ds ≤ 4000000):SoW H0 vf vd l m σ H
inductive spSo (vs:List V) (H:Hp) (Q:VK) (E_:XK):Prop
  | mk (v1:_) (v2:_) (d:_) (h1_:vs = [v1,v2]) (h2_:Rep H v1 d) (h3_:Rep H v2 d) (h4_:d.size ≤ 4000000) (h5_:∀ H',Same H H' → Q (.bl true) H'):spSo vs H Q E_
theorem pairLast {α β:Type} {F:α → β → Prop} {a:List α} {b:List β} (h:Paired F a b) (hb:b ≠ []):∃ a' x b' y,a = a' ++ [x] ∧ b = b' ++ [y] ∧ Paired F a' b' ∧ F x y:=by
  induction h with
  | nil=>exact absurd rfl hb
  | cons r t ih =>
    rename_i x y l1 l2
    cases t with
    | nil=>exact ⟨[],x,[],y,rfl,rfl,.nil,r⟩
    | cons r2 t2 =>
      obtain ⟨a',x',b',y',e1,e2,h1,h2⟩:=ih (by simp)
      exact ⟨x :: a',x',y :: b',y',by rw [e1]; rfl,by rw [e2]; rfl,.cons r h1,h2⟩
end Sg
namespace Sg
open PySem L2
def cutI (ns:List Int) (lo hi:Option Int):List Int:=(ns.drop (HT.sIx ns.length 0 lo)).take (HT.sIx ns.length ns.length hi - HT.sIx ns.length 0 lo)
theorem cutV_map (ns:List Int) (lo hi:Option Int):cutV (ns.map V.int) lo hi = (cutI ns lo hi).map V.int:=by
  unfold cutV cutI
  rw [List.length_map,List.map_take,List.map_drop]
theorem cutI_len2 (ns:List Int) (a b:Nat):(cutI ns (some (a:Int)) (some (b:Int))).length ≤ b - a:=by
  unfold cutI
  rw [List.length_take,HT.sIx_nat,HT.sIx_nat]
  refine Nat.le_trans (Nat.min_le_left _ _) ?_
  rcases Nat.le_total a ns.length with h | h
  · rw [Nat.min_eq_left h]
    exact Nat.sub_le_sub_right (Nat.min_le_left _ _) _
  · rw [Nat.min_eq_right h,Nat.sub_eq_zero_of_le (Nat.min_le_right _ _)]
    exact Nat.zero_le _
inductive spLaw (K:PySem.W.Frag) (vs:List V) (H:Hp) (Q:VK) (E_:XK):Prop
  | mk (a:Addr) (ns:List Int) (h1_:vs = [.ref a]) (h2_:SqL K H a (ns.map V.int)) (h3_:ns.length ≤ 63) (h4_:∀ H',Q (.bl true) H'):spLaw K vs H Q E_
end Sg
namespace Sg
open PySem L2
mutual
def Dt.dep:Dt → Nat
  | .tup l=>1 + Dt.deps l
  | .lst l=>1 + Dt.deps l
  | _=>0
def Dt.deps:List Dt → Nat
  | []=>0
  | d :: r=>max d.dep (Dt.deps r)
end
end Sg
namespace Sg
open PySem L2
section
variable {X:Cx} {pins:List (Addr × Obj)} {σ:St} {H:Hp} {s:Shared}
end
end Sg
namespace Sg
open PySem L2
def top (i:Nat):Stmt:=PySem.Challenge.pw_signmill_k10_whole_equal_words.main.body.getD i (.Pass ⟨0,0,0,0⟩)
abbrev sBefore:Stmt:=top 5
abbrev sStd:Stmt:=top 6
abbrev sChg:Stmt:=top 7
abbrev sLinked:Stmt:=top 9
abbrev sTurned:Stmt:=top 10
abbrev sMoved:Stmt:=top 11
abbrev s_words_along:Stmt:=top 12
abbrev s_shortened:Stmt:=top 13
abbrev sFits:Stmt:=top 15
abbrev sPlaces:Stmt:=top 16
abbrev sOverlaps:Stmt:=top 17
abbrev sNums:Stmt:=top 19
abbrev sStep:Stmt:=top 20
abbrev sFirst:Stmt:=top 21
abbrev sGround:Stmt:=top 22
abbrev sWBeh:Stmt:=top 24
abbrev sClashP:Stmt:=top 25
abbrev sEqsOf:Stmt:=top 26
abbrev sRulesOf:Stmt:=top 27
abbrev sGWC:Stmt:=top 28
abbrev sBothG:Stmt:=top 29
abbrev sRightG:Stmt:=top 30
abbrev sLater:Stmt:=top 31
abbrev sPutIn:Stmt:=top 32
abbrev sSettledP:Stmt:=top 33
abbrev s_clashing:Stmt:=top 35
abbrev s_equation_behind:Stmt:=top 36
abbrev s_settled_shortly:Stmt:=top 37
abbrev s_rounds_done:Stmt:=top 38
abbrev sAsked:Stmt:=top 39
abbrev sWhole:Stmt:=top 41
abbrev sAt:Stmt:=top 42
abbrev sPaired:Stmt:=top 43
abbrev sSooner:Stmt:=top 44
abbrev sSpelt:Stmt:=top 45
abbrev sFPl:Stmt:=top 46
abbrev sDown:Stmt:=top 47
abbrev sOver:Stmt:=top 48
abbrev sClash:Stmt:=top 49
abbrev sSettled:Stmt:=top 50
abbrev sRounds:Stmt:=top 51
abbrev sGone:Stmt:=top 52
abbrev sIsChain:Stmt:=top 53
abbrev sLinks:Stmt:=top 54
abbrev sWander:Stmt:=top 55
abbrev sLetters:Stmt:=top 56
abbrev sPair:Stmt:=top 57
abbrev sSo:Stmt:=top 58
abbrev sLaw:Stmt:=top 59
end Sg
namespace Sg
open PySem L2
theorem boot_isiZ:bootBuiltins "isinstance" = some (.builtin "isinstance"):=by decide +kernel
theorem boot_lstZ:bootBuiltins "list" = some (.type "list"):=by decide +kernel
theorem boot_tupZ:bootBuiltins "tuple" = some (.type "tuple"):=by decide +kernel
theorem boot_strZ:bootBuiltins "str" = some (.type "str"):=by decide +kernel
theorem boot_intZ:bootBuiltins "int" = some (.type "int"):=by decide +kernel
theorem boot_boolZ:bootBuiltins "bool" = some (.type "bool"):=by decide +kernel
end Sg
namespace Sg
open PySem L2
end Sg
namespace Sg
open PySem L2
def fitN (one other:Wd) (p m:Nat):Bool:=(List.range m).all fun k=>one.getD (p + k) 0 == other.getD k 0
def fitM (one other:Wd) (p:Nat):Nat:=min one.length (p + other.length) - p
def fitsAt (one other:Wd) (p:Nat):Bool:=fitN one other p (fitM one other p)
abbrev Ov:=Wd × Nat × Nat × Nat
def ovP (rs:List Rl) (i j p:Nat):List Ov :=
  if (decide (0 < p) || !decide (i = j)) && fitsAt (rs.getD i ([],[])).1 (rs.getD j ([],[])).1 p then [((rs.getD i ([],[])).1 ++ (rs.getD j ([],[])).1.drop ((rs.getD i ([],[])).1.length - p),i,j,p)] else []
def ovPs (rs:List Rl) (i j n:Nat):List Ov:=(List.range n).flatMap fun p=>ovP rs i j p
def ovJs (rs:List Rl) (i n:Nat):List Ov:=(List.range n).flatMap fun j=>ovPs rs i j (rs.getD i ([],[])).1.length
def ovIs (rs:List Rl) (n:Nat):List Ov:=(List.range n).flatMap fun i=>ovJs rs i rs.length
def overs (rs:List Rl):List Ov:=ovIs rs rs.length
theorem flat_succ {α:Type} (f:Nat → List α) (n:Nat):(List.range (n + 1)).flatMap f = (List.range n).flatMap f ++ f n:=by
  rw [List.range_succ,List.flatMap_append]
  simp
theorem flat_len {α:Type} {f:Nat → List α} {c:Nat} (h:∀ i,(f i).length ≤ c):∀ n,((List.range n).flatMap f).length ≤ n * c
  | 0=>by simp
  | n + 1=>by
    have h1:=flat_len h n
    have h2:=h n
    rw [flat_succ,List.length_append,Nat.succ_mul]
    lia
theorem ovP_len (rs:List Rl) (i j p:Nat):(ovP rs i j p).length ≤ 1:=by
  unfold ovP
  split <;> simp
theorem ovPs_len (rs:List Rl) (i j n:Nat):(ovPs rs i j n).length ≤ n:=by
  have:=flat_len (f:=fun p=>ovP rs i j p) (fun p=>ovP_len rs i j p) n
  unfold ovPs
  lia
theorem fitN_succ (one other:Wd) (p m:Nat):fitN one other p (m + 1) = (fitN one other p m && (one.getD (p + m) 0 == other.getD m 0)):=by
  unfold fitN
  rw [List.range_succ,List.all_append]
  simp
inductive OvAt (H:Hp) (v:V) (o:Ov):Prop
  | mk (t:_) (h1_:v = .ref t) (h2_:H t = some (.tup [tx o.1,.int (o.2.1:Int),.int (o.2.2.1:Int),.int (o.2.2.2:Int)])):OvAt H v o
theorem OvAt.mono {H H':Hp} (s:Tups H H') {v:V} {o:Ov} (h:OvAt H v o):OvAt H' v o:=let ⟨p,e,q⟩:=h; ⟨p,e,s p _ q⟩
inductive OsAt (H:Hp) (a:Addr) (os:List Ov):Prop
  | mk (vs:_) (h1_:H a = some (.lst vs)) (h2_:Paired (OvAt H) vs os):OsAt H a os
theorem OsAt.mono {H H':Hp} (s:Same H H') {a:Addr} {os:List Ov} (h:OsAt H a os):OsAt H' a os:=let ⟨vs,e,q⟩:=h; ⟨vs,s _ _ e,pairImp q fun _ _ z=>z.mono (tups_of s)⟩
theorem OsAt.snoc {H:Hp} {l:Addr} {sv:List V} {ss:List Ov} {v:V} {s:Ov} (h:H l = some (.lst sv)) (hp:Paired (OvAt H) sv ss) (hv:OvAt H v s):OsAt (upd H l (.lst (sv ++ [v]))) l (ss ++ [s]) :=
  ⟨_,upd_same,pairImp (pairApp hp (.cons hv .nil)) fun _ _ z=>z.mono (tups_own h)⟩
inductive spOver (vs:List V) (H:Hp) (Q:VK) (E_:XK):Prop
  | mk (a:_) (rs:_) (n:_) (h1_:vs = [.ref a]) (h2_:RsAt H a rs) (h3_:(∀ r ∈ rs,r.1.length ≤ n)) (h4_:n ≤ 100) (h5_:rs.length ≤ 100) (h6_:∀ r H',Same H H' → OsAt H' r (overs rs) → Q (.ref r) H'):spOver vs H Q E_
theorem boot_min:bootBuiltins "min" = some (.builtin "min"):=by decide +kernel
theorem atI_getD {w:Wd} {i:Int} {k:Nat} (e:i = (k:Int)) (h:k < w.length):atI w i = some (w.getD k 0):=by
  rw [e]
  exact atI_nat (getD_some h)
theorem tx1 (a b:Nat):decide (V.str (Sx [a]) = V.str (Sx [b])) = (a == b):=by
  rw [Bool.eq_iff_iff,decide_eq_true_iff,beq_iff_eq]
  constructor
  · intro z
    have:=Sx_inj (V.str.inj z)
    simpa using this
  · intro z; rw [z]
theorem lens_of {rs:List Rl} {n:Nat} (h:∀ r ∈ rs,r.1.length ≤ n) (i:Nat):(rs.getD i ([],[])).1.length ≤ n:=by
  by_cases hi:i < rs.length
  · exact h _ (getD_mem hi)
  · rw [List.getD_eq_getElem?_getD,List.getElem?_eq_none (by lia)]
    exact Nat.zero_le _
theorem ovJs_len {rs:List Rl} {n:Nat} (h:∀ r ∈ rs,r.1.length ≤ n) (i j:Nat):(ovJs rs i j).length ≤ j * n :=
  flat_len (f:=fun j=>ovPs rs i j (rs.getD i ([],[])).1.length) (fun j=>Nat.le_trans (ovPs_len rs i j _) (lens_of h i)) j
theorem ovIs_len {rs:List Rl} {n:Nat} (h:∀ r ∈ rs,r.1.length ≤ n) (i:Nat):(ovIs rs i).length ≤ i * (rs.length * n) :=
  flat_len (f:=fun i=>ovJs rs i rs.length) (fun i=>ovJs_len h i _) i
end Sg
namespace Sg
inductive Stp (rs:List Rl) (u v:Wd):Prop
  | mk (i:_) (a:_) (b:_) (h1_:i < rs.length) (h2_:u = a ++ (rs.getD i ([],[])).1 ++ b) (h3_:v = a ++ (rs.getD i ([],[])).2 ++ b):Stp rs u v
inductive Rt (rs:List Rl):Wd → Wd → Prop
  | refl (u:Wd):Rt rs u u
  | step {u v f:Wd}:Stp rs u v → Rt rs v f → Rt rs u f
def Jn (rs:List Rl) (u v:Wd):Prop:=∃ f,Rt rs u f ∧ Rt rs v f
def Irr (rs:List Rl) (u:Wd):Prop:=∀ v,¬ Stp rs u v
theorem Rt.one {rs:List Rl} {u v:Wd} (h:Stp rs u v):Rt rs u v:=.step h (.refl _)
theorem Rt.trans {rs:List Rl} {u v w:Wd} (h:Rt rs u v) (k:Rt rs v w):Rt rs u w:=by
  induction h with
  | refl _=>exact k
  | step s _ ih=>exact .step s (ih k)
theorem Stp.ctx {rs:List Rl} {u v:Wd} (h:Stp rs u v) (x y:Wd):Stp rs (x ++ u ++ y) (x ++ v ++ y):=by
  obtain ⟨i,a,b,hi,rfl,rfl⟩:=h
  exact ⟨i,x ++ a,b ++ y,hi,by simp [List.append_assoc],by simp [List.append_assoc]⟩
theorem Rt.ctx {rs:List Rl} {u v:Wd} (h:Rt rs u v) (x y:Wd):Rt rs (x ++ u ++ y) (x ++ v ++ y):=by
  induction h with
  | refl _=>exact .refl _
  | step s _ ih=>exact .step (s.ctx x y) ih
theorem Jn.ctx {rs:List Rl} {u v:Wd} (h:Jn rs u v) (x y:Wd):Jn rs (x ++ u ++ y) (x ++ v ++ y) :=
  let ⟨f,h1,h2⟩:=h; ⟨x ++ f ++ y,h1.ctx x y,h2.ctx x y⟩
theorem Jn.symm {rs:List Rl} {u v:Wd} (h:Jn rs u v):Jn rs v u:=let ⟨f,h1,h2⟩:=h; ⟨f,h2,h1⟩
def OvOk (rs:List Rl):Prop:=∀ i j,i < rs.length → j < rs.length → ∀ a t,(rs.getD i ([],[])).1 = a ++ t → t ≠ [] → (a ≠ [] ∨ i ≠ j) →
  (∀ s,t = (rs.getD j ([],[])).1 ++ s → Jn rs (rs.getD i ([],[])).2 (a ++ (rs.getD j ([],[])).2 ++ s)) ∧
  (∀ s,(rs.getD j ([],[])).1 = t ++ s → Jn rs ((rs.getD i ([],[])).2 ++ s) (a ++ (rs.getD j ([],[])).2))
theorem local_left {rs:List Rl} (ok:OvOk rs) {i j:Nat} (hi:i < rs.length) (hj:j < rs.length) {a b c d e:Wd} (hc:c = a ++ e) (h:(rs.getD i ([],[])).1 ++ b = e ++ ((rs.getD j ([],[])).1 ++ d)) :
    Jn rs (a ++ (rs.getD i ([],[])).2 ++ b) (c ++ (rs.getD j ([],[])).2 ++ d):=by
  subst hc
  have dis:∀ t,e = (rs.getD i ([],[])).1 ++ t → b = t ++ ((rs.getD j ([],[])).1 ++ d) → Jn rs (a ++ (rs.getD i ([],[])).2 ++ b) (a ++ e ++ (rs.getD j ([],[])).2 ++ d):=fun t h1 h2=>by
    subst h1 h2
    refine ⟨a ++ (rs.getD i ([],[])).2 ++ t ++ (rs.getD j ([],[])).2 ++ d,.one ⟨j,a ++ (rs.getD i ([],[])).2 ++ t,d,hj,by simp [List.append_assoc],rfl⟩,.one ⟨i,a,t ++ (rs.getD j ([],[])).2 ++ d,hi,by simp [List.append_assoc],by simp [List.append_assoc]⟩⟩
  rcases List.append_eq_append_iff.mp h with ⟨t,h1,h2⟩ | ⟨t,h1,h2⟩
  · exact dis t h1 h2
  · by_cases ht:t = []
    · subst ht
      exact dis [] (by rw [h1]; simp) (by rw [List.nil_append] at h2 ⊢; exact h2.symm)
    by_cases same:e = [] ∧ i = j
    · obtain ⟨rfl,rfl⟩:=same
      rw [List.nil_append] at h
      have hb:b = d:=List.append_cancel_left h
      subst hb
      rw [List.append_nil]
      exact ⟨_,.refl _,.refl _⟩
    have hne:e ≠ [] ∨ i ≠ j:=by
      by_cases he:e = []
      · exact .inr fun z=>same ⟨he,z⟩
      · exact .inl he
    obtain ⟨in1,ov1⟩:=ok i j hi hj e t h1 ht hne
    rcases List.append_eq_append_iff.mp h2 with ⟨s,h3,h4⟩ | ⟨s,h3,h4⟩
    · -- l2 is within: t = l2 ++ s,d = s ++ b
      have j1:=(in1 s h3).ctx a b
      rw [h4]
      simpa [List.append_assoc] using j1
    · have j1:=(ov1 s h3).ctx a d
      rw [h4]
      simpa [List.append_assoc] using j1
theorem local_conf {rs:List Rl} (ok:OvOk rs) {u v w:Wd} (h1:Stp rs u v) (h2:Stp rs u w):Jn rs v w:=by
  obtain ⟨i,a,b,hi,e1,rfl⟩:=h1
  obtain ⟨j,c,d,hj,e2,rfl⟩:=h2
  have e:a ++ ((rs.getD i ([],[])).1 ++ b) = c ++ ((rs.getD j ([],[])).1 ++ d):=by rw [← List.append_assoc,← e1,e2,List.append_assoc]
  rcases List.append_eq_append_iff.mp e with ⟨t,h3,h4⟩ | ⟨t,h3,h4⟩
  · exact local_left ok hi hj h3 h4
  · exact (local_left ok hj hi h3 h4).symm
theorem conf {rs:List Rl} (ok:OvOk rs) (G:Wd → Prop) (m:Wd → Nat) (dn:∀ u v,G u → Stp rs u v → G v ∧ m v < m u):∀ (n:Nat) (u v w:Wd),m u ≤ n → G u → Rt rs u v → Rt rs u w → Jn rs v w:=by
  intro n
  induction n with
  | zero =>
    intro u v w hm hG h1 h2
    cases h1 with
    | refl _=>exact ⟨w,h2,.refl _⟩
    | step s _=>exact absurd (dn _ _ hG s).2 (by lia)
  | succ n ih =>
    intro u v w hm hG h1 h2
    cases h1 with
    | refl _=>exact ⟨w,h2,.refl _⟩
    | step s1 r1 =>
      cases h2 with
      | refl _=>exact ⟨v,.refl _,.step s1 r1⟩
      | step s2 r2 =>
        rename_i u1 u2
        obtain ⟨g1,l1⟩:=dn _ _ hG s1
        obtain ⟨g2,l2⟩:=dn _ _ hG s2
        obtain ⟨f,f1,f2⟩:=local_conf ok s1 s2
        obtain ⟨p,p1,p2⟩:=ih _ _ _ (by lia) g1 r1 f1
        obtain ⟨q,q1,q2⟩:=ih _ _ _ (by lia) g2 (f2.trans p2) r2
        exact ⟨q,p1.trans q1,q2⟩
theorem Irr.rt {rs:List Rl} {u v:Wd} (h:Irr rs u) (r:Rt rs u v):v = u:=by
  cases r with
  | refl _=>rfl
  | step s _=>exact absurd s (h _)
theorem one_form {rs:List Rl} (ok:OvOk rs) (G:Wd → Prop) (m:Wd → Nat) (dn:∀ u v,G u → Stp rs u v → G v ∧ m v < m u) {u v w:Wd} (hG:G u) (h1:Rt rs u v) (h2:Rt rs u w) (i1:Irr rs v) (i2:Irr rs w):v = w:=by
  obtain ⟨f,f1,f2⟩:=conf ok G m dn (m u) u v w (Nat.le_refl _) hG h1 h2
  rw [← i1.rt f1,← i2.rt f2]
theorem stp_app {rs:List Rl} {u:Wd} {p i:Nat} (hi:i < rs.length) (ha:atP u (rs.getD i ([],[])).1 p = true) (hp:p + (rs.getD i ([],[])).1.length ≤ u.length):Stp rs u (app rs u p i) :=
  ⟨i,u.take p,u.drop (p + (rs.getD i ([],[])).1.length),hi,split_at ha hp,rfl⟩
theorem stp_less {rs:List Rl} {al:Wd} {n:Nat} (g:Good rs al n):∀ u v,Over al u → Stp rs u v → Over al v ∧ rank al v < rank al u:=by
  intro u v hu ⟨i,a,b,hi,e1,e2⟩
  have hm:=getD_mem hi
  have hs:=g.sm _ hm
  have ov:Over al v:=fun c hc=>by
    rw [e2] at hc
    rcases List.mem_append.mp hc with z | z
    · rcases List.mem_append.mp z with z | z
      · exact hu c (by rw [e1]; simp [z])
      · exact hs.2 c z
    · exact hu c (by rw [e1]; simp [z])
  refine ⟨ov,rank_bef g.inc ov hu ?_⟩
  rw [e1,e2]
  exact bef_ctx (g.bf _ hm)
theorem irr_none {rs:List Rl} {al:Wd} {n:Nat} (g:Good rs al n) {u:Wd} (h:∀ p,p < u.length → numsAt rs u p = []):Irr rs u:=by
  intro v ⟨i,a,b,hi,e1,e2⟩
  have hne:=g.ne (getD_mem hi)
  have hl:0 < (rs.getD i ([],[])).1.length:=List.length_pos_iff.mpr hne
  have hp:a.length < u.length:=by rw [e1]; simp only [List.length_append]; lia
  have hm:i ∈ numsAt rs u a.length:=numsAt_mem.mpr ⟨hi,atP_iff.mpr (by rw [e1,List.append_assoc,List.drop_left,List.take_left])⟩
  rw [h _ hp] at hm
  cases hm
theorem down_rt {rs:List Rl} {al:Wd} {n:Nat} (g:Good rs al n) {u f:Wd} {ss:List (Nat × Nat)} (h:Down rs u f ss):Rt rs u f ∧ Irr rs f:=by
  induction h with
  | done e=>exact ⟨.refl _,irr_none g fun p hp=>(firstF_none.mp e) p (Nat.zero_le _) (by lia)⟩
  | step e _ ih =>
    obtain ⟨h1,h2,h3,h4,_⟩:=first_at g e
    exact ⟨.step (stp_app h2 h3 h4) ih.1,ih.2⟩
theorem any_way {rs:List Rl} {al:Wd} {n:Nat} (g:Good rs al n) (ok:OvOk rs) {u f h:Wd} {ss:List (Nat × Nat)} (hu:Over al u) (d:Down rs u f ss) (r:Rt rs u h) (i:Irr rs h):h = f :=
  one_form ok (Over al) (rank al) (stp_less g) hu r (down_rt g d).1 i (down_rt g d).2
end Sg
namespace Sg
noncomputable def nf (rs:List Rl) (w:Wd):Wd:=open Classical in if h:∃ f,∃ ss,Down rs w f ss then h.choose else w
theorem nf_of {rs:List Rl} {w f:Wd} {ss:List (Nat × Nat)} (h:Down rs w f ss):nf rs w = f:=by
  have ex:∃ f,∃ ss,Down rs w f ss:=⟨f,ss,h⟩
  unfold nf
  rw [dif_pos ex]
  obtain ⟨ss',h'⟩:=ex.choose_spec
  exact (h.det h').1
def cl1 (rs:List Rl) (o:Ov):Wd:=(rs.getD o.2.1 ([],[])).2 ++ o.1.drop (rs.getD o.2.1 ([],[])).1.length
def cl2 (rs:List Rl) (o:Ov):Wd:=o.1.take o.2.2.2 ++ (rs.getD o.2.2.1 ([],[])).2 ++ o.1.drop (o.2.2.2 + (rs.getD o.2.2.1 ([],[])).1.length)
noncomputable def clO (rs:List Rl) (o:Ov):List Rl:=if nf rs (cl1 rs o) = nf rs (cl2 rs o) then [] else [(cl1 rs o,cl2 rs o)]
noncomputable def clashes (rs:List Rl):List Rl:=(overs rs).flatMap fun o=>clO rs o
theorem mem_overs {rs:List Rl} {w:Wd} {i j p:Nat}:(w,i,j,p) ∈ overs rs ↔ i < rs.length ∧ j < rs.length ∧ p < (rs.getD i ([],[])).1.length ∧ (0 < p ∨ i ≠ j) ∧ fitsAt (rs.getD i ([],[])).1 (rs.getD j ([],[])).1 p = true ∧
    w = (rs.getD i ([],[])).1 ++ (rs.getD j ([],[])).1.drop ((rs.getD i ([],[])).1.length - p):=by
  unfold overs ovIs ovJs ovPs
  simp only [List.mem_flatMap,List.mem_range]
  constructor
  · rintro ⟨i',hi,j',hj,p',hp,h⟩
    unfold ovP at h
    split at h
    · rename_i c
      rw [List.mem_singleton] at h
      cases h
      rw [Bool.and_eq_true,Bool.or_eq_true] at c
      refine ⟨hi,hj,hp,?_,c.2,rfl⟩
      rcases c.1 with z | z
      · exact .inl (of_decide_eq_true z)
      · exact .inr (by simpa using z)
    · cases h
  · rintro ⟨hi,hj,hp,hne,hf,rfl⟩
    refine ⟨i,hi,j,hj,p,hp,?_⟩
    unfold ovP
    rw [if_pos (by
      rw [hf,Bool.and_true,Bool.or_eq_true]
      rcases hne with z | z
      · exact .inl (decide_eq_true z)
      · exact .inr (by simpa using z))]
    exact List.mem_singleton.mpr rfl
theorem fitN_iff {one other:Wd} {p m:Nat}:fitN one other p m = true ↔ ∀ k,k < m → one.getD (p + k) 0 = other.getD k 0:=by
  unfold fitN
  rw [List.all_eq_true]
  simp
theorem getD_app_right {a b:Wd} {k:Nat}:(a ++ b).getD (a.length + k) 0 = b.getD k 0:=by
  simp [List.getD_eq_getElem?_getD,List.getElem?_append_right]
theorem getD_app_left {a b:Wd} {k:Nat} (h:k < a.length):(a ++ b).getD k 0 = a.getD k 0:=by
  simp [List.getD_eq_getElem?_getD,List.getElem?_append_left h]
theorem ovOk_of {rs:List Rl} (h:∀ o ∈ overs rs,Jn rs (cl1 rs o) (cl2 rs o)):OvOk rs:=by
  intro i j hi hj a t hl ht hne
  have hp:a.length < (rs.getD i ([],[])).1.length:=by
    rw [hl,List.length_append]
    have:=List.length_pos_iff.mpr ht
    lia
  have hne':0 < a.length ∨ i ≠ j:=by
    rcases hne with z | z
    · exact .inl (List.length_pos_iff.mpr z)
    · exact .inr z
  have hlen:(rs.getD i ([],[])).1.length = a.length + t.length:=by rw [hl,List.length_append]
  constructor
  · intro s hs
    have htl:t.length = (rs.getD j ([],[])).1.length + s.length:=by rw [hs,List.length_append]
    have hm:=mem_overs (w:=(rs.getD i ([],[])).1).mpr ⟨hi,hj,hp,hne',fitN_iff.mpr fun k hk=>by
      have hk':k < (rs.getD j ([],[])).1.length:=by unfold fitM at hk; lia
      rw [hl,getD_app_right,hs,getD_app_left hk'],by rw [List.drop_of_length_le (by lia),List.append_nil]⟩
    have hj':=h _ hm
    have e1:cl1 rs ((rs.getD i ([],[])).1,i,j,a.length) = (rs.getD i ([],[])).2:=by
      unfold cl1
      rw [List.drop_of_length_le (Nat.le_refl _),List.append_nil]
    have e2:cl2 rs ((rs.getD i ([],[])).1,i,j,a.length) = a ++ (rs.getD j ([],[])).2 ++ s:=by
      unfold cl2
      show (rs.getD i ([],[])).1.take a.length ++ _ ++ (rs.getD i ([],[])).1.drop (a.length + (rs.getD j ([],[])).1.length) = _
      rw [hl,List.take_left,← List.drop_drop,List.drop_left,hs,List.drop_left]
    rw [e1,e2] at hj'
    exact hj'
  · intro s hs
    have hol:(rs.getD j ([],[])).1.length = t.length + s.length:=by rw [hs,List.length_append]
    have hm:=mem_overs (w:=(rs.getD i ([],[])).1 ++ s).mpr ⟨hi,hj,hp,hne',fitN_iff.mpr fun k hk=>by
      have hk':k < t.length:=by unfold fitM at hk; lia
      rw [hl,getD_app_right,hs,getD_app_left hk'],by
        have e:(rs.getD i ([],[])).1.length - a.length = t.length:=by lia
        rw [e,hs,List.drop_left]⟩
    have hj':=h _ hm
    have e1:cl1 rs ((rs.getD i ([],[])).1 ++ s,i,j,a.length) = (rs.getD i ([],[])).2 ++ s:=by
      unfold cl1
      show _ ++ ((rs.getD i ([],[])).1 ++ s).drop (rs.getD i ([],[])).1.length = _
      rw [List.drop_left]
    have e2:cl2 rs ((rs.getD i ([],[])).1 ++ s,i,j,a.length) = a ++ (rs.getD j ([],[])).2:=by
      unfold cl2
      show ((rs.getD i ([],[])).1 ++ s).take a.length ++ _ ++ ((rs.getD i ([],[])).1 ++ s).drop (a.length + (rs.getD j ([],[])).1.length) = _
      rw [List.drop_of_length_le (by rw [List.length_append]; lia),List.append_nil,hl,List.append_assoc,List.take_left]
    rw [e1,e2] at hj'
    exact hj'
theorem down_ex {rs:List Rl} {al:Wd} {n:Nat} (g:Good rs al n):∀ (m:Nat) (u:Wd),rank al u ≤ m → Over al u → ∃ f ss,Down rs u f ss:=by
  intro m
  induction m with
  | zero =>
    intro u hm hu
    cases e:first rs u with
    | none=>exact ⟨u,[],.done e⟩
    | some pi =>
      obtain ⟨p,i⟩:=pi
      have:=app_rank g hu e
      lia
  | succ m ih =>
    intro u hm hu
    cases e:first rs u with
    | none=>exact ⟨u,[],.done e⟩
    | some pi =>
      obtain ⟨p,i⟩:=pi
      have h1:=app_rank g hu e
      obtain ⟨_,hi,_,_,_⟩:=first_at g e
      obtain ⟨f,ss,h⟩:=ih (app rs u p i) (by lia) (app_small g hu hi)
      exact ⟨f,_,.step e h⟩
theorem overs_word {rs:List Rl} {al:Wd} {n:Nat} (g:Good rs al n) {o:Ov} (ho:o ∈ overs rs):o.2.1 < rs.length ∧ o.2.2.1 < rs.length ∧ o.2.2.2 < (rs.getD o.2.1 ([],[])).1.length ∧ Over al o.1 ∧ o.1.length + 1 ≤ 2 * n ∧ (rs.getD o.2.1 ([],[])).1.length ≤ o.1.length ∧ o.2.2.2 + (rs.getD o.2.2.1 ([],[])).1.length ≤ o.1.length:=by
  obtain ⟨w,i,j,p⟩:=o
  obtain ⟨hi,hj,hp,_,_,rfl⟩:=mem_overs.mp ho
  have m1:=getD_mem hi
  have m2:=getD_mem hj
  have l1:=g.ln _ m1
  have l2:=g.ln _ m2
  refine ⟨hi,hj,hp,fun c hc=>?_,?_,?_,?_⟩
  · rcases List.mem_append.mp hc with z | z
    · exact (g.sm _ m1).1 c z
    · exact (g.sm _ m2).1 c (List.mem_of_mem_drop z)
  · show ((rs.getD i ([],[])).1 ++ (rs.getD j ([],[])).1.drop ((rs.getD i ([],[])).1.length - p)).length + 1 ≤ 2 * n
    rw [List.length_append,List.length_drop]
    have:p < (rs.getD i ([],[])).1.length:=hp
    lia
  · show (rs.getD i ([],[])).1.length ≤ ((rs.getD i ([],[])).1 ++ _).length
    rw [List.length_append]
    lia
  · show p + (rs.getD j ([],[])).1.length ≤ ((rs.getD i ([],[])).1 ++ (rs.getD j ([],[])).1.drop ((rs.getD i ([],[])).1.length - p)).length
    rw [List.length_append,List.length_drop]
    have:p < (rs.getD i ([],[])).1.length:=hp
    lia
theorem cl_words {rs:List Rl} {al:Wd} {n:Nat} (g:Good rs al n) {o:Ov} (ho:o ∈ overs rs):Over al (cl1 rs o) ∧ Over al (cl2 rs o) ∧ (cl1 rs o).length ≤ o.1.length ∧ (cl2 rs o).length ≤ o.1.length:=by
  obtain ⟨hi,hj,hp,ov,hl,h1,h2⟩:=overs_word g ho
  have m1:=getD_mem hi
  have m2:=getD_mem hj
  have b1:=bef_len (g.bf _ m1)
  have b2:=bef_len (g.bf _ m2)
  refine ⟨fun c hc=>?_,fun c hc=>?_,?_,?_⟩
  · rcases List.mem_append.mp hc with z | z
    · exact (g.sm _ m1).2 c z
    · exact ov c (List.mem_of_mem_drop z)
  · rcases List.mem_append.mp hc with z | z
    · rcases List.mem_append.mp z with z | z
      · exact ov c (List.mem_of_mem_take z)
      · exact (g.sm _ m2).2 c z
    · exact ov c (List.mem_of_mem_drop z)
  · unfold cl1
    rw [List.length_append,List.length_drop]
    lia
  · unfold cl2
    rw [List.length_append,List.length_append,List.length_take,List.length_drop]
    lia
theorem done_ok {rs:List Rl} {al:Wd} {n:Nat} (g:Good rs al n) (h:clashes rs = []):OvOk rs:=by
  refine ovOk_of fun o ho=>?_
  obtain ⟨c1,c2,_,_⟩:=cl_words g ho
  obtain ⟨f1,s1,d1⟩:=down_ex g _ _ (Nat.le_refl _) c1
  obtain ⟨f2,s2,d2⟩:=down_ex g _ _ (Nat.le_refl _) c2
  have e:clO rs o = []:=by
    unfold clashes at h
    exact List.flatMap_eq_nil_iff.mp h o ho
  unfold clO at e
  rw [nf_of d1,nf_of d2] at e
  split at e
  · rename_i z
    exact ⟨f1,(down_rt g d1).1,by rw [z]; exact (down_rt g d2).1⟩
  · cases e
end Sg
namespace Sg
open PySem L2
inductive spLetters (vs:List V) (H:Hp) (Q:VK) (E_:XK):Prop
  | mk (z:_) (x:_) (y:_) (h1_:vs = [.str z,tx [x,y]]) (h2_:z.cps.size ≤ 100) (h3_:∀ H',Same H H' → Q (tx (z.cps.toList.map fun c=>if c = 98 then y else x)) H'):spLetters vs H Q E_
inductive spSpelt (K:PySem.W.Frag) (vs:List V) (H:Hp) (Q:VK) (E_:XK):Prop
  | mk (a:Addr) (ns:List Int) (x y:Nat) (h1_:vs = [.ref a,tx [x,y]]) (h2_:SqL K H a (ns.map V.int)) (h3_:ns.length ≤ 100) (h4_:∀ H',Same H H' → Q (tx (ns.map fun (c:Int)=>if c / 3 % 2 = 0 then x else y)) H'):spSpelt K vs H Q E_
theorem flat_one {α β:Type} (f:α → β):∀ xs:List α,(xs.map fun c=>[f c]).flatten = xs.map f
  | []=>rfl
  | x :: r=>by rw [List.map_cons,List.flatten_cons,flat_one f r]; rfl
theorem sum_one {α:Type} (f:α → Nat) (xs:List α):((xs.map fun c=>[f c]).map List.length).sum = xs.length:=by
  induction xs with
  | nil=>rfl
  | cons x r ih=>simp only [List.map_cons,List.sum_cons,ih,List.length_cons,List.length_nil]; lia
theorem at_two (x y:Nat) (k:Int) (h:k = 0 ∨ k = 1):atI [x,y] k = some (if k = 0 then x else y):=by
  rcases h with rfl | rfl <;> rfl
theorem over_map' {α:Type} {x y:Nat} (p:α → Prop) [DecidablePred p] (xs:List α):Over [x,y] (xs.map fun c=>if p c then y else x):=fun c hc=>by
  obtain ⟨z,_,e⟩:=List.mem_map.mp hc
  rw [← e]
  split <;> simp
section
variable {P:Program} {w:World} {K:PySem.W.Frag} {mg:Str → Option Value} {base:Heap}
theorem scLetters:FnScope ["_law_word","_law_two"] ["_law_word","_law_two"] (defScope sLetters):=⟨rfl,rfl,rfl,by decide +kernel,rfl,by decide +kernel,by decide +kernel⟩
theorem ccLetters:CompScope (defScope sLetters) ["_law_word","_law_two"] (compSc (argE (retE (defBody sLetters)) 0)) ["_law_sign"] ["_law_two"] [1]:=⟨rfl,by decide +kernel,by decide +kernel,by decide +kernel,by decide +kernel,rfl,by decide +kernel⟩
theorem str_b (c:Nat):decide (V.str ⟨#[c]⟩ = V.str "b") = decide (c = 98):=by
  have e:("b":Str) = ⟨#[98]⟩:=by decide +kernel
  rw [e,Bool.eq_iff_iff,decide_eq_true_iff,decide_eq_true_iff]
  constructor
  · intro h
    have:=congrArg (fun z:Str=>z.cps.toList) (V.str.inj h)
    simpa using this
  · intro h
    rw [h]
theorem str_nil:V.str "" = V.str (Sx []):=by decide +kernel
theorem ok_letters (D:Dfn K mg "_law_in_letters" sLetters ["_law_word","_law_two"]) (B:Blt mg):Ok P w K mg base "_law_in_letters" ["_law_word","_law_two"] 1 spLetters:=by
  refine D.ok scLetters (fun vs H Q E h=>?_) (fun f cdv A outer s H vs Q E hr h=>?_)
  · obtain ⟨z,x,y,rfl,_⟩:=h
    rfl
  obtain ⟨z,x,y,rfl,hz,q⟩:=h
  refine ⟨_,pss_one (ps_ret (pe_bm PySem.F.plainAttrs_str PySem.F.slot_str_join PySem.F.type_str_join mt_join pe_str (pa_cons (pe_comp rfl ccLetters (pi_str (pv 0)) (by intro cl C ex s H; exact ⟨pg_name (i:=0) ccLetters.nd rfl (.inl rfl),pf_nil,pe_ix ix_str (pv 1) (pe_callTy call_int1 rfl B.it PyProof.Rows.boot_int (pa_cons (pe_cmpR op_eq (pv 0) pe_str (nomark _)) pa_nil)) (fun _ _=>rfl)⟩)) pa_nil))),?_⟩
  try dsimp only [cxOf,Cx.nox]
  refine ⟨rfl,_,rfl,z,rfl,?_⟩
  refine turns_str (z:=z) (fun i acc H'=>H' = H ∧ i ≤ z.cps.size ∧ acc = ((z.cps.toList.take i).map fun c=>tx [if c = 98 then y else x]))
    ⟨rfl,Nat.zero_le _,rfl⟩ (fun i acc H' ⟨_,hi,e⟩=>?_) (small1000 (by lia)) (fun i acc H' c hc ⟨e,hi,hacc⟩=>?_) (fun acc H' ⟨e,hi,hacc⟩ p hp=>?_)
  · rw [e,List.length_map,List.length_take]
    lia
  · subst e
    have hc':z.cps.toList[i]? = some c:=by rw [Array.getElem?_toList]; exact hc
    have hil:i < z.cps.size:=by
      have:=(List.getElem?_eq_some_iff.mp hc').1
      simpa using this
    refine ⟨rfl,noTest ?_⟩
    refine ⟨_,rfl,_,rfl,rfl,.inr ⟨_,rfl,Sx [x,y],_,(if c = 98 then y else x),rfl,rfl,(by show 2 ≤ sizeLine; decide),?_,rfl,hil,?_⟩⟩
    · show atI [x,y] (if decide (V.str ⟨#[c]⟩ = V.str "b") = true then 1 else 0) = _
      rw [str_b]
      by_cases h:c = 98
      · rw [if_pos (decide_eq_true h),if_pos h]; rfl
      · rw [if_neg (by simpa using h),if_neg h]; rfl
    · rw [List.take_add_one,hc',hacc]
      simp
  · subst e
    have hsz:z.cps.toList.length = z.cps.size:=by simp
    have hacc':acc = ((z.cps.toList.map fun c=>[if c = 98 then y else x]).map fun w=>V.str (Sx w)):=by
      rw [hacc,List.map_map,List.take_of_length_le (by rw [hsz]; exact Nat.le_refl _)]
      rfl
    refine ⟨p,(z.cps.toList.map fun c=>[if c = 98 then y else x]),str_nil,rfl,SqL.of (by rw [upd_same,hacc']),?_,?_⟩
    · rw [sum_one,hsz]
      lia
    · rw [flat_one]
      exact q _ (same_new hp _)
theorem letters_eq:("abcdefghijklmnopqrstuvwxyz":Str).cps.toList = (List.range 26).map (97 + ·):=by decide +kernel
theorem letter_at {i:Int} (h0:0 ≤ i) (h:i < 26):atI ("abcdefghijklmnopqrstuvwxyz":Str).cps.toList i = some (97 + i.toNat):=by
  obtain ⟨k,rfl⟩:∃ k:Nat,i = (k:Int):=⟨i.toNat,by lia⟩
  rw [letters_eq,Int.toNat_natCast]
  refine atI_nat ?_
  rw [List.getElem?_map,List.getElem?_range (by lia)]
  rfl
theorem scPair:FnScope ["_law_script","_law_letters","_law_cell","_law_first","_law_second"] ["_law_script"] (defScope sPair):=⟨rfl,rfl,rfl,by decide +kernel,rfl,by decide +kernel,by decide +kernel⟩
end
end Sg
namespace Sg
open PySem L2
def menu:List Str:=["","a","b","aa","ab","ba","bb","aba","bab","aab","abb","baa","bba","aaa"]
def lett (x y:Nat) (z:Str):Wd:=z.cps.toList.map fun c=>if c = 98 then y else x
theorem lett_over (x y:Nat) (z:Str):Over [x,y] (lett x y z):=over_map' _ _
theorem menu_len:∀ z ∈ menu,z.cps.size ≤ 3:=by decide +kernel
theorem lett_len {x y:Nat} {z:Str} (h:z ∈ menu):(lett x y z).length ≤ 3:=by
  have:=menu_len z h
  unfold lett
  rw [List.length_map]
  simpa using this
theorem bef_tot {a b:Wd} (h:bef a b = false) (hne:a ≠ b):bef b a = true:=by
  unfold bef at h ⊢
  by_cases hl:a.length = b.length
  · rw [if_pos hl] at h
    rw [if_pos hl.symm]
    have h:¬ a < b:=by simpa using h
    have:b ≤ a:=List.not_lt.mp h
    rcases List.le_iff_lt_or_eq.mp this with h' | h'
    · exact decide_eq_true h'
    · exact absurd h'.symm hne
  · rw [if_neg hl] at h
    rw [if_neg (fun z=>hl z.symm)]
    have h:¬ a.length < b.length:=by simpa using h
    exact decide_eq_true (by lia)
theorem RsAt.snoc {H:Hp} {l:Addr} {sv:List V} {ss:List Rl} {v:V} {s:Rl} (h:H l = some (.lst sv)) (hp:Paired (RlAt H) sv ss) (hv:RlAt H v s):RsAt (upd H l (.lst (sv ++ [v]))) l (ss ++ [s]) :=
  ⟨_,upd_same,pairImp (pairApp hp (.cons hv .nil)) fun _ _ z=>z.mono (tups_own h)⟩
end Sg
namespace Sg
def allW (al:Wd):Nat → List Wd
  | 0=>[[]]
  | n + 1=>[] :: al.flatMap fun c=>(allW al n).map (c :: ·)
theorem mem_allW {al:Wd}:∀ {n:Nat} {u:Wd},Over al u → u.length ≤ n → u ∈ allW al n
  | 0,[],_,_=>List.mem_singleton.mpr rfl
  | 0,_ :: _,_,h=>absurd h (by simp)
  | n + 1,[],_,_=>List.mem_cons_self
  | n + 1,c :: u,ho,h=>by
    refine List.mem_cons_of_mem _ (List.mem_flatMap.mpr ⟨c,ho c List.mem_cons_self,List.mem_map.mpr ⟨u,mem_allW (fun d hd=>ho d (List.mem_cons_of_mem _ hd)) ?_,rfl⟩⟩)
    rw [List.length_cons] at h
    lia
def Occ (l u:Wd):Prop:=∃ a b,u = a ++ l ++ b
theorem Occ.trans {a b c:Wd} (h:Occ a b) (k:Occ b c):Occ a c:=by
  obtain ⟨x,y,rfl⟩:=h
  obtain ⟨z,w,rfl⟩:=k
  exact ⟨z ++ x,y ++ w,by simp [List.append_assoc]⟩
def RedBy (rs:List Rl) (u:Wd):Prop:=∃ r ∈ rs,Occ r.1 u
theorem irr_not_red {rs:List Rl} {u:Wd} (h:Irr rs u):¬ RedBy rs u:=fun ⟨r,hr,a,b,e⟩=>by
  obtain ⟨i,hi,rfl⟩:=List.mem_iff_getElem.mp hr
  have eg:rs.getD i ([],[]) = rs[i]:=by simp [hi]
  exact h (a ++ (rs.getD i ([],[])).2 ++ b) ⟨i,a,b,hi,by rw [eg]; exact e,rfl⟩
theorem count_lt {α:Type} {p q:α → Bool}:∀ {l:List α},(∀ x,p x = true → q x = true) → (∃ x ∈ l,q x = true ∧ p x = false) → l.countP p < l.countP q
  | [],_,⟨x,hx,_⟩=>nomatch hx
  | y :: r,h,⟨x,hx,h1,h2⟩=>by
    have le:∀ l:List α,l.countP p ≤ l.countP q:=fun l=>by
      induction l with
      | nil=>simp
      | cons z r ih =>
        rw [List.countP_cons,List.countP_cons]
        have:(if p z = true then 1 else 0) ≤ (if q z = true then 1 else 0):=by
          by_cases hz:p z = true
          · rw [if_pos hz,if_pos (h z hz)]; exact Nat.le_refl _
          · rw [if_neg hz]; exact Nat.zero_le _
        lia
    rw [List.countP_cons,List.countP_cons]
    rcases List.mem_cons.mp hx with z | z
    · rw [← z,h1,h2]
      have:=le r
      simp
      lia
    · have:=count_lt h ⟨x,z,h1,h2⟩
      have:(if p y = true then 1 else 0) ≤ (if q y = true then 1 else 0):=by
        by_cases hy:p y = true
        · rw [if_pos hy,if_pos (h y hy)]; exact Nat.le_refl _
        · rw [if_neg hy]; exact Nat.zero_le _
      lia
noncomputable def mu (al:Wd) (n:Nat) (rs:List Rl):Nat:=open Classical in (allW al n).countP fun u=>decide (¬ RedBy rs u)
theorem mu_less {al:Wd} {n:Nat} {rs rs':List Rl} {f:Wd} (ho:Over al f) (hl:f.length ≤ n) (hi:¬ RedBy rs f) (hf:RedBy rs' f) (hk:∀ u,RedBy rs u → RedBy rs' u):mu al n rs' < mu al n rs:=by
  classical
  unfold mu
  refine count_lt (fun u h=>?_) ⟨f,mem_allW ho hl,decide_eq_true hi,decide_eq_false (fun z=>z hf)⟩
  exact decide_eq_true fun z=>of_decide_eq_true h (hk u z)
theorem rt_over {rs:List Rl} {al:Wd} {n:Nat} (g:Good rs al n) {u v:Wd} (h:Rt rs u v):Over al u → Over al v:=by
  induction h with
  | refl _=>exact fun z=>z
  | step s _ ih=>exact fun z=>ih (stp_less g _ _ z s).1
theorem good_new {rs rs':List Rl} {al:Wd} {n:Nat} {f:Rl} (g:Good rs al n) (h:∀ r ∈ rs',r = f ∨ r ∈ rs) (hb:bef f.2 f.1 = true) (o1:Over al f.1) (o2:Over al f.2) (hl:f.1.length ≤ n):Good rs' al n :=
  ⟨g.inc,fun r hr=>(h r hr).elim (fun z=>by rw [z]; exact hb) (g.bf r),fun r hr=>(h r hr).elim (fun z=>by rw [z]; exact ⟨o1,o2⟩) (g.sm r),fun r hr=>(h r hr).elim (fun z=>by rw [z]; exact hl) (g.ln r)⟩
def Wok (al:Wd) (n:Nat) (r:Rl):Prop:=Over al r.1 ∧ Over al r.2 ∧ r.1.length ≤ n ∧ r.2.length ≤ n
theorem Good.wok {rs:List Rl} {al:Wd} {n:Nat} (g:Good rs al n) {r:Rl} (h:r ∈ rs):Wok al n r:=by
  have:=bef_len (g.bf r h)
  have:=g.ln r h
  exact ⟨(g.sm r h).1,(g.sm r h).2,by lia,by lia⟩
theorem bef_rank {al:Wd} (hi:Inc al) {a b:Wd} (ha:Over al a) (hb:Over al b) (h:rank al a < rank al b):bef a b = true:=by
  cases e:bef a b with
  | true=>rfl
  | false =>
    exfalso
    have ne:a ≠ b:=fun z=>by rw [z] at h; exact Nat.lt_irrefl _ h
    have:=rank_bef hi hb ha (bef_tot e ne)
    lia
theorem rt_rank {rs:List Rl} {al:Wd} {n:Nat} (g:Good rs al n) {u v:Wd} (h:Rt rs u v):Over al u → rank al v ≤ rank al u:=by
  induction h with
  | refl _=>exact fun _=>Nat.le_refl _
  | step s _ ih =>
    intro z
    obtain ⟨o,l⟩:=stp_less g _ _ z s
    have:=ih o
    lia
end Sg
namespace Sg
theorem bef_irr (a:Wd):bef a a = false:=by
  unfold bef
  rw [if_pos rfl]
  exact decide_eq_false (List.lt_irrefl _)
theorem bef_tr {a b c:Wd} (h1:bef a b = true) (h2:bef b c = true):bef a c = true:=by
  unfold bef at h1 h2 ⊢
  by_cases e1:a.length = b.length
  · rw [if_pos e1] at h1
    by_cases e2:b.length = c.length
    · rw [if_pos e2] at h2
      rw [if_pos (e1.trans e2)]
      exact decide_eq_true (List.lt_trans (of_decide_eq_true h1) (of_decide_eq_true h2))
    · rw [if_neg e2] at h2
      have:=of_decide_eq_true h2
      rw [if_neg (by lia)]
      exact decide_eq_true (by lia)
  · rw [if_neg e1] at h1
    have h1:=of_decide_eq_true h1
    by_cases e2:b.length = c.length
    · rw [if_neg (by lia)]
      exact decide_eq_true (by lia)
    · rw [if_neg e2] at h2
      have:=of_decide_eq_true h2
      rw [if_neg (by lia)]
      exact decide_eq_true (by lia)
theorem bef_asym {a b:Wd} (h1:bef a b = true) (h2:bef b a = true):False:=by
  have:=bef_tr h1 h2
  rw [bef_irr] at this
  cases this
def Srt (rs:List Rl):Prop:=rs.Pairwise fun a b=>bef a.1 b.1 = true
theorem srt_unique:∀ {l1 l2:List Rl},l1.Perm l2 → Srt l1 → Srt l2 → l1 = l2
  | [],l2,hp,_,_=>(List.nil_perm.mp hp).symm
  | a :: r,[],hp,_,_=>by simp at hp
  | a :: r,b :: r2,hp,h1,h2=>by
    obtain ⟨p1,q1⟩:=List.pairwise_cons.mp h1
    obtain ⟨p2,q2⟩:=List.pairwise_cons.mp h2
    have hab:a = b:=by
      have ha:a ∈ b :: r2:=hp.mem_iff.mp List.mem_cons_self
      have hb:b ∈ a :: r:=hp.mem_iff.mpr List.mem_cons_self
      rcases List.mem_cons.mp ha with z | z
      · exact z
      · rcases List.mem_cons.mp hb with y | y
        · exact y.symm
        · exact (bef_asym (p1 b y) (p2 a z)).elim
    subst hab
    rw [srt_unique (List.Perm.cons_inv hp) q1 q2]
noncomputable def occB (l u:Wd):Bool:=open Classical in decide (Occ l u)
theorem occB_t {l u:Wd} (h:Occ l u):occB l u = true:=by
  classical
  unfold occB
  exact decide_eq_true h
theorem occB_f {l u:Wd} (h:¬ Occ l u):occB l u = false:=by
  classical
  unfold occB
  exact decide_eq_false h
theorem occB_iff {l u:Wd}:occB l u = true ↔ Occ l u:=by
  classical
  unfold occB
  exact decide_eq_true_iff
def putIn (kp:List Rl) (x:Rl):List Rl:=kp.filter (fun r=>bef r.1 x.1) ++ x :: kp.filter (fun r=>!bef r.1 x.1)
theorem putIn_perm (kp:List Rl) (x:Rl):(putIn kp x).Perm (x :: kp):=by
  unfold putIn
  exact List.perm_middle.trans ((List.filter_append_perm (fun r:Rl=>bef r.1 x.1) kp).cons x)
theorem putIn_srt {kp:List Rl} {x:Rl} (h:Srt kp) (hx:∀ r ∈ kp,r.1 ≠ x.1):Srt (putIn kp x):=by
  unfold putIn Srt
  have beh:∀ r ∈ kp.filter (fun r=>!bef r.1 x.1),bef x.1 r.1 = true:=fun r hr=>by
    obtain ⟨h1,h2⟩:=List.mem_filter.mp hr
    have h2:bef r.1 x.1 = false:=by simpa using h2
    exact bef_tot h2 (hx r h1)
  refine List.pairwise_append.mpr ⟨h.filter _,List.pairwise_cons.mpr ⟨beh,h.filter _⟩,fun a ha b hb=>?_⟩
  have h1:=(List.mem_filter.mp ha).2
  rcases List.mem_cons.mp hb with z | z
  · rw [z]; exact h1
  · exact bef_tr h1 (beh b z)
def latF (a b:Wd):Rl:=if bef a b = true then (b,a) else (a,b)
inductive Stl:List Rl → List Rl → List Rl → Prop
  | done (rs:List Rl):Stl [] rs rs
  | same {p:Rl} {td rs out:List Rl}:nf rs p.1 = nf rs p.2 → Stl td rs out → Stl (p :: td) rs out
  | fresh {p:Rl} {td rs out:List Rl}:nf rs p.1 ≠ nf rs p.2 →
      Stl (td ++ rs.filter (fun r=>occB (latF (nf rs p.1) (nf rs p.2)).1 r.1)) (putIn (rs.filter (fun r=>!occB (latF (nf rs p.1) (nf rs p.2)).1 r.1)) (latF (nf rs p.1) (nf rs p.2))) out → Stl (p :: td) rs out
theorem Stl.det {td rs o1:List Rl} (h:Stl td rs o1):∀ {o2},Stl td rs o2 → o1 = o2:=by
  induction h with
  | done rs=>intro o2 h2; cases h2; rfl
  | same e _ ih =>
    intro o2 h2
    cases h2 with
    | same _ h=>exact ih h
    | fresh n _=>exact absurd e n
  | fresh n _ ih =>
    intro o2 h2
    cases h2 with
    | same e _=>exact absurd e n
    | fresh _ h=>exact ih h
def Settles (ps rs:List Rl):Prop:=∃ out,Stl ps [] out ∧ rs = out.map fun r=>(r.1,nf out r.2)
theorem Settles.det {ps r1 r2:List Rl} (h1:Settles ps r1) (h2:Settles ps r2):r1 = r2:=by
  obtain ⟨o1,a1,rfl⟩:=h1
  obtain ⟨o2,a2,rfl⟩:=h2
  rw [a1.det a2]
end Sg
namespace Sg
inductive StlM:Nat → Nat → Nat → List Rl → List Rl → List Rl → Nat → Prop
  | done (A M:Nat) (rs:List Rl):StlM 0 A M [] rs rs M
  | same {k A M Mf:Nat} {p:Rl} {td rs out:List Rl} {f:Wd} {ss1 ss2:List (Nat × Nat)}:Down rs p.1 f ss1 → Down rs p.2 f ss2 → ss1.length + ss2.length ≤ 120 → StlM k A M td rs out Mf → StlM (k + 1) A M (p :: td) rs out Mf
  | fresh {k A M Mf:Nat} {p:Rl} {td rs out:List Rl} {f g:Wd} {ss1 ss2:List (Nat × Nat)}:Down rs p.1 f ss1 → Down rs p.2 g ss2 → f ≠ g → ss1.length + ss2.length ≤ 120 →
      StlM k (max A M) (max M (A + (ss1.length + ss2.length) * M)) (td ++ rs.filter (fun r=>occB (latF f g).1 r.1)) (putIn (rs.filter (fun r=>!occB (latF f g).1 r.1)) (latF f g)) out Mf → StlM (k + 1) A M (p :: td) rs out Mf
theorem StlM.le {k A M Mf:Nat} {td rs out:List Rl} (h:StlM k A M td rs out Mf):M ≤ Mf:=by
  induction h with
  | done=>exact Nat.le_refl _
  | same _ _ _ _ ih=>exact ih
  | fresh _ _ _ _ _ ih=>exact Nat.le_trans (Nat.le_max_left _ _) ih
theorem StlM.stl {k A M Mf:Nat} {td rs out:List Rl} (h:StlM k A M td rs out Mf):Stl td rs out:=by
  induction h with
  | done=>exact .done _
  | same d1 d2 _ _ ih=>exact .same (by rw [nf_of d1,nf_of d2]) ih
  | fresh d1 d2 hne _ _ ih=>exact .fresh (by rw [nf_of d1,nf_of d2]; exact hne) (by rw [nf_of d1,nf_of d2]; exact ih)
theorem good_nf {rs:List Rl} {al:Wd} {n:Nat} (hG:Good rs al n):Good (rs.map fun r=>(r.1,nf rs r.2)) al n:=by
  refine ⟨hG.inc,fun r hr=>?_,fun r hr=>?_,fun r hr=>?_⟩
  all_goals
    obtain ⟨r0,h0,rfl⟩:=List.mem_map.mp hr
    obtain ⟨f,ss,d⟩:=down_ex hG _ r0.2 (Nat.le_refl _) (hG.sm r0 h0).2
    have rt:=(down_rt hG d).1
    have of:=rt_over hG rt (hG.sm r0 h0).2
  · show bef (nf rs r0.2) r0.1 = true
    rw [nf_of d]
    have k1:=rt_rank hG rt (hG.sm r0 h0).2
    have k2:=rank_bef hG.inc (hG.sm r0 h0).2 (hG.sm r0 h0).1 (hG.bf r0 h0)
    exact bef_rank hG.inc of (hG.sm r0 h0).1 (by lia)
  · exact ⟨(hG.sm r0 h0).1,by show Over al (nf rs r0.2); rw [nf_of d]; exact of⟩
  · exact hG.ln r0 h0
end Sg
namespace Sg
noncomputable def strp (l:Wd):Wd → Option Wd:=List.rec (motive:=fun _=>Wd → Option Wd) (fun w=>some w) (fun c _ ih w=>List.rec (motive:=fun _=>Option Wd) none (fun d t _=>Bool.rec none (ih t) (Nat.beq c d)) w) l
noncomputable def tryR (rs:List Rl) (w:Wd):Option Wd:=List.rec (motive:=fun _=>Option Wd) none (fun r _ ih=>Option.rec ih (fun t=>some (r.2 ++ t)) (strp r.1 w)) rs
noncomputable def stepX (rs:List Rl) (w:Wd):Option Wd:=List.rec (motive:=fun _=>Option Wd) none (fun c t ih=>Option.rec (Option.rec none (fun u=>some (c :: u)) ih) (fun u=>some u) (tryR rs (c :: t))) w
noncomputable def ltX (a:Wd):Wd → Bool:=List.rec (motive:=fun _=>Wd → Bool) (fun b=>List.rec (motive:=fun _=>Bool) false (fun _ _ _=>true) b) (fun c _ ih b=>List.rec (motive:=fun _=>Bool) false (fun d t _=>Bool.rec (Nat.blt c d) (ih t) (Nat.beq c d)) b) a
noncomputable def befX (a b:Wd):Bool:=Bool.rec (Nat.blt a.length b.length) (ltX a b) (Nat.beq a.length b.length)
noncomputable def occX (l w:Wd):Bool:=List.rec (motive:=fun _=>Bool) (Option.isSome (strp l [])) (fun c t ih=>Bool.rec ih true (Option.isSome (strp l (c :: t)))) w
noncomputable def eqX (a:Wd):Wd → Bool:=List.rec (motive:=fun _=>Wd → Bool) (fun b=>List.rec (motive:=fun _=>Bool) true (fun _ _ _=>false) b) (fun c _ ih b=>List.rec (motive:=fun _=>Bool) false (fun d t _=>Bool.rec false (ih t) (Nat.beq c d)) b) a
noncomputable def frc (w:Wd) (k:Wd → Bool):Bool:=List.rec (motive:=fun _=>(Wd → Bool) → Bool) (fun k=>k []) (fun c _ ih k=>ih (fun t=>k (c :: t))) w k
noncomputable def frcL (w:List Rl) (k:List Rl → Bool):Bool:=List.rec (motive:=fun _=>(List Rl → Bool) → Bool) (fun k=>k []) (fun c _ ih k=>ih (fun t=>k (c :: t))) w k
noncomputable def frcP (w:List Rl) (k:List Rl → Bool):Bool:=List.rec (motive:=fun _=>(List Rl → Bool) → Bool) (fun k=>k []) (fun c _ ih k=>frc c.1 fun a=>frc c.2 fun b=>ih (fun t=>k ((a,b) :: t))) w k
noncomputable def grB (rs:List Rl) (k:Nat) (w:Wd) (n:Nat) (K:Wd → Nat → Bool):Bool:=Nat.rec (motive:=fun _=>Wd → Nat → Bool) (fun _ _=>false) (fun _ ih w n=>Option.rec (K w n) (fun u=>frc u (fun u'=>ih u' (Nat.succ n))) (stepX rs w)) k w n
noncomputable def filX (f:Rl → Bool) (l:List Rl):List Rl:=List.rec (motive:=fun _=>List Rl) [] (fun r _ ih=>Bool.rec ih (r :: ih) (f r)) l
noncomputable def appX (a b:List Rl):List Rl:=List.rec (motive:=fun _=>List Rl) b (fun r _ ih=>r :: ih) a
noncomputable def putX (kp:List Rl) (x:Rl):List Rl:=appX (filX (fun r=>befX r.1 x.1) kp) (x :: filX (fun r=>not (befX r.1 x.1)) kp)
noncomputable def anyOcc (l:Wd) (rs:List Rl):Bool:=List.rec (motive:=fun _=>Bool) false (fun r _ ih=>Bool.rec ih true (occX l r.1)) rs
noncomputable def nxtX (t rs:List Rl) (f g:Wd) (k:List Rl → List Rl → Bool):Bool:=Bool.rec (frcL (putX rs (f,g)) fun rs'=>k t rs') (frcL (appX t (filX (fun r=>occX f r.1) rs)) fun t'=>frcL (putX (filX (fun r=>not (occX f r.1)) rs) (f,g)) fun rs'=>k t' rs') (anyOcc f rs)
noncomputable def selN (a b:Nat) (C:Nat → Bool):Bool:=Bool.rec (C a) (C b) (Nat.ble a b)
noncomputable def stB (k:Nat) (td rs:List Rl) (A M:Nat) (K:List Rl → Nat → Bool):Bool :=
  Nat.rec (motive:=fun _=>List Rl → List Rl → Nat → Nat → Bool) (fun _ _ _ _=>false) (fun _ ih td rs A M=>List.rec (motive:=fun _=>Bool) (K rs M) (fun p t _ =>
    grB rs 60 p.1 0 fun f n=>grB rs 60 p.2 0 fun g m=>Bool.rec (selN A M fun A'=>selN M (A + (n + m) * M) fun M'=>Bool.rec (nxtX t rs f g fun t' rs'=>ih t' rs' A' M') (nxtX t rs g f fun t' rs'=>ih t' rs' A' M') (befX f g)) (ih t rs A M) (eqX f g)) td) k td rs A M
noncomputable def rtB (out:List Rl) (l:List Rl) (m:Nat) (K:List Rl → Nat → Bool):Bool :=
  List.rec (motive:=fun _=>Nat → (List Rl → Nat → Bool) → Bool) (fun m K=>K [] m) (fun r _ ih m K=>grB out 60 r.2 0 fun f n=>ih (Bool.rec m n (Nat.ble m n)) (fun rs m'=>K ((r.1,f) :: rs) m')) l m K
noncomputable def fitX (t:Wd):Wd → Option (Wd × Wd):=List.rec (motive:=fun _=>Wd → Option (Wd × Wd)) (fun l=>some (l,[])) (fun c t' ih l=>List.rec (motive:=fun _=>Option (Wd × Wd)) (some ([],c :: t')) (fun d l' _=>Bool.rec none (ih l') (Nat.beq c d)) l) t
noncomputable def ovX (r q:Rl) (t:Wd):Wd → Bool → List Rl → List Rl:=List.rec (motive:=fun _=>Wd → Bool → List Rl → List Rl) (fun _ _ acc=>acc)
  (fun c t' ih a z acc=>Bool.rec (ih (a ++ [c]) true acc) (Option.rec (ih (a ++ [c]) true acc) (fun x=>(r.2 ++ x.1,a ++ (q.2 ++ x.2)) :: ih (a ++ [c]) true acc) (fitX (c :: t') q.1)) z) t
noncomputable def ovJ (r:Rl) (i:Nat) (l:List Rl):Nat → List Rl → List Rl:=List.rec (motive:=fun _=>Nat → List Rl → List Rl) (fun _ acc=>acc) (fun q _ ih j acc=>ovX r q r.1 [] (not (Nat.beq i j)) (ih (Nat.succ j) acc)) l
noncomputable def ovI (rs:List Rl) (l:List Rl):Nat → List Rl:=List.rec (motive:=fun _=>Nat → List Rl) (fun _=>[]) (fun r _ ih i=>ovJ r i rs 0 (ih (Nat.succ i))) l
noncomputable def clB (rs:List Rl) (l:List Rl) (K:List Rl → Bool):Bool:=List.rec (motive:=fun _=>(List Rl → Bool) → Bool) (fun K=>K []) (fun p _ ih K=>grB rs 60 p.1 0 fun f _=>grB rs 60 p.2 0 fun g _=>Bool.rec (ih fun cs=>K (p :: cs)) (ih K) (eqX f g)) l K
noncomputable def roundB (k:Nat) (ps:List Rl) (M:Nat) (K:List Rl → Nat → List Rl → Bool):Bool:=stB k ps [] M 1 fun out Mf=>rtB out out 0 fun rs m=>frcP (ovI rs rs 0) fun os=>clB rs os fun cs=>K rs (Mf * (1 + m)) cs
noncomputable def chkB (e:List Rl → Nat → Bool) (k:Nat):List Rl → Nat → Bool:=Nat.rec (motive:=fun _=>List Rl → Nat → Bool) (fun ps M=>roundB 60 ps M fun rs M' _=>e rs M') (fun _ ih ps M=>roundB 60 ps M fun rs M' cs=>List.rec (motive:=fun _=>Bool) (e rs M') (fun c t _=>Bool.rec false (ih (appX rs (c :: t)) (2 * M')) (e rs M')) cs) k
noncomputable def allX (f:Rl → Bool) (l:List Rl):Bool:=List.rec (motive:=fun _=>Bool) true (fun r _ ih=>Bool.rec false ih (f r)) l
def menuW (b:Nat):List Wd:=[[],[0],[b],[0,0],[0,b],[b,0],[b,b],[0,b,0],[b,0,b],[0,0,b],[0,b,b],[b,0,0],[b,b,0],[0,0,0]]
def prsOf:List Wd → List Rl
  | []=>[]
  | w :: t=>(w :: t).map (fun u=>(w,u)) ++ prsOf t
end Sg
namespace Sg
theorem frc_eq (w:Wd):∀ k,frc w k = k w:=by
  induction w with
  | nil=>intro k; rfl
  | cons c t ih=>intro k; exact ih _
theorem frcL_eq (w:List Rl):∀ k,frcL w k = k w:=by
  induction w with
  | nil=>intro k; rfl
  | cons c t ih=>intro k; exact ih _
theorem frcP_eq (w:List Rl):∀ k,frcP w k = k w:=by
  induction w with
  | nil=>intro k; rfl
  | cons c t ih =>
    intro k
    show frc c.1 (fun a=>frc c.2 fun b=>frcP t (fun t=>k ((a,b) :: t))) = _
    rw [frc_eq,frc_eq,ih]
theorem strp_cons (c:Nat) (l:Wd) (d:Nat) (t:Wd):strp (c :: l) (d :: t) = if c = d then strp l t else none:=by
  show (Bool.rec none (strp l t) (Nat.beq c d):Option Wd) = _
  by_cases h:c = d
  · subst h; rw [if_pos rfl,Nat.beq_refl]
  · rw [if_neg h,show Nat.beq c d = false from by cases e:Nat.beq c d with | false=>rfl | true=>exact absurd (Nat.eq_of_beq_eq_true e) h]
theorem strp_some:∀ {l w t:Wd},strp l w = some t ↔ w = l ++ t
  | [],w,t=>by
    show some w = some t ↔ _
    rw [List.nil_append]
    exact ⟨Option.some.inj,congrArg some⟩
  | c :: l,[],t=>by
    show none = some t ↔ _
    simp
  | c :: l,d :: w,t=>by
    rw [strp_cons]
    by_cases h:c = d
    · subst h; rw [if_pos rfl,strp_some,List.cons_append]
      exact ⟨fun z=>by rw [z],fun z=>by injection z⟩
    · rw [if_neg h,List.cons_append]
      exact ⟨(fun z=>by cases z),fun z=>absurd (List.cons.inj z).1.symm h⟩
theorem atP_strp {w l:Wd} {p:Nat}:atP w l p = (strp l (w.drop p)).isSome:=by
  rw [Bool.eq_iff_iff,atP_iff,Option.isSome_iff_exists]
  constructor
  · intro h
    exact ⟨(w.drop p).drop l.length,strp_some.mpr (by have:=List.take_append_drop l.length (w.drop p); rw [h] at this; exact this.symm)⟩
  · rintro ⟨t,h⟩
    rw [strp_some.mp h]
    simp
theorem numsAt_cons (r:Rl) (rs:List Rl) (w:Wd) (p:Nat):numsAt (r :: rs) w p = (if atP w r.1 p = true then [0] else []) ++ (numsAt rs w p).map (· + 1):=by
  unfold numsAt
  rw [List.length_cons,List.range_succ_eq_map,List.filter_cons]
  have e:List.filter (fun i=>atP w ((r :: rs).getD i ([],[])).1 p) (List.map Nat.succ (List.range rs.length)) = List.map (· + 1) (List.filter (fun i=>atP w (rs.getD i ([],[])).1 p) (List.range rs.length)):=by
    rw [List.filter_map]
    rfl
  rw [e]
  show (if atP w r.1 p = true then _ else _) = _
  split <;> rfl
theorem tryR_none {rs:List Rl} {W:Wd} {p:Nat} (h:tryR rs (W.drop p) = none):numsAt rs W p = []:=by
  induction rs with
  | nil=>rfl
  | cons r rs ih =>
    have h':(Option.rec (tryR rs (W.drop p)) (fun t=>some (r.2 ++ t)) (strp r.1 (W.drop p)):Option Wd) = none:=h
    rw [numsAt_cons]
    cases e:strp r.1 (W.drop p) with
    | none =>
      rw [e] at h'
      rw [if_neg (by rw [atP_strp,e]; simp),ih h']
      rfl
    | some t=>rw [e] at h'; cases h'
theorem tryR_some {rs:List Rl} {W u:Wd} {p:Nat} (h:tryR rs (W.drop p) = some u):∃ i,(numsAt rs W p).head? = some i ∧ u = (rs.getD i ([],[])).2 ++ W.drop (p + (rs.getD i ([],[])).1.length):=by
  induction rs with
  | nil=>cases h
  | cons r rs ih =>
    have h':(Option.rec (tryR rs (W.drop p)) (fun t=>some (r.2 ++ t)) (strp r.1 (W.drop p)):Option Wd) = some u:=h
    rw [numsAt_cons]
    cases e:strp r.1 (W.drop p) with
    | none =>
      rw [e] at h'
      rw [if_neg (by rw [atP_strp,e]; simp)]
      obtain ⟨i,h1,h2⟩:=ih h'
      refine ⟨i + 1,?_,h2⟩
      rw [List.nil_append,List.head?_map,h1]
      rfl
    | some t =>
      rw [e] at h'
      rw [if_pos (by rw [atP_strp,e]; rfl)]
      refine ⟨0,rfl,?_⟩
      have:some (r.2 ++ t) = some u:=h'
      rw [← Option.some.inj this]
      show _ = r.2 ++ W.drop (p + r.1.length)
      rw [← List.drop_drop,strp_some.mp e]
      simp
theorem stepX_cons (rs:List Rl) (c:Nat) (t:Wd):stepX rs (c :: t) = match tryR rs (c :: t) with | some u=>some u | none=>(stepX rs t).map (c :: ·):=by
  show (Option.rec (Option.rec none (fun u=>some (c :: u)) (stepX rs t)) (fun u=>some u) (tryR rs (c :: t)):Option Wd) = _
  cases tryR rs (c :: t) with
  | some u=>rfl
  | none=>cases stepX rs t <;> rfl
theorem stepX_first {rs:List Rl}:∀ (w a:Wd),(stepX rs w = none → firstF rs (a ++ w) w.length a.length = none) ∧ (∀ u,stepX rs w = some u → ∃ p i,firstF rs (a ++ w) w.length a.length = some (p,i) ∧ app rs (a ++ w) p i = a ++ u)
  | [],a=>⟨fun _=>rfl,fun u h=>by cases h⟩
  | c :: t,a=>by
    have ih:=stepX_first (rs:=rs) t (a ++ [c])
    have ea:a ++ [c] ++ t = a ++ c :: t:=by simp
    have el:(a ++ [c]).length = a.length + 1:=by simp
    rw [ea,el] at ih
    have ed:(a ++ c :: t).drop a.length = c :: t:=by simp
    rw [stepX_cons]
    cases e:tryR rs (c :: t) with
    | some u =>
      obtain ⟨i,h1,h2⟩:=tryR_some (rs:=rs) (W:=a ++ c :: t) (p:=a.length) (by rw [ed]; exact e)
      refine ⟨(fun h=>by cases h),fun v h=>?_⟩
      cases h
      refine ⟨a.length,i,?_,?_⟩
      · show firstF rs (a ++ c :: t) (t.length + 1) a.length = _
        unfold firstF
        rw [h1]
      · unfold app
        rw [h2,List.take_left,List.append_assoc]
    | none =>
      have h1:=tryR_none (rs:=rs) (W:=a ++ c :: t) (p:=a.length) (by rw [ed]; exact e)
      have hf:firstF rs (a ++ c :: t) (c :: t).length a.length = firstF rs (a ++ c :: t) t.length (a.length + 1):=by
        show firstF rs (a ++ c :: t) (t.length + 1) a.length = _
        rw [firstF,h1]
        rfl
      rw [hf]
      refine ⟨fun h=>ih.1 ?_,fun u h=>?_⟩
      · cases e2:stepX rs t with
        | none=>rfl
        | some u=>rw [e2] at h; cases h
      · cases e2:stepX rs t with
        | none=>rw [e2] at h; cases h
        | some v =>
          rw [e2] at h
          cases h
          obtain ⟨p,i,h3,h4⟩:=ih.2 v e2
          exact ⟨p,i,h3,by rw [h4]; simp⟩
theorem stepX_none {rs:List Rl} {w:Wd} (h:stepX rs w = none):first rs w = none:=(stepX_first w []).1 h
theorem stepX_some {rs:List Rl} {w u:Wd} (h:stepX rs w = some u):∃ p i,first rs w = some (p,i) ∧ app rs w p i = u:=(stepX_first w []).2 u h
theorem grB_ok {rs:List Rl} {K:Wd → Nat → Bool}:∀ (k:Nat) {w:Wd} {n:Nat},grB rs k w n K = true → ∃ f ss,Down rs w f ss ∧ K f (n + ss.length) = true
  | 0,_,_,h=>by cases h
  | k + 1,w,n,h=>by
    have h':(Option.rec (K w n) (fun u=>frc u (fun u'=>grB rs k u' (Nat.succ n) K)) (stepX rs w):Bool) = true:=h
    cases e:stepX rs w with
    | none=>rw [e] at h'; exact ⟨w,[],.done (stepX_none e),h'⟩
    | some u =>
      rw [e] at h'
      have h2:frc u (fun u'=>grB rs k u' (Nat.succ n) K) = true:=h'
      rw [frc_eq] at h2
      obtain ⟨f,ss,d,hk⟩:=grB_ok k h2
      obtain ⟨p,i,h3,h4⟩:=stepX_some e
      refine ⟨f,(p,i) :: ss,.step h3 (by rw [h4]; exact d),?_⟩
      rw [List.length_cons,show n + (ss.length + 1) = Nat.succ n + ss.length by lia]
      exact hk
theorem grB_ok2 {rs:List Rl} {K:Wd → Nat → Bool}:∀ (k:Nat) {w:Wd} {n:Nat},grB rs k w n K = true → ∃ f ss,Down rs w f ss ∧ ss.length ≤ k ∧ K f (n + ss.length) = true
  | 0,_,_,h=>by cases h
  | k + 1,w,n,h=>by
    have h':(Option.rec (K w n) (fun u=>frc u (fun u'=>grB rs k u' (Nat.succ n) K)) (stepX rs w):Bool) = true:=h
    cases e:stepX rs w with
    | none=>rw [e] at h'; exact ⟨w,[],.done (stepX_none e),Nat.zero_le _,h'⟩
    | some u =>
      rw [e] at h'
      have h2:frc u (fun u'=>grB rs k u' (Nat.succ n) K) = true:=h'
      rw [frc_eq] at h2
      obtain ⟨f,ss,d,hl,hk⟩:=grB_ok2 k h2
      obtain ⟨p,i,h3,h4⟩:=stepX_some e
      refine ⟨f,(p,i) :: ss,.step h3 (by rw [h4]; exact d),by rw [List.length_cons]; lia,?_⟩
      rw [List.length_cons,show n + (ss.length + 1) = Nat.succ n + ss.length by lia]
      exact hk
end Sg
namespace Sg
theorem beq_no {c d:Nat} (h:c ≠ d):Nat.beq c d = false:=by
  cases e:Nat.beq c d with
  | false=>rfl
  | true=>exact absurd (Nat.eq_of_beq_eq_true e) h
theorem eqX_iff:∀ {a b:Wd},eqX a b = true ↔ a = b
  | [],[]=>⟨fun _=>rfl,fun _=>rfl⟩
  | [],_ :: _=>⟨(fun z=>by cases z),(fun z=>by cases z)⟩
  | _ :: _,[]=>⟨(fun z=>by cases z),(fun z=>by cases z)⟩
  | c :: a,d :: b=>by
    show (Bool.rec false (eqX a b) (Nat.beq c d):Bool) = true ↔ _
    by_cases h:c = d
    · subst h
      rw [Nat.beq_refl]
      show eqX a b = true ↔ _
      rw [eqX_iff]
      exact ⟨fun z=>by rw [z],fun z=>by injection z⟩
    · rw [beq_no h]
      exact ⟨(fun z=>by cases z),fun z=>absurd (List.cons.inj z).1 h⟩
theorem eqX_no {a b:Wd} (h:eqX a b = false):a ≠ b:=fun e=>by rw [eqX_iff.mpr e] at h; cases h
theorem blt_eq (a b:Nat):Nat.blt a b = decide (a < b):=by
  rw [Bool.eq_iff_iff,decide_eq_true_iff]
  show Nat.ble (a + 1) b = true ↔ _
  exact ⟨Nat.le_of_ble_eq_true,Nat.ble_eq_true_of_le⟩
theorem ltX_eq:∀ (a b:Wd),ltX a b = decide (a < b)
  | [],[]=>by simp; rfl
  | [],_ :: _=>by simp; rfl
  | _ :: _,[]=>by simp; rfl
  | c :: a,d :: b=>by
    show (Bool.rec (Nat.blt c d) (ltX a b) (Nat.beq c d):Bool) = _
    by_cases h:c = d
    · subst h
      rw [Nat.beq_refl]
      show ltX a b = _
      rw [ltX_eq a b]
      simp [List.cons_lt_cons_iff]
    · rw [beq_no h]
      show Nat.blt c d = _
      rw [blt_eq]
      simp [List.cons_lt_cons_iff,h]
theorem befX_eq (a b:Wd):befX a b = bef a b:=by
  unfold befX bef
  by_cases h:a.length = b.length
  · rw [if_pos h,h,Nat.beq_refl]
    exact ltX_eq a b
  · rw [if_neg h,beq_no h]
    exact blt_eq _ _
theorem occX_iff {l:Wd}:∀ {w:Wd},occX l w = true ↔ Occ l w
  | []=>by
    show (strp l []).isSome = true ↔ _
    rw [Option.isSome_iff_exists]
    constructor
    · rintro ⟨t,h⟩
      exact ⟨[],t,by rw [List.nil_append]; exact strp_some.mp h⟩
    · rintro ⟨a,b,h⟩
      have h1:a = []:=by cases a with | nil=>rfl | cons _ _=>simp at h
      subst h1
      exact ⟨b,strp_some.mpr h⟩
  | c :: t=>by
    show (Bool.rec (occX l t) true (strp l (c :: t)).isSome:Bool) = true ↔ _
    cases e:(strp l (c :: t)).isSome with
    | true =>
      obtain ⟨u,h⟩:=Option.isSome_iff_exists.mp e
      exact ⟨fun _=>⟨[],u,by rw [List.nil_append]; exact strp_some.mp h⟩,fun _=>rfl⟩
    | false =>
      show occX l t = true ↔ _
      rw [occX_iff]
      constructor
      · rintro ⟨a,b,h⟩
        exact ⟨c :: a,b,by rw [h]; rfl⟩
      · rintro ⟨a,b,h⟩
        cases a with
        | nil =>
          have:(strp l (c :: t)).isSome = true:=by rw [strp_some.mpr (by rw [h]; rfl)]; rfl
          rw [this] at e; cases e
        | cons d a =>
          have:=List.cons.inj h
          exact ⟨a,b,this.2⟩
theorem occX_eq (l w:Wd):occX l w = occB l w:=by
  rw [Bool.eq_iff_iff,occX_iff,occB_iff]
theorem filX_eq (f:Rl → Bool):∀ l,filX f l = l.filter f
  | []=>rfl
  | r :: t=>by
    show (Bool.rec (filX f t) (r :: filX f t) (f r):List Rl) = _
    rw [filX_eq f t,List.filter_cons]
    cases f r <;> rfl
theorem appX_eq:∀ a b,appX a b = a ++ b
  | [],_=>rfl
  | r :: t,b=>congrArg (r :: ·) (appX_eq t b)
theorem putX_eq (kp:List Rl) (x:Rl):putX kp x = putIn kp x:=by
  unfold putX putIn
  rw [appX_eq,filX_eq,filX_eq]
  simp only [befX_eq]
theorem anyOcc_no {l:Wd}:∀ {rs:List Rl},anyOcc l rs = false → ∀ r ∈ rs,occB l r.1 = false
  | [],_,_,z=>(nomatch z)
  | r :: rs,h,q,hq=>by
    have h':(Bool.rec (anyOcc l rs) true (occX l r.1):Bool) = false:=h
    cases e:occX l r.1 with
    | true=>rw [e] at h'; cases h'
    | false =>
      rw [e] at h'
      rcases List.mem_cons.mp hq with z | z
      · subst z; rw [← occX_eq]; exact e
      · exact anyOcc_no h' q z
theorem nxtX_eq (t rs:List Rl) (f g:Wd) (k:List Rl → List Rl → Bool):nxtX t rs f g k = k (t ++ rs.filter fun r=>occB f r.1) (putIn (rs.filter fun r=>!occB f r.1) (f,g)):=by
  unfold nxtX
  cases e:anyOcc f rs with
  | true =>
    show (frcL (appX t (filX (fun r=>occX f r.1) rs)) fun t'=>frcL (putX (filX (fun r=>not (occX f r.1)) rs) (f,g)) fun rs'=>k t' rs') = _
    rw [frcL_eq,frcL_eq,appX_eq,filX_eq,filX_eq,putX_eq]
    simp only [occX_eq]
  | false =>
    show (frcL (putX rs (f,g)) fun rs'=>k t rs') = _
    have no:=anyOcc_no e
    have e1:rs.filter (fun r=>occB f r.1) = []:=List.filter_eq_nil_iff.mpr fun r hr=>by rw [no r hr]; exact Bool.false_ne_true
    have e2:rs.filter (fun r=>!occB f r.1) = rs:=List.filter_eq_self.mpr fun r hr=>by rw [no r hr]; rfl
    rw [frcL_eq,putX_eq,e1,e2,List.append_nil]
theorem selN_eq (a b:Nat) (C:Nat → Bool):selN a b C = C (max a b):=by
  unfold selN
  cases e:Nat.ble a b with
  | true =>
    have:=Nat.le_of_ble_eq_true e
    show C b = _
    rw [Nat.max_eq_right this]
  | false =>
    have:¬ a ≤ b:=fun z=>by rw [Nat.ble_eq_true_of_le z] at e; cases e
    show C a = _
    rw [Nat.max_eq_left (by lia)]
theorem stB_ok {K:List Rl → Nat → Bool}:∀ (k:Nat) {td rs:List Rl} {A M:Nat},stB k td rs A M K = true → ∃ j out Mf,StlM j A M td rs out Mf ∧ K out Mf = true
  | 0,_,_,_,_,h=>by cases h
  | k + 1,[],rs,A,M,h=>⟨0,rs,M,.done A M rs,h⟩
  | k + 1,p :: t,rs,A,M,h=>by
    have h':(grB rs 60 p.1 0 fun f n=>grB rs 60 p.2 0 fun g m=>Bool.rec (selN A M fun A'=>selN M (A + (n + m) * M) fun M'=>Bool.rec (nxtX t rs f g fun t' rs'=>stB k t' rs' A' M' K) (nxtX t rs g f fun t' rs'=>stB k t' rs' A' M' K) (befX f g)) (stB k t rs A M K) (eqX f g)) = true:=h
    obtain ⟨f,ss1,d1,l1,h1⟩:=grB_ok2 60 h'
    obtain ⟨g,ss2,d2,l2,h2⟩:=grB_ok2 60 h1
    rw [Nat.zero_add,Nat.zero_add] at h2
    cases e:eqX f g with
    | true =>
      rw [e] at h2
      obtain ⟨j,out,Mf,s,hk⟩:=stB_ok k (show stB k t rs A M K = true from h2)
      have:=eqX_iff.mp e
      subst this
      exact ⟨j + 1,out,Mf,.same d1 d2 (by lia) s,hk⟩
    | false =>
      rw [e] at h2
      have h2:(selN A M fun A'=>selN M (A + (ss1.length + ss2.length) * M) fun M'=>Bool.rec (nxtX t rs f g fun t' rs'=>stB k t' rs' A' M' K) (nxtX t rs g f fun t' rs'=>stB k t' rs' A' M' K) (befX f g)) = true:=h2
      rw [selN_eq,selN_eq] at h2
      cases e2:befX f g with
      | false =>
        rw [e2] at h2
        have h3:(nxtX t rs f g fun t' rs'=>stB k t' rs' (max A M) (max M (A + (ss1.length + ss2.length) * M)) K) = true:=h2
        rw [nxtX_eq] at h3
        obtain ⟨j,out,Mf,s,hk⟩:=stB_ok k h3
        have el:latF f g = (f,g):=by unfold latF; rw [if_neg (by rw [← befX_eq,e2]; simp)]
        exact ⟨j + 1,out,Mf,.fresh d1 d2 (eqX_no e) (by lia) (by rw [el]; exact s),hk⟩
      | true =>
        rw [e2] at h2
        have h3:(nxtX t rs g f fun t' rs'=>stB k t' rs' (max A M) (max M (A + (ss1.length + ss2.length) * M)) K) = true:=h2
        rw [nxtX_eq] at h3
        obtain ⟨j,out,Mf,s,hk⟩:=stB_ok k h3
        have el:latF f g = (g,f):=by unfold latF; rw [if_pos (by rw [← befX_eq,e2])]
        exact ⟨j + 1,out,Mf,.fresh d1 d2 (eqX_no e) (by lia) (by rw [el]; exact s),hk⟩
theorem rtB_ok {out:List Rl}:∀ (l:List Rl) {m:Nat} {K:List Rl → Nat → Bool},rtB out l m K = true → ∃ m',m ≤ m' ∧ (∀ r ∈ l,∀ f ss,Down out r.2 f ss → ss.length ≤ m') ∧ K (l.map fun r=>(r.1,nf out r.2)) m' = true
  | [],m,K,h=>⟨m,Nat.le_refl _,fun _ z=>(nomatch z),h⟩
  | r :: l,m,K,h=>by
    have h':(grB out 60 r.2 0 fun f n=>rtB out l (Bool.rec m n (Nat.ble m n)) (fun rs m'=>K ((r.1,f) :: rs) m')) = true:=h
    obtain ⟨f,ss,d,h1⟩:=grB_ok 60 h'
    rw [Nat.zero_add] at h1
    obtain ⟨m',h2,h3,h4⟩:=rtB_ok l h1
    have h5:m ≤ m' ∧ ss.length ≤ m':=by
      cases e:Nat.ble m ss.length with
      | true =>
        rw [e] at h2
        have h2:ss.length ≤ m':=h2
        have:=Nat.le_of_ble_eq_true e
        lia
      | false =>
        rw [e] at h2
        have h2:m ≤ m':=h2
        have:¬ m ≤ ss.length:=fun z=>by rw [Nat.ble_eq_true_of_le z] at e; cases e
        lia
    refine ⟨m',h5.1,fun q hq f' ss' d'=>?_,?_⟩
    · rcases List.mem_cons.mp hq with z | z
      · subst z
        rw [(d.det d').2]; exact h5.2
      · exact h3 q z f' ss' d'
    · rw [List.map_cons,nf_of d]
      exact h4
end Sg
namespace Sg
def agr (t l:Wd) (m:Nat):Bool:=(List.range m).all fun k=>t.getD k 0 == l.getD k 0
theorem agr_succ (c d:Nat) (t l:Wd) (m:Nat):agr (c :: t) (d :: l) (m + 1) = ((c == d) && agr t l m):=by
  unfold agr
  rw [List.range_succ_eq_map,List.all_cons,List.all_map]
  rfl
theorem fitX_eq:∀ (t l:Wd),fitX t l = if agr t l (min t.length l.length) = true then some (l.drop t.length,t.drop l.length) else none
  | [],l=>by
    show some (l,[]) = _
    rw [if_pos (by rw [List.length_nil,Nat.zero_min]; rfl)]
    simp
  | c :: t,[]=>by
    show some ([],c :: t) = _
    rw [if_pos (by rw [List.length_nil,Nat.min_zero]; rfl)]
    rfl
  | c :: t,d :: l=>by
    show (Bool.rec none (fitX t l) (Nat.beq c d):Option (Wd × Wd)) = _
    have e:min (c :: t).length (d :: l).length = min t.length l.length + 1:=by simp only [List.length_cons]; lia
    rw [e,agr_succ]
    by_cases h:c = d
    · subst h
      rw [Nat.beq_refl,beq_self_eq_true,Bool.true_and]
      show fitX t l = _
      rw [fitX_eq t l]
      rfl
    · rw [beq_no h,show (c == d) = false from by simpa using h,Bool.false_and]
      rfl
theorem fitsAt_agr (a t l:Wd):fitsAt (a ++ t) l a.length = agr t l (min t.length l.length):=by
  unfold fitsAt fitM fitN agr
  have e:min (a ++ t).length (a.length + l.length) - a.length = min t.length l.length:=by rw [List.length_append]; lia
  rw [e]
  congr 1
  funext k
  congr 1
  rw [List.getD_eq_getElem?_getD,List.getD_eq_getElem?_getD,List.getElem?_append_right (by lia)]
  congr 2
  lia
def fo (rs:List Rl) (o:Ov):Rl:=(cl1 rs o,cl2 rs o)
theorem fo_is {rs:List Rl} {i j:Nat} {a t:Wd} (h:(rs.getD i ([],[])).1 = a ++ t) :
    fo rs ((rs.getD i ([],[])).1 ++ (rs.getD j ([],[])).1.drop ((rs.getD i ([],[])).1.length - a.length),i,j,a.length) =
      ((rs.getD i ([],[])).2 ++ (rs.getD j ([],[])).1.drop t.length,a ++ ((rs.getD j ([],[])).2 ++ t.drop (rs.getD j ([],[])).1.length)):=by
  unfold fo cl1 cl2
  have e1:(rs.getD i ([],[])).1.length - a.length = t.length:=by rw [h,List.length_append]; lia
  dsimp only
  rw [e1,List.drop_left,h]
  have e2:(a ++ t ++ (rs.getD j ([],[])).1.drop t.length).take a.length = a:=by simp
  have e3:(a ++ t ++ (rs.getD j ([],[])).1.drop t.length).drop (a.length + (rs.getD j ([],[])).1.length) = t.drop (rs.getD j ([],[])).1.length:=by
    rw [List.append_assoc,← List.drop_drop,List.drop_left,List.drop_append]
    have:((rs.getD j ([],[])).1.drop t.length).drop ((rs.getD j ([],[])).1.length - t.length) = []:=List.drop_eq_nil_of_le (by rw [List.length_drop]; lia)
    rw [this,List.append_nil]
  rw [e2,e3,List.append_assoc]
theorem ovX_is {rs:List Rl} {i j:Nat} (acc:List Rl):∀ (t a:Wd) (z:Bool),(rs.getD i ([],[])).1 = a ++ t → z = (decide (0 < a.length) || !decide (i = j)) →
    ovX (rs.getD i ([],[])) (rs.getD j ([],[])) t a z acc = ((List.range t.length).flatMap fun k=>(ovP rs i j (a.length + k)).map (fo rs)) ++ acc
  | [],a,z,_,_=>rfl
  | c :: t,a,z,h,hz=>by
    have ih:=ovX_is (rs:=rs) (i:=i) (j:=j) acc t (a ++ [c]) true (by rw [h]; simp) (by simp)
    have e0:ovX (rs.getD i ([],[])) (rs.getD j ([],[])) (c :: t) a z acc = (Bool.rec (ovX (rs.getD i ([],[])) (rs.getD j ([],[])) t (a ++ [c]) true acc) (Option.rec (ovX (rs.getD i ([],[])) (rs.getD j ([],[])) t (a ++ [c]) true acc)
        (fun x=>((rs.getD i ([],[])).2 ++ x.1,a ++ ((rs.getD j ([],[])).2 ++ x.2)) :: ovX (rs.getD i ([],[])) (rs.getD j ([],[])) t (a ++ [c]) true acc) (fitX (c :: t) (rs.getD j ([],[])).1)) z:List Rl):=rfl
    rw [e0,List.length_cons,List.range_succ_eq_map,List.flatMap_cons,List.flatMap_map]
    have e1:((List.range t.length).flatMap fun k=>(ovP rs i j (a.length + k.succ)).map (fo rs)) ++ acc = ovX (rs.getD i ([],[])) (rs.getD j ([],[])) t (a ++ [c]) true acc:=by
      rw [ih]
      congr 2
      funext k
      rw [List.length_append,List.length_singleton,show a.length + k.succ = a.length + 1 + k by lia]
    have e2:(ovP rs i j (a.length + 0)).map (fo rs) = if z = true ∧ agr (c :: t) (rs.getD j ([],[])).1 (min (c :: t).length (rs.getD j ([],[])).1.length) = true then [((rs.getD i ([],[])).2 ++ (rs.getD j ([],[])).1.drop (c :: t).length,a ++ ((rs.getD j ([],[])).2 ++ (c :: t).drop (rs.getD j ([],[])).1.length))] else []:=by
      rw [Nat.add_zero]
      have hf:fitsAt (rs.getD i ([],[])).1 (rs.getD j ([],[])).1 a.length = agr (c :: t) (rs.getD j ([],[])).1 (min (c :: t).length (rs.getD j ([],[])).1.length):=by rw [h]; exact fitsAt_agr a (c :: t) _
      unfold ovP
      rw [hf,← hz]
      by_cases hc:z = true ∧ agr (c :: t) (rs.getD j ([],[])).1 (min (c :: t).length (rs.getD j ([],[])).1.length) = true
      · rw [if_pos hc,hc.1,hc.2,if_pos (by rfl),List.map_singleton,fo_is h]
      · rw [if_neg hc,if_neg (by rw [Bool.and_eq_true]; exact hc)]
        rfl
    rw [List.append_assoc]
    show _ = _ ++ (((List.range t.length).flatMap fun k=>(ovP rs i j (a.length + k.succ)).map (fo rs)) ++ acc)
    rw [e1,e2,fitX_eq]
    cases z with
    | false=>rw [if_neg (c:=false = true ∧ _) (fun z=>Bool.false_ne_true z.1)]; rfl
    | true =>
      by_cases hc:agr (c :: t) (rs.getD j ([],[])).1 (min (c :: t).length (rs.getD j ([],[])).1.length) = true
      · rw [if_pos hc,if_pos ⟨rfl,hc⟩]; rfl
      · rw [if_neg hc,if_neg (fun z=>hc z.2)]; rfl
theorem getD_drop {rs l:List Rl} {q:Rl} {j:Nat} (h:rs.drop j = q :: l):rs.getD j ([],[]) = q ∧ rs.drop (j + 1) = l:=by
  constructor
  · have:=congrArg (fun x=>x[0]?) h
    rw [List.getD_eq_getElem?_getD]
    simp only [List.getElem?_drop,Nat.add_zero] at this
    rw [this]; rfl
  · rw [← List.drop_drop,h]; rfl
theorem ovJ_is {rs:List Rl} {i:Nat} (acc:List Rl):∀ (l:List Rl) (j:Nat),rs.drop j = l →
    ovJ (rs.getD i ([],[])) i l j acc = ((List.range l.length).flatMap fun k=>(ovPs rs i (j + k) (rs.getD i ([],[])).1.length).map (fo rs)) ++ acc
  | [],_,_=>rfl
  | q :: l,j,h=>by
    obtain ⟨h1,h2⟩:=getD_drop h
    have ih:=ovJ_is (i:=i) acc l (j + 1) h2
    show ovX (rs.getD i ([],[])) q (rs.getD i ([],[])).1 [] (not (Nat.beq i j)) (ovJ (rs.getD i ([],[])) i l (j + 1) acc) = _
    rw [← h1,ovX_is (rs:=rs) (i:=i) (j:=j) _ (rs.getD i ([],[])).1 [] (not (Nat.beq i j)) rfl ?_,ih]
    · rw [List.length_cons,List.range_succ_eq_map,List.flatMap_cons,List.flatMap_map,List.append_assoc]
      congr 1
      · unfold ovPs
        rw [List.map_flatMap]
        simp
      · congr 2
        funext k
        rw [show j + 1 + k = j + k.succ by lia]
    · by_cases hij:i = j
      · subst hij; rw [Nat.beq_refl]; simp
      · rw [beq_no hij]; simp [hij]
theorem ovI_is {rs:List Rl}:∀ (l:List Rl) (i:Nat),rs.drop i = l → ovI rs l i = (List.range l.length).flatMap fun k=>(ovJs rs (i + k) rs.length).map (fo rs)
  | [],_,_=>rfl
  | q :: l,i,h=>by
    obtain ⟨h1,h2⟩:=getD_drop h
    have ih:=ovI_is l (i + 1) h2
    show ovJ q i rs 0 (ovI rs l (i + 1)) = _
    rw [← h1,ovJ_is (i:=i) _ rs 0 rfl,ih,List.length_cons,List.range_succ_eq_map,List.flatMap_cons,List.flatMap_map]
    congr 1
    · unfold ovJs
      rw [List.map_flatMap]
      simp
    · congr 1
      funext k
      rw [show i + 1 + k = i + k.succ by lia]
theorem ovI_overs (rs:List Rl):ovI rs rs 0 = (overs rs).map (fo rs):=by
  rw [ovI_is rs 0 rfl]
  unfold overs ovIs
  rw [List.map_flatMap]
  simp
theorem clB_ok {rs:List Rl}:∀ (os:List Ov) {K:List Rl → Bool},clB rs (os.map (fo rs)) K = true → K (os.flatMap fun o=>clO rs o) = true
  | [],_,h=>h
  | o :: os,K,h=>by
    have h':(grB rs 60 (cl1 rs o) 0 fun f _=>grB rs 60 (cl2 rs o) 0 fun g _=>Bool.rec (clB rs (os.map (fo rs)) fun cs=>K (fo rs o :: cs)) (clB rs (os.map (fo rs)) K) (eqX f g)) = true:=h
    obtain ⟨f,ss1,d1,h1⟩:=grB_ok 60 h'
    obtain ⟨g,ss2,d2,h2⟩:=grB_ok 60 h1
    rw [List.flatMap_cons]
    have e:clO rs o = if f = g then [] else [fo rs o]:=by unfold clO; rw [nf_of d1,nf_of d2]; rfl
    rw [e]
    cases he:eqX f g with
    | true =>
      rw [he] at h2
      rw [if_pos (eqX_iff.mp he)]
      exact clB_ok os h2
    | false =>
      rw [he] at h2
      rw [if_neg (eqX_no he)]
      exact clB_ok os (K:=fun cs=>K (fo rs o :: cs)) h2
inductive SetM (M:Nat) (ps rs:List Rl) (Mo:Nat):Prop
  | mk (j:_) (out:_) (Mf:_) (h1_:StlM j M 1 ps [] out Mf) (h2_:Mf ≤ Mo) (h3_:(∀ r ∈ out,∀ f ss,Down out r.2 f ss → Mf * (1 + ss.length) ≤ Mo)) (h4_:rs = out.map fun r=>(r.1,nf out r.2)):SetM M ps rs Mo
inductive Go:Nat → List Rl → Nat → List Rl → Nat → Prop
  | zero (rs:List Rl) (M:Nat):Go 0 rs M rs M
  | stay (k:Nat) {rs:List Rl} (M:Nat):clashes rs = [] → Go (k + 1) rs M rs M
  | step {k:Nat} {rs rs1 rs':List Rl} {M M1 Mo:Nat}:clashes rs ≠ [] → SetM (2 * M) (rs ++ clashes rs) rs1 M1 → M1 ≤ 1000 → Go k rs1 M1 rs' Mo → Go (k + 1) rs M rs' Mo
inductive RndM (ps:List Rl) (k:Nat) (rs':List Rl) (Mo:Nat):Prop
  | mk (rs:_) (M:_) (h1_:SetM 1 ps rs M) (h2_:M ≤ 1000) (h3_:Go k rs M rs' Mo):RndM ps k rs' Mo
theorem roundB_ok {k:Nat} {ps:List Rl} {M:Nat} {K:List Rl → Nat → List Rl → Bool} (h:roundB k ps M K = true):∃ rs Mo,SetM M ps rs Mo ∧ K rs Mo (clashes rs) = true:=by
  unfold roundB at h
  obtain ⟨j,out,Mf,s,h1⟩:=stB_ok k h
  obtain ⟨m,_,h2,h3⟩:=rtB_ok out h1
  rw [frcP_eq,ovI_overs] at h3
  exact ⟨_,_,⟨j,out,Mf,s,Nat.le_mul_of_pos_right _ (by lia),fun r hr f ss d=>Nat.mul_le_mul_left _ (by have:=h2 r hr f ss d; lia),rfl⟩,clB_ok _ h3⟩
theorem chkB_ok {e:List Rl → Nat → Bool} (he:∀ rs M,e rs M = true → M ≤ 1000):∀ (k:Nat) {ps:List Rl} {M:Nat},chkB e k ps M = true → ∃ rs M1,SetM M ps rs M1 ∧ e rs M1 = true ∧ ∀ i,i ≤ k → ∃ rs' Mo,Go i rs M1 rs' Mo ∧ e rs' Mo = true
  | 0,ps,M,h=>by
    obtain ⟨rs,Mo,s,h1⟩:=roundB_ok (show roundB 60 ps M (fun rs M' _=>e rs M') = true from h)
    refine ⟨rs,Mo,s,h1,fun i hi=>?_⟩
    have:i = 0:=by lia
    subst this
    exact ⟨rs,Mo,.zero _ _,h1⟩
  | k + 1,ps,M,h=>by
    obtain ⟨rs,M1,s,h1⟩:=roundB_ok (show roundB 60 ps M (fun rs M' cs=>List.rec (motive:=fun _=>Bool) (e rs M') (fun c t _=>Bool.rec false (chkB e k (appX rs (c :: t)) (2 * M')) (e rs M')) cs) = true from h)
    cases ec:clashes rs with
    | nil =>
      rw [ec] at h1
      have h2:e rs M1 = true:=h1
      refine ⟨rs,M1,s,h2,fun i hi=>?_⟩
      cases i with
      | zero=>exact ⟨rs,M1,.zero _ _,h2⟩
      | succ i=>exact ⟨rs,M1,.stay i _ ec,h2⟩
    | cons c t =>
      rw [ec] at h1
      have h1:(Bool.rec false (chkB e k (appX rs (c :: t)) (2 * M1)) (e rs M1):Bool) = true:=h1
      cases e2:e rs M1 with
      | false=>rw [e2] at h1; cases h1
      | true =>
        rw [e2] at h1
        have h1:chkB e k (appX rs (c :: t)) (2 * M1) = true:=h1
        rw [appX_eq,← ec] at h1
        obtain ⟨rs1,M2,s1,hM2,g⟩:=chkB_ok he k h1
        refine ⟨rs,M1,s,e2,fun i hi=>?_⟩
        cases i with
        | zero=>exact ⟨rs,M1,.zero _ _,e2⟩
        | succ i =>
          obtain ⟨rs',Mo,g1,hMo⟩:=g i (by lia)
          exact ⟨rs',Mo,.step (by rw [ec]; simp) s1 (he _ _ hM2) g1,hMo⟩
end Sg
namespace Sg
open PySem L2
inductive spClash (vs:List V) (H:Hp) (Q:VK) (E_:XK):Prop
  | mk (a:_) (rs:_) (al:_) (n:_) (h1_:vs = [.ref a]) (h2_:RsAt H a rs) (h3_:Good rs al n) (h4_:n ≤ 50) (h5_:rs.length ≤ 100) (h6_:(∀ u,Over al u → u.length + 1 ≤ 2 * n → rank al u ≤ 4000000)) (h7_:∀ r H',Same H H' → RsAt H' r (clashes rs) → Q (.ref r) H'):spClash vs H Q E_
theorem clO_len (rs:List Rl) (o:Ov):(clO rs o).length ≤ 1:=by
  unfold clO
  split <;> simp
theorem flatO_len (rs:List Rl):∀ os:List Ov,(os.flatMap fun o=>clO rs o).length ≤ os.length
  | []=>by simp
  | o :: r=>by
    have h1:=clO_len rs o
    have h2:=flatO_len rs r
    rw [List.flatMap_cons,List.length_append,List.length_cons]
    lia
theorem take_flat {α β:Type} {f:α → List β} {xs:List α} {i:Nat} {x:α} (h:xs[i]? = some x):(xs.take (i + 1)).flatMap f = (xs.take i).flatMap f ++ f x:=by
  rw [List.take_add_one,h,List.flatMap_append]
  simp
end Sg
namespace Sg
open PySem L2
theorem flat_less {α:Type} {f:Nat → List α} {c i:Nat} (h:∀ j,(f j).length ≤ c) (hi:(f i).length + 1 ≤ c):∀ m,i < m → ((List.range m).flatMap f).length + 1 ≤ m * c
  | 0,z=>absurd z (Nat.not_lt_zero _)
  | m + 1,z=>by
    rw [flat_succ,List.length_append,Nat.succ_mul]
    by_cases e:i = m
    · have:=flat_len h m
      rw [← e] at this ⊢
      lia
    · have:=flat_less h hi m (by lia)
      have:=h m
      lia
theorem overs_less {rs:List Rl} {n:Nat} (h:∀ r ∈ rs,r.1.length ≤ n) (hne:∀ r ∈ rs,r.1 ≠ []):(overs rs).length ≤ rs.length * (rs.length * n - 1):=by
  refine flat_len (f:=fun i=>ovJs rs i rs.length) (fun i=>?_) rs.length
  by_cases hi:i < rs.length
  · have hm:=getD_mem hi
    have hl:=h _ hm
    have hp:0 < (rs.getD i ([],[])).1.length:=List.length_pos_iff.mpr (hne _ hm)
    have one:(ovPs rs i i (rs.getD i ([],[])).1.length).length + 1 ≤ (rs.getD i ([],[])).1.length * 1:=flat_less (f:=fun p=>ovP rs i i p) (i:=0) (fun p=>ovP_len rs i i p) (by
      show (ovP rs i i 0).length + 1 ≤ 1
      unfold ovP
      rw [if_neg (by simp)]
      exact Nat.le_refl _) _ hp
    have:=flat_less (f:=fun j=>ovPs rs i j (rs.getD i ([],[])).1.length) (i:=i) (c:=n) (fun j=>Nat.le_trans (ovPs_len rs i j _) hl) (by show (ovPs rs i i (rs.getD i ([],[])).1.length).length + 1 ≤ n; lia) rs.length hi
    show (ovJs rs i rs.length).length ≤ _
    unfold ovJs
    lia
  · have e:(rs.getD i ([],[])).1 = []:=by rw [List.getD_eq_getElem?_getD,List.getElem?_eq_none (by lia)]; rfl
    have:=ovJs_len (n:=0) (rs:=rs) (i:=i) (j:=rs.length)
    show (ovJs rs i rs.length).length ≤ _
    unfold ovJs
    rw [e]
    have z:=flat_len (f:=fun j=>ovPs rs i j ([]:Wd).length) (c:=0) (fun j=>by show (ovPs rs i j 0).length ≤ 0; exact Nat.le_refl _) rs.length
    lia
theorem clashes_less {rs:List Rl} {al:Wd} {n:Nat} (g:Good rs al n):(clashes rs).length ≤ rs.length * (rs.length * n - 1) :=
  Nat.le_trans (flatO_len rs (overs rs)) (overs_less g.ln fun r hr=>g.ne hr)
theorem clashes_ok {rs:List Rl} {al:Wd} {n:Nat} (g:Good rs al n) {r:Rl} (h:r ∈ clashes rs):Wok al (2 * n - 1) r:=by
  obtain ⟨o,ho,hr⟩:=List.mem_flatMap.mp h
  unfold clO at hr
  split at hr
  · cases hr
  · rw [List.mem_singleton.mp hr]
    obtain ⟨c1,c2,l1,l2⟩:=cl_words g ho
    obtain ⟨_,_,_,_,hl,_,_⟩:=overs_word g ho
    exact ⟨c1,c2,by show (cl1 rs o).length ≤ _; lia,by show (cl2 rs o).length ≤ _; lia⟩
theorem Good.wide {rs:List Rl} {al:Wd} {n n':Nat} (g:Good rs al n) (h:n ≤ n'):Good rs al n':=⟨g.inc,g.bf,g.sm,fun r hr=>Nat.le_trans (g.ln r hr) h⟩
def cc (c:Nat):Nat → Nat
  | 0=>c
  | i + 1=>cc c i + cc c i * (cc c i * (2 ^ (i + 1) + 1) - 1)
theorem cc_mono (c i:Nat):cc c i ≤ cc c (i + 1):=Nat.le_add_right _ _
theorem cc_le (c:Nat):∀ {i k:Nat},i ≤ k → cc c i ≤ cc c k:=fun {i k} h=>by
  induction h with
  | refl=>exact Nat.le_refl _
  | step _ ih=>exact Nat.le_trans ih (cc_mono c _)
def nn (i:Nat):Nat:=2 ^ (i + 1) + 1
theorem nn_le {i k:Nat} (h:i ≤ k):nn i ≤ nn k:=Nat.add_le_add_right (Nat.pow_le_pow_right (by decide) (Nat.succ_le_succ h)) 1
theorem nn_succ (i:Nat):nn (i + 1) = 2 * nn i - 1:=by
  unfold nn
  rw [Nat.pow_succ 2 (i + 1)]
  lia
inductive Rnds (ps:List Rl):Nat → List Rl → Prop
  | zero {rs:List Rl}:Settles ps rs → Rnds ps 0 rs
  | stay {k:Nat} {rs:List Rl}:Rnds ps k rs → clashes rs = [] → Rnds ps (k + 1) rs
  | go {k:Nat} {rs rs':List Rl}:Rnds ps k rs → clashes rs ≠ [] → Settles (rs ++ clashes rs) rs' → Rnds ps (k + 1) rs'
theorem Rnds.det {ps:List Rl}:∀ {k:Nat} {r1 r2:List Rl},Rnds ps k r1 → Rnds ps k r2 → r1 = r2
  | 0,_,_,.zero h1,.zero h2=>h1.det h2
  | k + 1,_,_,.stay h1 _,.stay h2 _=>h1.det h2
  | k + 1,_,_,.stay h1 e1,.go h2 n2 _=>by rw [h1.det h2] at e1; exact absurd e1 n2
  | k + 1,_,_,.go h1 n1 _,.stay h2 e2=>by rw [h1.det h2] at n1; exact absurd e2 n1
  | k + 1,_,_,.go h1 _ s1,.go h2 _ s2=>by
    have:=h1.det h2
    subst this
    exact s1.det s2
theorem Rnds.more {ps rs:List Rl} {k:Nat} (h:Rnds ps k rs) (e:clashes rs = []):∀ m,Rnds ps (k + m) rs
  | 0=>h
  | m + 1=>.stay (Rnds.more h e m) e
inductive spRounds (vs:List V) (H:Hp) (Q:VK) (E_:XK):Prop
  | mk (a:Addr) (ps:List Rl) (al:Wd) (k:Nat) (h1_:vs = [.ref a,.int (k:Int)]) (h2_:RsAt H a ps) (h3_:Inc al) (h4_:(∀ r ∈ ps,Wok al 3 r)) (h5_:k ≤ 3) (h6_:cc ps.length k < 64) (h7_:(∀ u,Over al u → u.length + 1 ≤ 2 * nn k → rank al u ≤ 4000000)) (h8_:∀ t r rs b n H',Same H H' → H' t = some (.tup [.ref r,.bl b]) → RsAt H' r rs → Good rs al n → n ≤ 50 → rs.length < 64 → (b = true ↔ clashes rs = []) → Rnds ps k rs → Q (.ref t) H'):spRounds vs H Q E_
end Sg
namespace Sg
open PySem L2
def stI (w l:Wd) (p:Int):Bool:=decide (0 ≤ p ∧ p.toNat + l.length ≤ w.length) && atP w l p.toNat
def chg (w:Wd) (p:Nat) (o n:Wd):Wd:=w.take p ++ n ++ w.drop (p + o.length)
inductive spStd (vs:List V) (H:Hp) (Q:VK) (E_:XK):Prop
  | mk (w:_) (l:_) (p:_) (h1_:vs = [tx l,tx w,.int p]) (h2_:w.length ≤ 1000) (h3_:Q (.bl (stI w l p)) H):spStd vs H Q E_
inductive spChg (vs:List V) (H:Hp) (Q:VK) (E_:XK):Prop
  | mk (w:_) (p:_) (o:_) (n:_) (h1_:vs = [tx w,.int ((p:Nat):Int),tx o,tx n]) (h2_:w.length ≤ 1000) (h3_:o.length ≤ 1000) (h4_:n.length ≤ 1000) (h5_:Q (tx (chg w p o n)) H):spChg vs H Q E_
section
variable {P:Program} {w:World} {K:PySem.W.Frag} {mg:Str → Option Value} {base:Heap}
theorem scStd:FnScope ["part","word","place"] ["part","word","place"] (defScope sStd):=⟨rfl,rfl,rfl,by decide +kernel,rfl,by decide +kernel,by decide +kernel⟩
theorem ok_std (D:Dfn K mg "stands" sStd ["part","word","place"]) (B:Blt mg):Ok P w K mg base "stands" ["part","word","place"] 1 spStd:=by
  refine D.ok scStd (fun vs H Q E h=>?_) (fun f cdv A outer s H vs Q E hr h=>?_)
  · obtain ⟨w,l,p,rfl,_⟩:=h
    rfl
  obtain ⟨w,l,p,rfl,hw,q⟩:=h
  refine ⟨_,pss_one (ps_ret (pe_and (pe_cmpR op_ge (pv 2) pe_int (nomark _)) (pe_and (pe_cmpR op_le (pv 2) (pe_callB call_lenS rfl B.len PySem.boot_len (pa_cons (pv 1) pa_nil)) (nomark _))
    (pe_one (pe_bm PySem.F.plainAttrs_str PySem.F.slot_str_startswith PySem.F.type_str_startswith mt_starts (pv 1) (pa_cons (pv 0) (pa_cons (pv 2) pa_nil))))))),?_⟩
  try dsimp only [cxOf,Cx.nox]
  have no:¬ (0 ≤ p ∧ p.toNat + l.length ≤ w.length) → Q (.bl false) H:=fun c=>by
    have e:stI w l p = false:=by unfold stI; rw [decide_eq_false c]; rfl
    rw [e] at q
    exact q
  refine ⟨_,rfl,_,_,rfl,rfl,_,rfl,?_⟩
  refine ite2 (fun c=>?_) (fun c=>no fun z=>c (decide_eq_true z.1))
  have h0:=of_decide_eq_true c
  obtain ⟨n,rfl⟩:∃ n:Nat,p = (n:Int):=⟨p.toNat,by lia⟩
  refine ⟨_,rfl,_,rfl,w,rfl,szl hw,_,_,rfl,rfl,_,rfl,?_⟩
  refine ite2 (fun c=>?_) (fun c=>no fun z=>c (decide_eq_true (by lia)))
  refine ⟨_,rfl,rfl,_,rfl,_,rfl,w,l,_,rfl,rfl,Int.natCast_nonneg _,?_⟩
  have e1:(decide (((n:Nat):Int).toNat + l.length ≤ w.length) && atW w l ((n:Nat):Int).toNat) = stI w l n:=by
    unfold stI
    rw [Int.toNat_natCast]
    congr 1
    rw [Bool.eq_iff_iff,decide_eq_true_iff,decide_eq_true_iff]
    lia
  rw [e1]
  exact q
theorem scChg:FnScope ["word","place","old","new"] ["word","place","old","new"] (defScope sChg):=⟨rfl,rfl,rfl,by decide +kernel,rfl,by decide +kernel,by decide +kernel⟩
theorem ok_chg (D:Dfn K mg "changed" sChg ["word","place","old","new"]) (B:Blt mg):Ok P w K mg base "changed" ["word","place","old","new"] 1 spChg:=by
  refine D.ok scChg (fun vs H Q E h=>?_) (fun f cdv A outer s H vs Q E hr h=>?_)
  · obtain ⟨w,p,o,n,rfl,_⟩:=h
    rfl
  obtain ⟨w,p,o,n,rfl,hw,ho,hn,q⟩:=h
  refine ⟨_,pss_one (ps_ret (pe_op op_addS (pe_op op_addS (pe_slice sl_str (pv 0) po_none (po_some (pv 1))) (pv 3)) (pe_slice sl_str (pv 0) (po_some (pe_op op_add (pv 1) (pe_callB call_lenS rfl B.len PySem.boot_len (pa_cons (pv 2) pa_nil)))) po_none))),?_⟩
  try dsimp only [cxOf,Cx.nox]
  have e:((p:Nat):Int) + ((o.length:Nat):Int) = ((p + o.length:Nat):Int):=rfl
  refine ⟨_,rfl,_,rfl,_,rfl,w,rfl,szl hw,_,rfl,_,_,rfl,rfl,?_,_,rfl,_,rfl,_,rfl,o,rfl,szl ho,_,_,rfl,rfl,_,rfl,w,rfl,szl hw,_,_,rfl,rfl,?_,?_⟩
  · rw [cutW_to,List.length_take,sizeLine_eq]
    lia
  · rw [cutW_to,e,cutW_from,List.length_append,List.length_take,List.length_drop,sizeLine_eq]
    lia
  · rw [cutW_to,e,cutW_from]
    exact q
end
end Sg
namespace Sg
open PySem L2
abbrev Lk:=Int × Int × Bool
def oldW (ps:List Rl) (k:Lk):Wd:=if k.2.2 = true then (ps.getD k.1.toNat ([],[])).1 else (ps.getD k.1.toNat ([],[])).2
def newW (ps:List Rl) (k:Lk):Wd:=if k.2.2 = true then (ps.getD k.1.toNat ([],[])).2 else (ps.getD k.1.toNat ([],[])).1
def numOk (ps:List Rl) (k:Lk):Bool:=decide (0 ≤ k.1 ∧ k.1 < (ps.length:Int))
def fitL (ps:List Rl) (w:Wd) (k:Lk):Bool:=numOk ps k && stI w (oldW ps k) k.2.1
def lnk (ps:List Rl) (w:Wd) (k:Lk):Option Wd:=if fitL ps w k = true then some (chg w k.2.1.toNat (oldW ps k) (newW ps k)) else none
def wlk (ps:List Rl):Wd → List Lk → Option Wd
  | w,[]=>some w
  | w,k :: r=>match lnk ps w k with
    | none=>none
    | some u=>wlk ps u r
def flp (k:Lk):Lk:=(k.1,k.2.1,!k.2.2)
def trn (ks:List Lk):List Lk:=ks.reverse.map flp
abbrev Sh (ps:List Rl):Prop:=∀ r ∈ ps,r.1.length ≤ 3 ∧ r.2.length ≤ 3
theorem Sh.at {ps:List Rl} (h:Sh ps) (i:Nat):(ps.getD i ([],[])).1.length ≤ 3 ∧ (ps.getD i ([],[])).2.length ≤ 3:=by
  by_cases hi:i < ps.length
  · exact h _ (getD_mem hi)
  · rw [List.getD_eq_getElem?_getD,List.getElem?_eq_none (by lia)]
    exact ⟨Nat.zero_le _,Nat.zero_le _⟩
theorem Sh.old {ps:List Rl} (h:Sh ps) (k:Lk):(oldW ps k).length ≤ 3:=by
  unfold oldW
  split
  · exact (h.at _).1
  · exact (h.at _).2
theorem Sh.new {ps:List Rl} (h:Sh ps) (k:Lk):(newW ps k).length ≤ 3:=by
  unfold newW
  split
  · exact (h.at _).2
  · exact (h.at _).1
theorem oldW_flp (ps:List Rl) (k:Lk):oldW ps (flp k) = newW ps k:=by
  obtain ⟨n,p,b⟩:=k
  cases b <;> rfl
theorem newW_flp (ps:List Rl) (k:Lk):newW ps (flp k) = oldW ps k:=by
  obtain ⟨n,p,b⟩:=k
  cases b <;> rfl
theorem chg_len (w:Wd) (p:Nat) (o n:Wd):(chg w p o n).length ≤ w.length + n.length:=by
  unfold chg
  rw [List.length_append,List.length_append,List.length_take,List.length_drop]
  lia
theorem lnk_len {ps:List Rl} (h:Sh ps) {w u:Wd} {k:Lk} (e:lnk ps w k = some u):u.length ≤ w.length + 3:=by
  unfold lnk at e
  split at e
  · cases e
    have:=chg_len w k.2.1.toNat (oldW ps k) (newW ps k)
    have:=h.new k
    lia
  · cases e
theorem lnk_none {ps:List Rl} {w:Wd} {k:Lk} (h:fitL ps w k = false):lnk ps w k = none:=by
  unfold lnk
  rw [h,if_neg Bool.false_ne_true]
theorem lnk_some {ps:List Rl} {w:Wd} {k:Lk} (h:fitL ps w k = true):lnk ps w k = some (chg w k.2.1.toNat (oldW ps k) (newW ps k)):=by
  unfold lnk
  rw [if_pos h]
theorem stI_iff {w l:Wd} {p:Int}:stI w l p = true ↔ 0 ≤ p ∧ p.toNat + l.length ≤ w.length ∧ (w.drop p.toNat).take l.length = l:=by
  unfold stI
  rw [Bool.and_eq_true,decide_eq_true_iff]
  unfold atP
  rw [beq_iff_eq,and_assoc]
theorem chg_back {w o n:Wd} {p:Nat} (h1:p + o.length ≤ w.length) (h2:(w.drop p).take o.length = o):stI (chg w p o n) n (p:Int) = true ∧ chg (chg w p o n) p n o = w:=by
  have lt:(w.take p).length = p:=by rw [List.length_take]; lia
  have e0:chg w p o n = w.take p ++ (n ++ w.drop (p + o.length)):=by unfold chg; rw [List.append_assoc]
  have ed:(chg w p o n).drop p = n ++ w.drop (p + o.length):=by rw [e0,List.drop_left' lt]
  have et:(chg w p o n).take p = w.take p:=by rw [e0,List.take_left' lt]
  have ew:w = w.take p ++ (o ++ w.drop (p + o.length)):=by
    have e1:w.drop p = o ++ w.drop (p + o.length):=by
      have:=List.take_append_drop o.length (w.drop p)
      rw [h2,List.drop_drop] at this
      exact this.symm
    rw [← e1,List.take_append_drop]
  constructor
  · rw [stI_iff,Int.toNat_natCast]
    refine ⟨Int.natCast_nonneg _,?_,?_⟩
    · rw [e0,List.length_append,List.length_append,lt]
      lia
    · rw [ed,List.take_left' rfl]
  · have ed2:(chg w p o n).drop (p + n.length) = w.drop (p + o.length):=by rw [← List.drop_drop,ed,List.drop_left' rfl]
    have e3:chg (chg w p o n) p n o = (chg w p o n).take p ++ o ++ (chg w p o n).drop (p + n.length):=rfl
    rw [e3,et,ed2,List.append_assoc]
    exact ew.symm
theorem lnk_back {ps:List Rl} {w u:Wd} {k:Lk} (e:lnk ps w k = some u):lnk ps u (flp k) = some w:=by
  unfold lnk at e
  split at e
  case isFalse=>cases e
  case isTrue h =>
    cases e
    unfold fitL at h
    obtain ⟨hn,hs⟩:=Bool.and_eq_true_iff.mp h
    obtain ⟨h0,h1,h2⟩:=stI_iff.mp hs
    obtain ⟨b1,b2⟩:=chg_back (n:=newW ps k) h1 h2
    have hf:fitL ps (chg w k.2.1.toNat (oldW ps k) (newW ps k)) (flp k) = true:=by
      unfold fitL
      rw [oldW_flp]
      have e1:numOk ps (flp k) = numOk ps k:=rfl
      have e2:(flp k).2.1 = ((k.2.1.toNat:Nat):Int):=by show k.2.1 = _; lia
      rw [e1,hn,Bool.true_and,e2]
      exact b1
    rw [lnk_some hf,oldW_flp,newW_flp]
    exact congrArg some b2
theorem wlk_app (ps:List Rl):∀ (a:List Lk) (w:Wd) (b:List Lk) (u:Wd),wlk ps w a = some u → wlk ps w (a ++ b) = wlk ps u b
  | [],w,b,u,h=>by cases h; rfl
  | k :: r,w,b,u,h=>by
    rw [wlk] at h
    rw [List.cons_append,wlk]
    cases e:lnk ps w k with
    | none=>rw [e] at h; cases h
    | some v=>rw [e] at h; exact wlk_app ps r v b u h
theorem wlk_back (ps:List Rl):∀ (ks:List Lk) (w u:Wd),wlk ps w ks = some u → wlk ps u (trn ks) = some w
  | [],w,u,h=>by cases h; rfl
  | k :: r,w,u,h=>by
    rw [wlk] at h
    cases e:lnk ps w k with
    | none=>rw [e] at h; cases h
    | some v =>
      rw [e] at h
      have ih:=wlk_back ps r v u h
      have et:trn (k :: r) = trn r ++ [flp k]:=by unfold trn; rw [List.reverse_cons,List.map_append]; rfl
      rw [et,wlk_app ps _ _ _ _ ih,wlk,lnk_back e]
      rfl
theorem wlk_cons {ps:List Rl} {w u:Wd} {k:Lk} {r:List Lk} (h:lnk ps w k = some u):wlk ps w (k :: r) = wlk ps u r:=by rw [wlk,h]
theorem wlk_no {ps:List Rl} {w:Wd} {k:Lk} {r:List Lk} (h:lnk ps w k = none):wlk ps w (k :: r) = none:=by rw [wlk,h]
inductive LkAt (H:Hp) (v:V) (k:Lk):Prop
  | mk (t:_) (h1_:v = .ref t) (h2_:H t = some (.tup [.int k.1,.int k.2.1,.bl k.2.2])):LkAt H v k
inductive LsAt (H:Hp) (a:Addr) (ks:List Lk):Prop
  | mk (vs:_) (h1_:H a = some (.lst vs)) (h2_:Paired (LkAt H) vs ks):LsAt H a ks
theorem LkAt.mono {H H':Hp} (s:Tups H H') {v:V} {k:Lk} (h:LkAt H v k):LkAt H' v k:=let ⟨p,e,q⟩:=h; ⟨p,e,s p _ q⟩
theorem LsAt.mono {H H':Hp} (s:Same H H') {a:Addr} {ks:List Lk} (h:LsAt H a ks):LsAt H' a ks:=let ⟨vs,e,q⟩:=h; ⟨vs,s _ _ e,pairImp q fun _ _ z=>z.mono (tups_of s)⟩
theorem LsAt.snoc {H:Hp} {l:Addr} {sv:List V} {ks:List Lk} {v:V} {k:Lk} (h:H l = some (.lst sv)) (hp:Paired (LkAt H) sv ks) (hv:LkAt H v k):LsAt (upd H l (.lst (sv ++ [v]))) l (ks ++ [k]) :=
  ⟨_,upd_same,pairImp (pairApp hp (.cons hv .nil)) fun _ _ z=>z.mono (tups_own h)⟩
theorem pairRev {α β:Type} {F:α → β → Prop}:∀ {a:List α} {b:List β},Paired F a b → Paired F a.reverse b.reverse
  | _,_,.nil=>.nil
  | _,_,.cons r t=>by
    rw [List.reverse_cons,List.reverse_cons]
    exact pairApp (pairRev t) (.cons r .nil)
def gv:Option Wd → V
  | none=>.non
  | some u=>tx u
theorem if_var {b:Bool} {i j:Nat} {σ:St} {H:Hp} {Q:VK} {f g:Wd} (hi:∀ Q':VK,Q' (tx f) H → tVar i σ H Q') (hj:∀ Q':VK,Q' (tx g) H → tVar j σ H Q') (q:Q (tx (if b = true then f else g)) H) :
    if b = true then tVar i σ H Q else tVar j σ H Q:=by
  cases b
  · exact iteF (hj _ q)
  · exact iteT (hi _ q)
theorem ix_old (f g:Wd) (b:Bool):atI [tx f,tx g] (if (!b) = true then (1:Int) else 0) = some (tx (if b = true then f else g)):=by cases b <;> rfl
theorem ix_new (f g:Wd) (b:Bool):atI [tx f,tx g] (if b = true then (1:Int) else 0) = some (tx (if b = true then g else f)):=by cases b <;> rfl
end Sg
namespace Sg
structure Alg (ps:List Rl) (w:Wd) (ks:List Lk) (ws:List Wd):Prop where
  len:ws.length = ks.length + 1
  hd:ws[0]? = some w
  st:∀ i k,ks[i]? = some k → ∃ u v,ws[i]? = some u ∧ ws[i + 1]? = some v ∧ lnk ps u k = some v
theorem alg_of {ps:List Rl}:∀ (ks:List Lk) (w u:Wd),wlk ps w ks = some u → ∃ ws,Alg ps w ks ws ∧ ws[ks.length]? = some u
  | [],w,u,h=>by
    have e:some w = some u:=h
    cases e
    exact ⟨[w],⟨rfl,rfl,fun i k z=>by simp at z⟩,rfl⟩
  | k :: ks,w,u,h=>by
    cases e:lnk ps w k with
    | none=>rw [wlk_no e] at h; cases h
    | some x =>
      rw [wlk_cons e] at h
      obtain ⟨ws,a,hu⟩:=alg_of ks x u h
      refine ⟨w :: ws,⟨by rw [List.length_cons,a.len,List.length_cons],rfl,fun i k' hk=>?_⟩,by rw [List.length_cons,List.getElem?_cons_succ]; exact hu⟩
      cases i with
      | zero =>
        cases hk
        exact ⟨w,x,rfl,by rw [List.getElem?_cons_succ]; exact a.hd,e⟩
      | succ i =>
        obtain ⟨u',v',h1,h2,h3⟩:=a.st i k' hk
        exact ⟨u',v',h1,h2,h3⟩
theorem Alg.lens {ps:List Rl} (hs:Sh ps) {w:Wd} {ks:List Lk} {ws:List Wd} (a:Alg ps w ks ws):∀ (i:Nat) (u:Wd),ws[i]? = some u → u.length ≤ w.length + 3 * i
  | 0,u,h=>by rw [a.hd] at h; cases h; lia
  | i + 1,u,h=>by
    have hi:i < ks.length:=by
      have:=(List.getElem?_eq_some_iff.mp h).1
      have:=a.len
      lia
    obtain ⟨x,y,h1,h2,h3⟩:=a.st i _ (List.getElem?_eq_getElem hi)
    rw [h] at h2
    cases h2
    have:=a.lens hs i x h1
    have:=lnk_len hs h3
    lia
def LastOf (ws:List Wd) (j:Nat) (u:Wd) (m:Nat):Prop:=m < j ∧ ws[m]? = some u ∧ ∀ i,i < j → ws[i]? = some u → i ≤ m
end Sg
namespace Sg
open PySem L2
def mvd (ks:List Lk) (p:Int):List Lk:=ks.map fun k=>(k.1,k.2.1 + p,k.2.2)
theorem atP_ctx {u w v l:Wd} {p:Nat} (h:p + l.length ≤ w.length):((u ++ w ++ v).drop (p + u.length)).take l.length = (w.drop p).take l.length:=by
  have e:(u ++ w ++ v).drop (p + u.length) = (w ++ v).drop p:=by
    rw [List.append_assoc,Nat.add_comm,← List.drop_drop,List.drop_left' rfl]
  rw [e,List.drop_append_of_le_length (by lia),List.take_append_of_le_length (by rw [List.length_drop]; lia)]
theorem chg_ctx {u w v o n:Wd} {p:Nat} (h:p + o.length ≤ w.length):chg (u ++ w ++ v) (p + u.length) o n = u ++ chg w p o n ++ v:=by
  unfold chg
  have e1:(u ++ w ++ v).take (p + u.length) = u ++ w.take p:=by
    rw [List.append_assoc,List.take_append,List.take_of_length_le (by lia),Nat.add_sub_cancel,List.take_append_of_le_length (by lia)]
  have e2:(u ++ w ++ v).drop (p + u.length + o.length) = w.drop (p + o.length) ++ v:=by
    have e:p + u.length + o.length = u.length + (p + o.length):=by lia
    rw [e,List.append_assoc,← List.drop_drop,List.drop_left' rfl,List.drop_append_of_le_length (by lia)]
  rw [e1,e2]
  simp only [List.append_assoc]
theorem lnk_ctx {ps:List Rl} {w x:Wd} {k:Lk} (u v:Wd) (h:lnk ps w k = some x):lnk ps (u ++ w ++ v) (k.1,k.2.1 + (u.length:Int),k.2.2) = some (u ++ x ++ v):=by
  obtain ⟨n,p,b⟩:=k
  unfold lnk at h
  split at h
  case isFalse=>cases h
  case isTrue hf =>
    cases h
    unfold fitL at hf
    obtain ⟨hn,hs⟩:=Bool.and_eq_true_iff.mp hf
    obtain ⟨h0,h1,h2⟩:=stI_iff.mp hs
    have e0:oldW ps (n,p + (u.length:Int),b) = oldW ps (n,p,b):=rfl
    have e1:newW ps (n,p + (u.length:Int),b) = newW ps (n,p,b):=rfl
    have h0':0 ≤ p:=h0
    have ep:(p + (u.length:Int)).toNat = p.toNat + u.length:=by lia
    have hf2:fitL ps (u ++ w ++ v) (n,p + (u.length:Int),b) = true:=by
      unfold fitL
      rw [Bool.and_eq_true]
      refine ⟨hn,stI_iff.mpr ⟨?_,?_,?_⟩⟩
      · show 0 ≤ p + (u.length:Int); lia
      · rw [e0]
        show (p + (u.length:Int)).toNat + _ ≤ _
        rw [ep,List.length_append,List.length_append]
        have h1':p.toNat + (oldW ps (n,p,b)).length ≤ w.length:=h1
        lia
      · rw [e0]
        show List.take _ (List.drop (p + (u.length:Int)).toNat _) = _
        rw [ep,atP_ctx h1]
        exact h2
    rw [lnk_some hf2,e0,e1]
    show some (chg (u ++ w ++ v) (p + (u.length:Int)).toNat _ _) = _
    rw [ep,chg_ctx h1]
theorem wlk_ctx {ps:List Rl} (u v:Wd):∀ (ks:List Lk) (w x:Wd),wlk ps w ks = some x → wlk ps (u ++ w ++ v) (mvd ks (u.length:Int)) = some (u ++ x ++ v)
  | [],w,x,h=>by cases h; rfl
  | k :: r,w,x,h=>by
    rw [wlk] at h
    cases e:lnk ps w k with
    | none=>rw [e] at h; cases h
    | some y =>
      rw [e] at h
      have ih:=wlk_ctx u v r y x h
      show wlk ps (u ++ w ++ v) ((k.1,k.2.1 + (u.length:Int),k.2.2) :: mvd r (u.length:Int)) = _
      rw [wlk_cons (lnk_ctx u v e)]
      exact ih
abbrev Eq3:=Wd × Wd × List Lk
def rlE (e:Eq3):Rl:=(e.1,e.2.1)
abbrev rlsE (es:List Eq3):List Rl:=es.map rlE
def Shows (ps:List Rl) (e:Eq3):Prop:=wlk ps e.1 e.2.2 = some e.2.1
inductive EqAt3 (H:Hp) (v:V) (e:Eq3):Prop
  | mk (t:_) (c:_) (h1_:v = .ref t) (h2_:H t = some (.tup [tx e.1,tx e.2.1,.ref c])) (h3_:LsAt H c e.2.2):EqAt3 H v e
theorem EqAt3.mono {H H':Hp} (s:Same H H') {v:V} {e:Eq3} (h:EqAt3 H v e):EqAt3 H' v e:=let ⟨t,c,e1,e2,e3⟩:=h; ⟨t,c,e1,s _ _ e2,e3.mono s⟩
inductive EsAt (H:Hp) (a:Addr) (es:List Eq3):Prop
  | mk (vs:_) (h1_:H a = some (.lst vs)) (h2_:Paired (EqAt3 H) vs es):EsAt H a es
theorem EsAt.mono {H H':Hp} (s:Same H H') {a:Addr} {es:List Eq3} (h:EsAt H a es):EsAt H' a es:=let ⟨vs,e,p⟩:=h; ⟨vs,s _ _ e,pairImp p fun _ _ z=>z.mono s⟩
end Sg
namespace Sg
theorem agr_take:∀ (t l:Wd),agr t l (min t.length l.length) = true → (t ++ l.drop t.length).take l.length = l
  | [],l,_=>by simp
  | c :: t,[],_=>by simp
  | c :: t,d :: l,h=>by
    have e:min (c :: t).length (d :: l).length = min t.length l.length + 1:=by simp only [List.length_cons]; lia
    rw [e,agr_succ,Bool.and_eq_true] at h
    have hc:c = d:=eq_of_beq h.1
    subst hc
    have ih:=agr_take t l h.2
    show (c :: (t ++ l.drop t.length)).take (l.length + 1) = _
    rw [List.take_succ_cons,ih]
theorem overs_at {rs:List Rl} {o:Ov} (h:o ∈ overs rs):o.2.1 < rs.length ∧ o.2.2.1 < rs.length ∧ o.2.2.2 < (rs.getD o.2.1 ([],[])).1.length ∧ ∃ x y,o.1 = (rs.getD o.2.1 ([],[])).1 ++ x ∧ o.1 = o.1.take o.2.2.2 ++ (rs.getD o.2.2.1 ([],[])).1 ++ y ∧ o.2.2.2 ≤ o.1.length ∧
    cl1 rs o = (rs.getD o.2.1 ([],[])).2 ++ x ∧ cl2 rs o = o.1.take o.2.2.2 ++ (rs.getD o.2.2.1 ([],[])).2 ++ y:=by
  obtain ⟨w,i,j,p⟩:=o
  obtain ⟨h1,h2,h3,h4,h5,h6⟩:=mem_overs.mp h
  refine ⟨h1,h2,h3,?_⟩
  dsimp only
  generalize ei:(rs.getD i ([],[])).1 = li at *
  generalize ej:(rs.getD j ([],[])).1 = lj at *
  have hsp:li = li.take p ++ li.drop p:=(List.take_append_drop p li).symm
  have hp:(li.take p).length = p:=by rw [List.length_take]; lia
  have hd:(li.drop p).length = li.length - p:=List.length_drop
  have ha:agr (li.drop p) lj (min (li.drop p).length lj.length) = true:=by
    rw [← fitsAt_agr (li.take p),hp,← hsp]
    exact h5
  have ht:=agr_take _ _ ha
  rw [hd] at ht
  subst h6
  have hw:li ++ lj.drop (li.length - p) = li.take p ++ (li.drop p ++ lj.drop (li.length - p)):=by rw [← List.append_assoc,← hsp]
  have htk:(li ++ lj.drop (li.length - p)).take p = li.take p:=by
    rw [List.take_append_of_le_length (by lia)]
  have hdr:(li ++ lj.drop (li.length - p)).drop p = li.drop p ++ lj.drop (li.length - p):=by
    rw [List.drop_append_of_le_length (by lia)]
  refine ⟨lj.drop (li.length - p),(li.drop p ++ lj.drop (li.length - p)).drop lj.length,rfl,?_,by rw [List.length_append]; lia,?_,?_⟩
  · rw [htk]
    conv=>lhs; rw [hw]
    rw [List.append_assoc]
    congr 1
    conv=>lhs; rw [← List.take_append_drop lj.length (li.drop p ++ lj.drop (li.length - p)),ht]
  · unfold cl1
    dsimp only
    rw [ei,List.drop_left]
  · unfold cl2
    dsimp only
    rw [ej,← List.drop_drop,hdr]
noncomputable def clOs (rs:List Rl):List Ov:=(overs rs).filter fun o=>!decide (nf rs (cl1 rs o) = nf rs (cl2 rs o))
theorem clOs_map (rs:List Rl):clashes rs = (clOs rs).map (fo rs):=by
  unfold clashes clOs
  induction overs rs with
  | nil=>rfl
  | cons o os ih =>
    rw [List.flatMap_cons,ih,List.filter_cons]
    unfold clO
    by_cases h:nf rs (cl1 rs o) = nf rs (cl2 rs o)
    · rw [if_pos h,if_neg (by simp [h])]; rfl
    · rw [if_neg h,if_pos (by simp [h])]; rfl
theorem clOs_mem {rs:List Rl} {o:Ov} (h:o ∈ clOs rs):o ∈ overs rs:=(List.mem_filter.mp h).1
def chO (es:List Eq3) (o:Ov):List Lk:=trn (es.getD o.2.1 ([],[],[])).2.2 ++ mvd (es.getD o.2.2.1 ([],[],[])).2.2 ((o.2.2.2:Nat):Int)
def eqO (es:List Eq3) (o:Ov):Eq3:=(cl1 (rlsE es) o,cl2 (rlsE es) o,chO es o)
theorem rlsE_getD (es:List Eq3) (i:Nat):(rlsE es).getD i ([],[]) = rlE (es.getD i ([],[],[])):=by
  unfold rlsE
  rw [List.getD_eq_getElem?_getD,List.getD_eq_getElem?_getD,List.getElem?_map]
  cases es[i]? <;> rfl
theorem mvd0 (ks:List Lk):mvd ks 0 = ks:=by
  unfold mvd
  rw [List.map_congr_left (g:=id)]
  · simp
  · intro k _; simp
theorem shows_eqO {ps:List Rl} {es:List Eq3} (h:∀ e ∈ es,Shows ps e) {o:Ov} (ho:o ∈ overs (rlsE es)):Shows ps (eqO es o):=by
  obtain ⟨h1,h2,h3,x,y,e1,e2,h4,c1,c2⟩:=overs_at ho
  have l1:o.2.1 < es.length:=by unfold rlsE at h1; rwa [List.length_map] at h1
  have l2:o.2.2.1 < es.length:=by unfold rlsE at h2; rwa [List.length_map] at h2
  rw [rlsE_getD] at e1 c1
  rw [rlsE_getD] at e2 c2
  have s1:Shows ps (es.getD o.2.1 ([],[],[])):=h _ (by rw [List.getD_eq_getElem?_getD,List.getElem?_eq_getElem l1]; exact List.getElem_mem l1)
  have s2:Shows ps (es.getD o.2.2.1 ([],[],[])):=h _ (by rw [List.getD_eq_getElem?_getD,List.getElem?_eq_getElem l2]; exact List.getElem_mem l2)
  have w1:=wlk_ctx [] x _ _ _ s1
  rw [List.nil_append,List.nil_append,List.length_nil] at w1
  have w1':wlk ps o.1 (es.getD o.2.1 ([],[],[])).2.2 = some (cl1 (rlsE es) o):=by
    rw [c1,e1]
    have:=w1
    rw [show (((0:Nat):Int)) = 0 from rfl,mvd0] at this
    exact this
  have w2:=wlk_ctx (o.1.take o.2.2.2) y _ _ _ s2
  have hl:(o.1.take o.2.2.2).length = o.2.2.2:=by rw [List.length_take]; lia
  rw [hl] at w2
  have w2':wlk ps o.1 (mvd (es.getD o.2.2.1 ([],[],[])).2.2 ((o.2.2.2:Nat):Int)) = some (cl2 (rlsE es) o):=by
    rw [c2]
    conv=>lhs; rw [e2]
    exact w2
  show wlk ps (cl1 (rlsE es) o) (chO es o) = some (cl2 (rlsE es) o)
  unfold chO
  rw [wlk_app ps _ _ _ _ (wlk_back ps _ _ _ w1')]
  exact w2'
theorem chO_len {es:List Eq3} {M:Nat} (h:∀ e ∈ es,e.2.2.length ≤ M) (o:Ov):(chO es o).length ≤ 2 * M:=by
  have key:∀ i,(es.getD i ([],[],[])).2.2.length ≤ M:=fun i=>by
    by_cases hi:i < es.length
    · exact h _ (by rw [List.getD_eq_getElem?_getD,List.getElem?_eq_getElem hi]; exact List.getElem_mem hi)
    · rw [List.getD_eq_getElem?_getD,List.getElem?_eq_none (by lia)]; exact Nat.zero_le _
  unfold chO
  rw [List.length_append]
  have h1:=key o.2.1
  have h2:=key o.2.2.1
  have e1:(trn (es.getD o.2.1 ([],[],[])).2.2).length = (es.getD o.2.1 ([],[],[])).2.2.length:=by unfold trn; rw [List.length_map,List.length_reverse]
  have e2:(mvd (es.getD o.2.2.1 ([],[],[])).2.2 ((o.2.2.2:Nat):Int)).length = (es.getD o.2.2.1 ([],[],[])).2.2.length:=by unfold mvd; rw [List.length_map]
  lia
theorem setM_settles {M Mo:Nat} {ps rs:List Rl} (h:SetM M ps rs Mo):Settles ps rs:=by
  obtain ⟨j,out,Mf,s,_,_,e⟩:=h
  exact ⟨out,s.stl,e⟩
theorem go_rnds {ps:List Rl} {k:Nat} {rs rs':List Rl} {M Mo:Nat} (g:Go k rs M rs' Mo):∀ {i},Rnds ps i rs → Rnds ps (i + k) rs':=by
  induction g with
  | zero rs M=>intro i h; exact h
  | stay k M e=>intro i h; exact h.more e _
  | @step k rs rs1 rs' M M1 Mo h1 h2 h3 _ ih =>
    intro i h
    have:=ih (Rnds.go h h1 (setM_settles h2))
    rwa [show i + 1 + k = i + (k + 1) by lia] at this
theorem rndM_rnds {ps:List Rl} {k:Nat} {rs:List Rl} {Mo:Nat} (h:RndM ps k rs Mo):Rnds ps k rs:=by
  obtain ⟨r0,M,s,_,g⟩:=h
  have:=go_rnds (ps:=ps) g (.zero (setM_settles s))
  rwa [Nat.zero_add] at this
end Sg
namespace Sg
open PySem L2
inductive spTurned (vs:List V) (H:Hp) (Q:VK) (E_:XK):Prop
  | mk (c:_) (ks:_) (h1_:vs = [.ref c]) (h2_:LsAt H c ks) (h3_:ks.length ≤ 10000000) (h4_:∀ r H',H r = none → Same H H' → LsAt H' r (trn ks) → Q (.ref r) H'):spTurned vs H Q E_
section
variable {P:Program} {w:World} {K:PySem.W.Frag} {mg:Str → Option Value} {base:Heap}
theorem trn_take {ks:List Lk} {i:Nat} {k:Lk} (h:ks.reverse[i]? = some k):(trn ks).take (i + 1) = (trn ks).take i ++ [flp k]:=by
  have e:(trn ks)[i]? = some (flp k):=by unfold trn; rw [List.getElem?_map,h]; rfl
  rw [List.take_add_one,e]
  rfl
theorem scTurned:FnScope ["chain"] ["chain"] (defScope sTurned):=⟨rfl,rfl,rfl,by decide +kernel,rfl,by decide +kernel,by decide +kernel⟩
theorem ccTurned:CompScope (defScope sTurned) ["chain"] (compSc (retE (defBody sTurned))) ["link"] [] []:=⟨rfl,by decide +kernel,by decide +kernel,by decide +kernel,by decide +kernel,rfl,by decide +kernel⟩
abbrev teLk (K:PySem.W.Frag):TE:=tTup (tCons (tOp (rIxT K) (tVar 0) (tC (.int 0))) (tCons (tOp (rIxT K) (tVar 0) (tC (.int 1))) (tCons (tNotV (tOp (rIxT K) (tVar 0) (tC (.int 2)))) tNil)))
theorem rev_turns {H:Hp} {c:Addr} {kv:List V} {ks:List Lk} {fin:List V → Hp → Prop} {σc:St} (hkv:H c = some (.lst kv)) (hkp:Paired (LkAt H) kv ks) (hkl:ks.length ≤ 10000000) (hσ:σc = [none])
    (hf:∀ acc H',Same H H' → Paired (LkAt H') acc (trn ks) → fin acc H'):tTurns 1 (Itv K c kv.length) (gName 0) tNoTest (teLk K) σc fin H:=by
  subst hσ
  have lkv:=pairLen hkp
  refine turns_rev (K:=K) (xs:=kv) (fun i acc H'=>Same H H' ∧ i ≤ kv.length ∧ Paired (LkAt H') acc ((trn ks).take i))
    ⟨Same.refl _,Nat.zero_le _,.nil⟩ (fun i acc H' ⟨_,hi,e⟩=>?_) (by rw [sizeLine_eq]; lia) (fun i acc H' ⟨s',_,_⟩=>SqL.of (s' _ _ hkv)) (fun i acc H' v hv ⟨s',hi,hacc⟩=>?_) (fun acc H' ⟨s',_,hacc⟩=>?_)
  · have:=pairLen e
    rw [List.length_take] at this
    lia
  · obtain ⟨k,hk,t,rfl,ht⟩:=pairGetL (pairRev hkp) hv
    have hil:i < ks.length:=by
      have:=(List.getElem?_eq_some_iff.mp hk).1
      rw [List.length_reverse] at this
      exact this
    have ht':=s' _ _ ht
    refine ⟨rfl,noTest ?_⟩
    refine ⟨_,rfl,t,_,0,_,rfl,rfl,SqT.of ht',rfl,_,rfl,t,_,1,_,rfl,rfl,SqT.of ht',rfl,_,rfl,t,_,2,_,rfl,rfl,SqT.of ht',rfl,_,rfl,(by show 3 ≤ sizeLine; decide),fun p hp=>?_⟩
    refine ⟨s'.trans (same_new hp _),by lia,?_⟩
    rw [trn_take hk]
    exact pairApp (pairImp hacc fun _ _ z=>z.mono (tups_of (same_new hp _))) (.cons ⟨p,rfl,upd_same⟩ .nil)
  · refine hf acc H' s' ?_
    have e:(trn ks).take kv.length = trn ks:=List.take_of_length_le (by unfold trn; rw [List.length_map,List.length_reverse]; lia)
    rw [e] at hacc
    exact hacc
theorem ok_turned (D:Dfn K mg "turned" sTurned ["chain"]) (hrev:mg "reversed" = none):Ok P w K mg base "turned" ["chain"] 1 spTurned:=by
  refine D.ok scTurned (fun vs H Q E h=>?_) (fun f cdv A outer s H vs Q E hr h=>?_)
  · obtain ⟨c,ks,rfl,_⟩:=h
    rfl
  obtain ⟨c,ks,rfl,⟨kv,hkv,hkp⟩,hkl,q⟩:=h
  refine ⟨_,pss_one (ps_ret (pe_comp (g:=gName 0) (tt:=tNoTest) (te:=teLk K) rfl ccTurned (pi_rev rfl hrev (pa_cons (pv 0) pa_nil)) (by intro cl C ex s H; exact ⟨pg_name (i:=0) ccTurned.nd rfl (.inl rfl),pf_nil,
    pe_tup (pa_cons (pe_ix ix_tup (pv 0) pe_int (fun _ _=>rfl)) (pa_cons (pe_ix ix_tup (pv 0) pe_int (fun _ _=>rfl)) (pa_cons (pe_not (pe_ix ix_tup (pv 0) pe_int (fun _ _=>rfl))) pa_nil)))⟩))),?_⟩
  try dsimp only [cxOf,Cx.nox]
  refine ⟨_,rfl,c,kv,rfl,SqL.of hkv,rev_turns hkv hkp hkl rfl fun acc H' s' hacc=>fun r hr'=>?_⟩
  exact q r _ (s'.free hr') (s'.trans (same_new hr' _)) ⟨acc,upd_same,pairImp hacc fun _ _ z=>z.mono (tups_of (same_new hr' _))⟩
end
end Sg
namespace Sg
open PySem L2
section
variable {P:Program} {w:World} {K:PySem.W.Frag} {mg:Str → Option Value} {base:Heap}
theorem scNums:FnScope ["rules","word","place"] ["rules","word","place"] (defScope sNums):=⟨rfl,rfl,rfl,by decide +kernel,rfl,by decide +kernel,by decide +kernel⟩
theorem ccNums:CompScope (defScope sNums) ["rules","word","place"] (compSc (retE (defBody sNums))) ["number","rule"] ["word","place"] [1,2]:=⟨rfl,by decide +kernel,by decide +kernel,by decide +kernel,by decide +kernel,rfl,by decide +kernel⟩
theorem starts_at {w l:Wd} {p:Nat} (hl:l ≠ []):(decide (p + l.length ≤ w.length) && atW w l p) = atP w l p:=by
  have e:atW w l p = atP w l p:=rfl
  rw [e]
  cases h:atP w l p with
  | false=>rw [Bool.and_false]
  | true=>rw [Bool.and_true]; exact decide_eq_true (atP_len h hl)
theorem ok_nums (D:Dfn K mg "numbers_at" sNums ["rules","word","place"]) (B:Blt mg):Ok P w K mg base "numbers_at" ["rules","word","place"] 1 spNums:=by
  refine D.ok scNums (fun vs H Q E h=>?_) (fun f cdv A outer s H vs Q E hr h=>?_)
  · obtain ⟨a,rs,al,n,w,p,rfl,_⟩:=h
    rfl
  obtain ⟨a,rs,al,n,w,p,rfl,hS,hG,hlen,q⟩:=h
  refine ⟨_,pss_one (ps_ret (pe_comp (g:=gTup K 2 (gCons (gName 0) (gCons (gName 1) gNil))) (tt:=tB (tBM K "str" rStarts (tVar 2) (tCons (tOp (rIxT K) (tVar 1) (tC (.int 0))) (tCons (tVar 3) tNil)))) (te:=tVar 0) rfl ccNums (pi_enum rfl B.enm (pa_cons (pv 0) pa_nil)) (by intro cl C ex s H; exact ⟨pg_tup rfl (pgs_cons (pg_name (i:=0) ccNums.nd rfl (.inl rfl)) (pgs_cons (pg_name (i:=1) ccNums.nd rfl (.inl rfl)) pgs_nil)),pf_one (pt_val (pe_bm PySem.F.plainAttrs_str PySem.F.slot_str_startswith PySem.F.type_str_startswith mt_starts (pv 2) (pa_cons (pe_ix ix_tup (pv 1) pe_int (fun _ _=>rfl)) (pa_cons (pv 3) pa_nil)))),pv 0⟩))),?_⟩
  try dsimp only [cxOf,Cx.nox]
  obtain ⟨vs,eH,hP⟩:=id hS
  refine ⟨_,rfl,a,rfl,⟨vs,SqL.of eH⟩,?_⟩
  have hvl:vs.length = rs.length:=(pairLen hP)
  refine turns_enum (K:=K) (xs:=vs) (fun i acc H'=>Same H H' ∧ i ≤ rs.length ∧ acc = (((List.range i).filter fun i=>atP w (rs.getD i ([],[])).1 p).map fun (i:Nat)=>V.int (i:Int)))
    ⟨Same.refl _,Nat.zero_le _,rfl⟩ (fun i acc H' ⟨_,_,e⟩=>?_) (by rw [hvl]; exact small1000 (by lia)) (fun i acc H' ⟨s',_,_⟩=>SqL.of (s' _ _ eH)) (fun i acc H' x p' hx ⟨s',hi,hacc⟩ hp'=>?_) (fun acc H' ⟨s',hi,hacc⟩ r hr'=>?_)
  · rw [e,List.length_map]
    exact Nat.le_trans (List.length_filter_le _ _) (by rw [List.length_range]; exact Nat.le_refl _)
  · obtain ⟨rl,hrl,p2,e2,h2⟩:=pairGetL hP hx
    subst e2
    have hil:i < rs.length:=(List.getElem?_eq_some_iff.mp hrl).1
    have hrl':rs.getD i ([],[]) = rl:=by rw [List.getD_eq_getElem?_getD,hrl]; rfl
    have s2:Same H' (upd H' p' (.tup [.int i,.ref p2])):=same_new hp' _
    refine ⟨p',_,rfl,SqT.of upd_same,rfl,_,_,rfl,_,_,rfl,rfl,rfl,?_⟩
    refine ⟨_,rfl,rfl,_,rfl,p2,_,0,_,rfl,rfl,SqT.of (s2 _ _ (s' _ _ h2)),rfl,_,rfl,w,rl.1,_,rfl,rfl,Int.natCast_nonneg _,_,rfl,?_⟩
    have hne:rl.1 ≠ []:=by rw [← hrl']; exact hG.ne (getD_mem hil)
    rw [Int.toNat_natCast,starts_at hne]
    refine ite2 (fun c=>?_) (fun c=>?_)
    · refine ⟨_,rfl,s'.trans s2,hil,?_⟩
      rw [nums_succ,hrl',if_pos c,List.map_append,hacc]
      rfl
    · refine ⟨s'.trans s2,hil,?_⟩
      rw [nums_succ,hrl',if_neg c,List.append_nil,hacc]
  · refine q r _ (s'.trans (same_new hr' _)) ?_
    rw [upd_same,hacc,hvl]
    rfl
end
end Sg
namespace Sg
open PySem L2
theorem head_map {α β:Type} {xs:List α} {j:α} {r:List α} (h:xs = j :: r) (f:α → β):atI (xs.map f) 0 = some (f j):=by
  rw [h]
  exact atI_nat (j:=0) rfl
theorem down_bound {rs:List Rl} {al:Wd} {n:Nat} (g:Good rs al n) {u:Wd} {p i k r:Nat} (hu:Over al u) (h:first rs u = some (p,i)) (hk:k + rank al u ≤ r):k + 1 + rank al (app rs u p i) ≤ r:=by
  have:=app_rank g hu h
  lia
inductive FiW (a:Addr) (w:Wd) (st:Nat) (rs:List Rl) (H:Hp) (i:Nat) (σ:St) (H':Hp):Prop
  | mk (h1_:Same H H') (h2_:(∃ x y,σ = [some (.ref a),some (tx w),some (.int ((st:Nat):Int)),x,y])) (h3_:∀ q,st ≤ q → q < st + i → numsAt rs w q = []):FiW a w st rs H i σ H'
section
variable {P:Program} {w:World} {K:PySem.W.Frag} {mg:Str → Option Value} {base:Heap}
theorem scFirst:FnScope ["rules","word","start","place","numbers"] ["rules","word","start"] (defScope sFirst):=⟨rfl,rfl,rfl,by decide +kernel,rfl,by decide +kernel,by decide +kernel⟩
theorem ok_first (D:Dfn K mg "first_step" sFirst ["rules","word","start"]) (B:Blt mg) (ON:Ok P w K mg base "numbers_at" ["rules","word","place"] 1 spNums):Ok P w K mg base "first_step" ["rules","word","start"] 2 spFirst:=by
  refine D.ok scFirst (fun vs H Q E h=>?_) (fun f cdv A outer s H vs Q E hr h=>?_)
  · obtain ⟨a,rs,al,n,w,s,rfl,_⟩:=h
    rfl
  obtain ⟨a,rs,al,n,w,st,rfl,hS,hG,hlen,hw,hs,q⟩:=h
  refine ⟨_,pss_cons (ps_for PassesOwn.never rfl (pi_range2 rfl B.rng (pa_cons (pv 2) (pa_cons (pe_callB call_lenS rfl B.len PySem.boot_len (pa_cons (pv 1) pa_nil)) pa_nil))) (pg_name (i:=3) scFirst.nd rfl (Or.inl rfl))
      (pss_cons (ps_set (i:=4) scFirst.nd rfl (Or.inl rfl) (pe_fn ON hr rfl (pa_cons (pv 0) (pa_cons (pv 1) (pa_cons (pv 3) pa_nil)))))
      (pss_one (ps_if (pt_truth (pv 4) (fun _=>rfl)) (pss_one (ps_ret (pe_tup (pa_cons (pv 3) (pa_cons (pe_ix ix_list (pv 4) pe_int (fun _ _=>rfl)) pa_nil))))) pss_nil))))
    (pss_one (ps_ret pe_non)),?_⟩
  try dsimp only [cxOf,Cx.nox]
  refine ⟨_,rfl,_,rfl,w,rfl,szl hw,_,_,rfl,⟨by lia,by lia,by lia,by lia⟩,?_⟩
  have e:(((w.length:Nat):Int) - ((st:Nat):Int)).toNat = w.length - st:=by lia
  rw [e]
  refine for_range (lo:=((st:Nat):Int)) (n:=w.length - st) (FiW a w st rs H)
    ⟨Same.refl _,⟨_,_,rfl⟩,fun q h1 h2=>by lia⟩ ?_ ?_
  · rintro i σ H' hi ⟨s',⟨x,y,rfl⟩,hno⟩
    refine ⟨_,rfl,_,rfl,_,rfl,a,rs,al,n,w,st + i,rfl,hS.mono s',hG,hlen,fun r H3 s3 e3=>?_⟩
    refine ⟨_,rfl,_,.inl ⟨_,SqL.of e3,rfl⟩,?_⟩
    cases hnum:numsAt rs w (st + i) with
    | nil =>
      refine iteF ⟨s'.trans s3,⟨_,_,rfl⟩,fun q h1 h2=>?_⟩
      by_cases hq:q = st + i
      · rw [hq]; exact hnum
      · exact hno q h1 (by lia)
    | cons j r' =>
      refine iteT ?_
      refine ⟨_,rfl,_,rfl,r,_,0,_,rfl,rfl,SqL.of e3,head_map hnum _,(by show 2 ≤ sizeLine; decide),fun p hp=>?_⟩
      refine q _ _ (s'.trans (s3.trans (same_new hp _))) ?_
      rw [firstF_mk hno hi (by rw [hnum]; rfl)]
      exact ⟨p,rfl,upd_same⟩
  · rintro σ H' ⟨s',⟨x,y,rfl⟩,hno⟩
    refine q _ _ s' ?_
    rw [firstF_none.mpr fun q h1 h2=>hno q h1 (by lia)]
    exact rfl
theorem scStep:FnScope ["rules","word","place","number","left","right"] ["rules","word","place","number"] (defScope sStep):=⟨rfl,rfl,rfl,by decide +kernel,rfl,by decide +kernel,by decide +kernel⟩
theorem ok_step (D:Dfn K mg "step" sStep ["rules","word","place","number"]) (OT:Ok P w K mg base "stands" ["part","word","place"] 1 spStd) (OC:Ok P w K mg base "changed" ["word","place","old","new"] 1 spChg):Ok P w K mg base "step" ["rules","word","place","number"] 2 spStep:=by
  refine D.ok scStep (fun vs H Q E h=>?_) (fun f cdv A outer s H vs Q E hr h=>?_)
  · obtain ⟨a,rs,w,p,i,rfl,_⟩:=h
    rfl
  obtain ⟨a,rs,w,p,i,rfl,hS,hi,hp,hat,hpl,hw,hrl,q⟩:=h
  refine ⟨_,pss_cons (ps_set (i:=4) scStep.nd rfl (Or.inl rfl) (pe_ix ix_tup (pe_ix ix_list (pv 0) (pv 3) (fun _ _=>rfl)) pe_int (fun _ _=>rfl)))
    (pss_cons (ps_set (i:=5) scStep.nd rfl (Or.inl rfl) (pe_ix ix_tup (pe_ix ix_list (pv 0) (pv 3) (fun _ _=>rfl)) pe_int (fun _ _=>rfl)))
    (pss_cons (ps_if (pt_not (pt_val (pe_fn OT hr rfl (pa_cons (pv 4) (pa_cons (pv 1) (pa_cons (pv 2) pa_nil)))))) pss_never pss_nil)
    (pss_one (ps_ret (pe_fn OC hr rfl (pa_cons (pv 1) (pa_cons (pv 2) (pa_cons (pv 4) (pa_cons (pv 5) pa_nil))))))))),?_⟩
  try dsimp only [cxOf,Cx.nox]
  obtain ⟨vs,p2,eH,hvl,hx,h2⟩:=hS.get hi
  have hat2:atI vs ((i:Nat):Int) = some (.ref p2):=atI_nat hx
  refine ⟨_,rfl,_,rfl,a,vs,_,_,rfl,rfl,SqL.of eH,hat2,p2,_,0,_,rfl,rfl,SqT.of h2,rfl,?_⟩
  refine ⟨_,rfl,_,rfl,a,vs,_,_,rfl,rfl,SqL.of eH,hat2,p2,_,1,_,rfl,rfl,SqT.of h2,rfl,?_⟩
  generalize hr1:rs.getD i ([],[]) = rl at *
  have hll:rl.1.length ≤ 1000:=by lia
  have est:stI w rl.1 ((p:Nat):Int) = true:=by
    unfold stI
    rw [Int.toNat_natCast,decide_eq_true ⟨Int.natCast_nonneg _,hpl⟩]
    exact hat
  refine ⟨_,rfl,_,rfl,_,rfl,w,rl.1,_,rfl,hw,_,rfl,?_⟩
  rw [est]
  refine iteF ?_
  refine ⟨_,rfl,_,rfl,_,rfl,_,rfl,w,p,rl.1,rl.2,rfl,hw,hll,hrl,?_⟩
  have e2:chg w p rl.1 rl.2 = app rs w p i:=by
    unfold app chg
    rw [hr1]
  rw [e2]
  exact q _ (Same.refl _)
inductive GrW (H0:Hp) (a l:Addr) (rs:List Rl) (al w:Wd) (lg:Int) (m:Nat) (σ:St) (H:Hp):Prop
  | mk (cur:_) (ss:_) (vf:_) (x:_) (h1_:m = rank al cur) (h2_:σ = [some (.ref a),some (tx w),some (tx cur),some (.ref l),some (.int lg),some vf,x]) (h3_:Same H0 H) (h4_:SsAt H l ss) (h5_:FsAt H vf (first rs cur)) (h6_:Over al cur) (h7_:cur.length ≤ w.length) (h8_:ss.length + rank al cur ≤ rank al w) (h9_:∀ f tt,Down rs cur f tt → Down rs w f (ss ++ tt)):GrW H0 a l rs al w lg m σ H
theorem SsAt.snoc {H:Hp} {l:Addr} {sv:List V} {ss:List (Nat × Nat)} {v:V} {s:Nat × Nat} (h:H l = some (.lst sv)) (hp:Paired (StAt H) sv ss) (hv:StAt H v s):SsAt (upd H l (.lst (sv ++ [v]))) l (ss ++ [s]) :=
  ⟨_,upd_same,pairImp (pairApp hp (.cons hv .nil)) fun _ _ z=>z.mono (tups_own h)⟩
theorem scGround:FnScope ["rules","word","form","steps","longest","found","place"] ["rules","word"] (defScope sGround):=⟨rfl,rfl,rfl,by decide +kernel,rfl,by decide +kernel,by decide +kernel⟩
theorem ccGround:CompScope (defScope sGround) ["rules","word","form","steps","longest","found","place"] (compSc (argE (asgE (defBody sGround) 2) 0)) ["rule"] [] []:=⟨rfl,by decide +kernel,by decide +kernel,by decide +kernel,by decide +kernel,rfl,by decide +kernel⟩
theorem ok_ground (D:Dfn K mg "ground" sGround ["rules","word"]) (B:Blt mg) (OF:Ok P w K mg base "first_step" ["rules","word","start"] 2 spFirst) (OS:Ok P w K mg base "step" ["rules","word","place","number"] 2 spStep):Ok P w K mg base "ground" ["rules","word"] 3 spDown:=by
  refine D.ok scGround (fun vs H Q E h=>?_) (fun f cdv A outer s H vs Q E hr h=>?_)
  · obtain ⟨a,rs,al,n,w,rfl,_⟩:=h
    rfl
  obtain ⟨a,rs,al,n,w,rfl,hS,hG,hn,hlen,hov,hw,hrk,q⟩:=h
  have hr1:Room 1 _:=hr.mono (by decide)
  refine ⟨_,pss_cons (ps_set (i:=2) scGround.nd rfl (Or.inl rfl) (pv 1))
    (pss_cons (ps_set (i:=3) scGround.nd rfl (Or.inl rfl) (pe_lst pa_nil))
    (pss_cons (ps_set (i:=4) scGround.nd rfl (Or.inl rfl) (pe_maxD rfl rfl B.mx (pa_cons (pe_comp (g:=gName 0) (tt:=tNoTest) (te:=tCB rLenS (tCons (tOp (rIxT K) (tVar 0) (tC (.int 0))) tNil)) rfl ccGround (pi_list (pv 0)) (by intro cl C ex s H; exact ⟨pg_name (i:=0) ccGround.nd rfl (.inl rfl),pf_nil,pe_callB call_lenS rfl B.len PySem.boot_len (pa_cons (pe_ix ix_tup (pv 0) pe_int (fun _ _=>rfl)) pa_nil)⟩)) pa_nil) (pk_cons pe_int pk_nil)))
    (pss_cons (ps_set (i:=5) scGround.nd rfl (Or.inl rfl) (pe_fn OF hr rfl (pa_cons (pv 0) (pa_cons (pv 2) (pa_cons pe_int pa_nil)))))
    (pss_cons (ps_while PassesOwn.never (pt_cmp (pc_notN (pv 5)))
      (pss_cons (ps_set (i:=6) scGround.nd rfl (Or.inl rfl) (pe_ix ix_tup (pv 5) pe_int (fun _ _=>rfl)))
      (pss_cons (ps_expr (pe_bm PySem.F.plainAttrs_list PySem.F.slot_list_append PySem.F.type_list_append mt_append (pv 3) (pa_cons (pv 5) pa_nil)))
      (pss_cons (ps_set (i:=2) scGround.nd rfl (Or.inl rfl) (pe_fn OS hr rfl (pa_cons (pv 0) (pa_cons (pv 2) (pa_cons (pv 6) (pa_cons (pe_ix ix_tup (pv 5) pe_int (fun _ _=>rfl)) pa_nil))))))
      (pss_one (ps_set (i:=5) scGround.nd rfl (Or.inl rfl) (pe_fn OF hr rfl (pa_cons (pv 0) (pa_cons (pv 2) (pa_cons (pe_callB (call_max2 rfl) rfl B.mx PyProof.Rows.boot_max (pa_cons pe_int (pa_cons (pe_op op_add (pe_op op_sub (pv 6) (pv 4)) pe_int) pa_nil))) pa_nil))))))))))
    (pss_one (ps_ret (pe_tup (pa_cons (pv 2) (pa_cons (pv 3) pa_nil))))))))),?_⟩
  try dsimp only [cxOf,Cx.nox]
  refine ⟨_,rfl,(by show 0 ≤ sizeLine; decide),fun l hl=>?_⟩
  have s1:Same H (upd H l (.lst [])):=same_new hl _
  obtain ⟨vs,eH,hP⟩:=id hS
  have hvl:vs.length = rs.length:=(pairLen hP)
  refine ⟨_,rfl,a,rfl,⟨vs,SqL.of (s1 _ _ eH)⟩,?_⟩
  refine turns_list (K:=K) (xs:=vs) (fun i acc H'=>H' = upd H l (.lst []) ∧ i ≤ rs.length ∧ acc = ((rs.take i).map fun r=>V.int (r.1.length:Int)))
    ⟨rfl,Nat.zero_le _,rfl⟩ (fun i acc H' ⟨_,hi,e⟩=>?_) (by rw [hvl]; exact small1000 (by lia)) (fun i acc H' ⟨e,_,_⟩=>by rw [e]; exact SqL.of (s1 _ _ eH)) (fun i acc H' x hx ⟨e,hi,hacc⟩=>?_) (fun acc H' ⟨e,hi,hacc⟩ pm hpm=>?_)
  · rw [e,List.length_map,List.length_take]
    lia
  · obtain ⟨rl,hrl,p2,e2,h2⟩:=pairGetL hP hx
    subst e2 e
    have hil:i < rs.length:=(List.getElem?_eq_some_iff.mp hrl).1
    have hmem:rl ∈ rs:=List.mem_of_getElem? hrl
    have hll:=hG.ln rl hmem
    refine ⟨rfl,noTest ?_⟩
    refine ⟨_,rfl,p2,_,0,_,rfl,rfl,SqT.of (s1 _ _ h2),rfl,rl.1,rfl,szl (by lia),rfl,hil,?_⟩
    rw [List.take_add_one,hrl,hacc]
    simp
  subst e
  have hacc':acc = ((rs.map fun r=>(r.1.length:Int)).map V.int):=by
    rw [hacc,hvl,List.take_length,List.map_map]
    rfl
  generalize hlg:maxD 0 (rs.map fun r=>(r.1.length:Int)) = lg
  have hG2:Good rs al lg.toNat:=⟨hG.inc,hG.bf,hG.sm,fun r hr'=>by
    have:=maxD_ge (d:=0) (List.mem_map.mpr ⟨r,hr',rfl⟩:(r.1.length:Int) ∈ rs.map fun r=>(r.1.length:Int))
    rw [hlg] at this
    lia⟩
  refine ⟨pm,(rs.map fun r=>(r.1.length:Int)),0,rfl,rfl,SqL.of (by rw [upd_same,hacc']),?_⟩
  rw [hlg]
  have s2:Same H (upd (upd H l (.lst [])) pm (.lst acc)):=s1.trans (same_new hpm _)
  have nlp:l ≠ pm:=ne_of_none upd_same hpm
  have hl2:(upd (upd H l (.lst [])) pm (.lst acc)) l = some (.lst []):=by rw [upd_ne nlp]; exact upd_same
  refine ⟨_,rfl,_,rfl,a,rs,al,n,w,0,rfl,hS.mono s2,hG,hlen,by lia,by lia,fun v H3 s3 e3=>?_⟩
  have hov':=hov
  refine ⟨GrW H a l rs al w lg,⟨_,w,[],v,_,rfl,rfl,s2.trans s3,⟨[],s3 _ _ hl2,.nil⟩,e3,hov,Nat.le_refl _,by simp,fun f tt h=>h⟩,?_⟩
  rintro m σ H' ⟨cur,ss,vf,x,rfl,rfl,s4,hss,hfs,hovc,hcl,hbd,hdn⟩
  refine ⟨_,rfl,_,rfl,?_⟩
  cases hf:first rs cur with
  | none =>
    rw [hf] at hfs
    cases (show vf = V.non from hfs)
    refine iteF ?_
    refine ⟨_,rfl,_,rfl,(by show 2 ≤ sizeLine; decide),fun t ht=>?_⟩
    have h:=hdn cur [] (Down.done hf)
    rw [List.append_nil] at h
    exact q t l cur ss _ (s4.trans (same_new ht _)) upd_same (hss.mono (same_new ht _)) h hcl
  | some pi =>
    obtain ⟨p,i⟩:=pi
    rw [hf] at hfs
    obtain ⟨p5,e5,h5⟩:=(show StAt H' vf (p,i) from hfs)
    subst e5
    rw [decide_eq_false (fun z=>nomatch z)]
    refine iteT ⟨fun σ' H'=>∃ m',m' < rank al cur ∧ GrW H a l rs al w lg m' σ' H',fun _ _ h=>h,?_⟩
    obtain ⟨hpl,hi,hat,hpp,hno⟩:=first_at hG hf
    obtain ⟨sv,hsv,hsp⟩:=hss
    have hsl:sv.length = ss.length:=(pairLen hsp)
    have hrl:=hG.ln _ (getD_mem hi)
    have hrl2:=bef_len (hG.bf _ (getD_mem hi))
    refine ⟨_,rfl,p5,_,0,_,rfl,rfl,SqT.of h5,rfl,?_⟩
    refine ⟨_,rfl,.inl ⟨rfl,_,SqL.of hsv⟩,_,rfl,l,_,_,rfl,rfl,hsv,(by rw [hsl,sizeLine_eq]; lia),?_⟩
    have hss2:SsAt (upd H' l (.lst (sv ++ [.ref p5]))) l (ss ++ [(p,i)]):=SsAt.snoc hsv hsp ⟨p5,rfl,h5⟩
    have s5:Same H (upd H' l (.lst (sv ++ [.ref p5]))):=s4.own hl _
    have h5':=tups_own (ys:=sv ++ [.ref p5]) hsv _ _ h5
    refine ⟨_,rfl,_,rfl,_,rfl,_,rfl,p5,_,1,_,rfl,rfl,SqT.of h5',rfl,a,rs,cur,p,i,rfl,hS.mono s5,hi,hpl,hat,hpp,by lia,by lia,fun H6 s6=>?_⟩
    have hcur2:(app rs cur p i).length ≤ w.length:=Nat.le_trans (app_len hG hi hpp) hcl
    have hlgp:1 ≤ lg.toNat:=by
      have h1:=hG2.ln _ (getD_mem hi)
      have h2:0 < (rs.getD i ([],[])).1.length:=List.length_pos_iff.mpr (hG.ne (getD_mem hi))
      lia
    have hap:p ≤ (app rs cur p i).length:=by
      unfold app
      rw [List.length_append,List.length_append,List.length_take]
      lia
    generalize hst:((p:Int) - lg + 1).toNat = st
    have hmax:(if ((p:Nat):Int) - lg + 1 > 0 then ((p:Nat):Int) - lg + 1 else 0) = ((st:Nat):Int):=by
      split <;> lia
    refine ⟨_,rfl,_,rfl,_,rfl,_,rfl,_,_,rfl,rfl,_,_,rfl,rfl,_,_,rfl,?_⟩
    rw [hmax]
    refine ⟨a,rs,al,n,app rs cur p i,st,rfl,hS.mono (s5.trans s6),hG,hlen,by lia,by lia,fun v' H7 s7 e7=>?_⟩
    have efirst:firstF rs (app rs cur p i) ((app rs cur p i).length - st) st = first rs (app rs cur p i):=by
      have h1:=firstF_skip (rs:=rs) (w:=app rs cur p i) (d:=st) (k:=(app rs cur p i).length - st) (s:=0) (fun q' _ h2=>none_ahead hG2 hf q' (by lia))
      rw [Nat.zero_add,Nat.add_sub_cancel' (by lia)] at h1
      exact h1.symm
    rw [efirst] at e7
    refine ⟨rank al (app rs cur p i),app_rank hG hovc hf,app rs cur p i,ss ++ [(p,i)],v',_,rfl,rfl,s5.trans (s6.trans s7),hss2.mono (s6.trans s7),e7,app_small hG hovc hi,hcur2,?_,fun f tt h=>?_⟩
    · rw [List.length_append,List.length_singleton]
      exact down_bound hG hovc hf hbd
    · rw [List.append_assoc]
      exact hdn f _ (Down.step hf h)
end
end Sg
namespace Sg
open PySem L2
inductive spMoved (vs:List V) (H:Hp) (Q:VK) (E_:XK):Prop
  | mk (c:Addr) (ks:List Lk) (p:Int) (h1_:vs = [.ref c,.int p]) (h2_:LsAt H c ks) (h3_:ks.length ≤ 10000000) (h4_:∀ r H',H r = none → Same H H' → LsAt H' r (mvd ks p) → Q (.ref r) H'):spMoved vs H Q E_
inductive spRulesOf (vs:List V) (H:Hp) (Q:VK) (E_:XK):Prop
  | mk (a:_) (es:_) (h1_:vs = [.ref a]) (h2_:EsAt H a es) (h3_:es.length ≤ 500) (h4_:∀ r H',H r = none → Same H H' → RsAt H' r (rlsE es) → Q (.ref r) H'):spRulesOf vs H Q E_
def eqs0 (ps:List Rl):List Eq3:=(List.range ps.length).map fun i=>((ps.getD i ([],[])).1,(ps.getD i ([],[])).2,[((i:Int),(0:Int),true)])
inductive spEqsOf (vs:List V) (H:Hp) (Q:VK) (E_:XK):Prop
  | mk (a:_) (ps:_) (h1_:vs = [.ref a]) (h2_:RsAt H a ps) (h3_:ps.length ≤ 100) (h4_:∀ r H',H r = none → Same H H' → EsAt H' r (eqs0 ps) → Q (.ref r) H'):spEqsOf vs H Q E_
theorem eqs0_shows {ps:List Rl}:∀ e ∈ eqs0 ps,Shows ps e:=fun e he=>by
  obtain ⟨i,hi,rfl⟩:=List.mem_map.mp he
  have hi:=List.mem_range.mp hi
  unfold Shows
  have hf:fitL ps (ps.getD i ([],[])).1 ((i:Int),(0:Int),true) = true:=by
    unfold fitL numOk
    rw [decide_eq_true (by show 0 ≤ (i:Int) ∧ (i:Int) < _; lia),Bool.true_and,stI_iff]
    refine ⟨Int.le_refl _,?_,?_⟩
    · show 0 + (ps.getD (i:Int).toNat ([],[])).1.length ≤ _
      rw [Int.toNat_natCast]
      lia
    · show ((ps.getD i ([],[])).1.drop 0).take (ps.getD (i:Int).toNat ([],[])).1.length = (ps.getD (i:Int).toNat ([],[])).1
      rw [Int.toNat_natCast,List.drop_zero,List.take_length]
  rw [wlk_cons (lnk_some hf)]
  show some (chg (ps.getD i ([],[])).1 0 (ps.getD (i:Int).toNat ([],[])).1 (ps.getD (i:Int).toNat ([],[])).2) = some _
  rw [Int.toNat_natCast]
  unfold chg
  simp
theorem LsAt.ext {H:Hp} {l:Addr} {xs zs:List V} {ks js:List Lk} (h:H l = some (.lst xs)) (hp:Paired (LkAt H) xs ks) (hz:Paired (LkAt H) zs js):LsAt (upd H l (.lst (xs ++ zs))) l (ks ++ js) :=
  ⟨_,upd_same,pairImp (pairApp hp hz) fun _ _ z=>z.mono (tups_own h)⟩
inductive spGWC (vs:List V) (H:Hp) (Q:VK) (E_:XK):Prop
  | mk (a:Addr) (es:List Eq3) (al:Wd) (n:Nat) (w:Wd) (M:Nat) (h1_:vs = [.ref a,tx w]) (h2_:EsAt H a es) (h3_:Good (rlsE es) al n) (h4_:n ≤ 900) (h5_:es.length ≤ 500) (h6_:Over al w) (h7_:w.length ≤ 900) (h8_:rank al w ≤ 4000000) (h9_:(∀ e ∈ es,e.2.2.length ≤ M)) (h10_:M ≤ 10000000) (h11_:(∀ f ss,Down (rlsE es) w f ss → ss.length * M ≤ 10000000)) (h12_:∀ t c f ss ch H',Same H H' → H c = none → H' t = some (.tup [tx f,.ref c]) → LsAt H' c ch → Down (rlsE es) w f ss → f.length ≤ w.length → ch.length ≤ ss.length * M → (∀ ps,(∀ e ∈ es,Shows ps e) → wlk ps w ch = some f) → Q (.ref t) H'):spGWC vs H Q E_
inductive GwW (a t lc:Addr) (w:Wd) (es:List Eq3) (al fm:Wd) (ss:List (Nat × Nat)) (sv:List V) (M:Nat) (H2:Hp) (i:Nat) (σ:St) (H':Hp):Prop
  | mk (h1_:Same H2 H') (h2_:i ≤ sv.length) (h3_:∃ x,σ = [some (.ref a),some (tx w),some (.ref t),some (.ref lc),x]) (ch:List Lk) (u:Wd) (h4_:LsAt H' lc ch) (h5_:Over al u) (h6_:Down (rlsE es) u fm (ss.drop i)) (h7_:ch.length ≤ i * M) (h8_:∀ ps,(∀ e ∈ es,Shows ps e) → wlk ps w ch = some u):GwW a t lc w es al fm ss sv M H2 i σ H'
section
variable {P:Program} {w:World} {K:PySem.W.Frag} {mg:Str → Option Value} {base:Heap}
theorem scMoved:FnScope ["chain","places"] ["chain","places"] (defScope sMoved):=⟨rfl,rfl,rfl,by decide +kernel,rfl,by decide +kernel,by decide +kernel⟩
theorem ccMoved:CompScope (defScope sMoved) ["chain","places"] (compSc (retE (defBody sMoved))) ["link"] ["places"] [1]:=⟨rfl,by decide +kernel,by decide +kernel,by decide +kernel,by decide +kernel,rfl,by decide +kernel⟩
theorem ok_moved (D:Dfn K mg "moved" sMoved ["chain","places"]):Ok P w K mg base "moved" ["chain","places"] 1 spMoved:=by
  refine D.ok scMoved (fun vs H Q E h=>?_) (fun f cdv A outer s H vs Q E hr h=>?_)
  · obtain ⟨c,ks,p,rfl,_⟩:=h
    rfl
  obtain ⟨c,ks,p,rfl,⟨kv,hkv,hkp⟩,hkl,q⟩:=h
  refine ⟨_,pss_one (ps_ret (pe_comp (g:=gName 0) (tt:=tNoTest) (te:=tTup (tCons (tOp (rIxT K) (tVar 0) (tC (.int 0))) (tCons (tOp (rI0 fun i j=>.int (i + j)) (tOp (rIxT K) (tVar 0) (tC (.int 1))) (tVar 1)) (tCons (tOp (rIxT K) (tVar 0) (tC (.int 2))) tNil)))) rfl ccMoved (pi_list (pv 0))
    (by intro cl C ex s H; exact ⟨pg_name (i:=0) ccMoved.nd rfl (.inl rfl),pf_nil,pe_tup (pa_cons (pe_ix ix_tup (pv 0) pe_int (fun _ _=>rfl)) (pa_cons (pe_op op_add (pe_ix ix_tup (pv 0) pe_int (fun _ _=>rfl)) (pv 1)) (pa_cons (pe_ix ix_tup (pv 0) pe_int (fun _ _=>rfl)) pa_nil)))⟩))),?_⟩
  try dsimp only [cxOf,Cx.nox]
  have lkv:=pairLen hkp
  refine ⟨_,rfl,c,rfl,⟨_,SqL.of hkv⟩,?_⟩
  refine turns_list (K:=K) (xs:=kv) (fun i acc H'=>Same H H' ∧ i ≤ kv.length ∧ Paired (LkAt H') acc ((mvd ks p).take i))
    ⟨Same.refl _,Nat.zero_le _,.nil⟩ (fun i acc H' ⟨_,hi,e⟩=>?_) (by rw [sizeLine_eq]; lia) (fun i acc H' ⟨s',_,_⟩=>SqL.of (s' _ _ hkv)) (fun i acc H' v hv ⟨s',hi,hacc⟩=>?_) (fun acc H' ⟨s',_,hacc⟩ r hr'=>?_)
  · have:=pairLen e
    rw [List.length_take] at this
    lia
  · obtain ⟨k,hk,t,rfl,ht⟩:=pairGetL hkp hv
    have hil:i < ks.length:=(List.getElem?_eq_some_iff.mp hk).1
    have ht':=s' _ _ ht
    refine ⟨rfl,noTest ?_⟩
    refine ⟨_,rfl,t,_,0,_,rfl,rfl,SqT.of ht',rfl,_,rfl,t,_,1,_,rfl,rfl,SqT.of ht',rfl,_,rfl,_,_,rfl,rfl,_,rfl,t,_,2,_,rfl,rfl,SqT.of ht',rfl,(by show 3 ≤ sizeLine; decide),fun q hq=>?_⟩
    refine ⟨s'.trans (same_new hq _),by lia,?_⟩
    have e:(mvd ks p)[i]? = some (k.1,k.2.1 + p,k.2.2):=by unfold mvd; rw [List.getElem?_map,hk]; rfl
    rw [List.take_add_one,e]
    exact pairApp (pairImp hacc fun _ _ z=>z.mono (tups_of (same_new hq _))) (.cons ⟨q,rfl,upd_same⟩ .nil)
  · have e:(mvd ks p).take kv.length = mvd ks p:=List.take_of_length_le (by unfold mvd; rw [List.length_map]; lia)
    rw [e] at hacc
    exact q r _ (s'.free hr') (s'.trans (same_new hr' _)) ⟨acc,upd_same,pairImp hacc fun _ _ z=>z.mono (tups_of (same_new hr' _))⟩
theorem scRulesOf:FnScope ["equations"] ["equations"] (defScope sRulesOf):=⟨rfl,rfl,rfl,by decide +kernel,rfl,by decide +kernel,by decide +kernel⟩
theorem ccRulesOf:CompScope (defScope sRulesOf) ["equations"] (compSc (retE (defBody sRulesOf))) ["equation"] [] []:=⟨rfl,by decide +kernel,by decide +kernel,by decide +kernel,by decide +kernel,rfl,by decide +kernel⟩
theorem ok_rulesOf (D:Dfn K mg "rules_of" sRulesOf ["equations"]):Ok P w K mg base "rules_of" ["equations"] 1 spRulesOf:=by
  refine D.ok scRulesOf (fun vs H Q E h=>?_) (fun f cdv A outer s H vs Q E hr h=>?_)
  · obtain ⟨a,es,rfl,_⟩:=h
    rfl
  obtain ⟨a,es,rfl,⟨ev,hev,hep⟩,hel,q⟩:=h
  refine ⟨_,pss_one (ps_ret (pe_comp (g:=gName 0) (tt:=tNoTest) (te:=tTup (tCons (tOp (rIxT K) (tVar 0) (tC (.int 0))) (tCons (tOp (rIxT K) (tVar 0) (tC (.int 1))) tNil))) rfl ccRulesOf (pi_list (pv 0))
    (by intro cl C ex s H; exact ⟨pg_name (i:=0) ccRulesOf.nd rfl (.inl rfl),pf_nil,pe_tup (pa_cons (pe_ix ix_tup (pv 0) pe_int (fun _ _=>rfl)) (pa_cons (pe_ix ix_tup (pv 0) pe_int (fun _ _=>rfl)) pa_nil))⟩))),?_⟩
  try dsimp only [cxOf,Cx.nox]
  have lev:=pairLen hep
  refine ⟨_,rfl,a,rfl,⟨_,SqL.of hev⟩,?_⟩
  refine turns_list (K:=K) (xs:=ev) (fun i acc H'=>Same H H' ∧ i ≤ ev.length ∧ Paired (RlAt H') acc ((rlsE es).take i))
    ⟨Same.refl _,Nat.zero_le _,.nil⟩ (fun i acc H' ⟨_,hi,e⟩=>?_) (small1000 (by lia)) (fun i acc H' ⟨s',_,_⟩=>SqL.of (s' _ _ hev)) (fun i acc H' v hv ⟨s',hi,hacc⟩=>?_) (fun acc H' ⟨s',_,hacc⟩ r hr'=>?_)
  · have:=pairLen e
    rw [List.length_take] at this
    lia
  · obtain ⟨e3,he3,t,c,rfl,ht,_⟩:=pairGetL hep hv
    have hil:i < es.length:=(List.getElem?_eq_some_iff.mp he3).1
    have ht':=s' _ _ ht
    refine ⟨rfl,noTest ?_⟩
    refine ⟨_,rfl,t,_,0,_,rfl,rfl,SqT.of ht',rfl,_,rfl,t,_,1,_,rfl,rfl,SqT.of ht',rfl,(by show 2 ≤ sizeLine; decide),fun q hq=>?_⟩
    refine ⟨s'.trans (same_new hq _),by lia,?_⟩
    rw [List.take_add_one,List.getElem?_map,he3]
    exact pairApp (pairImp hacc fun _ _ z=>z.mono (tups_of (same_new hq _))) (.cons ⟨q,rfl,upd_same⟩ .nil)
  · have e:(rlsE es).take ev.length = rlsE es:=List.take_of_length_le (by rw [List.length_map]; lia)
    rw [e] at hacc
    exact q r _ (s'.free hr') (s'.trans (same_new hr' _)) ⟨acc,upd_same,pairImp hacc fun _ _ z=>z.mono (tups_of (same_new hr' _))⟩
theorem scEqsOf:FnScope ["pairs"] ["pairs"] (defScope sEqsOf):=⟨rfl,rfl,rfl,by decide +kernel,rfl,by decide +kernel,by decide +kernel⟩
theorem ccEqsOf:CompScope (defScope sEqsOf) ["pairs"] (compSc (retE (defBody sEqsOf))) ["number","pair"] [] []:=⟨rfl,by decide +kernel,by decide +kernel,by decide +kernel,by decide +kernel,rfl,by decide +kernel⟩
theorem ok_eqsOf (D:Dfn K mg "equations_of" sEqsOf ["pairs"]) (B:Blt mg):Ok P w K mg base "equations_of" ["pairs"] 1 spEqsOf:=by
  refine D.ok scEqsOf (fun vs H Q E h=>?_) (fun f cdv A outer s H vs Q E hr h=>?_)
  · obtain ⟨a,ps,rfl,_⟩:=h
    rfl
  obtain ⟨a,ps,rfl,⟨pv',hpv,hpp⟩,hpl,q⟩:=h
  refine ⟨_,pss_one (ps_ret (pe_comp (g:=gTup K 2 (gCons (gName 0) (gCons (gName 1) gNil))) (tt:=tNoTest) (te:=tTup (tCons (tOp (rIxT K) (tVar 1) (tC (.int 0))) (tCons (tOp (rIxT K) (tVar 1) (tC (.int 1))) (tCons (tLst (tCons (tTup (tCons (tVar 0) (tCons (tC (.int 0)) (tCons (tC (.bl true)) tNil)))) tNil)) tNil)))) rfl ccEqsOf (pi_enum rfl B.enm (pa_cons (pv 0) pa_nil))
    (by intro cl C ex s H; exact ⟨pg_tup rfl (pgs_cons (pg_name (i:=0) ccEqsOf.nd rfl (.inl rfl)) (pgs_cons (pg_name (i:=1) ccEqsOf.nd rfl (.inl rfl)) pgs_nil)),pf_nil,pe_tup (pa_cons (pe_ix ix_tup (pv 1) pe_int (fun _ _=>rfl)) (pa_cons (pe_ix ix_tup (pv 1) pe_int (fun _ _=>rfl)) (pa_cons (pe_lst (pa_cons (pe_tup (pa_cons (pv 0) (pa_cons pe_int (pa_cons pe_bl pa_nil)))) pa_nil)) pa_nil)))⟩))),?_⟩
  try dsimp only [cxOf,Cx.nox]
  have lpv:=pairLen hpp
  refine ⟨_,rfl,a,rfl,⟨_,SqL.of hpv⟩,?_⟩
  refine turns_enum (K:=K) (xs:=pv') (fun i acc H'=>Same H H' ∧ i ≤ pv'.length ∧ Paired (EqAt3 H') acc ((eqs0 ps).take i))
    ⟨Same.refl _,Nat.zero_le _,.nil⟩ (fun i acc H' ⟨_,hi,e⟩=>?_) (small1000 (by lia)) (fun i acc H' ⟨s',_,_⟩=>SqL.of (s' _ _ hpv)) (fun i acc H' v p' hv ⟨s',hi,hacc⟩ hp'=>?_) (fun acc H' ⟨s',_,hacc⟩ r hr'=>?_)
  · have:=pairLen e
    rw [List.length_take] at this
    lia
  · obtain ⟨rl,hrl,t,rfl,ht⟩:=pairGetL hpp hv
    have hil:i < ps.length:=(List.getElem?_eq_some_iff.mp hrl).1
    have erl:ps.getD i ([],[]) = rl:=by rw [List.getD_eq_getElem?_getD,hrl]; rfl
    have s2:Same H' (upd H' p' (.tup [.int i,.ref t])):=same_new hp' _
    have ht2:=s2 _ _ (s' _ _ ht)
    refine ⟨p',_,rfl,SqT.of upd_same,rfl,_,_,rfl,_,_,rfl,rfl,rfl,noTest ?_⟩
    refine ⟨_,rfl,t,_,0,_,rfl,rfl,SqT.of ht2,rfl,_,rfl,t,_,1,_,rfl,rfl,SqT.of ht2,rfl,_,rfl,(by show 3 ≤ sizeLine; decide),fun k hk=>⟨(by show 1 ≤ sizeLine; decide),fun c hc=>⟨(by show 3 ≤ sizeLine; decide),fun q hq=>?_⟩⟩⟩
    have sk:=same_new hk (.tup [.int (i:Int),.int 0,.bl true])
    have sc:=same_new hc (.lst [.ref k])
    have sq:=same_new hq (.tup [tx rl.1,tx rl.2,.ref c])
    have st:Same H' _:=s2.trans (sk.trans (sc.trans sq))
    refine ⟨s'.trans st,by lia,?_⟩
    have e:(eqs0 ps)[i]? = some (rl.1,rl.2,[((i:Int),(0:Int),true)]):=by
      unfold eqs0
      rw [List.getElem?_map,List.getElem?_range hil,Option.map_some,erl]
    rw [List.take_add_one,e]
    refine pairApp (pairImp hacc fun _ _ z=>z.mono st) (.cons ⟨q,c,rfl,upd_same,?_⟩ .nil)
    exact ⟨[.ref k],sq _ _ upd_same,.cons ⟨k,rfl,sq _ _ (sc _ _ upd_same)⟩ .nil⟩
  · have e:(eqs0 ps).take pv'.length = eqs0 ps:=List.take_of_length_le (by unfold eqs0; rw [List.length_map,List.length_range]; lia)
    rw [e] at hacc
    exact q r _ (s'.free hr') (s'.trans (same_new hr' _)) ⟨acc,upd_same,pairImp hacc fun _ _ z=>z.mono (same_new hr' _)⟩
theorem scGWC:FnScope ["equations","word","found","chain","taken"] ["equations","word"] (defScope sGWC):=⟨rfl,rfl,rfl,by decide +kernel,rfl,by decide +kernel,by decide +kernel⟩
theorem ok_gwc (D:Dfn K mg "ground_with_chain" sGWC ["equations","word"]) (OG:Ok P w K mg base "ground" ["rules","word"] 3 spDown) (OR:Ok P w K mg base "rules_of" ["equations"] 1 spRulesOf) (OM:Ok P w K mg base "moved" ["chain","places"] 1 spMoved):Ok P w K mg base "ground_with_chain" ["equations","word"] 4 spGWC:=by
  refine D.ok scGWC (fun vs H Q E h=>?_) (fun f cdv A outer s H vs Q E hr h=>?_)
  · obtain ⟨a,es,al,n,w,M,rfl,_⟩:=h
    rfl
  obtain ⟨a,es,al,n,w,M,rfl,hE,hG,hn,hel,hov,hwl,hrk,hM,hM7,hB,q⟩:=h
  have hr1:Room 1 _:=hr.mono (by decide)
  refine ⟨_,pss_cons (ps_set (i:=2) scGWC.nd rfl (Or.inl rfl) (pe_fn OG hr rfl (pa_cons (pe_fn OR hr1 rfl (pa_cons (pv 0) pa_nil)) (pa_cons (pv 1) pa_nil))))
    (pss_cons (ps_set (i:=3) scGWC.nd rfl (Or.inl rfl) (pe_lst pa_nil))
    (pss_cons (ps_for PassesOwn.never rfl (pi_list (pe_ix ix_tup (pv 2) pe_int (fun _ _=>rfl))) (pg_name (i:=4) scGWC.nd rfl (Or.inl rfl))
      (pss_one (ps_expr (pe_bm PySem.F.plainAttrs_list PySem.F.slot_list_extend PySem.F.type_list_extend mt_extend (pv 3) (pa_cons (pe_fn OM hr1 rfl (pa_cons (pe_ix ix_tup (pe_ix ix_list (pv 0) (pe_ix ix_tup (pv 4) pe_int (fun _ _=>rfl)) (fun _ _=>rfl)) pe_int (fun _ _=>rfl)) (pa_cons (pe_ix ix_tup (pv 4) pe_int (fun _ _=>rfl)) pa_nil))) pa_nil)))))
    (pss_one (ps_ret (pe_tup (pa_cons (pe_ix ix_tup (pv 2) pe_int (fun _ _=>rfl)) (pa_cons (pv 3) pa_nil))))))),?_⟩
  try dsimp only [cxOf,Cx.nox]
  obtain ⟨ev,hev,hep⟩:=id hE
  have lev:=pairLen hep
  refine ⟨_,rfl,a,es,rfl,hE,hel,fun rr H1 hrr s1 hR=>?_⟩
  refine ⟨_,rfl,rr,rlsE es,al,n,w,rfl,hR,hG,hn,by rw [List.length_map]; exact hel,hov,hwl,hrk,fun t l fm ss H2 s2 ht hss hdn hfl=>?_⟩
  have s12:=s1.trans s2
  refine ⟨(by show 0 ≤ sizeLine; decide),fun lc hlc=>?_⟩
  have hcH:H lc = none:=s12.free hlc
  obtain ⟨sv,hsv,hsp⟩:=id hss
  have lsv:=pairLen hsp
  have hb:=hB fm ss hdn
  have s3:Same H2 (upd H2 lc (.lst [])):=same_new hlc _
  refine ⟨_,rfl,t,_,1,_,rfl,rfl,SqT.of (s3 _ _ ht),rfl,l,rfl,⟨_,SqL.of (s3 _ _ hsv)⟩,?_⟩
  refine for_list (K:=K) (a:=l) (xs:=sv) (GwW a t lc w es al fm ss sv M H2)
    ⟨s3,Nat.zero_le _,⟨_,rfl⟩,[],w,⟨[],upd_same,.nil⟩,hov,hdn,Nat.zero_le _,fun _ _=>rfl⟩ (fun i σ H' _ (.mk s' ..)=>SqL.of (s' _ _ hsv)) ?_ ?_
  · rintro i v σ H' hv ⟨s',hi,⟨x,rfl⟩,ch,u,⟨cv,hcv,hcp⟩,hou,hdu,hchl,hshow⟩
    obtain ⟨⟨p,k⟩,hpk,tk,rfl,htk⟩:=pairGetL hsp hv
    have hil:i < ss.length:=(List.getElem?_eq_some_iff.mp hpk).1
    have hdrop:ss.drop i = (p,k) :: ss.drop (i + 1):=by
      rw [List.drop_eq_getElem_cons hil]
      congr 1
      exact Option.some.inj ((List.getElem?_eq_getElem hil).symm.trans hpk)
    rw [hdrop] at hdu
    cases hdu with
    | step hf hd2 =>
      obtain ⟨hpl,hki,hat,hpp,_⟩:=first_at hG hf
      have hke:k < es.length:=by rw [List.length_map] at hki; exact hki
      have htk':=s' _ _ htk
      obtain ⟨ve,hve,te,c,rfl,hte,hcs⟩:=pairGetR hep (List.getElem?_eq_getElem hke)
      have hte':=(s12.trans s') _ _ hte
      have hcs':=hcs.mono (s12.trans s')
      have hemem:=List.getElem_mem hke
      have heM:=hM _ hemem
      have eg:(rlsE es).getD k ([],[]) = rlE es[k]:=by
        rw [List.getD_eq_getElem?_getD,List.getElem?_map,List.getElem?_eq_getElem hke]
        rfl
      have hatE:atI ev ((k:Nat):Int) = some (.ref te):=atI_nat hve
      refine ⟨_,rfl,.inl ⟨rfl,_,SqL.of hcv⟩,?_⟩
      refine ⟨_,rfl,_,rfl,tk,_,1,_,rfl,rfl,SqT.of htk',rfl,a,ev,_,_,rfl,rfl,SqL.of ((s12.trans s') _ _ hev),hatE,te,_,2,_,rfl,rfl,SqT.of hte',rfl,_,rfl,tk,_,0,_,rfl,rfl,SqT.of htk',rfl,c,es[k].2.2,_,rfl,hcs',by lia,fun r H5 hr5 s5 hm=>?_⟩
      obtain ⟨mv,hmv,hmp⟩:=id hm
      have lmv:mv.length = es[k].2.2.length:=by rw [pairLen hmp]; unfold mvd; rw [List.length_map]
      have lcv:=pairLen hcp
      have hcv5:=s5 _ _ hcv
      have lm:(mvd es[k].2.2 (p:Int)).length = es[k].2.2.length:=by unfold mvd; rw [List.length_map]
      have hi1:(i + 1) * M ≤ ss.length * M:=Nat.mul_le_mul_right _ hil
      have hi2:(i + 1) * M = i * M + M:=Nat.succ_mul i M
      refine ⟨lc,r,cv,mv,rfl,rfl,hcv5,hmv,by rw [sizeLine_eq]; lia,?_⟩
      refine ⟨(s'.trans s5).own hlc _,by lia,⟨_,rfl⟩,ch ++ mvd es[k].2.2 (p:Int),_,LsAt.ext hcv5 (pairImp hcp fun _ _ z=>z.mono (tups_of s5)) hmp,app_small hG hou hki,hd2,?_,fun ps hps=>?_⟩
      · rw [List.length_append,lm]
        lia
      · have h1:=hps _ hemem
        unfold Shows at h1
        rw [wlk_app ps ch w _ u (hshow ps hps)]
        rw [eg] at hat hpp
        have es2:u = u.take p ++ es[k].1 ++ u.drop (p + es[k].1.length):=split_at (show atP u es[k].1 p = true from hat) hpp
        have ltp:(u.take p).length = p:=by rw [List.length_take]; lia
        have h2:=wlk_ctx (ps:=ps) (u.take p) (u.drop (p + es[k].1.length)) es[k].2.2 es[k].1 es[k].2.1 h1
        rw [← es2,ltp] at h2
        rw [h2]
        congr 1
        unfold app
        rw [eg]
        rfl
  · rintro σ H' ⟨s',_,⟨x,rfl⟩,ch,u,hch,hou,hdu,hchl,hshow⟩
    rw [lsv,List.drop_length] at hdu
    cases hdu with
    | done hno =>
      refine ⟨_,rfl,t,_,0,_,rfl,rfl,SqT.of (s' _ _ ht),rfl,_,rfl,(by show 2 ≤ sizeLine; decide),fun t2 ht2=>?_⟩
      have s6:=same_new ht2 (.tup [tx fm,.ref lc])
      rw [lsv] at hchl
      exact q t2 lc fm ss ch _ (s12.trans (s'.trans s6)) hcH upd_same (hch.mono s6) hdn hfl hchl hshow
end
end Sg
namespace Sg
open PySem L2
section
variable {P:Program} {w:World} {K:PySem.W.Frag} {mg:Str → Option Value} {base:Heap}
theorem scBefore:FnScope ["one","other"] ["one","other"] (defScope sBefore):=⟨rfl,rfl,rfl,by decide +kernel,rfl,by decide +kernel,by decide +kernel⟩
theorem ok_before (D:Dfn K mg "before" sBefore ["one","other"]) (B:Blt mg):Ok P w K mg base "before" ["one","other"] 1 spBef:=by
  refine D.ok scBefore (fun vs H Q E h=>?_) (fun f cdv A outer s H vs Q E hr h=>?_)
  · obtain ⟨a,b,rfl,_⟩:=h
    rfl
  obtain ⟨a,b,rfl,ha,hb,q⟩:=h
  refine ⟨_,pss_cons (ps_if (pt_cmpR op_ne (pe_callB call_lenS rfl B.len PySem.boot_len (pa_cons (pv 0) pa_nil)) (pe_callB call_lenS rfl B.len PySem.boot_len (pa_cons (pv 1) pa_nil)) (nomark _))
      (pss_one (ps_ret (pe_cmpR op_lt (pe_callB call_lenS rfl B.len PySem.boot_len (pa_cons (pv 0) pa_nil)) (pe_callB call_lenS rfl B.len PySem.boot_len (pa_cons (pv 1) pa_nil)) (nomark _)))) pss_nil)
    (pss_one (ps_ret (pe_cmpR op_lt_str (pv 0) (pv 1) (nomark _)))),?_⟩
  try dsimp only [cxOf,Cx.nox]
  refine ⟨_,rfl,a,rfl,szl ha,_,rfl,b,rfl,szl hb,rfl,_,rfl,?_⟩
  by_cases hl:a.length = b.length
  · refine iteNS (by rw [hl]) ?_
    refine ⟨_,rfl,_,rfl,_,_,rfl,rfl,?_⟩
    have e:decide ((Sx a).cps.toList < (Sx b).cps.toList) = bef a b:=by
      unfold bef
      rw [if_pos hl,Sx_cps,Sx_cps]
    show Q (.bl (decide ((Sx a).cps.toList < (Sx b).cps.toList))) H
    rw [e]
    exact q _ (Same.refl _)
  · rw [decide_eq_false (fun z=>hl (by have:=V.int.inj z; lia))]
    refine iteT ?_
    refine ⟨_,rfl,a,rfl,szl ha,_,rfl,b,rfl,szl hb,_,_,rfl,rfl,?_⟩
    have e:decide ((a.length:Int) < (b.length:Int)) = bef a b:=by
      unfold bef
      rw [if_neg hl,Bool.eq_iff_iff,decide_eq_true_iff,decide_eq_true_iff]
      lia
    show Q (.bl (decide ((a.length:Int) < (b.length:Int)))) H
    rw [e]
    exact q _ (Same.refl _)
end
end Sg
namespace Sg
open PySem L2
inductive EqC (H:Hp) (v:V) (e:Eq3) (c:Addr):Prop
  | mk (t:_) (h1_:v = .ref t) (h2_:H t = some (.tup [tx e.1,tx e.2.1,.ref c])) (h3_:LsAt H c e.2.2):EqC H v e c
theorem EqC.mono {H H':Hp} (s:Same H H') {v:V} {e:Eq3} {c:Addr} (h:EqC H v e c):EqC H' v e c:=let ⟨t,e1,e2,e3⟩:=h; ⟨t,e1,s _ _ e2,e3.mono s⟩
structure Kp (es:List Eq3) (al:Wd) (n M:Nat):Prop where
  g:Good (rlsE es) al n
  n50:n ≤ 50
  l:es.length ≤ 100
  m:∀ e ∈ es,e.2.2.length ≤ M
  rk:∀ u,Over al u → u.length ≤ n → rank al u ≤ 4000000
theorem wlk_three {ps:List Rl} {a b c d:Wd} {x y z:List Lk} (h1:wlk ps a x = some b) (h2:wlk ps b y = some c) (h3:wlk ps c z = some d):wlk ps a (x ++ y ++ z) = some d:=by
  rw [List.append_assoc,wlk_app ps x a _ b h1,wlk_app ps y b _ c h2,h3]
theorem trn_len (ks:List Lk):(trn ks).length = ks.length:=by unfold trn; rw [List.length_map,List.length_reverse]
inductive spBoth (vs:List V) (H:Hp) (Q:VK) (E_:XK):Prop
  | mk (a:Addr) (es:List Eq3) (al:Wd) (n A1 M:Nat) (v:V) (e:Eq3) (c:Addr) (h1_:vs = [.ref a,v]) (h2_:EsAt H a es) (h3_:EqC H v e c) (h4_:Kp es al n M) (h5_:Wok al n (rlE e)) (h6_:e.2.2.length ≤ A1) (h7_:A1 ≤ 1000000) (h8_:M ≤ 1000000) (h9_:(∀ f1 ss1 f2 ss2,Down (rlsE es) e.1 f1 ss1 → Down (rlsE es) e.2.1 f2 ss2 → A1 + (ss1.length + ss2.length) * M ≤ 1000000)) (h10_:∀ v' c' f1 f2 ss1 ss2 ch H',Same H H' → H c' = none → EqC H' v' (f1,f2,ch) c' → Down (rlsE es) e.1 f1 ss1 → Down (rlsE es) e.2.1 f2 ss2 → f1.length ≤ n → f2.length ≤ n → ch.length ≤ A1 + (ss1.length + ss2.length) * M → (∀ ps,(∀ x ∈ es,Shows ps x) → Shows ps e → Shows ps (f1,f2,ch)) → Q v' H'):spBoth vs H Q E_
inductive spRight (vs:List V) (H:Hp) (Q:VK) (E_:XK):Prop
  | mk (a:Addr) (es:List Eq3) (al:Wd) (n M:Nat) (v:V) (e:Eq3) (c:Addr) (h1_:vs = [.ref a,v]) (h2_:EsAt H a es) (h3_:EqC H v e c) (h4_:Kp es al n M) (h5_:Wok al n (rlE e)) (h6_:e.2.2.length ≤ M) (h7_:M ≤ 1000000) (h8_:(∀ f ss,Down (rlsE es) e.2.1 f ss → M * (1 + ss.length) ≤ 1000000)) (h9_:∀ v' c' f ss ch H',Same H H' → H c' = none → EqC H' v' (e.1,f,ch) c' → Down (rlsE es) e.2.1 f ss → ch.length ≤ M * (1 + ss.length) → (∀ ps,(∀ x ∈ es,Shows ps x) → Shows ps e → Shows ps (e.1,f,ch)) → Q v' H'):spRight vs H Q E_
inductive spLater (vs:List V) (H:Hp) (Q:VK) (E_:XK):Prop
  | mk (v:V) (e:Eq3) (c:Addr) (h1_:vs = [v]) (h2_:EqC H v e c) (h3_:e.1.length ≤ 900) (h4_:e.2.1.length ≤ 900) (h5_:e.2.2.length ≤ 1000000) (h6_:∀ v' e' c' H',Same H H' → (c' = c ∨ H c' = none) → EqC H' v' e' c' → rlE e' = latF e.1 e.2.1 → e'.2.2.length = e.2.2.length → (∀ ps,Shows ps e → Shows ps e') → Q v' H'):spLater vs H Q E_
def putE (es:List Eq3) (e:Eq3):List Eq3:=es.filter (fun x=>bef x.1 e.1) ++ e :: es.filter (fun x=>!bef x.1 e.1)
theorem putE_rls (es:List Eq3) (e:Eq3):rlsE (putE es e) = putIn (rlsE es) (rlE e):=by
  unfold putE putIn rlsE
  rw [List.map_append,List.map_cons,List.filter_map,List.filter_map]
  rfl
inductive spPutIn (vs:List V) (H:Hp) (Q:VK) (E_:XK):Prop
  | mk (a:Addr) (kv:List V) (es:List Eq3) (v:V) (e:Eq3) (c:Addr) (h1_:vs = [.ref a,v]) (h2_:H a = some (.lst kv)) (h3_:Paired (EqAt3 H) kv es) (h4_:EqC H v e c) (h5_:es.length ≤ 200) (h6_:(∀ x ∈ es,x.1.length ≤ 900)) (h7_:e.1.length ≤ 900) (h8_:∀ r rv H',H r = none → Same H H' → H' r = some (.lst rv) → (∀ F:V → Eq3 → Prop,Paired F kv es → F v e → Paired F rv (putE es e)) → Q (.ref r) H'):spPutIn vs H Q E_
section
variable {P:Program} {w:World} {K:PySem.W.Frag} {mg:Str → Option Value} {base:Heap}
theorem scBoth:FnScope ["kept","equation","one","other"] ["kept","equation"] (defScope sBothG):=⟨rfl,rfl,rfl,by decide +kernel,rfl,by decide +kernel,by decide +kernel⟩
theorem ok_both (D:Dfn K mg "both_ground" sBothG ["kept","equation"]) (OG:Ok P w K mg base "ground_with_chain" ["equations","word"] 4 spGWC) (OT:Ok P w K mg base "turned" ["chain"] 1 spTurned):Ok P w K mg base "both_ground" ["kept","equation"] 5 spBoth:=by
  refine D.ok scBoth (fun vs H Q E h=>?_) (fun f cdv A outer s H vs Q E hr h=>?_)
  · obtain ⟨a,es,al,n,A1,M,v,e,c,rfl,_⟩:=h
    rfl
  obtain ⟨a,es,al,n,A1,M,v,e,c,rfl,hE,⟨t,rfl,ht,hc⟩,hK,hw,heM,hA6,hM6,hB,q⟩:=h
  have hr1:Room 1 _:=hr.mono (by decide)
  have n50:=hK.n50
  have w1:e.1.length ≤ n:=hw.2.2.1
  have w2:e.2.1.length ≤ n:=hw.2.2.2
  have l100:=hK.l
  refine ⟨_,pss_cons (ps_set (i:=2) scBoth.nd rfl (Or.inl rfl) (pe_fn OG hr rfl (pa_cons (pv 0) (pa_cons (pe_ix ix_tup (pv 1) pe_int (fun _ _=>rfl)) pa_nil))))
    (pss_cons (ps_set (i:=3) scBoth.nd rfl (Or.inl rfl) (pe_fn OG hr rfl (pa_cons (pv 0) (pa_cons (pe_ix ix_tup (pv 1) pe_int (fun _ _=>rfl)) pa_nil))))
    (pss_one (ps_ret (pe_tup (pa_cons (pe_ix ix_tup (pv 2) pe_int (fun _ _=>rfl)) (pa_cons (pe_ix ix_tup (pv 3) pe_int (fun _ _=>rfl)) (pa_cons (pe_op op_catR (pe_op op_catR (pe_fn OT hr1 rfl (pa_cons (pe_ix ix_tup (pv 2) pe_int (fun _ _=>rfl)) pa_nil)) (pe_ix ix_tup (pv 1) pe_int (fun _ _=>rfl))) (pe_ix ix_tup (pv 3) pe_int (fun _ _=>rfl))) pa_nil))))))),?_⟩
  try dsimp only [cxOf,Cx.nox]
  obtain ⟨f10,ss10,d10⟩:=down_ex hK.g _ e.1 (Nat.le_refl _) hw.1
  obtain ⟨f20,ss20,d20⟩:=down_ex hK.g _ e.2.1 (Nat.le_refl _) hw.2.1
  have hb0:=hB f10 ss10 f20 ss20 d10 d20
  have ex1:A1 + (ss10.length + ss20.length) * M = A1 + ss10.length * M + ss20.length * M:=by rw [Nat.add_mul,← Nat.add_assoc]
  have c1:∀ fx sx,Down (rlsE es) e.1 fx sx → sx.length * M ≤ 10000000:=fun fx sx dx=>by
    obtain ⟨_,e2⟩:=d10.det dx
    rw [e2]; lia
  have c2:∀ fx sx,Down (rlsE es) e.2.1 fx sx → sx.length * M ≤ 10000000:=fun fx sx dx=>by
    obtain ⟨_,e2⟩:=d20.det dx
    rw [e2]; lia
  refine ⟨_,rfl,_,rfl,t,_,0,_,rfl,rfl,SqT.of ht,rfl,a,es,al,n,e.1,M,rfl,hE,hK.g,by lia,by lia,hw.1,by lia,hK.rk _ hw.1 w1,hK.m,by lia,c1,fun t1 k1 f1 ss1 ch1 H1 s1 hk1 ht1 hch1 d1 fl1 hl1 sh1=>?_⟩
  refine ⟨_,rfl,_,rfl,t,_,1,_,rfl,rfl,SqT.of (s1 _ _ ht),rfl,a,es,al,n,e.2.1,M,rfl,hE.mono s1,hK.g,by lia,by lia,hw.2.1,by lia,hK.rk _ hw.2.1 w2,hK.m,by lia,c2,fun t2 k2 f2 ss2 ch2 H2 s2 hk2 ht2 hch2 d2 fl2 hl2 sh2=>?_⟩
  have hb:=hB f1 ss1 f2 ss2 d1 d2
  have ex2:A1 + (ss1.length + ss2.length) * M = A1 + ss1.length * M + ss2.length * M:=by rw [Nat.add_mul,← Nat.add_assoc]
  have ht1':=s2 _ _ ht1
  have ht':=(s1.trans s2) _ _ ht
  refine ⟨_,rfl,t1,_,0,_,rfl,rfl,SqT.of ht1',rfl,_,rfl,t2,_,0,_,rfl,rfl,SqT.of ht2,rfl,?_⟩
  refine ⟨_,rfl,t1,_,1,_,rfl,rfl,SqT.of ht1',rfl,k1,ch1,rfl,hch1.mono s2,by lia,fun k3 H3 _ s3 htr=>?_⟩
  obtain ⟨v3,hv3,hp3⟩:=id htr
  obtain ⟨vc,hvc,hpc⟩:=(hc.mono (s1.trans (s2.trans s3)))
  obtain ⟨v2,hv2,hp2⟩:=hch2.mono s3
  have l3:=pairLen hp3
  have lc:=pairLen hpc
  have l2:=pairLen hp2
  rw [trn_len] at l3
  refine ⟨_,rfl,t,_,2,_,rfl,rfl,SqT.of (s3 _ _ ht'),rfl,k3,c,v3,vc,rfl,rfl,SqL.of hv3,SqL.of hvc,by rw [sizeLine_eq]; lia,fun k4 hk4=>?_⟩
  have s4:Same H3 (upd H3 k4 (.lst (v3 ++ vc))):=same_new hk4 _
  refine ⟨_,rfl,t2,_,1,_,rfl,rfl,SqT.of (s4 _ _ (s3 _ _ ht2)),rfl,k4,k2,v3 ++ vc,v2,rfl,rfl,SqL.of upd_same,SqL.of (s4 _ _ hv2),by rw [List.length_append,sizeLine_eq]; lia,fun k5 hk5=>?_⟩
  have s5:=same_new hk5 (.lst (v3 ++ vc ++ v2))
  refine ⟨(by show 3 ≤ sizeLine; decide),fun t6 ht6=>?_⟩
  have s6:=same_new ht6 (.tup [tx f1,tx f2,.ref k5])
  have st:Same H3 _:=s4.trans (s5.trans s6)
  refine q (.ref t6) k5 f1 f2 ss1 ss2 (trn ch1 ++ e.2.2 ++ ch2) _ (s1.trans (s2.trans (s3.trans st))) ((s1.trans (s2.trans (s3.trans s4))).free hk5) ⟨t6,rfl,upd_same,v3 ++ vc ++ v2,s6 _ _ upd_same,?_⟩ d1 d2 (by lia) (by lia) ?_ fun ps hps he=>?_
  · exact pairImp (pairApp (pairApp hp3 hpc) hp2) fun _ _ z=>z.mono (tups_of st)
  · rw [List.length_append,List.length_append,trn_len]
    lia
  · exact wlk_three (wlk_back ps _ _ _ (sh1 ps hps)) he (sh2 ps hps)
theorem scRight:FnScope ["kept","equation","right"] ["kept","equation"] (defScope sRightG):=⟨rfl,rfl,rfl,by decide +kernel,rfl,by decide +kernel,by decide +kernel⟩
theorem ok_right (D:Dfn K mg "right_ground" sRightG ["kept","equation"]) (OG:Ok P w K mg base "ground_with_chain" ["equations","word"] 4 spGWC):Ok P w K mg base "right_ground" ["kept","equation"] 5 spRight:=by
  refine D.ok scRight (fun vs H Q E h=>?_) (fun f cdv A outer s H vs Q E hr h=>?_)
  · obtain ⟨a,es,al,n,M,v,e,c,rfl,_⟩:=h
    rfl
  obtain ⟨a,es,al,n,M,v,e,c,rfl,hE,⟨t,rfl,ht,hc⟩,hK,hw,heM,hM6,hB,q⟩:=h
  have n50:=hK.n50
  have w2:e.2.1.length ≤ n:=hw.2.2.2
  have l100:=hK.l
  refine ⟨_,pss_cons (ps_set (i:=2) scRight.nd rfl (Or.inl rfl) (pe_fn OG hr rfl (pa_cons (pv 0) (pa_cons (pe_ix ix_tup (pv 1) pe_int (fun _ _=>rfl)) pa_nil))))
    (pss_one (ps_ret (pe_tup (pa_cons (pe_ix ix_tup (pv 1) pe_int (fun _ _=>rfl)) (pa_cons (pe_ix ix_tup (pv 2) pe_int (fun _ _=>rfl)) (pa_cons (pe_op op_catR (pe_ix ix_tup (pv 1) pe_int (fun _ _=>rfl)) (pe_ix ix_tup (pv 2) pe_int (fun _ _=>rfl))) pa_nil)))))),?_⟩
  try dsimp only [cxOf,Cx.nox]
  have c2:∀ fx sx,Down (rlsE es) e.2.1 fx sx → sx.length * M ≤ 10000000:=fun fx sx dx=>by
    have:=hB fx sx dx
    rw [Nat.mul_add,Nat.mul_one,Nat.mul_comm M] at this
    lia
  refine ⟨_,rfl,_,rfl,t,_,1,_,rfl,rfl,SqT.of ht,rfl,a,es,al,n,e.2.1,M,rfl,hE,hK.g,by lia,by lia,hw.2.1,by lia,hK.rk _ hw.2.1 w2,hK.m,by lia,c2,fun t2 k2 f2 ss2 ch2 H2 s2 hk2 ht2 hch2 d2 fl2 hl2 sh2=>?_⟩
  have hb:=hB f2 ss2 d2
  have ex2:M * (1 + ss2.length) = M + ss2.length * M:=by rw [Nat.mul_add,Nat.mul_one,Nat.mul_comm M]
  have ht':=s2 _ _ ht
  obtain ⟨vc,hvc,hpc⟩:=(hc.mono s2)
  obtain ⟨v2,hv2,hp2⟩:=id hch2
  have lc:=pairLen hpc
  have l2:=pairLen hp2
  refine ⟨_,rfl,t,_,0,_,rfl,rfl,SqT.of ht',rfl,_,rfl,t2,_,0,_,rfl,rfl,SqT.of ht2,rfl,?_⟩
  refine ⟨_,rfl,t,_,2,_,rfl,rfl,SqT.of ht',rfl,_,rfl,t2,_,1,_,rfl,rfl,SqT.of ht2,rfl,c,k2,vc,v2,rfl,rfl,SqL.of hvc,SqL.of hv2,by rw [sizeLine_eq]; lia,fun k5 hk5=>?_⟩
  have s5:=same_new hk5 (.lst (vc ++ v2))
  refine ⟨(by show 3 ≤ sizeLine; decide),fun t6 ht6=>?_⟩
  have s6:=same_new ht6 (.tup [tx e.1,tx f2,.ref k5])
  have st:Same H2 _:=s5.trans s6
  refine q (.ref t6) k5 f2 ss2 (e.2.2 ++ ch2) _ (s2.trans st) (s2.free hk5) ⟨t6,rfl,upd_same,vc ++ v2,s6 _ _ upd_same,?_⟩ d2 ?_ fun ps hps he=>?_
  · exact pairImp (pairApp hpc hp2) fun _ _ z=>z.mono (tups_of st)
  · rw [List.length_append]
    lia
  · unfold Shows
    show wlk ps e.1 (e.2.2 ++ ch2) = some f2
    rw [wlk_app ps _ _ _ _ he]
    exact sh2 ps hps
theorem scLater:FnScope ["equation"] ["equation"] (defScope sLater):=⟨rfl,rfl,rfl,by decide +kernel,rfl,by decide +kernel,by decide +kernel⟩
theorem ok_later (D:Dfn K mg "later_first" sLater ["equation"]) (OB:Ok P w K mg base "before" ["one","other"] 1 spBef) (OT:Ok P w K mg base "turned" ["chain"] 1 spTurned):Ok P w K mg base "later_first" ["equation"] 2 spLater:=by
  refine D.ok scLater (fun vs H Q E h=>?_) (fun f cdv A outer s H vs Q E hr h=>?_)
  · obtain ⟨v,e,c,rfl,_⟩:=h
    rfl
  obtain ⟨v,e,c,rfl,⟨t,rfl,ht,hc⟩,h1,h2,h6,q⟩:=h
  refine ⟨_,pss_cons (ps_if (pt_val (pe_fn OB hr rfl (pa_cons (pe_ix ix_tup (pv 0) pe_int (fun _ _=>rfl)) (pa_cons (pe_ix ix_tup (pv 0) pe_int (fun _ _=>rfl)) pa_nil))))
      (pss_one (ps_ret (pe_tup (pa_cons (pe_ix ix_tup (pv 0) pe_int (fun _ _=>rfl)) (pa_cons (pe_ix ix_tup (pv 0) pe_int (fun _ _=>rfl)) (pa_cons (pe_fn OT hr rfl (pa_cons (pe_ix ix_tup (pv 0) pe_int (fun _ _=>rfl)) pa_nil)) pa_nil)))))) pss_nil)
    (pss_one (ps_ret (pv 0))),?_⟩
  try dsimp only [cxOf,Cx.nox]
  refine ⟨_,rfl,t,_,0,_,rfl,rfl,SqT.of ht,rfl,_,rfl,t,_,1,_,rfl,rfl,SqT.of ht,rfl,e.1,e.2.1,rfl,by lia,by lia,fun H1 s1=>⟨_,rfl,?_⟩⟩
  have ht1:=s1 _ _ ht
  refine ite2 (fun cb=>?_) (fun cb=>?_)
  · refine ⟨_,rfl,t,_,1,_,rfl,rfl,SqT.of ht1,rfl,_,rfl,t,_,0,_,rfl,rfl,SqT.of ht1,rfl,?_⟩
    refine ⟨_,rfl,t,_,2,_,rfl,rfl,SqT.of ht1,rfl,c,e.2.2,rfl,hc.mono s1,by lia,fun k3 H3 hk3 s3 htr=>?_⟩
    refine ⟨(by show 3 ≤ sizeLine; decide),fun t6 ht6=>?_⟩
    have s6:=same_new ht6 (.tup [tx e.2.1,tx e.1,.ref k3])
    refine q (.ref t6) (e.2.1,e.1,trn e.2.2) k3 _ (s1.trans (s3.trans s6)) (.inr (s1.free hk3)) ⟨t6,rfl,upd_same,htr.mono s6⟩ (by unfold latF; rw [if_pos cb]; rfl) (trn_len _) fun ps h=>?_
    exact wlk_back ps _ _ _ h
  · exact ⟨_,rfl,q (.ref t) e c H1 s1 (.inl rfl) ⟨t,rfl,ht1,hc.mono s1⟩ (by unfold latF; rw [if_neg cb]; rfl) rfl fun ps h=>h⟩
theorem scPutIn:FnScope ["kept","equation","ahead","behind"] ["kept","equation"] (defScope sPutIn):=⟨rfl,rfl,rfl,by decide +kernel,rfl,by decide +kernel,by decide +kernel⟩
theorem ccPut1:CompScope (defScope sPutIn) ["kept","equation","ahead","behind"] (compSc (asgE (defBody sPutIn) 0)) ["other"] ["equation"] [1]:=⟨rfl,by decide +kernel,by decide +kernel,by decide +kernel,by decide +kernel,rfl,by decide +kernel⟩
theorem ccPut2:CompScope (defScope sPutIn) ["kept","equation","ahead","behind"] (compSc (asgE (defBody sPutIn) 1)) ["other"] ["equation"] [1]:=⟨rfl,by decide +kernel,by decide +kernel,by decide +kernel,by decide +kernel,rfl,by decide +kernel⟩
def selV (p:Eq3 → Bool):List V → List Eq3 → List V
  | v :: vs,e :: es=>if p e = true then v :: selV p vs es else selV p vs es
  | _,_=>[]
theorem selV_pair {F:V → Eq3 → Prop} {p:Eq3 → Bool}:∀ {vs:List V} {es:List Eq3},Paired F vs es → Paired F (selV p vs es) (es.filter p)
  | _,_,.nil=>.nil
  | _,_,.cons (b:=y) r t=>by
    cases hp:p y with
    | true =>
      rw [List.filter_cons,hp,if_pos rfl]
      unfold selV
      rw [hp,if_pos rfl]
      exact .cons r (selV_pair t)
    | false =>
      rw [List.filter_cons,hp,if_neg Bool.false_ne_true]
      unfold selV
      rw [hp,if_neg Bool.false_ne_true]
      exact selV_pair t
theorem selV_app {p:Eq3 → Bool} {a':List V} {b':List Eq3}:∀ {a:List V} {b:List Eq3},a.length = b.length → selV p (a ++ a') (b ++ b') = selV p a b ++ selV p a' b'
  | [],[],_=>rfl
  | [],_ :: _,h=>by simp at h
  | _ :: _,[],h=>by simp at h
  | v :: vs,e :: es,h=>by
    have ih:=selV_app (p:=p) (a':=a') (b':=b') (a:=vs) (b:=es) (by simpa using h)
    show (if p e = true then v :: selV p (vs ++ a') (es ++ b') else selV p (vs ++ a') (es ++ b')) = (if p e = true then v :: selV p vs es else selV p vs es) ++ _
    rw [ih]
    split <;> rfl
theorem selV_succ {p:Eq3 → Bool} {kv:List V} {es:List Eq3} (hl:kv.length = es.length) {i:Nat} {v:V} {e:Eq3} (hv:kv[i]? = some v) (he:es[i]? = some e):selV p (kv.take (i + 1)) (es.take (i + 1)) = selV p (kv.take i) (es.take i) ++ if p e = true then [v] else []:=by
  rw [List.take_add_one,hv,List.take_add_one,he,selV_app (by rw [List.length_take,List.length_take,hl])]
  show _ ++ (if p e = true then v :: [] else []) = _
  rfl
theorem selV_len (p:Eq3 → Bool):∀ (vs:List V) (es:List Eq3),(selV p vs es).length ≤ vs.length
  | [],_=>by unfold selV; exact Nat.le_refl _
  | _ :: _,[]=>by unfold selV; exact Nat.zero_le _
  | v :: vs,e :: es=>by
    have ih:=selV_len p vs es
    unfold selV
    split
    · rw [List.length_cons,List.length_cons]; lia
    · rw [List.length_cons]; lia
inductive SeW (kv:List V) (es:List Eq3) (e:Eq3) (H:Hp) (i:Nat) (acc:List V) (H':Hp):Prop
  | mk (h1_:Same H H') (h2_:i ≤ kv.length) (h3_:acc = selV (fun x=>bef x.1 e.1) (kv.take i) (es.take i)):SeW kv es e H i acc H'
inductive SeX (kv:List V) (es:List Eq3) (e:Eq3) (H1:Hp) (i:Nat) (acc:List V) (H':Hp):Prop
  | mk (h1_:Same H1 H') (h2_:i ≤ kv.length) (h3_:acc = selV (fun x=>!bef x.1 e.1) (kv.take i) (es.take i)):SeX kv es e H1 i acc H'
theorem ok_putIn (D:Dfn K mg "put_in" sPutIn ["kept","equation"]) (OB:Ok P w K mg base "before" ["one","other"] 1 spBef):Ok P w K mg base "put_in" ["kept","equation"] 2 spPutIn:=by
  refine D.ok scPutIn (fun vs H Q E h=>?_) (fun f cdv A outer s H vs Q E hr h=>?_)
  · obtain ⟨a,kv,es,v,e,c,rfl,_⟩:=h
    rfl
  obtain ⟨a,kv,es,v,e,c,rfl,hkv,hkp,⟨t,rfl,ht,_⟩,hel,hl1,hl2,q⟩:=h
  refine ⟨_,pss_cons (ps_comp (i:=2) (g:=gName 0) (tt:=tB (tCall spBef [] E0 (tCons (tOp (rIxT K) (tVar 0) (tC (.int 0))) (tCons (tOp (rIxT K) (tVar 1) (tC (.int 0))) tNil)))) (te:=tVar 0) rfl ccPut1 (pi_list (pv 0))
      (by intro cl C ex s H; exact ⟨pg_name (i:=0) ccPut1.nd rfl (.inl rfl),pf_one (pt_val (pe_fn OB hr rfl (pa_cons (pe_ix ix_tup (pv 0) pe_int (fun _ _=>rfl)) (pa_cons (pe_ix ix_tup (pv 1) pe_int (fun _ _=>rfl)) pa_nil)))),pv 0⟩) scPutIn.nd rfl rfl)
    (pss_cons (ps_comp (i:=3) (g:=gName 0) (tt:=tNot (tB (tCall spBef [] E0 (tCons (tOp (rIxT K) (tVar 0) (tC (.int 0))) (tCons (tOp (rIxT K) (tVar 1) (tC (.int 0))) tNil))))) (te:=tVar 0) rfl ccPut2 (pi_list (pv 0))
      (by intro cl C ex s H; exact ⟨pg_name (i:=0) ccPut2.nd rfl (.inl rfl),pf_one (pt_not (pt_val (pe_fn OB hr rfl (pa_cons (pe_ix ix_tup (pv 0) pe_int (fun _ _=>rfl)) (pa_cons (pe_ix ix_tup (pv 1) pe_int (fun _ _=>rfl)) pa_nil))))),pv 0⟩) scPutIn.nd rfl rfl)
    (pss_one (ps_ret (pe_op op_catR (pe_op op_catR (pv 2) (pe_lst (pa_cons (pv 1) pa_nil))) (pv 3))))),?_⟩
  try dsimp only [cxOf,Cx.nox]
  have lkv:=pairLen hkp
  refine ⟨_,rfl,a,rfl,⟨_,SqL.of hkv⟩,?_⟩
  refine turns_list (K:=K) (xs:=kv) (SeW kv es e H)
    ⟨Same.refl _,Nat.zero_le _,rfl⟩ (fun i acc H' ⟨_,hi,e⟩=>?_) (small1000 (by lia)) (fun i acc H' (.mk s' _ ..)=>SqL.of (s' _ _ hkv)) (fun i acc H' v hv ⟨s',hi,hacc⟩=>?_) (fun acc H' ⟨s',_,hacc⟩ ra hra=>?_)
  · rw [e]
    refine Nat.le_trans (selV_len _ _ _) ?_
    rw [List.length_take]
    lia
  · obtain ⟨x,hx,tx',cx,rfl,htx,_⟩:=pairGetL hkp hv
    have hil:i < es.length:=(List.getElem?_eq_some_iff.mp hx).1
    have hxl:=hl1 x (List.mem_of_getElem? hx)
    refine ⟨rfl,?_⟩
    refine ⟨_,rfl,tx',_,0,_,rfl,rfl,SqT.of (s' _ _ htx),rfl,_,rfl,t,_,0,_,rfl,rfl,SqT.of (s' _ _ ht),rfl,x.1,e.1,rfl,by lia,by lia,fun H2 s2=>⟨_,rfl,?_⟩⟩
    refine ite2 (fun c=>?_) (fun c=>?_)
    · refine ⟨_,rfl,s'.trans s2,by lia,?_⟩
      rw [selV_succ lkv hv hx,if_pos c,hacc]
    · refine ⟨s'.trans s2,by lia,?_⟩
      rw [selV_succ lkv hv hx,if_neg c,List.append_nil,hacc]
  have hra':=s'.free hra
  have s1:Same H (upd H' ra (.lst acc)):=s'.trans (same_new hra _)
  have hra1:upd H' ra (.lst acc) ra = some (.lst (selV (fun x=>bef x.1 e.1) kv es)):=by
    rw [upd_same,hacc,lkv,List.take_length,← lkv,List.take_length]
  have lacc:=selV_len (fun x=>bef x.1 e.1) kv es
  generalize upd H' ra (.lst acc) = H1 at *
  refine ⟨_,rfl,a,rfl,⟨_,SqL.of (s1 _ _ hkv)⟩,?_⟩
  refine turns_list (K:=K) (xs:=kv) (SeX kv es e H1)
    ⟨Same.refl _,Nat.zero_le _,rfl⟩ (fun i acc H' ⟨_,hi,e⟩=>?_) (small1000 (by lia)) (fun i acc H' (.mk s' _ ..)=>SqL.of (s' _ _ (s1 _ _ hkv))) (fun i acc H' v hv ⟨s',hi,hacc⟩=>?_) (fun acc H' ⟨s',_,hacc⟩ rb hrb=>?_)
  · rw [e]
    refine Nat.le_trans (selV_len _ _ _) ?_
    rw [List.length_take]
    lia
  · obtain ⟨x,hx,tx',cx,rfl,htx,_⟩:=pairGetL hkp hv
    have hil:i < es.length:=(List.getElem?_eq_some_iff.mp hx).1
    have hxl:=hl1 x (List.mem_of_getElem? hx)
    have st:=s1.trans s'
    refine ⟨rfl,?_⟩
    refine ⟨_,rfl,tx',_,0,_,rfl,rfl,SqT.of (st _ _ htx),rfl,_,rfl,t,_,0,_,rfl,rfl,SqT.of (st _ _ ht),rfl,x.1,e.1,rfl,by lia,by lia,fun H2 s2=>⟨_,rfl,?_⟩⟩
    refine ite2 (fun c=>?_) (fun c=>?_)
    · refine ⟨_,rfl,s'.trans s2,by lia,?_⟩
      rw [selV_succ lkv hv hx,if_pos c,hacc]
    · refine ⟨s'.trans s2,by lia,?_⟩
      rw [selV_succ lkv hv hx,if_neg c,List.append_nil,hacc]
  have sb:=same_new hrb (.lst acc)
  have s2:Same H1 (upd H' rb (.lst acc)):=s'.trans sb
  have hrb1:upd H' rb (.lst acc) rb = some (.lst (selV (fun x=>!bef x.1 e.1) kv es)):=by
    rw [upd_same,hacc,lkv,List.take_length,← lkv,List.take_length]
  have lacc2:=selV_len (fun x=>!bef x.1 e.1) kv es
  generalize upd H' rb (.lst acc) = H2 at *
  refine ⟨_,rfl,_,rfl,(by show 1 ≤ sizeLine; decide),fun z hz=>?_⟩
  have s3:=same_new hz (.lst [.ref t])
  refine ⟨ra,z,_,_,rfl,rfl,SqL.of (s3 _ _ (s2 _ _ hra1)),SqL.of upd_same,by rw [List.length_singleton,sizeLine_eq]; lia,fun z2 hz2=>?_⟩
  have s4:=same_new hz2 (.lst (selV (fun x=>bef x.1 e.1) kv es ++ [.ref t]))
  refine ⟨_,rfl,z2,rb,_,_,rfl,rfl,SqL.of upd_same,SqL.of (s4 _ _ (s3 _ _ hrb1)),by rw [List.length_append,List.length_singleton,sizeLine_eq]; lia,fun z3 hz3=>?_⟩
  have s5:=same_new hz3 (.lst (selV (fun x=>bef x.1 e.1) kv es ++ [.ref t] ++ selV (fun x=>!bef x.1 e.1) kv es))
  refine q z3 _ _ ((s1.trans (s2.trans (s3.trans s4))).free hz3) (s1.trans (s2.trans (s3.trans (s4.trans s5)))) upd_same fun F hF hv=>?_
  unfold putE
  rw [List.append_assoc]
  exact pairApp (selV_pair hF) (.cons hv (selV_pair hF))
end
end Sg
namespace Sg
open PySem L2
inductive EqN (x:Addr) (H:Hp) (v:V) (e:Eq3):Prop
  | mk (c:_) (h1_:c ≠ x) (h2_:EqC H v e c):EqN x H v e
theorem EqN.mono {x:Addr} {H H':Hp} (s:Same H H') {v:V} {e:Eq3} (h:EqN x H v e):EqN x H' v e:=let ⟨c,n,h⟩:=h; ⟨c,n,h.mono s⟩
theorem EqN.at3 {x:Addr} {H:Hp} {v:V} {e:Eq3} (h:EqN x H v e):EqAt3 H v e:=let ⟨c,_,t,e1,e2,e3⟩:=h; ⟨t,c,e1,e2,e3⟩
theorem EqN.own {x:Addr} {H:Hp} {v:V} {e:Eq3} {xs ys:List V} (h:EqN x H v e) (hx:H x = some (.lst xs)):EqN x (upd H x (.lst ys)) v e:=by
  obtain ⟨c,n,t,e1,e2,kv,e3,e4⟩:=h
  exact ⟨c,n,t,e1,tups_own hx _ _ e2,kv,by rw [upd_ne n]; exact e3,pairImp e4 fun _ _ z=>z.mono (tups_own hx)⟩
abbrev rInS:R2:=fun x y H Q=>∃ i j,x = .str i ∧ y = .str j ∧ Q (.bl (!(Builtin.Str.occurrences j i 0 j.length 1).isEmpty)) H
abbrev rNotInS:R2:=fun x y H Q=>∃ i j,x = .str i ∧ y = .str j ∧ Q (.bl (!(!(Builtin.Str.occurrences j i 0 j.length 1).isEmpty))) H
theorem occ_is (l u:Wd):(!(Builtin.Str.occurrences (Sx u) (Sx l) 0 (Sx u).length 1).isEmpty) = occB l u:=by
  rw [Bool.eq_iff_iff,occB_iff]
  constructor
  · intro h
    obtain ⟨i,h1,h2⟩:=(PySem.StrLaws.found_iff _ _).mp h
    rw [Sx_len,Sx_len] at h1
    rw [subAt_Sx] at h2
    exact ⟨u.take i,u.drop (i + l.length),split_at (show atP u l i = true from h2) h1⟩
  · rintro ⟨x,y,e⟩
    refine (PySem.StrLaws.found_iff _ _).mpr ⟨x.length,?_,?_⟩
    · rw [Sx_len,Sx_len,e,List.length_append,List.length_append]
      lia
    · rw [subAt_Sx]
      unfold atW
      rw [e,List.append_assoc,List.drop_left' rfl,List.take_left' rfl,beq_iff_eq]
def zWhile:List Stmt → Nat → List Stmt
  | b,i=>match b.getD i (.Pass ⟨0,0,0,0⟩) with
    | .While _ c _ _=>c
    | _=>[]
def zIf:List Stmt → Nat → List Stmt
  | b,i=>match b.getD i (.Pass ⟨0,0,0,0⟩) with
    | .If _ c _ _=>c
    | _=>[]
def zExpr:List Stmt → Nat → Expr
  | b,i=>match b.getD i (.Pass ⟨0,0,0,0⟩) with
    | .Expr e _=>e
    | .Return (some e) _=>e
    | _=>.Constant .none 0 ⟨0,0,0,0⟩
inductive spSettledP (vs:List V) (H:Hp) (Q:VK) (E_:XK):Prop
  | mk (a:Addr) (es:List Eq3) (al:Wd) (n M k:Nat) (out:List Rl) (Mf Mo:Nat) (h1_:vs = [.ref a]) (h2_:EsAt H a es) (h3_:Inc al) (h4_:(∀ e ∈ es,Wok al n (rlE e))) (h5_:n ≤ 50) (h6_:es.length < 64) (h7_:(∀ u,Over al u → u.length ≤ n → rank al u ≤ 4000000)) (h8_:1 ≤ M) (h9_:(∀ e ∈ es,e.2.2.length ≤ M)) (h10_:StlM k M 1 (rlsE es) [] out Mf) (h11_:M ≤ 400000) (h12_:Mf ≤ 4000) (h13_:Mo ≤ 1000000) (h14_:(∀ r ∈ out,∀ f ss,Down out r.2 f ss → Mf * (1 + ss.length) ≤ Mo)) (h15_:∀ r es' H',H r = none → Same H H' → EsAt H' r es' → rlsE es' = (out.map fun r=>(r.1,nf out r.2)) → Good (rlsE es') al n → es'.length ≤ es.length → (∀ e ∈ es',e.2.2.length ≤ Mo) → (∀ ps,(∀ e ∈ es,Shows ps e) → ∀ e ∈ es',Shows ps e) → Q (.ref r) H'):spSettledP vs H Q E_
inductive SpW (H0:Hp) (a lt:Addr) (al:Wd) (n N:Nat) (es0:List Eq3) (out:List Rl) (Mf:Nat) (m:Nat) (σ:St) (H:Hp):Prop
  | mk (lk:_) (tv:_) (td:_) (kv:_) (ke:_) (A1:_) (M:_) (x3:_) (x4:_) (h1_:σ = [some (.ref a),some (.ref lt),some (.ref lk),x3,x4]) (h2_:Same H0 H) (h3_:H lt = some (.lst tv)) (h4_:Paired (EqN lt H) tv td) (h5_:H lk = some (.lst kv)) (h6_:Paired (EqN lt H) kv ke) (h7_:lk ≠ lt) (h8_:Good (rlsE ke) al n) (h9_:(∀ e ∈ td,Wok al n (rlE e))) (h10_:ke.length + td.length ≤ N) (h11_:(∀ e ∈ td,e.2.2.length ≤ A1)) (h12_:(∀ e ∈ ke,e.2.2.length ≤ M)) (h13_:A1 ≤ 400000) (h14_:StlM m A1 M (rlsE td) (rlsE ke) out Mf) (h15_:∀ ps,(∀ e ∈ es0,Shows ps e) → (∀ e ∈ td,Shows ps e) ∧ ∀ e ∈ ke,Shows ps e):SpW H0 a lt al n N es0 out Mf m σ H
inductive RgW (es ke:List Eq3) (kv:List V) (Mo:Nat) (H1:Hp) (j:Nat) (acc:List V) (H3:Hp):Prop
  | mk (h1_:Same H1 H3) (h2_:j ≤ kv.length) (es':_) (h3_:Paired (EqAt3 H3) acc es') (h4_:rlsE es' = ((rlsE ke).take j).map (fun r=>(r.1,nf (rlsE ke) r.2))) (h5_:(∀ e ∈ es',e.2.2.length ≤ Mo)) (h6_:∀ ps,(∀ e ∈ es,Shows ps e) → ∀ e ∈ es',Shows ps e):RgW es ke kv Mo H1 j acc H3
section
variable {P:Program} {w:World} {K:PySem.W.Frag} {mg:Str → Option Value} {base:Heap}
abbrev NSt:List Str:=["equations","to_do","kept","equation","left"]
theorem scSetP:FnScope NSt ["equations"] (defScope sSettledP):=⟨rfl,rfl,rfl,by decide +kernel,rfl,by decide +kernel,by decide +kernel⟩
theorem ccS1:CompScope (defScope sSettledP) NSt (compSc (argE (zExpr (zIf (zWhile (defBody sSettledP) 2) 2) 0) 0)) ["other"] ["left"] [4]:=⟨rfl,by decide +kernel,by decide +kernel,by decide +kernel,by decide +kernel,rfl,by decide +kernel⟩
theorem ccS2:CompScope (defScope sSettledP) NSt (compSc (argE (asgE (zIf (zWhile (defBody sSettledP) 2) 2) 1) 0)) ["other"] ["left"] [4]:=⟨rfl,by decide +kernel,by decide +kernel,by decide +kernel,by decide +kernel,rfl,by decide +kernel⟩
theorem ccS3:CompScope (defScope sSettledP) NSt (compSc (zExpr (defBody sSettledP) 3)) ["equation"] ["kept"] [2]:=⟨rfl,by decide +kernel,by decide +kernel,by decide +kernel,by decide +kernel,rfl,by decide +kernel⟩
theorem boot_listTz:bootBuiltins "list" = some (.type "list"):=by decide +kernel
theorem ok_settledP (D:Dfn K mg "settled" sSettledP ["equations"]) (B:Blt mg) (OB:Ok P w K mg base "both_ground" ["kept","equation"] 5 spBoth) (OR:Ok P w K mg base "right_ground" ["kept","equation"] 5 spRight) (OL:Ok P w K mg base "later_first" ["equation"] 2 spLater)
    (OP:Ok P w K mg base "put_in" ["kept","equation"] 2 spPutIn):Ok P w K mg base "settled" ["equations"] 6 spSettledP:=by
  refine D.ok scSetP (fun vs H Q E h=>?_) (fun f cdv A outer s H vs Q E hr h=>?_)
  · obtain ⟨a,es,al,n,M,k,out,Mf,Mo,rfl,_⟩:=h
    rfl
  obtain ⟨a,es,al,n,M,k,out,Mf,Mo,rfl,hE,hInc,hok,hn,hlen,hrk,hM1,hM,hst,hM4,hMf,hMo,hout,q⟩:=h
  have hr2:Room 2 _:=hr.mono (by decide)
  refine ⟨_,pss_cons (ps_set (i:=1) scSetP.nd rfl (Or.inl rfl) (pe_callTy call_list_of rfl B.lst boot_listTz (pa_cons (pv 0) pa_nil)))
    (pss_cons (ps_set (i:=2) scSetP.nd rfl (Or.inr rfl) (pe_lst pa_nil))
    (pss_cons (ps_while PassesOwn.never (pt_truth (pv 1) (fun _=>rfl))
      (pss_cons (ps_set (i:=3) scSetP.nd rfl (Or.inl rfl) (pe_fn OL hr2 rfl (pa_cons (pe_fn OB hr rfl (pa_cons (pv 2) (pa_cons (pe_bm PySem.F.plainAttrs_list PySem.F.slot_list_pop PySem.F.type_list_pop mt_popAt (pv 1) (pa_cons pe_int pa_nil)) pa_nil))) pa_nil)))
      (pss_cons (ps_set (i:=4) scSetP.nd rfl (Or.inr rfl) (pe_ix ix_tup (pv 3) pe_int (fun _ _=>rfl)))
      (pss_one (ps_if (pt_cmpR op_ne (pv 4) (pe_ix ix_tup (pv 3) pe_int (fun _ _=>rfl)) (nomark _))
        (pss_cons (ps_expr (pe_bm PySem.F.plainAttrs_list PySem.F.slot_list_extend PySem.F.type_list_extend mt_extend (pv 1) (pa_cons (pe_comp (g:=gName 0) (tt:=tTest (tOp rInS (tVar 1) (tOp (rIxT K) (tVar 0) (tC (.int 0))))) (te:=tVar 0) rfl ccS1 (pi_list (pv 2))
          (by intro cl C ex s H; exact ⟨pg_name (i:=0) ccS1.nd rfl (.inl rfl),pf_one (pt_cmpR op_in_str (pv 1) (pe_ix ix_tup (pv 0) pe_int (fun _ _=>rfl)) rfl),pv 0⟩)) pa_nil)))
        (pss_one (ps_set (i:=2) scSetP.nd rfl (Or.inr rfl) (pe_fn OP hr2 rfl (pa_cons (pe_comp (g:=gName 0) (tt:=tTest (tOp rNotInS (tVar 1) (tOp (rIxT K) (tVar 0) (tC (.int 0))))) (te:=tVar 0) rfl ccS2 (pi_list (pv 2))
          (by intro cl C ex s H; exact ⟨pg_name (i:=0) ccS2.nd rfl (.inl rfl),pf_one (pt_cmpR op_notin_str (pv 1) (pe_ix ix_tup (pv 0) pe_int (fun _ _=>rfl)) rfl),pv 0⟩)) (pa_cons (pv 3) pa_nil)))))) pss_nil)))))
    (pss_one (ps_ret (pe_comp (g:=gName 0) (tt:=tNoTest) (te:=tCall spRight [] E0 (tCons (tVar 1) (tCons (tVar 0) tNil))) rfl ccS3 (pi_list (pv 2)) (by intro cl C ex s H; exact ⟨pg_name (i:=0) ccS3.nd rfl (.inl rfl),pf_nil,pe_fn OR hr rfl (pa_cons (pv 1) (pa_cons (pv 0) pa_nil))⟩)))))),?_⟩
  try dsimp only [cxOf,Cx.nox]
  obtain ⟨ev,hev,hep⟩:=id hE
  have lev:=pairLen hep
  refine ⟨_,rfl,a,ev,rfl,.inl (SqL.of hev),fun lt hlt=>?_⟩
  have s1:Same H (upd H lt (.lst ev)):=same_new hlt _
  refine ⟨(by show 0 ≤ sizeLine; decide),fun lk0 hlk0=>?_⟩
  have s2:Same (upd H lt (.lst ev)) (upd (upd H lt (.lst ev)) lk0 (.lst [])):=same_new hlk0 _
  have hep2:Paired (EqN lt (upd (upd H lt (.lst ev)) lk0 (.lst []))) ev es:=pairImp hep fun v e ⟨t,c,e1,e2,e3⟩=>by
    have hcn:c ≠ lt:=fun z=>by
      obtain ⟨_,hc,_⟩:=e3
      rw [z,hlt] at hc; cases hc
    exact EqN.mono (s1.trans s2) ⟨c,hcn,t,e1,e2,e3⟩
  refine ⟨SpW H a lt al n es.length es out Mf,⟨k,lk0,ev,es,[],[],M,1,_,_,rfl,s1.trans s2,s2 _ _ upd_same,hep2,upd_same,.nil,(fun z=>by rw [z,upd_same] at hlk0; cases hlk0),⟨hInc,(fun r hr=>nomatch hr),(fun r hr=>nomatch hr),(fun r hr=>nomatch hr)⟩,hok,by simp,hM,(fun e he=>nomatch he),hM4,hst,fun ps h=>⟨h,fun e he=>nomatch he⟩⟩,?_⟩
  rintro m σ H1 ⟨lk,tv,td,kv,ke,A1,M1,x3,x4,rfl,t1,hlt1,hpt,hlk1,hpk,nkt,hG,htd,hN,hMt,hMk,hA4,hstl,hsh⟩
  have lkv:=pairLen hpk
  have ltv:=pairLen hpt
  refine ⟨_,rfl,_,.inl ⟨_,SqL.of hlt1,rfl⟩,?_⟩
  have hMle:=hstl.le
  cases hpt with
  | nil =>
    refine iteF ?_
    cases hstl
    have hKp:Kp ke al n Mf:=⟨hG,hn,by lia,hMk,hrk⟩
    have hEk:EsAt H1 lk ke:=⟨kv,hlk1,pairImp hpk fun _ _ z=>z.at3⟩
    refine ⟨_,rfl,lk,rfl,⟨_,SqL.of hlk1⟩,?_⟩
    refine turns_list (K:=K) (xs:=kv) (RgW es ke kv Mo H1)
      ⟨Same.refl _,Nat.zero_le _,[],.nil,rfl,(fun e he=>nomatch he),fun ps _ e he=>nomatch he⟩ (fun j acc H3 (.mk _ hj es' hp' e' ..)=>?_) (small1000 (by lia)) (fun j acc H3 (.mk s3 ..)=>SqL.of (s3 _ _ hlk1)) (fun j acc H3 v hv ⟨s3,hj,es',hp',e',hl',hs'⟩=>?_) (fun acc H3 ⟨s3,hj,es',hp',e',hl',hs'⟩ pm hpm=>?_)
    · have h1:=pairLen hp'
      have h2:=congrArg List.length e'
      rw [List.length_map,List.length_map,List.length_take] at h2
      lia
    · obtain ⟨e,he,c,_,hec⟩:=pairGetL hpk hv
      have hjl:j < ke.length:=(List.getElem?_eq_some_iff.mp he).1
      have hem:=List.mem_of_getElem? he
      have hrm:rlE e ∈ rlsE ke:=List.mem_map.mpr ⟨e,hem,rfl⟩
      refine ⟨rfl,noTest ?_⟩
      refine ⟨_,rfl,_,rfl,lk,ke,al,n,Mf,v,e,c,rfl,hEk.mono s3,hec.mono s3,hKp,hG.wok hrm,hMk e hem,by lia,fun fx ss dx=>Nat.le_trans (hout _ hrm fx ss dx) hMo,fun v' c' fx ss ch H4 s4 _ hc' dx hcl hsx=>?_⟩
      refine ⟨s3.trans s4,by lia,es' ++ [(e.1,fx,ch)],pairApp (pairImp hp' fun _ _ z=>z.mono s4) (.cons (let ⟨t,e1,e2,e3⟩:=hc'; ⟨t,c',e1,e2,e3⟩) .nil),?_,?_,?_⟩
      · have he2:(rlsE ke)[j]? = some (rlE e):=by unfold rlsE; rw [List.getElem?_map,he]; rfl
        have e0:rlsE (es' ++ [(e.1,fx,ch)]) = rlsE es' ++ [(e.1,fx)]:=by unfold rlsE; rw [List.map_append]; rfl
        rw [e0,e',List.take_add_one,he2,List.map_append]
        show _ ++ [(e.1,fx)] = _ ++ [(e.1,nf (rlsE ke) e.2.1)]
        rw [nf_of dx]
      · intro x hx
        rcases List.mem_append.mp hx with z | z
        · exact hl' x z
        · rw [List.mem_singleton.mp z]
          exact Nat.le_trans hcl (hout _ hrm fx ss dx)
      · intro ps hps x hx
        rcases List.mem_append.mp hx with z | z
        · exact hs' ps hps x z
        · rw [List.mem_singleton.mp z]
          exact hsx ps (hsh ps hps).2 ((hsh ps hps).2 e hem)
    have sm:=same_new hpm (.lst acc)
    have e2:rlsE es' = (rlsE ke).map (fun r=>(r.1,nf (rlsE ke) r.2)):=by
      rw [e',lkv]
      congr 1
      exact List.take_of_length_le (by rw [List.length_map]; exact Nat.le_refl _)
    have e3:=congrArg List.length e2
    rw [List.length_map,List.length_map,List.length_map] at e3
    exact q pm es' _ ((t1.trans s3).free hpm) (t1.trans (s3.trans sm)) ⟨acc,upd_same,pairImp hp' fun _ _ z=>z.mono sm⟩ e2 (by rw [e2]; exact good_nf hG) (by simp at hN; lia) hl' hs'
  | cons hv hpt3 =>
    rename_i v0 e0 tv td
    obtain ⟨c0,hc0,t0,rfl,ht0,hcs0⟩:=hv
    have hwk:=htd e0 List.mem_cons_self
    have hMe:=hMt e0 List.mem_cons_self
    have htd':∀ e ∈ td,Wok al n (rlE e):=fun e he=>htd e (List.mem_cons_of_mem _ he)
    rw [List.length_cons] at hN
    obtain ⟨k',Mn,f1,f2,ss1,ss2,rfl,d1,d2,h120,hMn,hnext⟩:∃ k' Mn f1 f2 ss1 ss2,m = k' + 1 ∧ Down (rlsE ke) e0.1 f1 ss1 ∧ Down (rlsE ke) e0.2.1 f2 ss2 ∧ ss1.length + ss2.length ≤ 120 ∧ Mn = A1 + (ss1.length + ss2.length) * M1 ∧
        ((f1 = f2 ∧ StlM k' A1 M1 (rlsE td) (rlsE ke) out Mf) ∨ (f1 ≠ f2 ∧ StlM k' (max A1 M1) (max M1 Mn) (rlsE td ++ (rlsE ke).filter (fun r=>occB (latF f1 f2).1 r.1)) (putIn ((rlsE ke).filter (fun r=>!occB (latF f1 f2).1 r.1)) (latF f1 f2)) out Mf)):=by
      cases hstl with
      | same d1 d2 hl h=>exact ⟨_,_,_,_,_,_,rfl,d1,d2,hl,rfl,.inl ⟨rfl,h⟩⟩
      | fresh d1 d2 hne hl h=>exact ⟨_,_,_,_,_,_,rfl,d1,d2,hl,rfl,.inr ⟨hne,h⟩⟩
    have hM1f:M1 ≤ 4000:=by lia
    have hMn6:Mn ≤ 1000000:=by
      have:(ss1.length + ss2.length) * M1 ≤ 120 * 4000:=Nat.mul_le_mul h120 hM1f
      lia
    refine iteT ⟨fun σ' H'=>∃ m',m' < k' + 1 ∧ SpW H a lt al n es.length es out Mf m' σ' H',fun _ _ y=>y,?_⟩
    refine ⟨_,rfl,_,rfl,.inl ⟨rfl,_,SqL.of hlt1⟩,lt,_,0,0,_,rfl,rfl,hlt1,by decide,by decide,PySem.StrLaws.seqIndex_nonneg (i:=0) (by decide) (by rw [List.length_cons]; lia),rfl,?_⟩
    have e00:(V.ref t0 :: tv).eraseIdx 0 = tv:=rfl
    rw [e00]
    have hlt3:(upd H1 lt (.lst tv)) lt = some (.lst tv):=upd_same
    have hlk3:(upd H1 lt (.lst tv)) lk = some (.lst kv):=by rw [upd_ne nkt]; exact hlk1
    have hpt4:Paired (EqN lt (upd H1 lt (.lst tv))) tv td:=pairImp hpt3 fun _ _ z=>z.own hlt1
    have hpk4:Paired (EqN lt (upd H1 lt (.lst tv))) kv ke:=pairImp hpk fun _ _ z=>z.own hlt1
    obtain ⟨c0',hc0',hec0⟩:EqN lt (upd H1 lt (.lst tv)) (.ref t0) e0:=EqN.own ⟨c0,hc0,t0,rfl,ht0,hcs0⟩ hlt1
    have t3:Same H (upd H1 lt (.lst tv)):=t1.own hlt _
    generalize upd H1 lt (.lst tv) = H3 at *
    refine ⟨lk,ke,al,n,A1,M1,.ref t0,e0,c0',rfl,⟨kv,hlk3,pairImp hpk4 fun _ _ z=>z.at3⟩,hec0,⟨hG,hn,by lia,hMk,hrk⟩,hwk,hMe,by lia,by lia,fun g1 r1 g2 r2 dg1 dg2=>?_,fun v1 c1 g1 g2 r1 r2 ch H4 s4 hc1 hec1 dg1 dg2 lg1 lg2 hcl hsx=>?_⟩
    · obtain ⟨_,a2⟩:=d1.det dg1
      obtain ⟨_,b2⟩:=d2.det dg2
      rw [a2,b2,← hMn]
      lia
    obtain ⟨rfl,rfl⟩:=d1.det dg1
    obtain ⟨rfl,rfl⟩:=d2.det dg2
    have hc1lt:c1 ≠ lt:=fun z=>by rw [z,hlt3] at hc1; cases hc1
    refine ⟨v1,(g1,g2,ch),c1,rfl,hec1,by show g1.length ≤ 900; lia,by show g2.length ≤ 900; lia,by show ch.length ≤ 1000000; lia,fun v2 e2 c2 H5 s5 hc2 hec2 hlat hel hse=>?_⟩
    have hc2lt:c2 ≠ lt:=by
      rcases hc2 with z | z
      · rw [z]; exact hc1lt
      · intro y; rw [y,s4 _ _ hlt3] at z; cases z
    have s45:=s4.trans s5
    have hlt5:=s45 _ _ hlt3
    have hlk5:=s45 _ _ hlk3
    have hpt5:=pairImp hpt4 fun _ _ z=>z.mono s45
    have hpk5:=pairImp hpk4 fun _ _ z=>z.mono s45
    have t5:=t3.trans s45
    obtain ⟨t2,rfl,ht2,hcs2⟩:=id hec2
    have e2l:e2.2.2.length ≤ Mn:=by
      rw [hel,hMn]
      exact hcl
    have hshE:∀ ps,(∀ e ∈ es,Shows ps e) → Shows ps e2:=fun ps hps=>hse ps (hsx ps (hsh ps hps).2 ((hsh ps hps).1 e0 List.mem_cons_self))
    have lt1:e2.1 = (latF g1 g2).1:=congrArg Prod.fst hlat
    have lt2:e2.2.1 = (latF g1 g2).2:=congrArg Prod.snd hlat
    refine ⟨_,rfl,t2,_,0,_,rfl,rfl,SqT.of ht2,rfl,?_⟩
    refine ⟨_,rfl,_,rfl,t2,_,1,_,rfl,rfl,SqT.of ht2,rfl,rfl,_,rfl,?_⟩
    rcases hnext with ⟨heq,hstl2⟩ | ⟨hne,hstl2⟩
    · have e12:e2.1 = e2.2.1:=by
        rw [lt1,lt2]
        unfold latF
        rw [heq]
        split <;> rfl
      refine iteNS (by rw [e12]) ?_
      exact ⟨k',by lia,lk,tv,td,kv,ke,A1,M1,_,_,rfl,t5,hlt5,hpt5,hlk5,hpk5,nkt,hG,htd',by lia,fun e he=>hMt e (List.mem_cons_of_mem _ he),hMk,hA4,hstl2,fun ps hps=>⟨fun e he=>(hsh ps hps).1 e (List.mem_cons_of_mem _ he),(hsh ps hps).2⟩⟩
    · have ne12:e2.1 ≠ e2.2.1:=by
        rw [lt1,lt2]
        unfold latF
        split
        · exact fun z=>hne z.symm
        · exact hne
      rw [decide_eq_false (fun z=>ne12 (Sx_inj (V.str.inj z)))]
      refine iteT ?_
      refine ⟨_,rfl,.inl ⟨rfl,_,SqL.of hlt5⟩,?_⟩
      refine ⟨_,rfl,lk,rfl,⟨_,SqL.of hlk5⟩,?_⟩
      have lke:kv.length = ke.length:=lkv
      refine turns_list (K:=K) (xs:=kv) (fun i acc H'=>H' = H5 ∧ i ≤ kv.length ∧ acc = selV (fun x=>occB e2.1 x.1) (kv.take i) (ke.take i))
        ⟨rfl,Nat.zero_le _,rfl⟩ (fun i acc H' ⟨_,hi,e⟩=>?_) (small1000 (by lia)) (fun i acc H' ⟨e,_,_⟩=>by rw [e]; exact SqL.of hlk5) (fun i acc H' v hv ⟨e,hi,hacc⟩=>?_) (fun acc H' ⟨e,hi,hacc⟩ rx hrx=>?_)
      · rw [e]
        refine Nat.le_trans (selV_len _ _ _) ?_
        rw [List.length_take]
        lia
      · subst e
        obtain ⟨x,hx,cx,_,tx',rfl,htx,_⟩:=pairGetL hpk5 hv
        have hil:i < ke.length:=(List.getElem?_eq_some_iff.mp hx).1
        refine ⟨rfl,?_⟩
        refine ⟨_,rfl,_,rfl,tx',_,0,_,rfl,rfl,SqT.of htx,rfl,_,_,rfl,rfl,_,rfl,?_⟩
        rw [occ_is]
        refine ite2 (fun c=>?_) (fun c=>?_)
        · refine ⟨_,rfl,rfl,by lia,?_⟩
          rw [selV_succ lke hv hx,if_pos c,hacc]
        · refine ⟨rfl,by lia,?_⟩
          rw [selV_succ lke hv hx,if_neg c,List.append_nil,hacc]
      subst e
      have eacc:acc = selV (fun x=>occB e2.1 x.1) kv ke:=by rw [hacc,lke,List.take_length,← lke,List.take_length]
      have lacc:=selV_len (fun x=>occB e2.1 x.1) kv ke
      have sx:=same_new hrx (.lst acc)
      have hlt6:=sx _ _ hlt5
      have ltd:=pairLen hpt5
      refine ⟨lt,rx,tv,acc,rfl,rfl,hlt6,upd_same,by rw [eacc,sizeLine_eq]; lia,?_⟩
      have hlt7:upd (upd H' rx (.lst acc)) lt (.lst (tv ++ acc)) lt = some (.lst (tv ++ acc)):=upd_same
      have hpk7:Paired (EqN lt (upd (upd H' rx (.lst acc)) lt (.lst (tv ++ acc)))) kv ke:=pairImp hpk5 fun _ _ z=>(z.mono sx).own hlt6
      have hpt7:Paired (EqN lt (upd (upd H' rx (.lst acc)) lt (.lst (tv ++ acc)))) (tv ++ acc) (td ++ ke.filter (fun x=>occB e2.1 x.1)):=by
        rw [eacc]
        rw [eacc] at hpk7
        exact pairApp (by rw [← eacc]; exact pairImp hpt5 fun _ _ z=>(z.mono sx).own hlt6) (selV_pair hpk7)
      have hlk7:upd (upd H' rx (.lst acc)) lt (.lst (tv ++ acc)) lk = some (.lst kv):=by rw [upd_ne nkt]; exact sx _ _ hlk5
      have hec7:EqN lt (upd (upd H' rx (.lst acc)) lt (.lst (tv ++ acc))) (.ref t2) e2:=EqN.own (EqN.mono sx ⟨c2,hc2lt,hec2⟩) hlt6
      have t7:Same H (upd (upd H' rx (.lst acc)) lt (.lst (tv ++ acc))):=(t5.trans sx).own hlt _
      generalize upd (upd H' rx (.lst acc)) lt (.lst (tv ++ acc)) = H7 at *
      refine ⟨_,rfl,lk,rfl,⟨_,SqL.of hlk7⟩,?_⟩
      refine turns_list (K:=K) (xs:=kv) (fun i acc H'=>H' = H7 ∧ i ≤ kv.length ∧ acc = selV (fun x=>!occB e2.1 x.1) (kv.take i) (ke.take i))
        ⟨rfl,Nat.zero_le _,rfl⟩ (fun i acc H' ⟨_,hi,e⟩=>?_) (small1000 (by lia)) (fun i acc H' ⟨e,_,_⟩=>by rw [e]; exact SqL.of hlk7) (fun i acc H' v hv ⟨e,hi,hacc⟩=>?_) (fun acc2 H' ⟨e,hi,hacc2⟩ ry hry=>?_)
      · rw [e]
        refine Nat.le_trans (selV_len _ _ _) ?_
        rw [List.length_take]
        lia
      · subst e
        obtain ⟨x,hx,cx,_,tx',rfl,htx,_⟩:=pairGetL hpk7 hv
        have hil:i < ke.length:=(List.getElem?_eq_some_iff.mp hx).1
        refine ⟨rfl,?_⟩
        refine ⟨_,rfl,_,rfl,tx',_,0,_,rfl,rfl,SqT.of htx,rfl,_,_,rfl,rfl,_,rfl,?_⟩
        rw [occ_is]
        refine ite2 (fun c=>?_) (fun c=>?_)
        · refine ⟨_,rfl,rfl,by lia,?_⟩
          rw [selV_succ lke hv hx,if_pos c,hacc]
        · refine ⟨rfl,by lia,?_⟩
          rw [selV_succ lke hv hx,if_neg c,List.append_nil,hacc]
      subst e
      have eacc2:acc2 = selV (fun x=>!occB e2.1 x.1) kv ke:=by rw [hacc2,lke,List.take_length,← lke,List.take_length]
      have sy:=same_new hry (.lst acc2)
      have hpf:Paired (EqN lt (upd H' ry (.lst acc2))) acc2 (ke.filter (fun x=>!occB e2.1 x.1)):=by
        have:=selV_pair (p:=fun x:Eq3=>!occB e2.1 x.1) (pairImp hpk7 fun _ _ z=>z.mono sy)
        rw [← eacc2] at this
        exact this
      have hfl:(ke.filter (fun x=>!occB e2.1 x.1)).length ≤ ke.length:=List.length_filter_le _ _
      have hwE:Wok al n (rlE e2):=by
        rw [hlat]
        have u1:=rt_over hG (down_rt hG d1).1 hwk.1
        have u2:=rt_over hG (down_rt hG d2).1 hwk.2.1
        unfold latF
        split
        · exact ⟨u2,u1,lg2,lg1⟩
        · exact ⟨u1,u2,lg1,lg2⟩
      obtain ⟨c7,hc7,hec7'⟩:=EqN.mono sy hec7
      refine ⟨_,rfl,ry,acc2,ke.filter (fun x=>!occB e2.1 x.1),.ref t2,e2,c7,rfl,upd_same,pairImp hpf fun _ _ z=>z.at3,hec7',by lia,fun x hx=>?_,by have:e2.1.length ≤ n:=hwE.2.2.1; lia,fun r9 rv9 H9 hr9 s9 hrv9 hput=>?_⟩
      · have:=hG.ln (rlE x) (List.mem_map.mpr ⟨x,(List.mem_filter.mp hx).1,rfl⟩)
        have:x.1.length ≤ n:=this
        lia
      have sz:=sy.trans s9
      have hbE:bef (rlE e2).2 (rlE e2).1 = true:=by
        rw [hlat]
        unfold latF
        split
        · rename_i cb; exact cb
        · rename_i cb; exact bef_tot (Bool.eq_false_iff.mpr cb) hne
      have hp9:=hput (EqN lt H9) (pairImp hpf fun _ _ z=>z.mono s9) ((EqN.mono sz hec7))
      have erl:rlsE (putE (ke.filter (fun x=>!occB e2.1 x.1)) e2) = putIn ((rlsE ke).filter (fun r=>!occB (latF g1 g2).1 r.1)) (latF g1 g2):=by
        rw [putE_rls,hlat]
        congr 1
        rw [← lt1]
        unfold rlsE
        rw [List.filter_map]
        rfl
      have etd:rlsE (td ++ ke.filter (fun x=>occB e2.1 x.1)) = rlsE td ++ (rlsE ke).filter (fun r=>occB (latF g1 g2).1 r.1):=by
        unfold rlsE
        rw [List.map_append,← lt1,List.filter_map]
        rfl
      have hmp:∀ e ∈ putE (ke.filter (fun x=>!occB e2.1 x.1)) e2,e = e2 ∨ e ∈ ke:=fun e he=>by
        unfold putE at he
        rcases List.mem_append.mp he with z | z
        · exact .inr (List.mem_filter.mp (List.mem_filter.mp z).1).1
        · rcases List.mem_cons.mp z with z | z
          · exact .inl z
          · exact .inr (List.mem_filter.mp (List.mem_filter.mp z).1).1
      have hlp:(putE (ke.filter (fun x=>!occB e2.1 x.1)) e2).length = (ke.filter (fun x=>!occB e2.1 x.1)).length + 1:=by
        have:=congrArg List.length erl
        rw [List.length_map] at this
        have h2:=(putIn_perm ((rlsE ke).filter (fun r=>!occB (latF g1 g2).1 r.1)) (latF g1 g2)).length_eq
        rw [this,h2,List.length_cons]
        have h3:(rlsE ke).filter (fun r=>!occB (latF g1 g2).1 r.1) = rlsE (ke.filter (fun x=>!occB e2.1 x.1)):=by
          unfold rlsE
          rw [← lt1,List.filter_map]
          rfl
        rw [h3,List.length_map]
      have hft:(ke.filter (fun x=>occB e2.1 x.1)).length + (ke.filter (fun x=>!occB e2.1 x.1)).length = ke.length:=by
        have:=(List.filter_append_perm (fun x:Eq3=>occB e2.1 x.1) ke).length_eq
        rw [List.length_append] at this
        exact this
      refine ⟨k',by lia,r9,tv ++ acc,td ++ ke.filter (fun x=>occB e2.1 x.1),rv9,putE (ke.filter (fun x=>!occB e2.1 x.1)) e2,max A1 M1,max M1 Mn,_,_,rfl,t7.trans sz,sz _ _ hlt7,pairImp hpt7 fun _ _ z=>z.mono sz,hrv9,hp9,?_,?_,?_,?_,?_,?_,?_,?_,?_⟩
      · intro z
        rw [z,sy _ _ hlt7] at hr9
        cases hr9
      · rw [erl]
        refine good_new (f:=latF g1 g2) hG (fun r hr=>?_) (by rw [← hlat]; exact hbE) (by rw [← hlat]; exact hwE.1) (by rw [← hlat]; exact hwE.2.1) (by rw [← hlat]; exact hwE.2.2.1)
        have:=(putIn_perm _ _).mem_iff.mp hr
        rcases List.mem_cons.mp this with z | z
        · exact .inl z
        · exact .inr (List.mem_filter.mp z).1
      · intro e he
        rcases List.mem_append.mp he with z | z
        · exact htd' e z
        · exact hG.wok (List.mem_map.mpr ⟨e,(List.mem_filter.mp z).1,rfl⟩)
      · rw [hlp,List.length_append]
        lia
      · intro e he
        rcases List.mem_append.mp he with z | z
        · exact Nat.le_trans (hMt e (List.mem_cons_of_mem _ z)) (Nat.le_max_left _ _)
        · exact Nat.le_trans (hMk e (List.mem_filter.mp z).1) (Nat.le_max_right _ _)
      · intro e he
        rcases hmp e he with z | z
        · rw [z]; exact Nat.le_trans e2l (Nat.le_max_right _ _)
        · exact Nat.le_trans (hMk e z) (Nat.le_max_left _ _)
      · lia
      · rw [erl,etd]
        exact hstl2
      · intro ps hps
        refine ⟨fun e he=>?_,fun e he=>?_⟩
        · rcases List.mem_append.mp he with z | z
          · exact (hsh ps hps).1 e (List.mem_cons_of_mem _ z)
          · exact (hsh ps hps).2 e (List.mem_filter.mp z).1
        · rcases hmp e he with z | z
          · rw [z]; exact hshE ps hps
          · exact (hsh ps hps).2 e z
end
end Sg
namespace Sg
open PySem L2
def fitE (one oth:Wd) (p:Nat):Bool:=(decide (p + oth.length ≤ one.length) && atW one oth p) || (decide ((one.drop p).length ≤ oth.length) && atW oth (one.drop p) 0)
theorem fitN_take (one oth:Wd) (p m:Nat) (h1:p + m ≤ one.length) (h2:m ≤ oth.length):fitN one oth p m = true ↔ (one.drop p).take m = oth.take m:=by
  unfold fitN
  rw [List.all_eq_true]
  constructor
  · intro h
    apply List.ext_getElem?
    intro k
    by_cases hk:k < m
    · have e:=h k (List.mem_range.mpr hk)
      rw [beq_iff_eq,List.getD_eq_getElem?_getD,List.getD_eq_getElem?_getD] at e
      rw [List.getElem?_take_of_lt hk,List.getElem?_take_of_lt hk,List.getElem?_drop]
      have e1:one[p + k]? = some one[p + k]:=List.getElem?_eq_getElem (by lia)
      have e2:oth[k]? = some oth[k]:=List.getElem?_eq_getElem (by lia)
      rw [e1,e2] at e ⊢
      simpa using e
    · rw [List.getElem?_eq_none (by rw [List.length_take]; lia),List.getElem?_eq_none (by rw [List.length_take]; lia)]
  · intro h k hk
    have hk:=List.mem_range.mp hk
    have e:=congrArg (fun l:List Nat=>l[k]?) h
    simp only [List.getElem?_take_of_lt hk,List.getElem?_drop] at e
    rw [beq_iff_eq,List.getD_eq_getElem?_getD,List.getD_eq_getElem?_getD,e]
theorem fitE_eq {one oth:Wd} {p:Nat} (hp:p ≤ one.length):fitE one oth p = fitsAt one oth p:=by
  rw [Bool.eq_iff_iff]
  unfold fitE fitsAt
  rw [fitN_take _ _ _ _ (by unfold fitM; lia) (by unfold fitM; lia),Bool.or_eq_true,Bool.and_eq_true,Bool.and_eq_true,decide_eq_true_iff,decide_eq_true_iff]
  unfold atW fitM
  rw [beq_iff_eq,beq_iff_eq,List.drop_zero,List.length_drop]
  by_cases h:p + oth.length ≤ one.length
  · have em:min one.length (p + oth.length) - p = oth.length:=by lia
    rw [em,List.take_length]
    constructor
    · rintro (⟨_,z⟩ | ⟨h2,z⟩)
      · exact z
      · have e:one.length - p = oth.length:=by lia
        rw [e,List.take_length] at z
        rw [← z,List.take_length]
    · intro z
      exact .inl ⟨h,z⟩
  · have em:min one.length (p + oth.length) - p = one.length - p:=by lia
    have et:(one.drop p).take (one.length - p) = one.drop p:=List.take_of_length_le (by rw [List.length_drop]; exact Nat.le_refl _)
    rw [em,et]
    constructor
    · rintro (⟨h2,_⟩ | ⟨_,z⟩)
      · exact absurd h2 h
      · exact z.symm
    · intro z
      exact .inr ⟨by lia,z.symm⟩
def plc (one oth:Wd) (s n:Nat):List Nat:=((List.range n).map fun k=>s + k).filter fun p=>fitsAt one oth p
theorem plc_succ (one oth:Wd) (s n:Nat):plc one oth s (n + 1) = plc one oth s n ++ if fitsAt one oth (s + n) = true then [s + n] else []:=by
  unfold plc
  rw [List.range_succ,List.map_append,List.filter_append]
  congr 1
  by_cases h:fitsAt one oth (s + n) = true
  · rw [if_pos h]; simp [h]
  · rw [if_neg h]; simp [h]
theorem plc_len (one oth:Wd) (s n:Nat):(plc one oth s n).length ≤ n:=by
  unfold plc
  refine Nat.le_trans (List.length_filter_le _ _) ?_
  rw [List.length_map,List.length_range]
  exact Nat.le_refl _
theorem plc_mem {one oth:Wd} {s n p:Nat} (h:p ∈ plc one oth s n):s ≤ p ∧ p < s + n:=by
  unfold plc at h
  obtain ⟨k,hk,e⟩:=List.mem_map.mp (List.mem_filter.mp h).1
  have:=List.mem_range.mp hk
  lia
def mkOv (rs:List Rl) (i j:Nat) (p:Nat):Ov:=((rs.getD i ([],[])).1 ++ (rs.getD j ([],[])).1.drop ((rs.getD i ([],[])).1.length - p),i,j,p)
def ovS (i j:Nat):Nat:=if i = j then 1 else 0
theorem ovPs_plc (rs:List Rl) (i j:Nat):∀ n,ovPs rs i j n = (plc (rs.getD i ([],[])).1 (rs.getD j ([],[])).1 (ovS i j) (n - ovS i j)).map (mkOv rs i j)
  | 0=>by
    rw [Nat.zero_sub]
    rfl
  | n + 1=>by
    have e:ovPs rs i j (n + 1) = ovPs rs i j n ++ ovP rs i j n:=flat_succ _ _
    rw [e,ovPs_plc rs i j n]
    unfold ovP
    by_cases hij:i = j
    · have es:ovS i j = 1:=by unfold ovS; rw [if_pos hij]
      rw [es]
      cases n with
      | zero =>
        rw [if_neg (by simp [hij])]
        rfl
      | succ m =>
        have e1:m + 1 + 1 - 1 = m + 1:=by lia
        have e2:m + 1 - 1 = m:=by lia
        have e3:1 + m = m + 1:=by lia
        rw [e1,e2,plc_succ,List.map_append,e3,decide_eq_true (by lia:0 < m + 1),Bool.true_or,Bool.true_and]
        congr 1
        by_cases h:fitsAt (rs.getD i ([],[])).1 (rs.getD j ([],[])).1 (m + 1) = true
        · rw [if_pos h,if_pos h]; rfl
        · rw [if_neg h,if_neg h]; rfl
    · have es:ovS i j = 0:=by unfold ovS; rw [if_neg hij]
      rw [es,Nat.sub_zero,Nat.sub_zero,plc_succ,List.map_append,Nat.zero_add,decide_eq_false hij,Bool.not_false,Bool.or_true,Bool.true_and]
      congr 1
      by_cases h:fitsAt (rs.getD i ([],[])).1 (rs.getD j ([],[])).1 n = true
      · rw [if_pos h,if_pos h]; rfl
      · rw [if_neg h,if_neg h]; rfl
inductive spFits (vs:List V) (H:Hp) (Q:VK) (E_:XK):Prop
  | mk (one:_) (oth:_) (p:_) (h1_:vs = [tx one,tx oth,.int ((p:Nat):Int)]) (h2_:p ≤ one.length) (h3_:one.length ≤ 1000) (h4_:oth.length ≤ 1000) (h5_:Q (.bl (fitsAt one oth p)) H):spFits vs H Q E_
inductive spPlaces (vs:List V) (H:Hp) (Q:VK) (E_:XK):Prop
  | mk (one:_) (oth:_) (s:_) (h1_:vs = [tx one,tx oth,.int ((s:Nat):Int)]) (h2_:one.length ≤ 900) (h3_:oth.length ≤ 900) (h4_:s ≤ 1) (h5_:∀ r H',H r = none → Same H H' → H' r = some (.lst ((plc one oth s (one.length - s)).map fun (p:Nat)=>V.int (p:Int))) → Q (.ref r) H'):spPlaces vs H Q E_
inductive S9 (a l:Addr) (σ:St):Prop
  | mk (x2 x3 x4 x5 x6 x7 x8:Option V) (h1_:σ = [some (.ref a),some (.ref l),x2,x3,x4,x5,x6,x7,x8]):S9 a l σ
inductive OvW (a l:Addr) (rv:List V) (rs:List Rl) (H:Hp) (i:Nat) (σ:St) (H':Hp):Prop
  | mk (h1_:Same H H') (h2_:i ≤ rv.length) (h3_:S9 a l σ) (h4_:OsAt H' l (ovIs rs i)):OvW a l rv rs H i σ H'
inductive S5 (a l p1:Addr) (i:Nat) (σ:St):Prop
  | mk (x4 x5 x6 x7 x8:Option V) (h1_:σ = [some (.ref a),some (.ref l),some (.int (i:Int)),some (.ref p1),x4,x5,x6,x7,x8]):S5 a l p1 i σ
inductive OvX (a l p1:Addr) (i:Nat) (rv:List V) (rs:List Rl) (H:Hp) (j:Nat) (σ:St) (H':Hp):Prop
  | mk (h1_:Same H H') (h2_:j ≤ rv.length) (h3_:S5 a l p1 i σ) (h4_:OsAt H' l (ovIs rs i ++ ovJs rs i j)):OvX a l p1 i rv rs H j σ H'
inductive OvY (a l pr p1 p2:Addr) (i j:Nat) (r1 r2:Rl) (rs:List Rl) (H:Hp) (k:Nat) (σ:St) (H':Hp):Prop
  | mk (h1_:Same H H') (h2_:k ≤ (plc r1.1 r2.1 (ovS i j) (r1.1.length - ovS i j)).length) (h3_:H' pr = some (.lst ((plc r1.1 r2.1 (ovS i j) (r1.1.length - ovS i j)).map fun (p:Nat)=>V.int (p:Int)))) (h4_:(∃ x7 x8,σ = [some (.ref a),some (.ref l),some (.int (i:Int)),some (.ref p1),some (.int (j:Int)),some (.ref p2),some (.int ((ovS i j:Nat):Int)),x7,x8])) (h5_:OsAt H' l (ovIs rs i ++ ovJs rs i j ++ (((plc r1.1 r2.1 (ovS i j) (r1.1.length - ovS i j)).take k).map (mkOv rs i j)))):OvY a l pr p1 p2 i j r1 r2 rs H k σ H'
section
variable {P:Program} {w:World} {K:PySem.W.Frag} {mg:Str → Option Value} {base:Heap}
theorem scFits:FnScope ["one","other","place"] ["one","other","place"] (defScope sFits):=⟨rfl,rfl,rfl,by decide +kernel,rfl,by decide +kernel,by decide +kernel⟩
theorem ok_fits (D:Dfn K mg "fits" sFits ["one","other","place"]):Ok P w K mg base "fits" ["one","other","place"] 1 spFits:=by
  refine D.ok scFits (fun vs H Q E h=>?_) (fun f cdv A outer s H vs Q E hr h=>?_)
  · obtain ⟨one,oth,p,rfl,_⟩:=h
    rfl
  obtain ⟨one,oth,p,rfl,hp,h1,h2,q⟩:=h
  refine ⟨_,pss_one (ps_ret (pe_or (pe_bm PySem.F.plainAttrs_str PySem.F.slot_str_startswith PySem.F.type_str_startswith mt_starts (pv 0) (pa_cons (pv 1) (pa_cons (pv 2) pa_nil)))
    (pe_one (pe_bm PySem.F.plainAttrs_str PySem.F.slot_str_startswith PySem.F.type_str_startswith mt_starts1 (pv 1) (pa_cons (pe_slice sl_str (pv 0) (po_some (pv 2)) po_none) pa_nil))))),?_⟩
  try dsimp only [cxOf,Cx.nox]
  rw [← fitE_eq hp] at q
  unfold fitE at q
  refine ⟨_,rfl,rfl,_,rfl,_,rfl,one,oth,_,rfl,rfl,Int.natCast_nonneg _,_,rfl,?_⟩
  rw [Int.toNat_natCast]
  refine ite2 (fun c=>?_) (fun c=>?_)
  · rw [c,Bool.true_or] at q
    exact q
  · rw [Bool.eq_false_iff.mpr c,Bool.false_or] at q
    refine ⟨_,rfl,rfl,_,rfl,_,rfl,_,rfl,one,rfl,szl h1,oth,one.drop p,rfl,?_,q⟩
    rw [cutW_from]
theorem scPlaces:FnScope ["one","other","start"] ["one","other","start"] (defScope sPlaces):=⟨rfl,rfl,rfl,by decide +kernel,rfl,by decide +kernel,by decide +kernel⟩
theorem ccPlaces:CompScope (defScope sPlaces) ["one","other","start"] (compSc (retE (defBody sPlaces))) ["place"] ["one","other"] [0,1]:=⟨rfl,by decide +kernel,by decide +kernel,by decide +kernel,by decide +kernel,rfl,by decide +kernel⟩
theorem ok_places (D:Dfn K mg "places_of" sPlaces ["one","other","start"]) (B:Blt mg) (OF:Ok P w K mg base "fits" ["one","other","place"] 1 spFits):Ok P w K mg base "places_of" ["one","other","start"] 2 spPlaces:=by
  refine D.ok scPlaces (fun vs H Q E h=>?_) (fun f cdv A outer s H vs Q E hr h=>?_)
  · obtain ⟨one,oth,p,rfl,_⟩:=h
    rfl
  obtain ⟨one,oth,st,rfl,h1,h2,hst,q⟩:=h
  refine ⟨_,pss_one (ps_ret (pe_comp (g:=gName 0) (tt:=tB (tCall spFits [] E0 (tCons (tVar 1) (tCons (tVar 2) (tCons (tVar 0) tNil))))) (te:=tVar 0) rfl ccPlaces (pi_range2 rfl B.rng (pa_cons (pv 2) (pa_cons (pe_callB call_lenS rfl B.len PySem.boot_len (pa_cons (pv 0) pa_nil)) pa_nil)))
    (by intro cl C ex s H; exact ⟨pg_name (i:=0) ccPlaces.nd rfl (.inl rfl),pf_one (pt_val (pe_fn OF hr rfl (pa_cons (pv 1) (pa_cons (pv 2) (pa_cons (pv 0) pa_nil))))),pv 0⟩))),?_⟩
  try dsimp only [cxOf,Cx.nox]
  refine ⟨_,rfl,_,rfl,one,rfl,szl (by lia),_,_,rfl,⟨by lia,by lia,by lia,by lia⟩,?_⟩
  have e:(((one.length:Nat):Int) - ((st:Nat):Int)).toNat = one.length - st:=by lia
  rw [e]
  refine turns_range (lo:=((st:Nat):Int)) (n:=one.length - st) (fun i acc H'=>H' = H ∧ i ≤ one.length - st ∧ acc = ((plc one oth st i).map fun (p:Nat)=>V.int (p:Int)))
    ⟨rfl,Nat.zero_le _,rfl⟩ (fun i acc H' ⟨_,_,e⟩=>?_) (small1000 (by lia)) (fun i acc H' hi ⟨e,_,hacc⟩=>?_) (fun acc H' ⟨e,_,hacc⟩ r hr'=>?_)
  · rw [e,List.length_map]
    exact plc_len _ _ _ _
  · subst e
    refine ⟨rfl,?_⟩
    have ep:((st:Nat):Int) + (i:Int) = ((st + i:Nat):Int):=rfl
    refine ⟨_,rfl,_,rfl,_,rfl,one,oth,st + i,rfl,by lia,by lia,by lia,_,rfl,?_⟩
    refine ite2 (fun c=>?_) (fun c=>?_)
    · refine ⟨_,rfl,rfl,hi,?_⟩
      rw [plc_succ,if_pos c,List.map_append,hacc]
      rfl
    · refine ⟨rfl,hi,?_⟩
      rw [plc_succ,if_neg c,List.append_nil,hacc]
  · subst e
    refine q r _ hr' (same_new hr' _) ?_
    rw [upd_same,hacc]
theorem scOvl:FnScope ["rules","found","first","one","second","other","start","place","beyond"] ["rules"] (defScope sOverlaps):=⟨rfl,rfl,rfl,by decide +kernel,rfl,by decide +kernel,by decide +kernel⟩
theorem ok_overlaps (D:Dfn K mg "overlaps" sOverlaps ["rules"]) (B:Blt mg) (OP:Ok P w K mg base "places_of" ["one","other","start"] 2 spPlaces):Ok P w K mg base "overlaps" ["rules"] 3 spOver:=by
  refine D.ok scOvl (fun vs H Q E h=>?_) (fun f cdv A outer s H vs Q E hr h=>?_)
  · obtain ⟨a,rs,n,rfl,_⟩:=h
    rfl
  obtain ⟨a,rs,n,rfl,hS,hln,hn,hlen,q⟩:=h
  refine ⟨_,pss_cons (ps_set (i:=1) scOvl.nd rfl (Or.inl rfl) (pe_lst pa_nil))
    (pss_cons (ps_for PassesOwn.never rfl (pi_enum rfl B.enm (pa_cons (pv 0) pa_nil)) (pg_tup rfl (pgs_cons (pg_name (i:=2) scOvl.nd rfl (Or.inl rfl)) (pgs_cons (pg_name (i:=3) scOvl.nd rfl (Or.inl rfl)) pgs_nil)))
      (pss_one (ps_for PassesOwn.never rfl (pi_enum rfl B.enm (pa_cons (pv 0) pa_nil)) (pg_tup rfl (pgs_cons (pg_name (i:=4) scOvl.nd rfl (Or.inl rfl)) (pgs_cons (pg_name (i:=5) scOvl.nd rfl (Or.inl rfl)) pgs_nil)))
        (pss_cons (ps_set (i:=6) scOvl.nd rfl (Or.inl rfl) (pe_ifExp (pt_cmpR op_eq (pv 2) (pv 4) (nomark _)) pe_int pe_int))
        (pss_one (ps_for PassesOwn.never rfl (pi_list (pe_fn OP hr rfl (pa_cons (pe_ix ix_tup (pv 3) pe_int (fun _ _=>rfl)) (pa_cons (pe_ix ix_tup (pv 5) pe_int (fun _ _=>rfl)) (pa_cons (pv 6) pa_nil))))) (pg_name (i:=7) scOvl.nd rfl (Or.inl rfl))
          (pss_cons (ps_set (i:=8) scOvl.nd rfl (Or.inl rfl) (pe_slice sl_str (pe_ix ix_tup (pv 5) pe_int (fun _ _=>rfl)) (po_some (pe_op op_sub (pe_callB call_lenS rfl B.len PySem.boot_len (pa_cons (pe_ix ix_tup (pv 3) pe_int (fun _ _=>rfl)) pa_nil)) (pv 7))) po_none))
          (pss_one (ps_expr (pe_bm PySem.F.plainAttrs_list PySem.F.slot_list_append PySem.F.type_list_append mt_append (pv 1) (pa_cons (pe_tup (pa_cons (pe_op op_addS (pe_ix ix_tup (pv 3) pe_int (fun _ _=>rfl)) (pv 8)) (pa_cons (pv 2) (pa_cons (pv 4) (pa_cons (pv 7) pa_nil))))) pa_nil)))))))))))
    (pss_one (ps_ret (pv 1)))),?_⟩
  try dsimp only [cxOf,Cx.nox]
  refine ⟨(by show 0 ≤ sizeLine; decide),fun l hl=>?_⟩
  have s1:Same H (upd H l (.lst [])):=same_new hl _
  obtain ⟨rv,hrv,hrp⟩:=id hS
  have lrv:=pairLen hrp
  refine ⟨_,rfl,a,rfl,⟨_,SqL.of (s1 _ _ hrv)⟩,?_⟩
  refine for_enum (K:=K) (xs:=rv) (OvW a l rv rs H)
    ⟨s1,Nat.zero_le _,⟨_,_,_,_,_,_,_,rfl⟩,⟨[],upd_same,.nil⟩⟩ (fun i σ H' _ (.mk s' ..)=>SqL.of (s' _ _ hrv)) ?_ ?_
  · rintro i v pe σ H1 hv ⟨s2,_,⟨x2,x3,x4,x5,x6,x7,x8,rfl⟩,hos⟩ hpe
    obtain ⟨r1,hr1,p1,e1,h1⟩:=pairGetL hrp hv
    subst e1
    have hir:i < rs.length:=(List.getElem?_eq_some_iff.mp hr1).1
    have er1:rs.getD i ([],[]) = r1:=by rw [List.getD_eq_getElem?_getD,hr1]; rfl
    have s2':Same H (upd H1 pe (.tup [.int i,.ref p1])):=s2.trans (same_new hpe _)
    have hos':=hos.mono (same_new hpe (.tup [.int i,.ref p1]))
    refine ⟨pe,_,rfl,SqT.of upd_same,rfl,_,_,rfl,_,_,rfl,rfl,?_⟩
    generalize upd H1 pe (.tup [.int i,.ref p1]) = H1' at *
    refine ⟨_,rfl,a,rfl,⟨_,SqL.of (s2' _ _ hrv)⟩,?_⟩
    refine for_enum (K:=K) (xs:=rv) (OvX a l p1 i rv rs H)
      ⟨s2',Nat.zero_le _,⟨_,_,_,_,_,rfl⟩,by rw [show ovJs rs i 0 = [] from rfl,List.append_nil]; exact hos'⟩ (fun i σ H' _ (.mk s' ..)=>SqL.of (s' _ _ hrv)) ?_ ?_
    · rintro j v2 pe2 σ H2 hv2 ⟨s3,_,⟨x4,x5,x6,x7,x8,rfl⟩,hos2⟩ hpe2
      obtain ⟨r2,hr2,p2,e2,h2⟩:=pairGetL hrp hv2
      subst e2
      have hjr:j < rs.length:=(List.getElem?_eq_some_iff.mp hr2).1
      have er2:rs.getD j ([],[]) = r2:=by rw [List.getD_eq_getElem?_getD,hr2]; rfl
      have l1:=hln _ (getD_mem hir)
      have l2:=hln _ (getD_mem hjr)
      rw [er1] at l1
      rw [er2] at l2
      have s3':Same H (upd H2 pe2 (.tup [.int j,.ref p2])):=s3.trans (same_new hpe2 _)
      have hos2':=hos2.mono (same_new hpe2 (.tup [.int j,.ref p2]))
      refine ⟨pe2,_,rfl,SqT.of upd_same,rfl,_,_,rfl,_,_,rfl,rfl,?_⟩
      generalize upd H2 pe2 (.tup [.int j,.ref p2]) = H2' at *
      have start:∀ Q':VK,Q' (.int ((ovS i j:Nat):Int)) H2' → (tIf (tTest (tOp rEq (tVar 2) (tVar 4))) (tC (.int 1)) (tC (.int 0))) [some (.ref a),some (.ref l),some (.int (i:Int)),some (.ref p1),some (.int (j:Int)),some (.ref p2),x6,x7,x8] H2' Q':=fun Q' h=>by
        refine ⟨_,rfl,_,rfl,rfl,_,rfl,?_⟩
        have e2:decide (V.int (i:Int) = V.int (j:Int)) = decide (i = j):=by
          rw [Bool.eq_iff_iff,decide_eq_true_iff,decide_eq_true_iff]
          exact ⟨fun z=>by have:=V.int.inj z; lia,fun z=>by rw [z]⟩
        rw [e2]
        unfold ovS at h
        by_cases hij:i = j
        · rw [if_pos hij] at h
          rw [decide_eq_true hij]
          exact iteT h
        · rw [if_neg hij] at h
          rw [decide_eq_false hij]
          exact iteF h
      refine start _ ?_
      have hso:ovS i j ≤ 1:=by unfold ovS; split <;> lia
      refine ⟨_,rfl,p1,_,0,_,rfl,rfl,SqT.of (s3' _ _ h1),rfl,_,rfl,p2,_,0,_,rfl,rfl,SqT.of (s3' _ _ h2),rfl,_,rfl,r1.1,r2.1,ovS i j,rfl,by lia,by lia,hso,fun pr H3 hpr s4 hpl=>?_⟩
      have hos3:=hos2'.mono s4
      have s4':=s3'.trans s4
      have nlp:l ≠ pr:=fun z=>by
        obtain ⟨sv,hsv,_⟩:=hos2'
        rw [z,hpr] at hsv; cases hsv
      refine ⟨pr,rfl,⟨_,SqL.of hpl⟩,?_⟩
      have plk:=plc_len r1.1 r2.1 (ovS i j) (r1.1.length - ovS i j)
      refine for_list (K:=K) (a:=pr) (xs:=((plc r1.1 r2.1 (ovS i j) (r1.1.length - ovS i j)).map fun (p:Nat)=>V.int (p:Int)))
        (OvY a l pr p1 p2 i j r1 r2 rs H)
        ⟨s4',Nat.zero_le _,hpl,⟨_,_,rfl⟩,by rw [List.take_zero,List.map_nil,List.append_nil]; exact hos3⟩ (fun k σ H' _ (.mk _ _ e ..)=>SqL.of e) ?_ ?_
      · rintro k v3 σ H4 hv3 ⟨s5,hk,hpl4,⟨x7,x8,rfl⟩,sv,hsv,hsp⟩
        rw [List.getElem?_map] at hv3
        cases hc:(plc r1.1 r2.1 (ovS i j) (r1.1.length - ovS i j))[k]? with
        | none=>rw [hc] at hv3; cases hv3
        | some p =>
          rw [hc] at hv3
          cases hv3
          have hkl:k < (plc r1.1 r2.1 (ovS i j) (r1.1.length - ovS i j)).length:=(List.getElem?_eq_some_iff.mp hc).1
          have hpm:=plc_mem (List.mem_of_getElem? hc)
          have ht1:=s5 _ _ h1
          have ht2:=s5 _ _ h2
          refine ⟨_,rfl,p2,_,0,_,rfl,rfl,SqT.of ht2,rfl,_,rfl,p1,_,0,_,rfl,rfl,SqT.of ht1,rfl,r1.1,rfl,szl (by lia),_,rfl,_,_,rfl,rfl,_,rfl,r2.1,rfl,szl (by lia),?_⟩
          have ecut:cutW r2.1 (some (((r1.1.length:Nat):Int) - (p:Int))) none = r2.1.drop (r1.1.length - p):=by
            have e:((r1.1.length:Nat):Int) - (p:Int) = ((r1.1.length - p:Nat):Int):=by lia
            rw [e,cutW_from]
          show gName 8 (tx (cutW r2.1 (some (((r1.1.length:Nat):Int) - (p:Int))) none)) _ _ _
          rw [ecut]
          refine ⟨_,rfl,.inl ⟨rfl,_,SqL.of hsv⟩,?_⟩
          refine ⟨_,rfl,p1,_,0,_,rfl,rfl,SqT.of ht1,rfl,_,rfl,r1.1,r2.1.drop (r1.1.length - p),rfl,rfl,(by rw [List.length_drop,sizeLine_eq]; lia),_,rfl,_,rfl,_,rfl,(by show 4 ≤ sizeLine; decide),fun t ht=>?_⟩
          have hsv':=same_new ht (.tup [tx (r1.1 ++ r2.1.drop (r1.1.length - p)),.int (i:Int),.int (j:Int),.int (p:Int)]) _ _ hsv
          have c1:=pairLen hsp
          rw [List.length_append,List.length_append,List.length_map,List.length_take] at c1
          have c3:=ovJs_len hln i j
          have c4:=ovIs_len hln i
          have c5:j * n ≤ 100 * 100:=Nat.mul_le_mul (by lia) hn
          have c6:i * (rs.length * n) ≤ 100 * (100 * 100):=Nat.mul_le_mul (by lia) (Nat.mul_le_mul hlen hn)
          refine ⟨l,_,_,rfl,rfl,hsv',by rw [sizeLine_eq]; lia,?_⟩
          have hpl5:=same_new ht (.tup [tx (r1.1 ++ r2.1.drop (r1.1.length - p)),.int (i:Int),.int (j:Int),.int (p:Int)]) _ _ hpl4
          refine ⟨(s5.trans (same_new ht _)).own hl _,hkl,by rw [upd_ne (Ne.symm nlp)]; exact hpl5,⟨_,_,rfl⟩,?_⟩
          have emk:mkOv rs i j p = (r1.1 ++ r2.1.drop (r1.1.length - p),i,j,p):=by unfold mkOv; rw [er1,er2]
          rw [List.take_add_one,hc,List.map_append,← List.append_assoc]
          show OsAt _ l (_ ++ [mkOv rs i j p])
          rw [emk]
          exact OsAt.snoc hsv' (pairImp hsp fun _ _ z=>z.mono (tups_of (same_new ht _))) ⟨t,rfl,upd_same⟩
      · rintro σ H4 ⟨s5,_,_,⟨x7,x8,rfl⟩,hos4⟩
        refine ⟨s5,(List.getElem?_eq_some_iff.mp hv2).1,⟨_,_,_,_,_,rfl⟩,?_⟩
        rw [List.length_map,List.take_length] at hos4
        have e:ovJs rs i (j + 1) = ovJs rs i j ++ ovPs rs i j (rs.getD i ([],[])).1.length:=flat_succ _ _
        rw [e,ovPs_plc,er1,er2,← List.append_assoc]
        exact hos4
    · rintro σ H2 ⟨s3,_,⟨x4,x5,x6,x7,x8,rfl⟩,hos2⟩
      refine ⟨s3,(List.getElem?_eq_some_iff.mp hv).1,⟨_,_,_,_,_,_,_,rfl⟩,?_⟩
      have e:ovIs rs (i + 1) = ovIs rs i ++ ovJs rs i rs.length:=flat_succ _ _
      rw [e,← lrv]
      exact hos2
  · rintro σ H1 ⟨s2,_,⟨x2,x3,x4,x5,x6,x7,x8,rfl⟩,hos⟩
    refine ⟨_,rfl,q _ _ s2 ?_⟩
    unfold overs
    rw [← lrv]
    exact hos
end
end Sg
namespace Sg
open PySem L2
theorem szb {n:Nat} (h:n ≤ 16000000):n ≤ sizeLine:=by rw [sizeLine_eq]; lia
inductive spStdB (vs:List V) (H:Hp) (Q:VK) (E_:XK):Prop
  | mk (w:_) (l:_) (p:_) (h1_:vs = [tx l,tx w,.int p]) (h2_:w.length ≤ 16000000) (h3_:Q (.bl (stI w l p)) H):spStdB vs H Q E_
inductive spChgB (vs:List V) (H:Hp) (Q:VK) (E_:XK):Prop
  | mk (w:_) (p:_) (o:_) (n:_) (h1_:vs = [tx w,.int ((p:Nat):Int),tx o,tx n]) (h2_:w.length ≤ 16000000) (h3_:o.length ≤ 1000) (h4_:n.length ≤ 1000) (h5_:Q (tx (chg w p o n)) H):spChgB vs H Q E_
section
variable {P:Program} {w:World} {K:PySem.W.Frag} {mg:Str → Option Value} {base:Heap}
theorem scStdB:FnScope ["part","word","place"] ["part","word","place"] (defScope sStd):=⟨rfl,rfl,rfl,by decide +kernel,rfl,by decide +kernel,by decide +kernel⟩
theorem ok_stdB (D:Dfn K mg "stands" sStd ["part","word","place"]) (B:Blt mg):Ok P w K mg base "stands" ["part","word","place"] 1 spStdB:=by
  refine D.ok scStdB (fun vs H Q E h=>?_) (fun f cdv A outer s H vs Q E hr h=>?_)
  · obtain ⟨w,l,p,rfl,_⟩:=h
    rfl
  obtain ⟨w,l,p,rfl,hw,q⟩:=h
  refine ⟨_,pss_one (ps_ret (pe_and (pe_cmpR op_ge (pv 2) pe_int (nomark _)) (pe_and (pe_cmpR op_le (pv 2) (pe_callB call_lenS rfl B.len PySem.boot_len (pa_cons (pv 1) pa_nil)) (nomark _))
    (pe_one (pe_bm PySem.F.plainAttrs_str PySem.F.slot_str_startswith PySem.F.type_str_startswith mt_starts (pv 1) (pa_cons (pv 0) (pa_cons (pv 2) pa_nil))))))),?_⟩
  try dsimp only [cxOf,Cx.nox]
  have no:¬ (0 ≤ p ∧ p.toNat + l.length ≤ w.length) → Q (.bl false) H:=fun c=>by
    have e:stI w l p = false:=by unfold stI; rw [decide_eq_false c]; rfl
    rw [e] at q
    exact q
  refine ⟨_,rfl,_,_,rfl,rfl,_,rfl,?_⟩
  refine ite2 (fun c=>?_) (fun c=>no fun z=>c (decide_eq_true z.1))
  have h0:=of_decide_eq_true c
  obtain ⟨n,rfl⟩:∃ n:Nat,p = (n:Int):=⟨p.toNat,by lia⟩
  refine ⟨_,rfl,_,rfl,w,rfl,szb hw,_,_,rfl,rfl,_,rfl,?_⟩
  refine ite2 (fun c=>?_) (fun c=>no fun z=>c (decide_eq_true (by lia)))
  refine ⟨_,rfl,rfl,_,rfl,_,rfl,w,l,_,rfl,rfl,Int.natCast_nonneg _,?_⟩
  have e1:(decide (((n:Nat):Int).toNat + l.length ≤ w.length) && atW w l ((n:Nat):Int).toNat) = stI w l n:=by
    unfold stI
    rw [Int.toNat_natCast]
    congr 1
    rw [Bool.eq_iff_iff,decide_eq_true_iff,decide_eq_true_iff]
    lia
  rw [e1]
  exact q
theorem scChgB:FnScope ["word","place","old","new"] ["word","place","old","new"] (defScope sChg):=⟨rfl,rfl,rfl,by decide +kernel,rfl,by decide +kernel,by decide +kernel⟩
theorem ok_chgB (D:Dfn K mg "changed" sChg ["word","place","old","new"]) (B:Blt mg):Ok P w K mg base "changed" ["word","place","old","new"] 1 spChgB:=by
  refine D.ok scChgB (fun vs H Q E h=>?_) (fun f cdv A outer s H vs Q E hr h=>?_)
  · obtain ⟨w,p,o,n,rfl,_⟩:=h
    rfl
  obtain ⟨w,p,o,n,rfl,hw,ho,hn,q⟩:=h
  refine ⟨_,pss_one (ps_ret (pe_op op_addS (pe_op op_addS (pe_slice sl_str (pv 0) po_none (po_some (pv 1))) (pv 3)) (pe_slice sl_str (pv 0) (po_some (pe_op op_add (pv 1) (pe_callB call_lenS rfl B.len PySem.boot_len (pa_cons (pv 2) pa_nil)))) po_none))),?_⟩
  try dsimp only [cxOf,Cx.nox]
  have e:((p:Nat):Int) + ((o.length:Nat):Int) = ((p + o.length:Nat):Int):=rfl
  refine ⟨_,rfl,_,rfl,_,rfl,w,rfl,szb hw,_,rfl,_,_,rfl,rfl,?_,_,rfl,_,rfl,_,rfl,o,rfl,szl ho,_,_,rfl,rfl,_,rfl,w,rfl,szb hw,_,_,rfl,rfl,?_,?_⟩
  · rw [cutW_to,List.length_take,sizeLine_eq]
    lia
  · rw [cutW_to,e,cutW_from,List.length_append,List.length_take,List.length_drop,sizeLine_eq]
    lia
  · rw [cutW_to,e,cutW_from]
    exact q
end
end Sg
namespace Sg
open PySem L2
inductive spLink (vs:List V) (H:Hp) (Q:VK) (E_:XK):Prop
  | mk (a:_) (ps:_) (w:_) (v:_) (k:_) (u:_) (h1_:vs = [.ref a,tx w,v]) (h2_:RsAt H a ps) (h3_:Sh ps) (h4_:ps.length ≤ 100) (h5_:w.length ≤ 15900000) (h6_:LkAt H v k) (h7_:lnk ps w k = some u) (h8_:Q (tx u) H):spLink vs H Q E_
inductive spAlong (vs:List V) (H:Hp) (Q:VK) (E_:XK):Prop
  | mk (a:_) (ps:_) (w:_) (c:_) (ks:_) (ws:_) (h1_:vs = [.ref a,tx w,.ref c]) (h2_:RsAt H a ps) (h3_:Sh ps) (h4_:ps.length ≤ 100) (h5_:w.length ≤ 900) (h6_:LsAt H c ks) (h7_:ks.length ≤ 5000000) (h8_:Alg ps w ks ws) (h9_:∀ r H',H r = none → Same H H' → H' r = some (.lst (ws.map tx)) → Q (.ref r) H'):spAlong vs H Q E_
inductive spShort (vs:List V) (H:Hp) (Q:VK) (E_:XK):Prop
  | mk (a:_) (ps:_) (w:_) (c:_) (ks:_) (u:_) (h1_:vs = [.ref a,tx w,.ref c]) (h2_:RsAt H a ps) (h3_:Sh ps) (h4_:ps.length ≤ 100) (h5_:w.length ≤ 900) (h6_:LsAt H c ks) (h7_:ks.length ≤ 5000000) (h8_:wlk ps w ks = some u) (h9_:∀ r ks' H',H r = none → Same H H' → LsAt H' r ks' → ks'.length ≤ ks.length → wlk ps w ks' = some u → Q (.ref r) H'):spShort vs H Q E_
inductive AlW (a c l:Addr) (w:Wd) (ws:List Wd) (kv:List V) (H:Hp) (i:Nat) (σ:St) (H':Hp):Prop
  | mk (h1_:i ≤ kv.length) (h2_:Same H H') (h3_:H' l = some (.lst ((ws.take (i + 1)).map tx))) (x:_) (h4_:σ = [some (.ref a),some (tx w),some (.ref c),some (.ref l),x]):AlW a c l w ws kv H i σ H'
section
variable {P:Program} {w:World} {K:PySem.W.Frag} {mg:Str → Option Value} {base:Heap}
theorem scLinked0:FnScope ["pairs","word","link","number","place","first","second","old","new"] ["pairs","word","link"] (defScope sLinked):=⟨rfl,rfl,rfl,by decide +kernel,rfl,by decide +kernel,by decide +kernel⟩
theorem ok_linked0 (D:Dfn K mg "linked" sLinked ["pairs","word","link"]) (B:Blt mg) (OT:Ok P w K mg base "stands" ["part","word","place"] 1 spStdB) (OC:Ok P w K mg base "changed" ["word","place","old","new"] 1 spChgB):Ok P w K mg base "linked" ["pairs","word","link"] 2 spLink:=by
  refine D.ok scLinked0 (fun vs H Q E h=>?_) (fun f cdv A outer s H vs Q E hr h=>?_)
  · obtain ⟨a,ps,w,v,k,u,rfl,_⟩:=h
    rfl
  obtain ⟨a,ps,w,v,k,u,rfl,hS,hsh,hpl,hw,hk,hlk,q⟩:=h
  refine ⟨_,pss_cons (ps_set (i:=3) scLinked0.nd rfl (Or.inl rfl) (pe_ix ix_tup (pv 2) pe_int (fun _ _=>rfl)))
    (pss_cons (ps_set (i:=4) scLinked0.nd rfl (Or.inl rfl) (pe_ix ix_tup (pv 2) pe_int (fun _ _=>rfl)))
    (pss_cons (ps_if (PW.pt (pw_or (pt_cmpR op_lt (pv 3) pe_int (nomark _)) (pw_or1 (pt_cmpR op_ge (pv 3) (pe_callB call_len_seq rfl B.len PySem.boot_len (pa_cons (pv 0) pa_nil)) (nomark _))))) pss_never pss_nil)
    (pss_cons (ps_set (i:=5) scLinked0.nd rfl (Or.inl rfl) (pe_ix ix_tup (pe_ix ix_list (pv 0) (pv 3) (fun _ _=>rfl)) pe_int (fun _ _=>rfl)))
    (pss_cons (ps_set (i:=6) scLinked0.nd rfl (Or.inl rfl) (pe_ix ix_tup (pe_ix ix_list (pv 0) (pv 3) (fun _ _=>rfl)) pe_int (fun _ _=>rfl)))
    (pss_cons (ps_set (i:=7) scLinked0.nd rfl (Or.inl rfl) (pe_ifExp (pt_val (pe_ix ix_tup (pv 2) pe_int (fun _ _=>rfl))) (pv 5) (pv 6)))
    (pss_cons (ps_set (i:=8) scLinked0.nd rfl (Or.inl rfl) (pe_ifExp (pt_val (pe_ix ix_tup (pv 2) pe_int (fun _ _=>rfl))) (pv 6) (pv 5)))
    (pss_cons (ps_if (pt_not (pt_val (pe_fn OT hr rfl (pa_cons (pv 7) (pa_cons (pv 1) (pa_cons (pv 4) pa_nil)))))) pss_never pss_nil)
    (pss_one (ps_ret (pe_fn OC hr rfl (pa_cons (pv 1) (pa_cons (pv 4) (pa_cons (pv 7) (pa_cons (pv 8) pa_nil)))))))))))))),?_⟩
  try dsimp only [cxOf,Cx.nox]
  obtain ⟨n,p,b⟩:=k
  obtain ⟨t,rfl,ht⟩:=hk
  obtain ⟨rv,hrv,hrp⟩:=id hS
  have lrv:=pairLen hrp
  have hfit:fitL ps w (n,p,b) = true:=by
    cases e:fitL ps w (n,p,b) with
    | true=>rfl
    | false=>rw [lnk_none e] at hlk; cases hlk
  have hnum:numOk ps (n,p,b) = true:=by
    unfold fitL at hfit
    exact (Bool.and_eq_true_iff.mp hfit).1
  have hnum':0 ≤ n ∧ n < (ps.length:Int):=of_decide_eq_true hnum
  obtain ⟨h0,h1⟩:=hnum'
  refine ⟨_,rfl,t,_,0,_,rfl,rfl,SqT.of ht,rfl,?_⟩
  refine ⟨_,rfl,t,_,1,_,rfl,rfl,SqT.of ht,rfl,?_⟩
  refine ⟨_,rfl,_,_,rfl,rfl,_,rfl,?_⟩
  refine ite2 (fun c=>absurd (of_decide_eq_true c) (by lia)) (fun c=>?_)
  refine ⟨_,rfl,_,rfl,a,rv,rfl,.inl (SqL.of hrv),_,_,rfl,rfl,_,rfl,?_⟩
  refine ite2 (fun c=>absurd (of_decide_eq_true c) (by lia)) (fun c=>?_)
  obtain ⟨n,rfl⟩:∃ m:Nat,n = (m:Int):=⟨n.toNat,by lia⟩
  have hn:n < ps.length:=by lia
  obtain ⟨rv',p2,eH,hvl,hx,h2⟩:=hS.get hn
  rw [hrv] at eH
  cases eH
  have hat2:atI rv ((n:Nat):Int) = some (.ref p2):=atI_nat hx
  refine ⟨_,rfl,_,rfl,a,rv,_,_,rfl,rfl,SqL.of hrv,hat2,p2,_,0,_,rfl,rfl,SqT.of h2,rfl,?_⟩
  refine ⟨_,rfl,_,rfl,a,rv,_,_,rfl,rfl,SqL.of hrv,hat2,p2,_,1,_,rfl,rfl,SqT.of h2,rfl,?_⟩
  refine ⟨_,rfl,t,_,2,_,rfl,rfl,SqT.of ht,rfl,_,rfl,if_var (fun Q' q=>⟨_,rfl,q⟩) (fun Q' q=>⟨_,rfl,q⟩) ?_⟩
  refine ⟨_,rfl,t,_,2,_,rfl,rfl,SqT.of ht,rfl,_,rfl,if_var (fun Q' q=>⟨_,rfl,q⟩) (fun Q' q=>⟨_,rfl,q⟩) ?_⟩
  have eo:(if b = true then (ps.getD n ([],[])).1 else (ps.getD n ([],[])).2) = oldW ps (((n:Nat):Int),p,b):=by unfold oldW; rw [Int.toNat_natCast]
  have en:(if b = true then (ps.getD n ([],[])).2 else (ps.getD n ([],[])).1) = newW ps (((n:Nat):Int),p,b):=by unfold newW; rw [Int.toNat_natCast]
  rw [eo,en]
  have lo:=hsh.old (((n:Nat):Int),p,b)
  have ln:=hsh.new (((n:Nat):Int),p,b)
  have hst:stI w (oldW ps (((n:Nat):Int),p,b)) p = true:=by
    unfold fitL at hfit
    exact (Bool.and_eq_true_iff.mp hfit).2
  refine ⟨_,rfl,_,rfl,_,rfl,w,_,p,rfl,by lia,_,rfl,?_⟩
  rw [hst]
  have h00:=(stI_iff.mp hst).1
  obtain ⟨p,rfl⟩:∃ m:Nat,p = (m:Int):=⟨p.toNat,by lia⟩
  refine iteF ?_
  refine ⟨_,rfl,_,rfl,_,rfl,_,rfl,w,p,_,_,rfl,by lia,by lia,by lia,?_⟩
  rw [lnk_some hfit] at hlk
  cases hlk
  exact q
theorem scAlong:FnScope ["pairs","word","chain","words","link"] ["pairs","word","chain"] (defScope s_words_along):=⟨rfl,rfl,rfl,by decide +kernel,rfl,by decide +kernel,by decide +kernel⟩
theorem ok_along (D:Dfn K mg "words_along" s_words_along ["pairs","word","chain"]) (OL:Ok P w K mg base "linked" ["pairs","word","link"] 2 spLink):Ok P w K mg base "words_along" ["pairs","word","chain"] 3 spAlong:=by
  refine D.ok scAlong (fun vs H Q E h=>?_) (fun f cdv A outer s H vs Q E hr h=>?_)
  · obtain ⟨a,ps,w,c,ks,ws,rfl,_⟩:=h
    rfl
  obtain ⟨a,ps,w,c,ks,ws,rfl,hS,hsh,hpl,hw,hks,hkl,hal,q⟩:=h
  obtain ⟨kv,hkv,hkp⟩:=id hks
  have lkv:=pairLen hkp
  refine ⟨_,pss_cons (ps_set (i:=3) scAlong.nd rfl (Or.inl rfl) (pe_lst (pa_cons (pv 1) pa_nil)))
    (pss_cons (ps_for PassesOwn.never rfl (pi_list (pv 2)) (pg_name (i:=4) scAlong.nd rfl (Or.inl rfl))
      (pss_one (ps_expr (pe_bm PySem.F.plainAttrs_list PySem.F.slot_list_append PySem.F.type_list_append mt_append (pv 3) (pa_cons (pe_fn OL hr rfl (pa_cons (pv 0) (pa_cons (pe_ix ix_list (pv 3) (pe_un un_neg pe_int) (fun _ _=>rfl)) (pa_cons (pv 4) pa_nil)))) pa_nil)))))
    (pss_one (ps_ret (pv 3)))),?_⟩
  try dsimp only [cxOf,Cx.nox]
  refine ⟨_,rfl,(by show 1 ≤ sizeLine; decide),fun l hl=>?_⟩
  have s1:Same H (upd H l (.lst [tx w])):=same_new hl _
  have nlc:c ≠ l:=fun z=>by rw [z,hl] at hkv; cases hkv
  obtain ⟨rv,hrv,_⟩:=id hS
  have nla:a ≠ l:=fun z=>by rw [z,hl] at hrv; cases hrv
  refine ⟨_,rfl,c,rfl,⟨_,SqL.of (s1 _ _ hkv)⟩,?_⟩
  refine for_list (K:=K) (a:=c) (xs:=kv) (AlW a c l w ws kv H)
    ⟨Nat.zero_le _,s1,?_,_,rfl⟩ (fun i σ H' _ (.mk _ s' ..)=>SqL.of (s' _ _ hkv)) ?_ ?_
  · rw [upd_same,List.take_add_one,hal.hd]
    rfl
  · rintro i v σ H' hv ⟨hi,s',hl',x,rfl⟩
    obtain ⟨k,hk,hat⟩:=pairGetL hkp hv
    have hil:i < ks.length:=(List.getElem?_eq_some_iff.mp hk).1
    obtain ⟨u,v2,h1,h2,h3⟩:=hal.st i k hk
    have hul:=hal.lens hsh i u h1
    have hll:=hal.len
    refine ⟨_,rfl,.inl ⟨rfl,_,SqL.of hl'⟩,?_⟩
    have hlast:atI ((ws.take (i + 1)).map tx) (-1) = some (tx u):=by
      rw [List.take_add_one,h1,Option.toList_some,List.map_append]
      exact atI_last _ _
    refine ⟨_,rfl,_,rfl,_,rfl,l,_,_,_,rfl,rfl,SqL.of hl',hlast,_,rfl,a,ps,u,v,k,v2,rfl,hS.mono s',hsh,hpl,by lia,hat.mono (tups_of s'),h3,l,_,_,rfl,rfl,hl',?_,?_⟩
    · rw [List.length_map,List.length_take,sizeLine_eq]
      lia
    · refine ⟨by lia,?_,?_,_,rfl⟩
      · exact s'.own hl _
      · rw [upd_same,List.take_add_one (i:=i + 1),h2]
        simp
  · rintro σ H' ⟨hi,s',hl',x,rfl⟩
    rw [lkv,← hal.len,List.take_length] at hl'
    exact ⟨_,rfl,q l H' hl s' hl'⟩
abbrev NSh:List Str:=["pairs","word","chain","words","last","number","reached","kept","at"]
theorem scShort:FnScope NSh ["pairs","word","chain"] (defScope s_shortened):=⟨rfl,rfl,rfl,by decide +kernel,rfl,by decide +kernel,by decide +kernel⟩
def LastD (ws:List Wd) (j:Nat) (kvs:List (Key × V)):Prop:=∀ u,(∃ i,i < j ∧ ws[i]? = some u) → ∃ m:Nat,valV kvs (Sum.inr (Sx u)) = some (.int (m:Int)) ∧ LastOf ws j u m
theorem lastD_put {ws:List Wd} {j:Nat} {kvs:List (Key × V)} {x:Wd} (h:LastD ws j kvs) (hx:ws[j]? = some x):LastD ws (j + 1) (putK kvs (Sum.inr (Sx x)) (.int (j:Int))):=by
  intro u ⟨i,hi,hu⟩
  by_cases e:u = x
  · subst e
    refine ⟨j,by rw [valV_put,if_pos rfl],by lia,hx,fun i hi _=>by lia⟩
  · have hne:(Sum.inr (Sx u):Key) ≠ Sum.inr (Sx x):=fun z=>e (Sx_inj (Sum.inr.inj z))
    have hij:i < j:=by
      by_cases hij:i = j
      · subst hij; rw [hx] at hu; cases hu; exact absurd rfl e
      · lia
    obtain ⟨m,h1,h2,h3,h4⟩:=h u ⟨i,hij,hu⟩
    refine ⟨m,by rw [valV_put,if_neg hne]; exact h1,by lia,h3,fun i' hi' hu'=>?_⟩
    by_cases hij':i' = j
    · subst hij'; rw [hx] at hu'; cases hu'; exact absurd rfl e
    · exact h4 i' (by lia) hu'
inductive ShW (H1:Hp) (a c lw d l:Addr) (ps:List Rl) (w:Wd) (ks:List Lk) (ws:List Wd) (kvs:List (Key × V)) (μ:Nat) (σ:St) (H':Hp):Prop
  | mk (m:Nat) (x:Wd) (ks':List Lk) (x5 x6:Option V) (h1_:μ = ks.length - m) (h2_:σ = [some (.ref a),some (tx w),some (.ref c),some (.ref lw),some (.ref d),x5,x6,some (.ref l),some (.int (m:Int))]) (h3_:Same H1 H') (h4_:H' d = some (.dK kvs)) (h5_:LsAt H' l ks') (h6_:ks'.length ≤ m) (h7_:wlk ps w ks' = some x) (h8_:LastOf ws ws.length x m):ShW H1 a c lw d l ps w ks ws kvs μ σ H'
inductive LsW (a c lw d:Addr) (w:Wd) (ws:List Wd) (H1:Hp) (i:Nat) (σ:St) (H':Hp):Prop
  | mk (h1_:Same H1 H') (h2_:i ≤ ws.length) (h3_:(∃ kvs,H' d = some (.dK kvs) ∧ kvs.length ≤ i ∧ LastD ws i kvs)) (x5:_) (x6:_) (x7:_) (x8:_) (h4_:σ = [some (.ref a),some (tx w),some (.ref c),some (.ref lw),some (.ref d),x5,x6,x7,x8]):LsW a c lw d w ws H1 i σ H'
theorem ok_short (D:Dfn K mg "shortened" s_shortened ["pairs","word","chain"]) (B:Blt mg) (OA:Ok P w K mg base "words_along" ["pairs","word","chain"] 3 spAlong):Ok P w K mg base "shortened" ["pairs","word","chain"] 4 spShort:=by
  refine D.ok scShort (fun vs H Q E h=>?_) (fun f cdv A outer s H vs Q E hr h=>?_)
  · obtain ⟨a,ps,w,c,ks,u,rfl,_⟩:=h
    rfl
  obtain ⟨a,ps,w,c,ks,u,rfl,hS,hsh,hpl,hw,hks,hkl,hwk,q⟩:=h
  obtain ⟨kv,hkv,hkp⟩:=id hks
  have lkv:=pairLen hkp
  obtain ⟨ws,hal,hlast⟩:=alg_of ks w u hwk
  have hu:=hu_of hr
  refine ⟨_,pss_cons (ps_set (i:=3) scShort.nd rfl (Or.inl rfl) (pe_fn OA hr rfl (pa_cons (pv 0) (pa_cons (pv 1) (pa_cons (pv 2) pa_nil)))))
    (pss_cons (ps_set (i:=4) scShort.nd rfl (Or.inl rfl) pe_dnewK)
    (pss_cons (ps_for PassesOwn.never rfl (pi_enum rfl B.enm (pa_cons (pv 3) pa_nil)) (pg_tup rfl (pgs_cons (pg_name (i:=5) scShort.nd rfl (Or.inl rfl)) (pgs_cons (pg_name (i:=6) scShort.nd rfl (Or.inl rfl)) pgs_nil)))
      (pss_one (ps_dput hu (pv 4) (pv 6) (pv 5) rfl)))
    (pss_cons (ps_set (i:=7) scShort.nd rfl (Or.inl rfl) (pe_lst pa_nil))
    (pss_cons (ps_set (i:=8) scShort.nd rfl (Or.inl rfl) (pe_dget hu (pv 4) (pv 1) (fun _ _=>rfl)))
    (pss_cons (ps_while PassesOwn.never (pt_cmpR op_lt (pv 8) (pe_callB call_len_seq rfl B.len PySem.boot_len (pa_cons (pv 2) pa_nil)) (nomark _))
      (pss_cons (ps_expr (pe_bm PySem.F.plainAttrs_list PySem.F.slot_list_append PySem.F.type_list_append mt_append (pv 7) (pa_cons (pe_ix ix_list (pv 2) (pv 8) (fun _ _=>rfl)) pa_nil)))
      (pss_one (ps_set (i:=8) scShort.nd rfl (Or.inl rfl) (pe_dget hu (pv 4) (pe_ix ix_list (pv 3) (pe_op op_add (pv 8) pe_int) (fun _ _=>rfl)) (fun _ _=>rfl))))))
    (pss_one (ps_ret (pv 7)))))))),?_⟩
  try dsimp only [cxOf,Cx.nox]
  refine ⟨_,rfl,_,rfl,_,rfl,a,ps,w,c,ks,ws,rfl,hS,hsh,hpl,hw,hks,hkl,hal,fun lw H1 hlw s1 hws=>?_⟩
  intro d hd
  have s2:Same H1 (upd H1 d (.dK [])):=same_new hd _
  have hwl:=hal.len
  have ws2:=s2 _ _ hws
  refine ⟨_,rfl,lw,rfl,⟨_,SqL.of ws2⟩,?_⟩
  refine for_enum (K:=K) (xs:=ws.map tx) (LsW a c lw d w ws H1)
    ⟨s2,Nat.zero_le _,⟨[],upd_same,Nat.zero_le _,fun u ⟨i,hi,_⟩=>absurd hi (by lia)⟩,_,_,_,_,rfl⟩ (fun i σ H' _ (.mk s' ..)=>SqL.of (s' _ _ hws)) ?_ ?_
  · rintro i v pe σ H2 hv ⟨s3,hi,⟨kvs,hkvs,hkl2,hLD⟩,x5,x6,x7,x8,rfl⟩ hpe
    rw [List.getElem?_map] at hv
    cases hx:ws[i]? with
    | none=>rw [hx] at hv; cases hv
    | some x =>
      rw [hx] at hv
      cases hv
      have hil:i < ws.length:=(List.getElem?_eq_some_iff.mp hx).1
      have nd:d ≠ pe:=fun z=>by rw [z,hpe] at hkvs; cases hkvs
      have hkvs':upd H2 pe (.tup [.int i,tx x]) d = some (.dK kvs):=by rw [upd_ne nd]; exact hkvs
      refine ⟨pe,_,rfl,SqT.of upd_same,rfl,_,_,rfl,_,_,rfl,rfl,?_⟩
      refine ⟨_,rfl,_,rfl,_,rfl,d,_,rfl,DPut.k (k:=Sum.inr (Sx x)) hkvs' (by rw [sizeLine_eq]; lia),?_⟩
      have s4:Same H1 (upd H2 pe (.tup [.int i,tx x])):=s3.trans (same_new hpe _)
      refine ⟨s4.own hd _,hil,⟨_,upd_same,Nat.le_trans (length_putK _ _ _) (by lia),lastD_put hLD hx⟩,_,_,_,_,rfl⟩
  · rintro σ H2 ⟨s3,hi,⟨kvs,hkvs,hkl2,hLD⟩,x5,x6,x7,x8,rfl⟩
    rw [List.length_map] at hLD
    refine ⟨(by show 0 ≤ sizeLine; decide),fun l hl=>?_⟩
    have ndl:d ≠ l:=fun z=>by rw [z,hl] at hkvs; cases hkvs
    have s4:Same H1 (upd H2 l (.lst [])):=s3.trans (same_new hl _)
    have hkvs4:upd H2 l (.lst []) d = some (.dK kvs):=by rw [upd_ne ndl]; exact hkvs
    have hl1:H1 l = none:=s3.free hl
    have hl0:H l = none:=s1.free hl1
    obtain ⟨m0,hm0,lo0⟩:=hLD w ⟨0,by lia,hal.hd⟩
    refine ⟨_,rfl,_,rfl,d,.int (m0:Int),rfl,?_,?_⟩
    · rw [← hm0]
      exact DGet.k (k:=Sum.inr (Sx w)) hkvs4
    refine ⟨ShW H1 a c lw d l ps w ks ws kvs,⟨_,m0,w,[],_,_,rfl,rfl,s4,hkvs4,⟨[],upd_same,.nil⟩,Nat.zero_le _,rfl,lo0⟩,?_⟩
    rintro μ σ H' ⟨m,x,ks',y5,y6,rfl,rfl,s5,hd5,⟨lv,hlv,hlp⟩,hkl5,hwk5,lo1,lo2,lo3⟩
    have llv:=pairLen hlp
    have hkv5:=(s1.trans s5) _ _ hkv
    refine ⟨_,rfl,_,rfl,c,kv,rfl,.inl (SqL.of hkv5),_,_,rfl,rfl,_,rfl,?_⟩
    refine ite2 (fun hc=>?_) (fun hc=>?_)
    · have hm:m < ks.length:=by
        have:=of_decide_eq_true hc
        lia
      have hkm:ks[m]? = some ks[m]:=List.getElem?_eq_getElem hm
      obtain ⟨x',y,h1,h2,h3⟩:=hal.st m _ hkm
      rw [lo2] at h1
      cases h1
      obtain ⟨v,hv,hvk⟩:=pairGetR hkp hkm
      refine ⟨fun σ' H'=>∃ m',m' < ks.length - m ∧ ShW H1 a c lw d l ps w ks ws kvs m' σ' H',fun _ _ h=>h,?_⟩
      refine ⟨_,rfl,.inl ⟨rfl,_,SqL.of hlv⟩,_,rfl,_,rfl,c,kv,_,_,rfl,rfl,SqL.of hkv5,atI_nat hv,l,_,_,rfl,rfl,hlv,by rw [sizeLine_eq]; lia,?_⟩
      have s6:Same H1 (upd H' l (.lst (lv ++ [v]))):=s5.own hl1 _
      have hd6:upd H' l (.lst (lv ++ [v])) d = some (.dK kvs):=by rw [upd_ne ndl]; exact hd5
      have hws6:=s6 _ _ hws
      obtain ⟨m',hm',lo'⟩:=hLD y ⟨m + 1,by lia,h2⟩
      have hmm:=lo'.2.2 (m + 1) (by lia) h2
      have hat:atI (ws.map tx) ((m:Int) + 1) = some (tx y):=by
        show atI (ws.map tx) (((m + 1:Nat)):Int) = some (tx y)
        exact atI_nat (by rw [List.getElem?_map,h2]; rfl)
      refine ⟨_,rfl,_,rfl,_,rfl,_,_,rfl,rfl,lw,ws.map tx,_,_,rfl,rfl,SqL.of hws6,hat,d,.int (m':Int),rfl,?_,?_⟩
      · rw [← hm']
        exact DGet.k (k:=Sum.inr (Sx y)) hd6
      refine ⟨ks.length - m',by lia,m',y,ks' ++ [ks[m]],_,_,rfl,rfl,s6,hd6,?_,?_,?_,lo'⟩
      · exact ⟨_,upd_same,pairImp (pairApp hlp (.cons (hvk.mono (tups_of (s1.trans s5))) .nil)) fun _ _ z=>z.mono (tups_own hlv)⟩
      · rw [List.length_append,List.length_singleton]; lia
      · rw [wlk_app ps ks' w [ks[m]] x hwk5,wlk_cons h3]; rfl
    · have hm:m = ks.length:=by
        have:¬ (m:Int) < (kv.length:Int):=fun z=>hc (decide_eq_true z)
        lia
      subst hm
      rw [hlast] at lo2
      cases lo2
      exact ⟨_,rfl,q l ks' H' hl0 (s1.trans s5) ⟨lv,hlv,hlp⟩ hkl5 hwk5⟩
end
end Sg
namespace Sg
open PySem L2
theorem dec_tx (a b:Wd):decide (V.str (Sx a) = V.str (Sx b)) = decide (a = b):=by
  rw [Bool.eq_iff_iff,decide_eq_true_iff,decide_eq_true_iff]
  exact ⟨fun z=>Sx_inj (V.str.inj z),fun z=>by rw [z]⟩
inductive spWBeh (vs:List V) (H:Hp) (Q:VK) (E_:XK):Prop
  | mk (a:Addr) (rs:List Rl) (al:Wd) (n:Nat) (v:V) (o:Ov) (h1_:vs = [.ref a,v]) (h2_:RsAt H a rs) (h3_:Good rs al n) (h4_:n ≤ 50) (h5_:OvAt H v o) (h6_:o ∈ overs rs) (h7_:∀ v' H',Same H H' → RlAt H' v' (fo rs o) → Q v' H'):spWBeh vs H Q E_
inductive spClsP (vs:List V) (H:Hp) (Q:VK) (E_:XK):Prop
  | mk (a:Addr) (rs:List Rl) (al:Wd) (n:Nat) (v:V) (o:Ov) (h1_:vs = [.ref a,v]) (h2_:RsAt H a rs) (h3_:Good rs al n) (h4_:n ≤ 50) (h5_:rs.length ≤ 100) (h6_:(∀ u,Over al u → u.length + 1 ≤ 2 * n → rank al u ≤ 4000000)) (h7_:OvAt H v o) (h8_:o ∈ overs rs) (h9_:∀ H',Same H H' → Q (.bl (!decide (nf rs (cl1 rs o) = nf rs (cl2 rs o)))) H'):spClsP vs H Q E_
inductive spClashing (vs:List V) (H:Hp) (Q:VK) (E_:XK):Prop
  | mk (a:Addr) (es:List Eq3) (al:Wd) (n:Nat) (h1_:vs = [.ref a]) (h2_:EsAt H a es) (h3_:Good (rlsE es) al n) (h4_:n ≤ 50) (h5_:es.length ≤ 63) (h6_:(∀ u,Over al u → u.length + 1 ≤ 2 * n → rank al u ≤ 4000000)) (h7_:∀ r H',H r = none → Same H H' → OsAt H' r (clOs (rlsE es)) → Q (.ref r) H'):spClashing vs H Q E_
inductive spEqB (vs:List V) (H:Hp) (Q:VK) (E_:XK):Prop
  | mk (a:Addr) (es:List Eq3) (al:Wd) (n M:Nat) (v:V) (o:Ov) (h1_:vs = [.ref a,v]) (h2_:EsAt H a es) (h3_:Good (rlsE es) al n) (h4_:n ≤ 50) (h5_:es.length ≤ 63) (h6_:OvAt H v o) (h7_:o ∈ overs (rlsE es)) (h8_:(∀ e ∈ es,e.2.2.length ≤ M)) (h9_:M ≤ 1000) (h10_:∀ v' c' H',Same H H' → H c' = none → EqC H' v' (eqO es o) c' → Q v' H'):spEqB vs H Q E_
theorem overs_len (rs:List Rl) (n:Nat) (h:∀ r ∈ rs,r.1.length ≤ n):(overs rs).length ≤ rs.length * (rs.length * n):=by
  unfold overs ovIs
  refine flat_len (fun i=>?_) _
  unfold ovJs
  refine flat_len (fun j=>?_) _
  exact Nat.le_trans (ovPs_len rs i j _) (lens_of h i)
section
variable {P:Program} {w:World} {K:PySem.W.Frag} {mg:Str → Option Value} {base:Heap}
theorem scWBeh:FnScope ["rules","overlap","word"] ["rules","overlap"] (defScope sWBeh):=⟨rfl,rfl,rfl,by decide +kernel,rfl,by decide +kernel,by decide +kernel⟩
theorem ok_wbeh (D:Dfn K mg "words_behind" sWBeh ["rules","overlap"]) (OS:Ok P w K mg base "step" ["rules","word","place","number"] 2 spStep):Ok P w K mg base "words_behind" ["rules","overlap"] 3 spWBeh:=by
  refine D.ok scWBeh (fun vs H Q E h=>?_) (fun f cdv A outer s H vs Q E hr h=>?_)
  · obtain ⟨a,rs,al,n,v,o,rfl,_⟩:=h
    rfl
  obtain ⟨a,rs,al,n,v,o,rfl,hS,hG,hn,⟨t,rfl,ht⟩,ho,q⟩:=h
  refine ⟨_,pss_cons (ps_set (i:=2) scWBeh.nd rfl (Or.inl rfl) (pe_ix ix_tup (pv 1) pe_int (fun _ _=>rfl)))
    (pss_one (ps_ret (pe_tup (pa_cons (pe_fn OS hr rfl (pa_cons (pv 0) (pa_cons (pv 2) (pa_cons pe_int (pa_cons (pe_ix ix_tup (pv 1) pe_int (fun _ _=>rfl)) pa_nil)))))
      (pa_cons (pe_fn OS hr rfl (pa_cons (pv 0) (pa_cons (pv 2) (pa_cons (pe_ix ix_tup (pv 1) pe_int (fun _ _=>rfl)) (pa_cons (pe_ix ix_tup (pv 1) pe_int (fun _ _=>rfl)) pa_nil))))) pa_nil))))),?_⟩
  try dsimp only [cxOf,Cx.nox]
  obtain ⟨h1,h2,h3,x,y,e1,e2,h4,c1,c2⟩:=overs_at ho
  obtain ⟨_,_,_,ov,ol,l1,l2⟩:=overs_word hG ho
  have r1:=bef_len (hG.bf _ (getD_mem h1))
  have r2:=bef_len (hG.bf _ (getD_mem h2))
  have b1:=hG.ln _ (getD_mem h1)
  have b2:=hG.ln _ (getD_mem h2)
  have hll:(o.1.take o.2.2.2).length = o.2.2.2:=by rw [List.length_take]; lia
  have a1:atP o.1 (rs.getD o.2.1 ([],[])).1 0 = true:=by
    rw [atP_iff,List.drop_zero]
    conv=>lhs; rw [e1]
    rw [List.take_left]
  have a2:atP o.1 (rs.getD o.2.2.1 ([],[])).1 o.2.2.2 = true:=by
    rw [atP_iff]
    conv=>lhs; rw [e2,List.append_assoc]
    have:(o.1.take o.2.2.2 ++ ((rs.getD o.2.2.1 ([],[])).1 ++ y)).drop o.2.2.2 = (rs.getD o.2.2.1 ([],[])).1 ++ y:=by
      rw [List.drop_append_of_le_length (by lia),List.drop_eq_nil_of_le (by lia),List.nil_append]
    rw [this,List.take_left]
  refine ⟨_,rfl,t,_,0,_,rfl,rfl,SqT.of ht,rfl,?_⟩
  refine ⟨_,rfl,_,rfl,_,rfl,t,_,1,_,rfl,rfl,SqT.of ht,rfl,a,rs,o.1,0,o.2.1,rfl,hS,h1,by lia,a1,by lia,by lia,by lia,fun H1 s1=>?_⟩
  have ht1:=s1 _ _ ht
  refine ⟨_,rfl,_,rfl,_,rfl,t,_,3,_,rfl,rfl,SqT.of ht1,rfl,_,rfl,t,_,2,_,rfl,rfl,SqT.of ht1,rfl,a,rs,o.1,o.2.2.2,o.2.2.1,rfl,hS.mono s1,h2,by lia,a2,by lia,by lia,by lia,fun H2 s2=>?_⟩
  refine ⟨(by show 2 ≤ sizeLine; decide),fun t2 ht2=>?_⟩
  refine q _ _ (s1.trans (s2.trans (same_new ht2 _))) ⟨t2,rfl,?_⟩
  rw [upd_same]
  have f1:app rs o.1 0 o.2.1 = cl1 rs o:=by
    unfold app cl1
    rw [List.take_zero,List.nil_append,Nat.zero_add]
  have f2:app rs o.1 o.2.2.2 o.2.2.1 = cl2 rs o:=rfl
  rw [f1,f2]
  rfl
theorem scClsP:FnScope ["rules","overlap","words"] ["rules","overlap"] (defScope sClashP):=⟨rfl,rfl,rfl,by decide +kernel,rfl,by decide +kernel,by decide +kernel⟩
theorem ok_clsP (D:Dfn K mg "clashes" sClashP ["rules","overlap"]) (OW:Ok P w K mg base "words_behind" ["rules","overlap"] 3 spWBeh) (OG:Ok P w K mg base "ground" ["rules","word"] 3 spDown):Ok P w K mg base "clashes" ["rules","overlap"] 4 spClsP:=by
  refine D.ok scClsP (fun vs H Q E h=>?_) (fun f cdv A outer s H vs Q E hr h=>?_)
  · obtain ⟨a,rs,al,n,v,o,rfl,_⟩:=h
    rfl
  obtain ⟨a,rs,al,n,v,o,rfl,hS,hG,hn,hl,hrk,hv,ho,q⟩:=h
  refine ⟨_,pss_cons (ps_set (i:=2) scClsP.nd rfl (Or.inl rfl) (pe_fn OW hr rfl (pa_cons (pv 0) (pa_cons (pv 1) pa_nil))))
    (pss_one (ps_ret (pe_cmpR op_ne (pe_ix ix_tup (pe_fn OG hr rfl (pa_cons (pv 0) (pa_cons (pe_ix ix_tup (pv 2) pe_int (fun _ _=>rfl)) pa_nil))) pe_int (fun _ _=>rfl)) (pe_ix ix_tup (pe_fn OG hr rfl (pa_cons (pv 0) (pa_cons (pe_ix ix_tup (pv 2) pe_int (fun _ _=>rfl)) pa_nil))) pe_int (fun _ _=>rfl)) (nomark _)))),?_⟩
  try dsimp only [cxOf,Cx.nox]
  obtain ⟨_,_,_,ov,ol,_,_⟩:=overs_word hG ho
  obtain ⟨o1,o2,l1,l2⟩:=cl_words hG ho
  refine ⟨_,rfl,_,rfl,a,rs,al,n,v,o,rfl,hS,hG,hn,hv,ho,fun v1 H1 s1 ⟨t1,e1,ht1⟩=>?_⟩
  subst e1
  refine ⟨_,rfl,_,rfl,t1,_,0,_,rfl,rfl,SqT.of ht1,rfl,a,rs,al,n,cl1 rs o,rfl,hS.mono s1,hG,by lia,by lia,o1,by lia,hrk _ o1 (by lia),fun t2 k2 f2 ss2 H2 s2 ht2 _ d2 _=>?_⟩
  refine ⟨t2,_,0,_,rfl,rfl,SqT.of ht2,rfl,?_⟩
  have ht1':=s2 _ _ ht1
  refine ⟨_,rfl,_,rfl,t1,_,1,_,rfl,rfl,SqT.of ht1',rfl,a,rs,al,n,cl2 rs o,rfl,(hS.mono s1).mono s2,hG,by lia,by lia,o2,by lia,hrk _ o2 (by lia),fun t3 k3 f3 ss3 H3 s3 ht3 _ d3 _=>?_⟩
  refine ⟨t3,_,0,_,rfl,rfl,SqT.of ht3,rfl,?_⟩
  have q':=q H3 (s1.trans (s2.trans s3))
  rw [nf_of d2,nf_of d3] at q'
  refine ⟨rfl,?_⟩
  rw [dec_tx]
  exact q'
theorem scClg:FnScope ["equations","rules"] ["equations"] (defScope s_clashing):=⟨rfl,rfl,rfl,by decide +kernel,rfl,by decide +kernel,by decide +kernel⟩
theorem ccClg:CompScope (defScope s_clashing) ["equations","rules"] (compSc (zExpr (defBody s_clashing) 1)) ["overlap"] ["rules"] [1]:=⟨rfl,by decide +kernel,by decide +kernel,by decide +kernel,by decide +kernel,rfl,by decide +kernel⟩
theorem ok_clashing (D:Dfn K mg "clashing" s_clashing ["equations"]) (OR:Ok P w K mg base "rules_of" ["equations"] 1 spRulesOf) (OV:Ok P w K mg base "overlaps" ["rules"] 3 spOver) (OC:Ok P w K mg base "clashes" ["rules","overlap"] 4 spClsP):Ok P w K mg base "clashing" ["equations"] 5 spClashing:=by
  refine D.ok scClg (fun vs H Q E h=>?_) (fun f cdv A outer s H vs Q E hr h=>?_)
  · obtain ⟨a,es,al,n,rfl,_⟩:=h
    rfl
  obtain ⟨a,es,al,n,rfl,hE,hG,hn,hl,hrk,q⟩:=h
  have hr1:Room 1 _:=hr.mono (by decide)
  have hr3:Room 3 _:=hr.mono (by decide)
  refine ⟨_,pss_cons (ps_set (i:=1) scClg.nd rfl (Or.inr rfl) (pe_fn OR hr1 rfl (pa_cons (pv 0) pa_nil)))
    (pss_one (ps_ret (pe_comp (g:=gName 0) (tt:=tB (tCall spClsP [] E0 (tCons (tVar 1) (tCons (tVar 0) tNil)))) (te:=tVar 0) rfl ccClg (pi_list (pe_fn OV hr3 rfl (pa_cons (pv 1) pa_nil)))
      (by intro cl C ex s H; exact ⟨pg_name (i:=0) ccClg.nd rfl (.inl rfl),pf_one (pt_val (pe_fn OC hr rfl (pa_cons (pv 1) (pa_cons (pv 0) pa_nil)))),pv 0⟩)))),?_⟩
  try dsimp only [cxOf,Cx.nox]
  refine ⟨_,rfl,a,es,rfl,hE,by lia,fun r H1 _ s1 hR=>?_⟩
  have hlr:(rlsE es).length = es.length:=List.length_map ..
  refine ⟨_,rfl,r,rlsE es,n,rfl,hR,hG.ln,by lia,by lia,fun l H2 s2 ⟨ov,hov,hop⟩=>?_⟩
  have lov:=pairLen hop
  have hR2:=hR.mono s2
  have hovl:(overs (rlsE es)).length ≤ 63 * (63 * 50):=by
    refine Nat.le_trans (overs_len (rlsE es) n hG.ln) ?_
    rw [hlr]
    exact Nat.mul_le_mul hl (Nat.mul_le_mul hl hn)
  refine ⟨l,rfl,⟨_,SqL.of hov⟩,?_⟩
  refine turns_list (K:=K) (xs:=ov) (fun i acc H'=>Same H2 H' ∧ i ≤ ov.length ∧ acc.length ≤ i ∧ Paired (OvAt H') acc (((overs (rlsE es)).take i).filter fun o=>!decide (nf (rlsE es) (cl1 (rlsE es) o) = nf (rlsE es) (cl2 (rlsE es) o))))
    ⟨Same.refl _,Nat.zero_le _,Nat.le_refl _,.nil⟩ (fun i acc H' ⟨_,_,hi,_⟩=>hi) (by rw [sizeLine_eq]; lia) (fun i acc H' ⟨s',_,_⟩=>SqL.of (s' _ _ hov)) (fun i acc H' v hv ⟨s',hi,hal,hacc⟩=>?_) (fun acc H' ⟨s',_,_,hacc⟩ p hp=>?_)
  · obtain ⟨o,ho,hvo⟩:=pairGetL hop hv
    have hil:i < ov.length:=(List.getElem?_eq_some_iff.mp hv).1
    refine ⟨rfl,?_⟩
    refine ⟨_,rfl,_,rfl,r,rlsE es,al,n,v,o,rfl,hR2.mono s',hG,hn,by lia,hrk,hvo.mono (tups_of s'),List.mem_of_getElem? ho,fun H3 s3=>⟨_,rfl,?_⟩⟩
    rw [List.take_add_one,ho,Option.toList_some,List.filter_append,List.filter_cons]
    refine ite2 (fun c=>?_) (fun c=>?_)
    · refine ⟨_,rfl,s'.trans s3,by lia,by rw [List.length_append,List.length_singleton]; lia,?_⟩
      rw [if_pos c]
      exact pairApp (pairImp hacc fun _ _ z=>z.mono (tups_of s3)) (.cons (hvo.mono (tups_of (s'.trans s3))) .nil)
    · refine ⟨s'.trans s3,by lia,by lia,?_⟩
      rw [if_neg c,List.filter_nil,List.append_nil]
      exact pairImp hacc fun _ _ z=>z.mono (tups_of s3)
  · rw [lov,List.take_length] at hacc
    have st:=s1.trans (s2.trans s')
    exact q p _ (st.free hp) (st.trans (same_new hp _)) ⟨acc,upd_same,pairImp hacc fun _ _ z=>z.mono (tups_of (same_new hp _))⟩
theorem scEqB:FnScope ["equations","overlap","words","back","on"] ["equations","overlap"] (defScope s_equation_behind):=⟨rfl,rfl,rfl,by decide +kernel,rfl,by decide +kernel,by decide +kernel⟩
theorem es_get {H:Hp} {es:List Eq3} {ev:List V} (hp:Paired (EqAt3 H) ev es) {i:Nat} (hi:i < es.length):∃ t c,ev[i]? = some (.ref t) ∧ H t = some (.tup [tx (es.getD i ([],[],[])).1,tx (es.getD i ([],[],[])).2.1,.ref c]) ∧ LsAt H c (es.getD i ([],[],[])).2.2 ∧ es.getD i ([],[],[]) ∈ es:=by
  have he:es[i]? = some es[i]:=List.getElem?_eq_getElem hi
  obtain ⟨v,hv,t,c,rfl,ht,hc⟩:=pairGetR hp he
  have eg:es.getD i ([],[],[]) = es[i]:=by rw [List.getD_eq_getElem?_getD,he]; rfl
  rw [eg]
  exact ⟨t,c,hv,ht,hc,List.getElem_mem hi⟩
theorem ok_eqB (D:Dfn K mg "equation_behind" s_equation_behind ["equations","overlap"]) (OW:Ok P w K mg base "words_behind" ["rules","overlap"] 3 spWBeh) (OR:Ok P w K mg base "rules_of" ["equations"] 1 spRulesOf) (OT:Ok P w K mg base "turned" ["chain"] 1 spTurned)
    (OM:Ok P w K mg base "moved" ["chain","places"] 1 spMoved):Ok P w K mg base "equation_behind" ["equations","overlap"] 4 spEqB:=by
  refine D.ok scEqB (fun vs H Q E h=>?_) (fun f cdv A outer s H vs Q E hr h=>?_)
  · obtain ⟨a,es,al,n,M,v,o,rfl,_⟩:=h
    rfl
  obtain ⟨a,es,al,n,M,v,o,rfl,hE,hG,hn,hl,⟨t,rfl,ht⟩,ho,hM,hM6,q⟩:=h
  have hr1:Room 1 _:=hr.mono (by decide)
  refine ⟨_,pss_cons (ps_set (i:=2) scEqB.nd rfl (Or.inl rfl) (pe_fn OW hr rfl (pa_cons (pe_fn OR hr1 rfl (pa_cons (pv 0) pa_nil)) (pa_cons (pv 1) pa_nil))))
    (pss_cons (ps_set (i:=3) scEqB.nd rfl (Or.inl rfl) (pe_fn OT hr1 rfl (pa_cons (pe_ix ix_tup (pe_ix ix_list (pv 0) (pe_ix ix_tup (pv 1) pe_int (fun _ _=>rfl)) (fun _ _=>rfl)) pe_int (fun _ _=>rfl)) pa_nil)))
    (pss_cons (ps_set (i:=4) scEqB.nd rfl (Or.inl rfl) (pe_fn OM hr1 rfl (pa_cons (pe_ix ix_tup (pe_ix ix_list (pv 0) (pe_ix ix_tup (pv 1) pe_int (fun _ _=>rfl)) (fun _ _=>rfl)) pe_int (fun _ _=>rfl)) (pa_cons (pe_ix ix_tup (pv 1) pe_int (fun _ _=>rfl)) pa_nil))))
    (pss_one (ps_ret (pe_tup (pa_cons (pe_ix ix_tup (pv 2) pe_int (fun _ _=>rfl)) (pa_cons (pe_ix ix_tup (pv 2) pe_int (fun _ _=>rfl)) (pa_cons (pe_op op_catR (pv 3) (pv 4)) pa_nil)))))))),?_⟩
  try dsimp only [cxOf,Cx.nox]
  obtain ⟨h1,h2,_⟩:=overs_at ho
  have hlr:(rlsE es).length = es.length:=List.length_map ..
  rw [hlr] at h1 h2
  refine ⟨_,rfl,a,es,rfl,hE,by lia,fun r H1 _ s1 hR=>?_⟩
  refine ⟨_,rfl,r,rlsE es,al,n,_,o,rfl,hR,hG,hn,⟨t,rfl,s1 _ _ ht⟩,ho,fun v2 H2 s2 ⟨t2,e2,ht2⟩=>?_⟩
  subst e2
  have st2:=s1.trans s2
  have ht':=st2 _ _ ht
  obtain ⟨ev,hev,hep⟩:=hE.mono st2
  obtain ⟨ti,ci,hvi,hti,hci,mi⟩:=es_get hep h1
  obtain ⟨tj,cj,hvj,htj,hcj,mj⟩:=es_get hep h2
  have m1:=hM _ mi
  have m2:=hM _ mj
  refine ⟨_,rfl,_,rfl,t,_,1,_,rfl,rfl,SqT.of ht',rfl,a,ev,_,_,rfl,rfl,SqL.of hev,atI_nat hvi,ti,_,2,_,rfl,rfl,SqT.of hti,rfl,ci,_,rfl,hci,by lia,fun k3 H3 hk3 s3 htr=>?_⟩
  have ht3:=s3 _ _ ht'
  refine ⟨_,rfl,_,rfl,t,_,2,_,rfl,rfl,SqT.of ht3,rfl,a,ev,_,_,rfl,rfl,SqL.of (s3 _ _ hev),atI_nat hvj,tj,_,2,_,rfl,rfl,SqT.of (s3 _ _ htj),rfl,_,rfl,t,_,3,_,rfl,rfl,SqT.of ht3,rfl,cj,_,_,rfl,hcj.mono s3,by lia,fun k4 H4 hk4 s4 hmv=>?_⟩
  have ht24:=s4 _ _ (s3 _ _ ht2)
  obtain ⟨v3,hv3,hp3⟩:=htr.mono s4
  obtain ⟨v4,hv4,hp4⟩:=hmv
  have l3:=pairLen hp3
  have l4:=pairLen hp4
  have e3:(trn (es.getD o.2.1 ([],[],[])).2.2).length = (es.getD o.2.1 ([],[],[])).2.2.length:=trn_len _
  have e4:(mvd (es.getD o.2.2.1 ([],[],[])).2.2 ((o.2.2.2:Nat):Int)).length = (es.getD o.2.2.1 ([],[],[])).2.2.length:=by unfold mvd; rw [List.length_map]
  refine ⟨_,rfl,t2,_,0,_,rfl,rfl,SqT.of ht24,rfl,_,rfl,t2,_,1,_,rfl,rfl,SqT.of ht24,rfl,_,rfl,_,rfl,k3,k4,v3,v4,rfl,rfl,SqL.of hv3,SqL.of hv4,by rw [sizeLine_eq]; lia,fun k5 hk5=>?_⟩
  have s5:=same_new hk5 (.lst (v3 ++ v4))
  refine ⟨(by show 3 ≤ sizeLine; decide),fun t6 ht6=>?_⟩
  have st:=st2.trans (s3.trans s4)
  have s6:=same_new ht6 (.tup [tx (fo (rlsE es) o).1,tx (fo (rlsE es) o).2,.ref k5])
  exact q (.ref t6) k5 _ (st.trans (s5.trans s6)) (st.free hk5) ⟨t6,rfl,upd_same,v3 ++ v4,s6 _ _ upd_same,pairImp (pairApp hp3 hp4) fun _ _ z=>z.mono (tups_of (s5.trans s6))⟩
end
end Sg
namespace Sg
open PySem L2
inductive spSetS (vs:List V) (H:Hp) (Q:VK) (E_:XK):Prop
  | mk (a:Addr) (ps:List Rl) (e:Addr) (es:List Eq3) (al:Wd) (n M:Nat) (rs:List Rl) (Mo:Nat) (h1_:vs = [.ref a,.ref e]) (h2_:RsAt H a ps) (h3_:Sh ps) (h4_:ps.length ≤ 100) (h5_:EsAt H e es) (h6_:Inc al) (h7_:(∀ x ∈ es,Wok al n (rlE x))) (h8_:n ≤ 50) (h9_:es.length < 64) (h10_:(∀ u,Over al u → u.length ≤ n → rank al u ≤ 4000000)) (h11_:1 ≤ M) (h12_:M ≤ 400000) (h13_:(∀ x ∈ es,x.2.2.length ≤ M)) (h14_:SetM M (rlsE es) rs Mo) (h15_:Mo ≤ 1000) (h16_:(∀ x ∈ es,Shows ps x)) (h17_:∀ r es' H',H r = none → Same H H' → EsAt H' r es' → rlsE es' = rs → Good rs al n → es'.length ≤ es.length → (∀ x ∈ es',x.2.2.length ≤ Mo) → (∀ x ∈ es',Shows ps x) → Q (.ref r) H'):spSetS vs H Q E_
inductive spRD (vs:List V) (H:Hp) (Q:VK) (E_:XK):Prop
  | mk (a:Addr) (ps:List Rl) (al:Wd) (k k0:Nat) (rs:List Rl) (Mo:Nat) (h1_:vs = [.ref a,.int (k:Int)]) (h2_:RsAt H a ps) (h3_:Sh ps) (h4_:Inc al) (h5_:(∀ r ∈ ps,Wok al 3 r)) (h6_:k0 ≤ 2) (h7_:cc ps.length k0 < 64) (h8_:(∀ u,Over al u → u.length + 1 ≤ 2 * nn k0 → rank al u ≤ 4000000)) (h9_:RndM ps k0 rs Mo) (h10_:(k = k0 ∨ (k0 ≤ k ∧ clashes rs = []))) (h11_:∀ t e es H',Same H H' → H' t = some (.tup [.bl (decide (clashes rs = [])),.ref e]) → EsAt H' e es → rlsE es = rs → Good rs al (nn k0) → es.length ≤ 63 → (∀ x ∈ es,x.2.2.length ≤ Mo) → (∀ x ∈ es,Shows ps x) → Q (.ref t) H'):spRD vs H Q E_
theorem eqs0_rls (ps:List Rl):rlsE (eqs0 ps) = ps:=by
  unfold rlsE eqs0
  rw [List.map_map]
  apply List.ext_getElem?
  intro i
  rw [List.getElem?_map]
  by_cases hi:i < ps.length
  · rw [List.getElem?_range hi,List.getElem?_eq_getElem hi]
    show some ((ps.getD i ([],[])).1,(ps.getD i ([],[])).2) = _
    rw [List.getD_eq_getElem?_getD,List.getElem?_eq_getElem hi]
    rfl
  · rw [List.getElem?_eq_none (by rw [List.length_range]; lia),List.getElem?_eq_none (by lia)]
    rfl
theorem eqs0_one (ps:List Rl):∀ e ∈ eqs0 ps,e.2.2.length ≤ 1:=fun e he=>by
  unfold eqs0 at he
  obtain ⟨i,_,rfl⟩:=List.mem_map.mp he
  exact Nat.le_refl _
theorem eqs0_len (ps:List Rl):(eqs0 ps).length = ps.length:=by unfold eqs0; rw [List.length_map,List.length_range]
theorem rlsE_len (es:List Eq3):(rlsE es).length = es.length:=List.length_map ..
theorem rlsE_mem {es:List Eq3} {x:Eq3} (h:x ∈ es):rlE x ∈ rlsE es:=List.mem_map.mpr ⟨x,h,rfl⟩
theorem SetM.pos {M Mo:Nat} {ps rs:List Rl} (h:SetM M ps rs Mo) (_:1 ≤ M):1 ≤ Mo:=by
  obtain ⟨j,out,Mf,s,h1,_⟩:=h
  exact Nat.le_trans s.le h1
inductive StW (ps:List Rl) (es':List Eq3) (ev:List V) (Mo:Nat) (H1:Hp) (i:Nat) (acc:List V) (H':Hp):Prop
  | mk (h1_:Same H1 H') (h2_:i ≤ ev.length) (es2:_) (h3_:es2.length = i) (h4_:Paired (EqAt3 H') acc es2) (h5_:rlsE es2 = (rlsE es').take i) (h6_:(∀ x ∈ es2,x.2.2.length ≤ Mo)) (h7_:∀ x ∈ es2,Shows ps x):StW ps es' ev Mo H1 i acc H'
section
variable {P:Program} {w:World} {K:PySem.W.Frag} {mg:Str → Option Value} {base:Heap}
theorem scSetS:FnScope ["pairs","equations"] ["pairs","equations"] (defScope s_settled_shortly):=⟨rfl,rfl,rfl,by decide +kernel,rfl,by decide +kernel,by decide +kernel⟩
theorem ccSetS:CompScope (defScope s_settled_shortly) ["pairs","equations"] (compSc (retE (defBody s_settled_shortly))) ["rule"] ["pairs"] [0]:=⟨rfl,by decide +kernel,by decide +kernel,by decide +kernel,by decide +kernel,rfl,by decide +kernel⟩
theorem ok_setS (D:Dfn K mg "settled_shortly" s_settled_shortly ["pairs","equations"]) (OS:Ok P w K mg base "settled" ["equations"] 6 spSettledP) (OH:Ok P w K mg base "shortened" ["pairs","word","chain"] 4 spShort):Ok P w K mg base "settled_shortly" ["pairs","equations"] 7 spSetS:=by
  refine D.ok scSetS (fun vs H Q E h=>?_) (fun f cdv A outer s H vs Q E hr h=>?_)
  · obtain ⟨a,ps,e,es,al,n,M,rs,Mo,rfl,_⟩:=h
    rfl
  obtain ⟨a,ps,e,es,al,n,M,rs,Mo,rfl,hS,hsh,hpl,hE,hInc,hok,hn,hel,hrk,hM1,hM4,hM,⟨j,out,Mf,hst,hMf,hrt,hrs⟩,hMo,hshw,q⟩:=h
  subst hrs
  have hr4:Room 4 _:=hr.mono (by decide)
  refine ⟨_,pss_one (ps_ret (pe_comp (g:=gName 0) (tt:=tNoTest) (te:=tTup (tCons (tOp (rIxT K) (tVar 0) (tC (.int 0))) (tCons (tOp (rIxT K) (tVar 0) (tC (.int 1))) (tCons (tCall spShort [] E0 (tCons (tVar 1) (tCons (tOp (rIxT K) (tVar 0) (tC (.int 0))) (tCons (tOp (rIxT K) (tVar 0) (tC (.int 2))) tNil)))) tNil)))) rfl ccSetS (pi_list (pe_fn OS hr rfl (pa_cons (pv 1) pa_nil)))
    (by intro cl C ex s H; exact ⟨pg_name (i:=0) ccSetS.nd rfl (.inl rfl),pf_nil,pe_tup (pa_cons (pe_ix ix_tup (pv 0) pe_int (fun _ _=>rfl)) (pa_cons (pe_ix ix_tup (pv 0) pe_int (fun _ _=>rfl)) (pa_cons (pe_fn OH hr4 rfl (pa_cons (pv 1) (pa_cons (pe_ix ix_tup (pv 0) pe_int (fun _ _=>rfl)) (pa_cons (pe_ix ix_tup (pv 0) pe_int (fun _ _=>rfl)) pa_nil)))) pa_nil)))⟩))),?_⟩
  try dsimp only [cxOf,Cx.nox]
  refine ⟨_,rfl,e,es,al,n,M,j,out,Mf,Mo,rfl,hE,hInc,hok,hn,hel,hrk,hM1,hM,hst,hM4,by lia,by lia,hrt,fun r es' H1 _ s1 hE1 hrl hG hl hM' hsh'=>?_⟩
  obtain ⟨ev,hev,hep⟩:=id hE1
  have lev:=pairLen hep
  have hshe:=hsh' ps hshw
  refine ⟨r,rfl,⟨_,SqL.of hev⟩,?_⟩
  refine turns_list (K:=K) (xs:=ev) (StW ps es' ev Mo H1)
    ⟨Same.refl _,Nat.zero_le _,[],rfl,.nil,rfl,(fun _ z=>by cases z),(fun _ z=>by cases z)⟩ (fun i acc H' (.mk _ _ es2 hl2 hp2 ..)=>by rw [pairLen hp2]; lia) (small1000 (by lia)) (fun i acc H' (.mk s' _ ..)=>SqL.of (s' _ _ hev)) (fun i acc H' v hv ⟨s',hi,es2,hl2,hp2,hr2,hm2,hs2⟩=>?_) (fun acc H' ⟨s',_,es2,hl2,hp2,hr2,hm2,hs2⟩ p hp=>?_)
  · obtain ⟨x,hx,t,c,rfl,ht,hc⟩:=pairGetL hep hv
    have hil:i < es'.length:=(List.getElem?_eq_some_iff.mp hx).1
    have hmx:=List.mem_of_getElem? hx
    have hM2:=hM' x hmx
    have ht':=s' _ _ ht
    have hg:=hG.wok (rlsE_mem hmx)
    have hl1:x.1.length ≤ n:=hg.2.2.1
    refine ⟨rfl,noTest ?_⟩
    refine ⟨_,rfl,t,_,0,_,rfl,rfl,SqT.of ht',rfl,_,rfl,t,_,1,_,rfl,rfl,SqT.of ht',rfl,_,rfl,_,rfl,t,_,0,_,rfl,rfl,SqT.of ht',rfl,_,rfl,t,_,2,_,rfl,rfl,SqT.of ht',rfl,a,ps,x.1,c,x.2.2,x.2.1,rfl,(hS.mono s1).mono s',hsh,hpl,by lia,hc.mono s',by lia,hshe x hmx,fun k ks' H3 hk s3 hks hkl hwk=>?_⟩
    refine ⟨(by show 3 ≤ sizeLine; decide),fun t4 ht4=>?_⟩
    have s4:=same_new ht4 (.tup [tx x.1,tx x.2.1,.ref k])
    refine ⟨s'.trans (s3.trans s4),by lia,es2 ++ [(x.1,x.2.1,ks')],by rw [List.length_append,hl2]; rfl,pairApp (pairImp hp2 fun _ _ z=>z.mono (s3.trans s4)) (.cons ⟨t4,k,rfl,upd_same,hks.mono s4⟩ .nil),?_,fun y hy=>?_,fun y hy=>?_⟩
    · have e1:rlsE (es2 ++ [(x.1,x.2.1,ks')]) = rlsE es2 ++ [rlE x]:=List.map_append ..
      have e2:(rlsE es')[i]? = some (rlE x):=by unfold rlsE; rw [List.getElem?_map,hx]; rfl
      rw [e1,hr2,List.take_add_one,e2]
      rfl
    · rcases List.mem_append.mp hy with z | z
      · exact hm2 y z
      · rw [List.mem_singleton.mp z]; show ks'.length ≤ Mo; lia
    · rcases List.mem_append.mp hy with z | z
      · exact hs2 y z
      · rw [List.mem_singleton.mp z]; exact hwk
  · have e1:(rlsE es').take ev.length = rlsE es':=List.take_of_length_le (by rw [rlsE_len]; lia)
    rw [e1,hrl] at hr2
    rw [hrl] at hG
    have st:=s1.trans s'
    exact q p es2 _ (st.free hp) (st.trans (same_new hp _)) ⟨acc,upd_same,pairImp hp2 fun _ _ z=>z.mono (same_new hp _)⟩ hr2 hG (by lia) hm2 hs2
theorem scRD:FnScope ["pairs","rounds","equations","found","count","added"] ["pairs","rounds"] (defScope s_rounds_done):=⟨rfl,rfl,rfl,by decide +kernel,rfl,by decide +kernel,by decide +kernel⟩
def rdB:List Stmt → Nat → List Stmt
  | st,i=>match st.getD i (.Pass ⟨0,0,0,0⟩) with
    | .While _ b _ _=>b
    | _=>[]
theorem ccRD:CompScope (defScope s_rounds_done) ["pairs","rounds","equations","found","count","added"] (compSc (asgE (rdB (defBody s_rounds_done) 3) 0)) ["overlap"] ["equations"] [2]:=⟨rfl,by decide +kernel,by decide +kernel,by decide +kernel,by decide +kernel,rfl,by decide +kernel⟩
inductive RdW (H0:Hp) (a:Addr) (ps:List Rl) (al:Wd) (k k0:Nat) (rs:List Rl) (Mo:Nat) (μ:Nat) (σ:St) (H:Hp):Prop
  | mk (i:Nat) (e fo:Addr) (es:List Eq3) (M:Nat) (x5:Option V) (h1_:μ = k0 - i) (h2_:σ = [some (.ref a),some (.int (k:Int)),some (.ref e),some (.ref fo),some (.int (i:Int)),x5]) (h3_:Same H0 H) (h4_:i ≤ k0) (h5_:EsAt H e es) (h6_:OsAt H fo (clOs (rlsE es))) (h7_:Good (rlsE es) al (nn i)) (h8_:es.length ≤ cc ps.length i) (h9_:1 ≤ M) (h10_:M ≤ 1000) (h11_:(∀ x ∈ es,x.2.2.length ≤ M)) (h12_:(∀ x ∈ es,Shows ps x)) (h13_:Go (k0 - i) (rlsE es) M rs Mo):RdW H0 a ps al k k0 rs Mo μ σ H
theorem clOs_nil {rs:List Rl}:clOs rs = [] ↔ clashes rs = []:=by rw [clOs_map,List.map_eq_nil_iff]
theorem ok_rd (D:Dfn K mg "rounds_done" s_rounds_done ["pairs","rounds"]) (OS:Ok P w K mg base "settled_shortly" ["pairs","equations"] 7 spSetS) (OE:Ok P w K mg base "equations_of" ["pairs"] 1 spEqsOf) (OC:Ok P w K mg base "clashing" ["equations"] 5 spClashing) (OB:Ok P w K mg base "equation_behind" ["equations","overlap"] 4 spEqB) :
    Ok P w K mg base "rounds_done" ["pairs","rounds"] 8 spRD:=by
  refine D.ok scRD (fun vs H Q E h=>?_) (fun f cdv A outer s H vs Q E hr h=>?_)
  · obtain ⟨a,ps,al,k,k0,rs,Mo,rfl,_⟩:=h
    rfl
  obtain ⟨a,ps,al,k,k0,rs,Mo,rfl,hS,hsh,hInc,hok,hk0,hcc,hrk,⟨rs0,M0,hset,hM0,hgo⟩,hk,q⟩:=h
  have hr1:Room 1 _:=hr.mono (by decide)
  have hr4:Room 4 _:=hr.mono (by decide)
  have hr5:Room 5 _:=hr.mono (by decide)
  refine ⟨_,pss_cons (ps_set (i:=2) scRD.nd rfl (Or.inr rfl) (pe_fn OS hr rfl (pa_cons (pv 0) (pa_cons (pe_fn OE hr1 rfl (pa_cons (pv 0) pa_nil)) pa_nil))))
    (pss_cons (ps_set (i:=3) scRD.nd rfl (Or.inl rfl) (pe_fn OC hr5 rfl (pa_cons (pv 2) pa_nil)))
    (pss_cons (ps_set (i:=4) scRD.nd rfl (Or.inl rfl) pe_int)
    (pss_cons (ps_while PassesOwn.never (PW.pt (pw_and (pt_truth (pv 3) (fun _=>rfl)) (pw_and1 (pt_cmpR op_lt (pv 4) (pv 1) (nomark _)))))
      (pss_cons (ps_comp (i:=5) (g:=gName 0) (tt:=tNoTest) (te:=tCall spEqB [] E0 (tCons (tVar 1) (tCons (tVar 0) tNil))) rfl ccRD (pi_list (pv 3)) (by intro cl C ex s H; exact ⟨pg_name (i:=0) ccRD.nd rfl (.inl rfl),pf_nil,pe_fn OB hr4 rfl (pa_cons (pv 1) (pa_cons (pv 0) pa_nil))⟩) scRD.nd rfl rfl)
      (pss_cons (ps_set (i:=2) scRD.nd rfl (Or.inr rfl) (pe_fn OS hr rfl (pa_cons (pv 0) (pa_cons (pe_op op_catR (pv 2) (pv 5)) pa_nil))))
      (pss_cons (ps_set (i:=3) scRD.nd rfl (Or.inl rfl) (pe_fn OC hr5 rfl (pa_cons (pv 2) pa_nil)))
      (pss_one (ps_aug (i:=4) scRD.nd rfl (Or.inl rfl) pe_int ip_add))))))
    (pss_one (ps_ret (pe_tup (pa_cons (pe_notT (pv 3)) (pa_cons (pv 2) pa_nil)))))))),?_⟩
  try dsimp only [cxOf,Cx.nox]
  have c0:cc ps.length 0 ≤ cc ps.length k0:=cc_le _ (Nat.zero_le _)
  have ec0:cc ps.length 0 = ps.length:=rfl
  have n0:nn 0 ≤ nn k0:=nn_le (Nat.zero_le _)
  have nk:nn k0 ≤ nn 2:=nn_le hk0
  have e2:nn 2 = 9:=by decide
  have e0:nn 0 = 3:=by decide
  refine ⟨_,rfl,_,rfl,a,ps,rfl,hS,by lia,fun r0 H1 _ s1 hE0=>?_⟩
  refine ⟨a,ps,r0,eqs0 ps,al,3,1,rs0,M0,rfl,hS.mono s1,hsh,by lia,hE0,hInc,fun x hx=>hok _ (by rw [← eqs0_rls ps]; exact rlsE_mem hx),by decide,by rw [eqs0_len]; lia,fun u hu hl=>hrk u hu (by lia),Nat.le_refl _,(by decide),eqs0_one ps,by rw [eqs0_rls]; exact hset,hM0,eqs0_shows,fun e es H2 _ s2 hE hrl hG hl hM hshw=>?_⟩
  rw [eqs0_len] at hl
  subst hrl
  refine ⟨_,rfl,e,es,al,3,rfl,hE,hG,by decide,by lia,fun u hu hl=>hrk u hu (by lia),fun fo' H3 _ s3 hF=>?_⟩
  have st3:=s1.trans (s2.trans s3)
  refine ⟨RdW H a ps al k k0 rs Mo,⟨_,0,e,fo',es,M0,_,rfl,rfl,st3,Nat.zero_le _,hE.mono s3,hF,hG,hl,hset.pos (Nat.le_refl _),hM0,hM,hshw,hgo⟩,?_⟩
  clear hE hF hG hl hM hshw hgo hset hM0 st3
  rintro μ σ H4 ⟨i,e,fo',es,M,x5,rfl,rfl,st,hi,hE,hF,hG,hl,hM1,hM6,hM,hshw,hgo⟩
  obtain ⟨fv,hfv,hfp⟩:=id hF
  have lfv:=pairLen hfp
  have m1:=cc_le ps.length hi
  have m3:=nn_le hi
  have m6:3 ≤ nn i:=Nat.le_trans (Nat.le_of_eq e0.symm) (nn_le (Nat.zero_le _))
  have hlr:=rlsE_len es
  have stop:∀ (H5:Hp),Same H4 H5 → Go (k0 - i) (rlsE es) M rs Mo → (clOs (rlsE es) = [] ∨ k ≤ i) → tTup (tCons (tNotT K (tVar 3)) (tCons (tVar 2) tNil)) [some (.ref a),some (.int (k:Int)),some (.ref e),some (.ref fo'),some (.int (i:Int)),x5] H5 Q:=fun H5 s5 g hc=>by
    have hend:rs = rlsE es ∧ Mo = M:=by
      rcases hc with hc | hc
      · have hc':=clOs_nil.mp hc
        generalize k0 - i = dd at g
        cases g with
        | zero=>exact ⟨rfl,rfl⟩
        | stay=>exact ⟨rfl,rfl⟩
        | step h1 _ _ _=>exact absurd hc' h1
      · have hik:k0 - i = 0:=by
          rcases hk with z | z
          · lia
          · lia
        rw [hik] at g
        cases g
        exact ⟨rfl,rfl⟩
    obtain ⟨rfl,rfl⟩:=hend
    refine ⟨_,rfl,_,.inl ⟨fv,SqL.of (s5 _ _ hfv),rfl⟩,_,rfl,(by show 2 ≤ sizeLine; decide),fun t ht=>?_⟩
    have s6:=same_new ht (.tup [.bl (!!fv.isEmpty),.ref e])
    refine q t e es _ (st.trans (s5.trans s6)) ?_ (hE.mono (s5.trans s6)) rfl (hG.wide m3) (by lia) hM hshw
    rw [upd_same]
    have eb:(!!fv.isEmpty) = decide (clashes (rlsE es) = []):=by
      rw [Bool.not_not,Bool.eq_iff_iff,decide_eq_true_iff,← clOs_nil,List.isEmpty_iff]
      exact ⟨fun z=>List.length_eq_zero_iff.mp (by rw [← lfv,z]; rfl),fun z=>List.length_eq_zero_iff.mp (by rw [lfv,z]; rfl)⟩
    rw [eb]
  refine ⟨_,rfl,_,.inl ⟨fv,SqL.of hfv,rfl⟩,?_⟩
  cases hfe:fv.isEmpty with
  | true =>
    refine iteF (iteF ?_)
    exact stop H4 (Same.refl _) hgo (.inl (List.length_eq_zero_iff.mp (by rw [← lfv,List.isEmpty_iff.mp hfe]; rfl)))
  | false =>
    refine iteT ?_
    refine ⟨_,rfl,_,rfl,_,_,rfl,rfl,_,rfl,?_⟩
    refine ite2 (fun hc=>?_) (fun hc=>?_)
    · have hik:i < k:=by
        have:=of_decide_eq_true hc
        lia
      have hne:clashes (rlsE es) ≠ []:=fun z=>by
        have:=clOs_nil.mpr z
        rw [this] at lfv
        rw [List.length_eq_zero_iff.mp lfv] at hfe
        cases hfe
      refine ⟨fun σ' H'=>∃ m',m' < k0 - i ∧ RdW H a ps al k k0 rs Mo m' σ' H',fun _ _ h=>h,?_⟩
      obtain ⟨d,hd,rs1,M1,hset,hM16,hgo1⟩:∃ d,k0 - i = d + 1 ∧ ∃ rs1 M1,SetM (2 * M) (rlsE es ++ clashes (rlsE es)) rs1 M1 ∧ M1 ≤ 1000 ∧ Go d rs1 M1 rs Mo:=by
        generalize hdd:k0 - i = dd at hgo
        cases hgo with
        | zero =>
          rcases hk with z | z
          · lia
          · exact absurd z.2 hne
        | stay d' _ h=>exact absurd h hne
        | step h1 h2 h3 h4=>exact ⟨_,rfl,_,_,h2,h3,h4⟩
      have m2:=cc_le ps.length (show i + 1 ≤ k0 by lia)
      have m3':=nn_le (show i + 1 ≤ k0 by lia)
      have m4:=clashes_less hG
      have m5:=nn_succ i
      rw [hlr] at m4
      have mm:es.length + es.length * (es.length * nn i - 1) ≤ cc ps.length (i + 1):=by
        show _ ≤ cc ps.length i + cc ps.length i * (cc ps.length i * nn i - 1)
        exact Nat.add_le_add hl (Nat.mul_le_mul hl (Nat.sub_le_sub_right (Nat.mul_le_mul_right _ hl) 1))
      have hcl:(clOs (rlsE es)).length = (clashes (rlsE es)).length:=by rw [clOs_map,List.length_map]
      obtain ⟨ev,hev,hep⟩:=id hE
      have lev:=pairLen hep
      refine ⟨_,rfl,fo',rfl,⟨_,SqL.of hfv⟩,?_⟩
      refine turns_list (K:=K) (xs:=fv) (fun j acc H'=>Same H4 H' ∧ j ≤ fv.length ∧ acc.length ≤ j ∧ Paired (EqAt3 H') acc (((clOs (rlsE es)).take j).map (eqO es)))
        ⟨Same.refl _,Nat.zero_le _,Nat.le_refl _,.nil⟩ (fun j acc H' ⟨_,_,h,_⟩=>h) (small1000 (by lia)) (fun j acc H' ⟨s',_,_⟩=>SqL.of (s' _ _ hfv)) (fun j acc H' v hv ⟨s',hj,hal,hacc⟩=>?_) (fun acc H' ⟨s',_,hal,hacc⟩ ad had=>?_)
      · obtain ⟨o,ho,hvo⟩:=pairGetL hfp hv
        have hjl:j < fv.length:=(List.getElem?_eq_some_iff.mp hv).1
        refine ⟨rfl,noTest ?_⟩
        refine ⟨_,rfl,_,rfl,e,es,al,nn i,M,v,o,rfl,hE.mono s',hG,by lia,by lia,hvo.mono (tups_of s'),clOs_mem (List.mem_of_getElem? ho),hM,hM6,fun v' c' H5 s5 _ ⟨t5,e51,e52,e53⟩=>?_⟩
        refine ⟨s'.trans s5,by lia,by rw [List.length_append,List.length_singleton]; lia,?_⟩
        rw [List.take_add_one,ho,Option.toList_some,List.map_append]
        exact pairApp (pairImp hacc fun _ _ z=>z.mono s5) (.cons ⟨t5,c',e51,e52,e53⟩ .nil)
      · have hacc':Paired (EqAt3 H') acc ((clOs (rlsE es)).map (eqO es)):=by
          rw [lfv,List.take_length] at hacc
          exact hacc
        have lacc:=pairLen hacc'
        rw [List.length_map,hcl] at lacc
        have sa:=same_new had (.lst acc)
        have had5:upd H' ad (.lst acc) ad = some (.lst acc):=upd_same
        have hev5:=sa _ _ (s' _ _ hev)
        have hS5:=((hS.mono st).mono s').mono sa
        have hep5:Paired (EqAt3 (upd H' ad (.lst acc))) ev es:=pairImp hep fun _ _ z=>(z.mono s').mono sa
        have hac5:Paired (EqAt3 (upd H' ad (.lst acc))) acc ((clOs (rlsE es)).map (eqO es)):=pairImp hacc' fun _ _ z=>z.mono sa
        have st5:=st.trans (s'.trans sa)
        generalize upd H' ad (.lst acc) = H5 at *
        refine ⟨_,rfl,_,rfl,_,rfl,e,ad,ev,acc,rfl,rfl,SqL.of hev5,SqL.of had5,by rw [sizeLine_eq]; lia,fun p hp=>?_⟩
        have sp:=same_new hp (.lst (ev ++ acc))
        have erl:rlsE (es ++ (clOs (rlsE es)).map (eqO es)) = rlsE es ++ clashes (rlsE es):=by
          have e1:rlsE (es ++ (clOs (rlsE es)).map (eqO es)) = rlsE es ++ ((clOs (rlsE es)).map (eqO es)).map rlE:=List.map_append ..
          rw [e1,clOs_map,List.map_map]
          rfl
        have hwok:∀ x ∈ es ++ (clOs (rlsE es)).map (eqO es),Wok al (nn (i + 1)) (rlE x):=fun x hx=>by
          have hm:rlE x ∈ rlsE es ++ clashes (rlsE es):=by rw [← erl]; exact rlsE_mem hx
          rcases List.mem_append.mp hm with y | y
          · have:=hG.wok y
            exact ⟨this.1,this.2.1,by have:=this.2.2.1; lia,by have:=this.2.2.2; lia⟩
          · rw [m5]
            exact clashes_ok hG y
        have hlen1:(es ++ (clOs (rlsE es)).map (eqO es)).length = es.length + (clashes (rlsE es)).length:=by rw [List.length_append,List.length_map,hcl]
        refine ⟨a,ps,p,es ++ (clOs (rlsE es)).map (eqO es),al,nn (i + 1),2 * M,rs1,M1,rfl,hS5.mono sp,hsh,by lia,⟨_,upd_same,pairImp (pairApp hep5 hac5) fun _ _ z=>z.mono sp⟩,hInc,hwok,by lia,by rw [hlen1]; lia,fun u hu hul=>hrk u hu (by lia),by lia,by lia,
          fun x hx=>?_,by rw [erl]; exact hset,hM16,fun x hx=>?_,fun e' es' H6 _ s6 hE6 hrl6 hG6 hl6 hM6' hsh6=>?_⟩
        · rcases List.mem_append.mp hx with y | y
          · have:=hM x y; lia
          · obtain ⟨o,_,rfl⟩:=List.mem_map.mp y
            exact chO_len hM o
        · rcases List.mem_append.mp hx with y | y
          · exact hshw x y
          · obtain ⟨o,ho,rfl⟩:=List.mem_map.mp y
            exact shows_eqO hshw (clOs_mem ho)
        subst hrl6
        rw [hlen1] at hl6
        refine ⟨_,rfl,e',es',al,nn (i + 1),rfl,hE6,hG6,by lia,by lia,fun u hu hul=>hrk u hu (by lia),fun fo2 H7 _ s7 hF7=>?_⟩
        refine ⟨_,rfl,_,_,rfl,rfl,?_⟩
        refine ⟨k0 - (i + 1),by lia,i + 1,e',fo2,es',M1,_,rfl,rfl,st5.trans (sp.trans (s6.trans s7)),by lia,hE6.mono s7,hF7,hG6,by lia,hset.pos (by lia),hM16,hM6',hsh6,?_⟩
        rw [show k0 - (i + 1) = d by lia]
        exact hgo1
    · refine stop H4 (Same.refl _) hgo (.inr ?_)
      have:¬ (i:Int) < (k:Int):=fun z=>hc (decide_eq_true z)
      lia
end
end Sg
namespace Sg
open PySem L2
def AskR (ps rs:List Rl) (u v f g:Wd) (H':Hp) (t:Addr):Prop :=
  (f = g ∧ ∃ c ks,H' t = some (.tup [.str "equal",.ref c]) ∧ LsAt H' c ks ∧ ks.length ≤ 5000000 ∧ wlk ps u ks = some v) ∨ (f ≠ g ∧ H' t = some (.tup [.str (if clashes rs = [] then "apart" else "open"),tx f,tx g]))
inductive spAsk (vs:List V) (H:Hp) (Q:VK) (E_:XK):Prop
  | mk (a:Addr) (ps:List Rl) (al:Wd) (k k0:Nat) (rs:List Rl) (Mo:Nat) (u v:Wd) (Nu Nv:Nat) (h1_:vs = [.ref a,.int (k:Int),tx u,tx v]) (h2_:RsAt H a ps) (h3_:Sh ps) (h4_:Inc al) (h5_:(∀ r ∈ ps,Wok al 3 r)) (h6_:k0 ≤ 2) (h7_:cc ps.length k0 < 64) (h8_:(∀ u,Over al u → u.length + 1 ≤ 2 * nn k0 → rank al u ≤ 4000000)) (h9_:RndM ps k0 rs Mo) (h10_:(k = k0 ∨ (k0 ≤ k ∧ clashes rs = []))) (h11_:Over al u) (h12_:Over al v) (h13_:u.length ≤ 20) (h14_:v.length ≤ 20) (h15_:rank al u ≤ 4000000) (h16_:rank al v ≤ 4000000) (h17_:Mo ≤ 1000) (h18_:(∀ f ss,Down rs u f ss → ss.length ≤ Nu)) (h19_:(∀ g tt,Down rs v g tt → tt.length ≤ Nv)) (h20_:(Nu + Nv) * Mo ≤ 5000000) (h21_:∀ t f g ss tt H',Same H H' → Good rs al (nn k0) → rs.length ≤ 63 → Down rs u f ss → Down rs v g tt → AskR ps rs u v f g H' t → Q (.ref t) H'):spAsk vs H Q E_
section
variable {P:Program} {w:World} {K:PySem.W.Frag} {mg:Str → Option Value} {base:Heap}
theorem scAsk:FnScope ["pairs","rounds","one","other","answer","first","second"] ["pairs","rounds","one","other"] (defScope sAsked):=⟨rfl,rfl,rfl,by decide +kernel,rfl,by decide +kernel,by decide +kernel⟩
theorem ok_asked (D:Dfn K mg "asked" sAsked ["pairs","rounds","one","other"]) (_:Blt mg) (OD:Ok P w K mg base "rounds_done" ["pairs","rounds"] 8 spRD) (OG:Ok P w K mg base "ground_with_chain" ["equations","word"] 4 spGWC) (OT:Ok P w K mg base "turned" ["chain"] 1 spTurned) (OS:Ok P w K mg base "shortened" ["pairs","word","chain"] 4 spShort):Ok P w K mg base "asked" ["pairs","rounds","one","other"] 9 spAsk:=by
  refine D.ok scAsk (fun vs H Q E h=>?_) (fun f cdv A outer s H vs Q E hr h=>?_)
  · obtain ⟨a,ps,al,k,k0,rs,Mo,u,v,Nu,Nv,rfl,_⟩:=h
    rfl
  obtain ⟨a,ps,al,k,k0,rs,Mo,u,v,Nu,Nv,rfl,hS,hsh,hInc,hok,hk0,hcc,hrk,hrnd,hk,ou,ov,lu,lv,ru,rv,hMo,hNu,hNv,hNN,q⟩:=h
  have hr1:Room 1 _:=hr.mono (by decide)
  have hr4:Room 4 _:=hr.mono (by decide)
  refine ⟨_,pss_cons (ps_set (i:=4) scAsk.nd rfl (Or.inl rfl) (pe_fn OD hr rfl (pa_cons (pv 0) (pa_cons (pv 1) pa_nil))))
    (pss_cons (ps_set (i:=5) scAsk.nd rfl (Or.inl rfl) (pe_fn OG hr4 rfl (pa_cons (pe_ix ix_tup (pv 4) pe_int (fun _ _=>rfl)) (pa_cons (pv 2) pa_nil))))
    (pss_cons (ps_set (i:=6) scAsk.nd rfl (Or.inl rfl) (pe_fn OG hr4 rfl (pa_cons (pe_ix ix_tup (pv 4) pe_int (fun _ _=>rfl)) (pa_cons (pv 3) pa_nil))))
    (pss_cons (ps_if (pt_cmpR op_eq (pe_ix ix_tup (pv 5) pe_int (fun _ _=>rfl)) (pe_ix ix_tup (pv 6) pe_int (fun _ _=>rfl)) (nomark _))
      (pss_one (ps_ret (pe_tup (pa_cons pe_str (pa_cons (pe_fn OS hr4 rfl (pa_cons (pv 0) (pa_cons (pv 2) (pa_cons (pe_op op_catR (pe_ix ix_tup (pv 5) pe_int (fun _ _=>rfl)) (pe_fn OT hr1 rfl (pa_cons (pe_ix ix_tup (pv 6) pe_int (fun _ _=>rfl)) pa_nil))) pa_nil)))) pa_nil))))) pss_nil)
    (pss_one (ps_ret (pe_tup (pa_cons (pe_ifExp (pt_val (pe_ix ix_tup (pv 4) pe_int (fun _ _=>rfl))) pe_str pe_str) (pa_cons (pe_ix ix_tup (pv 5) pe_int (fun _ _=>rfl)) (pa_cons (pe_ix ix_tup (pv 6) pe_int (fun _ _=>rfl)) pa_nil))))))))),?_⟩
  try dsimp only [cxOf,Cx.nox]
  have nk:nn k0 ≤ 9:=Nat.le_trans (nn_le hk0) (by decide)
  have c0:cc ps.length 0 ≤ cc ps.length k0:=cc_le _ (Nat.zero_le _)
  have ec0:cc ps.length 0 = ps.length:=rfl
  have hadd:(Nu + Nv) * Mo = Nu * Mo + Nv * Mo:=Nat.add_mul ..
  refine ⟨_,rfl,_,rfl,a,ps,al,k,k0,rs,Mo,rfl,hS,hsh,hInc,hok,hk0,hcc,hrk,hrnd,hk,fun t e es H1 s1 ht hE hrl hG hel hM hshw=>?_⟩
  subst hrl
  have lrs:(rlsE es).length = es.length:=List.length_map ..
  have b1:∀ f ss,Down (rlsE es) u f ss → ss.length * Mo ≤ Nu * Mo:=fun f ss d=>Nat.mul_le_mul_right _ (hNu f ss d)
  have b2:∀ f ss,Down (rlsE es) v f ss → ss.length * Mo ≤ Nv * Mo:=fun f ss d=>Nat.mul_le_mul_right _ (hNv f ss d)
  refine ⟨_,rfl,t,_,1,_,rfl,rfl,SqT.of ht,rfl,_,rfl,e,es,al,nn k0,u,Mo,rfl,hE,hG,by lia,by lia,ou,by lia,ru,hM,by lia,fun f ss d=>by have:=b1 f ss d; lia,fun t1 c1 f1 ss1 ch1 H2 s2 hc1 ht1 hch1 d1 fl1 hl1 sh1=>?_⟩
  refine ⟨_,rfl,t,_,1,_,rfl,rfl,SqT.of (s2 _ _ ht),rfl,_,rfl,e,es,al,nn k0,v,Mo,rfl,hE.mono s2,hG,by lia,by lia,ov,by lia,rv,hM,by lia,fun f ss d=>by have:=b2 f ss d; lia,fun t2 c2 f2 ss2 ch2 H3 s3 hc2 ht2 hch2 d2 fl2 hl2 sh2=>?_⟩
  have ht1':=s3 _ _ ht1
  have st3:=s1.trans (s2.trans s3)
  have e1:=b1 _ _ d1
  have e2:=b2 _ _ d2
  refine ⟨_,rfl,t1,_,0,_,rfl,rfl,SqT.of ht1',rfl,_,rfl,t2,_,0,_,rfl,rfl,SqT.of ht2,rfl,rfl,_,rfl,?_⟩
  rw [dec_tx]
  by_cases hfg:f1 = f2
  · rw [decide_eq_true hfg]
    refine iteT ?_
    refine ⟨_,rfl,_,rfl,_,rfl,t1,_,1,_,rfl,rfl,SqT.of ht1',rfl,_,rfl,t2,_,1,_,rfl,rfl,SqT.of ht2,rfl,c2,ch2,rfl,hch2,by lia,fun k4 H4 hk4 s4 htr=>?_⟩
    obtain ⟨v1,hv1,hp1⟩:=(hch1.mono s3).mono s4
    obtain ⟨v4,hv4,hp4⟩:=id htr
    have l1:=pairLen hp1
    have l4:=pairLen hp4
    have lt:(trn ch2).length = ch2.length:=trn_len _
    refine ⟨c1,k4,v1,v4,rfl,rfl,SqL.of hv1,SqL.of hv4,by rw [sizeLine_eq]; lia,fun k5 hk5=>?_⟩
    have s5:=same_new hk5 (.lst (v1 ++ v4))
    have hw:wlk ps u (ch1 ++ trn ch2) = some v:=by
      rw [wlk_app ps ch1 u _ f1 (sh1 ps hshw),hfg]
      exact wlk_back ps ch2 v f2 (sh2 ps hshw)
    refine ⟨a,ps,u,k5,ch1 ++ trn ch2,v,rfl,((hS.mono st3).mono s4).mono s5,hsh,by lia,by lia,⟨_,upd_same,pairImp (pairApp hp1 hp4) fun _ _ z=>z.mono (tups_of s5)⟩,by rw [List.length_append]; lia,hw,fun r ks' H6 hr6 s6 hks hkl hwk=>?_⟩
    refine ⟨(by show 2 ≤ sizeLine; decide),fun t7 ht7=>?_⟩
    have s7:=same_new ht7 (.tup [.str "equal",.ref r])
    rw [List.length_append] at hkl
    exact q t7 f1 f2 ss1 ss2 _ (st3.trans (s4.trans (s5.trans (s6.trans s7)))) hG (by lia) d1 d2 (.inl ⟨hfg,r,ks',upd_same,hks.mono s7,by lia,hwk⟩)
  · rw [decide_eq_false hfg]
    refine iteF ?_
    have ht3:=(s2.trans s3) _ _ ht
    refine ⟨_,rfl,t,_,0,_,rfl,rfl,SqT.of ht3,rfl,_,rfl,?_⟩
    by_cases hcl:clashes (rlsE es) = []
    · rw [decide_eq_true hcl]
      refine iteT ?_
      refine ⟨_,rfl,t1,_,0,_,rfl,rfl,SqT.of ht1',rfl,_,rfl,t2,_,0,_,rfl,rfl,SqT.of ht2,rfl,(by show 3 ≤ sizeLine; decide),fun t7 ht7=>?_⟩
      exact q t7 f1 f2 ss1 ss2 _ (st3.trans (same_new ht7 _)) hG (by lia) d1 d2 (.inr ⟨hfg,by rw [upd_same,if_pos hcl]⟩)
    · rw [decide_eq_false hcl]
      refine iteF ?_
      refine ⟨_,rfl,t1,_,0,_,rfl,rfl,SqT.of ht1',rfl,_,rfl,t2,_,0,_,rfl,rfl,SqT.of ht2,rfl,(by show 3 ≤ sizeLine; decide),fun t7 ht7=>?_⟩
      exact q t7 f1 f2 ss1 ss2 _ (st3.trans (same_new ht7 _)) hG (by lia) d1 d2 (.inr ⟨hfg,by rw [upd_same,if_neg hcl]⟩)
end
end Sg
namespace Sg
open PySem L2
inductive spPairR (K:PySem.W.Frag) (vs:List V) (H:Hp) (Q:VK) (E_:XK):Prop
  | mk (a:Addr) (ns:List Int) (h1_:vs = [.ref a]) (h2_:SqL K H a (ns.map V.int)) (h3_:ns.length ≤ 100) (h4_:∀ x y H',x < y → 97 ≤ x → y ≤ 122 → Same H H' → Q (tx [x,y]) H'):spPairR K vs H Q E_
section
variable {P:Program} {w:World} {K:PySem.W.Frag} {mg:Str → Option Value} {base:Heap}
theorem ok_pairR (D:Dfn K mg "_law_letter_pair" sPair ["_law_script"]):Ok P w K mg base "_law_letter_pair" ["_law_script"] 1 (spPairR K):=by
  refine D.ok scPair (fun vs H Q E h=>?_) (fun f cdv A outer s H vs Q E hr h=>?_)
  · obtain ⟨a,ns,rfl,_⟩:=h
    rfl
  obtain ⟨a,ns,rfl,hS,hn,q⟩:=h
  refine ⟨_,pss_cons (ps_set (i:=1) scPair.nd rfl (Or.inl rfl) pe_str)
    (pss_cons (ps_set (i:=2) scPair.nd rfl (Or.inl rfl) (pe_ix ix_list (pe_op op_catR (pe_lst (pa_cons pe_int pa_nil)) (pv 0)) (pe_un un_neg pe_int) (fun _ _=>rfl)))
    (pss_cons (ps_set (i:=3) scPair.nd rfl (Or.inl rfl) (pe_op op_mod (pv 2) pe_int))
    (pss_cons (ps_set (i:=4) scPair.nd rfl (Or.inl rfl) (pe_op op_add (pe_op op_add (pv 3) pe_int) (pe_op op_mod (pe_op op_fdiv (pv 2) pe_int) (pe_op op_sub pe_int (pv 3)))))
    (pss_one (ps_ret (pe_op op_addS (pe_ix ix_str (pv 1) (pv 3) (fun _ _=>rfl)) (pe_ix ix_str (pv 1) (pv 4) (fun _ _=>rfl)))))))),?_⟩
  try dsimp only [cxOf,Cx.nox]
  refine ⟨(by show 1 ≤ sizeLine; decide),fun p hp=>?_⟩
  have s1:Same H (upd H p (.lst [.int 0])):=same_new hp _
  refine ⟨_,rfl,p,a,_,_,rfl,rfl,SqL.of upd_same,s1.seq hS,?_,fun p2 hp2=>?_⟩
  · rw [List.length_map,List.length_singleton,sizeLine_eq]
    lia
  have s2:=s1.trans (same_new hp2 (.lst ([.int 0] ++ ns.map V.int)))
  have hlast:∃ c:Int,atI ([V.int 0] ++ ns.map V.int) (-1) = some (V.int c):=by
    rcases List.eq_nil_or_concat ns with rfl | ⟨r,c,rfl⟩
    · exact ⟨0,rfl⟩
    · refine ⟨c,?_⟩
      rw [List.concat_eq_append,List.map_append,← List.append_assoc]
      exact atI_last _ _
  obtain ⟨c,hc⟩:=hlast
  refine ⟨_,rfl,p2,_,_,_,rfl,rfl,SqL.of upd_same,hc,?_⟩
  refine ⟨_,rfl,_,_,rfl,rfl,(by show (0:Int) < 25; decide),?_⟩
  have b1:0 ≤ c % 25:=by lia
  have b2:c % 25 < 25:=by lia
  refine ⟨_,rfl,_,_,rfl,rfl,_,rfl,_,_,rfl,rfl,⟨by decide,by decide⟩,_,rfl,_,_,rfl,rfl,_,_,rfl,rfl,(by show 0 < 25 - c % 25; lia),_,_,rfl,rfl,?_⟩
  have b3:0 ≤ c / 25 % (25 - c % 25):=Int.emod_nonneg _ (by lia)
  have b4:c / 25 % (25 - c % 25) < 25 - c % 25:=Int.emod_lt_of_pos _ (by lia)
  refine ⟨_,rfl,_,rfl,_,_,_,rfl,rfl,(by show 26 ≤ sizeLine; decide),letter_at b1 (by lia),_,rfl,_,rfl,_,_,_,rfl,rfl,(by show 26 ≤ sizeLine; decide),letter_at (by lia) (by lia),[_],[_],rfl,rfl,(by show 2 ≤ sizeLine; decide),?_⟩
  exact q _ _ _ (by lia) (by lia) (by lia) s2
end
end Sg
namespace Sg
open PySem L2
def MW (x y:Nat):List Wd:=menu.map (lett x y)
abbrev PrM (x y b:Nat) (ps:List Rl):Prop:=∀ i p,ps[i]? = some p → p.1 ∈ MW x (if i % 2 = 0 then y else b) ∧ p.2 ∈ MW x (if i % 2 = 0 then y else b)
inductive spPairedM (K:PySem.W.Frag) (vs:List V) (H:Hp) (Q:VK) (E_:XK):Prop
  | mk (a:Addr) (ns:List Int) (x y:Nat) (h1_:vs = [.ref a,tx [x,y]]) (h2_:x < y) (h3_:SqL K H a (ns.map V.int)) (h4_:ns.length ≤ 100) (h5_:∀ r ps b H',H r = none → Same H H' → RsAt H' r ps → ps.length = ns.length / 2 → (b = y ∨ b = 122) → PrM x y b ps → Q (.ref r) H'):spPairedM K vs H Q E_
theorem row_at {ws:List Wd} {Pr:Wd → Prop} (hl:ws.length = 14) (h:∀ u ∈ ws,Pr u) (c:Int):∃ u:Wd,atI (ws.map tx) (c % 14) = some (tx u) ∧ Pr u:=by
  obtain ⟨k,hk,ek⟩:∃ k:Nat,k < 14 ∧ c % 14 = (k:Int):=⟨(c % 14).toNat,by lia,by lia⟩
  rw [ek]
  have hk':k < ws.length:=by lia
  refine ⟨ws[k],atI_nat ?_,h _ (List.getElem_mem hk')⟩
  rw [List.getElem?_map,List.getElem?_eq_getElem hk']
  rfl
theorem mw_len {x y:Nat} {u:Wd} (h:u ∈ MW x y):u.length ≤ 3:=by
  obtain ⟨z,hz,rfl⟩:=List.mem_map.mp h
  exact lett_len hz
def ifTh:List Stmt → Nat → List Stmt
  | b,i=>match b.getD i (.Pass ⟨0,0,0,0⟩) with
    | .If _ c _ _=>c
    | _=>[]
theorem ez:("z":Str) = ⟨#[122]⟩:=by decide +kernel
theorem repl_word {x y:Nat} (hxy:x < y) {u:Wd} (h:u ∈ MW x y):∃ u',V.str (Txt.replace (Sx u) ⟨#[y]⟩ "z") = tx u' ∧ u' ∈ MW x 122:=by
  obtain ⟨z,hz,rfl⟩:=List.mem_map.mp h
  refine ⟨lett x 122 z,?_,List.mem_map.mpr ⟨z,hz,rfl⟩⟩
  rw [ez,repl_exact]
  show V.str _ = V.str (Sx _)
  congr 1
  unfold Sx lett
  simp only [List.map_toArray,List.map_map]
  congr 2
  refine List.map_congr_left fun c _=>?_
  show (if (if c = 98 then y else x) = y then 122 else (if c = 98 then y else x)) = if c = 98 then 122 else x
  by_cases hc:c = 98
  · rw [if_pos hc,if_pos rfl,if_pos hc]
  · rw [if_neg hc,if_neg (by lia),if_neg hc]
inductive PdW (a lw lp lo:Addr) (x y b:Nat) (ws os:List Wd) (H0:Hp) (i:Nat) (σ:St) (H2:Hp):Prop
  | mk (ps:List Rl) (x5 x6:Option V) (h1_:σ = [some (.ref a),some (tx [x,y]),some (.ref lw),some (.ref lp),some (.ref lo),x5,x6]) (h2_:Same H0 H2) (h3_:H2 lw = some (.lst (ws.map tx))) (h4_:H2 lo = some (.lst (os.map tx))) (h5_:RsAt H2 lp ps) (h6_:ps.length = i) (h7_:PrM x y b ps):PdW a lw lp lo x y b ws os H0 i σ H2
inductive MnW (p:Addr) (x y:Nat) (H:Hp) (i:Nat) (acc:List V) (H':Hp):Prop
  | mk (h1_:Same H H') (h2_:H' p = some (.lst (menu.map V.str))) (h3_:i ≤ menu.length) (h4_:acc = (((menu.take i).map (lett x y)).map tx)):MnW p x y H i acc H'
section
variable {P:Program} {w:World} {K:PySem.W.Frag} {mg:Str → Option Value} {base:Heap}
abbrev NPd:List Str:=["_law_cells","_law_two","_law_words","_law_pairs","_law_others","_law_k","_law_row"]
theorem scPaired:FnScope NPd ["_law_cells","_law_two"] (defScope sPaired):=⟨rfl,rfl,rfl,by decide +kernel,rfl,by decide +kernel,by decide +kernel⟩
theorem ccPd1:CompScope (defScope sPaired) NPd (compSc (asgE (defBody sPaired) 1)) ["_law_word"] ["_law_two"] [1]:=⟨rfl,by decide +kernel,by decide +kernel,by decide +kernel,by decide +kernel,rfl,by decide +kernel⟩
theorem ccPd2:CompScope (defScope sPaired) NPd (compSc (asgE (ifTh (defBody sPaired) 4) 0)) ["_law_word"] ["_law_two"] [1]:=⟨rfl,by decide +kernel,by decide +kernel,by decide +kernel,by decide +kernel,rfl,by decide +kernel⟩
inductive PdT (K:PySem.W.Frag) (D:Ends) (σ:St) (H:Hp):Prop
  | mk (H0:Hp) (a lw lp lo:Addr) (ns:List Int) (x y b:Nat) (ws os:List Wd) (x5 x6:Option V) (h1_:σ = [some (.ref a),some (tx [x,y]),some (.ref lw),some (.ref lp),some (.ref lo),x5,x6]) (h2_:Same H0 H) (h3_:SqL K H0 a (ns.map V.int)) (h4_:ns.length ≤ 100) (h5_:H lw = some (.lst (ws.map tx))) (h6_:H lo = some (.lst (os.map tx))) (h7_:H lp = some (.lst [])) (h8_:H0 lp = none) (h9_:ws.length = 14) (h10_:os.length = 14) (h11_:(∀ u ∈ ws,u ∈ MW x y)) (h12_:(∀ u ∈ os,u ∈ MW x b)) (h13_:(b = y ∨ b = 122)) (h14_:∀ r ps b H',H0 r = none → Same H0 H' → RsAt H' r ps → ps.length = ns.length / 2 → (b = y ∨ b = 122) → PrM x y b ps → D.rt (.ref r) H'):PdT K D σ H
theorem ok_pairedM (D:Dfn K mg "_law_paired" sPaired ["_law_cells","_law_two"]) (B:Blt mg) (kb:PySem.W.nsIn K cStatics sharingNotToldKey = some none) (OL:Ok P w K mg base "_law_in_letters" ["_law_word","_law_two"] 1 spLetters) :
    Ok P w K mg base "_law_paired" ["_law_cells","_law_two"] 2 (spPairedM K):=by
  refine D.ok scPaired (fun vs H Q E h=>?_) (fun f cdv A outer s H vs Q E hr h=>?_)
  · obtain ⟨a,ns,x,y,rfl,_⟩:=h
    rfl
  obtain ⟨a,ns,x,y,rfl,hxy,hS,hn,q⟩:=h
  refine ⟨_,pss_cons (ps_set (i:=2) scPaired.nd rfl (Or.inl rfl) (pe_lst (pa_strs (zs:=menu) (by rfl))))
    (pss_cons (ps_comp (i:=2) rfl ccPd1 (pi_list (pv 2)) (by intro cl C ex s H; exact ⟨pg_name (i:=0) ccPd1.nd rfl (.inl rfl),pf_nil,pe_fn OL hr rfl (pa_cons (pv 0) (pa_cons (pv 1) pa_nil))⟩) scPaired.nd rfl rfl)
    (pss_cons (ps_set (i:=3) scPaired.nd rfl (Or.inl rfl) (pe_lst pa_nil))
    (pss_cons (ps_set (i:=4) scPaired.nd rfl (Or.inl rfl) (pv 2))
    (pss_cons (ps_if (PW.pt (pw_and (pt_cmpR op_gt (pe_callB call_len_seq rfl B.len PySem.boot_len (pa_cons (pv 0) pa_nil)) pe_int (nomark _)) (pw_and1 (pt_cmpR op_eq (pe_op op_mod (pe_op op_fdiv (pe_ix ix_list (pv 0) pe_int (fun _ _=>rfl)) pe_int) pe_int) pe_int (nomark _)))))
      (pss_one (ps_comp (i:=4) (g:=gName 0) (tt:=tNoTest) (te:=tRepl (tVar 0) (tVar 1) 1 "z") rfl ccPd2 (pi_list (pv 2)) (by intro cl C ex s H; exact ⟨pg_name (i:=0) ccPd2.nd rfl (.inl rfl),pf_nil,pe_repl kb (by decide) (pv 0) (pv 1)⟩) scPaired.nd rfl rfl)) pss_nil)
    (pss_imp (pss_cons (ps_for PassesOwn.never rfl (pi_range1 rfl B.rng (pa_cons (pe_op op_fdiv (pe_callB call_len_seq rfl B.len PySem.boot_len (pa_cons (pv 0) pa_nil)) pe_int) pa_nil)) (pg_name (i:=5) scPaired.nd rfl (Or.inl rfl))
      (pss_cons (ps_set (i:=6) scPaired.nd rfl (Or.inl rfl) (pe_ix ix_list (pe_lst (pa_cons (pv 2) (pa_cons (pv 4) pa_nil))) (pe_op op_mod (pv 5) pe_int) (fun _ _=>rfl)))
      (pss_one (ps_expr (pe_bm PySem.F.plainAttrs_list PySem.F.slot_list_append PySem.F.type_list_append mt_append (pv 3) (pa_cons (pe_tup (pa_cons
        (pe_ix ix_list (pv 6) (pe_op op_mod (pe_ix ix_list (pv 0) (pe_op op_mul pe_int (pv 5)) (fun _ _=>rfl)) pe_int) (fun _ _=>rfl))
        (pa_cons (pe_ix ix_list (pv 6) (pe_op op_mod (pe_ix ix_list (pv 0) (pe_op op_add (pe_op op_mul pe_int (pv 5)) pe_int) (fun _ _=>rfl)) pe_int) (fun _ _=>rfl)) pa_nil))) pa_nil))))))
      (pss_one (ps_ret (pv 3)))) (fun D' σ H' (h:PdT K D' σ H')=>?tail)))))),?_⟩
  case tail =>
    obtain ⟨H0,a,lw,lp,lo,ns,x,y,b,ws,os,x5,x6,rfl,s0,hS,hn,hlw,hlo,hlp,n0p,lws,los,hws,hos,hb,k⟩:=h
    have nwp:lw ≠ lp:=fun z=>by rw [z,hlp] at hlw; cases ws with | nil=>cases lws | cons _ _=>cases hlw
    have nop:lo ≠ lp:=fun z=>by rw [z,hlp] at hlo; cases os with | nil=>cases los | cons _ _=>cases hlo
    refine ⟨_,rfl,a,_,rfl,.inl (s0.seq hS),_,_,rfl,rfl,⟨by decide,by decide⟩,_,rfl,by rw [List.length_map]; lia,by rw [List.length_map]; lia,?_⟩
    have e2:(((ns.map V.int).length:Nat):Int) / 2 = ((ns.length / 2:Nat):Int):=by rw [List.length_map]; lia
    rw [e2,Int.toNat_natCast]
    refine for_range (lo:=0) (n:=ns.length / 2) (PdW a lw lp lo x y b ws os H0)
      ⟨[],_,_,rfl,s0,hlw,hlo,⟨[],hlp,.nil⟩,rfl,(fun i p hp=>by simp at hp)⟩ ?_ ?_
    · rintro i σ H2 hi ⟨ps,y5,y6,rfl,s3,hlw2,hlo2,⟨pv,hpv,hpp⟩,hpl,hp3⟩
      have hpvl:=pairLen hpp
      have hi1:2 * i < ns.length:=by lia
      have hi2:2 * i + 1 < ns.length:=by lia
      have a1:atI (ns.map V.int) (2 * (0 + (i:Int))) = some (.int ns[2 * i]):=by
        have e:(2:Int) * (0 + (i:Int)) = ((2 * i:Nat):Int):=by lia
        rw [e]
        exact atI_nat (by rw [List.getElem?_map,List.getElem?_eq_getElem hi1]; rfl)
      have a2:atI (ns.map V.int) (2 * (0 + (i:Int)) + 1) = some (.int ns[2 * i + 1]):=by
        have e:(2:Int) * (0 + (i:Int)) + 1 = ((2 * i + 1:Nat):Int):=by lia
        rw [e]
        exact atI_nat (by rw [List.getElem?_map,List.getElem?_eq_getElem hi2]; rfl)
      refine ⟨_,rfl,_,rfl,(by show 2 ≤ sizeLine; decide),fun rl hrl=>?_⟩
      have sr:=same_new hrl (.lst [.ref lw,.ref lo])
      obtain ⟨row,rws,hat,hrow,hr3,hrl14⟩:∃ (row:Addr) (rws:List Wd),atI [V.ref lw,V.ref lo] ((0 + (i:Int)) % 2) = some (.ref row) ∧ H2 row = some (.lst (rws.map tx)) ∧ (∀ u ∈ rws,u ∈ MW x (if i % 2 = 0 then y else b)) ∧ rws.length = 14:=by
        by_cases e:i % 2 = 0
        · have:((0 + (i:Int)) % 2) = 0:=by lia
          exact ⟨lw,ws,by rw [this]; rfl,hlw2,by rw [if_pos e]; exact hws,lws⟩
        · have:((0 + (i:Int)) % 2) = 1:=by lia
          exact ⟨lo,os,by rw [this]; rfl,hlo2,by rw [if_neg e]; exact hos,los⟩
      refine ⟨_,rfl,_,_,rfl,rfl,(by show (0:Int) < 2; decide),rl,_,_,_,rfl,rfl,SqL.of upd_same,hat,?_⟩
      have s4:=s3.trans sr
      have hrow4:=sr _ _ hrow
      have hpv4:=sr _ _ hpv
      have hpp4:=pairImp hpp fun _ _ z=>z.mono (tups_of sr)
      have hlw4:=sr _ _ hlw2
      have hlo4:=sr _ _ hlo2
      generalize upd H2 rl (.lst [.ref lw,.ref lo]) = H4 at *
      obtain ⟨u1,b1,w1⟩:=row_at hrl14 hr3 ns[2 * i]
      obtain ⟨u2,b2,w2⟩:=row_at hrl14 hr3 ns[2 * i + 1]
      have hS4:=s4.seq hS
      refine ⟨_,rfl,.inl ⟨rfl,_,SqL.of hpv4⟩,?_⟩
      refine ⟨_,rfl,_,rfl,_,rfl,_,_,rfl,rfl,.inl ⟨by decide,by decide⟩,a,_,_,_,rfl,rfl,hS4,a1,_,_,rfl,rfl,(by show (0:Int) < 14; decide),row,_,_,_,rfl,rfl,SqL.of hrow4,b1,?_⟩
      refine ⟨_,rfl,_,rfl,_,rfl,_,_,rfl,rfl,.inl ⟨by decide,by decide⟩,_,_,rfl,rfl,a,_,_,_,rfl,rfl,hS4,a2,_,_,rfl,rfl,(by show (0:Int) < 14; decide),row,_,_,_,rfl,rfl,SqL.of hrow4,b2,(by show 2 ≤ sizeLine; decide),fun t ht=>?_⟩
      have st:=same_new ht (.tup [tx u1,tx u2])
      have hpv5:=st _ _ hpv4
      refine ⟨lp,_,_,rfl,rfl,hpv5,by rw [sizeLine_eq]; lia,?_⟩
      have tw:=tups_own (ys:=pv ++ [.ref t]) hpv5
      refine ⟨ps ++ [(u1,u2)],_,_,rfl,(s4.trans st).own n0p _,by rw [upd_ne nwp]; exact st _ _ hlw4,by rw [upd_ne nop]; exact st _ _ hlo4,RsAt.snoc hpv5 (pairImp hpp4 fun _ _ z=>z.mono (tups_of st)) ⟨t,rfl,upd_same⟩,by rw [List.length_append,hpl]; rfl,fun i' p hp=>?_⟩
      by_cases hlt:i' < ps.length
      · rw [List.getElem?_append_left hlt] at hp
        exact hp3 i' p hp
      · rw [List.getElem?_append_right (by lia)] at hp
        have h0:i' - ps.length = 0:=by
          have:=(List.getElem?_eq_some_iff.mp hp).1
          simp at this
          lia
        rw [h0] at hp
        cases hp
        have:i' = i:=by lia
        rw [this]
        exact ⟨w1,w2⟩
    · rintro σ H2 ⟨ps,y5,y6,rfl,s3,_,_,hps,hpl,hp3⟩
      exact ⟨_,rfl,k lp ps b H2 n0p s3 hps hpl hb hp3⟩
  refine ⟨(by show 14 ≤ sizeLine; decide),fun p hp=>?_⟩
  have s1:Same H (upd H p (.lst (menu.map V.str))):=same_new hp _
  refine ⟨_,rfl,p,rfl,⟨_,SqL.of upd_same⟩,?_⟩
  refine turns_list (K:=K) (xs:=menu.map V.str) (MnW p x y H)
    ⟨s1,upd_same,Nat.zero_le _,rfl⟩ (fun i acc H' ⟨_,_,hi,e⟩=>?_) (by show 14 < sizeLine; decide) (fun i acc H' (.mk _ e _ ..)=>SqL.of e) (fun i acc H' v hv ⟨s',e,hi,hacc⟩=>?_) (fun acc H' ⟨s',e,hi,hacc⟩ lw hlw=>?_)
  · rw [e,List.length_map,List.length_map,List.length_take]
    lia
  · rw [List.getElem?_map] at hv
    cases hz:menu[i]? with
    | none=>rw [hz] at hv; cases hv
    | some z =>
      rw [hz] at hv
      cases hv
      have hil:i < menu.length:=(List.getElem?_eq_some_iff.mp hz).1
      have hzm:=menu_len z (List.mem_of_getElem? hz)
      refine ⟨rfl,noTest ?_⟩
      refine ⟨_,rfl,_,rfl,z,x,y,rfl,by lia,fun H2 s2=>⟨s'.trans s2,s2 _ _ e,hil,?_⟩⟩
      rw [List.take_add_one,hz,hacc]
      simp [lett]
  have hacc':acc = ((menu.map (lett x y)).map tx):=by
    rw [hacc]
    rfl
  subst hacc'
  have s2:Same H (upd H' lw (.lst ((menu.map (lett x y)).map tx))):=s'.trans (same_new hlw _)
  have hlw2:(upd H' lw (.lst ((menu.map (lett x y)).map tx))) lw = some (.lst ((menu.map (lett x y)).map tx)):=upd_same
  generalize upd H' lw (.lst ((menu.map (lett x y)).map tx)) = H2 at *
  have hws:∀ u ∈ menu.map (lett x y),u ∈ MW x y:=fun u hu=>hu
  have lws:(menu.map (lett x y)).length = 14:=by rw [List.length_map]; rfl
  generalize menu.map (lett x y) = ws at *
  refine ⟨(by show 0 ≤ sizeLine; decide),fun lp hlp=>?_⟩
  have sp:=same_new hlp (.lst [])
  have n0p:H lp = none:=s2.free hlp
  have s3:=s2.trans sp
  have hlw3:=sp _ _ hlw2
  have hlp3:(upd H2 lp (.lst [])) lp = some (.lst []):=upd_same
  generalize upd H2 lp (.lst []) = H3 at *
  have done:∀ x5 x6,PdT K { nx:=fun _ H'=>Q .non H',rt:=Q } [some (.ref a),some (tx [x,y]),some (.ref lw),some (.ref lp),some (.ref lw),x5,x6] H3:=fun x5 x6 =>
    ⟨H,a,lw,lp,lw,ns,x,y,y,ws,ws,x5,x6,rfl,s3,hS,hn,hlw3,hlw3,hlp3,n0p,lws,lws,hws,hws,.inl rfl,q⟩
  refine ⟨_,rfl,?_⟩
  refine ⟨_,rfl,a,_,rfl,.inl (s3.seq hS),_,_,rfl,rfl,_,rfl,?_⟩
  refine ite2 (fun c=>?_) (fun c=>?_)
  · have hpos:0 < ns.length:=by have:=of_decide_eq_true c; rw [List.length_map] at this; lia
    have a0:atI (ns.map V.int) 0 = some (.int ns[0]):=atI_nat (j:=0) (by rw [List.getElem?_map,List.getElem?_eq_getElem hpos]; rfl)
    refine ⟨_,rfl,a,_,_,_,rfl,rfl,s3.seq hS,a0,_,_,rfl,rfl,⟨by decide,by decide⟩,_,_,rfl,rfl,(by show (0:Int) < 3; decide),rfl,_,rfl,?_⟩
    refine ite2 (fun c2=>?_) (fun c2=>?_)
    · refine ⟨_,rfl,lw,rfl,⟨_,SqL.of hlw3⟩,?_⟩
      refine turns_list (K:=K) (xs:=ws.map tx) (fun j acc H4=>H4 = H3 ∧ j ≤ 14 ∧ ∃ os:List Wd,acc = os.map tx ∧ os.length = j ∧ ∀ u ∈ os,u ∈ MW x 122) ⟨rfl,Nat.zero_le _,[],rfl,rfl,(fun u hu=>nomatch hu)⟩ (fun j acc H4 ⟨_,_,os,e,el,_⟩=>by rw [e,List.length_map]; lia) (by rw [List.length_map,lws]; decide) (fun j acc H4 ⟨e,_⟩=>by rw [e]; exact SqL.of hlw3) (fun j acc H4 v hv ⟨e4,hj,os,eo,lo,ho⟩=>?_) (fun acc H4 ⟨e4,hj,os,eo,lo,ho⟩ lo' hlo'=>?_)
      · subst e4
        rw [List.getElem?_map] at hv
        cases hz:ws[j]? with
        | none=>rw [hz] at hv; cases hv
        | some u =>
          rw [hz] at hv
          cases hv
          have hjl:j < ws.length:=(List.getElem?_eq_some_iff.mp hz).1
          have hu:=hws u (List.mem_of_getElem? hz)
          obtain ⟨u',e',w'⟩:=repl_word hxy hu
          have hul:u.length ≤ 3:=mw_len hu
          refine ⟨rfl,noTest ?_⟩
          refine ⟨_,rfl,Sx u,rfl,by rw [Sx_len]; lia,_,rfl,Sx [x,y],y,rfl,(by show 2 ≤ sizeLine; decide),rfl,?_⟩
          rw [e']
          refine ⟨rfl,by lia,os ++ [u'],by rw [eo,List.map_append]; rfl,by rw [List.length_append,lo]; rfl,fun z hz'=>?_⟩
          rcases List.mem_append.mp hz' with y' | y'
          · exact ho z y'
          · rw [List.mem_singleton.mp y']; exact w'
      · subst e4
        have so:=same_new hlo' (.lst acc)
        rw [List.length_map] at lo
        exact ⟨H,a,lw,lp,lo',ns,x,y,122,ws,os,_,_,rfl,s3.trans so,hS,hn,so _ _ hlw3,by rw [upd_same,eo],so _ _ hlp3,n0p,lws,by lia,hws,ho,.inr rfl,q⟩
    · exact done _ _
  · exact iteF (done _ _)
end
end Sg
namespace Sg
def mpR (f:Nat → Nat) (p:Rl):Rl:=(p.1.map f,p.2.map f)
abbrev Mono (f:Nat → Nat):Prop:=∀ a b,a < b → f a < f b
section
variable {f:Nat → Nat}
theorem Mono.inj (h:Mono f) {a b:Nat} (e:f a = f b):a = b:=by
  rcases Nat.lt_trichotomy a b with z | z | z
  · have:=h _ _ z; lia
  · exact z
  · have:=h _ _ z; lia
theorem Mono.lt (h:Mono f) {a b:Nat}:f a < f b ↔ a < b:=by
  refine ⟨fun z=>?_,h a b⟩
  rcases Nat.lt_trichotomy a b with y | y | y
  · exact y
  · subst y; lia
  · have:=h _ _ y; lia
theorem map_inj (h:Mono f):∀ {u w:Wd},u.map f = w.map f → u = w
  | [],[],_=>rfl
  | [],_ :: _,e=>by cases e
  | _ :: _,[],e=>by cases e
  | a :: u,b :: w,e=>by
    have:=List.cons.inj e
    rw [h.inj this.1,map_inj h this.2]
theorem getD_mp (rs:List Rl) (i:Nat):(rs.map (mpR f)).getD i ([],[]) = mpR f (rs.getD i ([],[])):=by
  rw [List.getD_eq_getElem?_getD,List.getD_eq_getElem?_getD,List.getElem?_map]
  cases rs[i]? <;> rfl
theorem atP_map (h:Mono f) (w l:Wd) (p:Nat):atP (w.map f) (l.map f) p = atP w l p:=by
  rw [Bool.eq_iff_iff,atP_iff,atP_iff,List.length_map,← List.map_drop,← List.map_take]
  exact ⟨map_inj h,fun z=>by rw [z]⟩
theorem numsAt_map (h:Mono f) (rs:List Rl) (w:Wd) (p:Nat):numsAt (rs.map (mpR f)) (w.map f) p = numsAt rs w p:=by
  unfold numsAt
  rw [List.length_map]
  congr 1
  funext i
  rw [getD_mp]
  exact atP_map h _ _ _
theorem firstF_map (h:Mono f) (rs:List Rl) (w:Wd):∀ k s,firstF (rs.map (mpR f)) (w.map f) k s = firstF rs w k s
  | 0,_=>rfl
  | k + 1,s=>by
    unfold firstF
    rw [numsAt_map h,firstF_map h rs w k (s + 1)]
theorem first_map (h:Mono f) (rs:List Rl) (w:Wd):first (rs.map (mpR f)) (w.map f) = first rs w:=by
  unfold first
  rw [List.length_map]
  exact firstF_map h rs w _ _
theorem app_map (rs:List Rl) (w:Wd) (p i:Nat):app (rs.map (mpR f)) (w.map f) p i = (app rs w p i).map f:=by
  unfold app
  rw [getD_mp]
  simp [mpR,List.map_take,List.map_drop]
theorem down_map (h:Mono f) {rs:List Rl} {w g:Wd} {ss:List (Nat × Nat)} (d:Down rs w g ss):Down (rs.map (mpR f)) (w.map f) (g.map f) ss:=by
  induction d with
  | done e=>exact .done (by rw [first_map h]; exact e)
  | step e _ ih=>exact .step (by rw [first_map h]; exact e) (by rw [app_map]; exact ih)
theorem down_back (h:Mono f) {rs:List Rl} {w' g:Wd} {ss:List (Nat × Nat)} (d:Down (rs.map (mpR f)) w' g ss):∀ w,w' = w.map f → ∃ g',g = g'.map f ∧ Down rs w g' ss:=by
  induction d with
  | done e =>
    intro w hw
    subst hw
    exact ⟨w,rfl,.done (by rw [first_map h] at e; exact e)⟩
  | step e _ ih =>
    intro w hw
    subst hw
    rw [first_map h] at e
    obtain ⟨g',h1,h2⟩:=ih _ (app_map rs w _ _)
    exact ⟨g',h1,.step e h2⟩
theorem nf_map (h:Mono f) (rs:List Rl) (w:Wd):nf (rs.map (mpR f)) (w.map f) = (nf rs w).map f:=by
  by_cases e:∃ g,∃ ss,Down rs w g ss
  · obtain ⟨g,ss,d⟩:=e
    rw [nf_of d,nf_of (down_map h d)]
  · have e':¬ ∃ g,∃ ss,Down (rs.map (mpR f)) (w.map f) g ss:=fun ⟨g,ss,d⟩=>by
      obtain ⟨g',_,d'⟩:=down_back h d w rfl
      exact e ⟨g',ss,d'⟩
    unfold nf
    rw [dif_neg e,dif_neg e']
theorem lt_map (h:Mono f):∀ (a b:Wd),a.map f < b.map f ↔ a < b
  | [],[]=>by simp
  | [],_ :: _=>by simp
  | _ :: _,[]=>by simp
  | c :: a,d :: b=>by
    rw [List.map_cons,List.map_cons,List.cons_lt_cons_iff,List.cons_lt_cons_iff,lt_map h a b,h.lt]
    exact ⟨fun z=>z.imp_right fun y=>⟨h.inj y.1,y.2⟩,fun z=>z.imp_right fun y=>⟨by rw [y.1],y.2⟩⟩
theorem bef_map (h:Mono f) (a b:Wd):bef (a.map f) (b.map f) = bef a b:=by
  unfold bef
  rw [List.length_map,List.length_map]
  simp only [lt_map h]
theorem occ_map (h:Mono f) (l u:Wd):Occ (l.map f) (u.map f) ↔ Occ l u:=by
  constructor
  · rintro ⟨a,b,e⟩
    obtain ⟨ab,b',rfl,e1,rfl⟩:=List.map_eq_append_iff.mp e
    obtain ⟨a',l',rfl,rfl,e2⟩:=List.map_eq_append_iff.mp e1
    exact ⟨a',b',by rw [map_inj h e2]⟩
  · rintro ⟨a,b,rfl⟩
    exact ⟨a.map f,b.map f,by simp⟩
theorem occB_map (h:Mono f) (l u:Wd):occB (l.map f) (u.map f) = occB l u:=by
  rw [Bool.eq_iff_iff,occB_iff,occB_iff,occ_map h]
theorem latF_map (h:Mono f) (a b:Wd):latF (a.map f) (b.map f) = mpR f (latF a b):=by
  unfold latF
  rw [bef_map h]
  split <;> rfl
theorem putIn_map (h:Mono f) (kp:List Rl) (x:Rl):putIn (kp.map (mpR f)) (mpR f x) = (putIn kp x).map (mpR f):=by
  unfold putIn
  rw [List.map_append,List.map_cons,List.filter_map,List.filter_map]
  have e1:((fun r=>bef r.1 (mpR f x).1) ∘ mpR f) = fun r=>bef r.1 x.1:=funext fun r=>bef_map h _ _
  have e2:((fun r=>!bef r.1 (mpR f x).1) ∘ mpR f) = fun r=>!bef r.1 x.1:=funext fun r=>congrArg not (bef_map h _ _)
  rw [e1,e2]
theorem stlM_map (h:Mono f) {k A M Mf:Nat} {td rs out:List Rl} (s:StlM k A M td rs out Mf):StlM k A M (td.map (mpR f)) (rs.map (mpR f)) (out.map (mpR f)) Mf:=by
  induction s with
  | done A M rs=>exact .done A M _
  | same d1 d2 hl _ ih=>exact .same (down_map h d1) (down_map h d2) hl ih
  | @fresh k A M Mf p td rs out g1 g2 ss1 ss2 d1 d2 hne hl _ ih =>
    refine .fresh (down_map h d1) (down_map h d2) (fun z=>hne (map_inj h z)) hl ?_
    rw [latF_map h]
    have e1:(rs.map (mpR f)).filter (fun r=>occB (mpR f (latF g1 g2)).1 r.1) = (rs.filter fun r=>occB (latF g1 g2).1 r.1).map (mpR f):=by
      rw [List.filter_map]
      congr 1
      congr 1
      exact funext fun r=>occB_map h _ _
    have e2:(rs.map (mpR f)).filter (fun r=>!occB (mpR f (latF g1 g2)).1 r.1) = (rs.filter fun r=>!occB (latF g1 g2).1 r.1).map (mpR f):=by
      rw [List.filter_map]
      congr 1
      congr 1
      exact funext fun r=>congrArg not (occB_map h _ _)
    rw [e1,e2,putIn_map h,← List.map_append]
    exact ih
theorem setM_map (h:Mono f) {M Mo:Nat} {ps rs:List Rl} (s:SetM M ps rs Mo):SetM M (ps.map (mpR f)) (rs.map (mpR f)) Mo:=by
  obtain ⟨j,out,Mf,s,h1,h2,rfl⟩:=s
  refine ⟨j,out.map (mpR f),Mf,stlM_map h s,h1,fun r hr g ss d=>?_,?_⟩
  · obtain ⟨r0,hr0,rfl⟩:=List.mem_map.mp hr
    obtain ⟨g',_,d'⟩:=down_back h d r0.2 rfl
    exact h2 r0 hr0 g' ss d'
  · rw [List.map_map,List.map_map]
    exact List.map_congr_left fun r _=>by
      show ((r.1.map f,(nf out r.2).map f):Rl) = (r.1.map f,nf (out.map (mpR f)) (r.2.map f))
      rw [nf_map h]
theorem fitsAt_map (h:Mono f) (a b:Wd) (p:Nat):fitsAt (a.map f) (b.map f) p = fitsAt a b p:=by
  unfold fitsAt fitM
  rw [List.length_map,List.length_map,Bool.eq_iff_iff,fitN_iff,fitN_iff]
  have key:∀ k,k < min a.length (p + b.length) - p → ((a.map f).getD (p + k) 0 = (b.map f).getD k 0 ↔ a.getD (p + k) 0 = b.getD k 0):=fun k hk=>by
    have h1:p + k < a.length:=by lia
    have h2:k < b.length:=by lia
    rw [List.getD_eq_getElem?_getD,List.getD_eq_getElem?_getD,List.getD_eq_getElem?_getD,List.getD_eq_getElem?_getD,List.getElem?_map,List.getElem?_map,List.getElem?_eq_getElem h1,List.getElem?_eq_getElem h2]
    exact ⟨fun z=>h.inj z,fun z=>congrArg f z⟩
  exact ⟨fun z k hk=>(key k hk).mp (z k hk),fun z k hk=>(key k hk).mpr (z k hk)⟩
def mpO (f:Nat → Nat) (o:Ov):Ov:=(o.1.map f,o.2)
theorem ovP_map (h:Mono f) (rs:List Rl) (i j p:Nat):ovP (rs.map (mpR f)) i j p = (ovP rs i j p).map (mpO f):=by
  unfold ovP
  rw [getD_mp,getD_mp]
  have e:fitsAt (mpR f (rs.getD i ([],[]))).1 (mpR f (rs.getD j ([],[]))).1 p = fitsAt (rs.getD i ([],[])).1 (rs.getD j ([],[])).1 p:=fitsAt_map h _ _ _
  rw [e]
  split
  · show [((mpR f (rs.getD i ([],[]))).1 ++ (mpR f (rs.getD j ([],[]))).1.drop ((mpR f (rs.getD i ([],[]))).1.length - p),i,j,p)] = [mpO f _]
    unfold mpO mpR
    dsimp only
    rw [List.map_append,List.map_drop,List.length_map]
  · rfl
theorem overs_map (h:Mono f) (rs:List Rl):overs (rs.map (mpR f)) = (overs rs).map (mpO f):=by
  unfold overs ovIs ovJs ovPs
  rw [List.length_map,List.map_flatMap]
  congr 1
  funext i
  rw [List.map_flatMap]
  congr 1
  funext j
  rw [List.map_flatMap,getD_mp]
  have:(mpR f (rs.getD i ([],[]))).1.length = (rs.getD i ([],[])).1.length:=List.length_map ..
  rw [this]
  congr 1
  funext p
  exact ovP_map h rs i j p
theorem cl1_map (rs:List Rl) (o:Ov):cl1 (rs.map (mpR f)) (mpO f o) = (cl1 rs o).map f:=by
  unfold cl1 mpO
  dsimp only
  rw [getD_mp]
  simp [mpR,List.map_drop]
theorem cl2_map (rs:List Rl) (o:Ov):cl2 (rs.map (mpR f)) (mpO f o) = (cl2 rs o).map f:=by
  unfold cl2 mpO
  dsimp only
  rw [getD_mp]
  simp [mpR,List.map_drop,List.map_take]
theorem clashes_map (h:Mono f) (rs:List Rl):clashes (rs.map (mpR f)) = (clashes rs).map (mpR f):=by
  unfold clashes
  rw [overs_map h,List.map_flatMap,List.flatMap_map]
  congr 1
  funext o
  unfold clO
  rw [cl1_map,cl2_map,nf_map h,nf_map h]
  by_cases e:nf rs (cl1 rs o) = nf rs (cl2 rs o)
  · rw [if_pos e,if_pos (by rw [e])]; rfl
  · rw [if_neg e,if_neg (fun z=>e (map_inj h z))]; rfl
theorem go_map (h:Mono f) {k:Nat} {rs rs':List Rl} {M Mo:Nat} (g:Go k rs M rs' Mo):Go k (rs.map (mpR f)) M (rs'.map (mpR f)) Mo:=by
  induction g with
  | zero rs M=>exact .zero _ _
  | stay k M e=>exact .stay k M (by rw [clashes_map h,e]; rfl)
  | step h1 h2 h3 _ ih =>
    refine .step (by rw [clashes_map h]; simpa using h1) ?_ h3 ih
    rw [clashes_map h,← List.map_append]
    exact setM_map h h2
theorem rndM_map (h:Mono f) {ps:List Rl} {k:Nat} {rs':List Rl} {Mo:Nat} (g:RndM ps k rs' Mo):RndM (ps.map (mpR f)) k (rs'.map (mpR f)) Mo:=by
  obtain ⟨rs,M,s,hM,g⟩:=g
  exact ⟨_,M,setM_map h s,hM,go_map h g⟩
end
inductive SwL:List Rl → List Rl → Prop
  | nil:SwL [] []
  | same (p:Rl) {a b:List Rl}:SwL a b → SwL (p :: a) (p :: b)
  | turn (p:Rl) {a b:List Rl}:SwL a b → SwL ((p.2,p.1) :: a) (p :: b)
theorem SwL.refl:∀ a,SwL a a
  | []=>.nil
  | p :: a=>.same p (SwL.refl a)
theorem SwL.app {a b:List Rl} (h:SwL a b) (c:List Rl):SwL (a ++ c) (b ++ c):=by
  induction h with
  | nil=>exact SwL.refl c
  | same p _ ih=>exact .same p ih
  | turn p _ ih=>exact .turn p ih
theorem latF_swap {a b:Wd} (h:a ≠ b):latF a b = latF b a:=by
  unfold latF
  cases e:bef a b with
  | true =>
    cases e2:bef b a with
    | true=>exact absurd (bef_asym e e2) id
    | false=>rfl
  | false=>rw [bef_tot e h]; rfl
theorem stlM_swap {k A M Mf:Nat} {td rs out:List Rl} (s:StlM k A M td rs out Mf):∀ {td'},SwL td' td → StlM k A M td' rs out Mf:=by
  induction s with
  | done A M rs=>intro td' h; cases h; exact .done A M rs
  | @same k A M Mf p td rs out g ss1 ss2 d1 d2 hl _ ih =>
    intro td' h
    cases h with
    | same _ h=>exact .same d1 d2 hl (ih h)
    | turn _ h=>exact .same d2 d1 (by lia) (ih h)
  | @fresh k A M Mf p td rs out g1 g2 ss1 ss2 d1 d2 hne hl _ ih =>
    intro td' h
    cases h with
    | same _ h=>exact .fresh d1 d2 hne hl (ih (h.app _))
    | turn _ h =>
      refine .fresh d2 d1 (Ne.symm hne) (by lia) ?_
      rw [Nat.add_comm ss2.length ss1.length,latF_swap (Ne.symm hne)]
      exact ih (h.app _)
theorem rndM_swap {ps ps':List Rl} {k:Nat} {rs':List Rl} {Mo:Nat} (g:RndM ps k rs' Mo) (h:SwL ps' ps):RndM ps' k rs' Mo:=by
  obtain ⟨rs,M,⟨j,out,Mf,s,h1,h2,e⟩,hM,g⟩:=g
  exact ⟨rs,M,⟨j,out,Mf,stlM_swap s h,h1,h2,e⟩,hM,g⟩
theorem allX_iff {q:Rl → Bool}:∀ {l:List Rl},allX q l = true ↔ ∀ r ∈ l,q r = true
  | []=>⟨fun _ _ z=>(nomatch z),fun _=>rfl⟩
  | r :: l=>by
    show (Bool.rec false (allX q l) (q r):Bool) = true ↔ _
    cases e:q r with
    | false=>exact ⟨(fun z=>by cases z),fun z=>absurd (z r List.mem_cons_self) (by rw [e]; exact Bool.false_ne_true)⟩
    | true =>
      show allX q l = true ↔ _
      rw [allX_iff]
      exact ⟨fun z x hx=>(List.mem_cons.mp hx).elim (fun y=>by rw [y]; exact e) (z x),fun z x hx=>z x (List.mem_cons_of_mem _ hx)⟩
theorem mem_prsOf:∀ {l:List Wd} {u v:Wd},u ∈ l → v ∈ l → (u,v) ∈ prsOf l ∨ (v,u) ∈ prsOf l
  | w :: t,u,v,hu,hv=>by
    unfold prsOf
    simp only [List.mem_append,List.mem_map]
    rcases List.mem_cons.mp hu with z | z
    · subst z; exact .inl (.inl ⟨v,hv,rfl⟩)
    · rcases List.mem_cons.mp hv with y | y
      · subst y; exact .inr (.inl ⟨u,hu,rfl⟩)
      · exact (mem_prsOf z y).imp .inr .inr
end Sg
namespace Sg
theorem down_less {rs:List Rl} {al:Wd} {n:Nat} (g:Good rs al n) {u f:Wd} {ss:List (Nat × Nat)} (d:Down rs u f ss):Over al u → Over al f ∧ f.length ≤ u.length ∧ ss.length + rank al f ≤ rank al u:=by
  induction d with
  | done _=>intro h; exact ⟨h,Nat.le_refl _,by simp⟩
  | step e _ ih =>
    intro h
    obtain ⟨h1,h2,h3,h4,_⟩:=first_at g e
    obtain ⟨k1,k2,k3⟩:=ih (app_small g h h2)
    have:=app_rank g h e
    have:=app_len g (p:=_) h2 h4
    refine ⟨k1,by lia,?_⟩
    rw [List.length_cons]
    lia
def valW (v:Nat → Nat):Wd → Nat
  | []=>0
  | c :: t=>v c * 2 ^ t.length + valW v t
theorem valW_app (v:Nat → Nat):∀ a b:Wd,valW v (a ++ b) = valW v a * 2 ^ b.length + valW v b
  | [],b=>by simp [valW]
  | c :: a,b=>by
    show v c * 2 ^ (a ++ b).length + valW v (a ++ b) = (v c * 2 ^ a.length + valW v a) * 2 ^ b.length + valW v b
    rw [valW_app v a b,List.length_append,Nat.pow_add,Nat.add_mul,Nat.mul_assoc,Nat.add_assoc]
theorem valW_le {v:Nat → Nat} {m:Nat} (h:∀ c,v c ≤ m):∀ w:Wd,valW v w ≤ m * 2 ^ w.length
  | []=>Nat.zero_le _
  | c :: t=>by
    have h1:=valW_le h t
    have h2:v c * 2 ^ t.length ≤ m * 2 ^ t.length:=Nat.mul_le_mul_right _ (h c)
    show v c * 2 ^ t.length + valW v t ≤ m * 2 ^ (t.length + 1)
    rw [Nat.pow_succ,← Nat.mul_assoc]
    lia
def cN (m:Nat):Nat → Nat
  | 0=>0
  | n + 1=>cN m n + m * 2 ^ n + 1
theorem cN_up (m:Nat) {a b:Nat} (h:a < b):cN m a + m * 2 ^ a + 1 ≤ cN m b:=by
  induction h with
  | refl=>exact Nat.le_refl _
  | step _ ih =>
    refine Nat.le_trans ih ?_
    show _ ≤ cN m _ + m * 2 ^ _ + 1
    lia
theorem cN_mono (m:Nat) {a b:Nat} (h:a ≤ b):cN m a ≤ cN m b:=by
  rcases Nat.lt_or_eq_of_le h with z | z
  · have:=cN_up m z; lia
  · rw [z]; exact Nat.le_refl _
def phi (v:Nat → Nat) (m:Nat) (w:Wd):Nat:=cN m w.length + valW v w
def PotR (v:Nat → Nat) (rs:List Rl):Prop:=∀ r ∈ rs,r.2.length < r.1.length ∨ r.2.length = r.1.length ∧ valW v r.2 < valW v r.1
theorem phi_less {v:Nat → Nat} {m:Nat} (h:∀ c,v c ≤ m) {r:Rl} (hr:r.2.length < r.1.length ∨ r.2.length = r.1.length ∧ valW v r.2 < valW v r.1) (a b:Wd):phi v m (a ++ r.2 ++ b) < phi v m (a ++ r.1 ++ b):=by
  unfold phi
  rcases hr with z | ⟨e,z⟩
  · have hl:(a ++ r.2 ++ b).length < (a ++ r.1 ++ b).length:=by simp only [List.length_append]; lia
    have h1:=cN_up m hl
    have h2:=valW_le h (a ++ r.2 ++ b)
    lia
  · have hl:(a ++ r.2 ++ b).length = (a ++ r.1 ++ b).length:=by simp only [List.length_append]; lia
    rw [hl,valW_app,valW_app,valW_app,valW_app,e]
    have:(valW v a * 2 ^ r.1.length + valW v r.2) * 2 ^ b.length < (valW v a * 2 ^ r.1.length + valW v r.1) * 2 ^ b.length:=Nat.mul_lt_mul_of_pos_right (by lia) (Nat.pow_pos (by decide))
    lia
theorem down_phi {rs:List Rl} {al:Wd} {n:Nat} (g:Good rs al n) {v:Nat → Nat} {m:Nat} (h:∀ c,v c ≤ m) (hp:PotR v rs) {u f:Wd} {ss:List (Nat × Nat)} (d:Down rs u f ss):ss.length + phi v m f ≤ phi v m u:=by
  induction d with
  | done _=>simp
  | @step w p i f ss e _ ih =>
    obtain ⟨h1,h2,h3,h4,_⟩:=first_at g e
    have:=phi_less h (hp _ (getD_mem h2)) (w.take p) (w.drop (p + (rs.getD i ([],[])).1.length))
    rw [← split_at h3 h4] at this
    have e2:phi v m (app rs w p i) < phi v m w:=this
    rw [List.length_cons]
    lia
theorem pot_nf {rs:List Rl} {al:Wd} {n:Nat} (g:Good rs al n) {v:Nat → Nat} {m:Nat} (h:∀ c,v c ≤ m) (hp:PotR v rs):PotR v (rs.map fun r=>(r.1,nf rs r.2)):=fun q hq=>by
  obtain ⟨r,hr,rfl⟩:=List.mem_map.mp hq
  obtain ⟨f,ss,d⟩:=down_ex g _ r.2 (Nat.le_refl _) (g.sm r hr).2
  have h1:=(down_less g d (g.sm r hr).2).2.1
  have h2:=down_phi g h hp d
  show (nf rs r.2).length < r.1.length ∨ (nf rs r.2).length = r.1.length ∧ valW v (nf rs r.2) < valW v r.1
  rw [nf_of d]
  rcases hp r hr with z | ⟨e,z⟩
  · exact .inl (by lia)
  · by_cases hl:f.length < r.1.length
    · exact .inl hl
    · refine .inr ⟨by lia,?_⟩
      unfold phi at h2
      rw [show f.length = r.2.length by lia] at h2
      lia
def PotOk (rs:List Rl) (Mo:Nat):Prop:=∃ (v:Nat → Nat) (m:Nat),(∀ c,v c ≤ m) ∧ PotR v rs ∧ (4156 * m + 16) * Mo ≤ 5000000
noncomputable def digX (v1 v2 c:Nat):Nat:=Bool.rec (Bool.rec v2 v1 (Nat.beq c 1)) 0 (Nat.beq c 0)
noncomputable def valX (v1 v2:Nat) (w:Wd):Nat → Nat:=List.rec (motive:=fun _=>Nat → Nat) (fun acc=>acc) (fun c _ ih acc=>ih (2 * acc + digX v1 v2 c)) w
noncomputable def potX (v1 v2:Nat) (rs:List Rl):Bool:=List.rec (motive:=fun _=>Bool) true (fun r _ ih=>Bool.rec (Bool.rec false ih (Nat.blt (valX v1 v2 r.2 0) (valX v1 v2 r.1 0))) ih (Nat.blt r.2.length r.1.length)) rs
noncomputable def potL (v1 v2 L:Nat) (rs:List Rl) (M:Nat):Bool:=Bool.rec false (potX v1 v2 rs) (Nat.ble M L)
noncomputable def e1 (_:List Rl) (M:Nat):Bool:=Nat.ble M 1000
noncomputable def e2 (rs:List Rl) (M:Nat):Bool:=Bool.rec (Bool.rec (Bool.rec (potL 3 5 240 rs M) true (potL 3 4 300 rs M)) true (potL 1 3 400 rs M)) true (potL 1 2 600 rs M)
noncomputable def no2w (w:Wd):Bool:=List.rec (motive:=fun _=>Bool) true (fun c _ ih=>Bool.rec ih false (Nat.beq c 2)) w
noncomputable def no2 (F:List Wd):Bool:=List.rec (motive:=fun _=>Bool) true (fun w _ ih=>Bool.rec false ih (no2w w)) F
noncomputable def fl1 (_:List Rl) (_:List Wd):Bool:=true
noncomputable def fl2 (rs:List Rl) (F:List Wd):Bool:=Bool.rec false (potX 1 2 rs) (no2 F)
theorem digX_le {v1 v2 m:Nat} (h1:v1 ≤ m) (h2:v2 ≤ m) (c:Nat):digX v1 v2 c ≤ m:=by
  unfold digX
  cases Nat.beq c 0 <;> cases Nat.beq c 1 <;> first | exact h1 | exact h2 | exact Nat.zero_le _
theorem valX_eq (v1 v2:Nat):∀ (w:Wd) (acc:Nat),valX v1 v2 w acc = acc * 2 ^ w.length + valW (digX v1 v2) w
  | [],acc=>by show acc = _; simp [valW]
  | c :: t,acc=>by
    show valX v1 v2 t (2 * acc + digX v1 v2 c) = acc * 2 ^ (t.length + 1) + (digX v1 v2 c * 2 ^ t.length + valW (digX v1 v2) t)
    rw [valX_eq v1 v2 t,Nat.add_mul,Nat.pow_succ,Nat.add_assoc]
    congr 1
    rw [Nat.mul_comm 2 acc,Nat.mul_assoc,Nat.mul_comm 2 (2 ^ t.length)]
theorem potX_ok {v1 v2:Nat}:∀ {rs:List Rl},potX v1 v2 rs = true → (∀ r ∈ rs,r.2.length ≤ r.1.length) → PotR (digX v1 v2) rs
  | [],_,_,_,z=>(nomatch z)
  | r :: rs,h,hl,q,hq=>by
    have h':(Bool.rec (Bool.rec false (potX v1 v2 rs) (Nat.blt (valX v1 v2 r.2 0) (valX v1 v2 r.1 0))) (potX v1 v2 rs) (Nat.blt r.2.length r.1.length):Bool) = true:=h
    have hl':∀ r ∈ rs,r.2.length ≤ r.1.length:=fun x hx=>hl x (List.mem_cons_of_mem _ hx)
    cases e:Nat.blt r.2.length r.1.length with
    | true =>
      rw [e] at h'
      rcases List.mem_cons.mp hq with z | z
      · subst z; rw [blt_eq] at e; exact .inl (of_decide_eq_true e)
      · exact potX_ok h' hl' q z
    | false =>
      rw [e] at h'
      have h':(Bool.rec false (potX v1 v2 rs) (Nat.blt (valX v1 v2 r.2 0) (valX v1 v2 r.1 0)):Bool) = true:=h'
      cases e3:Nat.blt (valX v1 v2 r.2 0) (valX v1 v2 r.1 0) with
      | false=>rw [e3] at h'; cases h'
      | true =>
        rw [e3] at h'
        rcases List.mem_cons.mp hq with z | z
        · subst z
          rw [blt_eq,valX_eq,valX_eq,Nat.zero_mul,Nat.zero_mul,Nat.zero_add,Nat.zero_add] at e3
          rw [blt_eq] at e
          have:=of_decide_eq_false e
          have:=hl q List.mem_cons_self
          exact .inr ⟨by lia,of_decide_eq_true e3⟩
        · exact potX_ok h' hl' q z
theorem good_len {rs:List Rl} {al:Wd} {n:Nat} (g:Good rs al n):∀ r ∈ rs,r.2.length ≤ r.1.length:=fun r hr=>bef_len (g.bf r hr)
theorem potL_ok {v1 v2 L m:Nat} (h1:v1 ≤ m) (h2:v2 ≤ m) (hL:(4156 * m + 16) * L ≤ 5000000) {rs:List Rl} {M:Nat} (h:potL v1 v2 L rs M = true) (hl:∀ r ∈ rs,r.2.length ≤ r.1.length):M ≤ L ∧ PotOk rs M:=by
  have h':(Bool.rec false (potX v1 v2 rs) (Nat.ble M L):Bool) = true:=h
  cases e:Nat.ble M L with
  | false=>rw [e] at h'; cases h'
  | true =>
    rw [e] at h'
    have hM:=Nat.le_of_ble_eq_true e
    exact ⟨hM,digX v1 v2,m,digX_le h1 h2,potX_ok h' hl,Nat.le_trans (Nat.mul_le_mul_left _ hM) hL⟩
theorem e2_ok {rs:List Rl} {M:Nat} (h:e2 rs M = true):M ≤ 600 ∧ ((∀ r ∈ rs,r.2.length ≤ r.1.length) → PotOk rs M):=by
  have lim:∀ {v1 v2 L:Nat},potL v1 v2 L rs M = true → M ≤ L:=fun {v1 v2 L} z=>by
    have h':(Bool.rec false (potX v1 v2 rs) (Nat.ble M L):Bool) = true:=z
    cases e:Nat.ble M L with
    | false=>rw [e] at h'; cases h'
    | true=>exact Nat.le_of_ble_eq_true e
  unfold e2 at h
  cases a:potL 1 2 600 rs M with
  | true=>exact ⟨lim a,fun hl=>(potL_ok (m:=2) (by decide) (by decide) (by decide) a hl).2⟩
  | false =>
    rw [a] at h
    cases b:potL 1 3 400 rs M with
    | true=>exact ⟨Nat.le_trans (lim b) (by decide),fun hl=>(potL_ok (m:=3) (by decide) (by decide) (by decide) b hl).2⟩
    | false =>
      rw [b] at h
      cases c:potL 3 4 300 rs M with
      | true=>exact ⟨Nat.le_trans (lim c) (by decide),fun hl=>(potL_ok (m:=4) (by decide) (by decide) (by decide) c hl).2⟩
      | false =>
        rw [c] at h
        have h:potL 3 5 240 rs M = true:=h
        exact ⟨Nat.le_trans (lim h) (by decide),fun hl=>(potL_ok (m:=5) (by decide) (by decide) (by decide) h hl).2⟩
theorem no2w_ok:∀ {w:Wd},no2w w = true → ∀ c ∈ w,c ≠ 2
  | [],_,_,z=>(nomatch z)
  | d :: w,h,c,hc=>by
    have h':(Bool.rec (no2w w) false (Nat.beq d 2):Bool) = true:=h
    cases e:Nat.beq d 2 with
    | true=>rw [e] at h'; cases h'
    | false =>
      rw [e] at h'
      rcases List.mem_cons.mp hc with z | z
      · subst z; exact fun y=>by rw [y] at e; cases e
      · exact no2w_ok h' c z
theorem no2_ok:∀ {F:List Wd},no2 F = true → ∀ w ∈ F,∀ c ∈ w,c ≠ 2
  | [],_,_,z=>(nomatch z)
  | u :: F,h,w,hw=>by
    have h':(Bool.rec false (no2 F) (no2w u):Bool) = true:=h
    cases e:no2w u with
    | false=>rw [e] at h'; cases h'
    | true =>
      rw [e] at h'
      rcases List.mem_cons.mp hw with z | z
      · subst z; exact no2w_ok e
      · exact no2_ok h' w z
theorem bin_le:∀ {w:Wd},(∀ c ∈ w,c ≤ 1) → valW (digX 1 2) w + 1 ≤ 2 ^ w.length
  | [],_=>Nat.le_refl _
  | c :: w,h=>by
    have ih:=bin_le fun x hx=>h x (List.mem_cons_of_mem _ hx)
    have hc:=h c List.mem_cons_self
    show digX 1 2 c * 2 ^ w.length + valW (digX 1 2) w + 1 ≤ 2 ^ (w.length + 1)
    have hd:digX 1 2 c ≤ 1:=by
      have:c = 0 ∨ c = 1:=by lia
      rcases this with z | z <;> subst z <;> decide
    have:digX 1 2 c * 2 ^ w.length ≤ 1 * 2 ^ w.length:=Nat.mul_le_mul_right _ hd
    rw [Nat.pow_succ]
    lia
theorem bin_lt:∀ {a b:Wd},a.length = b.length → (∀ c ∈ a,c ≤ 1) → (∀ c ∈ b,c ≤ 1) → a < b → valW (digX 1 2) a < valW (digX 1 2) b
  | [],[],_,_,_,h=>absurd h (List.lt_irrefl _)
  | [],_ :: _,e,_,_,_=>by cases e
  | _ :: _,[],e,_,_,_=>by cases e
  | c :: a,d :: b,e,ha,hb,h=>by
    have el:a.length = b.length:=Nat.succ.inj e
    have ha':∀ x ∈ a,x ≤ 1:=fun x hx=>ha x (List.mem_cons_of_mem _ hx)
    have hb':∀ x ∈ b,x ≤ 1:=fun x hx=>hb x (List.mem_cons_of_mem _ hx)
    show digX 1 2 c * 2 ^ a.length + valW (digX 1 2) a < digX 1 2 d * 2 ^ b.length + valW (digX 1 2) b
    rw [el]
    rcases List.cons_lt_cons_iff.mp h with z | ⟨z,y⟩
    · have h1:=ha c List.mem_cons_self
      have h2:=hb d List.mem_cons_self
      have hc:c = 0:=by lia
      have hd:d = 1:=by lia
      subst hc; subst hd
      have:=bin_le ha'
      rw [el] at this
      have e0:digX 1 2 0 = 0:=rfl
      have e1:digX 1 2 1 = 1:=rfl
      rw [e0,e1]
      lia
    · subst z
      have:=bin_lt el ha' hb' y
      lia
theorem pot_bin {l r:Wd} (hl:∀ c ∈ l,c ≤ 1) (hr:∀ c ∈ r,c ≤ 1) (h:bef r l = true):r.length < l.length ∨ r.length = l.length ∧ valW (digX 1 2) r < valW (digX 1 2) l:=by
  unfold bef at h
  by_cases e:r.length = l.length
  · rw [if_pos e] at h
    exact .inr ⟨e,bin_lt e hr hl (of_decide_eq_true h)⟩
  · rw [if_neg e] at h
    exact .inl (of_decide_eq_true h)
theorem valW_map {f v v':Nat → Nat}:∀ {w:Wd},(∀ c ∈ w,v' (f c) = v c) → valW v' (w.map f) = valW v w
  | [],_=>rfl
  | c :: w,h=>by
    show v' (f c) * 2 ^ (w.map f).length + valW v' (w.map f) = _
    rw [h c List.mem_cons_self,valW_map fun x hx=>h x (List.mem_cons_of_mem _ hx),List.length_map]
    rfl
theorem potOk_map {f:Nat → Nat} (hf:Mono f) {rs:List Rl} {Mo:Nat} {n:Nat} (g:Good rs [0,1,2] n) (h:PotOk rs Mo):PotOk (rs.map (mpR f)) Mo:=by
  obtain ⟨v,m,h1,h2,h3⟩:=h
  have hv:∀ c ∈ [0,1,2],(fun c=>if c = f 0 then v 0 else if c = f 1 then v 1 else v 2) (f c) = v c:=fun c hc=>by
    simp only [List.mem_cons,List.not_mem_nil,or_false] at hc
    have n01:f 1 ≠ f 0:=fun z=>by have:=hf.inj z; lia
    have n02:f 2 ≠ f 0:=fun z=>by have:=hf.inj z; lia
    have n12:f 2 ≠ f 1:=fun z=>by have:=hf.inj z; lia
    rcases hc with z | z | z <;> subst z <;> simp [n01,n02,n12]
  refine ⟨fun c=>if c = f 0 then v 0 else if c = f 1 then v 1 else v 2,m,fun c=>?_,fun q hq=>?_,h3⟩
  · dsimp only
    split
    · exact h1 0
    · split
      · exact h1 1
      · exact h1 2
  · obtain ⟨r,hr,rfl⟩:=List.mem_map.mp hq
    have o1:=(g.sm r hr).1
    have o2:=(g.sm r hr).2
    show (r.2.map f).length < (r.1.map f).length ∨ (r.2.map f).length = (r.1.map f).length ∧ valW _ (r.2.map f) < valW _ (r.1.map f)
    rw [List.length_map,List.length_map,valW_map fun c hc=>hv c (o1 c hc),valW_map fun c hc=>hv c (o2 c hc)]
    exact h2 r hr
end Sg
namespace Sg
noncomputable def memX (f:Wd) (l:List Wd):Bool:=List.rec (motive:=fun _=>Bool) false (fun a _ ih=>Bool.rec ih true (eqX f a)) l
noncomputable def fmB (rs:List Rl) (ws:List Wd):List Wd → Nat → (List Wd → Nat → Bool) → Bool :=
  List.rec (motive:=fun _=>List Wd → Nat → (List Wd → Nat → Bool) → Bool) (fun acc S K=>K acc S) (fun w _ ih acc S K=>grB rs 60 w 0 fun f n=>selN S n fun S'=>Bool.rec (ih (f :: acc) S' K) (ih acc S' K) (memX f acc)) ws
noncomputable def befT (K:Wd → Bool) (l:Wd) (ws:List Wd):Bool:=List.rec (motive:=fun _=>Bool) true (fun r _ ih=>Bool.rec ih (Bool.rec false ih (K r)) (befX r l)) ws
noncomputable def allT (g:Wd → Bool) (K:Wd → Wd → Bool) (F ws:List Wd):Bool:=List.rec (motive:=fun _=>Bool) true (fun l _ ih=>Bool.rec ih (Bool.rec false ih (befT (K l) l F)) (g l)) ws
noncomputable def fin3 (L:Nat) (e:List Rl → Nat → Bool) (out:List Rl) (M:Nat):Bool:=Bool.rec (rtB out out 0 fun _ m=>e out (M * (1 + m))) true (Bool.rec false (e out (M * 40)) (Nat.ble (M * 40) L))
noncomputable def thd (L:Nat) (e:List Rl → Nat → Bool) (fl:List Rl → List Wd → Bool) (rs t:List Rl) (M:Nat):Bool:=fmB rs (menuW 1) [] 0 fun F S=>selN M (1 + (S + S) * M) fun M'=>Bool.rec false
  (List.rec (motive:=fun _=>Bool) (Bool.rec (allT (fun _=>true) (fun l r=>nxtX [] rs l r fun t' rs'=>stB 20 t' rs' M M' (fin3 L e)) F F) (allT (fun l=>anyOcc l rs) (fun l r=>nxtX [] rs l r fun t' rs'=>stB 20 t' rs' M M' (fin3 L e)) F F) (Bool.rec false (fl rs F) (Nat.ble (M' * 40) L)))
    (fun p t _=>allT (fun _=>true) (fun l r=>nxtX (p :: t) rs l r fun t' rs'=>stB 20 t' rs' M M' (fin3 L e)) F F) t) (stB 20 t rs 1 M (fin3 L e))
noncomputable def scd (L:Nat) (e:List Rl → Nat → Bool) (fl:List Rl → List Wd → Bool) (b:Nat) (rs:List Rl):Bool:=fmB rs (menuW b) [] 0 fun F S=>Bool.rec false (allT (fun _=>true) (fun l r=>nxtX [] rs l r fun t rs'=>thd L e fl rs' t (1 + (S + S))) F F) (thd L e fl rs [] 1)
noncomputable def sc1 (rs:List Rl):Bool:=scd 1000 e1 fl1 1 rs
noncomputable def sc2 (rs:List Rl):Bool:=scd 600 e2 fl2 2 rs
noncomputable def fst3 (f:List Rl → Bool) (l:List Rl):Bool:=allX (fun p=>frcL [p] fun rs=>f rs) l
noncomputable def rulesM:List Rl:=filX (fun p=>not (eqX p.1 p.2)) ((prsOf (menuW 1)).map fun p=>Bool.rec (p.1,p.2) (p.2,p.1) (befX p.1 p.2))
end Sg
namespace Sg
theorem memX_mem {f:Wd}:∀ {l:List Wd},memX f l = true → f ∈ l
  | [],h=>by cases h
  | a :: l,h=>by
    have h':(Bool.rec (memX f l) true (eqX f a):Bool) = true:=h
    cases e:eqX f a with
    | true=>rw [eqX_iff.mp e]; exact List.mem_cons_self
    | false=>rw [e] at h'; exact List.mem_cons_of_mem _ (memX_mem h')
theorem fmB_ok {rs:List Rl} {K:List Wd → Nat → Bool}:∀ {ws acc:List Wd} {S:Nat},fmB rs ws acc S K = true → ∃ F S',K F S' = true ∧ S ≤ S' ∧ (∀ a ∈ acc,a ∈ F) ∧ ∀ w ∈ ws,∃ f ss,Down rs w f ss ∧ ss.length ≤ S' ∧ ss.length ≤ 60 ∧ f ∈ F
  | [],acc,S,h=>⟨acc,S,h,Nat.le_refl _,fun _ z=>z,fun _ z=>(nomatch z)⟩
  | w :: ws,acc,S,h=>by
    have h':(grB rs 60 w 0 fun f n=>selN S n fun S'=>Bool.rec (fmB rs ws (f :: acc) S' K) (fmB rs ws acc S' K) (memX f acc)) = true:=h
    obtain ⟨f,ss,d,hl,h1⟩:=grB_ok2 60 h'
    rw [Nat.zero_add,selN_eq] at h1
    cases e2:memX f acc with
    | true =>
      rw [e2] at h1
      obtain ⟨F,S',k1,k0,k2,k3⟩:=fmB_ok (show fmB rs ws acc (max S ss.length) K = true from h1)
      refine ⟨F,S',k1,by lia,k2,fun x hx=>?_⟩
      rcases List.mem_cons.mp hx with z | z
      · subst z; exact ⟨f,ss,d,by lia,hl,k2 f (memX_mem e2)⟩
      · exact k3 x z
    | false =>
      rw [e2] at h1
      obtain ⟨F,S',k1,k0,k2,k3⟩:=fmB_ok (show fmB rs ws (f :: acc) (max S ss.length) K = true from h1)
      refine ⟨F,S',k1,by lia,fun a ha=>k2 a (List.mem_cons_of_mem _ ha),fun x hx=>?_⟩
      rcases List.mem_cons.mp hx with z | z
      · subst z; exact ⟨f,ss,d,by lia,hl,k2 f List.mem_cons_self⟩
      · exact k3 x z
theorem befT_ok {K:Wd → Bool} {l:Wd}:∀ {ws:List Wd},befT K l ws = true → ∀ r ∈ ws,bef r l = true → K r = true
  | [],_,_,z=>(nomatch z)
  | r :: ws,h,q,hq=>by
    have h':(Bool.rec (befT K l ws) (Bool.rec false (befT K l ws) (K r)) (befX r l):Bool) = true:=h
    intro hb
    cases e:befX r l with
    | false =>
      rw [e] at h'
      rcases List.mem_cons.mp hq with z | z
      · subst z; rw [befX_eq,hb] at e; cases e
      · exact befT_ok h' q z hb
    | true =>
      rw [e] at h'
      have h':(Bool.rec false (befT K l ws) (K r):Bool) = true:=h'
      cases e2:K r with
      | false=>rw [e2] at h'; cases h'
      | true =>
        rw [e2] at h'
        rcases List.mem_cons.mp hq with z | z
        · subst z; exact e2
        · exact befT_ok h' q z hb
theorem allT_ok {g:Wd → Bool} {K:Wd → Wd → Bool} {F:List Wd}:∀ {ws:List Wd},allT g K F ws = true → ∀ l ∈ ws,g l = true → ∀ r ∈ F,bef r l = true → K l r = true
  | [],_,_,z=>(nomatch z)
  | l :: ws,h,q,hq=>by
    have h':(Bool.rec (allT g K F ws) (Bool.rec false (allT g K F ws) (befT (K l) l F)) (g l):Bool) = true:=h
    intro hg
    cases e:g l with
    | false =>
      rw [e] at h'
      rcases List.mem_cons.mp hq with z | z
      · subst z; rw [hg] at e; cases e
      · exact allT_ok h' q z hg
    | true =>
      rw [e] at h'
      have h':(Bool.rec false (allT g K F ws) (befT (K l) l F):Bool) = true:=h'
      cases e2:befT (K l) l F with
      | false=>rw [e2] at h'; cases h'
      | true =>
        rw [e2] at h'
        rcases List.mem_cons.mp hq with z | z
        · subst z; exact befT_ok e2
        · exact allT_ok h' q z hg
theorem stlM_mono {k A M Mf:Nat} {td rs out:List Rl} (s:StlM k A M td rs out Mf):∀ {A' M'},A' ≤ A → M' ≤ M → ∃ Mf',Mf' ≤ Mf ∧ StlM k A' M' td rs out Mf':=by
  induction s with
  | done A M rs=>intro A' M' _ h; exact ⟨M',h,.done _ _ _⟩
  | same d1 d2 hl _ ih =>
    intro A' M' ha h
    obtain ⟨Mf',h1,h2⟩:=ih ha h
    exact ⟨Mf',h1,.same d1 d2 hl h2⟩
  | @fresh k A M Mf p td rs out f g ss1 ss2 d1 d2 hne hl _ ih =>
    intro A' M' ha h
    have hm:(ss1.length + ss2.length) * M' ≤ (ss1.length + ss2.length) * M:=Nat.mul_le_mul_left _ h
    obtain ⟨Mf',h1,h2⟩:=ih (A':=max A' M') (M':=max M' (A' + (ss1.length + ss2.length) * M')) (by lia) (by lia)
    exact ⟨Mf',h1,.fresh d1 d2 hne hl h2⟩
theorem latF_le (f g:Wd) (h:f ≠ g):bef (latF f g).2 (latF f g).1 = true:=by
  unfold latF
  cases e:bef f g with
  | true=>rw [if_pos rfl]; exact e
  | false=>rw [if_neg Bool.false_ne_true]; exact bef_tot e h
theorem good_put {rs:List Rl} {al:Wd} {n:Nat} (g:Good rs al n) {f1 f2:Wd} (hne:f1 ≠ f2) (o1:Over al f1) (o2:Over al f2) (l1:f1.length ≤ n) (l2:f2.length ≤ n) (c:Rl → Bool):Good (putIn (rs.filter c) (latF f1 f2)) al n:=by
  refine good_new g (fun r hr=>?_) (latF_le f1 f2 hne) ?_ ?_ ?_
  · have:=(putIn_perm _ _).mem_iff.mp hr
    rcases List.mem_cons.mp this with z | z
    · exact .inl z
    · exact .inr ((List.mem_filter.mp z).1)
  all_goals
    unfold latF
    split <;> assumption
theorem stlM_good {k A M Mf:Nat} {td rs out:List Rl} {al:Wd} {n:Nat} (s:StlM k A M td rs out Mf):Good rs al n → (∀ p ∈ td,Wok al n p) → Good out al n:=by
  induction s with
  | done A M rs=>intro g _; exact g
  | same d1 d2 _ _ ih=>intro g h; exact ih g fun p hp=>h p (List.mem_cons_of_mem _ hp)
  | @fresh k A M Mf p td rs out f1 f2 ss1 ss2 d1 d2 hne _ _ ih =>
    intro g h
    obtain ⟨w1,w2,w3,w4⟩:=h p List.mem_cons_self
    obtain ⟨a1,a2,_⟩:=down_less g d1 w1
    obtain ⟨b1,b2,_⟩:=down_less g d2 w2
    refine ih (good_put g hne a1 b1 (by lia) (by lia) _) fun q hq=>?_
    rcases List.mem_append.mp hq with z | z
    · exact h q (List.mem_cons_of_mem _ z)
    · exact g.wok ((List.mem_filter.mp z).1)
abbrev al3:Wd:=[0,1,2]
inductive EndOk (E:List Rl → Nat → Prop) (out:List Rl) (Mf:Nat):Prop
  | mk (Mo:_) (h1_:Mo ≤ 1000) (h2_:E out Mo) (h3_:Mf ≤ Mo) (h4_:∀ r ∈ out,∀ f ss,Down out r.2 f ss → Mf * (1 + ss.length) ≤ Mo):EndOk E out Mf
section
variable {E:List Rl → Nat → Prop} {e:List Rl → Nat → Bool} {fl:List Rl → List Wd → Bool} {L:Nat}
theorem EndOk.mono {out:List Rl} {M M':Nat} (h:EndOk E out M) (hm:M' ≤ M):EndOk E out M':=by
  obtain ⟨Mo,h0,h1,h2,h3⟩:=h
  exact ⟨Mo,h0,h1,by lia,fun r hr f ss d=>Nat.le_trans (Nat.mul_le_mul_right _ hm) (h3 r hr f ss d)⟩
theorem end_small {out:List Rl} (g:Good out al3 3) {M:Nat} (h:M * 40 ≤ 1000) (hE:E out (M * 40)):EndOk E out M:=by
  refine ⟨M * 40,h,hE,by lia,fun r hr f ss d=>?_⟩
  obtain ⟨w1,w2,w3,w4⟩:=g.wok hr
  have h1:=(down_less g d w2).2.2
  have h2:=(rank_le w2).2
  have h3:geo al3.length r.2.length * al3.length ≤ 39:=by
    have:r.2.length = 0 ∨ r.2.length = 1 ∨ r.2.length = 2 ∨ r.2.length = 3:=by lia
    rcases this with z | z | z | z <;> rw [z] <;> decide
  exact Nat.mul_le_mul_left _ (by lia)
def EOk (e:List Rl → Nat → Bool) (E:List Rl → Nat → Prop):Prop:=∀ out Mo,Good out al3 3 → e out Mo = true → Mo ≤ 1000 ∧ E out Mo
def FOk (L:Nat) (fl:List Rl → List Wd → Bool) (E:List Rl → Nat → Prop):Prop:=∀ (rs:List Rl) (F:List Wd) (l r:Wd) (Mo:Nat),Good rs al3 3 → fl rs F = true → l ∈ F → r ∈ F → Over al3 l → Over al3 r → bef r l = true → Mo ≤ L → ∀ c:Rl → Bool,E (putIn (rs.filter c) (l,r)) Mo
theorem fin3_ok (he:EOk e E) {out:List Rl} {M:Nat} (h:fin3 L e out M = true) (g:Good out al3 3):EndOk E out M:=by
  have h':(Bool.rec (rtB out out 0 fun _ m=>e out (M * (1 + m))) true (Bool.rec false (e out (M * 40)) (Nat.ble (M * 40) L):Bool):Bool) = true:=h
  cases e0:(Bool.rec false (e out (M * 40)) (Nat.ble (M * 40) L):Bool) with
  | true =>
    have h3:e out (M * 40) = true:=by
      cases e6:Nat.ble (M * 40) L with
      | false=>rw [e6] at e0; cases e0
      | true=>rw [e6] at e0; exact e0
    obtain ⟨h1,h2⟩:=he _ _ g h3
    exact end_small g h1 h2
  | false =>
    rw [e0] at h'
    obtain ⟨m,_,h2,h3⟩:=rtB_ok out (show rtB out out 0 (fun _ m=>e out (M * (1 + m))) = true from h')
    obtain ⟨h4,h5⟩:=he _ _ g h3
    exact ⟨_,h4,h5,Nat.le_mul_of_pos_right _ (by lia),fun r hr f ss d=>Nat.mul_le_mul_left _ (by have:=h2 r hr f ss d; lia)⟩
end
theorem menu_wok {b:Nat} (hb:b = 1 ∨ b = 2):∀ w ∈ menuW b,Over al3 w ∧ w.length ≤ 3:=by
  rcases hb with z | z <;> subst z <;> (intro w hw; simp only [menuW,List.mem_cons,List.not_mem_nil,or_false] at hw; rcases hw with h | h | h | h | h | h | h | h | h | h | h | h | h | h <;> subst h <;> refine ⟨?_,by decide⟩ <;> intro c hc <;> simp at hc <;> (try rcases hc with h | h | h) <;> (try rcases hc with h | h) <;> simp_all)
theorem lat_two {f1 f2:Wd} (hne:f1 ≠ f2) {F:List Wd} (h1:f1 ∈ F) (h2:f2 ∈ F):(latF f1 f2).1 ∈ F ∧ (latF f1 f2).2 ∈ F ∧ bef (latF f1 f2).2 (latF f1 f2).1 = true:=by
  refine ⟨?_,?_,latF_le f1 f2 hne⟩ <;> (unfold latF; split <;> assumption)
theorem filter_no {rs:List Rl} {l:Wd} (h:anyOcc l rs = false):rs.filter (fun r=>occB l r.1) = []:=List.filter_eq_nil_iff.mpr fun r hr=>by rw [anyOcc_no h r hr]; exact Bool.false_ne_true
section
variable {E:List Rl → Nat → Prop} {e:List Rl → Nat → Bool} {fl:List Rl → List Wd → Bool} {L:Nat}
theorem thd_ok (hL:L ≤ 1000) (he:EOk e E) (hf:FOk L fl E) {rs t:List Rl} {M:Nat} (h:thd L e fl rs t M = true) (hM1:1 ≤ M) (g:Good rs al3 3) (ht:∀ p ∈ t,Wok al3 3 p) {u v:Wd} (hu:u ∈ menuW 1) (hv:v ∈ menuW 1):∃ j out Mf,StlM j 1 M ((u,v) :: t) rs out Mf ∧ EndOk E out Mf:=by
  unfold thd at h
  obtain ⟨F,S,h1,_,_,h3⟩:=fmB_ok h
  obtain ⟨f1,ss1,d1,s1,q1,m1⟩:=h3 u hu
  obtain ⟨f2,ss2,d2,s2,q2,m2⟩:=h3 v hv
  rw [selN_eq] at h1
  have hM:(ss1.length + ss2.length) * M ≤ (S + S) * M:=Nat.mul_le_mul_right _ (by lia)
  obtain ⟨uo,ul⟩:=menu_wok (.inl rfl) u hu
  obtain ⟨vo,vl⟩:=menu_wok (.inl rfl) v hv
  obtain ⟨a1,a2,_⟩:=down_less g d1 uo
  obtain ⟨b1,b2,_⟩:=down_less g d2 vo
  generalize hM':max M (1 + (S + S) * M) = M' at h1
  have fin:∀ {t' rs':List Rl},stB 20 t' rs' M M' (fin3 L e) = true → Good rs' al3 3 → (∀ p ∈ t',Wok al3 3 p) → ∃ j out Mf,StlM j (max 1 M) (max M (1 + (ss1.length + ss2.length) * M)) t' rs' out Mf ∧ EndOk E out Mf:=fun {t' rs'} hs hg hw=>by
    obtain ⟨j,out,Mf,s,hfe⟩:=stB_ok 20 hs
    obtain ⟨Mf',hm,s'⟩:=stlM_mono s (A':=max 1 M) (M':=max M (1 + (ss1.length + ss2.length) * M)) (by lia) (by lia)
    exact ⟨j,out,Mf',s',(fin3_ok he hfe (stlM_good s hg hw)).mono hm⟩
  cases e0:stB 20 t rs 1 M (fin3 L e) with
  | false=>rw [e0] at h1; cases h1
  | true =>
    rw [e0] at h1
    by_cases hne:f1 = f2
    · subst hne
      obtain ⟨j,out,Mf,s,hfe⟩:=stB_ok 20 e0
      exact ⟨j + 1,out,Mf,.same d1 d2 (by lia) s,fin3_ok he hfe (stlM_good s g ht)⟩
    · obtain ⟨l1,l2,l3⟩:=lat_two hne m1 m2
      have gp:∀ c:Rl → Bool,Good (putIn (rs.filter c) (latF f1 f2)) al3 3:=fun c=>good_put g hne a1 b1 (by lia) (by lia) c
      have next:(nxtX t rs (latF f1 f2).1 (latF f1 f2).2 fun t' rs'=>stB 20 t' rs' M M' (fin3 L e)) = true → ∃ j out Mf,StlM j 1 M ((u,v) :: t) rs out Mf ∧ EndOk E out Mf:=fun hn=>by
        rw [nxtX_eq] at hn
        obtain ⟨j,out,Mf,s,hfe⟩:=fin hn (gp _) (fun p hp=>(List.mem_append.mp hp).elim (ht p) fun z=>g.wok ((List.mem_filter.mp z).1))
        exact ⟨j + 1,out,Mf,.fresh d1 d2 hne (by lia) s,hfe⟩
      cases t with
      | cons p t =>
        exact next (allT_ok (show allT (fun _=>true) (fun l r=>nxtX (p :: t) rs l r fun t' rs'=>stB 20 t' rs' M M' (fin3 L e)) F F = true from h1) _ l1 rfl _ l2 l3)
      | nil =>
        have h2:(Bool.rec (allT (fun _=>true) (fun l r=>nxtX [] rs l r fun t' rs'=>stB 20 t' rs' M M' (fin3 L e)) F F) (allT (fun l=>anyOcc l rs) (fun l r=>nxtX [] rs l r fun t' rs'=>stB 20 t' rs' M M' (fin3 L e)) F F) (Bool.rec false (fl rs F) (Nat.ble (M' * 40) L):Bool):Bool) = true:=h1
        cases e4:(Bool.rec false (fl rs F) (Nat.ble (M' * 40) L):Bool) with
        | false =>
          rw [e4] at h2
          exact next (allT_ok (show allT (fun _=>true) (fun l r=>nxtX [] rs l r fun t' rs'=>stB 20 t' rs' M M' (fin3 L e)) F F = true from h2) _ l1 rfl _ l2 l3)
        | true =>
          rw [e4] at h2
          have h2:allT (fun l=>anyOcc l rs) (fun l r=>nxtX [] rs l r fun t' rs'=>stB 20 t' rs' M M' (fin3 L e)) F F = true:=h2
          cases e:anyOcc (latF f1 f2).1 rs with
          | true=>exact next (allT_ok h2 _ l1 e _ l2 l3)
          | false =>
            have e5:Nat.ble (M' * 40) L = true ∧ fl rs F = true:=by
              cases e6:Nat.ble (M' * 40) L with
              | false=>rw [e6] at e4; cases e4
              | true=>rw [e6] at e4; exact ⟨rfl,e4⟩
            have h40:=Nat.le_of_ble_eq_true e5.1
            have hle:max M (1 + (ss1.length + ss2.length) * M) ≤ M':=by lia
            have ol:Over al3 (latF f1 f2).1 ∧ Over al3 (latF f1 f2).2:=by
              unfold latF
              split <;> exact ⟨by assumption,by assumption⟩
            refine ⟨1,putIn (rs.filter fun r=>!occB (latF f1 f2).1 r.1) (latF f1 f2),max M (1 + (ss1.length + ss2.length) * M),.fresh d1 d2 hne (by lia) ?_,(end_small (gp _) (by lia) (hf rs F _ _ _ g e5.2 l1 l2 ol.1 ol.2 l3 h40 _)).mono hle⟩
            rw [filter_no e]
            exact .done _ _ _
theorem scd_ok (hL:L ≤ 1000) (he:EOk e E) (hf:FOk L fl E) {b:Nat} (hb:b = 1 ∨ b = 2) {rs:List Rl} (h:scd L e fl b rs = true) (g:Good rs al3 3) {u v u' v':Wd} (hu:u ∈ menuW b) (hv:v ∈ menuW b) (hu':u' ∈ menuW 1) (hv':v' ∈ menuW 1):∃ j out Mf,StlM j 1 1 [(u,v),(u',v')] rs out Mf ∧ EndOk E out Mf:=by
  unfold scd at h
  obtain ⟨F,S,h1,_,_,h3⟩:=fmB_ok h
  obtain ⟨f1,ss1,d1,s1,q1,m1⟩:=h3 u hu
  obtain ⟨f2,ss2,d2,s2,q2,m2⟩:=h3 v hv
  obtain ⟨uo,ul⟩:=menu_wok hb u hu
  obtain ⟨vo,vl⟩:=menu_wok hb v hv
  obtain ⟨uo',ul'⟩:=menu_wok (.inl rfl) u' hu'
  obtain ⟨vo',vl'⟩:=menu_wok (.inl rfl) v' hv'
  obtain ⟨a1,a2,_⟩:=down_less g d1 uo
  obtain ⟨b1,b2,_⟩:=down_less g d2 vo
  cases e0:thd L e fl rs [] 1 with
  | false=>rw [e0] at h1; cases h1
  | true =>
    rw [e0] at h1
    by_cases hne:f1 = f2
    · subst hne
      obtain ⟨j,out,Mf,s,hfe⟩:=thd_ok hL he hf e0 (Nat.le_refl _) g (fun _ z=>(nomatch z)) hu' hv'
      exact ⟨j + 1,out,Mf,.same d1 d2 (by lia) s,hfe⟩
    · obtain ⟨l1,l2,l3⟩:=lat_two hne m1 m2
      have hn:=allT_ok (show allT (fun _=>true) (fun l r=>nxtX [] rs l r fun t rs'=>thd L e fl rs' t (1 + (S + S))) F F = true from h1) _ l1 rfl _ l2 l3
      rw [nxtX_eq,List.nil_append] at hn
      have hg:=good_put g hne a1 b1 (by lia) (by lia) (fun r=>!occB (latF f1 f2).1 r.1)
      obtain ⟨j,out,Mf,s,hfe⟩:=thd_ok hL he hf hn (by lia) hg (fun p hp=>g.wok ((List.mem_filter.mp hp).1)) hu' hv'
      obtain ⟨Mf',hm,s'⟩:=stlM_mono s (A':=max 1 1) (M':=max 1 (1 + (ss1.length + ss2.length) * 1)) (by lia) (by lia)
      exact ⟨j + 1,out,Mf',.fresh d1 d2 hne (by lia) s',hfe.mono hm⟩
end
theorem first_nil (w:Wd):first [] w = none:=by
  unfold first
  exact firstF_none.mpr fun q _ _=>rfl
theorem end_rnd {E:List Rl → Nat → Prop} {ps:List Rl} {j Mf:Nat} {out:List Rl} (s:StlM j 1 1 ps [] out Mf) (h:EndOk E out Mf) (hn:∀ Mo,E out Mo → E (out.map fun r=>(r.1,nf out r.2)) Mo):∃ rs Mo,RndM ps 0 rs Mo ∧ Mo ≤ 1000 ∧ E rs Mo:=by
  obtain ⟨Mo,h0,h1,h2,h3⟩:=h
  exact ⟨_,Mo,⟨_,Mo,⟨j,out,Mf,s,h2,h3,rfl⟩,h0,.zero _ _⟩,h0,hn _ h1⟩
theorem e1_ok:EOk e1 fun _ _=>True:=fun _ _ _ h=>⟨Nat.le_of_ble_eq_true h,trivial⟩
theorem fl1_ok:FOk 1000 fl1 fun _ _=>True:=fun _ _ _ _ _ _ _ _ _ _ _ _ _ _=>trivial
theorem e2_okE:EOk e2 PotOk:=fun _ _ g h=>⟨Nat.le_trans (e2_ok h).1 (by decide),(e2_ok h).2 (good_len g)⟩
theorem fl2_ok:FOk 600 fl2 PotOk:=fun rs F l r Mo g h hl hr ol or' hb hM c=>by
  have h':(Bool.rec false (potX 1 2 rs) (no2 F):Bool) = true:=h
  cases e:no2 F with
  | false=>rw [e] at h'; cases h'
  | true =>
    rw [e] at h'
    have hp:=potX_ok (show potX 1 2 rs = true from h') (good_len g)
    have n2:=no2_ok e
    have le1:∀ {w:Wd},w ∈ F → Over al3 w → ∀ c ∈ w,c ≤ 1:=fun {w} hw ow c hc=>by
      have h1:=ow c hc
      have h2:=n2 w hw c hc
      simp only [List.mem_cons,List.not_mem_nil,or_false] at h1
      lia
    refine ⟨digX 1 2,2,digX_le (by decide) (by decide),fun q hq=>?_,Nat.le_trans (Nat.mul_le_mul_left _ hM) (by decide)⟩
    rcases List.mem_cons.mp ((putIn_perm _ _).mem_iff.mp hq) with z | z
    · subst z; exact pot_bin (le1 hl ol) (le1 hr or') hb
    · exact hp q (List.mem_filter.mp z).1
theorem piece {P:Rl → Prop} {l:List Rl} {i n:Nat} (h1:∀ p ∈ (l.drop i).take n,P p) (h2:∀ p ∈ l.drop (i + n),P p):∀ p ∈ l.drop i,P p:=fun p hp=>by
  rw [← List.take_append_drop n (l.drop i),List.drop_drop] at hp
  rcases List.mem_append.mp hp with z | z
  · exact h1 p z
  · exact h2 p z
theorem behind {P:Rl → Prop} {l:List Rl} {i:Nat} (h:l.length ≤ i):∀ p ∈ l.drop i,P p:=fun p hp=>by
  rw [List.drop_eq_nil_of_le h] at hp
  exact nomatch hp
end Sg
namespace Sg
theorem run1:(frcP (prsOf (menuW 1)) fun a=>allX (fun p=>chkB e1 2 [p] 1) a) = true:=by decide +kernel
theorem prs_len:(prsOf (menuW 1)).length = 105:=by decide +kernel
noncomputable def tw (e:List Rl → Nat → Bool) (b i n:Nat):Bool:=frcP (prsOf (menuW 1)) fun a=>frcP (prsOf (menuW b)) fun c=>allX (fun p=>allX (fun q=>chkB e 1 [p,q] 1) c) ((a.drop i).take n)
theorem run2_1_0:tw e1 1 0 7 = true:=by decide +kernel
theorem run2_1_7:tw e1 1 7 7 = true:=by decide +kernel
theorem run2_1_14:tw e1 1 14 7 = true:=by decide +kernel
theorem run2_1_21:tw e1 1 21 7 = true:=by decide +kernel
theorem run2_1_28:tw e1 1 28 7 = true:=by decide +kernel
theorem run2_1_35:tw e1 1 35 7 = true:=by decide +kernel
theorem run2_1_42:tw e1 1 42 7 = true:=by decide +kernel
theorem run2_1_49:tw e1 1 49 7 = true:=by decide +kernel
theorem run2_1_56:tw e1 1 56 7 = true:=by decide +kernel
theorem run2_1_63:tw e1 1 63 7 = true:=by decide +kernel
theorem run2_1_70:tw e1 1 70 7 = true:=by decide +kernel
theorem run2_1_77:tw e1 1 77 7 = true:=by decide +kernel
theorem run2_1_84:tw e1 1 84 7 = true:=by decide +kernel
theorem run2_1_91:tw e1 1 91 7 = true:=by decide +kernel
theorem run2_1_98:tw e1 1 98 7 = true:=by decide +kernel
theorem run2_2_0:tw e2 2 0 7 = true:=by decide +kernel
theorem run2_2_7:tw e2 2 7 7 = true:=by decide +kernel
theorem run2_2_14:tw e2 2 14 7 = true:=by decide +kernel
theorem run2_2_21:tw e2 2 21 7 = true:=by decide +kernel
theorem run2_2_28:tw e2 2 28 7 = true:=by decide +kernel
theorem run2_2_35:tw e2 2 35 7 = true:=by decide +kernel
theorem run2_2_42:tw e2 2 42 7 = true:=by decide +kernel
theorem run2_2_49:tw e2 2 49 7 = true:=by decide +kernel
theorem run2_2_56:tw e2 2 56 7 = true:=by decide +kernel
theorem run2_2_63:tw e2 2 63 7 = true:=by decide +kernel
theorem run2_2_70:tw e2 2 70 7 = true:=by decide +kernel
theorem run2_2_77:tw e2 2 77 7 = true:=by decide +kernel
theorem run2_2_84:tw e2 2 84 7 = true:=by decide +kernel
theorem run2_2_91:tw e2 2 91 7 = true:=by decide +kernel
theorem run2_2_98:tw e2 2 98 7 = true:=by decide +kernel
theorem tw_all {e:List Rl → Nat → Bool} {b i n:Nat} (h:tw e b i n = true):∀ p ∈ ((prsOf (menuW 1)).drop i).take n,∀ q ∈ prsOf (menuW b),chkB e 1 [p,q] 1 = true:=by
  unfold tw at h
  rw [frcP_eq,frcP_eq,allX_iff] at h
  exact fun p hp=>allX_iff.mp (h p hp)
theorem all2_1:∀ p ∈ prsOf (menuW 1),∀ q ∈ prsOf (menuW 1),chkB e1 1 [p,q] 1 = true:=fun p hp=>(piece (i:=0) (n:=7) (tw_all run2_1_0) (piece (i:=7) (n:=7) (tw_all run2_1_7) (piece (i:=14) (n:=7) (tw_all run2_1_14) (piece (i:=21) (n:=7) (tw_all run2_1_21) (piece (i:=28) (n:=7) (tw_all run2_1_28) (piece (i:=35) (n:=7) (tw_all run2_1_35) (piece (i:=42) (n:=7) (tw_all run2_1_42) (piece (i:=49) (n:=7) (tw_all run2_1_49) (piece (i:=56) (n:=7) (tw_all run2_1_56) (piece (i:=63) (n:=7) (tw_all run2_1_63) (piece (i:=70) (n:=7) (tw_all run2_1_70) (piece (i:=77) (n:=7) (tw_all run2_1_77) (piece (i:=84) (n:=7) (tw_all run2_1_84) (piece (i:=91) (n:=7) (tw_all run2_1_91) (piece (i:=98) (n:=7) (tw_all run2_1_98) (behind (by rw [prs_len]; decide))))))))))))))))) p hp
theorem all2_2:∀ p ∈ prsOf (menuW 1),∀ q ∈ prsOf (menuW 2),chkB e2 1 [p,q] 1 = true:=fun p hp=>(piece (i:=0) (n:=7) (tw_all run2_2_0) (piece (i:=7) (n:=7) (tw_all run2_2_7) (piece (i:=14) (n:=7) (tw_all run2_2_14) (piece (i:=21) (n:=7) (tw_all run2_2_21) (piece (i:=28) (n:=7) (tw_all run2_2_28) (piece (i:=35) (n:=7) (tw_all run2_2_35) (piece (i:=42) (n:=7) (tw_all run2_2_42) (piece (i:=49) (n:=7) (tw_all run2_2_49) (piece (i:=56) (n:=7) (tw_all run2_2_56) (piece (i:=63) (n:=7) (tw_all run2_2_63) (piece (i:=70) (n:=7) (tw_all run2_2_70) (piece (i:=77) (n:=7) (tw_all run2_2_77) (piece (i:=84) (n:=7) (tw_all run2_2_84) (piece (i:=91) (n:=7) (tw_all run2_2_91) (piece (i:=98) (n:=7) (tw_all run2_2_98) (behind (by rw [prs_len]; decide))))))))))))))))) p hp
theorem chk_rnd {e:List Rl → Nat → Bool} (he:∀ rs M,e rs M = true → M ≤ 1000) {k:Nat} {ps:List Rl} (h:chkB e k ps 1 = true):∀ i,i ≤ k → ∃ rs Mo,RndM ps i rs Mo ∧ e rs Mo = true:=fun i hi=>by
  obtain ⟨rs,M1,s,hM,g⟩:=chkB_ok he k h
  obtain ⟨rs',Mo,g1,hMo⟩:=g i hi
  exact ⟨rs',Mo,⟨rs,M1,s,he _ _ hM,g1⟩,hMo⟩
theorem e1_le (rs:List Rl) (M:Nat) (h:e1 rs M = true):M ≤ 1000:=Nat.le_of_ble_eq_true h
theorem e2_le (rs:List Rl) (M:Nat) (h:e2 rs M = true):M ≤ 1000:=Nat.le_trans (e2_ok h).1 (by decide)
theorem rnd1 {u v:Wd} (hu:u ∈ menuW 1) (hv:v ∈ menuW 1) {i:Nat} (hi:i ≤ 2):∃ rs Mo,RndM [(u,v)] i rs Mo ∧ Mo ≤ 1000:=by
  have key:=run1
  rw [frcP_eq,allX_iff] at key
  rcases mem_prsOf hu hv with z | z
  · obtain ⟨rs,Mo,g,h⟩:=chk_rnd e1_le (key _ z) i hi
    exact ⟨rs,Mo,g,e1_le _ _ h⟩
  · obtain ⟨rs,Mo,g,h⟩:=chk_rnd e1_le (key _ z) i hi
    exact ⟨rs,Mo,rndM_swap g (.turn (v,u) .nil),e1_le _ _ h⟩
theorem rnd2e {e:List Rl → Nat → Bool} (he:∀ rs M,e rs M = true → M ≤ 1000) {b:Nat} (key:∀ p ∈ prsOf (menuW 1),∀ q ∈ prsOf (menuW b),chkB e 1 [p,q] 1 = true) {u v u' v':Wd} (hu:u ∈ menuW 1) (hv:v ∈ menuW 1) (hu':u' ∈ menuW b) (hv':v' ∈ menuW b) {i:Nat} (hi:i ≤ 1):∃ rs Mo,RndM [(u,v),(u',v')] i rs Mo ∧ e rs Mo = true:=by
  rcases mem_prsOf hu hv with z | z <;> rcases mem_prsOf hu' hv' with y | y
  · exact chk_rnd he (key _ z _ y) i hi
  · obtain ⟨rs,Mo,g,h⟩:=chk_rnd he (key _ z _ y) i hi
    exact ⟨rs,Mo,rndM_swap g (.same _ (.turn (v',u') .nil)),h⟩
  · obtain ⟨rs,Mo,g,h⟩:=chk_rnd he (key _ z _ y) i hi
    exact ⟨rs,Mo,rndM_swap g (.turn (v,u) (.same _ .nil)),h⟩
  · obtain ⟨rs,Mo,g,h⟩:=chk_rnd he (key _ z _ y) i hi
    exact ⟨rs,Mo,rndM_swap g (.turn (v,u) (.turn (v',u') .nil)),h⟩
theorem rnd2 {b:Nat} (hb:b = 1 ∨ b = 2) {u v u' v':Wd} (hu:u ∈ menuW 1) (hv:v ∈ menuW 1) (hu':u' ∈ menuW b) (hv':v' ∈ menuW b) {i:Nat} (hi:i ≤ 1):∃ rs Mo,RndM [(u,v),(u',v')] i rs Mo ∧ Mo ≤ 1000 ∧ (b = 2 → (∀ r ∈ rs,r.2.length ≤ r.1.length) → PotOk rs Mo):=by
  rcases hb with z | z <;> subst z
  · obtain ⟨rs,Mo,g,h⟩:=rnd2e e1_le all2_1 hu hv hu' hv' hi
    exact ⟨rs,Mo,g,e1_le _ _ h,fun z=>absurd z (by decide)⟩
  · obtain ⟨rs,Mo,g,h⟩:=rnd2e e2_le all2_2 hu hv hu' hv' hi
    exact ⟨rs,Mo,g,e2_le _ _ h,fun _=>(e2_ok h).2⟩
end Sg
namespace Sg
theorem rules_len:rulesM.length = 91:=by decide +kernel
noncomputable def th (f:List Rl → Bool) (i n:Nat):Bool:=frcP rulesM fun l=>fst3 f ((l.drop i).take n)
theorem run3_1_0:th sc1 0 5 = true:=by decide +kernel
theorem run3_1_5:th sc1 5 5 = true:=by decide +kernel
theorem run3_1_10:th sc1 10 5 = true:=by decide +kernel
theorem run3_1_15:th sc1 15 5 = true:=by decide +kernel
theorem run3_1_20:th sc1 20 5 = true:=by decide +kernel
theorem run3_1_25:th sc1 25 5 = true:=by decide +kernel
theorem run3_1_30:th sc1 30 5 = true:=by decide +kernel
theorem run3_1_35:th sc1 35 5 = true:=by decide +kernel
theorem run3_1_40:th sc1 40 5 = true:=by decide +kernel
theorem run3_1_45:th sc1 45 5 = true:=by decide +kernel
theorem run3_1_50:th sc1 50 5 = true:=by decide +kernel
theorem run3_1_55:th sc1 55 5 = true:=by decide +kernel
theorem run3_1_60:th sc1 60 5 = true:=by decide +kernel
theorem run3_1_65:th sc1 65 5 = true:=by decide +kernel
theorem run3_1_70:th sc1 70 5 = true:=by decide +kernel
theorem run3_1_75:th sc1 75 5 = true:=by decide +kernel
theorem run3_1_80:th sc1 80 5 = true:=by decide +kernel
theorem run3_1_85:th sc1 85 5 = true:=by decide +kernel
theorem run3_1_90:th sc1 90 5 = true:=by decide +kernel
theorem run3_2_0:th sc2 0 5 = true:=by decide +kernel
theorem run3_2_5:th sc2 5 5 = true:=by decide +kernel
theorem run3_2_10:th sc2 10 5 = true:=by decide +kernel
theorem run3_2_15:th sc2 15 5 = true:=by decide +kernel
theorem run3_2_20:th sc2 20 5 = true:=by decide +kernel
theorem run3_2_25:th sc2 25 5 = true:=by decide +kernel
theorem run3_2_30:th sc2 30 5 = true:=by decide +kernel
theorem run3_2_35:th sc2 35 5 = true:=by decide +kernel
theorem run3_2_40:th sc2 40 5 = true:=by decide +kernel
theorem run3_2_45:th sc2 45 5 = true:=by decide +kernel
theorem run3_2_50:th sc2 50 5 = true:=by decide +kernel
theorem run3_2_55:th sc2 55 5 = true:=by decide +kernel
theorem run3_2_60:th sc2 60 5 = true:=by decide +kernel
theorem run3_2_65:th sc2 65 5 = true:=by decide +kernel
theorem run3_2_70:th sc2 70 5 = true:=by decide +kernel
theorem run3_2_75:th sc2 75 5 = true:=by decide +kernel
theorem run3_2_80:th sc2 80 5 = true:=by decide +kernel
theorem run3_2_85:th sc2 85 5 = true:=by decide +kernel
theorem run3_2_90:th sc2 90 5 = true:=by decide +kernel
theorem run3e:sc1 [] = true:=by decide +kernel
theorem run3ze:sc2 [] = true:=by decide +kernel
theorem th_all {f:List Rl → Bool} {i n:Nat} (h:th f i n = true):∀ p ∈ (rulesM.drop i).take n,f [p] = true:=fun p hp=>by
  unfold th at h
  rw [frcP_eq] at h
  unfold fst3 at h
  have:=allX_iff.mp h p hp
  rw [frcL_eq] at this
  exact this
theorem all3_1:∀ p ∈ rulesM,sc1 [p] = true:=fun p hp=>(piece (i:=0) (n:=5) (th_all run3_1_0) (piece (i:=5) (n:=5) (th_all run3_1_5) (piece (i:=10) (n:=5) (th_all run3_1_10) (piece (i:=15) (n:=5) (th_all run3_1_15) (piece (i:=20) (n:=5) (th_all run3_1_20) (piece (i:=25) (n:=5) (th_all run3_1_25) (piece (i:=30) (n:=5) (th_all run3_1_30) (piece (i:=35) (n:=5) (th_all run3_1_35) (piece (i:=40) (n:=5) (th_all run3_1_40) (piece (i:=45) (n:=5) (th_all run3_1_45) (piece (i:=50) (n:=5) (th_all run3_1_50) (piece (i:=55) (n:=5) (th_all run3_1_55) (piece (i:=60) (n:=5) (th_all run3_1_60) (piece (i:=65) (n:=5) (th_all run3_1_65) (piece (i:=70) (n:=5) (th_all run3_1_70) (piece (i:=75) (n:=5) (th_all run3_1_75) (piece (i:=80) (n:=5) (th_all run3_1_80) (piece (i:=85) (n:=5) (th_all run3_1_85) (piece (i:=90) (n:=5) (th_all run3_1_90) (behind (by rw [rules_len]; decide))))))))))))))))))))) p hp
theorem all3_2:∀ p ∈ rulesM,sc2 [p] = true:=fun p hp=>(piece (i:=0) (n:=5) (th_all run3_2_0) (piece (i:=5) (n:=5) (th_all run3_2_5) (piece (i:=10) (n:=5) (th_all run3_2_10) (piece (i:=15) (n:=5) (th_all run3_2_15) (piece (i:=20) (n:=5) (th_all run3_2_20) (piece (i:=25) (n:=5) (th_all run3_2_25) (piece (i:=30) (n:=5) (th_all run3_2_30) (piece (i:=35) (n:=5) (th_all run3_2_35) (piece (i:=40) (n:=5) (th_all run3_2_40) (piece (i:=45) (n:=5) (th_all run3_2_45) (piece (i:=50) (n:=5) (th_all run3_2_50) (piece (i:=55) (n:=5) (th_all run3_2_55) (piece (i:=60) (n:=5) (th_all run3_2_60) (piece (i:=65) (n:=5) (th_all run3_2_65) (piece (i:=70) (n:=5) (th_all run3_2_70) (piece (i:=75) (n:=5) (th_all run3_2_75) (piece (i:=80) (n:=5) (th_all run3_2_80) (piece (i:=85) (n:=5) (th_all run3_2_85) (piece (i:=90) (n:=5) (th_all run3_2_90) (behind (by rw [rules_len]; decide))))))))))))))))))))) p hp
theorem rulesM_mem {u v:Wd} (hu:u ∈ menuW 1) (hv:v ∈ menuW 1) (hne:u ≠ v):latF u v ∈ rulesM:=by
  have key:∀ {p:Rl},p ∈ prsOf (menuW 1) → p.1 ≠ p.2 → latF p.1 p.2 ∈ rulesM:=fun {p} hp hn=>by
    unfold rulesM
    rw [filX_eq]
    refine List.mem_filter.mpr ⟨List.mem_map.mpr ⟨p,hp,?_⟩,?_⟩
    · unfold latF
      rw [befX_eq]
      cases bef p.1 p.2 <;> rfl
    · have:(latF p.1 p.2).1 ≠ (latF p.1 p.2).2:=by
        unfold latF
        split
        · exact Ne.symm hn
        · exact hn
      cases e:eqX (latF p.1 p.2).1 (latF p.1 p.2).2 with
      | false=>rfl
      | true=>exact absurd (eqX_iff.mp e) this
  rcases mem_prsOf hu hv with z | z
  · exact key z hne
  · rw [latF_swap hne]; exact key z (Ne.symm hne)
theorem rnd3e {E:List Rl → Nat → Prop} {e:List Rl → Nat → Bool} {fl:List Rl → List Wd → Bool} {L:Nat} (hL:L ≤ 1000) (he:EOk e E) (hf:FOk L fl E) (hnf:∀ out Mo,Good out al3 3 → E out Mo → E (out.map fun r=>(r.1,nf out r.2)) Mo) {b:Nat} (hb:b = 1 ∨ b = 2) (k1:scd L e fl b [] = true) (k2:∀ p ∈ rulesM,scd L e fl b [p] = true)
    {u v u' v' x y:Wd} (hu:u ∈ menuW 1) (hv:v ∈ menuW 1) (hu':u' ∈ menuW b) (hv':v' ∈ menuW b) (hx:x ∈ menuW 1) (hy:y ∈ menuW 1):∃ rs Mo,RndM [(u,v),(u',v'),(x,y)] 0 rs Mo ∧ Mo ≤ 1000 ∧ E rs Mo:=by
  have g0:Good ([]:List Rl) al3 3:=⟨by unfold Inc; decide,fun _ z=>(nomatch z),fun _ z=>(nomatch z),fun _ z=>(nomatch z)⟩
  have d1:Down [] u u []:=.done (first_nil u)
  have d2:Down [] v v []:=.done (first_nil v)
  obtain ⟨uo,ul⟩:=menu_wok (.inl rfl) u hu
  obtain ⟨vo,vl⟩:=menu_wok (.inl rfl) v hv
  obtain ⟨uo',ul'⟩:=menu_wok hb u' hu'
  obtain ⟨vo',vl'⟩:=menu_wok hb v' hv'
  obtain ⟨xo,xl⟩:=menu_wok (.inl rfl) x hx
  obtain ⟨yo,yl⟩:=menu_wok (.inl rfl) y hy
  have hw:∀ p ∈ [(u,v),(u',v'),(x,y)],Wok al3 3 p:=fun p hp=>by
    simp only [List.mem_cons,List.not_mem_nil,or_false] at hp
    rcases hp with z | z | z <;> subst z
    · exact ⟨uo,vo,ul,vl⟩
    · exact ⟨uo',vo',ul',vl'⟩
    · exact ⟨xo,yo,xl,yl⟩
  by_cases hne:u = v
  · subst hne
    obtain ⟨j,out,Mf,s,hfe⟩:=scd_ok hL he hf hb k1 g0 hu' hv' hx hy
    have s':StlM (j + 1) 1 1 [(u,u),(u',v'),(x,y)] [] out Mf:=.same (p:=(u,u)) d1 d2 (by simp) s
    exact end_rnd s' hfe fun Mo=>hnf out Mo (stlM_good s' g0 hw)
  · obtain ⟨j,out,Mf,s,hfe⟩:=scd_ok hL he hf hb (k2 _ (rulesM_mem hu hv hne)) (good_put g0 hne uo vo ul vl (fun _=>true)) hu' hv' hx hy
    have s':StlM (j + 1) 1 1 [(u,v),(u',v'),(x,y)] [] out Mf:=.fresh (p:=(u,v)) d1 d2 hne (by simp) s
    exact end_rnd s' hfe fun Mo=>hnf out Mo (stlM_good s' g0 hw)
theorem rnd3 {b:Nat} (hb:b = 1 ∨ b = 2) {u v u' v' x y:Wd} (hu:u ∈ menuW 1) (hv:v ∈ menuW 1) (hu':u' ∈ menuW b) (hv':v' ∈ menuW b) (hx:x ∈ menuW 1) (hy:y ∈ menuW 1) :
    ∃ rs Mo,RndM [(u,v),(u',v'),(x,y)] 0 rs Mo ∧ Mo ≤ 1000 ∧ (b = 2 → PotOk rs Mo):=by
  rcases hb with z | z <;> subst z
  · obtain ⟨rs,Mo,g,h,_⟩:=rnd3e (by decide) e1_ok fl1_ok (fun _ _ _ _=>trivial) (.inl rfl) run3e all3_1 hu hv hu' hv' hx hy
    exact ⟨rs,Mo,g,h,fun z=>absurd z (by decide)⟩
  · obtain ⟨rs,Mo,g,h,hp⟩:=rnd3e (by decide) e2_okE fl2_ok (fun out Mo g ⟨v,m,h1,h2,h3⟩=>⟨v,m,h1,pot_nf g h1 h2,h3⟩) (.inr rfl) run3ze all3_2 hu hv hu' hv' hx hy
    exact ⟨rs,Mo,g,h,fun _=>hp⟩
end Sg
namespace Sg
def Thin (rs:List Rl):Prop:=∀ (i j:Nat) (p q:Rl),rs[i]? = some p → rs[j]? = some q → i ≠ j → ¬ Occ p.1 q.1
def ThinM (rs:List Rl):Prop:=rs.Pairwise fun p q=>¬ Occ p.1 q.1 ∧ ¬ Occ q.1 p.1
theorem thin_of {rs:List Rl} (h:ThinM rs):Thin rs:=fun i j p q hp hq hij=>by
  have hi:=(List.getElem?_eq_some_iff.mp hp)
  have hj:=(List.getElem?_eq_some_iff.mp hq)
  have key:=List.pairwise_iff_getElem.mp h
  rcases Nat.lt_or_gt_of_ne hij with z | z
  · have:=key i j hi.1 hj.1 z
    rw [hi.2,hj.2] at this
    exact this.1
  · have:=key j i hj.1 hi.1 z
    rw [hi.2,hj.2] at this
    exact this.2
theorem occ_self (u:Wd):Occ u u:=⟨[],[],by simp⟩
theorem thin_put {rs:List Rl} {x:Rl} (h:ThinM rs) (hx:∀ r ∈ rs,¬ Occ r.1 x.1 ∧ ¬ Occ x.1 r.1):ThinM (putIn rs x):=by
  unfold ThinM
  have hp:=putIn_perm rs x
  refine (hp.pairwise_iff (fun {a b} z=>⟨z.2,z.1⟩)).mpr ?_
  exact List.pairwise_cons.mpr ⟨fun r hr=>⟨(hx r hr).2,(hx r hr).1⟩,h⟩
theorem stlM_thin {k A M Mf:Nat} {td rs out:List Rl} {al:Wd} {n:Nat} (s:StlM k A M td rs out Mf):Good rs al n → (∀ p ∈ td,Wok al n p) → ThinM rs → Srt rs → ThinM out ∧ Srt out ∧ Good out al n:=by
  induction s with
  | done A M rs=>intro g _ ht hs; exact ⟨ht,hs,g⟩
  | same d1 d2 _ _ ih=>intro g h ht hs; exact ih g (fun p hp=>h p (List.mem_cons_of_mem _ hp)) ht hs
  | @fresh k A M Mf p td rs out f1 f2 ss1 ss2 d1 d2 hne _ _ ih =>
    intro g h ht hs
    obtain ⟨w1,w2,w3,w4⟩:=h p List.mem_cons_self
    obtain ⟨a1,a2,_⟩:=down_less g d1 w1
    obtain ⟨b1,b2,_⟩:=down_less g d2 w2
    have i1:=irr_not_red (down_rt g d1).2
    have i2:=irr_not_red (down_rt g d2).2
    have il:∀ r ∈ rs,¬ Occ r.1 (latF f1 f2).1:=fun r hr z=>by
      unfold latF at z
      split at z
      · exact i2 ⟨r,hr,z⟩
      · exact i1 ⟨r,hr,z⟩
    have hx:∀ r ∈ rs.filter (fun r=>!occB (latF f1 f2).1 r.1),¬ Occ r.1 (latF f1 f2).1 ∧ ¬ Occ (latF f1 f2).1 r.1:=fun r hr=>by
      obtain ⟨h1,h2⟩:=List.mem_filter.mp hr
      refine ⟨il r h1,fun z=>?_⟩
      rw [occB_t z] at h2
      cases h2
    refine ih (good_put g hne a1 b1 (by lia) (by lia) _) (fun q hq=>?_) (thin_put (ht.filter _) hx) (putIn_srt (hs.filter _) fun r hr e=>(hx r hr).1 (by rw [e]; exact occ_self _))
    rcases List.mem_append.mp hq with z | z
    · exact h q (List.mem_cons_of_mem _ z)
    · exact g.wok (List.mem_filter.mp z).1
structure Told (rs:List Rl):Prop where
  srt:Srt rs
  thin:Thin rs
  rig:∀ p ∈ rs,∀ q ∈ rs,¬ Occ p.1 q.2
theorem setM_told {M Mo:Nat} {ps rs:List Rl} {al:Wd} {n:Nat} (h:SetM M ps rs Mo) (hi:Inc al) (hw:∀ p ∈ ps,Wok al n p):Told rs ∧ Good rs al n:=by
  obtain ⟨j,out,Mf,s,_,_,rfl⟩:=h
  have g0:Good ([]:List Rl) al n:=⟨hi,fun _ z=>(nomatch z),fun _ z=>(nomatch z),fun _ z=>(nomatch z)⟩
  obtain ⟨ht,hs,g⟩:=stlM_thin s g0 hw List.Pairwise.nil List.Pairwise.nil
  refine ⟨⟨?_,?_,?_⟩,good_nf g⟩
  · exact List.Pairwise.map _ (fun _ _ z=>z) hs
  · refine thin_of ?_
    exact List.Pairwise.map _ (fun _ _ z=>z) ht
  · intro p hp q hq z
    obtain ⟨p0,hp0,rfl⟩:=List.mem_map.mp hp
    obtain ⟨q0,hq0,rfl⟩:=List.mem_map.mp hq
    obtain ⟨f,ss,d⟩:=down_ex g _ q0.2 (Nat.le_refl _) (g.sm q0 hq0).2
    have z':Occ p0.1 (nf out q0.2):=z
    rw [nf_of d] at z'
    exact irr_not_red (down_rt g d).2 ⟨p0,hp0,z'⟩
inductive Cv (rs:List Rl):Wd → Wd → Prop
  | refl (u:Wd):Cv rs u u
  | step {u v:Wd}:Stp rs u v → Cv rs u v
  | symm {u v:Wd}:Cv rs u v → Cv rs v u
  | trans {u v w:Wd}:Cv rs u v → Cv rs v w → Cv rs u w
theorem Cv.ctx {rs:List Rl} {u v:Wd} (h:Cv rs u v) (x y:Wd):Cv rs (x ++ u ++ y) (x ++ v ++ y):=by
  induction h with
  | refl u=>exact .refl _
  | step s=>exact .step (s.ctx x y)
  | symm _ ih=>exact .symm ih
  | trans _ _ i1 i2=>exact .trans i1 i2
theorem stp_rule {rs:List Rl} {u v:Wd} (h:Stp rs u v):∃ r ∈ rs,∃ a b,u = a ++ r.1 ++ b ∧ v = a ++ r.2 ++ b:=by
  obtain ⟨i,a,b,hi,e1,e2⟩:=h
  exact ⟨_,getD_mem hi,a,b,e1,e2⟩
theorem rule_stp {rs:List Rl} {r:Rl} (h:r ∈ rs) (a b:Wd):Stp rs (a ++ r.1 ++ b) (a ++ r.2 ++ b):=by
  obtain ⟨i,hi,rfl⟩:=List.mem_iff_getElem.mp h
  have eg:rs.getD i ([],[]) = rs[i]:=by rw [List.getD_eq_getElem?_getD,List.getElem?_eq_getElem hi]; rfl
  exact ⟨i,a,b,hi,by rw [eg],by rw [eg]⟩
theorem rule_cv {rs:List Rl} {r:Rl} (h:r ∈ rs):Cv rs r.1 r.2:=by
  have:=rule_stp h [] []
  simp only [List.nil_append,List.append_nil] at this
  exact .step this
theorem Cv.lift {rs rs':List Rl} (h:∀ r ∈ rs,Cv rs' r.1 r.2) {u v:Wd} (c:Cv rs u v):Cv rs' u v:=by
  induction c with
  | refl u=>exact .refl _
  | step s =>
    obtain ⟨r,hr,a,b,rfl,rfl⟩:=stp_rule s
    exact (h r hr).ctx a b
  | symm _ ih=>exact .symm ih
  | trans _ _ i1 i2=>exact .trans i1 i2
theorem Rt.cv {rs:List Rl} {u v:Wd} (h:Rt rs u v):Cv rs u v:=by
  induction h with
  | refl u=>exact .refl _
  | step s _ ih=>exact .trans (.step s) ih
theorem stlM_cv {k A M Mf:Nat} {td rs out:List Rl} {al:Wd} {n:Nat} (s:StlM k A M td rs out Mf):Good rs al n → (∀ p ∈ td,Wok al n p) → (∀ p ∈ td,Cv out p.1 p.2) ∧ ∀ r ∈ rs,Cv out r.1 r.2:=by
  induction s with
  | done A M rs=>intro g _; exact ⟨fun _ z=>(nomatch z),fun r hr=>rule_cv hr⟩
  | same d1 d2 _ _ ih =>
    intro g h
    obtain ⟨i1,i2⟩:=ih g fun p hp=>h p (List.mem_cons_of_mem _ hp)
    refine ⟨fun p hp=>?_,i2⟩
    rcases List.mem_cons.mp hp with z | z
    · subst z
      exact .trans (((down_rt g d1).1.cv).lift i2) (.symm (((down_rt g d2).1.cv).lift i2))
    · exact i1 p z
  | @fresh k A M Mf p td rs out f1 f2 ss1 ss2 d1 d2 hne _ _ ih =>
    intro g h
    obtain ⟨w1,w2,w3,w4⟩:=h p List.mem_cons_self
    obtain ⟨a1,a2,_⟩:=down_less g d1 w1
    obtain ⟨b1,b2,_⟩:=down_less g d2 w2
    obtain ⟨i1,i2⟩:=ih (good_put g hne a1 b1 (by lia) (by lia) _) (fun q hq=>by
      rcases List.mem_append.mp hq with z | z
      · exact h q (List.mem_cons_of_mem _ z)
      · exact g.wok (List.mem_filter.mp z).1)
    have hrs:∀ r ∈ rs,Cv out r.1 r.2:=fun r hr=>by
      cases e:occB (latF f1 f2).1 r.1 with
      | true=>exact i1 r (List.mem_append_right _ (List.mem_filter.mpr ⟨hr,e⟩))
      | false=>exact i2 r ((putIn_perm _ _).mem_iff.mpr (List.mem_cons_of_mem _ (List.mem_filter.mpr ⟨hr,by rw [e]; rfl⟩)))
    have hf:Cv out f1 f2:=by
      have:=i2 (latF f1 f2) ((putIn_perm _ _).mem_iff.mpr List.mem_cons_self)
      unfold latF at this
      split at this
      · exact .symm this
      · exact this
    refine ⟨fun q hq=>?_,hrs⟩
    rcases List.mem_cons.mp hq with z | z
    · subst z
      exact .trans (((down_rt g d1).1.cv).lift hrs) (.trans hf (.symm (((down_rt g d2).1.cv).lift hrs)))
    · exact i1 q (List.mem_append_left _ z)
theorem nf_cv {out:List Rl} {al:Wd} {n:Nat} (g:Good out al n):∀ (m:Nat) (u v:Wd),rank al u ≤ m → Over al u → Stp out u v → Cv (out.map fun r=>(r.1,nf out r.2)) u v:=by
  intro m
  induction m using Nat.strongRecOn with
  | _ m ih =>
    intro u v hm ho s
    obtain ⟨r,hr,a,b,rfl,rfl⟩:=stp_rule s
    obtain ⟨lv,lr⟩:=stp_less g _ _ ho s
    have orr:=(g.sm r hr).2
    obtain ⟨f,ss,d⟩:=down_ex g _ r.2 (Nat.le_refl _) orr
    have hmem:(r.1,nf out r.2) ∈ out.map fun r=>(r.1,nf out r.2):=List.mem_map.mpr ⟨r,hr,rfl⟩
    have c1:Cv (out.map fun r=>(r.1,nf out r.2)) (a ++ r.1 ++ b) (a ++ nf out r.2 ++ b):=.step (rule_stp hmem a b)
    rw [nf_of d] at c1
    refine .trans c1 (.symm ?_)
    have go:∀ {x y:Wd},Rt out x y → rank al x < m → Over al x → Cv (out.map fun r=>(r.1,nf out r.2)) x y:=fun {x y} rt=>by
      induction rt with
      | refl _=>intro _ _; exact .refl _
      | step s1 _ ih1 =>
        intro h1 h2
        obtain ⟨o2,l2⟩:=stp_less g _ _ h2 s1
        exact .trans (ih _ h1 _ _ (Nat.le_refl _) h2 s1) (ih1 (by lia) o2)
    exact go ((down_rt g d).1.ctx a b) (by lia) lv
theorem Cv.ofNf {out:List Rl} {al:Wd} {n:Nat} (g:Good out al n):∀ r ∈ out,Cv (out.map fun r=>(r.1,nf out r.2)) r.1 r.2:=fun r hr=>by
  have:=rule_stp hr [] []
  simp only [List.nil_append,List.append_nil] at this
  exact nf_cv g _ _ _ (Nat.le_refl _) (g.sm r hr).1 this
theorem setM_cv {M Mo:Nat} {ps rs:List Rl} {al:Wd} {n:Nat} (h:SetM M ps rs Mo) (hi:Inc al) (hw:∀ p ∈ ps,Wok al n p):∀ p ∈ ps,Cv rs p.1 p.2:=by
  obtain ⟨j,out,Mf,s,_,_,rfl⟩:=h
  have g0:Good ([]:List Rl) al n:=⟨hi,fun _ z=>(nomatch z),fun _ z=>(nomatch z),fun _ z=>(nomatch z)⟩
  have g:=stlM_good s g0 hw
  obtain ⟨h1,_⟩:=stlM_cv s g0 hw
  exact fun p hp=>(h1 p hp).lift (Cv.ofNf g)
theorem go_all {k:Nat} {rs rs':List Rl} {M Mo:Nat} (g:Go k rs M rs' Mo):∀ {al:Wd} {i:Nat},Told rs → Good rs al (nn i) → Told rs' ∧ (∃ n,Good rs' al n) ∧ ∀ {u v:Wd},Cv rs u v → Cv rs' u v:=by
  induction g with
  | zero rs M=>intro al i t h; exact ⟨t,⟨_,h⟩,fun c=>c⟩
  | stay k M e=>intro al i t h; exact ⟨t,⟨_,h⟩,fun c=>c⟩
  | @step k rs rs1 rs' M M1 Mo h1 h2 h3 _ ih =>
    intro al i t h
    have hw:∀ p ∈ rs ++ clashes rs,Wok al (nn (i + 1)) p:=fun x hx=>by
      have m3:=nn_le (show i ≤ i + 1 by lia)
      rcases List.mem_append.mp hx with y | y
      · have:=h.wok y
        exact ⟨this.1,this.2.1,by have:=this.2.2.1; lia,by have:=this.2.2.2; lia⟩
      · rw [nn_succ i]
        exact clashes_ok h y
    obtain ⟨t1,g1⟩:=setM_told h2 h.inc hw
    have c1:=setM_cv h2 h.inc hw
    obtain ⟨k1,k2,k3⟩:=ih t1 g1
    exact ⟨k1,k2,fun c=>k3 (c.lift fun r hr=>c1 r (List.mem_append_left _ hr))⟩
theorem rndM_all {ps:List Rl} {k:Nat} {rs:List Rl} {Mo:Nat} {al:Wd} (h:RndM ps k rs Mo) (hi:Inc al) (hw:∀ p ∈ ps,Wok al 3 p):Told rs ∧ ∀ p ∈ ps,Cv rs p.1 p.2:=by
  obtain ⟨r0,M,s,_,g⟩:=h
  have e0:nn 0 = 3:=by decide
  obtain ⟨t0,g0⟩:=setM_told s hi hw
  obtain ⟨k1,_,k3⟩:=go_all g (i:=0) t0 (by rw [e0]; exact g0)
  exact ⟨k1,fun p hp=>k3 (setM_cv s hi hw p hp)⟩
theorem stp_over {rs:List Rl} {al:Wd} {n:Nat} (g:Good rs al n) {u v:Wd} (s:Stp rs u v):Over al u ↔ Over al v:=by
  obtain ⟨r,hr,a,b,rfl,rfl⟩:=stp_rule s
  have h1:=(g.sm r hr).1
  have h2:=(g.sm r hr).2
  unfold Over
  simp only [List.mem_append]
  constructor
  · intro h c hc
    rcases hc with (z | z) | z
    · exact h c (.inl (.inl z))
    · exact h2 c z
    · exact h c (.inr z)
  · intro h c hc
    rcases hc with (z | z) | z
    · exact h c (.inl (.inl z))
    · exact h1 c z
    · exact h c (.inr z)
theorem cv_over {rs:List Rl} {al:Wd} {n:Nat} (g:Good rs al n) {u v:Wd} (c:Cv rs u v):Over al u ↔ Over al v:=by
  induction c with
  | refl u=>exact Iff.rfl
  | step s=>exact stp_over g s
  | symm _ ih=>exact ih.symm
  | trans _ _ i1 i2=>exact i1.trans i2
theorem cv_nf {rs:List Rl} {al:Wd} {n:Nat} (g:Good rs al n) (ok:OvOk rs) {u v:Wd} (c:Cv rs u v):Over al u → nf rs u = nf rs v:=by
  induction c with
  | refl u=>intro _; rfl
  | @step u v s =>
    intro hu
    have hv:=(stp_over g s).mp hu
    obtain ⟨f,ss,d⟩:=down_ex g _ u (Nat.le_refl _) hu
    obtain ⟨f',ss',d'⟩:=down_ex g _ v (Nat.le_refl _) hv
    obtain ⟨r',i'⟩:=down_rt g d'
    rw [nf_of d,nf_of d']
    exact (any_way g ok hu d (.step s r') i').symm
  | symm c ih=>intro hv; exact (ih ((cv_over g c).mpr hv)).symm
  | trans c1 _ i1 i2=>intro hu; exact (i1 hu).trans (i2 ((cv_over g c1).mp hu))
end Sg
namespace Sg
theorem geo_upZ {b:Nat}:∀ {n m:Nat},n ≤ m → geo b n ≤ geo b m:=by
  intro n m h
  induction h with
  | refl=>exact Nat.le_refl _
  | step _ ih =>
    rename_i k _
    refine Nat.le_trans ih ?_
    have:=geo_pow b k
    show geo b k ≤ geo b k * b + 1
    lia
theorem rank_ofZ {al u:Wd} {L c:Nat} (h:Over al u) (hl:u.length ≤ L) (hc:geo al.length L * al.length ≤ c):rank al u ≤ c:=by
  have h1:=(rank_le h).2
  have h2:geo al.length u.length ≤ geo al.length L:=geo_upZ hl
  have h3:geo al.length u.length * al.length ≤ geo al.length L * al.length:=Nat.mul_le_mul_right _ h2
  lia
def f3 (x y z n:Nat):Nat:=if n = 0 then x else if n = 1 then y else z + (n - 2)
theorem f3_mono {x y z:Nat} (h1:x < y) (h2:y < z):Mono (f3 x y z):=fun a b h=>by
  unfold f3
  split <;> split <;> (try split) <;> (try split) <;> lia
theorem menu_num:menu.map (fun z=>z.cps.toList.map fun c=>if c = 98 then 1 else 0) = menuW 1:=by decide +kernel
theorem menu_num2:menu.map (fun z=>z.cps.toList.map fun c=>if c = 98 then 2 else 0) = menuW 2:=by decide +kernel
theorem mw_one {x y z:Nat} {u:Wd} (h:u ∈ MW x y):∃ v ∈ menuW 1,u = v.map (f3 x y z):=by
  obtain ⟨t,ht,rfl⟩:=List.mem_map.mp h
  refine ⟨t.cps.toList.map (fun c=>if c = 98 then 1 else 0),by rw [← menu_num]; exact List.mem_map.mpr ⟨t,ht,rfl⟩,?_⟩
  unfold lett
  rw [List.map_map]
  refine List.map_congr_left fun c _=>?_
  show _ = f3 x y z (if c = 98 then 1 else 0)
  by_cases hc:c = 98
  · rw [if_pos hc,if_pos hc]; rfl
  · rw [if_neg hc,if_neg hc]; rfl
theorem mw_two {x y z:Nat} {u:Wd} (h:u ∈ MW x z):∃ v ∈ menuW 2,u = v.map (f3 x y z):=by
  obtain ⟨t,ht,rfl⟩:=List.mem_map.mp h
  refine ⟨t.cps.toList.map (fun c=>if c = 98 then 2 else 0),by rw [← menu_num2]; exact List.mem_map.mpr ⟨t,ht,rfl⟩,?_⟩
  unfold lett
  rw [List.map_map]
  refine List.map_congr_left fun c _=>?_
  show _ = f3 x y z (if c = 98 then 2 else 0)
  by_cases hc:c = 98
  · rw [if_pos hc,if_pos hc]; rfl
  · rw [if_neg hc,if_neg hc]; rfl
def RkOk (n k:Nat):Prop:=n ≤ 1 ∧ k ≤ 2 ∨ n = 2 ∧ k ≤ 1 ∨ n = 3 ∧ k = 0
theorem clashes_none:clashes [] = []:=rfl
theorem rnd_nil {k:Nat}:RndM [] k [] 1:=by
  refine ⟨[],1,⟨0,[],1,.done _ _ _,Nat.le_refl _,fun r hr=>(nomatch hr),rfl⟩,by decide,?_⟩
  cases k with
  | zero=>exact .zero _ _
  | succ k=>exact .stay k _ clashes_none
theorem rnd_abs {b:Nat} (hb:b = 1 ∨ b = 2) {qs:List Rl} (h:∀ i p,qs[i]? = some p → p.1 ∈ menuW (if i % 2 = 0 then 1 else b) ∧ p.2 ∈ menuW (if i % 2 = 0 then 1 else b)) {k:Nat} (hk:RkOk qs.length k):∃ rs Mo,RndM qs k rs Mo ∧ Mo ≤ 1000 ∧ (b = 2 → 2 ≤ qs.length → (∀ r ∈ rs,r.2.length ≤ r.1.length) → PotOk rs Mo):=by
  match qs,h,hk with
  | [],_,_=>exact ⟨[],1,rnd_nil,by decide,fun _ z=>absurd z (by decide)⟩
  | [p],h,hk =>
    obtain ⟨h1,h2⟩:=h 0 p rfl
    have hk2:k ≤ 2:=by
      have e:[p].length = 1:=rfl
      rw [e] at hk
      rcases hk with z | z | z <;> lia
    obtain ⟨rs,Mo,g,hM⟩:=rnd1 h1 h2 hk2
    exact ⟨rs,Mo,g,hM,fun _ z=>absurd z (by simp)⟩
  | [p,q],h,hk =>
    obtain ⟨h1,h2⟩:=h 0 p rfl
    obtain ⟨h3,h4⟩:=h 1 q rfl
    have hk2:k ≤ 1:=by
      have e:[p,q].length = 2:=rfl
      rw [e] at hk
      rcases hk with z | z | z <;> lia
    obtain ⟨rs,Mo,g,hM,hp⟩:=rnd2 hb h1 h2 h3 h4 hk2
    exact ⟨rs,Mo,g,hM,fun z _=>hp z⟩
  | [p,q,r],h,hk =>
    obtain ⟨h1,h2⟩:=h 0 p rfl
    obtain ⟨h3,h4⟩:=h 1 q rfl
    obtain ⟨h5,h6⟩:=h 2 r rfl
    have hk2:k = 0:=by
      have e:[p,q,r].length = 3:=rfl
      rw [e] at hk
      rcases hk with z | z | z <;> lia
    subst hk2
    obtain ⟨rs,Mo,g,hM,hp⟩:=rnd3 hb h1 h2 h3 h4 h5 h6
    exact ⟨rs,Mo,g,hM,fun z _ _=>hp z⟩
  | _ :: _ :: _ :: _ :: qs,_,hk =>
    exfalso
    simp only [RkOk,List.length_cons] at hk
    lia
theorem prm_back {x y b:Nat} (hxy:x < y) (hy:y ≤ 122) (hb:b = y ∨ b = 122) {ps:List Rl} (h:PrM x y b ps):∃ (b' z:Nat) (qs:List Rl),(b' = 1 ∨ b' = 2) ∧ (b ≠ y → b' = 2) ∧ Mono (f3 x y z) ∧ ps = qs.map (mpR (f3 x y z)) ∧
    ∀ i p,qs[i]? = some p → p.1 ∈ menuW (if i % 2 = 0 then 1 else b') ∧ p.2 ∈ menuW (if i % 2 = 0 then 1 else b'):=by
  have key:∀ (b' z:Nat),Mono (f3 x y z) → (∀ {i:Nat} {u:Wd},u ∈ MW x (if i % 2 = 0 then y else b) → ∃ v ∈ menuW (if i % 2 = 0 then 1 else b'),u = v.map (f3 x y z)) → ∀ (ps:List Rl) (i0:Nat),(∀ i p,ps[i]? = some p → p.1 ∈ MW x (if (i0 + i) % 2 = 0 then y else b) ∧ p.2 ∈ MW x (if (i0 + i) % 2 = 0 then y else b)) →
      ∃ qs:List Rl,ps = qs.map (mpR (f3 x y z)) ∧ ∀ i p,qs[i]? = some p → p.1 ∈ menuW (if (i0 + i) % 2 = 0 then 1 else b') ∧ p.2 ∈ menuW (if (i0 + i) % 2 = 0 then 1 else b'):=by
    intro b' z hm hc ps
    induction ps with
    | nil=>intro i0 _; exact ⟨[],rfl,fun i p hp=>by simp at hp⟩
    | cons p ps ih =>
      intro i0 hp
      obtain ⟨qs,e,hq⟩:=ih (i0 + 1) fun i p' hp'=>by
        have:=hp (i + 1) p' hp'
        rwa [show i0 + (i + 1) = i0 + 1 + i by lia] at this
      obtain ⟨h1,h2⟩:=hp 0 p rfl
      obtain ⟨v1,m1,e1⟩:=hc h1
      obtain ⟨v2,m2,e2⟩:=hc h2
      refine ⟨(v1,v2) :: qs,?_,fun i p' hp'=>?_⟩
      · rw [List.map_cons,← e]
        congr 1
        show p = (v1.map _,v2.map _)
        rw [← e1,← e2]
      · cases i with
        | zero=>cases hp'; exact ⟨m1,m2⟩
        | succ i =>
          have:=hq i p' hp'
          rwa [show i0 + 1 + i = i0 + (i + 1) by lia] at this
  by_cases hby:b = y
  · subst hby
    obtain ⟨qs,e,hq⟩:=key 1 (b + 1) (f3_mono hxy (by lia)) (fun {i u} hu=>by
      rw [ite_self] at hu ⊢
      exact mw_one hu) ps 0 (fun i p hp=>by rw [Nat.zero_add]; exact h i p hp)
    exact ⟨1,b + 1,qs,.inl rfl,fun z=>absurd rfl z,f3_mono hxy (by lia),e,fun i p hp=>by have:=hq i p hp; rwa [Nat.zero_add] at this⟩
  · have hb2:b = 122:=by rcases hb with z | z; exact absurd z hby; exact z
    have hlt:y < b:=by lia
    obtain ⟨qs,e,hq⟩:=key 2 b (f3_mono hxy hlt) (fun {i u} hu=>by
      by_cases hi:i % 2 = 0
      · rw [if_pos hi] at hu ⊢; exact mw_one hu
      · rw [if_neg hi] at hu ⊢; exact mw_two hu) ps 0 (fun i p hp=>by rw [Nat.zero_add]; exact h i p hp)
    exact ⟨2,b,qs,.inr rfl,fun _=>rfl,f3_mono hxy hlt,e,fun i p hp=>by have:=hq i p hp; rwa [Nat.zero_add] at this⟩
theorem rnd_good {ps:List Rl} {k:Nat} {rs:List Rl} {Mo:Nat} {al:Wd} (h:RndM ps k rs Mo) (hi:Inc al) (hw:∀ p ∈ ps,Wok al 3 p):∃ n,Good rs al n:=by
  obtain ⟨r0,M,s,_,g⟩:=h
  have e0:nn 0 = 3:=by decide
  obtain ⟨t0,g0⟩:=setM_told s hi hw
  exact (go_all g (i:=0) t0 (by rw [e0]; exact g0)).2.1
theorem rnd_ex {x y b:Nat} (hxy:x < y) (hy:y ≤ 122) (hb:b = y ∨ b = 122) {ps:List Rl} (h:PrM x y b ps) {k:Nat} (hk:RkOk ps.length k):∃ rs Mo,RndM ps k rs Mo ∧ Mo ≤ 1000 ∧ (b ≠ y → 2 ≤ ps.length → PotOk rs Mo):=by
  obtain ⟨b',z,qs,hb',hb2,hm,e,hq⟩:=prm_back hxy hy hb h
  have hl:ps.length = qs.length:=by rw [e,List.length_map]
  rw [hl] at hk
  obtain ⟨rs,Mo,g,hMo,hp⟩:=rnd_abs hb' hq hk
  have hw:∀ p ∈ qs,Wok [0,1,2] 3 p:=fun p hp=>by
    obtain ⟨i,hi,rfl⟩:=List.getElem_of_mem hp
    obtain ⟨h1,h2⟩:=hq i _ (List.getElem?_eq_getElem hi)
    have hbi:(if i % 2 = 0 then 1 else b') = 1 ∨ (if i % 2 = 0 then 1 else b') = 2:=by split; exact .inl rfl; exact hb'
    obtain ⟨o1,l1⟩:=menu_wok hbi _ h1
    obtain ⟨o2,l2⟩:=menu_wok hbi _ h2
    exact ⟨o1,o2,l1,l2⟩
  obtain ⟨n,hg⟩:=rnd_good g (al:=[0,1,2]) (by unfold Inc; decide) hw
  rw [e]
  exact ⟨_,Mo,rndM_map hm g,hMo,fun hby h2=>potOk_map hm hg (hp (hb2 hby) (by rw [List.length_map] at h2; exact h2) (good_len hg))⟩
theorem mw_over {x y:Nat} {u:Wd} (h:u ∈ MW x y):Over [x,y] u:=by
  obtain ⟨t,_,rfl⟩:=List.mem_map.mp h
  exact lett_over x y t
theorem prm_wok {x y b:Nat} {ps:List Rl} (h:PrM x y b ps) {al:Wd} (hx:x ∈ al) (hy:y ∈ al) (hb:b ∈ al ∨ ps.length ≤ 1):∀ r ∈ ps,Wok al 3 r:=fun r hr=>by
  obtain ⟨i,hi,rfl⟩:=List.getElem_of_mem hr
  obtain ⟨h1,h2⟩:=h i _ (List.getElem?_eq_getElem hi)
  have ov:∀ {u:Wd},u ∈ MW x (if i % 2 = 0 then y else b) → Over al u:=fun {u} hu c hc=>by
    have:=mw_over hu c hc
    simp only [List.mem_cons,List.not_mem_nil,or_false] at this
    rcases this with z | z
    · rw [z]; exact hx
    · by_cases hi2:i % 2 = 0
      · rw [z,if_pos hi2]; exact hy
      · rw [z,if_neg hi2]
        rcases hb with y' | y'
        · exact y'
        · lia
  exact ⟨ov h1,ov h2,mw_len h1,mw_len h2⟩
theorem letters_ex {x y b:Nat} (hxy:x < y) (hy:y ≤ 122) (hb:b = y ∨ b = 122) {ps:List Rl} (h:PrM x y b ps) {k:Nat} (hk:RkOk ps.length k):∃ al:Wd,Inc al ∧ x ∈ al ∧ y ∈ al ∧ al.length ≤ 3 ∧ (∀ r ∈ ps,Wok al 3 r) ∧ k ≤ 2 ∧ cc ps.length k < 64 ∧ (∀ u,Over al u → u.length + 1 ≤ 2 * nn k → rank al u ≤ 4000000) ∧ (b = y ∨ ps.length ≤ 1 → al.length ≤ 2):=by
  by_cases h1:ps.length ≤ 1
  · have hk2:k ≤ 2:=by rcases hk with z | z | z <;> lia
    refine ⟨[x,y],by simpa [Inc] using hxy,by simp,by simp,by simp,prm_wok h (by simp) (by simp) (.inr h1),hk2,?_,fun u hu hl=>rank_ofZ hu (L:=17) ?_ (by show geo 2 17 * 2 ≤ 4000000; decide),fun _=>Nat.le_refl _⟩
    · have c2:cc ps.length k ≤ cc ps.length 2:=cc_le _ hk2
      have:ps.length = 0 ∨ ps.length = 1:=by lia
      rcases this with e | e <;> rw [e] at c2 ⊢
      · exact Nat.lt_of_le_of_lt c2 (by decide)
      · exact Nat.lt_of_le_of_lt c2 (by decide)
    · have:=nn_le hk2
      have e2:nn 2 = 9:=by decide
      lia
  · have hk1:k ≤ 1:=by rcases hk with z | z | z <;> lia
    have hl3:ps.length ≤ 3:=by rcases hk with z | z | z <;> lia
    have hcc:cc ps.length k < 64:=by
      rcases hk with z | z | z
      · lia
      · rw [z.1]
        exact Nat.lt_of_le_of_lt (cc_le 2 z.2) (by decide)
      · rw [z.1,z.2]; decide
    have hnn:nn k ≤ 5:=Nat.le_trans (nn_le hk1) (by decide)
    obtain ⟨al,hInc,hx',hy',hb',hal,hal2⟩:∃ al:Wd,Inc al ∧ x ∈ al ∧ y ∈ al ∧ b ∈ al ∧ al.length ≤ 3 ∧ (b = y → al.length ≤ 2):=by
      by_cases hby:b = y
      · exact ⟨[x,y],by simpa [Inc] using hxy,by simp,by simp,by simp [hby],by simp,fun _=>Nat.le_refl _⟩
      · have hb2:b = 122:=by rcases hb with z | z; exact absurd z hby; exact z
        exact ⟨[x,y,b],by simp [Inc]; lia,by simp,by simp,by simp,by simp,fun z=>absurd z hby⟩
    refine ⟨al,hInc,hx',hy',hal,prm_wok h hx' hy' (.inl hb'),by lia,hcc,fun u hu hl=>rank_ofZ hu (L:=9) (by lia) ?_,fun z=>z.elim hal2 fun z=>absurd z h1⟩
    have:al.length = 0 ∨ al.length = 1 ∨ al.length = 2 ∨ al.length = 3:=by lia
    rcases this with e | e | e | e <;> rw [e] <;> decide
theorem prm_sh {x y b:Nat} {ps:List Rl} (h:PrM x y b ps):Sh ps:=fun r hr=>by
  obtain ⟨i,hi,rfl⟩:=List.getElem_of_mem hr
  obtain ⟨h1,h2⟩:=h i _ (List.getElem?_eq_getElem hi)
  exact ⟨mw_len h1,mw_len h2⟩
theorem valW_le1 {v:Nat → Nat} {m:Nat} (h:∀ c,v c ≤ m):∀ w:Wd,valW v w + m ≤ m * 2 ^ w.length
  | []=>by simp [valW]
  | c :: t=>by
    have h1:=valW_le1 h t
    have h2:v c * 2 ^ t.length ≤ m * 2 ^ t.length:=Nat.mul_le_mul_right _ (h c)
    show v c * 2 ^ t.length + valW v t + m ≤ m * 2 ^ (t.length + 1)
    rw [Nat.pow_succ,← Nat.mul_assoc]
    lia
theorem phi_le1 {v:Nat → Nat} {m:Nat} (h:∀ c,v c ≤ m) {w:Wd} {n:Nat} (hl:w.length ≤ n):phi v m w + m ≤ cN m n + m * 2 ^ n:=by
  have h1:=valW_le1 h w
  have h2:=cN_mono m hl
  have h3:m * 2 ^ w.length ≤ m * 2 ^ n:=Nat.mul_le_mul_left _ (Nat.pow_le_pow_right (by decide) hl)
  unfold phi
  lia
theorem steps10 {rs:List Rl} {al:Wd} {n Mo:Nat} (g:Good rs al n) (hMo:Mo ≤ 1000) (hc:al.length ≤ 2 ∨ PotOk rs Mo) {u v:Wd} (ou:Over al u) (ov:Over al v) (lu:u.length ≤ 5) (lv:v.length ≤ 11):∃ Nu Nv,(∀ f ss,Down rs u f ss → ss.length ≤ Nu) ∧ (∀ f ss,Down rs v f ss → ss.length ≤ Nv) ∧ (Nu + Nv) * Mo ≤ 5000000:=by
  rcases hc with z | ⟨v',m,h1,h2,h3⟩
  · have r1:rank al u ≤ 62:=by
      refine rank_ofZ ou lu ?_
      have:al.length = 0 ∨ al.length = 1 ∨ al.length = 2:=by lia
      rcases this with e | e | e <;> rw [e] <;> decide
    have r2:rank al v ≤ 4094:=by
      refine rank_ofZ ov lv ?_
      have:al.length = 0 ∨ al.length = 1 ∨ al.length = 2:=by lia
      rcases this with e | e | e <;> rw [e] <;> decide
    exact ⟨62,4094,fun f ss d=>by have:=(down_less g d ou).2.2; lia,fun f ss d=>by have:=(down_less g d ov).2.2; lia,Nat.le_trans (Nat.mul_le_mul_left _ hMo) (by decide)⟩
  · have p1:=phi_le1 h1 lu
    have p2:=phi_le1 h1 lv
    have e1:cN m 5 + m * 2 ^ 5 = 63 * m + 5:=by simp only [cN]; lia
    have e2:cN m 11 + m * 2 ^ 11 = 4095 * m + 11:=by simp only [cN]; lia
    rw [e1] at p1
    rw [e2] at p2
    refine ⟨62 * m + 5,4094 * m + 11,fun f ss d=>by have:=down_phi g h1 h2 d; lia,fun f ss d=>by have:=down_phi g h1 h2 d; lia,?_⟩
    rw [show 62 * m + 5 + (4094 * m + 11) = 4156 * m + 16 by lia]
    exact h3
end Sg
namespace Sg
open PySem L2
theorem boot_listT:bootBuiltins "list" = some (.type "list"):=by decide +kernel
theorem boot_tupleT:bootBuiltins "tuple" = some (.type "tuple"):=by decide +kernel
theorem boot_strT:bootBuiltins "str" = some (.type "str"):=by decide +kernel
theorem boot_boolT:bootBuiltins "bool" = some (.type "bool"):=by decide +kernel
theorem boot_intT:bootBuiltins "int" = some (.type "int"):=by decide +kernel
theorem boot_isi:bootBuiltins "isinstance" = some (.builtin "isinstance"):=by decide +kernel
theorem iteP {c A B:Prop} [Decidable c] (hc:c) (h:A):if c then A else B:=by rw [if_pos hc]; exact h
theorem iteN {c A B:Prop} [Decidable c] (hc:¬ c) (h:B):if c then A else B:=by rw [if_neg hc]; exact h
end Sg
namespace Sg
open PySem L2
inductive spAt (K:PySem.W.Frag) (vs:List V) (H:Hp) (Q:VK) (E_:XK):Prop
  | mk (a:Addr) (ns:List Int) (k:Nat) (h1_:vs = [.ref a,.int (k:Int)]) (h2_:SqL K H a (ns.map V.int)) (h3_:ns.length ≤ 100) (h4_:Q (.int (ns.getD k 0)) H):spAt K vs H Q E_
section
variable {P:Program} {w:World} {K:PySem.W.Frag} {mg:Str → Option Value} {base:Heap}
theorem scAt:FnScope ["_law_script","_law_k"] ["_law_script","_law_k"] (defScope sAt):=⟨rfl,rfl,rfl,by decide +kernel,rfl,by decide +kernel,by decide +kernel⟩
theorem ok_at (D:Dfn K mg "_law_at" sAt ["_law_script","_law_k"]) (B:Blt mg):Ok P w K mg base "_law_at" ["_law_script","_law_k"] 1 (spAt K):=by
  refine D.ok scAt (fun vs H Q E h=>?_) (fun f cdv A outer s H vs Q E hr h=>?_)
  · obtain ⟨a,ns,k,rfl,_⟩:=h
    rfl
  obtain ⟨a,ns,k,rfl,hS,hn,q⟩:=h
  refine ⟨_,pss_cons (ps_if (pt_cmpR op_lt (pv 1) (pe_callB call_len_seq rfl B.len PySem.boot_len (pa_cons (pv 0) pa_nil)) (nomark _)) (pss_one (ps_ret (pe_ix ix_list (pv 0) (pv 1) (fun _ _=>rfl)))) pss_nil) (pss_one (ps_ret pe_int)),?_⟩
  try dsimp only [cxOf,Cx.nox]
  refine ⟨_,rfl,_,rfl,a,_,rfl,.inl hS,_,_,rfl,rfl,_,rfl,?_⟩
  rw [List.length_map]
  refine ite2 (fun c=>?_) (fun c=>?_)
  · have hk:k < ns.length:=by have:=of_decide_eq_true c; lia
    refine ⟨_,rfl,_,rfl,a,_,_,_,rfl,rfl,hS,?_,q⟩
    refine atI_nat ?_
    rw [List.getElem?_map,getD_some (d:=0) hk]
    rfl
  · have hk:¬ k < ns.length:=fun z=>c (decide_eq_true (by lia))
    have e:ns.getD k 0 = 0:=by rw [List.getD_eq_getElem?_getD,List.getElem?_eq_none (by lia)]; rfl
    rw [e] at q
    exact q
end
end Sg
namespace Sg
open PySem L2
inductive LoW (a l:Addr) (rv:List V) (rs:List Rl) (H:Hp) (i:Nat) (σ:St) (H':Hp):Prop
  | mk (h1_:Same H H') (h2_:i ≤ rv.length) (h3_:(∃ x2 x3 x4 x5 x6 x7 x8 x9,σ = [some (.ref a),some (.ref l),x2,x3,x4,x5,x6,x7,x8,x9])) (h4_:OsAt H' l (ovIs rs i)):LoW a l rv rs H i σ H'
inductive LoY (a l:Addr) (i j:Nat) (one oth:Wd) (rs:List Rl) (H:Hp) (p:Nat) (σ:St) (H':Hp):Prop
  | mk (h1_:Same H H') (h2_:p ≤ one.length) (h3_:(∃ x6 x7 x8 x9,σ = [some (.ref a),some (.ref l),some (.int (i:Int)),some (tx one),some (.int (j:Int)),some (tx oth),x6,x7,x8,x9])) (h4_:OsAt H' l (ovIs rs i ++ ovJs rs i j ++ ovPs rs i j p)):LoY a l i j one oth rs H p σ H'
inductive LoZ (a l:Addr) (i j p:Nat) (one oth:Wd) (c0:Bool) (H3:Hp) (k:Nat) (σ:St) (H':Hp):Prop
  | mk (h1_:H' = H3) (h2_:k ≤ fitM one oth p) (x8:_) (x9:_) (h3_:σ = [some (.ref a),some (.ref l),some (.int (i:Int)),some (tx one),some (.int (j:Int)),some (tx oth),some (.int (p:Int)),some (.bl (c0 && fitN one oth p k)),x8,x9]):LoZ a l i j p one oth c0 H3 k σ H'
section
variable {P:Program} {w:World} {K:PySem.W.Frag} {mg:Str → Option Value} {base:Heap}
theorem scOver:FnScope ["_law_rules","_law_found","_law_first","_law_one","_law_second","_law_other","_law_place","_law_fits","_law_spot","_law_word"] ["_law_rules"] (defScope sOver):=⟨rfl,rfl,rfl,by decide +kernel,rfl,by decide +kernel,by decide +kernel⟩
theorem ok_over (D:Dfn K mg "_law_over" sOver ["_law_rules"]) (B:Blt mg) (hmin:mg "min" = none):Ok P w K mg base "_law_over" ["_law_rules"] 1 spOver:=by
  refine D.ok scOver (fun vs H Q E h=>?_) (fun f cdv A outer s H vs Q E hr h=>?_)
  · obtain ⟨a,rs,n,rfl,_⟩:=h
    rfl
  obtain ⟨a,rs,n,rfl,hS,hln,hn,hlen,q⟩:=h
  refine ⟨_,pss_cons (ps_set (i:=1) scOver.nd rfl (Or.inl rfl) (pe_lst pa_nil))
    (pss_cons (ps_for PassesOwn.never rfl (pi_range1 rfl B.rng (pa_cons (pe_callB call_len_seq rfl B.len PySem.boot_len (pa_cons (pv 0) pa_nil)) pa_nil)) (pg_name (i:=2) scOver.nd rfl (Or.inl rfl))
      (pss_cons (ps_set (i:=3) scOver.nd rfl (Or.inl rfl) (pe_ix ix_tup (pe_ix ix_list (pv 0) (pv 2) (fun _ _=>rfl)) pe_int (fun _ _=>rfl)))
      (pss_one (ps_for PassesOwn.never rfl (pi_range1 rfl B.rng (pa_cons (pe_callB call_len_seq rfl B.len PySem.boot_len (pa_cons (pv 0) pa_nil)) pa_nil)) (pg_name (i:=4) scOver.nd rfl (Or.inl rfl))
        (pss_cons (ps_set (i:=5) scOver.nd rfl (Or.inl rfl) (pe_ix ix_tup (pe_ix ix_list (pv 0) (pv 4) (fun _ _=>rfl)) pe_int (fun _ _=>rfl)))
        (pss_one (ps_for PassesOwn.never rfl (pi_range1 rfl B.rng (pa_cons (pe_callB call_lenS rfl B.len PySem.boot_len (pa_cons (pv 3) pa_nil)) pa_nil)) (pg_name (i:=6) scOver.nd rfl (Or.inl rfl))
          (pss_cons (ps_set (i:=7) scOver.nd rfl (Or.inl rfl) (pe_or (pe_cmpR op_gt (pv 6) pe_int (nomark _)) (pe_one (pe_cmpR op_ne (pv 2) (pv 4) (nomark _)))))
          (pss_cons (ps_for PassesOwn.never rfl (pi_range2 rfl B.rng (pa_cons (pv 6) (pa_cons (pe_callB (call_min2 rfl) rfl hmin boot_min (pa_cons (pe_callB call_lenS rfl B.len PySem.boot_len (pa_cons (pv 3) pa_nil)) (pa_cons (pe_op op_add (pv 6) (pe_callB call_lenS rfl B.len PySem.boot_len (pa_cons (pv 5) pa_nil))) pa_nil))) pa_nil))) (pg_name (i:=8) scOver.nd rfl (Or.inl rfl))
            (pss_one (ps_set (i:=7) scOver.nd rfl (Or.inl rfl) (pe_and (pv 7) (pe_one (pe_cmpR op_eq (pe_ix ix_W (pv 3) (pv 8) (fun _ _=>rfl)) (pe_ix ix_W (pv 5) (pe_op op_sub (pv 8) (pv 6)) (fun _ _=>rfl)) (nomark _)))))))
          (pss_one (ps_if (pt_val (pv 7))
            (pss_cons (ps_set (i:=9) scOver.nd rfl (Or.inl rfl) (pe_op op_addS (pv 3) (pe_slice sl_str (pv 5) (po_some (pe_op op_sub (pe_callB call_lenS rfl B.len PySem.boot_len (pa_cons (pv 3) pa_nil)) (pv 6))) po_none)))
            (pss_one (ps_expr (pe_bm PySem.F.plainAttrs_list PySem.F.slot_list_append PySem.F.type_list_append mt_append (pv 1) (pa_cons (pe_tup (pa_cons (pv 9) (pa_cons (pv 2) (pa_cons (pv 4) (pa_cons (pv 6) pa_nil))))) pa_nil))))) pss_nil)))))))))))
    (pss_one (ps_ret (pv 1)))),?_⟩
  try dsimp only [cxOf,Cx.nox]
  refine ⟨(by show 0 ≤ sizeLine; decide),fun l hl=>?_⟩
  have s1:Same H (upd H l (.lst [])):=same_new hl _
  obtain ⟨rv,hrv,hrp⟩:=id hS
  have lrv:=pairLen hrp
  have hrv':∀ H',Same H H' → ∀ i,i < rs.length → ∃ p,atI rv ((i:Nat):Int) = some (.ref p) ∧ H' p = some (.tup [tx (rs.getD i ([],[])).1,tx (rs.getD i ([],[])).2]):=fun H' s' i hi=>by
    obtain ⟨rv2,p,e,_,hx,h2⟩:=(hS.mono s').get hi
    have e':=s' _ _ hrv
    rw [e] at e'
    cases e'
    exact ⟨p,atI_nat hx,h2⟩
  refine ⟨_,rfl,a,rv,rfl,.inl (SqL.of (s1 _ _ hrv)),_,rfl,by lia,by lia,?_⟩
  rw [Int.toNat_natCast]
  refine for_range (lo:=0) (n:=rv.length) (LoW a l rv rs H)
    ⟨s1,Nat.zero_le _,⟨_,_,_,_,_,_,_,_,rfl⟩,⟨[],upd_same,.nil⟩⟩ ?_ ?_
  · rintro i σ H1 hi ⟨s2,_,⟨x2,x3,x4,x5,x6,x7,x8,x9,rfl⟩,hos⟩
    rw [Int.zero_add]
    have hir:i < rs.length:=by lia
    obtain ⟨p1,at1,h1⟩:=hrv' H1 s2 i hir
    have l1:=hln _ (getD_mem hir)
    refine ⟨_,rfl,_,rfl,a,rv,_,_,rfl,rfl,SqL.of (s2 _ _ hrv),at1,p1,_,0,_,rfl,rfl,SqT.of h1,rfl,?_⟩
    have eone:(rs.getD i ([],[])).1 = (rs.getD i ([],[])).1:=rfl
    refine ⟨_,rfl,a,rv,rfl,.inl (SqL.of (s2 _ _ hrv)),_,rfl,by lia,by lia,?_⟩
    rw [Int.toNat_natCast]
    refine for_range (lo:=0) (n:=rv.length) (fun j σ H'=>Same H H' ∧ j ≤ rv.length ∧ (∃ x4 x5 x6 x7 x8 x9,σ = [some (.ref a),some (.ref l),some (.int (i:Int)),some (tx (rs.getD i ([],[])).1),x4,x5,x6,x7,x8,x9]) ∧ OsAt H' l (ovIs rs i ++ ovJs rs i j))
      ⟨s2,Nat.zero_le _,⟨_,_,_,_,_,_,rfl⟩,by rw [show ovJs rs i 0 = [] from rfl,List.append_nil]; exact hos⟩ ?_ ?_
    · rintro j σ H2 hj ⟨s3,_,⟨x4,x5,x6,x7,x8,x9,rfl⟩,hos2⟩
      rw [Int.zero_add]
      have hjr:j < rs.length:=by lia
      obtain ⟨p2,at2,h2⟩:=hrv' H2 s3 j hjr
      have l2:=hln _ (getD_mem hjr)
      refine ⟨_,rfl,_,rfl,a,rv,_,_,rfl,rfl,SqL.of (s3 _ _ hrv),at2,p2,_,0,_,rfl,rfl,SqT.of h2,rfl,?_⟩
      generalize hone:(rs.getD i ([],[])).1 = one at *
      generalize hoth:(rs.getD j ([],[])).1 = oth at *
      refine ⟨_,rfl,one,rfl,szl (by lia),_,rfl,by lia,by lia,?_⟩
      rw [Int.toNat_natCast]
      refine for_range (lo:=0) (n:=one.length) (LoY a l i j one oth rs H)
        ⟨s3,Nat.zero_le _,⟨_,_,_,_,rfl⟩,by rw [show ovPs rs i j 0 = [] from rfl,List.append_nil]; exact hos2⟩ ?_ ?_
      · rintro p σ H3 hp ⟨s4,_,⟨x6,x7,x8,x9,rfl⟩,hos3⟩
        rw [Int.zero_add]
        have fit0:∀ Q':VK,Q' (.bl (decide (0 < p) || !decide (i = j))) H3 → (tOrV (tOp (rI0 fun i j=>.bl (decide (j < i))) (tVar 6) (tC (.int 0))) (tOp rNe (tVar 2) (tVar 4))) [some (.ref a),some (.ref l),some (.int (i:Int)),some (tx one),some (.int (j:Int)),some (tx oth),some (.int (p:Int)),x7,x8,x9] H3 Q':=fun Q' h=>by
          refine ⟨_,rfl,_,_,rfl,rfl,_,rfl,?_⟩
          have e1:decide ((0:Int) < (p:Int)) = decide (0 < p):=by rw [Bool.eq_iff_iff,decide_eq_true_iff,decide_eq_true_iff]; lia
          rw [e1]
          cases hd:decide (0 < p) with
          | true=>rw [hd] at h; exact iteT h
          | false =>
            rw [hd,Bool.false_or] at h
            refine iteF ⟨_,rfl,_,rfl,rfl,?_⟩
            have e2:decide (V.int (i:Int) = V.int (j:Int)) = decide (i = j):=by
              rw [Bool.eq_iff_iff,decide_eq_true_iff,decide_eq_true_iff]
              exact ⟨fun z=>by have:=V.int.inj z; lia,fun z=>by rw [z]⟩
            show Q' (.bl (!decide (V.int (i:Int) = V.int (j:Int)))) H3
            rw [e2]
            exact h
        refine fit0 _ ?_
        generalize hc0:(decide (0 < p) || !decide (i = j)) = c0
        refine ⟨_,rfl,_,rfl,one,rfl,szl (by lia),_,rfl,_,rfl,oth,rfl,szl (by lia),_,_,rfl,rfl,_,_,rfl,?_⟩
        have emin:(if ((p:Nat):Int) + ((oth.length:Nat):Int) < ((one.length:Nat):Int) then ((p:Nat):Int) + ((oth.length:Nat):Int) else ((one.length:Nat):Int)) = ((min one.length (p + oth.length):Nat):Int):=by
          split <;> lia
        rw [emin]
        refine ⟨_,_,rfl,⟨by lia,by lia,by lia,by lia⟩,?_⟩
        have em:(((min one.length (p + oth.length):Nat):Int) - ((p:Nat):Int)).toNat = fitM one oth p:=by unfold fitM; lia
        rw [em]
        have hm1:p + fitM one oth p ≤ one.length:=by unfold fitM; lia
        have hm2:fitM one oth p ≤ oth.length:=by unfold fitM; lia
        refine for_range (lo:=((p:Nat):Int)) (n:=fitM one oth p) (LoZ a l i j p one oth c0 H3)
          ⟨rfl,Nat.zero_le _,_,_,by rw [show fitN one oth p 0 = true from rfl,Bool.and_true]; rfl⟩ ?_ ?_
        · rintro k σ H4 hk ⟨rfl,_,y8,y9,rfl⟩
          refine ⟨_,rfl,_,rfl,?_⟩
          refine ite2 (fun c=>?_) (fun c=>?_)
          · have ea:atI one ((p:Int) + (k:Int)) = some (one.getD (p + k) 0):=atI_getD (k:=p + k) (by lia) (by lia)
            have eb:atI oth ((p:Int) + (k:Int) - (p:Int)) = some (oth.getD k 0):=atI_getD (k:=k) (by lia) (by lia)
            refine ⟨_,rfl,_,rfl,one,_,_,rfl,rfl,szl (by lia),ea,?_⟩
            refine ⟨_,rfl,_,rfl,_,rfl,_,_,rfl,rfl,oth,_,_,rfl,rfl,szl (by lia),eb,rfl,?_⟩
            refine ⟨rfl,hk,some (.int ((p:Int) + (k:Int))),y9,?_⟩
            rw [fitN_succ,← Bool.and_assoc,c,Bool.true_and,← tx1]
            rfl
          · refine ⟨rfl,hk,some (.int ((p:Int) + (k:Int))),y9,?_⟩
            rw [fitN_succ,← Bool.and_assoc,Bool.eq_false_iff.mpr c,Bool.false_and]
            rfl
        · rintro σ H4 ⟨rfl,_,y8,y9,rfl⟩
          refine ⟨_,rfl,_,rfl,?_⟩
          have eov:ovP rs i j p = if (c0 && fitN one oth p (fitM one oth p)) = true then [(one ++ oth.drop (one.length - p),i,j,p)] else []:=by
            unfold ovP
            rw [hone,hoth,hc0]
            rfl
          have enx:ovPs rs i j (p + 1) = ovPs rs i j p ++ ovP rs i j p:=flat_succ _ _
          refine ite2 (fun c=>?_) (fun c=>?_)
          · refine ⟨_,rfl,_,rfl,_,rfl,one,rfl,szl (by lia),_,rfl,_,_,rfl,rfl,_,rfl,oth,rfl,szl (by lia),_,_,rfl,rfl,?_,?_⟩
            · have:=cutW_length oth (some (((one.length:Nat):Int) - (p:Int))) none
              rw [sizeLine_eq]
              lia
            have ecut:cutW oth (some (((one.length:Nat):Int) - (p:Int))) none = oth.drop (one.length - p):=by
              have e:((one.length:Nat):Int) - (p:Int) = ((one.length - p:Nat):Int):=by lia
              rw [e,cutW_from]
            rw [ecut]
            obtain ⟨sv,hsv,hsp⟩:=hos3
            refine ⟨_,rfl,.inl ⟨rfl,_,SqL.of hsv⟩,?_⟩
            refine ⟨_,rfl,_,rfl,_,rfl,_,rfl,(by show 4 ≤ sizeLine; decide),fun t ht=>?_⟩
            have hsv':=same_new ht (.tup [tx (one ++ oth.drop (one.length - p)),.int (i:Int),.int (j:Int),.int (p:Int)]) _ _ hsv
            have c1:=pairLen hsp
            rw [List.length_append,List.length_append] at c1
            have c2:=ovPs_len rs i j p
            have c3:=ovJs_len hln i j
            have c4:=ovIs_len hln i
            have c5:j * n ≤ 100 * 100:=Nat.mul_le_mul (by lia) hn
            have c6:i * (rs.length * n) ≤ 100 * (100 * 100):=Nat.mul_le_mul (by lia) (Nat.mul_le_mul hlen hn)
            refine ⟨l,_,_,rfl,rfl,hsv',by rw [sizeLine_eq]; lia,?_⟩
            refine ⟨(s4.trans (same_new ht _)).own hl _,hp,⟨_,_,_,_,rfl⟩,?_⟩
            rw [enx,eov,if_pos c,← List.append_assoc]
            exact OsAt.snoc hsv' (pairImp hsp fun _ _ z=>z.mono (tups_of (same_new ht _))) ⟨t,rfl,upd_same⟩
          · refine ⟨s4,hp,⟨_,_,_,_,rfl⟩,?_⟩
            rw [enx,eov,if_neg c,List.append_nil]
            exact hos3
      · rintro σ H3 ⟨s4,_,⟨x6,x7,x8,x9,rfl⟩,hos3⟩
        refine ⟨s4,hj,⟨_,_,_,_,_,_,rfl⟩,?_⟩
        have e:ovJs rs i (j + 1) = ovJs rs i j ++ ovPs rs i j (rs.getD i ([],[])).1.length:=flat_succ _ _
        rw [e,hone,← List.append_assoc]
        exact hos3
    · rintro σ H2 ⟨s3,_,⟨x4,x5,x6,x7,x8,x9,rfl⟩,hos2⟩
      refine ⟨s3,hi,⟨_,_,_,_,_,_,_,_,rfl⟩,?_⟩
      have e:ovIs rs (i + 1) = ovIs rs i ++ ovJs rs i rs.length:=flat_succ _ _
      rw [e,← lrv]
      exact hos2
  · rintro σ H1 ⟨s2,_,⟨x2,x3,x4,x5,x6,x7,x8,x9,rfl⟩,hos⟩
    refine ⟨_,rfl,q _ _ s2 ?_⟩
    unfold overs
    rw [← lrv]
    exact hos
end
end Sg
namespace Sg
open PySem L2
theorem numsAt_head {rs:List Rl} {w:Wd} {p j:Nat} (hj:j < rs.length) (h:atP w (rs.getD j ([],[])).1 p = true) (hno:∀ i,i < j → atP w (rs.getD i ([],[])).1 p = false):(numsAt rs w p).head? = some j:=by
  have e:∀ k,k ≤ j → ((List.range k).filter fun i=>atP w (rs.getD i ([],[])).1 p) = []:=fun k hk=>by
    rw [List.filter_eq_nil_iff]
    intro i hi
    have hi:i < k:=by simpa using hi
    rw [hno i (by lia)]
    exact Bool.false_ne_true
  unfold numsAt
  have hr:rs.length = (j + 1) + (rs.length - (j + 1)):=by lia
  rw [hr,List.range_add,List.filter_append,nums_succ,e j (Nat.le_refl _),if_pos h]
  rfl
theorem numsAt_nil {rs:List Rl} {w:Wd} {p:Nat} (hno:∀ i,i < rs.length → atP w (rs.getD i ([],[])).1 p = false):numsAt rs w p = []:=by
  unfold numsAt
  rw [List.filter_eq_nil_iff]
  intro i hi
  have hi:i < rs.length:=by simpa using hi
  rw [hno i hi]
  exact Bool.false_ne_true
inductive spFirst0 (vs:List V) (H:Hp) (Q:VK) (E_:XK):Prop
  | mk (a:_) (rs:_) (w:_) (h1_:vs = [.ref a,tx w]) (h2_:RsAt H a rs) (h3_:rs.length ≤ 500) (h4_:w.length ≤ 1000) (h5_:(∀ r ∈ rs,r.1.length ≤ 1000)) (h6_:∀ v H',Same H H' → FsAt H' v (first rs w) → Q v H'):spFirst0 vs H Q E_
inductive FpW (a:Addr) (w:Wd) (rs:List Rl) (H:Hp) (p:Nat) (σ:St) (H':Hp):Prop
  | mk (h1_:H' = H) (h2_:(∃ x y z,σ = [some (.ref a),some (tx w),x,y,z])) (h3_:∀ q,q < p → numsAt rs w q = []):FpW a w rs H p σ H'
inductive FpX (a:Addr) (w:Wd) (rs:List Rl) (p:Nat) (H':Hp) (i:Nat) (σ:St) (H2:Hp):Prop
  | mk (h1_:H2 = H') (h2_:(∃ y z,σ = [some (.ref a),some (tx w),some (.int (0 + (p:Int))),y,z])) (h3_:∀ j,j < i → atP w (rs.getD j ([],[])).1 p = false):FpX a w rs p H' i σ H2
section
variable {P:Program} {w:World} {K:PySem.W.Frag} {mg:Str → Option Value} {base:Heap}
theorem scFPl:FnScope ["_law_rules","_law_word","_law_place","_law_number","_law_left"] ["_law_rules","_law_word"] (defScope sFPl):=⟨rfl,rfl,rfl,by decide +kernel,rfl,by decide +kernel,by decide +kernel⟩
theorem ok_fpl (D:Dfn K mg "_law_first_place" sFPl ["_law_rules","_law_word"]) (B:Blt mg):Ok P w K mg base "_law_first_place" ["_law_rules","_law_word"] 1 spFirst0:=by
  refine D.ok scFPl (fun vs H Q E h=>?_) (fun f cdv A outer s H vs Q E hr h=>?_)
  · obtain ⟨a,rs,w,rfl,_⟩:=h
    rfl
  obtain ⟨a,rs,w,rfl,hS,hlen,hw,hll,q⟩:=h
  refine ⟨_,pss_cons (ps_for PassesOwn.never rfl (pi_range1 rfl B.rng (pa_cons (pe_callB call_lenS rfl B.len PySem.boot_len (pa_cons (pv 1) pa_nil)) pa_nil)) (pg_name (i:=2) scFPl.nd rfl (Or.inl rfl))
      (pss_one (ps_for PassesOwn.never rfl (pi_range1 rfl B.rng (pa_cons (pe_callB call_len_seq rfl B.len PySem.boot_len (pa_cons (pv 0) pa_nil)) pa_nil)) (pg_name (i:=3) scFPl.nd rfl (Or.inl rfl))
        (pss_cons (ps_set (i:=4) scFPl.nd rfl (Or.inl rfl) (pe_ix ix_tup (pe_ix ix_list (pv 0) (pv 3) (fun _ _=>rfl)) pe_int (fun _ _=>rfl)))
        (pss_one (ps_if (pt_cmpR op_eq (pe_slice sl_str (pv 1) (po_some (pv 2)) (po_some (pe_op op_add (pv 2) (pe_callB call_lenS rfl B.len PySem.boot_len (pa_cons (pv 4) pa_nil))))) (pv 4) (nomark _))
          (pss_one (ps_ret (pe_tup (pa_cons (pv 2) (pa_cons (pv 3) pa_nil))))) pss_nil))))))
    (pss_one (ps_ret pe_non)),?_⟩
  try dsimp only [cxOf,Cx.nox]
  obtain ⟨vs,eH,hP⟩:=id hS
  have hvl:vs.length = rs.length:=(pairLen hP)
  refine ⟨_,rfl,w,rfl,szl hw,_,rfl,by lia,by lia,?_⟩
  rw [Int.toNat_natCast]
  refine for_range (lo:=0) (n:=w.length) (FpW a w rs H)
    ⟨rfl,⟨_,_,_,rfl⟩,fun q h=>by lia⟩ ?_ ?_
  · rintro p σ H' hp ⟨e1,⟨x,y,z,rfl⟩,hno⟩
    subst e1
    refine ⟨_,rfl,a,vs,rfl,.inl (SqL.of eH),_,rfl,by lia,by lia,?_⟩
    rw [Int.toNat_natCast]
    refine for_range (lo:=0) (n:=vs.length) (FpX a w rs p H')
      ⟨rfl,⟨_,_,rfl⟩,fun q h=>by lia⟩ ?_ ?_
    · rintro i σ H2 hi ⟨e1,⟨y,z,rfl⟩,hnoi⟩
      subst e1
      have hir:i < rs.length:=by lia
      obtain ⟨vs',p2,eH',_,hx,h2⟩:=hS.get hir
      rw [eH] at eH'
      cases eH'
      have hat2:atI vs (0 + ((i:Nat):Int)) = some (.ref p2):=by rw [Int.zero_add]; exact atI_nat hx
      have hl:=hll _ (getD_mem hir)
      refine ⟨_,rfl,_,rfl,a,vs,_,_,rfl,rfl,SqL.of eH,hat2,p2,_,0,_,rfl,rfl,SqT.of h2,rfl,?_⟩
      refine ⟨_,rfl,_,rfl,_,rfl,_,rfl,_,rfl,(rs.getD i ([],[])).1,rfl,szl hl,_,_,rfl,rfl,_,rfl,w,rfl,szl hw,_,rfl,rfl,_,rfl,?_⟩
      have ec:cutW w (some (0 + (p:Int))) (some (0 + (p:Int) + (((rs.getD i ([],[])).1.length:Nat):Int))) = (w.drop p).take (rs.getD i ([],[])).1.length:=by
        rw [Int.zero_add]
        exact cutW_at (by lia)
      rw [ec]
      refine ite2 (fun c=>?_) (fun c=>?_)
      · have c':atP w (rs.getD i ([],[])).1 p = true:=atP_iff.mpr (Sx_inj (V.str.inj (of_decide_eq_true c)))
        refine ⟨_,rfl,_,rfl,(by show 2 ≤ sizeLine; decide),fun t ht=>?_⟩
        refine q _ _ (same_new ht _) ?_
        have ef:first rs w = some (p,i):=by
          have h1:=firstF_mk (rs:=rs) (w:=w) (k:=w.length) (s:=0) (i:=p) (j:=i) (fun q' _ h2=>hno q' (by lia)) hp (by rw [Nat.zero_add]; exact numsAt_head hir c' hnoi)
          rw [Nat.zero_add] at h1
          exact h1
        rw [ef]
        refine ⟨t,rfl,?_⟩
        rw [upd_same,Int.zero_add,Int.zero_add]
      · have c':atP w (rs.getD i ([],[])).1 p = false:=by
          rw [Bool.eq_false_iff]
          intro h
          exact c (decide_eq_true (by rw [atP_iff.mp h]))
        refine ⟨rfl,⟨_,_,rfl⟩,fun j hj=>?_⟩
        by_cases hji:j = i
        · rw [hji]; exact c'
        · exact hnoi j (by lia)
    · rintro σ H2 ⟨e1,⟨y,z,rfl⟩,hnoi⟩
      refine ⟨e1,⟨_,_,_,rfl⟩,fun q' hq'=>?_⟩
      by_cases hqp:q' = p
      · rw [hqp]; exact numsAt_nil fun i hi=>hnoi i (by lia)
      · exact hno q' (by lia)
  · rintro σ H' ⟨e1,⟨x,y,z,rfl⟩,hno⟩
    subst e1
    refine q _ _ (Same.refl _) ?_
    have e:first rs w = none:=firstF_none.mpr fun q' _ h2=>hno q' (by lia)
    rw [e]
    exact rfl
inductive DnW (H0:Hp) (a l:Addr) (rs:List Rl) (al w0:Wd) (m:Nat) (σ:St) (H:Hp):Prop
  | mk (cur:_) (ss:_) (vf:_) (x:_) (y:_) (z:_) (z2:_) (h1_:m = rank al cur) (h2_:σ = [some (.ref a),some (tx cur),some (.ref l),some vf,x,y,z,z2]) (h3_:Same H0 H) (h4_:SsAt H l ss) (h5_:FsAt H vf (first rs cur)) (h6_:Over al cur) (h7_:cur.length ≤ w0.length) (h8_:ss.length + rank al cur ≤ rank al w0) (h9_:∀ f tt,Down rs cur f tt → Down rs w0 f (ss ++ tt)):DnW H0 a l rs al w0 m σ H
theorem scDown:FnScope ["_law_rules","_law_word","_law_steps","_law_found","_law_place","_law_number","_law_left","_law_right"] ["_law_rules","_law_word"] (defScope sDown):=⟨rfl,rfl,rfl,by decide +kernel,rfl,by decide +kernel,by decide +kernel⟩
theorem ok_down (D:Dfn K mg "_law_down" sDown ["_law_rules","_law_word"]) (B:Blt mg) (OF:Ok P w K mg base "_law_first_place" ["_law_rules","_law_word"] 1 spFirst0):Ok P w K mg base "_law_down" ["_law_rules","_law_word"] 2 spDown:=by
  refine D.ok scDown (fun vs H Q E h=>?_) (fun f cdv A outer s H vs Q E hr h=>?_)
  · obtain ⟨a,rs,al,n,w,rfl,_⟩:=h
    rfl
  obtain ⟨a,rs,al,n,w,rfl,hS,hG,hn,hlen,hov,hw,hrk,q⟩:=h
  refine ⟨_,pss_cons (ps_set (i:=2) scDown.nd rfl (Or.inl rfl) (pe_lst pa_nil))
    (pss_cons (ps_set (i:=3) scDown.nd rfl (Or.inl rfl) (pe_fn OF hr rfl (pa_cons (pv 0) (pa_cons (pv 1) pa_nil))))
    (pss_cons (ps_while PassesOwn.never (pt_cmp (pc_notN (pv 3)))
      (pss_cons (ps_asg (pv 3) (pg_tup rfl (pgs_cons (pg_name (i:=4) scDown.nd rfl (Or.inl rfl)) (pgs_cons (pg_name (i:=5) scDown.nd rfl (Or.inl rfl)) pgs_nil))))
      (pss_cons (ps_asg (pe_ix ix_list (pv 0) (pv 5) (fun _ _=>rfl)) (pg_tup rfl (pgs_cons (pg_name (i:=6) scDown.nd rfl (Or.inl rfl)) (pgs_cons (pg_name (i:=7) scDown.nd rfl (Or.inl rfl)) pgs_nil))))
      (pss_cons (ps_set (i:=1) scDown.nd rfl (Or.inl rfl) (pe_op op_addS (pe_op op_addS (pe_slice sl_str (pv 1) po_none (po_some (pv 4))) (pv 7)) (pe_slice sl_str (pv 1) (po_some (pe_op op_add (pv 4) (pe_callB call_lenS rfl B.len PySem.boot_len (pa_cons (pv 6) pa_nil)))) po_none)))
      (pss_cons (ps_expr (pe_bm PySem.F.plainAttrs_list PySem.F.slot_list_append PySem.F.type_list_append mt_append (pv 2) (pa_cons (pv 3) pa_nil)))
      (pss_one (ps_set (i:=3) scDown.nd rfl (Or.inl rfl) (pe_fn OF hr rfl (pa_cons (pv 0) (pa_cons (pv 1) pa_nil))))))))))
    (pss_one (ps_ret (pe_tup (pa_cons (pv 1) (pa_cons (pv 2) pa_nil))))))),?_⟩
  try dsimp only [cxOf,Cx.nox]
  have hll:∀ r ∈ rs,r.1.length ≤ 1000:=fun r hr'=>by have:=hG.ln r hr'; lia
  refine ⟨(by show 0 ≤ sizeLine; decide),fun l hl=>?_⟩
  have s1:Same H (upd H l (.lst [])):=same_new hl _
  refine ⟨_,rfl,_,rfl,a,rs,w,rfl,hS.mono s1,hlen,by lia,hll,fun v H3 s3 e3=>?_⟩
  refine ⟨DnW H a l rs al w,⟨_,w,[],v,_,_,_,_,rfl,rfl,s1.trans s3,⟨[],s3 _ _ upd_same,.nil⟩,e3,hov,Nat.le_refl _,by simp,fun f tt h=>h⟩,?_⟩
  rintro m σ H' ⟨cur,ss,vf,x,y,z,z2,rfl,rfl,s4,hss,hfs,hovc,hcl,hbd,hdn⟩
  refine ⟨_,rfl,_,rfl,?_⟩
  cases hf:first rs cur with
  | none =>
    rw [hf] at hfs
    cases (show vf = V.non from hfs)
    refine iteF ?_
    refine ⟨_,rfl,_,rfl,(by show 2 ≤ sizeLine; decide),fun t ht=>?_⟩
    have h:=hdn cur [] (Down.done hf)
    rw [List.append_nil] at h
    exact q t l cur ss _ (s4.trans (same_new ht _)) upd_same (hss.mono (same_new ht _)) h hcl
  | some pi =>
    obtain ⟨p,i⟩:=pi
    rw [hf] at hfs
    obtain ⟨p5,e5,h5⟩:=(show StAt H' vf (p,i) from hfs)
    subst e5
    rw [decide_eq_false (fun z=>nomatch z)]
    refine iteT ⟨fun σ' H'=>∃ m',m' < rank al cur ∧ DnW H a l rs al w m' σ' H',fun _ _ h=>h,?_⟩
    obtain ⟨hpl,hi,hat,hpp,hno⟩:=first_at hG hf
    obtain ⟨sv,hsv,hsp⟩:=hss
    have hsl:sv.length = ss.length:=(pairLen hsp)
    have hrl:=hG.ln _ (getD_mem hi)
    have hrl2:=bef_len (hG.bf _ (getD_mem hi))
    obtain ⟨vs,p2,eH,hvl,hx,h2⟩:=(hS.mono s4).get hi
    have hat2:atI vs ((i:Nat):Int) = some (.ref p2):=atI_nat hx
    refine ⟨_,rfl,p5,_,rfl,SqT.of h5,rfl,_,_,rfl,_,_,rfl,rfl,?_⟩
    refine ⟨_,rfl,_,rfl,a,vs,_,_,rfl,rfl,SqL.of eH,hat2,p2,_,rfl,SqT.of h2,rfl,_,_,rfl,_,_,rfl,rfl,?_⟩
    have eapp:cur.take p ++ (rs.getD i ([],[])).2 ++ cur.drop (p + (rs.getD i ([],[])).1.length) = app rs cur p i:=rfl
    have epl:((p:Nat):Int) + (((rs.getD i ([],[])).1.length:Nat):Int) = ((p + (rs.getD i ([],[])).1.length:Nat):Int):=rfl
    refine ⟨_,rfl,_,rfl,_,rfl,cur,rfl,szl (by lia),_,rfl,_,_,rfl,rfl,?_,_,rfl,_,rfl,_,rfl,(rs.getD i ([],[])).1,rfl,szl (by lia),_,_,rfl,rfl,_,rfl,cur,rfl,szl (by lia),_,_,rfl,rfl,?_,?_⟩
    · rw [cutW_to,List.length_take,sizeLine_eq]
      lia
    · rw [cutW_to,epl,cutW_from,List.length_append,List.length_take,List.length_drop,sizeLine_eq]
      lia
    rw [cutW_to,epl,cutW_from,eapp]
    refine ⟨_,rfl,.inl ⟨rfl,_,SqL.of hsv⟩,_,rfl,l,_,_,rfl,rfl,hsv,(by rw [hsl,sizeLine_eq]; lia),?_⟩
    have hss2:SsAt (upd H' l (.lst (sv ++ [.ref p5]))) l (ss ++ [(p,i)]):=SsAt.snoc hsv hsp ⟨p5,rfl,h5⟩
    have s5:Same H (upd H' l (.lst (sv ++ [.ref p5]))):=s4.own hl _
    have hcur2:(app rs cur p i).length ≤ w.length:=Nat.le_trans (app_len hG hi hpp) hcl
    refine ⟨_,rfl,_,rfl,a,rs,app rs cur p i,rfl,hS.mono s5,hlen,by lia,hll,fun v' H7 s7 e7=>?_⟩
    refine ⟨rank al (app rs cur p i),app_rank hG hovc hf,app rs cur p i,ss ++ [(p,i)],v',_,_,_,_,rfl,rfl,s5.trans s7,hss2.mono s7,e7,app_small hG hovc hi,hcur2,?_,fun f tt h=>?_⟩
    · rw [List.length_append,List.length_singleton]
      exact down_bound hG hovc hf hbd
    · rw [List.append_assoc]
      exact hdn f _ (Down.step hf h)
end
end Sg
namespace Sg
open PySem L2
inductive CsW (a l lo:Addr) (ov:List V) (rs:List Rl) (H H2:Hp) (i:Nat) (σ:St) (H':Hp):Prop
  | mk (h1_:Same H H') (h2_:H' lo = some (.lst ov)) (h3_:Tups H2 H') (h4_:i ≤ ov.length) (h5_:(∃ x2 x3 x4 x5 x6 x7 x8,σ = [some (.ref a),some (.ref l),x2,x3,x4,x5,x6,x7,x8])) (h6_:RsAt H' l (((overs rs).take i).flatMap fun o=>clO rs o)):CsW a l lo ov rs H H2 i σ H'
section
variable {P:Program} {w:World} {K:PySem.W.Frag} {mg:Str → Option Value} {base:Heap}
theorem scClash:FnScope ["_law_rules","_law_fresh","_law_word","_law_first","_law_second","_law_place","_law_one","_law_far","_law_other"] ["_law_rules"] (defScope sClash):=⟨rfl,rfl,rfl,by decide +kernel,rfl,by decide +kernel,by decide +kernel⟩
theorem ok_clash (D:Dfn K mg "_law_clashing" sClash ["_law_rules"]) (B:Blt mg) (OV:Ok P w K mg base "_law_over" ["_law_rules"] 1 spOver) (OD:Ok P w K mg base "_law_down" ["_law_rules","_law_word"] 2 spDown):Ok P w K mg base "_law_clashing" ["_law_rules"] 3 spClash:=by
  refine D.ok scClash (fun vs H Q E h=>?_) (fun f cdv A outer s H vs Q E hr h=>?_)
  · obtain ⟨a,rs,al,n,rfl,_⟩:=h
    rfl
  obtain ⟨a,rs,al,n,rfl,hS,hG,hn,hlen,hrk,q⟩:=h
  have hr1:Room 1 _:=hr.mono (by decide)
  refine ⟨_,pss_cons (ps_set (i:=1) scClash.nd rfl (Or.inl rfl) (pe_lst pa_nil))
    (pss_cons (ps_for PassesOwn.never rfl (pi_list (pe_fn OV hr1 rfl (pa_cons (pv 0) pa_nil))) (pg_tup rfl (pgs_cons (pg_name (i:=2) scClash.nd rfl (Or.inl rfl)) (pgs_cons (pg_name (i:=3) scClash.nd rfl (Or.inl rfl)) (pgs_cons (pg_name (i:=4) scClash.nd rfl (Or.inl rfl)) (pgs_cons (pg_name (i:=5) scClash.nd rfl (Or.inl rfl)) pgs_nil)))))
      (pss_cons (ps_set (i:=6) scClash.nd rfl (Or.inl rfl) (pe_op op_addS (pe_ix ix_tup (pe_ix ix_list (pv 0) (pv 3) (fun _ _=>rfl)) pe_int (fun _ _=>rfl)) (pe_slice sl_str (pv 2) (po_some (pe_callB call_lenS rfl B.len PySem.boot_len (pa_cons (pe_ix ix_tup (pe_ix ix_list (pv 0) (pv 3) (fun _ _=>rfl)) pe_int (fun _ _=>rfl)) pa_nil))) po_none)))
      (pss_cons (ps_set (i:=7) scClash.nd rfl (Or.inl rfl) (pe_op op_add (pv 5) (pe_callB call_lenS rfl B.len PySem.boot_len (pa_cons (pe_ix ix_tup (pe_ix ix_list (pv 0) (pv 4) (fun _ _=>rfl)) pe_int (fun _ _=>rfl)) pa_nil))))
      (pss_cons (ps_set (i:=8) scClash.nd rfl (Or.inl rfl) (pe_op op_addS (pe_op op_addS (pe_slice sl_str (pv 2) po_none (po_some (pv 5))) (pe_ix ix_tup (pe_ix ix_list (pv 0) (pv 4) (fun _ _=>rfl)) pe_int (fun _ _=>rfl))) (pe_slice sl_str (pv 2) (po_some (pv 7)) po_none)))
      (pss_one (ps_if (pt_cmpR op_ne (pe_ix ix_tup (pe_fn OD hr rfl (pa_cons (pv 0) (pa_cons (pv 6) pa_nil))) pe_int (fun _ _=>rfl)) (pe_ix ix_tup (pe_fn OD hr rfl (pa_cons (pv 0) (pa_cons (pv 8) pa_nil))) pe_int (fun _ _=>rfl)) (nomark _))
        (pss_one (ps_expr (pe_bm PySem.F.plainAttrs_list PySem.F.slot_list_append PySem.F.type_list_append mt_append (pv 1) (pa_cons (pe_tup (pa_cons (pv 6) (pa_cons (pv 8) pa_nil))) pa_nil)))) pss_nil))))))
    (pss_one (ps_ret (pv 1)))),?_⟩
  try dsimp only [cxOf,Cx.nox]
  refine ⟨(by show 0 ≤ sizeLine; decide),fun l hl=>?_⟩
  have s1:Same H (upd H l (.lst [])):=same_new hl _
  refine ⟨_,rfl,a,rs,n,rfl,hS.mono s1,hG.ln,by lia,hlen,fun lo H2 s2 hos=>?_⟩
  obtain ⟨ov,hov,hop⟩:=id hos
  have lov:=pairLen hop
  have c4:=ovIs_len hG.ln rs.length
  have c6:rs.length * (rs.length * n) ≤ 100 * (100 * 50):=Nat.mul_le_mul hlen (Nat.mul_le_mul hlen hn)
  have c7:(overs rs).length ≤ 500000:=by unfold overs; lia
  refine ⟨lo,rfl,⟨_,SqL.of hov⟩,?_⟩
  have nl:ov ≠ [] → lo ≠ l:=fun h z=>h (by
    have e:=s2 _ _ (upd_same:(upd H l (.lst [])) l = some (.lst []))
    rw [← z,hov] at e
    cases e
    rfl)
  refine for_list (K:=K) (a:=lo) (xs:=ov) (CsW a l lo ov rs H H2)
    ⟨s1.trans s2,hov,fun _ _ h=>h,Nat.zero_le _,⟨_,_,_,_,_,_,_,rfl⟩,⟨[],s2 _ _ upd_same,.nil⟩⟩ (fun i σ H' _ (.mk _ e ..)=>SqL.of e) ?_ ?_
  · rintro i v σ H3 hv ⟨s3,hlo,ht3,hi,⟨x2,x3,x4,x5,x6,x7,x8,rfl⟩,hrs⟩
    obtain ⟨o,ho,t,rfl,het⟩:=pairGetL hop hv
    have het3:=ht3 _ _ het
    have hmem:o ∈ overs rs:=List.mem_of_getElem? ho
    have hil:i < ov.length:=(List.getElem?_eq_some_iff.mp hv).1
    have hll:lo ≠ l:=nl (fun z=>by rw [z] at hil; exact absurd hil (Nat.not_lt_zero _))
    obtain ⟨hi1,hj1,hp1,ov1,hl1,h11,h21⟩:=overs_word hG hmem
    obtain ⟨c1,c2,cl1l,cl2l⟩:=cl_words hG hmem
    have e1l:=hG.ln _ (getD_mem hi1)
    have e2l:=hG.ln _ (getD_mem hj1)
    have b1:=bef_len (hG.bf _ (getD_mem hi1))
    have b2:=bef_len (hG.bf _ (getD_mem hj1))
    obtain ⟨rv,p1,eR,_,hx1,h1⟩:=(hS.mono s3).get hi1
    obtain ⟨rv',p2,eR',_,hx2,h2⟩:=(hS.mono s3).get hj1
    rw [eR] at eR'
    cases eR'
    have a1:atI rv ((o.2.1:Nat):Int) = some (.ref p1):=atI_nat hx1
    have a2:atI rv ((o.2.2.1:Nat):Int) = some (.ref p2):=atI_nat hx2
    have el1:(o.1.drop (rs.getD o.2.1 ([],[])).1.length).length ≤ 100:=by rw [List.length_drop]; lia
    refine ⟨t,_,rfl,SqT.of het3,rfl,_,_,rfl,_,_,rfl,_,_,rfl,_,_,rfl,rfl,?_⟩
    refine ⟨_,rfl,_,rfl,a,rv,_,_,rfl,rfl,SqL.of eR,a1,p1,_,1,_,rfl,rfl,SqT.of h1,rfl,?_⟩
    refine ⟨_,rfl,_,rfl,_,rfl,a,rv,_,_,rfl,rfl,SqL.of eR,a1,p1,_,0,_,rfl,rfl,SqT.of h1,rfl,(rs.getD o.2.1 ([],[])).1,rfl,szl (by lia),_,rfl,o.1,rfl,szl (by lia),_,_,rfl,rfl,?_,?_⟩
    · rw [cutW_from,sizeLine_eq]
      lia
    rw [cutW_from]
    refine ⟨_,rfl,_,rfl,_,rfl,a,rv,_,_,rfl,rfl,SqL.of eR,a2,p2,_,0,_,rfl,rfl,SqT.of h2,rfl,(rs.getD o.2.2.1 ([],[])).1,rfl,szl (by lia),_,_,rfl,rfl,?_⟩
    have efar:((o.2.2.2:Nat):Int) + (((rs.getD o.2.2.1 ([],[])).1.length:Nat):Int) = ((o.2.2.2 + (rs.getD o.2.2.1 ([],[])).1.length:Nat):Int):=rfl
    refine ⟨_,rfl,_,rfl,_,rfl,o.1,rfl,szl (by lia),_,rfl,_,rfl,a,rv,_,_,rfl,rfl,SqL.of eR,a2,p2,_,1,_,rfl,rfl,SqT.of h2,rfl,_,_,rfl,rfl,?_,?_⟩
    · rw [cutW_to,List.length_take,sizeLine_eq]
      lia
    refine ⟨_,rfl,_,rfl,_,rfl,o.1,rfl,szl (by lia),_,_,rfl,rfl,?_,?_⟩
    · rw [cutW_to,efar,cutW_from,List.length_append,List.length_take,List.length_drop,sizeLine_eq]
      lia
    rw [cutW_to,efar,cutW_from]
    have ec1:(rs.getD o.2.1 ([],[])).2 ++ o.1.drop (rs.getD o.2.1 ([],[])).1.length = cl1 rs o:=rfl
    have ec2:o.1.take o.2.2.2 ++ (rs.getD o.2.2.1 ([],[])).2 ++ o.1.drop (o.2.2.2 + (rs.getD o.2.2.1 ([],[])).1.length) = cl2 rs o:=rfl
    rw [ec1,ec2]
    refine ⟨_,rfl,_,rfl,a,rs,al,n,cl1 rs o,rfl,hS.mono s3,hG,by lia,by lia,c1,by lia,hrk _ c1 (by lia),fun t1 l1 f1 ss1 H4 s4 ht1 _ d1 _=>?_⟩
    refine ⟨t1,_,0,_,rfl,rfl,SqT.of ht1,rfl,?_⟩
    refine ⟨_,rfl,_,rfl,a,rs,al,n,cl2 rs o,rfl,hS.mono (s3.trans s4),hG,by lia,by lia,c2,by lia,hrk _ c2 (by lia),fun t2 l2 f2 ss2 H5 s5 ht2 _ d2 _=>?_⟩
    refine ⟨t2,_,0,_,rfl,rfl,SqT.of ht2,rfl,rfl,_,rfl,?_⟩
    have hrs5:=hrs.mono (s4.trans s5)
    have hlo5:=(s4.trans s5) _ _ hlo
    have ht5:Tups H2 H5:=ht3.trans (tups_of (s4.trans s5))
    have ecl:clO rs o = if f1 = f2 then [] else [(cl1 rs o,cl2 rs o)]:=by
      unfold clO
      rw [nf_of d1,nf_of d2]
    refine ite2 (fun c=>?_) (fun c=>?_)
    · have hne:f1 ≠ f2:=fun z=>by rw [z,decide_eq_true rfl] at c; cases c
      obtain ⟨sv,hsv,hsp⟩:=hrs5
      refine ⟨_,rfl,.inl ⟨rfl,_,SqL.of hsv⟩,?_⟩
      refine ⟨_,rfl,_,rfl,(by show 2 ≤ sizeLine; decide),fun u hu=>?_⟩
      have hsv':=same_new hu (.tup [tx (cl1 rs o),tx (cl2 rs o)]) _ _ hsv
      have k1:=pairLen hsp
      have k2:=flatO_len rs ((overs rs).take i)
      rw [List.length_take] at k2
      refine ⟨l,_,_,rfl,rfl,hsv',by rw [sizeLine_eq]; lia,?_⟩
      have t6:=tups_of (same_new hu (.tup [tx (cl1 rs o),tx (cl2 rs o)]))
      refine ⟨(s3.trans (s4.trans (s5.trans (same_new hu _)))).own hl _,?_,(ht5.trans t6).trans (tups_own hsv'),hil,⟨_,_,_,_,_,_,_,rfl⟩,?_⟩
      · rw [upd_ne hll]
        exact same_new hu _ _ _ hlo5
      · rw [take_flat ho,ecl,if_neg hne]
        exact RsAt.snoc hsv' (pairImp hsp fun _ _ z=>z.mono t6) ⟨u,rfl,upd_same⟩
    · have heq:f1 = f2:=by
        by_cases z:f1 = f2
        · exact z
        · exact absurd (by rw [decide_eq_false (fun y=>z (Sx_inj (V.str.inj y)))]; rfl) c
      refine ⟨s3.trans (s4.trans s5),hlo5,ht5,hil,⟨_,_,_,_,_,_,_,rfl⟩,?_⟩
      rw [take_flat ho,ecl,if_pos heq,List.append_nil]
      exact hrs5
  · rintro σ H3 ⟨s3,hlo,ht3,hi,⟨x2,x3,x4,x5,x6,x7,x8,rfl⟩,hrs⟩
    refine ⟨_,rfl,q _ _ s3 ?_⟩
    rw [lov,List.take_length] at hrs
    exact hrs
end
end Sg
namespace Sg
open PySem L2
section
variable {P:Program} {w:World} {K:PySem.W.Frag} {mg:Str → Option Value} {base:Heap}
theorem scSooner:FnScope ["_law_one","_law_other"] ["_law_one","_law_other"] (defScope sSooner):=⟨rfl,rfl,rfl,by decide +kernel,rfl,by decide +kernel,by decide +kernel⟩
theorem ok_sooner (D:Dfn K mg "_law_sooner" sSooner ["_law_one","_law_other"]) (B:Blt mg):Ok P w K mg base "_law_sooner" ["_law_one","_law_other"] 1 spBef:=by
  refine D.ok scSooner (fun vs H Q E h=>?_) (fun f cdv A outer s H vs Q E hr h=>?_)
  · obtain ⟨a,b,rfl,_⟩:=h
    rfl
  obtain ⟨a,b,rfl,ha,hb,q⟩:=h
  refine ⟨_,pss_one (ps_ret (pe_cmpR (op_ltF hr.units0) (pe_tup (pa_cons (pe_callB call_lenS rfl B.len PySem.boot_len (pa_cons (pv 0) pa_nil)) (pa_cons (pv 0) pa_nil)))
    (pe_tup (pa_cons (pe_callB call_lenS rfl B.len PySem.boot_len (pa_cons (pv 1) pa_nil)) (pa_cons (pv 1) pa_nil))) (nomark _))),?_⟩
  try dsimp only [cxOf,Cx.nox]
  refine ⟨_,rfl,a,rfl,szl ha,_,rfl,(by show 2 ≤ sizeLine; decide),fun p hp=>?_⟩
  refine ⟨_,rfl,b,rfl,szl hb,_,rfl,(by show 2 ≤ sizeLine; decide),fun p2 hp2=>?_⟩
  have hpp:p ≠ p2:=ne_of_none upd_same hp2
  refine ⟨p,p2,_,_,rfl,rfl,SqT.of (by rw [upd_ne hpp]; exact upd_same),SqT.of upd_same,rfl,?_⟩
  rw [lexV_bef]
  exact q _ ((same_new hp _).trans (same_new hp2 _))
end
end Sg
namespace Sg
open PySem L2
theorem occ_of {u l:Wd} (h:(!(Builtin.Str.occurrences (Sx u) (Sx l) 0 (Sx u).length 1).isEmpty) = true):Occ l u:=by
  obtain ⟨i,h1,h2⟩:=(PySem.StrLaws.found_iff _ _).mp h
  rw [Sx_len,Sx_len] at h1
  rw [subAt_Sx] at h2
  exact ⟨u.take i,u.drop (i + l.length),split_at (show atP u l i = true from h2) h1⟩
theorem occ_to {u l:Wd} (h:Occ l u):(!(Builtin.Str.occurrences (Sx u) (Sx l) 0 (Sx u).length 1).isEmpty) = true:=by
  obtain ⟨x,y,e⟩:=h
  refine (PySem.StrLaws.found_iff _ _).mpr ⟨x.length,?_,?_⟩
  · rw [Sx_len,Sx_len,e,List.length_append,List.length_append]
    lia
  · rw [subAt_Sx]
    unfold atW
    rw [e,List.append_assoc,List.drop_left' rfl,List.take_left' rfl,beq_iff_eq]
inductive spSettled (vs:List V) (H:Hp) (Q:VK) (E_:XK):Prop
  | mk (a:_) (ps:_) (al:_) (n:_) (h1_:vs = [.ref a]) (h2_:RsAt H a ps) (h3_:Inc al) (h4_:(∀ r ∈ ps,Wok al n r)) (h5_:n ≤ 50) (h6_:ps.length < 64) (h7_:(∀ u,Over al u → u.length ≤ n → rank al u ≤ 4000000)) (h8_:∀ r rs H',Same H H' → RsAt H' r rs → Good rs al n → rs.length ≤ ps.length → Settles ps rs → Q (.ref r) H'):spSettled vs H Q E_
inductive SetW (H0:Hp) (a lt:Addr) (al:Wd) (n N:Nat) (ps0:List Rl) (m:Nat) (σ:St) (H:Hp):Prop
  | mk (lr:_) (tv:_) (td:_) (rv:_) (rs:_) (x3:_) (x4:_) (x5:_) (x6:_) (x7:_) (x8:_) (x9:_) (x10:_) (h1_:σ = [some (.ref a),some (.ref lt),some (.ref lr),x3,x4,x5,x6,x7,x8,x9,x10]) (h2_:Same H0 H) (h3_:H lt = some (.lst tv)) (h4_:Paired (RlAt H) tv td) (h5_:H lr = some (.lst rv)) (h6_:Paired (RlAt H) rv rs) (h7_:lr ≠ lt) (h8_:H0 lr = none) (h9_:Good rs al n) (h10_:(∀ r ∈ td,Wok al n r)) (h11_:rs.length + td.length ≤ N) (h12_:Srt rs) (h13_:(∀ out,Stl td rs out → Stl ps0 [] out)) (h14_:m = mu al n rs * 64 + td.length):SetW H0 a lt al n N ps0 m σ H
inductive SetT (D:Ends) (σ:St) (H:Hp):Prop
  | mk (H0:Hp) (a lt lr pf:Addr) (al:Wd) (n N:Nat) (tv rv:List V) (td rs ps0:List Rl) (fr:Rl) (x3 x4 x5 x6 x8 x9 x10:Option V) (h1_:σ = [some (.ref a),some (.ref lt),some (.ref lr),x3,x4,x5,x6,some (.ref pf),x8,x9,x10]) (h2_:Same H0 H) (h3_:H0 lt = none) (h4_:H lt = some (.lst tv)) (h5_:Paired (RlAt H) tv td) (h6_:H lr = some (.lst rv)) (h7_:Paired (RlAt H) rv rs) (h8_:lr ≠ lt) (h9_:Good rs al n) (h10_:(∀ r ∈ td,Wok al n r)) (h11_:rs.length + td.length + 1 ≤ N) (h12_:N < 64) (h13_:n ≤ 50) (h14_:H pf = some (.tup [tx fr.1,tx fr.2])) (h15_:Wok al n fr) (h16_:bef fr.2 fr.1 = true) (h17_:¬ RedBy rs fr.1) (h18_:Srt rs) (h19_:(∀ out,Stl (td ++ rs.filter (fun r=>occB fr.1 r.1)) (putIn (rs.filter (fun r=>!occB fr.1 r.1)) fr) out → Stl ps0 [] out)) (h20_:∀ σ' H',(∃ m',m' < mu al n rs * 64 + (td.length + 1) ∧ SetW H0 a lt al n N ps0 m' σ' H') → D.nx σ' H'):SetT D σ H
def toKey (q:Addr × Rl):SKey:=⟨(q.2.1.length:Int),Sx q.2.1,q.1,Sx q.2.1,Sx q.2.2⟩
def QAt (H:Hp) (v:V) (q:Addr × Rl):Prop:=v = .ref q.1 ∧ H q.1 = some (.tup [tx q.2.1,tx q.2.2])
theorem q_of {H:Hp}:∀ {vs:List V} {rs:List Rl},Paired (RlAt H) vs rs → ∃ qs:List (Addr × Rl),Paired (QAt H) vs qs ∧ qs.map (·.2) = rs
  | _,_,.nil=>⟨[],.nil,rfl⟩
  | _,_,.cons r t=>by
    obtain ⟨qs,h1,h2⟩:=q_of t
    obtain ⟨p,e,h⟩:=r
    exact ⟨(p,_) :: qs,.cons ⟨e,h⟩ h1,by rw [List.map_cons,h2]⟩
theorem pair_map {α β γ:Type} {F:α → β → Prop} {G:α → γ → Prop} {f:β → γ} (h:∀ a b,F a b → G a (f b)):∀ {l₁:List α} {l₂:List β},Paired F l₁ l₂ → Paired G l₁ (l₂.map f)
  | _,_,.nil=>.nil
  | _,_,.cons r t=>.cons (h _ _ r) (pair_map h t)
theorem pair_perm {α β:Type} {F:α → β → Prop} {l l':List α} (h:l'.Perm l):∀ {m:List β},Paired F l m → ∃ m',m'.Perm m ∧ Paired F l' m':=by
  induction h with
  | nil=>intro m hm; cases hm; exact ⟨[],.nil,.nil⟩
  | cons x _ ih =>
    intro m hm
    cases hm with
    | cons r t =>
      obtain ⟨m',h1,h2⟩:=ih t
      exact ⟨_ :: m',h1.cons _,.cons r h2⟩
  | swap x y l =>
    intro m hm
    cases hm with
    | cons r t =>
      cases t with
      | cons r2 t2=>exact ⟨_,List.Perm.swap _ _ _,.cons r2 (.cons r t2)⟩
  | trans _ _ ih1 ih2 =>
    intro m hm
    obtain ⟨m1,h1,h2⟩:=ih2 hm
    obtain ⟨m2,h3,h4⟩:=ih1 h2
    exact ⟨m2,h3.trans h1,h4⟩
theorem lex_key {a b:Addr × Rl} (h:a.2.1 = b.2.1 → a = b):lexV (toKey a).flat (toKey b).flat = bef a.2.1 b.2.1:=by
  by_cases e:a.2.1 = b.2.1
  · have:=h e
    subst this
    rw [bef_irr]
    show lexV [.int _,.str _,.str _,.str _] [.int _,.str _,.str _,.str _] = false
    rw [lexV_cons,if_pos rfl,lexV_cons,if_pos rfl,lexV_cons,if_pos rfl,lexV_cons,if_pos rfl]
    rfl
  · rw [← lexV_bef]
    show lexV [.int (a.2.1.length:Int),.str (Sx a.2.1),.str (Sx a.2.1),.str (Sx a.2.2)] [.int (b.2.1.length:Int),.str (Sx b.2.1),.str (Sx b.2.1),.str (Sx b.2.2)] = lexV [.int (a.2.1.length:Int),tx a.2.1] [.int (b.2.1.length:Int),tx b.2.1]
    have ne:¬ V.str (Sx a.2.1) = V.str (Sx b.2.1):=fun z=>e (Sx_inj (V.str.inj z))
    by_cases hl:V.int (a.2.1.length:Int) = V.int (b.2.1.length:Int)
    · rw [lexV_cons,if_pos hl,lexV_cons,if_neg ne,lexV_cons,if_pos hl,lexV_cons,if_neg ne]
    · rw [lexV_cons,if_neg hl,lexV_cons,if_neg hl]
theorem key_self:∀ qs:List (Addr × Rl),Paired (fun z q=>z = toKey q) (qs.map toKey) qs
  | []=>.nil
  | _ :: r=>.cons rfl (key_self r)
theorem key_eq:∀ {zs:List SKey} {qs:List (Addr × Rl)},Paired (fun z q=>z = toKey q) zs qs → zs = qs.map toKey
  | _,_,.nil=>rfl
  | _,_,.cons r t=>by rw [List.map_cons,r,key_eq t]
theorem key_join {H:Hp}:∀ {ys:List V} {zs:List SKey} {qs:List (Addr × Rl)},Paired (KeyAt H) ys zs → Paired (fun z q=>z = toKey q) zs qs → Paired (fun v q=>KeyAt H v (toKey q)) ys qs
  | _,_,_,.nil,.nil=>.nil
  | _,_,_,.cons r t,.cons r2 t2=>.cons (by rw [← r2]; exact r) (key_join t t2)
section
variable {P:Program} {w:World} {K:PySem.W.Frag} {mg:Str → Option Value} {base:Heap}
theorem scSettled:FnScope ["_law_pairs","_law_todo","_law_rules","_law_one","_law_other","_law_here","_law_there","_law_fresh","_law_kept","_law_rule","_law_keyed"] ["_law_pairs"] (defScope sSettled):=⟨rfl,rfl,rfl,by decide +kernel,rfl,by decide +kernel,by decide +kernel⟩
def whileB:List Stmt → Nat → List Stmt
  | b,i=>match b.getD i (.Pass ⟨0,0,0,0⟩) with
    | .While _ c _ _=>c
    | _=>[]
def ifB:List Stmt → Nat → List Stmt
  | b,i=>match b.getD i (.Pass ⟨0,0,0,0⟩) with
    | .If _ c _ _=>c
    | _=>[]
abbrev NSet:List Str:=["_law_pairs","_law_todo","_law_rules","_law_one","_law_other","_law_here","_law_there","_law_fresh","_law_kept","_law_rule","_law_keyed"]
theorem cc1:CompScope (defScope sSettled) NSet (compSc (asgE (ifB (whileB (defBody sSettled) 2) 3) 4)) ["_law_rule"] [] []:=⟨rfl,by decide +kernel,by decide +kernel,by decide +kernel,by decide +kernel,rfl,by decide +kernel⟩
theorem cc2:CompScope (defScope sSettled) NSet (compSc (asgE (ifB (whileB (defBody sSettled) 2) 3) 5)) ["_law_pair"] [] []:=⟨rfl,by decide +kernel,by decide +kernel,by decide +kernel,by decide +kernel,rfl,by decide +kernel⟩
theorem cc3:CompScope (defScope sSettled) NSet (compSc (match (defBody sSettled).getD 3 (.Pass ⟨0,0,0,0⟩) with | .Return (some e) _=>e | _=>.Constant .none 0 ⟨0,0,0,0⟩)) ["_law_rule"] ["_law_rules"] [2]:=⟨rfl,by decide +kernel,by decide +kernel,by decide +kernel,by decide +kernel,rfl,by decide +kernel⟩
theorem boot_listT9:bootBuiltins "list" = some (.type "list"):=by decide +kernel
theorem room10 {k:Nat} {A:Around} (hr:Room k A):A.units + 10 < cLine:=by have:=hr.un; lia
theorem boot_sortd:bootBuiltins "sorted" = some (.builtin "sorted"):=by decide +kernel
theorem ok_settled (D:Dfn K mg "_law_settled" sSettled ["_law_pairs"]) (B:Blt mg) (hsrt:mg "sorted" = none) (OS:Ok P w K mg base "_law_sooner" ["_law_one","_law_other"] 1 spBef) (OD:Ok P w K mg base "_law_down" ["_law_rules","_law_word"] 2 spDown):Ok P w K mg base "_law_settled" ["_law_pairs"] 3 spSettled:=by
  refine D.ok scSettled (fun vs H Q E h=>?_) (fun f cdv A outer s H vs Q E hr h=>?_)
  · obtain ⟨a,ps,al,n,rfl,_⟩:=h
    rfl
  obtain ⟨a,ps,al,n,rfl,hS,hInc,hok,hn,hlen,hrk,q⟩:=h
  have hr1:Room 1 _:=hr.mono (by decide)
  refine ⟨_,pss_cons (ps_set (i:=1) scSettled.nd rfl (Or.inl rfl) (pe_callTy call_list_of rfl B.lst boot_listT9 (pa_cons (pv 0) pa_nil)))
    (pss_cons (ps_set (i:=2) scSettled.nd rfl (Or.inr rfl) (pe_lst pa_nil))
    (pss_cons (ps_while PassesOwn.never (pt_cmpR (op_neNil hr.units0) (pv 1) (pe_lst pa_nil) (nomark _))
      (pss_cons (ps_asg (pe_bm PySem.F.plainAttrs_list PySem.F.slot_list_pop PySem.F.type_list_pop mt_popAt (pv 1) (pa_cons pe_int pa_nil)) (pg_tup rfl (pgs_cons (pg_name (i:=3) scSettled.nd rfl (Or.inl rfl)) (pgs_cons (pg_name (i:=4) scSettled.nd rfl (Or.inl rfl)) pgs_nil))))
      (pss_cons (ps_set (i:=5) scSettled.nd rfl (Or.inl rfl) (pe_ix ix_tup (pe_fn OD hr rfl (pa_cons (pv 2) (pa_cons (pv 3) pa_nil))) pe_int (fun _ _=>rfl)))
      (pss_cons (ps_set (i:=6) scSettled.nd rfl (Or.inl rfl) (pe_ix ix_tup (pe_fn OD hr rfl (pa_cons (pv 2) (pa_cons (pv 4) pa_nil))) pe_int (fun _ _=>rfl)))
      (pss_one (ps_if (pt_cmpR op_ne (pv 5) (pv 6) (nomark _))
        (pss_cons (ps_set (i:=7) scSettled.nd rfl (Or.inl rfl) (pe_tup (pa_cons (pv 5) (pa_cons (pv 6) pa_nil))))
        (pss_cons (ps_if (pt_val (pe_fn OS hr1 rfl (pa_cons (pv 5) (pa_cons (pv 6) pa_nil)))) (pss_one (ps_set (i:=7) scSettled.nd rfl (Or.inl rfl) (pe_tup (pa_cons (pv 6) (pa_cons (pv 5) pa_nil))))) pss_nil)
        (pss_imp (pss_cons (ps_set (i:=8) scSettled.nd rfl (Or.inl rfl) (pe_lst (pa_cons (pv 7) pa_nil)))
        (pss_cons (ps_for PassesOwn.never rfl (pi_list (pv 2)) (pg_name (i:=9) scSettled.nd rfl (Or.inl rfl))
          (pss_one (ps_if (pt_cmpR op_in_str (pe_ix ix_tup (pv 7) pe_int (fun _ _=>rfl)) (pe_ix ix_tup (pv 9) pe_int (fun _ _=>rfl)) rfl)
            (pss_one (ps_expr (pe_bm PySem.F.plainAttrs_list PySem.F.slot_list_append PySem.F.type_list_append mt_append (pv 1) (pa_cons (pv 9) pa_nil))))
            (pss_one (ps_expr (pe_bm PySem.F.plainAttrs_list PySem.F.slot_list_append PySem.F.type_list_append mt_append (pv 8) (pa_cons (pv 9) pa_nil)))))))
        (pss_cons (ps_comp (i:=10) (g:=gName 0) (tt:=tNoTest) (te:=tTup (tCons (tCB rLenS (tCons (tOp (rIxT K) (tVar 0) (tC (.int 0))) tNil)) (tCons (tOp (rIxT K) (tVar 0) (tC (.int 0))) (tCons (tVar 0) tNil)))) rfl cc1 (pi_list (pv 8)) (by intro cl C ex s H; exact ⟨pg_name (i:=0) cc1.nd rfl (.inl rfl),pf_nil,pe_tup (pa_cons (pe_callB call_lenS rfl B.len PySem.boot_len (pa_cons (pe_ix ix_tup (pv 0) pe_int (fun _ _=>rfl)) pa_nil)) (pa_cons (pe_ix ix_tup (pv 0) pe_int (fun _ _=>rfl)) (pa_cons (pv 0) pa_nil)))⟩) scSettled.nd rfl rfl)
        (pss_one (ps_set (i:=2) scSettled.nd rfl (Or.inr rfl) (pe_comp (g:=gName 0) (tt:=tNoTest) (te:=tOp (rIxT K) (tVar 0) (tC (.int 2))) rfl cc2 (pi_list (pe_callB (call_sortO (room10 hr)) rfl hsrt boot_sortd (pa_cons (pv 10) pa_nil))) (by intro cl C ex s H; exact ⟨pg_name (i:=0) cc2.nd rfl (.inl rfl),pf_nil,pe_ix ix_tup (pv 0) pe_int (fun _ _=>rfl)⟩)))))))
          (fun D' σ H' (h:SetT D' σ H')=>?tail)))) pss_nil))))))
    (pss_one (ps_ret (pe_comp (g:=gName 0) (tt:=tNoTest) (te:=tTup (tCons (tOp (rIxT K) (tVar 0) (tC (.int 0))) (tCons (tOp (rIxT K) (tCall spDown [] E0 (tCons (tVar 1) (tCons (tOp (rIxT K) (tVar 0) (tC (.int 1))) tNil))) (tC (.int 0))) tNil))) rfl cc3 (pi_list (pv 2)) (by intro cl C ex s H; exact ⟨pg_name (i:=0) cc3.nd rfl (.inl rfl),pf_nil,pe_tup (pa_cons (pe_ix ix_tup (pv 0) pe_int (fun _ _=>rfl)) (pa_cons (pe_ix ix_tup (pe_fn OD hr rfl (pa_cons (pv 1) (pa_cons (pe_ix ix_tup (pv 0) pe_int (fun _ _=>rfl)) pa_nil))) pe_int (fun _ _=>rfl)) pa_nil))⟩)))))),?_⟩
  case tail =>
    obtain ⟨H0,a,lt,lr,pf,al,n,N,tv,rv,td,rs,ps0,fr,x3,x4,x5,x6,x8,x9,x10,rfl,s0,nlt,hlt,hpt,hlr,hpr,nrt,hG,htd,hN,hN64,hn,hpf,wf,hbf,hirr,hsrt,hstl,kk⟩:=h
    refine ⟨_,rfl,(by show 1 ≤ sizeLine; decide),fun lk hlk=>?_⟩
    have sk:Same H' (upd H' lk (.lst [.ref pf])):=same_new hlk _
    have nkt:lk ≠ lt:=fun z=>by rw [z,hlt] at hlk; cases hlk
    have nkr:lk ≠ lr:=fun z=>by rw [z,hlr] at hlk; cases hlk
    have nk0:H0 lk = none:=s0.free hlk
    have lrs:=pairLen hpr
    have ltd:=pairLen hpt
    refine ⟨_,rfl,lr,rfl,⟨rv,SqL.of (sk _ _ hlr)⟩,?_⟩
    refine for_list (K:=K) (a:=lr) (xs:=rv) (fun i σ H2=>∃ tv' td' kv kp y9,σ = [some (.ref a),some (.ref lt),some (.ref lr),x3,x4,x5,x6,some (.ref pf),some (.ref lk),y9,x10] ∧ Same H0 H2 ∧ H2 lr = some (.lst rv) ∧ Tups H' H2 ∧
        H2 lt = some (.lst tv') ∧ Paired (RlAt H2) tv' td' ∧ H2 lk = some (.lst kv) ∧ Paired (RlAt H2) kv (fr :: kp) ∧ kp.length + td'.length = i + td.length ∧ (∀ r ∈ kp,r ∈ rs) ∧ (∀ r ∈ td',Wok al n r) ∧ (∀ r ∈ rs.take i,r ∈ kp ∨ Occ fr.1 r.1) ∧ td' = td ++ (rs.take i).filter (fun r=>occB fr.1 r.1) ∧ kp = (rs.take i).filter (fun r=>!occB fr.1 r.1))
      ⟨tv,td,[.ref pf],[],_,rfl,s0.trans sk,sk _ _ hlr,tups_of sk,sk _ _ hlt,pairImp hpt fun _ _ z=>z.mono (tups_of sk),upd_same,.cons ⟨pf,rfl,sk _ _ hpf⟩ .nil,by simp,(fun r hr=>nomatch hr),htd,(fun r hr=>by simp at hr),by simp,rfl⟩
      (fun i σ H2 _ ⟨_,_,_,_,_,_,_,e,_⟩=>SqL.of e) ?_ ?_
    · rintro i v σ H2 hv ⟨tv',td',kv,kp,y9,rfl,s2,hlr2,ht2,hlt2,hpt2,hlk2,hpk2,hcnt,hkp,htd2,hocc,etd,ekp⟩
      obtain ⟨rl,hrl,p9,rfl,h9⟩:=pairGetL hpr hv
      have hmem:rl ∈ rs:=List.mem_of_getElem? hrl
      have hil:i < rv.length:=(List.getElem?_eq_some_iff.mp hv).1
      have h92:=ht2 _ _ h9
      have hpf2:=ht2 _ _ hpf
      have q1:=pairLen hpt2
      have q2:=pairLen hpk2
      rw [List.length_cons] at q2
      refine ⟨_,rfl,pf,_,0,_,rfl,rfl,SqT.of hpf2,rfl,_,rfl,p9,_,0,_,rfl,rfl,SqT.of h92,rfl,_,_,rfl,rfl,_,rfl,?_⟩
      refine ite2 (fun c=>?_) (fun c=>?_)
      · refine ⟨_,rfl,.inl ⟨rfl,_,SqL.of hlt2⟩,_,rfl,lt,_,_,rfl,rfl,hlt2,by rw [sizeLine_eq]; lia,?_⟩
        have tw:=tups_own (ys:=tv' ++ [.ref p9]) hlt2
        refine ⟨_,td' ++ [rl],kv,kp,_,rfl,s2.own nlt _,by rw [upd_ne nrt]; exact hlr2,ht2.trans tw,upd_same,pairImp (pairApp hpt2 (.cons ⟨p9,rfl,h92⟩ .nil)) fun _ _ z=>z.mono tw,by rw [upd_ne nkt]; exact hlk2,pairImp hpk2 fun _ _ z=>z.mono tw,?_,hkp,?_,?_,?_,?_⟩
        · rw [List.length_append,List.length_singleton]; lia
        · intro r hr
          rcases List.mem_append.mp hr with z | z
          · exact htd2 r z
          · rw [List.mem_singleton.mp z]; exact hG.wok hmem
        · intro r hr
          rw [List.take_add_one,hrl] at hr
          rcases List.mem_append.mp hr with z | z
          · exact hocc r z
          · have e:r = rl:=by simpa using z
            rw [e]; exact .inr (occ_of c)
        · rw [etd,List.take_add_one,hrl,List.filter_append,List.append_assoc]
          simp [occB_t (occ_of c)]
        · rw [ekp,List.take_add_one,hrl,List.filter_append]
          simp [occB_t (occ_of c)]
      · refine ⟨_,rfl,.inl ⟨rfl,_,SqL.of hlk2⟩,_,rfl,lk,_,_,rfl,rfl,hlk2,by rw [sizeLine_eq]; lia,?_⟩
        have tw:=tups_own (ys:=kv ++ [.ref p9]) hlk2
        refine ⟨tv',td',_,kp ++ [rl],_,rfl,s2.own nk0 _,by rw [upd_ne nkr.symm]; exact hlr2,ht2.trans tw,by rw [upd_ne nkt.symm]; exact hlt2,pairImp hpt2 fun _ _ z=>z.mono tw,upd_same,?_,?_,?_,htd2,?_,?_,?_⟩
        · rw [← List.cons_append]
          exact pairImp (pairApp hpk2 (.cons ⟨p9,rfl,h92⟩ .nil)) fun _ _ z=>z.mono tw
        · rw [List.length_append,List.length_singleton]; lia
        · intro r hr
          rcases List.mem_append.mp hr with z | z
          · exact hkp r z
          · rw [List.mem_singleton.mp z]; exact hmem
        · intro r hr
          rw [List.take_add_one,hrl] at hr
          rcases List.mem_append.mp hr with z | z
          · rcases hocc r z with z | z
            · exact .inl (List.mem_append_left _ z)
            · exact .inr z
          · have e:r = rl:=by simpa using z
            rw [e]; exact .inl (by simp)
        · have no:=occB_f (fun z=>c (occ_to z):¬ Occ fr.1 rl.1)
          rw [etd,List.take_add_one,hrl,List.filter_append]
          simp [no]
        · have no:=occB_f (fun z=>c (occ_to z):¬ Occ fr.1 rl.1)
          rw [ekp,List.take_add_one,hrl,List.filter_append]
          simp [no]
    rintro σ H2 ⟨tv',td',kv,kp,y9,rfl,s2,hlr2,ht2,hlt2,hpt2,hlk2,hpk2,hcnt,hkp,htd2,hocc,etd,ekp⟩
    rw [lrs,List.take_length] at hocc etd ekp
    rw [lrs] at hcnt
    have q2:=pairLen hpk2
    rw [List.length_cons] at q2
    obtain ⟨qs,hqs,eqs⟩:=q_of hpk2
    have lqs:=pairLen hqs
    have wks:∀ q ∈ qs,Wok al n q.2:=fun q hq=>by
      have:q.2 ∈ fr :: kp:=by rw [← eqs]; exact List.mem_map.mpr ⟨q,hq,rfl⟩
      rcases List.mem_cons.mp this with z | z
      · rw [z]; exact wf
      · exact hG.wok (hkp _ z)
    refine ⟨_,rfl,lk,rfl,⟨kv,SqL.of hlk2⟩,?_⟩
    refine turns_list (K:=K) (xs:=kv) (fun j acc H3=>Same H2 H3 ∧ j ≤ kv.length ∧ Paired (fun v q=>KeyAt H3 v (toKey q)) acc (qs.take j)) ⟨Same.refl _,Nat.zero_le _,.nil⟩ (fun j acc H3 ⟨_,hj,e⟩=>?_) (small1000 (by lia)) (fun j acc H3 ⟨s3,_,_⟩=>SqL.of (s3 _ _ hlk2)) (fun j acc H3 v hv ⟨s3,hj,hacc⟩=>?_) (fun acc H3 ⟨s3,hj,hacc⟩ pm hpm=>?_)
    · have:=pairLen e
      rw [List.length_take] at this
      lia
    · obtain ⟨qq,hq,rfl,hqt⟩:=pairGetL hqs hv
      have hjl:j < kv.length:=(List.getElem?_eq_some_iff.mp hv).1
      have wq:=wks qq (List.mem_of_getElem? hq)
      have hq3:=s3 _ _ hqt
      refine ⟨rfl,noTest ?_⟩
      refine ⟨_,rfl,qq.1,_,0,_,rfl,rfl,SqT.of hq3,rfl,qq.2.1,rfl,szl (by have:=wq.2.2.1; lia),_,rfl,qq.1,_,0,_,rfl,rfl,SqT.of hq3,rfl,_,rfl,(by show 3 ≤ sizeLine; decide),fun t ht=>?_⟩
      have sn:=same_new ht (.tup [.int (qq.2.1.length:Int),tx qq.2.1,.ref qq.1])
      refine ⟨s3.trans sn,hjl,?_⟩
      rw [List.take_add_one,hq]
      exact pairApp (pairImp hacc fun v q ⟨t',e1,e2,e3⟩=>⟨t',e1,sn _ _ e2,sn _ _ e3⟩) (.cons ⟨t,rfl,upd_same,sn _ _ hq3⟩ .nil)
    rw [lqs,List.take_length] at hacc
    have sm:=same_new hpm (.lst acc)
    have hacc':Paired (KeyAt (upd H3 pm (.lst acc))) acc (qs.map toKey):=pair_map (F:=fun v q=>KeyAt (upd H3 pm (.lst acc)) v (toKey q)) (f:=toKey) (fun v q h=>h) (pairImp hacc fun v q ⟨t',e1,e2,e3⟩=>⟨t',e1,sm _ _ e2,sm _ _ e3⟩)
    have lac:=pairLen hacc
    have kne:∀ r ∈ kp,r.1 ≠ fr.1:=fun r hr z=>hirr ⟨r,hkp r hr,[],[],by rw [z]; simp⟩
    have ksrt:Srt kp:=by rw [ekp]; exact hsrt.filter _
    have hnd:(fr :: kp).Pairwise (fun a b=>a.1 ≠ b.1):=List.pairwise_cons.mpr ⟨fun r hr z=>kne r hr z.symm,ksrt.imp fun {a b} h z=>by rw [z,bef_irr] at h; cases h⟩
    have hndq:qs.Pairwise (fun a b=>a.2.1 ≠ b.2.1):=by
      rw [← eqs] at hnd
      exact (List.pairwise_map (f:=fun x:Addr × Rl=>x.2) (R:=fun a b:Rl=>a.1 ≠ b.1)).mp hnd
    have hone:∀ a ∈ qs,∀ b ∈ qs,a.2.1 = b.2.1 → a = b:=fun a ha b hb e=>by
      obtain ⟨i,hi,rfl⟩:=List.mem_iff_getElem.mp ha
      obtain ⟨j,hj,rfl⟩:=List.mem_iff_getElem.mp hb
      have hp:=List.pairwise_iff_getElem.mp hndq
      rcases Nat.lt_trichotomy i j with z | z | z
      · exact absurd e (hp i j hi hj z)
      · subst z; rfl
      · exact absurd e.symm (hp j i hj hi z)
    have hlex:∀ a ∈ qs,∀ b ∈ qs,lexV (toKey a).flat (toKey b).flat = bef a.2.1 b.2.1:=fun a ha b hb=>lex_key (hone a ha b hb)
    have hstrict:StrictK (qs.map toKey):=by
      constructor
      · intro a0 b0 c0 ha0 hb0 hc0 e1 e2
        obtain ⟨a,ha,rfl⟩:=List.mem_map.mp ha0
        obtain ⟨b,hb,rfl⟩:=List.mem_map.mp hb0
        obtain ⟨c,hc,rfl⟩:=List.mem_map.mp hc0
        rw [hlex a ha b hb] at e1
        rw [hlex b hb c hc] at e2
        rw [hlex a ha c hc]
        exact bef_tr e1 e2
      · rw [List.pairwise_map]
        refine List.Pairwise.imp_of_mem (fun {a b} ha hb hne=>?_) hndq
        rw [hlex a ha b hb,hlex b hb a ha]
        cases hb':bef a.2.1 b.2.1 with
        | true=>exact .inl rfl
        | false=>exact .inr (bef_tot hb' hne)
    refine ⟨_,rfl,pm,acc,_,rfl,upd_same,hacc',by lia,hstrict,fun l5 ys zs' hl5 hzp hkz hzo=>?_⟩
    obtain ⟨qs',hqp,hqz⟩:=pair_perm hzp (key_self qs)
    have hq5:Paired (fun v q=>KeyAt (upd H3 pm (.lst acc)) v (toKey q)) ys qs':=key_join hkz hqz
    have hsq:Srt (qs'.map (·.2)):=by
      unfold Srt
      rw [List.pairwise_map]
      have e:zs' = qs'.map toKey:=key_eq hqz
      rw [e,List.pairwise_map] at hzo
      refine List.Pairwise.imp_of_mem (fun {a b} ha hb h=>?_) hzo
      rw [hlex a (hqp.mem_iff.mp ha) b (hqp.mem_iff.mp hb)] at h
      exact h
    have hput:qs'.map (·.2) = putIn kp fr:=by
      refine srt_unique ?_ hsq (putIn_srt ksrt kne)
      have h1:=hqp.map (·.2)
      rw [eqs] at h1
      exact h1.trans (putIn_perm kp fr).symm
    have s5:=sm.trans (same_new hl5 (.lst ys))
    have lys:=pairLen hq5
    have lqs':=hqp.length_eq
    refine ⟨l5,rfl,⟨ys,SqL.of upd_same⟩,?_⟩
    have sl5:=same_new hl5 (.lst ys)
    have key5:∀ v q,KeyAt (upd H3 pm (.lst acc)) v (toKey q) → KeyAt (upd (upd H3 pm (.lst acc)) l5 (.lst ys)) v (toKey q):=fun v q ⟨t',e1,e2,e3⟩=>⟨t',e1,sl5 _ _ e2,sl5 _ _ e3⟩
    have hl5':(upd (upd H3 pm (.lst acc)) l5 (.lst ys)) l5 = some (.lst ys):=upd_same
    generalize upd (upd H3 pm (.lst acc)) l5 (.lst ys) = H5 at *
    refine turns_list (K:=K) (xs:=ys) (fun j ac H4=>H4 = H5 ∧ j ≤ ys.length ∧ ac = (qs'.take j).map fun q=>V.ref q.1) ⟨rfl,Nat.zero_le _,rfl⟩ (fun j ac H4 ⟨_,hj,e⟩=>?_) (small1000 (by lia)) (fun j ac H4 ⟨e,_,_⟩=>by rw [e]; exact SqL.of hl5') (fun j ac H4 v hv ⟨e4,hj,hac⟩=>?_) (fun ac H4 ⟨e4,hj,hac⟩ l6 hl6=>?_)
    · rw [e,List.length_map,List.length_take]
      lia
    · subst e4
      obtain ⟨qq,hq,hky⟩:=pairGetL hq5 hv
      have hjl:j < ys.length:=(List.getElem?_eq_some_iff.mp hv).1
      obtain ⟨t',rfl,e2,e3⟩:=key5 _ _ hky
      refine ⟨rfl,noTest ?_⟩
      refine ⟨_,rfl,t',_,2,_,rfl,rfl,SqT.of e2,rfl,rfl,hjl,?_⟩
      rw [List.take_add_one,hq,hac,List.map_append]
      rfl
    subst e4
    rw [lys,List.take_length] at hac
    have s6:=same_new hl6 (.lst ac)
    have t6:Same H2 (upd H4 l6 (.lst ac)):=s3.trans (s5.trans s6)
    have hmem:∀ r ∈ qs'.map (·.2),r = fr ∨ r ∈ kp:=fun r hr=>by
      obtain ⟨q0,h0,rfl⟩:=List.mem_map.mp hr
      have:q0.2 ∈ fr :: kp:=by rw [← eqs]; exact List.mem_map.mpr ⟨q0,hqp.mem_iff.mp h0,rfl⟩
      exact List.mem_cons.mp this
    have hback:∀ r,r = fr ∨ r ∈ kp → r ∈ qs'.map (·.2):=fun r hr=>by
      have h1:r ∈ qs.map (·.2):=by rw [eqs]; exact List.mem_cons.mpr hr
      obtain ⟨q0,h0,rfl⟩:=List.mem_map.mp h1
      exact List.mem_map.mpr ⟨q0,hqp.mem_iff.mpr h0,rfl⟩
    have hGn:Good (qs'.map (·.2)) al n:=good_new (f:=fr) hG (fun r hr=>(hmem r hr).imp id (hkp r)) hbf wf.1 wf.2.1 wf.2.2.1
    have hmu:mu al n (qs'.map (·.2)) < mu al n rs:=mu_less wf.1 wf.2.2.1 hirr ⟨fr,hback fr (.inl rfl),[],[],by simp⟩ fun u ⟨r,hr,ho⟩=>by
      rcases hocc r hr with z | z
      · exact ⟨r,hback r (.inr z),ho⟩
      · exact ⟨fr,hback fr (.inl rfl),z.trans ho⟩
    have hprs:Paired (RlAt (upd H4 l6 (.lst ac))) ac (qs'.map (·.2)):=by
      rw [hac]
      have:∀ {ys:List V} {qs':List (Addr × Rl)},Paired (fun v q=>KeyAt (upd H3 pm (.lst acc)) v (toKey q)) ys qs' → Paired (RlAt (upd H4 l6 (.lst ac))) (qs'.map fun q=>V.ref q.1) (qs'.map (·.2)):=fun {ys qs'} h=>by
        induction h with
        | nil=>exact .nil
        | cons r _ ih =>
          obtain ⟨t',_,_,e3⟩:=r
          exact .cons ⟨_,rfl,s6 _ _ (sl5 _ _ e3)⟩ ih
      rw [← hac]
      rw [hac] at this ⊢
      exact this hq5
    refine kk _ _ ⟨_,?_,l6,tv',td',ac,qs'.map (·.2),_,_,_,_,_,_,_,_,rfl,s2.trans t6,t6 _ _ hlt2,pairImp hpt2 fun _ _ z=>z.mono (tups_of t6),upd_same,hprs,?_,?_,hGn,htd2,?_,hsq,(fun out ho=>hstl out (by rw [hput,etd,ekp] at ho; exact ho)),rfl⟩
    · lia
    · intro z
      have e:=s5 _ _ (s3 _ _ hlt2)
      rw [z,e] at hl6
      cases hl6
    · exact (s2.trans (s3.trans s5)).free hl6
    · rw [List.length_map]
      lia
  obtain ⟨pv0,hpv,hpp⟩:=id hS
  refine ⟨_,rfl,a,pv0,rfl,.inl (SqL.of hpv),fun lt hlt=>?_⟩
  have s1:Same H (upd H lt (.lst pv0)):=same_new hlt _
  refine ⟨(by show 0 ≤ sizeLine; decide),fun lr0 hlr0=>?_⟩
  have s2:Same (upd H lt (.lst pv0)) (upd (upd H lt (.lst pv0)) lr0 (.lst [])):=same_new hlr0 _
  refine ⟨SetW H a lt al n ps.length ps,⟨_,lr0,pv0,ps,[],[],_,_,_,_,_,_,_,_,rfl,s1.trans s2,s2 _ _ upd_same,pairImp hpp fun _ _ z=>z.mono (tups_of (s1.trans s2)),upd_same,.nil,(fun z=>by rw [z,upd_same] at hlr0; cases hlr0),s1.free hlr0,
    ⟨hInc,(fun r hr=>nomatch hr),(fun r hr=>nomatch hr),(fun r hr=>nomatch hr)⟩,hok,by simp,.nil,(fun out ho=>ho),rfl⟩,?_⟩
  rintro m σ H1 ⟨lr,tv,td,rv,rs,x3,x4,x5,x6,x7,x8,x9,x10,rfl,t1,hlt1,hpt,hlr1,hpr,nrt,n0r,hG,htd,hN,hsrt,hstl,rfl⟩
  refine ⟨_,rfl,(by show 0 ≤ sizeLine; decide),fun z hz=>?_⟩
  have sz:Same H1 (upd H1 z (.lst [])):=same_new hz _
  refine ⟨lt,z,tv,rfl,rfl,SqL.of (sz _ _ hlt1),SqL.of upd_same,_,rfl,?_⟩
  have hlt2:=sz _ _ hlt1
  have hlr2:=sz _ _ hlr1
  have hpt2:=pairImp hpt fun _ _ y=>y.mono (tups_of sz)
  have hpr2:=pairImp hpr fun _ _ y=>y.mono (tups_of sz)
  have t2:=t1.trans sz
  generalize upd H1 z (.lst []) = H2 at *
  have lrs:=pairLen hpr2
  cases hpt2 with
  | nil =>
    refine iteF ?_
    refine ⟨_,rfl,lr,rfl,⟨rv,SqL.of hlr2⟩,?_⟩
    refine turns_list (K:=K) (xs:=rv) (fun j acc H3=>Same H2 H3 ∧ j ≤ rv.length ∧ Paired (RlAt H3) acc ((rs.take j).map fun r=>(r.1,nf rs r.2))) ⟨Same.refl _,Nat.zero_le _,.nil⟩ (fun j acc H3 ⟨_,hj,e⟩=>?_) (small1000 (by simp at hN; lia)) (fun j acc H3 ⟨s3,_,_⟩=>SqL.of (s3 _ _ hlr2)) (fun j acc H3 v hv ⟨s3,hj,hacc⟩=>?_) (fun acc H3 ⟨s3,hj,hacc⟩ pm hpm=>?_)
    · have:=pairLen e
      rw [List.length_map,List.length_take] at this
      lia
    · obtain ⟨rl,hrl,p9,rfl,h9⟩:=pairGetL hpr2 hv
      have hjl:j < rv.length:=(List.getElem?_eq_some_iff.mp hv).1
      have wr:=hG.wok (List.mem_of_getElem? hrl)
      have h93:=s3 _ _ h9
      have hR3:RsAt H3 lr rs:=⟨rv,s3 _ _ hlr2,pairImp hpr2 fun _ _ y=>y.mono (tups_of s3)⟩
      have b1:=wr.2.2.2
      have b2:rs.length < 64:=by simp at hN; lia
      refine ⟨rfl,noTest ?_⟩
      refine ⟨_,rfl,p9,_,0,_,rfl,rfl,SqT.of h93,rfl,?_⟩
      refine ⟨_,rfl,_,rfl,p9,_,1,_,rfl,rfl,SqT.of h93,rfl,lr,rs,al,n,rl.2,rfl,hR3,hG,by lia,by lia,wr.2.1,by lia,hrk _ wr.2.1 b1,fun tt l1 f1 ss1 H4 s4 ht1 _ d1 fl1=>?_⟩
      refine ⟨tt,_,0,_,rfl,rfl,SqT.of ht1,rfl,(by show 2 ≤ sizeLine; decide),fun t ht=>?_⟩
      have sn:=same_new ht (.tup [tx rl.1,tx f1])
      refine ⟨s3.trans (s4.trans sn),hjl,?_⟩
      rw [List.take_add_one,hrl,List.map_append]
      refine pairApp (pairImp hacc fun _ _ y=>y.mono (tups_of (s4.trans sn))) (.cons ⟨t,rfl,?_⟩ .nil)
      rw [upd_same]
      show _ = some (HO.tup [tx rl.1,tx (nf rs rl.2)])
      rw [nf_of d1]
    rw [lrs,List.take_length] at hacc
    have sm:=same_new hpm (.lst acc)
    refine q pm _ _ (t2.trans (s3.trans sm)) ⟨acc,upd_same,pairImp hacc fun _ _ y=>y.mono (tups_of sm)⟩ ⟨hInc,fun r hr=>?_,fun r hr=>?_,fun r hr=>?_⟩ (by rw [List.length_map]; simp at hN; lia) ⟨rs,hstl rs (.done rs),rfl⟩
    all_goals
      obtain ⟨r0,h0,rfl⟩:=List.mem_map.mp hr
      obtain ⟨f,ss,d⟩:=down_ex hG _ r0.2 (Nat.le_refl _) (hG.sm r0 h0).2
      have rt:=(down_rt hG d).1
      have of:=rt_over hG rt (hG.sm r0 h0).2
    · show bef (nf rs r0.2) r0.1 = true
      rw [nf_of d]
      have k1:=rt_rank hG rt (hG.sm r0 h0).2
      have k2:=rank_bef hInc (hG.sm r0 h0).2 (hG.sm r0 h0).1 (hG.bf r0 h0)
      exact bef_rank hInc of (hG.sm r0 h0).1 (by lia)
    · exact ⟨(hG.sm r0 h0).1,by show Over al (nf rs r0.2); rw [nf_of d]; exact of⟩
    · exact hG.ln r0 h0
  | cons hv hpt3 =>
    rename_i v pr tv td
    refine iteT ⟨fun σ' H'=>∃ m',m' < mu al n rs * 64 + (td.length + 1) ∧ SetW H a lt al n ps.length ps m' σ' H',fun _ _ y=>y,?_⟩
    obtain ⟨p1,rfl,h1⟩:=hv
    have hwk:=htd pr List.mem_cons_self
    rw [List.length_cons] at hN
    refine ⟨_,rfl,.inl ⟨rfl,_,SqL.of hlt2⟩,lt,_,0,0,_,rfl,rfl,hlt2,by decide,by decide,PySem.StrLaws.seqIndex_nonneg (i:=0) (by decide) (by rw [List.length_cons]; lia),rfl,?_⟩
    have tw:=tups_own (ys:=tv) hlt2
    have e0:(V.ref p1 :: tv).eraseIdx 0 = tv:=rfl
    rw [e0]
    have h12:=tw _ _ h1
    refine ⟨p1,_,rfl,SqT.of h12,rfl,_,_,rfl,_,_,rfl,rfl,?_⟩
    have t3:Same H (upd H2 lt (.lst tv)):=t2.own hlt _
    have hlt3:(upd H2 lt (.lst tv)) lt = some (.lst tv):=upd_same
    have hlr3:(upd H2 lt (.lst tv)) lr = some (.lst rv):=by rw [upd_ne nrt]; exact hlr2
    have hpt4:=pairImp hpt3 fun _ _ y=>y.mono tw
    have hpr3:=pairImp hpr2 fun _ _ y=>y.mono tw
    generalize upd H2 lt (.lst tv) = H3 at *
    refine ⟨_,rfl,_,rfl,lr,rs,al,n,pr.1,rfl,⟨rv,hlr3,hpr3⟩,hG,by lia,by lia,hwk.1,by have:=hwk.2.2.1; lia,hrk _ hwk.1 hwk.2.2.1,fun ta l1 f1 ss1 H4 s4 hta _ d1 fl1=>?_⟩
    refine ⟨ta,_,0,_,rfl,rfl,SqT.of hta,rfl,?_⟩
    refine ⟨_,rfl,_,rfl,lr,rs,al,n,pr.2,rfl,⟨rv,s4 _ _ hlr3,pairImp hpr3 fun _ _ y=>y.mono (tups_of s4)⟩,hG,by lia,by lia,hwk.2.1,by have:=hwk.2.2.2; lia,hrk _ hwk.2.1 hwk.2.2.2,fun tb l2 f2 ss2 H5 s5 htb _ d2 fl2=>?_⟩
    refine ⟨tb,_,0,_,rfl,rfl,SqT.of htb,rfl,?_⟩
    have u1:=rt_over hG (down_rt hG d1).1 hwk.1
    have u2:=rt_over hG (down_rt hG d2).1 hwk.2.1
    have w1:=hwk.2.2.1
    have w2:=hwk.2.2.2
    have t5:=t3.trans (s4.trans s5)
    have hlt5:=(s4.trans s5) _ _ hlt3
    have hlr5:=(s4.trans s5) _ _ hlr3
    have hpt5:=pairImp hpt4 fun _ _ y=>y.mono (tups_of (s4.trans s5))
    have hpr5:=pairImp hpr3 fun _ _ y=>y.mono (tups_of (s4.trans s5))
    have htd':∀ r ∈ td,Wok al n r:=fun r hr=>htd r (List.mem_cons_of_mem _ hr)
    refine ⟨_,rfl,_,rfl,rfl,_,rfl,?_⟩
    refine ite2 (fun c=>?_) (fun c=>?_)
    · have hne:f1 ≠ f2:=fun y=>by rw [y,decide_eq_true rfl] at c; cases c
      refine ⟨_,rfl,_,rfl,(by show 2 ≤ sizeLine; decide),fun p7 hp7=>?_⟩
      have s7:=same_new hp7 (.tup [tx f1,tx f2])
      have h7:(upd H5 p7 (.tup [tx f1,tx f2])) p7 = some (.tup [tx f1,tx f2]):=upd_same
      generalize upd H5 p7 (.tup [tx f1,tx f2]) = H6 at *
      refine ⟨_,rfl,_,rfl,f1,f2,rfl,by lia,by lia,fun H7 s8=>⟨_,rfl,?_⟩⟩
      have s9:=s7.trans s8
      refine ite2 (fun c2=>?_) (fun c2=>?_)
      · refine ⟨_,rfl,_,rfl,(by show 2 ≤ sizeLine; decide),fun p8 hp8=>?_⟩
        have s10:=s9.trans (same_new hp8 (.tup [tx f2,tx f1]))
        exact ⟨H,a,lt,lr,p8,al,n,ps.length,tv,rv,td,rs,ps,(f2,f1),_,_,_,_,_,_,_,rfl,t5.trans s10,hlt,s10 _ _ hlt5,pairImp hpt5 fun _ _ y=>y.mono (tups_of s10),s10 _ _ hlr5,pairImp hpr5 fun _ _ y=>y.mono (tups_of s10),nrt,hG,htd',by lia,hlen,hn,upd_same,
          ⟨u2,u1,by show f2.length ≤ n; lia,by show f1.length ≤ n; lia⟩,c2,irr_not_red (down_rt hG d2).2,hsrt,(fun out ho=>hstl out (.fresh (by rw [nf_of d1,nf_of d2]; exact hne) (by rw [nf_of d1,nf_of d2]; unfold latF; rw [if_pos c2]; exact ho))),fun σ' H' y=>y⟩
      · have hb:=bef_tot (Bool.eq_false_iff.mpr c2) hne
        exact ⟨H,a,lt,lr,p7,al,n,ps.length,tv,rv,td,rs,ps,(f1,f2),_,_,_,_,_,_,_,rfl,t5.trans s9,hlt,s9 _ _ hlt5,pairImp hpt5 fun _ _ y=>y.mono (tups_of s9),s9 _ _ hlr5,pairImp hpr5 fun _ _ y=>y.mono (tups_of s9),nrt,hG,htd',by lia,hlen,hn,s8 _ _ h7,
          ⟨u1,u2,by show f1.length ≤ n; lia,by show f2.length ≤ n; lia⟩,hb,irr_not_red (down_rt hG d1).2,hsrt,(fun out ho=>hstl out (.fresh (by rw [nf_of d1,nf_of d2]; exact hne) (by rw [nf_of d1,nf_of d2]; unfold latF; rw [if_neg c2]; exact ho))),fun σ' H' y=>y⟩
    · have heq:f1 = f2:=Classical.byContradiction fun z=>c (by rw [decide_eq_false (fun y=>z (Sx_inj (V.str.inj y)))]; rfl)
      exact ⟨_,by show mu al n rs * 64 + td.length < _; lia,lr,tv,td,rv,rs,_,_,_,_,_,_,_,_,rfl,t5,hlt5,hpt5,hlr5,hpr5,nrt,n0r,hG,htd',by lia,hsrt,(fun out ho=>hstl out (.same (by rw [nf_of d1,nf_of d2]; exact heq) ho)),rfl⟩
end
end Sg
namespace Sg
open PySem L2
section
variable {P:Program} {w:World} {K:PySem.W.Frag} {mg:Str → Option Value} {base:Heap}
theorem scRounds:FnScope ["_law_pairs","_law_rounds","_law_rules","_law_fresh","_law_turn"] ["_law_pairs","_law_rounds"] (defScope sRounds):=⟨rfl,rfl,rfl,by decide +kernel,rfl,by decide +kernel,by decide +kernel⟩
theorem ok_rounds (D:Dfn K mg "_law_in_rounds" sRounds ["_law_pairs","_law_rounds"]) (B:Blt mg) (OT:Ok P w K mg base "_law_settled" ["_law_pairs"] 3 spSettled) (OC:Ok P w K mg base "_law_clashing" ["_law_rules"] 3 spClash):Ok P w K mg base "_law_in_rounds" ["_law_pairs","_law_rounds"] 4 spRounds:=by
  refine D.ok scRounds (fun vs H Q E h=>?_) (fun f cdv A outer s H vs Q E hr h=>?_)
  · obtain ⟨a,ps,al,k,rfl,_⟩:=h
    rfl
  obtain ⟨a,ps,al,k,rfl,hS,hInc,hok,hk,hcc,hrk,q⟩:=h
  refine ⟨_,pss_cons (ps_set (i:=2) scRounds.nd rfl (Or.inl rfl) (pe_fn OT hr rfl (pa_cons (pv 0) pa_nil)))
    (pss_cons (ps_set (i:=3) scRounds.nd rfl (Or.inl rfl) (pe_fn OC hr rfl (pa_cons (pv 2) pa_nil)))
    (pss_cons (ps_for PassesOwn.never rfl (pi_range1 rfl B.rng (pa_cons (pv 1) pa_nil)) (pg_name (i:=4) scRounds.nd rfl (Or.inl rfl))
      (pss_one (ps_if (pt_cmpR (op_neNil hr.units0) (pv 3) (pe_lst pa_nil) (nomark _))
        (pss_cons (ps_set (i:=2) scRounds.nd rfl (Or.inl rfl) (pe_fn OT hr rfl (pa_cons (pe_op op_catR (pv 2) (pv 3)) pa_nil)))
        (pss_one (ps_set (i:=3) scRounds.nd rfl (Or.inl rfl) (pe_fn OC hr rfl (pa_cons (pv 2) pa_nil))))) pss_nil)))
    (pss_one (ps_ret (pe_tup (pa_cons (pv 2) (pa_cons (pe_cmpR (op_eqNil hr.units0) (pv 3) (pe_lst pa_nil) (nomark _)) pa_nil))))))),?_⟩
  try dsimp only [cxOf,Cx.nox]
  have c0:cc ps.length 0 ≤ cc ps.length k:=cc_le _ (Nat.zero_le _)
  have n0:nn 0 ≤ nn k:=nn_le (Nat.zero_le _)
  have nk:nn k ≤ nn 3:=nn_le hk
  have e3:nn 3 = 17:=by decide
  have e0:nn 0 = 3:=by decide
  have ec0:cc ps.length 0 = ps.length:=rfl
  refine ⟨_,rfl,a,ps,al,3,rfl,hS,hInc,hok,by decide,by lia,fun u hu hl=>hrk u hu (by lia),fun r rs H1 s1 hR hG hl hset=>?_⟩
  refine ⟨_,rfl,r,rs,al,3,rfl,hR,hG,by decide,by lia,fun u hu hl=>hrk u hu (by lia),fun fr H2 s2 hF=>?_⟩
  refine ⟨_,rfl,_,rfl,by lia,by lia,?_⟩
  rw [Int.toNat_natCast]
  refine for_range (lo:=0) (n:=k) (fun i σ H'=>∃ r fr rs x4,σ = [some (.ref a),some (.int (k:Int)),some (.ref r),some (.ref fr),x4] ∧ Same H H' ∧ RsAt H' r rs ∧ RsAt H' fr (clashes rs) ∧ Good rs al (nn i) ∧ rs.length ≤ cc ps.length i ∧ i ≤ k ∧ Rnds ps i rs)
    ⟨r,fr,rs,_,rfl,s1.trans s2,hR.mono s2,hF,hG,hl,Nat.zero_le _,.zero hset⟩ ?_ ?_
  · rintro i σ H3 hi ⟨r,fr,rs,x4,rfl,s3,hR,hF,hG,hl,_,hrn⟩
    refine ⟨_,rfl,(by show 0 ≤ sizeLine; decide),fun z hz=>?_⟩
    have sz:=same_new hz (.lst [])
    obtain ⟨rv,hrv,hrp⟩:=id hR
    obtain ⟨fv,hfv,hfp⟩:=id hF
    have l1:=pairLen hrp
    have l2:=pairLen hfp
    have m1:=cc_le ps.length (show i ≤ k by lia)
    have m2:=cc_le ps.length (show i + 1 ≤ k by lia)
    have m3:=nn_le (show i + 1 ≤ k by lia)
    have m4:=clashes_less hG
    have m5:=nn_succ i
    have m6:3 ≤ nn i:=Nat.le_trans (Nat.le_of_eq e0.symm) (nn_le (Nat.zero_le _))
    have mm:rs.length + rs.length * (rs.length * nn i - 1) ≤ cc ps.length (i + 1):=by
      show _ ≤ cc ps.length i + cc ps.length i * (cc ps.length i * nn i - 1)
      exact Nat.add_le_add hl (Nat.mul_le_mul hl (Nat.sub_le_sub_right (Nat.mul_le_mul_right _ hl) 1))
    refine ⟨fr,z,fv,rfl,rfl,SqL.of (sz _ _ hfv),SqL.of upd_same,_,rfl,?_⟩
    have hR4:=hR.mono sz
    have hF4:=hF.mono sz
    have hrv4:=sz _ _ hrv
    have hfv4:=sz _ _ hfv
    generalize upd H3 z (.lst []) = H4 at *
    cases hfe:fv.isEmpty with
    | true =>
      refine iteF ⟨r,fr,rs,_,rfl,s3.trans sz,hR4,hF4,hG.wide (by lia),by lia,hi,.stay hrn ?_⟩
      cases fv with
      | nil=>exact List.length_eq_zero_iff.mp (by rw [← l2]; rfl)
      | cons _ _=>cases hfe
    | false =>
      refine iteT ?_
      have hp4:Paired (RlAt H4) rv rs:=pairImp hrp fun _ _ y=>y.mono (tups_of sz)
      have hf4:Paired (RlAt H4) fv (clashes rs):=pairImp hfp fun _ _ y=>y.mono (tups_of sz)
      refine ⟨_,rfl,_,rfl,r,fr,rv,fv,rfl,rfl,SqL.of hrv4,SqL.of hfv4,by rw [sizeLine_eq]; lia,fun p hp=>?_⟩
      have sp:=same_new hp (.lst (rv ++ fv))
      refine ⟨p,rs ++ clashes rs,al,nn (i + 1),rfl,⟨_,upd_same,pairImp (pairApp hp4 hf4) fun _ _ y=>y.mono (tups_of sp)⟩,hInc,fun x hx=>?_,by lia,by rw [List.length_append]; lia,fun u hu hl=>hrk u hu (by lia),fun r' rs' H5 s5 hR5 hG5 hl5 hset5=>?_⟩
      · rcases List.mem_append.mp hx with y | y
        · have:=hG.wok y
          exact ⟨this.1,this.2.1,by have:=this.2.2.1; lia,by have:=this.2.2.2; lia⟩
        · rw [m5]
          exact clashes_ok hG y
      rw [List.length_append] at hl5
      refine ⟨_,rfl,r',rs',al,nn (i + 1),rfl,hR5,hG5,by lia,by lia,fun u hu hl=>hrk u hu (by lia),fun fr' H6 s6 hF6=>?_⟩
      refine ⟨r',fr',rs',_,rfl,s3.trans (sz.trans (sp.trans (s5.trans s6))),hR5.mono s6,hF6,hG5,by lia,hi,.go hrn (fun z=>?_) hset5⟩
      rw [z] at l2
      cases fv with
      | nil=>cases hfe
      | cons _ _=>simp at l2
  · rintro σ H3 ⟨r,fr,rs,x4,rfl,s3,hR,hF,hG,hl,_,hrn⟩
    obtain ⟨fv,hfv,hfp⟩:=id hF
    have l2:=pairLen hfp
    refine ⟨_,rfl,_,rfl,(by show 0 ≤ sizeLine; decide),fun z hz=>?_⟩
    have sz:=same_new hz (.lst [])
    refine ⟨fr,z,fv,rfl,rfl,SqL.of (sz _ _ hfv),SqL.of upd_same,(by show 2 ≤ sizeLine; decide),fun t ht=>?_⟩
    have st:=same_new ht (.tup [.ref r,.bl fv.isEmpty])
    refine q t r rs fv.isEmpty (nn k) _ (s3.trans (sz.trans st)) upd_same (hR.mono (sz.trans st)) hG (by lia) (by lia) ⟨fun e=>?_,fun e=>?_⟩ hrn
    · cases fv with
      | nil=>exact List.length_eq_zero_iff.mp (by rw [← l2]; rfl)
      | cons _ _=>cases e
    · rw [e] at l2
      cases fv with
      | nil=>rfl
      | cons _ _=>simp at l2
end
end Sg
namespace Sg
open PySem L2
section
variable {P:Program} {w:World} {K:PySem.W.Frag} {mg:Str → Option Value} {base:Heap}
theorem scSpelt:FnScope ["_law_cells","_law_two"] ["_law_cells","_law_two"] (defScope sSpelt):=⟨rfl,rfl,rfl,by decide +kernel,rfl,by decide +kernel,by decide +kernel⟩
theorem ccSpelt:CompScope (defScope sSpelt) ["_law_cells","_law_two"] (compSc (argE (retE (defBody sSpelt)) 0)) ["_law_cell"] ["_law_two"] [1]:=⟨rfl,by decide +kernel,by decide +kernel,by decide +kernel,by decide +kernel,rfl,by decide +kernel⟩
theorem ok_spelt (D:Dfn K mg "_law_spelt" sSpelt ["_law_cells","_law_two"]):Ok P w K mg base "_law_spelt" ["_law_cells","_law_two"] 1 (spSpelt K):=by
  refine D.ok scSpelt (fun vs H Q E h=>?_) (fun f cdv A outer s H vs Q E hr h=>?_)
  · obtain ⟨a,ns,x,y,rfl,_⟩:=h
    rfl
  obtain ⟨a,ns,x,y,rfl,hS,hn,q⟩:=h
  refine ⟨_,pss_one (ps_ret (pe_bm PySem.F.plainAttrs_str PySem.F.slot_str_join PySem.F.type_str_join mt_join pe_str (pa_cons (pe_comp rfl ccSpelt (pi_list (pv 0)) (by intro cl C ex s H; exact ⟨pg_name (i:=0) ccSpelt.nd rfl (.inl rfl),pf_nil,pe_ix ix_str (pv 1) (pe_op op_mod (pe_op op_fdiv (pv 0) pe_int) pe_int) (fun _ _=>rfl)⟩)) pa_nil))),?_⟩
  try dsimp only [cxOf,Cx.nox]
  refine ⟨rfl,_,rfl,a,rfl,⟨_,hS⟩,?_⟩
  refine turns_list (K:=K) (xs:=ns.map V.int) (fun i acc H'=>H' = H ∧ i ≤ ns.length ∧ acc = ((ns.take i).map fun (c:Int)=>tx [if c / 3 % 2 = 0 then x else y]))
    ⟨rfl,Nat.zero_le _,rfl⟩ (fun i acc H' ⟨_,hi,e⟩=>?_) (by rw [List.length_map]; exact small1000 (by lia)) (fun i acc H' ⟨e,_,_⟩=>by rw [e]; exact hS) (fun i acc H' v hv ⟨e,hi,hacc⟩=>?_) (fun acc H' ⟨e,hi,hacc⟩ p hp=>?_)
  · rw [e,List.length_map,List.length_take]
    lia
  · subst e
    rw [List.getElem?_map] at hv
    cases hc:ns[i]? with
    | none=>rw [hc] at hv; cases hv
    | some c =>
      rw [hc] at hv
      cases hv
      have hil:i < ns.length:=(List.getElem?_eq_some_iff.mp hc).1
      have h01:c / 3 % 2 = 0 ∨ c / 3 % 2 = 1:=by lia
      refine ⟨rfl,noTest ?_⟩
      refine ⟨_,rfl,_,rfl,_,_,rfl,rfl,⟨by decide,by decide⟩,_,_,rfl,rfl,(by show (0:Int) < 2; decide),Sx [x,y],_,_,rfl,rfl,(by show 2 ≤ sizeLine; decide),at_two x y _ h01,rfl,hil,?_⟩
      rw [List.take_add_one,hc,hacc]
      simp
  · subst e
    have hacc':acc = ((ns.map fun (c:Int)=>[if c / 3 % 2 = 0 then x else y]).map fun w=>V.str (Sx w)):=by
      rw [hacc,List.map_map,List.length_map,List.take_length]
      rfl
    refine ⟨p,(ns.map fun (c:Int)=>[if c / 3 % 2 = 0 then x else y]),str_nil,rfl,SqL.of (by rw [upd_same,hacc']),?_,?_⟩
    · rw [sum_one]
      lia
    · rw [flat_one]
      exact q _ (same_new hp _)
end
end Sg
namespace Sg
open PySem L2
def SeqAtV (H:Hp) (v:V) (vs:List V):Prop:=∃ p,v = .ref p ∧ (H p = some (.lst vs) ∨ H p = some (.tup vs))
theorem SeqAtV.mono {H H':Hp} (s:Same H H') {v:V} {vs:List V} (h:SeqAtV H v vs):SeqAtV H' v vs:=let ⟨p,e,h⟩:=h; ⟨p,e,h.imp (s _ _) (s _ _)⟩
theorem rIx_seq {K:PySem.W.Frag} {H:Hp} {v x:V} {vs:List V} {k:Nat} {j:Int} {Q:VK} (h:SeqAtV H v vs) (e:vs[k]? = some x) (hj:j = (k:Int)) (q:Q x H):rIx K v (.int j) H Q:=by
  subst hj
  obtain ⟨p,rfl,h | h⟩:=h
  · exact .inl ⟨p,vs,_,x,rfl,rfl,SqL.of h,atI_nat e,q⟩
  · exact .inr (.inl ⟨p,vs,_,x,rfl,rfl,SqT.of h,atI_nat e,q⟩)
theorem SeqAtV.len {K:PySem.W.Frag} {H:Hp} {v:V} {vs:List V} (h:SeqAtV H v vs):∃ p,v = .ref p ∧ (SqL K H p vs ∨ SqT K H p vs):=by
  obtain ⟨p,rfl,h | h⟩:=h
  · exact ⟨p,rfl,.inl (SqL.of h)⟩
  · exact ⟨p,rfl,.inr (SqT.of h)⟩
def kids:Dt → Option (List Dt)
  | .tup l=>some l
  | .lst l=>some l
  | _=>none
theorem kids_size {d:Dt} {l:List Dt} (h:kids d = some l):d.size = 1 + Dt.sizes l:=by
  cases d <;> simp only [kids,reduceCtorEq,Option.some.injEq] at h <;> (subst h; rfl)
theorem seq_facts {K:PySem.W.Frag} {H:Hp} {v1 v2:V} {d:Dt} {l:List Dt} (h1:Rep H v1 d) (h2:Rep H v2 d) (hk:kids d = some l) :
    ∃ (T:String) (b1 b2:Bool) (vs1 vs2:List V),PySem.W.kitAny K (.type T) [.type "list",.type "tuple"] = some true ∧ PySem.W.kitOne K (.type T) (.type "list") = some b1 ∧ PySem.W.kitOne K (.type T) (.type "tuple") = some b2 ∧
      (∀ H',Same H H' → TyOf K H' v1 (.type T)) ∧ (∀ H',Same H H' → TyOf K H' v2 (.type T)) ∧ SeqAtV H v1 vs1 ∧ SeqAtV H v2 vs2 ∧ vs1.length = l.length ∧ vs2.length = l.length ∧
      (∀ (i:Nat) v d,vs1[i]? = some v → l[i]? = some d → Rep H v d) ∧ (∀ (i:Nat) v d,vs2[i]? = some v → l[i]? = some d → Rep H v d):=by
  cases h1 with
  | tup e1 l1 r1 =>
    cases hk
    cases h2 with
    | tup e2 l2 r2=>exact ⟨"tuple",false,true,_,_,rfl,rfl,rfl,fun H' s=>.tup (s _ _ e1),fun H' s=>.tup (s _ _ e2),⟨_,rfl,.inr e1⟩,⟨_,rfl,.inr e2⟩,l1,l2,r1,r2⟩
  | lst e1 l1 r1 =>
    cases hk
    cases h2 with
    | lst e2 l2 r2=>exact ⟨"list",true,false,_,_,rfl,rfl,rfl,fun H' s=>.lst (s _ _ e1),fun H' s=>.lst (s _ _ e2),⟨_,rfl,.inl e1⟩,⟨_,rfl,.inl e2⟩,l1,l2,r1,r2⟩
  | _=>cases hk
section
variable {P:Program} {w:World} {K:PySem.W.Frag} {mg:Str → Option Value} {base:Heap}
theorem scSo:FnScope ["_law_found","_law_due","_law_todo","_law_one","_law_other","_law_k"] ["_law_found","_law_due"] (defScope sSo):=⟨rfl,rfl,rfl,by decide +kernel,rfl,by decide +kernel,by decide +kernel⟩
theorem ok_so (D:Dfn K mg "_law_so" sSo ["_law_found","_law_due"]) (B:Blt mg):Ok P w K mg base "_law_so" ["_law_found","_law_due"] 1 spSo:=by
  refine D.ok scSo (fun vs H Q E h=>?_) (fun f cdv A outer s H vs Q E hr h=>?_)
  · obtain ⟨v1,v2,d,rfl,_⟩:=h
    rfl
  obtain ⟨v1,v2,d,rfl,hv1,hv2,hd,q⟩:=h
  refine ⟨_,pss_cons (ps_set (i:=2) scSo.nd rfl (Or.inl rfl) (pe_lst (pa_cons (pe_tup (pa_cons (pv 0) (pa_cons (pv 1) pa_nil))) pa_nil)))
    (pss_cons (ps_while PassesOwn.never (pt_cmpR (op_neNil hr.units0) (pv 2) (pe_lst pa_nil) (nomark _))
      (pss_cons (ps_asg (pe_bm0 PySem.F.plainAttrs_list PySem.F.slot_list_pop PySem.F.type_list_pop mt_pop (pv 2)) (pg_tup rfl (pgs_cons (pg_name (i:=3) scSo.nd rfl (Or.inl rfl)) (pgs_cons (pg_name (i:=4) scSo.nd rfl (Or.inl rfl)) pgs_nil))))
      (pss_one (ps_if (pt_val (pe_callB call_isiT rfl B.isi boot_isi (pa_cons (pv 4) (pa_cons (pe_tup (pa_cons (pe_bltn (v:=.ty "list") rfl B.lst boot_listT rfl) (pa_cons (pe_bltn (v:=.ty "tuple") rfl B.tup boot_tupleT rfl) pa_nil))) pa_nil))))
        (pss_cons (ps_if (pt_cmpR op_ne (pe_callB call_isi rfl B.isi boot_isi (pa_cons (pv 3) (pa_cons (pe_bltn (v:=.ty "list") rfl B.lst boot_listT rfl) pa_nil))) (pe_callB call_isi rfl B.isi boot_isi (pa_cons (pv 4) (pa_cons (pe_bltn (v:=.ty "list") rfl B.lst boot_listT rfl) pa_nil))) (nomark _)) (pss_one (ps_ret pe_bl)) pss_nil)
        (pss_cons (ps_if (pt_cmpR op_ne (pe_callB call_isi rfl B.isi boot_isi (pa_cons (pv 3) (pa_cons (pe_bltn (v:=.ty "tuple") rfl B.tup boot_tupleT rfl) pa_nil))) (pe_callB call_isi rfl B.isi boot_isi (pa_cons (pv 4) (pa_cons (pe_bltn (v:=.ty "tuple") rfl B.tup boot_tupleT rfl) pa_nil))) (nomark _)) (pss_one (ps_ret pe_bl)) pss_nil)
        (pss_cons (ps_if (pt_cmpR op_ne (pe_callB call_len_seq rfl B.len PySem.boot_len (pa_cons (pv 3) pa_nil)) (pe_callB call_len_seq rfl B.len PySem.boot_len (pa_cons (pv 4) pa_nil)) (nomark _)) (pss_one (ps_ret pe_bl)) pss_nil)
        (pss_one (ps_for PassesOwn.never rfl (pi_range1 rfl B.rng (pa_cons (pe_callB call_len_seq rfl B.len PySem.boot_len (pa_cons (pv 4) pa_nil)) pa_nil)) (pg_name (i:=5) scSo.nd rfl (Or.inl rfl))
          (pss_one (ps_expr (pe_bm PySem.F.plainAttrs_list PySem.F.slot_list_append PySem.F.type_list_append mt_append (pv 2) (pa_cons (pe_tup (pa_cons (pe_ix ix_seq (pv 3) (pv 5) (fun _ _=>rfl)) (pa_cons (pe_ix ix_seq (pv 4) (pv 5) (fun _ _=>rfl)) pa_nil))) pa_nil)))))))))
        (pss_one (ps_if (pt_val (pe_callB call_isi rfl B.isi boot_isi (pa_cons (pv 4) (pa_cons (pe_bltn (v:=.ty "str") rfl B.str boot_strT rfl) pa_nil))))
          (pss_one (ps_if (PW.pt (pw_or (pt_not (pt_val (pe_callB call_isi rfl B.isi boot_isi (pa_cons (pv 3) (pa_cons (pe_bltn (v:=.ty "str") rfl B.str boot_strT rfl) pa_nil))))) (pw_or1 (pt_cmpR op_ne (pv 3) (pv 4) (nomark _))))) (pss_one (ps_ret pe_bl)) pss_nil))
          (pss_one (ps_if (pt_val (pe_callB call_isi rfl B.isi boot_isi (pa_cons (pv 4) (pa_cons (pe_bltn (v:=.ty "bool") rfl B.bol boot_boolT rfl) pa_nil))))
            (pss_one (ps_if (PW.pt (pw_or (pt_not (pt_val (pe_callB call_isi rfl B.isi boot_isi (pa_cons (pv 3) (pa_cons (pe_bltn (v:=.ty "bool") rfl B.bol boot_boolT rfl) pa_nil))))) (pw_or1 (pt_cmpR op_ne (pv 3) (pv 4) (nomark _))))) (pss_one (ps_ret pe_bl)) pss_nil))
            (pss_one (ps_if (pt_cmp (pc_isN (pv 4)))
              (pss_one (ps_if (pt_cmp (pc_notN (pv 3))) (pss_one (ps_ret pe_bl)) pss_nil))
              (pss_one (ps_if (PW.pt (pw_or (pt_not (pt_val (pe_callB call_isi rfl B.isi boot_isi (pa_cons (pv 3) (pa_cons (pe_bltn (v:=.ty "int") rfl B.it boot_intT rfl) pa_nil)))))
                (pw_or (pt_val (pe_callB call_isi rfl B.isi boot_isi (pa_cons (pv 3) (pa_cons (pe_bltn (v:=.ty "bool") rfl B.bol boot_boolT rfl) pa_nil)))) (pw_or1 (pt_cmpR op_ne (pv 3) (pv 4) (nomark _))))))
                (pss_one (ps_ret pe_bl)) pss_nil))))))))))))
    (pss_one (ps_ret pe_bl))),?_⟩
  try dsimp only [cxOf,Cx.nox]
  refine ⟨_,rfl,_,rfl,(by show 2 ≤ sizeLine; decide),fun t0 ht0=>⟨(by show 1 ≤ sizeLine; decide),fun l hl=>?_⟩⟩
  have hl0:H l = none:=(same_new ht0 _).free hl
  have s1:=(same_new ht0 (.tup [v1,v2])).trans (same_new hl (.lst [.ref t0]))
  have ntl:t0 ≠ l:=ne_of_none upd_same hl
  refine ⟨SoW H v1 v2 l,⟨_,[.ref t0],[d],_,_,_,rfl,rfl,s1,upd_same,.cons ⟨t0,v1,v2,rfl,by rw [upd_ne ntl]; exact upd_same,hv1,hv2⟩ .nil,by simp [Dt.sizes]; exact hd⟩,?_⟩
  rintro m σ H' ⟨tv,ds,x,y,z,rfl,rfl,s2,htv,hpr,hsz⟩
  refine ⟨_,rfl,(by show 0 ≤ sizeLine; decide),fun e he=>⟨l,e,tv,rfl,rfl,?_,SqL.of upd_same,_,rfl,?_⟩⟩
  · rw [SqL]
    exact .inl (.inl (by rw [upd_ne (ne_of_none htv he)]; exact htv))
  have s3:Same H (upd H' e (.lst [])):=s2.trans (same_new he _)
  have htv3:(upd H' e (.lst [])) l = some (.lst tv):=same_new he _ _ _ htv
  cases hds:ds with
  | nil =>
    subst hds
    cases hpr
    refine iteF ?_
    exact q _ s3
  | cons d0 dr =>
    obtain ⟨tv',v,ds',d1,e1,e2,hpr',t1,u1,u2,ev,ht1,hr1,hr2⟩:=pairLast hpr (by rw [hds]; simp)
    rw [← hds]
    subst ev
    have hne:tv.isEmpty = false:=by rw [e1]; simp
    rw [hne]
    refine iteT ⟨fun σ' H'=>∃ m',m' < Dt.sizes ds ∧ SoW H v1 v2 l m' σ' H',fun _ _ h=>h,?_⟩
    have hsum:Dt.sizes ds = Dt.sizes ds' + d1.size:=by rw [e2,Dt.sizes_app]; simp [Dt.sizes]
    have hlast:tv[tv.length - 1]? = some (.ref t1):=by rw [e1]; simp
    have hdl:tv.dropLast = tv':=by rw [e1]; simp
    refine ⟨_,rfl,.inl ⟨rfl,_,SqL.of htv3⟩,l,tv,_,rfl,rfl,htv3,hlast,t1,[u1,u2],rfl,SqT.of (tups_own htv3 _ _ (tups_of (same_new he _) _ _ ht1)),rfl,_,_,rfl,_,_,rfl,rfl,?_⟩
    rw [hdl]
    have s4:Same H (upd (upd H' e (.lst [])) l (.lst tv')):=s3.own hl0 _
    have htv4:(upd (upd H' e (.lst [])) l (.lst tv')) l = some (.lst tv'):=upd_same
    have hpr4:Paired (TdAt H (upd (upd H' e (.lst [])) l (.lst tv'))) tv' ds':=pairImp hpr' fun _ _ z=>(z.mono (tups_of (same_new he _))).mono (tups_own htv3)
    generalize upd (upd H' e (.lst [])) l (.lst tv') = H4 at *
    have hp1:=d1.size_pos
    have back:∀ σ:St,(∃ x y z,σ = [some v1,some v2,some (.ref l),x,y,z]) → ∀ H5,Same H4 H5 → ∃ m',m' < Dt.sizes ds ∧ SoW H v1 v2 l m' σ H5:=fun σ ⟨x,y,z,hσ⟩ H5 s5 =>
      ⟨Dt.sizes ds',by lia,tv',ds',x,y,z,rfl,hσ,s4.trans s5,s5 _ _ htv4,pairImp hpr4 fun _ _ z=>z.mono (tups_of s5),by lia⟩
    cases hk:kids d1 with
    | some ch =>
      obtain ⟨T,b1,b2,vs1,vs2,k3,k1,k2,ty1,ty2,sq1,sq2,hl1,hl2,rp1,rp2⟩:=seq_facts (K:=K) hr1 hr2 hk
      have hsz1:=kids_size hk
      have hchl:vs2.length ≤ 4000000:=by
        have:=Dt.sizes_len ch
        lia
      refine ⟨_,rfl,(by show 2 ≤ sizeLine; decide),fun p5 hp5=>?_⟩
      have s5:=s4.trans (same_new hp5 (.tup [.ty "list",.ty "tuple"]))
      obtain ⟨q1,eq1,hq1⟩:=(sq1.mono s5).len (K:=K)
      obtain ⟨q2,eq2,hq2⟩:=(sq2.mono s5).len (K:=K)
      refine ⟨u2,p5,["list","tuple"],_,_,rfl,upd_same,ty2 _ s5,k3,_,rfl,iteT ?_⟩
      refine ⟨_,rfl,u1,"list",_,_,rfl,ty1 _ s5,k1,_,rfl,u2,"list",_,_,rfl,ty2 _ s5,k1,rfl,_,rfl,iteNS rfl ?_⟩
      refine ⟨_,rfl,u1,"tuple",_,_,rfl,ty1 _ s5,k2,_,rfl,u2,"tuple",_,_,rfl,ty2 _ s5,k2,rfl,_,rfl,iteNS rfl ?_⟩
      refine ⟨_,rfl,q1,vs1,(by rw [eq1]),hq1,_,rfl,q2,vs2,(by rw [eq2]),hq2,rfl,_,rfl,iteNS (by rw [hl1,hl2]) ?_⟩
      refine ⟨_,rfl,q2,vs2,(by rw [eq2]),hq2,_,rfl,by lia,by lia,?_⟩
      rw [Int.toNat_natCast]
      refine for_range (lo:=0) (n:=vs2.length) (fun k σ H6=>∃ tw x,σ = [some v1,some v2,some (.ref l),some u1,some u2,x] ∧ Same H H6 ∧ H6 l = some (.lst (tv' ++ tw)) ∧ Paired (TdAt H H6) (tv' ++ tw) (ds' ++ ch.take k))
        ⟨[],_,rfl,s5,by rw [List.append_nil]; exact same_new hp5 _ _ _ htv4,by rw [List.append_nil,List.take_zero,List.append_nil]; exact pairImp hpr4 fun _ _ z=>z.mono (tups_of (same_new hp5 _))⟩ ?_ ?_
      · rintro i σ H6 hi ⟨tw,x,rfl,s6,htw,hpw⟩
        have hi1:i < vs1.length:=by lia
        have hic:i < ch.length:=by lia
        have lw:=pairLen hpw
        have lw2:(tv' ++ tw).length ≤ 4000000:=by
          have h1:=Dt.sizes_len ch
          have h2:=Dt.sizes_len ds'
          rw [lw,List.length_append,List.length_take]
          lia
        refine ⟨_,rfl,.inl ⟨rfl,_,SqL.of htw⟩,_,rfl,_,rfl,rIx_seq (sq1.mono s6) (List.getElem?_eq_getElem hi1) (Int.zero_add _) ⟨_,rfl,_,rfl,rIx_seq (sq2.mono s6) (List.getElem?_eq_getElem hi) (Int.zero_add _) ⟨(by show 2 ≤ sizeLine; decide),fun p hp=>?_⟩⟩⟩
        have nlp:l ≠ p:=ne_of_none htw hp
        have htw':(upd H6 p (.tup [vs1[i],vs2[i]])) l = some (.lst (tv' ++ tw)):=by rw [upd_ne nlp]; exact htw
        refine ⟨l,_,_,rfl,rfl,htw',(by rw [sizeLine_eq]; lia),?_⟩
        refine ⟨tw ++ [.ref p],_,rfl,(s6.trans (same_new hp _)).own hl0 _,by rw [upd_same,List.append_assoc],?_⟩
        rw [← List.append_assoc,List.take_add_one,List.getElem?_eq_getElem hic,Option.toList_some,← List.append_assoc]
        refine pairApp (pairImp hpw fun _ _ z=>(z.mono (tups_of (same_new hp _))).mono (tups_own htw')) (.cons ⟨p,vs1[i],vs2[i],rfl,tups_own htw' _ _ upd_same,?_,?_⟩ .nil)
        · exact rp1 i _ _ (List.getElem?_eq_getElem hi1) (List.getElem?_eq_getElem hic)
        · exact rp2 i _ _ (List.getElem?_eq_getElem hi) (List.getElem?_eq_getElem hic)
      · rintro σ H6 ⟨tw,x,rfl,s6,htw,hpw⟩
        rw [hl2,List.take_length] at hpw
        exact ⟨Dt.sizes (ds' ++ ch),by rw [Dt.sizes_app]; lia,tv' ++ tw,ds' ++ ch,_,_,_,rfl,rfl,s6,htw,hpw,by rw [Dt.sizes_app]; lia⟩
    | none =>
      cases hr1 with
      | tup _ _ _=>cases hk
      | lst _ _ _=>cases hk
      | non =>
        cases hr2
        refine ⟨_,rfl,(by show 2 ≤ sizeLine; decide),fun p5 hp5=>?_⟩
        refine ⟨_,p5,["list","tuple"],_,_,rfl,upd_same,.non,rfl,_,rfl,iteF ?_⟩
        refine ⟨_,rfl,_,"str",_,_,rfl,.non,rfl,_,rfl,iteF ?_⟩
        refine ⟨_,rfl,_,"bool",_,_,rfl,.non,rfl,_,rfl,iteF ?_⟩
        refine ⟨_,rfl,_,rfl,iteP (decide_eq_true rfl) ?_⟩
        refine ⟨_,rfl,_,rfl,iteNS rfl ?_⟩
        exact back _ ⟨_,_,_,rfl⟩ _ (same_new hp5 _)
      | bl b =>
        cases hr2
        refine ⟨_,rfl,(by show 2 ≤ sizeLine; decide),fun p5 hp5=>?_⟩
        refine ⟨_,p5,["list","tuple"],_,_,rfl,upd_same,.bl b,rfl,_,rfl,iteF ?_⟩
        refine ⟨_,rfl,_,"str",_,_,rfl,.bl b,rfl,_,rfl,iteF ?_⟩
        refine ⟨_,rfl,_,"bool",_,_,rfl,.bl b,rfl,_,rfl,iteT ?_⟩
        refine ⟨_,rfl,_,"bool",_,_,rfl,.bl b,rfl,_,rfl,iteF ?_⟩
        refine ⟨_,rfl,_,rfl,rfl,_,rfl,iteNS rfl ?_⟩
        exact back _ ⟨_,_,_,rfl⟩ _ (same_new hp5 _)
      | int i =>
        cases hr2
        refine ⟨_,rfl,(by show 2 ≤ sizeLine; decide),fun p5 hp5=>?_⟩
        refine ⟨_,p5,["list","tuple"],_,_,rfl,upd_same,.int i,rfl,_,rfl,iteF ?_⟩
        refine ⟨_,rfl,_,"str",_,_,rfl,.int i,rfl,_,rfl,iteF ?_⟩
        refine ⟨_,rfl,_,"bool",_,_,rfl,.int i,rfl,_,rfl,iteF ?_⟩
        refine ⟨_,rfl,_,rfl,iteN (by simp) ?_⟩
        refine ⟨_,rfl,_,"int",_,_,rfl,.int i,rfl,_,rfl,iteF ?_⟩
        refine ⟨_,rfl,_,"bool",_,_,rfl,.int i,rfl,_,rfl,iteF ?_⟩
        refine ⟨_,rfl,_,rfl,rfl,_,rfl,iteNS rfl ?_⟩
        exact back _ ⟨_,_,_,rfl⟩ _ (same_new hp5 _)
      | str z =>
        cases hr2
        refine ⟨_,rfl,(by show 2 ≤ sizeLine; decide),fun p5 hp5=>?_⟩
        refine ⟨_,p5,["list","tuple"],_,_,rfl,upd_same,.str z,rfl,_,rfl,iteF ?_⟩
        refine ⟨_,rfl,_,"str",_,_,rfl,.str z,rfl,_,rfl,iteT ?_⟩
        refine ⟨_,rfl,_,"str",_,_,rfl,.str z,rfl,_,rfl,iteF ?_⟩
        refine ⟨_,rfl,_,rfl,rfl,_,rfl,iteNS rfl ?_⟩
        exact back _ ⟨_,_,_,rfl⟩ _ (same_new hp5 _)
end
end Sg
namespace Sg
open PySem L2
inductive spGoneB (vs:List V) (H:Hp) (Q:VK) (E_:XK):Prop
  | mk (a:_) (ps:_) (w:_) (c:_) (ks:_) (h1_:vs = [.ref a,tx w,.ref c]) (h2_:RsAt H a ps) (h3_:Sh ps) (h4_:ps.length ≤ 100) (h5_:w.length ≤ 900) (h6_:LsAt H c ks) (h7_:ks.length ≤ 5000000) (h8_:Q (gv (wlk ps w ks)) H):spGoneB vs H Q E_
inductive GoW (a c:Addr) (ps:List Rl) (w:Wd) (ks:List Lk) (kv:List V) (H:Hp) (i:Nat) (σ:St) (H':Hp):Prop
  | mk (h1_:H' = H) (h2_:i ≤ kv.length) (cur:Wd) (x3 x4 x5 x6 x7 x8:Option V) (h3_:σ = [some (.ref a),some (tx cur),some (.ref c),x3,x4,x5,x6,x7,x8]) (h4_:cur.length ≤ 900 + 3 * i) (h5_:wlk ps cur (ks.drop i) = wlk ps w ks):GoW a c ps w ks kv H i σ H'
section
variable {P:Program} {w:World} {K:PySem.W.Frag} {mg:Str → Option Value} {base:Heap}
theorem scGoneB:FnScope ["_law_pairs","_law_word","_law_chain","_law_number","_law_place","_law_forth","_law_here","_law_there","_law_end"] ["_law_pairs","_law_word","_law_chain"] (defScope sGone):=⟨rfl,rfl,rfl,by decide +kernel,rfl,by decide +kernel,by decide +kernel⟩
theorem ok_goneB (D:Dfn K mg "_law_gone" sGone ["_law_pairs","_law_word","_law_chain"]) (B:Blt mg):Ok P w K mg base "_law_gone" ["_law_pairs","_law_word","_law_chain"] 1 spGoneB:=by
  refine D.ok scGoneB (fun vs H Q E h=>?_) (fun f cdv A outer s H vs Q E hr h=>?_)
  · obtain ⟨a,ps,w,c,ks,rfl,_⟩:=h
    rfl
  obtain ⟨a,ps,w,c,ks,rfl,hS,hsh,hpl,hw,⟨kv,hkv,hkp⟩,hkl,q⟩:=h
  refine ⟨_,pss_cons (ps_for PassesOwn.never rfl (pi_list (pv 2)) (pg_tup rfl (pgs_cons (pg_name (i:=3) scGoneB.nd rfl (Or.inl rfl)) (pgs_cons (pg_name (i:=4) scGoneB.nd rfl (Or.inl rfl)) (pgs_cons (pg_name (i:=5) scGoneB.nd rfl (Or.inl rfl)) pgs_nil))))
      (pss_cons (ps_if (PW.pt (pw_or (pt_cmpR op_lt (pv 3) pe_int (nomark _)) (pw_or1 (pt_cmpR op_ge (pv 3) (pe_callB call_len_seq rfl B.len PySem.boot_len (pa_cons (pv 0) pa_nil)) (nomark _))))) (pss_one (ps_ret pe_non)) pss_nil)
      (pss_cons (ps_set (i:=6) scGoneB.nd rfl (Or.inl rfl) (pe_ix ix_tup (pe_ix ix_list (pv 0) (pv 3) (fun _ _=>rfl)) (pe_callTy call_int1 rfl B.it PyProof.Rows.boot_int (pa_cons (pe_not (pv 5)) pa_nil)) (fun _ _=>rfl)))
      (pss_cons (ps_set (i:=7) scGoneB.nd rfl (Or.inl rfl) (pe_ix ix_tup (pe_ix ix_list (pv 0) (pv 3) (fun _ _=>rfl)) (pe_callTy call_int1 rfl B.it PyProof.Rows.boot_int (pa_cons (pv 5) pa_nil)) (fun _ _=>rfl)))
      (pss_cons (ps_set (i:=8) scGoneB.nd rfl (Or.inl rfl) (pe_op op_add (pv 4) (pe_callB call_lenS rfl B.len PySem.boot_len (pa_cons (pv 6) pa_nil))))
      (pss_cons (ps_if (PW.pt (pw_or (pt_cmpR op_lt (pv 4) pe_int (nomark _)) (pw_or (pt_cmpR op_gt (pv 8) (pe_callB call_lenS rfl B.len PySem.boot_len (pa_cons (pv 1) pa_nil)) (nomark _))
        (pw_or1 (pt_cmpR op_ne (pe_slice sl_str (pv 1) (po_some (pv 4)) (po_some (pv 8))) (pv 6) (nomark _)))))) (pss_one (ps_ret pe_non)) pss_nil)
      (pss_one (ps_set (i:=1) scGoneB.nd rfl (Or.inl rfl) (pe_op op_addS (pe_op op_addS (pe_slice sl_str (pv 1) po_none (po_some (pv 4))) (pv 7)) (pe_slice sl_str (pv 1) (po_some (pv 8)) po_none)))))))))
    ) (pss_one (ps_ret (pv 1))),?_⟩
  try dsimp only [cxOf,Cx.nox]
  have lkv:=pairLen hkp
  obtain ⟨rv,hrv,hrp⟩:=id hS
  have lrv:=pairLen hrp
  refine ⟨_,rfl,c,rfl,⟨_,SqL.of hkv⟩,?_⟩
  refine for_list (K:=K) (a:=c) (xs:=kv) (GoW a c ps w ks kv H)
    ⟨rfl,Nat.zero_le _,w,_,_,_,_,_,_,rfl,by lia,rfl⟩ (fun i σ H' _ (.mk e ..)=>by rw [e]; exact SqL.of hkv) ?_ ?_
  · rintro i v σ H' hv ⟨e,hi,cur,x3,x4,x5,x6,x7,x8,rfl,hcl,hwk⟩
    subst e
    obtain ⟨⟨n,p,b⟩,hk,t,rfl,ht⟩:=pairGetL hkp hv
    have hil:i < ks.length:=(List.getElem?_eq_some_iff.mp hk).1
    have hdrop:ks.drop i = (n,p,b) :: ks.drop (i + 1):=by
      rw [List.drop_eq_getElem_cons hil]
      congr 1
      exact Option.some.inj ((List.getElem?_eq_getElem hil).symm.trans hk)
    rw [hdrop] at hwk
    have no:fitL ps cur (n,p,b) = false → Q .non H':=fun e=>by
      rw [wlk_no (lnk_none e)] at hwk
      rw [← hwk] at q
      exact q
    have noN:¬ (0 ≤ n ∧ n < (ps.length:Int)) → Q .non H':=fun e=>no (by unfold fitL numOk; rw [decide_eq_false e]; rfl)
    refine ⟨t,_,rfl,SqT.of ht,rfl,_,_,rfl,_,_,rfl,_,_,rfl,rfl,?_⟩
    refine ⟨_,rfl,_,_,rfl,rfl,_,rfl,?_⟩
    refine ite2 (fun c=>?_) (fun c=>?_)
    · have hp:=of_decide_eq_true c
      exact iteT (noN (by lia))
    have h0:0 ≤ n:=by
      have:¬ n < 0:=fun z=>c (decide_eq_true z)
      lia
    refine ⟨_,rfl,_,rfl,a,rv,rfl,.inl (SqL.of hrv),_,_,rfl,rfl,_,rfl,?_⟩
    refine ite2 (fun c=>?_) (fun c=>?_)
    · have hp:=of_decide_eq_true c
      exact noN (by lia)
    have h1:n < (ps.length:Int):=by
      have:¬ ((rv.length:Nat):Int) ≤ n:=fun z=>c (decide_eq_true z)
      lia
    obtain ⟨n,rfl⟩:∃ m:Nat,n = (m:Int):=⟨n.toNat,by lia⟩
    have hn:n < ps.length:=by lia
    obtain ⟨rv',p2,eH,hvl,hx,h2⟩:=hS.get hn
    rw [hrv] at eH
    cases eH
    have hat2:atI rv ((n:Nat):Int) = some (.ref p2):=atI_nat hx
    refine ⟨_,rfl,_,rfl,a,rv,_,_,rfl,rfl,SqL.of hrv,hat2,_,rfl,_,rfl,.inr ⟨_,rfl,p2,_,_,_,rfl,rfl,SqT.of h2,ix_old _ _ b,?_⟩⟩
    refine ⟨_,rfl,_,rfl,a,rv,_,_,rfl,rfl,SqL.of hrv,hat2,_,rfl,.inr ⟨_,rfl,p2,_,_,_,rfl,rfl,SqT.of h2,ix_new _ _ b,?_⟩⟩
    have eo:(if b = true then (ps.getD n ([],[])).1 else (ps.getD n ([],[])).2) = oldW ps (((n:Nat):Int),p,b):=by unfold oldW; rw [Int.toNat_natCast]
    have en:(if b = true then (ps.getD n ([],[])).2 else (ps.getD n ([],[])).1) = newW ps (((n:Nat):Int),p,b):=by unfold newW; rw [Int.toNat_natCast]
    rw [eo,en]
    have lo:=hsh.old (((n:Nat):Int),p,b)
    have ln:=hsh.new (((n:Nat):Int),p,b)
    have ef:fitL ps cur (((n:Nat):Int),p,b) = stI cur (oldW ps (((n:Nat):Int),p,b)) p:=by
      unfold fitL
      have:numOk ps (((n:Nat):Int),p,b) = true:=decide_eq_true ⟨h0,h1⟩
      rw [this,Bool.true_and]
    generalize hold:oldW ps (((n:Nat):Int),p,b) = old at *
    generalize hnew:newW ps (((n:Nat):Int),p,b) = new at *
    refine ⟨_,rfl,_,rfl,old,rfl,szb (by lia),_,_,rfl,rfl,?_⟩
    have noS:¬ (0 ≤ p ∧ p.toNat + old.length ≤ cur.length ∧ (cur.drop p.toNat).take old.length = old) → Q .non H':=fun e=>no (by
      rw [ef]
      exact Bool.eq_false_iff.mpr fun z=>e (stI_iff.mp z))
    refine ⟨_,rfl,_,_,rfl,rfl,_,rfl,?_⟩
    refine ite2 (fun c=>?_) (fun c=>?_)
    · have hp:p < 0:=of_decide_eq_true c
      exact iteT (noS fun z=>by lia)
    have hp0:0 ≤ p:=by
      have:¬ p < 0:=fun z=>c (decide_eq_true z)
      lia
    obtain ⟨p,rfl⟩:∃ m:Nat,p = (m:Int):=⟨p.toNat,by lia⟩
    rw [Int.toNat_natCast] at noS
    refine ⟨_,rfl,_,rfl,cur,rfl,szb (by lia),_,_,rfl,rfl,_,rfl,?_⟩
    refine ite2 (fun c=>?_) (fun c=>?_)
    · have hp:((cur.length:Nat):Int) < (p:Int) + ((old.length:Nat):Int):=of_decide_eq_true c
      exact iteT (noS fun z=>by lia)
    have hpe:p + old.length ≤ cur.length:=by
      have:¬ ((cur.length:Nat):Int) < (p:Int) + ((old.length:Nat):Int):=fun z=>c (decide_eq_true z)
      lia
    refine ⟨_,rfl,_,rfl,_,rfl,_,rfl,_,rfl,cur,rfl,szb (by lia),_,rfl,rfl,_,rfl,?_⟩
    rw [cutW_at (by lia)]
    by_cases hsl:(cur.drop p).take old.length = old
    · refine iteNS (by rw [hsl]) ?_
      have epl:((p:Nat):Int) + ((old.length:Nat):Int) = ((p + old.length:Nat):Int):=rfl
      refine ⟨_,rfl,_,rfl,_,rfl,cur,rfl,szb (by lia),_,rfl,_,_,rfl,rfl,?_,_,rfl,_,rfl,_,rfl,cur,rfl,szb (by lia),_,_,rfl,rfl,?_,?_⟩
      · rw [cutW_to,List.length_take,sizeLine_eq]
        lia
      · rw [cutW_to,epl,cutW_from,List.length_append,List.length_take,List.length_drop,sizeLine_eq]
        lia
      · have hf:fitL ps cur (((n:Nat):Int),((p:Nat):Int),b) = true:=by
          rw [ef,stI_iff,Int.toNat_natCast]
          exact ⟨by lia,hpe,hsl⟩
        have hl:=lnk_some hf
        rw [hold,hnew] at hl
        rw [wlk_cons hl] at hwk
        have hlen:=lnk_len hsh hl
        refine ⟨rfl,by lia,_,_,_,_,_,_,_,rfl,?_,?_⟩
        · rw [cutW_to,epl,cutW_from]
          have:(chg cur ((p:Nat):Int).toNat old new).length ≤ cur.length + 3:=hlen
          rw [Int.toNat_natCast] at this
          show (chg cur p old new).length ≤ _
          lia
        · rw [cutW_to,epl,cutW_from]
          rw [show ((((n:Nat):Int),((p:Nat):Int),b):Lk).2.1.toNat = p from Int.toNat_natCast p] at hwk
          exact hwk
    · rw [decide_eq_false (fun z=>hsl (Sx_inj (V.str.inj z)))]
      exact iteT (noS fun z=>hsl z.2.2)
  · rintro σ H' ⟨e,_,cur,x3,x4,x5,x6,x7,x8,rfl,_,hwk⟩
    subst e
    rw [lkv,List.drop_length] at hwk
    rw [← hwk] at q
    exact ⟨_,rfl,q⟩
end
end Sg
namespace Sg
open PySem L2
inductive spWhole (vs:List V) (H:Hp) (Q:VK) (E_:XK):Prop
  | mk (i:Int) (h1_:vs = [.int i]) (h2_:Q (.bl true) H):spWhole vs H Q E_
inductive spIsChain (vs:List V) (H:Hp) (Q:VK) (E_:XK):Prop
  | mk (c:_) (ks:_) (h1_:vs = [.ref c]) (h2_:LsAt H c ks) (h3_:Q (.bl true) H):spIsChain vs H Q E_
section
variable {P:Program} {w:World} {K:PySem.W.Frag} {mg:Str → Option Value} {base:Heap}
theorem scWhole:FnScope ["_law_found"] ["_law_found"] (defScope sWhole):=⟨rfl,rfl,rfl,by decide +kernel,rfl,by decide +kernel,by decide +kernel⟩
theorem ok_whole (D:Dfn K mg "_law_whole" sWhole ["_law_found"]) (B:Blt mg):Ok P w K mg base "_law_whole" ["_law_found"] 1 spWhole:=by
  refine D.ok scWhole (fun vs H Q E h=>?_) (fun f cdv A outer s H vs Q E hr h=>?_)
  · obtain ⟨i,rfl,_⟩:=h
    rfl
  obtain ⟨i,rfl,q⟩:=h
  refine ⟨_,pss_one (ps_ret (pe_and (pe_callB call_isi rfl B.isi boot_isiZ (pa_cons (pv 0) (pa_cons (pe_bltn (v:=.ty "int") rfl B.it boot_intZ rfl) pa_nil)))
    (pe_one (pe_not (pe_callB call_isi rfl B.isi boot_isiZ (pa_cons (pv 0) (pa_cons (pe_bltn (v:=.ty "bool") rfl B.bol boot_boolZ rfl) pa_nil))))))),?_⟩
  try dsimp only [cxOf,Cx.nox]
  refine ⟨_,rfl,_,"int",_,_,rfl,.int _,rfl,_,rfl,iteT ?_⟩
  exact ⟨_,rfl,_,"bool",_,_,rfl,.int _,rfl,_,rfl,q⟩
theorem scIC:FnScope ["_law_found","_law_link"] ["_law_found"] (defScope sIsChain):=⟨rfl,rfl,rfl,by decide +kernel,rfl,by decide +kernel,by decide +kernel⟩
theorem ok_ischain (D:Dfn K mg "_law_is_chain" sIsChain ["_law_found"]) (B:Blt mg) (OW:Ok P w K mg base "_law_whole" ["_law_found"] 1 spWhole):Ok P w K mg base "_law_is_chain" ["_law_found"] 2 spIsChain:=by
  refine D.ok scIC (fun vs H Q E h=>?_) (fun f cdv A outer s H vs Q E hr h=>?_)
  · obtain ⟨c,ks,rfl,_⟩:=h
    rfl
  obtain ⟨c,ks,rfl,⟨kv,hkv,hkp⟩,q⟩:=h
  refine ⟨_,pss_cons (ps_if (pt_not (pt_val (pe_callB call_isi rfl B.isi boot_isiZ (pa_cons (pv 0) (pa_cons (pe_bltn (v:=.ty "list") rfl B.lst boot_lstZ rfl) pa_nil))))) (pss_one (ps_ret pe_bl)) pss_nil)
    (pss_cons (ps_for PassesOwn.never rfl (pi_list (pv 0)) (pg_name (i:=1) scIC.nd rfl (Or.inl rfl))
      (pss_cons (ps_if (PW.pt (pw_or (pt_not (pt_val (pe_callB call_isi rfl B.isi boot_isiZ (pa_cons (pv 1) (pa_cons (pe_bltn (v:=.ty "tuple") rfl B.tup boot_tupZ rfl) pa_nil)))))
        (pw_or (pt_cmpR op_ne (pe_callB call_len_seq rfl B.len PySem.boot_len (pa_cons (pv 1) pa_nil)) pe_int (nomark _))
        (pw_or1 (pt_not (pt_val (pe_callB call_isi rfl B.isi boot_isiZ (pa_cons (pe_ix ix_tup (pv 1) pe_int (fun _ _=>rfl)) (pa_cons (pe_bltn (v:=.ty "bool") rfl B.bol boot_boolZ rfl) pa_nil))))))))) (pss_one (ps_ret pe_bl)) pss_nil)
      (pss_one (ps_if (PW.pt (pw_or (pt_not (pt_val (pe_fn OW hr rfl (pa_cons (pe_ix ix_tup (pv 1) pe_int (fun _ _=>rfl)) pa_nil))))
        (pw_or1 (pt_not (pt_val (pe_fn OW hr rfl (pa_cons (pe_ix ix_tup (pv 1) pe_int (fun _ _=>rfl)) pa_nil))))))) (pss_one (ps_ret pe_bl)) pss_nil))))
    (pss_one (ps_ret pe_bl))),?_⟩
  try dsimp only [cxOf,Cx.nox]
  refine ⟨_,rfl,_,"list",_,_,rfl,.lst hkv,rfl,_,rfl,iteF ?_⟩
  refine ⟨_,rfl,c,rfl,⟨_,SqL.of hkv⟩,?_⟩
  refine for_list (K:=K) (a:=c) (xs:=kv) (fun i σ H'=>H' = H ∧ ∃ x,σ = [some (.ref c),x]) ⟨rfl,_,rfl⟩ (fun i σ H' _ ⟨e,_⟩=>by rw [e]; exact SqL.of hkv) ?_ ?_
  · rintro i v σ H' hv ⟨e,x,rfl⟩
    subst e
    obtain ⟨k,hk,t,rfl,ht⟩:=pairGetL hkp hv
    refine ⟨_,rfl,_,"tuple",_,_,rfl,.tup ht,rfl,_,rfl,iteF ?_⟩
    refine ⟨_,rfl,t,_,rfl,.inr (SqT.of ht),rfl,_,rfl,iteF ?_⟩
    refine ⟨_,rfl,t,_,2,_,rfl,rfl,SqT.of ht,rfl,_,"bool",_,_,rfl,.bl _,rfl,_,rfl,iteF ?_⟩
    refine ⟨_,rfl,t,_,0,_,rfl,rfl,SqT.of ht,rfl,_,rfl,_,rfl,iteF ?_⟩
    refine ⟨_,rfl,t,_,1,_,rfl,rfl,SqT.of ht,rfl,_,rfl,_,rfl,iteF ?_⟩
    exact ⟨rfl,_,rfl⟩
  · rintro σ H' ⟨e,x,rfl⟩
    subst e
    exact q
end
end Sg
namespace Sg
open PySem L2
theorem rounds_of (c:Int) {n:Nat} (hn:n ≤ 3):∃ (m:Int) (k:Nat),atI [V.int 3,V.int 3,V.int 2,V.int 1] ((n:Nat):Int) = some (.int m) ∧ 0 < m ∧ c % m = (k:Int) ∧ RkOk n k:=by
  have:n = 0 ∨ n = 1 ∨ n = 2 ∨ n = 3:=by lia
  unfold RkOk
  rcases this with e | e | e | e <;> subst e
  · exact ⟨3,(c % 3).toNat,rfl,by decide,by lia,by lia⟩
  · exact ⟨3,(c % 3).toNat,rfl,by decide,by lia,by lia⟩
  · exact ⟨2,(c % 2).toNat,rfl,by decide,by lia,by lia⟩
  · exact ⟨1,(c % 1).toNat,rfl,by decide,by lia,by lia⟩
theorem big20:((10:Int) ^ Int.toNat 20) = ((100000000000000000000:Nat):Int):=by decide +kernel
structure Giv (ps rs:List Rl) (al:Wd) (k k0 Mo:Nat):Prop where
  sh:Sh ps
  inc:Inc al
  wk:∀ r ∈ ps,Wok al 3 r
  k2:k0 ≤ 2
  c64:cc ps.length k0 < 64
  rk:∀ u,Over al u → u.length + 1 ≤ 2 * nn k0 → rank al u ≤ 4000000
  rn:RndM ps k0 rs Mo
  kk:k = k0 ∨ (k0 ≤ k ∧ clashes rs = [])
structure Wds (rs:List Rl) (al u v:Wd) (n Mo Nu Nv:Nat):Prop where
  g:Good rs al n
  n50:n ≤ 50
  l:rs.length < 64
  ou:Over al u
  ov:Over al v
  lu:u.length ≤ 20
  lv:v.length ≤ 20
  ru:rank al u ≤ 4000000
  rv:rank al v ≤ 4000000
  mo:Mo ≤ 1000
  nu:∀ f ss,Down rs u f ss → ss.length ≤ Nu
  nv:∀ f ss,Down rs v f ss → ss.length ≤ Nv
  nn:(Nu + Nv) * Mo ≤ 5000000
theorem rep3 {H:Hp} {p:Addr} {a b c:Str} (e:H p = some (.tup [.str a,.str b,.str c])):Rep H (.ref p) (.tup [.str a,.str b,.str c]) :=
  .tup e rfl fun i v d h1 h2=>by
    match i with
    | 0=>cases h1; cases h2; exact .str _
    | 1=>cases h1; cases h2; exact .str _
    | 2=>cases h1; cases h2; exact .str _
    | _ + 3=>simp at h1
theorem spelt_over (x y:Nat) (ns:List Int):Over [x,y] (ns.map fun (c:Int)=>if c / 3 % 2 = 0 then x else y):=fun c hc=>by
  obtain ⟨i,_,rfl⟩:=List.mem_map.mp hc
  split <;> simp
theorem over_up {x y:Nat} {al u:Wd} (hx:x ∈ al) (hy:y ∈ al) (h:Over [x,y] u):Over al u:=fun c hc=>by
  have:=h c hc
  simp only [List.mem_cons,List.not_mem_nil,or_false] at this
  rcases this with z | z
  · rw [z]; exact hx
  · rw [z]; exact hy
theorem rank11 {al u:Wd} (ha:al.length ≤ 3) (h:Over al u) (hl:u.length ≤ 11):rank al u ≤ 4000000:=by
  refine rank_ofZ h hl ?_
  have:al.length = 0 ∨ al.length = 1 ∨ al.length = 2 ∨ al.length = 3:=by lia
  rcases this with e | e | e | e <;> rw [e] <;> decide
end Sg
namespace Sg
open PySem L2
inductive spLinks (vs:List V) (H:Hp) (Q:VK) (E_:XK):Prop
  | mk (a:_) (ps:_) (w:_) (h1_:vs = [.ref a,tx w]) (h2_:RsAt H a ps) (h3_:Sh ps) (h4_:ps.length ≤ 10) (h5_:w.length ≤ 20) (h6_:∀ r ks H',Same H H' → LsAt H' r ks → (∀ k ∈ ks,fitL ps w k = true) → ks.length ≤ 1000 → Q (.ref r) H'):spLinks vs H Q E_
inductive spWander (K:PySem.W.Frag) (vs:List V) (H:Hp) (Q:VK) (E_:XK):Prop
  | mk (a:Addr) (ps:List Rl) (w:Wd) (c:Addr) (ns:List Int) (h1_:vs = [.ref a,tx w,.ref c]) (h2_:RsAt H a ps) (h3_:Sh ps) (h4_:ps.length ≤ 10) (h5_:w.length ≤ 11) (h6_:SqL K H c (ns.map V.int)) (h7_:ns.length ≤ 100) (h8_:∀ t l u ks H',Same H H' → H' t = some (.tup [tx u,.ref l]) → wlk ps w ks = some u → u.length ≤ 11 → Q (.ref t) H'):spWander K vs H Q E_
section
variable {P:Program} {w:World} {K:PySem.W.Frag} {mg:Str → Option Value} {base:Heap}
theorem scLinks:FnScope ["_law_pairs","_law_word","_law_links","_law_number","_law_forth","_law_here","_law_place"] ["_law_pairs","_law_word"] (defScope sLinks):=⟨rfl,rfl,rfl,by decide +kernel,rfl,by decide +kernel,by decide +kernel⟩
theorem ok_links (D:Dfn K mg "_law_links_of" sLinks ["_law_pairs","_law_word"]) (B:Blt mg):Ok P w K mg base "_law_links_of" ["_law_pairs","_law_word"] 1 spLinks:=by
  refine D.ok scLinks (fun vs H Q E h=>?_) (fun f cdv A outer s H vs Q E hr h=>?_)
  · obtain ⟨a,ps,w,rfl,_⟩:=h
    rfl
  obtain ⟨a,ps,w,rfl,hS,hsh,hpl,hw,q⟩:=h
  refine ⟨_,pss_cons (ps_set (i:=2) scLinks.nd rfl (Or.inl rfl) (pe_lst pa_nil))
    (pss_cons (ps_for PassesOwn.never rfl (pi_range1 rfl B.rng (pa_cons (pe_callB call_len_seq rfl B.len PySem.boot_len (pa_cons (pv 0) pa_nil)) pa_nil)) (pg_name (i:=3) scLinks.nd rfl (Or.inl rfl))
      (pss_one (ps_for PassesOwn.never rfl (pi_list (pe_lst (pa_cons pe_bl (pa_cons pe_bl pa_nil)))) (pg_name (i:=4) scLinks.nd rfl (Or.inl rfl))
        (pss_cons (ps_set (i:=5) scLinks.nd rfl (Or.inl rfl) (pe_ix ix_tup (pe_ix ix_list (pv 0) (pv 3) (fun _ _=>rfl)) (pe_callTy call_int1 rfl B.it PyProof.Rows.boot_int (pa_cons (pe_not (pv 4)) pa_nil)) (fun _ _=>rfl)))
        (pss_one (ps_for PassesOwn.never rfl (pi_range1 rfl B.rng (pa_cons (pe_op op_add (pe_callB call_lenS rfl B.len PySem.boot_len (pa_cons (pv 1) pa_nil)) pe_int) pa_nil)) (pg_name (i:=6) scLinks.nd rfl (Or.inl rfl))
          (pss_one (ps_if (pt_cmpR op_eq (pe_slice sl_str (pv 1) (po_some (pv 6)) (po_some (pe_op op_add (pv 6) (pe_callB call_lenS rfl B.len PySem.boot_len (pa_cons (pv 5) pa_nil))))) (pv 5) (nomark _))
            (pss_one (ps_expr (pe_bm PySem.F.plainAttrs_list PySem.F.slot_list_append PySem.F.type_list_append mt_append (pv 2) (pa_cons (pe_tup (pa_cons (pv 3) (pa_cons (pv 6) (pa_cons (pv 4) pa_nil)))) pa_nil)))) pss_nil))))))))
    (pss_one (ps_ret (pv 2)))),?_⟩
  refine ⟨(by show 0 ≤ sizeLine; decide),fun l hl=>?_⟩
  have s1:Same H (upd H l (.lst [])):=same_new hl _
  obtain ⟨rv,hrv,hrp⟩:=id hS
  have lrv:=pairLen hrp
  refine ⟨_,rfl,a,rv,rfl,.inl (SqL.of (s1 _ _ hrv)),_,rfl,by lia,by lia,?_⟩
  rw [Int.toNat_natCast]
  refine for_range (lo:=0) (n:=rv.length) (fun i σ H'=>Same H H' ∧ i ≤ rv.length ∧ (∃ x3 x4 x5 x6,σ = [some (.ref a),some (tx w),some (.ref l),x3,x4,x5,x6]) ∧ ∃ ks,LsAt H' l ks ∧ (∀ k ∈ ks,fitL ps w k = true) ∧ ks.length ≤ i * 42)
    ⟨s1,Nat.zero_le _,⟨_,_,_,_,rfl⟩,[],⟨[],upd_same,.nil⟩,(fun k hk=>by simp at hk),Nat.zero_le _⟩ ?_ ?_
  · rintro i σ H1 hi ⟨s2,_,⟨x3,x4,x5,x6,rfl⟩,ks,hks,hfit,hkl⟩
    rw [Int.zero_add]
    have hir:i < ps.length:=by lia
    refine ⟨(by show 2 ≤ sizeLine; decide),fun lb hlb=>?_⟩
    have s3:Same H (upd H1 lb (.lst [.bl true,.bl false])):=s2.trans (same_new hlb _)
    have nlb:l ≠ lb:=fun z=>by
      obtain ⟨sv,hsv,_⟩:=hks
      rw [z,hlb] at hsv; cases hsv
    refine ⟨lb,rfl,⟨_,SqL.of upd_same⟩,?_⟩
    refine for_list (K:=K) (a:=lb) (xs:=[.bl true,.bl false]) (fun j σ H'=>Same H H' ∧ j ≤ 2 ∧ H' lb = some (.lst [.bl true,.bl false]) ∧ (∃ x4 x5 x6,σ = [some (.ref a),some (tx w),some (.ref l),some (.int (i:Int)),x4,x5,x6]) ∧ ∃ ks,LsAt H' l ks ∧ (∀ k ∈ ks,fitL ps w k = true) ∧ ks.length ≤ i * 42 + j * 21)
      ⟨s3,by decide,upd_same,⟨_,_,_,rfl⟩,ks,hks.mono (same_new hlb _),hfit,by lia⟩ (fun j σ H' _ ⟨_,_,e,_⟩=>SqL.of e) ?_ ?_
    · rintro j v σ H2 hv ⟨s4,_,hlb2,⟨x4,x5,x6,rfl⟩,ks2,hks2,hfit2,hkl2⟩
      have hj:j < 2:=(List.getElem?_eq_some_iff.mp hv).1
      obtain ⟨b,rfl⟩:∃ b:Bool,v = .bl b:=by
        have hm:=List.mem_of_getElem? hv
        rcases List.mem_cons.mp hm with z | hm
        · exact ⟨_,z⟩
        rcases List.mem_cons.mp hm with z | hm
        · exact ⟨_,z⟩
        simp at hm
      obtain ⟨rv',p2,eH,_,hx,h2⟩:=(hS.mono s4).get hir
      rw [s4 _ _ hrv] at eH
      cases eH
      have hat2:atI rv ((i:Nat):Int) = some (.ref p2):=atI_nat hx
      refine ⟨_,rfl,_,rfl,a,rv,_,_,rfl,rfl,SqL.of (s4 _ _ hrv),hat2,_,rfl,_,rfl,.inr ⟨_,rfl,p2,_,_,_,rfl,rfl,SqT.of h2,ix_old _ _ b,?_⟩⟩
      have eo:∀ p:Int,(if b = true then (ps.getD i ([],[])).1 else (ps.getD i ([],[])).2) = oldW ps (((i:Nat):Int),p,b):=fun p=>by unfold oldW; rw [Int.toNat_natCast]
      have lo:(if b = true then (ps.getD i ([],[])).1 else (ps.getD i ([],[])).2).length ≤ 3:=by rw [eo 0]; exact hsh.old _
      generalize (if b = true then (ps.getD i ([],[])).1 else (ps.getD i ([],[])).2) = old at *
      refine ⟨_,rfl,w,rfl,szl (by lia),_,_,rfl,rfl,_,rfl,by lia,by lia,?_⟩
      have ew:(((w.length:Nat):Int) + 1).toNat = w.length + 1:=by lia
      rw [ew]
      refine for_range (lo:=0) (n:=w.length + 1) (fun p σ H'=>Same H H' ∧ p ≤ w.length + 1 ∧ H' lb = some (.lst [.bl true,.bl false]) ∧ (∃ x6,σ = [some (.ref a),some (tx w),some (.ref l),some (.int (i:Int)),some (.bl b),some (tx old),x6]) ∧ ∃ ks,LsAt H' l ks ∧ (∀ k ∈ ks,fitL ps w k = true) ∧ ks.length ≤ i * 42 + j * 21 + p)
        ⟨s4,Nat.zero_le _,hlb2,⟨_,rfl⟩,ks2,hks2,hfit2,by lia⟩ ?_ ?_
      · rintro p σ H3 hp ⟨s5,_,hlb3,⟨x6,rfl⟩,ks3,⟨sv,hsv,hsp⟩,hfit3,hkl3⟩
        rw [Int.zero_add]
        refine ⟨_,rfl,_,rfl,_,rfl,_,rfl,_,rfl,old,rfl,szl (by lia),_,_,rfl,rfl,_,rfl,w,rfl,szl (by lia),_,rfl,rfl,_,rfl,?_⟩
        rw [cutW_at (by lia)]
        refine ite2 (fun c=>?_) (fun c=>?_)
        · have hsl:(w.drop p).take old.length = old:=Sx_inj (V.str.inj (of_decide_eq_true c))
          have hpo:p + old.length ≤ w.length:=by
            have:=congrArg List.length hsl
            rw [List.length_take,List.length_drop] at this
            lia
          refine ⟨_,rfl,.inl ⟨rfl,_,SqL.of hsv⟩,?_⟩
          refine ⟨_,rfl,_,rfl,_,rfl,(by show 3 ≤ sizeLine; decide),fun t ht=>?_⟩
          have hsv':=same_new ht (.tup [.int (i:Int),.int (p:Int),.bl b]) _ _ hsv
          have l1:=pairLen hsp
          refine ⟨l,_,_,rfl,rfl,hsv',by rw [sizeLine_eq]; lia,?_⟩
          refine ⟨(s5.trans (same_new ht _)).own hl _,hp,by rw [upd_ne (Ne.symm nlb)]; exact same_new ht _ _ _ hlb3,⟨_,rfl⟩,ks3 ++ [(((i:Nat):Int),((p:Nat):Int),b)],LsAt.snoc hsv' (pairImp hsp fun _ _ z=>z.mono (tups_of (same_new ht _))) ⟨t,rfl,upd_same⟩,fun k hk=>?_,?_⟩
          · rcases List.mem_append.mp hk with z | z
            · exact hfit3 k z
            · rw [List.mem_singleton.mp z]
              unfold fitL
              have h1:numOk ps (((i:Nat):Int),((p:Nat):Int),b) = true:=decide_eq_true (by show 0 ≤ (i:Int) ∧ (i:Int) < _; lia)
              rw [h1,Bool.true_and,← eo,stI_iff]
              show 0 ≤ (p:Int) ∧ (p:Int).toNat + old.length ≤ w.length ∧ _
              rw [Int.toNat_natCast]
              exact ⟨Int.natCast_nonneg _,hpo,hsl⟩
          · rw [List.length_append,List.length_singleton]
            lia
        · exact ⟨s5,hp,hlb3,⟨_,rfl⟩,ks3,⟨sv,hsv,hsp⟩,hfit3,by lia⟩
      · rintro σ H3 ⟨s5,_,hlb3,⟨x6,rfl⟩,ks3,hks3,hfit3,hkl3⟩
        exact ⟨s5,by lia,hlb3,⟨_,_,_,rfl⟩,ks3,hks3,hfit3,by lia⟩
    · rintro σ H2 ⟨s4,_,hlb2,⟨x4,x5,x6,rfl⟩,ks2,hks2,hfit2,hkl2⟩
      refine ⟨s4,hi,⟨_,_,_,_,rfl⟩,ks2,hks2,hfit2,?_⟩
      have:ks2.length ≤ i * 42 + 2 * 21:=hkl2
      lia
  · rintro σ H1 ⟨s2,_,⟨x3,x4,x5,x6,rfl⟩,ks,hks,hfit,hkl⟩
    exact ⟨_,rfl,q l ks H1 s2 hks hfit (by lia)⟩
theorem scWander:FnScope ["_law_pairs","_law_word","_law_cells","_law_chain","_law_cell","_law_links","_law_link"] ["_law_pairs","_law_word","_law_cells"] (defScope sWander):=⟨rfl,rfl,rfl,by decide +kernel,rfl,by decide +kernel,by decide +kernel⟩
theorem ok_wander (D:Dfn K mg "_law_wandered" sWander ["_law_pairs","_law_word","_law_cells"]) (B:Blt mg) (OL:Ok P w K mg base "_law_links_of" ["_law_pairs","_law_word"] 1 spLinks) (OG:Ok P w K mg base "_law_gone" ["_law_pairs","_law_word","_law_chain"] 1 spGoneB) :
    Ok P w K mg base "_law_wandered" ["_law_pairs","_law_word","_law_cells"] 2 (spWander K):=by
  refine D.ok scWander (fun vs H Q E h=>?_) (fun f cdv A outer s H vs Q E hr h=>?_)
  · obtain ⟨a,ps,w,c,ns,rfl,_⟩:=h
    rfl
  obtain ⟨a,ps,w,c,ns,rfl,hS,hsh,hpl,hw,hC,hn,q⟩:=h
  refine ⟨_,pss_cons (ps_set (i:=3) scWander.nd rfl (Or.inl rfl) (pe_lst pa_nil))
    (pss_cons (ps_for PassesOwn.never rfl (pi_list (pv 2)) (pg_name (i:=4) scWander.nd rfl (Or.inl rfl))
      (pss_cons (ps_set (i:=5) scWander.nd rfl (Or.inl rfl) (pe_fn OL hr rfl (pa_cons (pv 0) (pa_cons (pv 1) pa_nil))))
      (pss_one (ps_if (PW.pt (pw_and (pt_cmpR (op_neNil hr.units0) (pv 5) (pe_lst pa_nil) (nomark _)) (pw_and1 (pt_cmpR op_lt (pe_callB call_lenS rfl B.len PySem.boot_len (pa_cons (pv 1) pa_nil)) pe_int (nomark _)))))
        (pss_cons (ps_set (i:=6) scWander.nd rfl (Or.inl rfl) (pe_ix ix_list (pv 5) (pe_op op_mod (pv 4) (pe_callB call_len_seq rfl B.len PySem.boot_len (pa_cons (pv 5) pa_nil))) (fun _ _=>rfl)))
        (pss_cons (ps_expr (pe_bm PySem.F.plainAttrs_list PySem.F.slot_list_append PySem.F.type_list_append mt_append (pv 3) (pa_cons (pv 6) pa_nil)))
        (pss_one (ps_set (i:=1) scWander.nd rfl (Or.inl rfl) (pe_fn OG hr rfl (pa_cons (pv 0) (pa_cons (pv 1) (pa_cons (pe_lst (pa_cons (pv 6) pa_nil)) pa_nil)))))))) pss_nil))))
    (pss_one (ps_ret (pe_tup (pa_cons (pv 1) (pa_cons (pv 3) pa_nil)))))),?_⟩
  refine ⟨(by show 0 ≤ sizeLine; decide),fun l hl=>?_⟩
  have s1:Same H (upd H l (.lst [])):=same_new hl _
  refine ⟨_,rfl,c,rfl,⟨_,s1.seq hC⟩,?_⟩
  refine for_list (K:=K) (a:=c) (xs:=ns.map V.int) (fun i σ H'=>Same H H' ∧ i ≤ ns.length ∧ ∃ cur x4 x5 x6 ks,σ = [some (.ref a),some (tx cur),some (.ref c),some (.ref l),x4,x5,x6] ∧ cur.length ≤ 11 ∧ LsAt H' l ks ∧ ks.length ≤ i ∧ wlk ps w ks = some cur)
    ⟨s1,Nat.zero_le _,w,_,_,_,[],rfl,hw,⟨[],upd_same,.nil⟩,Nat.le_refl _,rfl⟩ (fun i σ H' _ ⟨s',_⟩=>s'.seq hC) ?_ ?_
  · rintro i v σ H1 hv ⟨s2,_,cur,x4,x5,x6,ks,rfl,hcl,hks,hkl,hwc⟩
    rw [List.getElem?_map] at hv
    cases hc:ns[i]? with
    | none=>rw [hc] at hv; cases hv
    | some ce =>
      rw [hc] at hv
      cases hv
      have hil:i < ns.length:=(List.getElem?_eq_some_iff.mp hc).1
      refine ⟨_,rfl,_,rfl,a,ps,cur,rfl,hS.mono s2,hsh,hpl,by lia,fun r kl H2 s3 hkl2 hfit hkb=>?_⟩
      have s4:=s2.trans s3
      obtain ⟨kv,hkv,hkp⟩:=id hkl2
      have lkv:=pairLen hkp
      refine ⟨_,rfl,(by show 0 ≤ sizeLine; decide),fun z hz=>?_⟩
      have s5:Same H2 (upd H2 z (.lst [])):=same_new hz _
      refine ⟨r,z,kv,rfl,rfl,SqL.of (s5 _ _ hkv),SqL.of upd_same,_,rfl,?_⟩
      have s6:=s4.trans s5
      have hks6:=hks.mono (s3.trans s5)
      have hkl6:=hkl2.mono s5
      have hkv6:=s5 _ _ hkv
      have hkp6:Paired (LkAt (upd H2 z (.lst []))) kv kl:=pairImp hkp fun _ _ y=>y.mono (tups_of s5)
      generalize upd H2 z (.lst []) = H3 at *
      cases hemp:kv.isEmpty with
      | true =>
        refine iteF (iteF ?_)
        exact ⟨s6,hil,cur,_,_,_,ks,rfl,hcl,hks6,by lia,hwc⟩
      | false =>
        refine iteT ?_
        refine ⟨_,rfl,cur,rfl,szl (by lia),_,_,rfl,rfl,_,rfl,?_⟩
        refine ite2 (fun c9=>?_) (fun c9=>?_)
        · have h9:cur.length < 9:=by have:=of_decide_eq_true c9; lia
          have hpos:0 < kl.length:=by
            cases kv with
            | nil=>cases hemp
            | cons _ _=>rw [← lkv]; simp
          refine ⟨_,rfl,_,rfl,_,rfl,r,kv,rfl,.inl (SqL.of hkv6),_,_,rfl,rfl,(by show (0:Int) < _; lia),?_⟩
          obtain ⟨j,hj,ej⟩:∃ j:Nat,j < kl.length ∧ ce % ((kv.length:Nat):Int) = (j:Int):=by
            have h1:=Int.emod_nonneg ce (show ((kv.length:Nat):Int) ≠ 0 by lia)
            have h2:=Int.emod_lt_of_pos ce (show 0 < ((kv.length:Nat):Int) by lia)
            exact ⟨(ce % ((kv.length:Nat):Int)).toNat,by lia,by lia⟩
          obtain ⟨vk,hvk,hlk⟩:=pairGetR hkp6 (List.getElem?_eq_getElem hj)
          have hat:atI kv (ce % ((kv.length:Nat):Int)) = some vk:=by rw [ej]; exact atI_nat hvk
          refine ⟨r,kv,_,vk,rfl,rfl,SqL.of hkv6,hat,?_⟩
          obtain ⟨sv,hsv,hsp⟩:=hks6
          have lsv:=pairLen hsp
          refine ⟨_,rfl,.inl ⟨rfl,_,SqL.of hsv⟩,_,rfl,l,_,_,rfl,rfl,hsv,by rw [sizeLine_eq]; lia,?_⟩
          have hks7:=LsAt.snoc hsv hsp hlk
          have hlk7:=hlk.mono (tups_own (ys:=sv ++ [vk]) hsv)
          have s7:Same H (upd H3 l (.lst (sv ++ [vk]))):=s6.own hl _
          generalize upd H3 l (.lst (sv ++ [vk])) = H4 at *
          refine ⟨_,rfl,_,rfl,_,rfl,(by show 1 ≤ sizeLine; decide),fun z2 hz2=>?_⟩
          have s8:Same H4 (upd H4 z2 (.lst [vk])):=same_new hz2 _
          refine ⟨a,ps,cur,z2,[kl[j]],rfl,hS.mono (s7.trans s8),hsh,by lia,by lia,⟨[vk],upd_same,.cons (hlk7.mono (tups_of s8)) .nil⟩,by show 1 ≤ 5000000; decide,?_⟩
          have hf:=hfit _ (List.getElem_mem hj)
          have hl2:=lnk_some hf
          have hlen:=lnk_len hsh hl2
          rw [wlk_cons hl2]
          refine ⟨s7.trans s8,hil,_,_,_,_,_,rfl,by lia,hks7.mono s8,?_,?_⟩
          · rw [List.length_append,List.length_singleton]
            lia
          · rw [wlk_app ps _ _ _ _ hwc,wlk_cons hl2]
            rfl
        · exact ⟨s6,hil,cur,_,_,_,ks,rfl,hcl,hks6,by lia,hwc⟩
  · rintro σ H1 ⟨s2,_,cur,x4,x5,x6,ks,rfl,hcl,hks,hkl,hwc⟩
    rw [List.length_map] at hkl
    refine ⟨_,rfl,_,rfl,(by show 2 ≤ sizeLine; decide),fun t ht=>?_⟩
    exact q t l cur ks _ (s2.trans (same_new ht _)) upd_same hwc hcl
end
end Sg
namespace Sg
open PySem L2
theorem lnk_pair {ps:List Rl} {w u:Wd} {k:Lk} (e:lnk ps w k = some u):∃ r ∈ ps,∃ a b,(w = a ++ r.1 ++ b ∧ u = a ++ r.2 ++ b) ∨ (w = a ++ r.2 ++ b ∧ u = a ++ r.1 ++ b):=by
  unfold lnk at e
  split at e
  · rename_i hf
    cases e
    unfold fitL at hf
    rw [Bool.and_eq_true] at hf
    obtain ⟨hn,hs⟩:=hf
    have hn':0 ≤ k.1 ∧ k.1 < (ps.length:Int):=of_decide_eq_true hn
    have hi:k.1.toNat < ps.length:=by lia
    obtain ⟨_,h1,h2⟩:=stI_iff.mp hs
    have hw:w = w.take k.2.1.toNat ++ oldW ps k ++ w.drop (k.2.1.toNat + (oldW ps k).length):=by
      conv=>lhs; rw [← List.take_append_drop k.2.1.toNat w,← List.take_append_drop (oldW ps k).length (w.drop k.2.1.toNat),h2,List.drop_drop]
      rw [List.append_assoc]
    refine ⟨_,getD_mem hi,w.take k.2.1.toNat,w.drop (k.2.1.toNat + (oldW ps k).length),?_⟩
    unfold chg
    cases hb:k.2.2 with
    | true =>
      have eo:oldW ps k = (ps.getD k.1.toNat ([],[])).1:=by unfold oldW; rw [if_pos hb]
      have en:newW ps k = (ps.getD k.1.toNat ([],[])).2:=by unfold newW; rw [if_pos hb]
      rw [eo] at hw
      rw [eo,en]
      exact .inl ⟨hw,rfl⟩
    | false =>
      have nb:¬ k.2.2 = true:=by rw [hb]; exact Bool.false_ne_true
      have eo:oldW ps k = (ps.getD k.1.toNat ([],[])).2:=by unfold oldW; rw [if_neg nb]
      have en:newW ps k = (ps.getD k.1.toNat ([],[])).1:=by unfold newW; rw [if_neg nb]
      rw [eo] at hw
      rw [eo,en]
      exact .inr ⟨hw,rfl⟩
  · cases e
theorem wlk_cv {ps rs:List Rl} (h:∀ p ∈ ps,Cv rs p.1 p.2):∀ (ks:List Lk) (w u:Wd),wlk ps w ks = some u → Cv rs w u
  | [],w,u,e=>by cases e; exact .refl _
  | k :: ks,w,u,e=>by
    cases hl:lnk ps w k with
    | none=>rw [wlk_no hl] at e; cases e
    | some x =>
      rw [wlk_cons hl] at e
      refine .trans ?_ (wlk_cv h ks x u e)
      obtain ⟨r,hr,a,b,⟨rfl,rfl⟩ | ⟨rfl,rfl⟩⟩:=lnk_pair hl
      · exact (h r hr).ctx a b
      · exact .symm ((h r hr).ctx a b)
theorem over_put {al a x y b:Wd} (hy:Over al y) (h:Over al (a ++ x ++ b)):Over al (a ++ y ++ b):=fun c hc=>by
  rcases List.mem_append.mp hc with z | z
  · rcases List.mem_append.mp z with z | z
    · exact h c (List.mem_append_left _ (List.mem_append_left _ z))
    · exact hy c z
  · exact h c (List.mem_append_right _ z)
theorem wlk_over {ps:List Rl} {al:Wd} (h:∀ r ∈ ps,Wok al 3 r):∀ (ks:List Lk) (w u:Wd),wlk ps w ks = some u → Over al w → Over al u
  | [],w,u,e,o=>by cases e; exact o
  | k :: ks,w,u,e,o=>by
    cases hl:lnk ps w k with
    | none=>rw [wlk_no hl] at e; cases e
    | some x =>
      rw [wlk_cons hl] at e
      refine wlk_over h ks x u e ?_
      obtain ⟨r,hr,a,b,⟨rfl,rfl⟩ | ⟨rfl,rfl⟩⟩:=lnk_pair hl
      · exact over_put (h r hr).2.1 o
      · exact over_put (h r hr).1 o
def T10a (K:PySem.W.Frag) (D:Ends) (σ:St) (H:Hp):Prop:=∃ (a:Addr) (ns:List Int) (x1:Option V) (x y b':Nat) (pr:Addr) (ps:List Rl) (k:Nat) (u v:Wd) (ks:List Lk) (x6 x7 x8 x9 x10:Option V),
  σ = [some (.ref a),x1,some (.ref pr),some (.int (k:Int)),some (tx u),some (tx v),x6,x7,x8,x9,x10] ∧ SqL K H a (ns.map V.int) ∧ ns.length ≤ 63 ∧ x < y ∧ y ≤ 122 ∧ (b' = y ∨ b' = 122) ∧ PrM x y b' ps ∧ RkOk ps.length k ∧ RsAt H pr ps ∧
  Over [x,y] u ∧ u.length ≤ 5 ∧ v.length ≤ 11 ∧ wlk ps u ks = some v ∧ ∀ H',D.rt (.bl true) H'
def T10b (D:Ends) (σ:St) (H:Hp):Prop:=∃ (x0 x1:Option V) (pr r:Addr) (ps rs:List Rl) (al:Wd) (k k0 Mo n Nu Nv:Nat) (u v:Wd) (b:Bool) (x8 x9 x10:Option V),
  σ = [x0,x1,some (.ref pr),some (.int (k:Int)),some (tx u),some (tx v),some (.ref r),some (.bl b),x8,x9,x10] ∧ RsAt H pr ps ∧ RsAt H r rs ∧ ps.length ≤ 3 ∧ Giv ps rs al k k0 Mo ∧ Wds rs al u v n Mo Nu Nv ∧ (b = true ↔ clashes rs = []) ∧
  (clashes rs = [] → ∀ f g ss tt,Down rs u f ss → Down rs v g tt → f = g) ∧ ∀ H',D.rt (.bl true) H'
def T10c (D:Ends) (σ:St) (H:Hp):Prop:=∃ (x0 x1:Option V) (pr:Addr) (ps rs:List Rl) (al:Wd) (k k0 Mo n Nu Nv:Nat) (u v f g:Wd) (ss tt:List (Nat × Nat)) (x6 x7 x10:Option V),
  σ = [x0,x1,some (.ref pr),some (.int (k:Int)),some (tx u),some (tx v),x6,x7,some (tx f),some (tx g),x10] ∧ RsAt H pr ps ∧ ps.length ≤ 3 ∧ Giv ps rs al k k0 Mo ∧ Wds rs al u v n Mo Nu Nv ∧ Down rs u f ss ∧ Down rs v g tt ∧ (clashes rs = [] → f = g) ∧ ∀ H',D.rt (.bl true) H'
section
variable {P:Program} {w:World} {K:PySem.W.Frag} {mg:Str → Option Value} {base:Heap}
abbrev NL10:List Str:=["_law_script","_law_two","_law_pairs","_law_rounds","_law_one","_law_other","_law_rules","_law_done","_law_here","_law_there","_law_found"]
theorem scLaw:FnScope NL10 ["_law_script"] (defScope sLaw):=⟨rfl,rfl,rfl,by decide +kernel,rfl,by decide +kernel,by decide +kernel⟩
theorem ok_law {fl:Addr} {fdl:FuncData} (FL:Fun K "law" "law" sLaw fl fdl) (B:Blt mg) (OP:Ok P w K mg base "_law_letter_pair" ["_law_script"] 1 (spPairR K)) (OR:Ok P w K mg base "_law_paired" ["_law_cells","_law_two"] 2 (spPairedM K))
    (OA:Ok P w K mg base "_law_at" ["_law_script","_law_k"] 1 (spAt K)) (OP2:Ok P w K mg base "_law_spelt" ["_law_cells","_law_two"] 1 (spSpelt K)) (ON:Ok P w K mg base "_law_in_rounds" ["_law_pairs","_law_rounds"] 4 spRounds) (OD:Ok P w K mg base "_law_down" ["_law_rules","_law_word"] 2 spDown)
    (OW:Ok P w K mg base "_law_wandered" ["_law_pairs","_law_word","_law_cells"] 2 (spWander K))
    (OM:Ok P w K mg base "asked" ["pairs","rounds","one","other"] 9 spAsk) (OI:Ok P w K mg base "_law_is_chain" ["_law_found"] 2 spIsChain) (OG:Ok P w K mg base "_law_gone" ["_law_pairs","_law_word","_law_chain"] 1 spGoneB) (OS:Ok P w K mg base "_law_so" ["_law_found","_law_due"] 1 spSo):FnOk P w K mg base CX0 10 fl fdl ["_law_script"] (spLaw K):=by
  refine FL.ok scLaw (fun vs H Q E h=>?_) (fun cdv A outer s H vs Q E hr h=>?_)
  · obtain ⟨a,ns,rfl,_⟩:=h
    rfl
  obtain ⟨a,ns,rfl,hS,hn,q⟩:=h
  have hr1:Room 1 _:=hr.mono (by decide)
  have hr2:Room 2 _:=hr.mono (by decide)
  have hr4:Room 4 _:=hr.mono (by decide)
  refine ⟨_,pss_cons (ps_set (i:=1) scLaw.nd rfl (Or.inl rfl) (pe_fn OP hr1 rfl (pa_cons (pv 0) pa_nil)))
    (pss_cons (ps_set (i:=2) scLaw.nd rfl (Or.inl rfl) (pe_fn OR hr2 rfl (pa_cons (pe_slice sl_list (pv 0) (po_some pe_int) (po_some pe_int)) (pa_cons (pv 1) pa_nil))))
    (pss_cons (ps_set (i:=3) scLaw.nd rfl (Or.inl rfl) (pe_op op_mod (pe_fn OA hr1 rfl (pa_cons (pv 0) (pa_cons pe_int pa_nil))) (pe_ix ix_list (pe_lst (pa_cons pe_int (pa_cons pe_int (pa_cons pe_int (pa_cons pe_int pa_nil))))) (pe_callB call_len_seq rfl B.len PySem.boot_len (pa_cons (pv 2) pa_nil)) (fun _ _=>rfl))))
    (pss_cons (ps_set (i:=4) scLaw.nd rfl (Or.inl rfl) (pe_fn OP2 hr1 rfl (pa_cons (pe_slice sl_list (pv 0) (po_some pe_int) (po_some pe_int)) (pa_cons (pv 1) pa_nil))))
    (pss_cons (ps_set (i:=5) scLaw.nd rfl (Or.inl rfl) (pe_ix ix_tup (pe_fn OW hr2 rfl (pa_cons (pv 2) (pa_cons (pv 4) (pa_cons (pe_slice sl_list (pv 0) (po_some pe_int) (po_some pe_int)) pa_nil)))) pe_int (fun _ _=>rfl)))
    (pss_imp (pss_cons (ps_asg (pe_fn ON hr4 rfl (pa_cons (pv 2) (pa_cons (pv 3) pa_nil))) (pg_tup rfl (pgs_cons (pg_name (i:=6) scLaw.nd rfl (Or.inl rfl)) (pgs_cons (pg_name (i:=7) scLaw.nd rfl (Or.inl rfl)) pgs_nil))))
    (pss_cons (ps_if (PW.pt (pw_and (pt_val (pv 7)) (pw_and1 (pt_cmpR op_eq (pe_op op_mod (pe_op op_fdiv (pe_fn OA hr1 rfl (pa_cons (pv 0) (pa_cons pe_int pa_nil))) pe_int) pe_int) pe_int (nomark _))))) (pss_one (ps_set (i:=3) scLaw.nd rfl (Or.inl rfl) (pe_op op_pow pe_int pe_int))) pss_nil)
    (pss_imp (pss_cons (ps_set (i:=8) scLaw.nd rfl (Or.inl rfl) (pe_ix ix_tup (pe_fn OD hr2 rfl (pa_cons (pv 6) (pa_cons (pv 4) pa_nil))) pe_int (fun _ _=>rfl)))
    (pss_cons (ps_set (i:=9) scLaw.nd rfl (Or.inl rfl) (pe_ix ix_tup (pe_fn OD hr2 rfl (pa_cons (pv 6) (pa_cons (pv 5) pa_nil))) pe_int (fun _ _=>rfl)))
    (pss_cons (ps_if (PW.pt (pw_and (pt_val (pv 7)) (pw_and1 (pt_cmpR op_ne (pv 8) (pv 9) (nomark _))))) (pss_one (ps_ret pe_bl)) pss_nil)
    (pss_imp (pss_cons (ps_set (i:=10) scLaw.nd rfl (Or.inl rfl) (pe_fn OM hr rfl (pa_cons (pe_callTy call_list_of rfl B.lst boot_lstZ (pa_cons (pv 2) pa_nil)) (pa_cons (pv 3) (pa_cons (pv 4) (pa_cons (pv 5) pa_nil))))))
    (pss_cons (ps_if (PW.pt (pw_or (pt_not (pt_val (pe_callB call_isi rfl B.isi boot_isiZ (pa_cons (pv 10) (pa_cons (pe_bltn (v:=.ty "tuple") rfl B.tup boot_tupZ rfl) pa_nil)))))
        (pw_or (pt_cmpR op_lt (pe_callB call_len_seq rfl B.len PySem.boot_len (pa_cons (pv 10) pa_nil)) pe_int (nomark _))
        (pw_or1 (pt_not (pt_val (pe_callB call_isi rfl B.isi boot_isiZ (pa_cons (pe_ix ix_tup (pv 10) pe_int (fun _ _=>rfl)) (pa_cons (pe_bltn (v:=.ty "str") rfl B.str boot_strZ rfl) pa_nil))))))))) (pss_one (ps_ret pe_bl)) pss_nil)
    (pss_cons (ps_if (pt_cmpR op_eq (pv 8) (pv 9) (nomark _))
        (pss_cons (ps_if (PW.pt (pw_or (pt_cmpR op_ne (pe_ix ix_tup (pv 10) pe_int (fun _ _=>rfl)) pe_str (nomark _))
        (pw_or (pt_cmpR op_ne (pe_callB call_len_seq rfl B.len PySem.boot_len (pa_cons (pv 10) pa_nil)) pe_int (nomark _))
        (pw_or1 (pt_not (pt_val (pe_fn OI hr2 rfl (pa_cons (pe_ix ix_tup (pv 10) pe_int (fun _ _=>rfl)) pa_nil)))))))) (pss_one (ps_ret pe_bl)) pss_nil)
        (pss_one (ps_ret (pe_cmpR op_eq (pe_fn OG hr1 rfl (pa_cons (pv 2) (pa_cons (pv 4) (pa_cons (pe_ix ix_tup (pv 10) pe_int (fun _ _=>rfl)) pa_nil)))) (pv 5) (nomark _))))) pss_nil)
    (pss_one (ps_ret (pe_fn OS hr1 rfl (pa_cons (pv 10) (pa_cons (pe_tup (pa_cons pe_str (pa_cons (pv 8) (pa_cons (pv 9) pa_nil)))) pa_nil)))))))) (fun D σ H' (h:T10c D σ H')=>?tailc))))) (fun D σ H' (h:T10b D σ H')=>?tailb)))) (fun D σ H' (h:T10a K D σ H')=>?taila)))))),?_⟩
  case tailc =>
    obtain ⟨x0,x1,pr,ps,rs,al,k,k0,Mo,n,Nu,Nv,u,v,f,g,ss,tt,x6,x7,x10,rfl,hR2,hpl3,hg,hw,d1,d2,hEq,qd⟩:=h
    have lu:=hw.lu
    obtain ⟨pv',hpv,hpp⟩:=id hR2
    refine ⟨_,rfl,pr,pv',rfl,.inl (SqL.of hpv),fun pl hpl=>?_⟩
    have sl:=same_new hpl (.lst pv')
    refine ⟨_,rfl,_,rfl,_,rfl,pl,ps,al,k,k0,rs,Mo,u,v,Nu,Nv,rfl,⟨pv',upd_same,pairImp hpp fun _ _ z=>z.mono (tups_of sl)⟩,hg.sh,hg.inc,hg.wk,hg.k2,hg.c64,hg.rk,hg.rn,hg.kk,hw.ou,hw.ov,hw.lu,hw.lv,hw.ru,hw.rv,hw.mo,hw.nu,hw.nv,hw.nn,fun t f g ss tt H3 s3 _ _ dU dV hA=>?_⟩
    obtain ⟨rfl,rfl⟩:=d1.det dU
    obtain ⟨rfl,rfl⟩:=d2.det dV
    have hR3:=(hR2.mono sl).mono s3
    rcases hA with ⟨hfg,c,ks,ht,hks,hkl,hwk⟩ | ⟨hfg,ht⟩
    · refine ⟨_,rfl,_,"tuple",_,_,rfl,.tup ht,rfl,_,rfl,iteF ?_⟩
      refine ⟨_,rfl,t,_,rfl,.inr (SqT.of ht),_,_,rfl,rfl,_,rfl,iteF ?_⟩
      refine ⟨_,rfl,t,_,0,_,rfl,rfl,SqT.of ht,rfl,_,"str",_,_,rfl,.str _,rfl,_,rfl,iteF ?_⟩
      refine ⟨_,rfl,_,rfl,rfl,_,rfl,?_⟩
      rw [dec_tx,decide_eq_true hfg]
      refine iteT ?_
      refine ⟨_,rfl,t,_,0,_,rfl,rfl,SqT.of ht,rfl,rfl,_,rfl,?_⟩
      rw [decide_eq_true rfl]
      refine iteF ?_
      refine ⟨_,rfl,t,_,rfl,.inr (SqT.of ht),rfl,_,rfl,iteF ?_⟩
      refine ⟨_,rfl,t,_,1,_,rfl,rfl,SqT.of ht,rfl,c,ks,rfl,hks,_,rfl,iteF ?_⟩
      refine ⟨_,rfl,_,rfl,_,rfl,t,_,1,_,rfl,rfl,SqT.of ht,rfl,pr,ps,u,c,ks,rfl,hR3,hg.sh,by lia,by lia,hks,hkl,?_⟩
      rw [hwk]
      refine ⟨_,rfl,rfl,?_⟩
      show D.rt (.bl (decide (V.str (Sx v) = V.str (Sx v)))) _
      rw [decide_eq_true rfl]
      exact qd _
    · have hnc:¬ clashes rs = []:=fun z=>hfg (hEq z)
      rw [if_neg hnc] at ht
      refine ⟨_,rfl,_,"tuple",_,_,rfl,.tup ht,rfl,_,rfl,iteF ?_⟩
      refine ⟨_,rfl,t,_,rfl,.inr (SqT.of ht),_,_,rfl,rfl,_,rfl,iteF ?_⟩
      refine ⟨_,rfl,t,_,0,_,rfl,rfl,SqT.of ht,rfl,_,"str",_,_,rfl,.str _,rfl,_,rfl,iteF ?_⟩
      refine ⟨_,rfl,_,rfl,rfl,_,rfl,?_⟩
      rw [dec_tx,decide_eq_false hfg]
      refine iteF ?_
      refine ⟨_,rfl,_,rfl,_,rfl,(by show 3 ≤ sizeLine; decide),fun t8 ht8=>?_⟩
      have s8:=same_new ht8 (.tup [.str "open",tx f,tx g])
      exact ⟨_,_,_,rfl,rep3 (s8 _ _ ht),rep3 upd_same,by simp [Dt.size,Dt.sizes],fun H' _=>qd _⟩
  case tailb =>
    obtain ⟨x0,x1,pr,r,ps,rs,al,k,k0,Mo,n,Nu,Nv,u,v,b,x8,x9,x10,rfl,hR,hr',hpl3,hg,hw,hb,hEq,qd⟩:=h
    have n50:=hw.n50
    have l64:=hw.l
    have lu:=hw.lu
    have lv:=hw.lv
    refine ⟨_,rfl,_,rfl,r,rs,al,n,u,rfl,hr',hw.g,by lia,by lia,hw.ou,by lia,hw.ru,fun t1 l1 f1 ss1 H1 s1 ht1 _ d1 _=>?_⟩
    refine ⟨t1,_,0,_,rfl,rfl,SqT.of ht1,rfl,?_⟩
    refine ⟨_,rfl,_,rfl,r,rs,al,n,v,rfl,hr'.mono s1,hw.g,by lia,by lia,hw.ov,by lia,hw.rv,fun t2 l2 f2 ss2 H2 s2 ht2 _ d2 _=>?_⟩
    refine ⟨t2,_,0,_,rfl,rfl,SqT.of ht2,rfl,?_⟩
    have hR2:=(hR.mono s1).mono s2
    refine ⟨_,rfl,_,rfl,?_⟩
    cases b with
    | false=>exact iteF (iteF ⟨_,_,pr,ps,rs,al,k,k0,Mo,n,Nu,Nv,u,v,f1,f2,ss1,ss2,_,_,_,rfl,hR2,hpl3,hg,hw,d1,d2,fun z=>hEq z _ _ _ _ d1 d2,qd⟩)
    | true =>
      have hfg:=hEq (hb.mp rfl) _ _ _ _ d1 d2
      refine iteT ?_
      refine ⟨_,rfl,_,rfl,rfl,_,rfl,?_⟩
      rw [dec_tx,decide_eq_true hfg]
      exact iteF ⟨_,_,pr,ps,rs,al,k,k0,Mo,n,Nu,Nv,u,v,f1,f2,ss1,ss2,_,_,_,rfl,hR2,hpl3,hg,hw,d1,d2,fun z=>hEq z _ _ _ _ d1 d2,qd⟩
  case taila =>
    obtain ⟨a,ns,x1,x,y,b',pr,ps,k,u,v,ks,x6,x7,x8,x9,x10,rfl,hS,hn,hxy,hy,hb',hpm,hrk,hR,ou,lu,lv,hwk0,qd⟩:=h
    obtain ⟨al,hInc,hx',hy',hal,hwk,hk2,hcc,hrank,hal2⟩:=letters_ex hxy hy hb' hpm hrk
    obtain ⟨rs',Mo,hrn,hMo,hpot⟩:=rnd_ex hxy hy hb' hpm hrk
    have hpl3:ps.length ≤ 3:=by rcases hrk with z | z | z <;> lia
    have ou':=over_up hx' hy' ou
    have ov':=wlk_over hwk ks u v hwk0 ou'
    have ru:=rank11 hal ou' (Nat.le_trans lu (by decide))
    have rv:=rank11 hal ov' lv
    have hc2:al.length ≤ 2 ∨ PotOk rs' Mo:=by
      by_cases h1:b' = y ∨ ps.length ≤ 1
      · exact .inl (hal2 h1)
      · exact .inr (hpot (fun z=>h1 (.inl z)) (by have:¬ ps.length ≤ 1:=fun z=>h1 (.inr z); lia))
    refine ⟨_,rfl,_,rfl,pr,ps,al,k,rfl,hR,hInc,hwk,by lia,hcc,hrank,fun t r rs b n H4 s4 ht hr' hG hn50 hrl hdone hrnds=>?_⟩
    have ers:rs = rs':=hrnds.det (rndM_rnds hrn)
    subst ers
    refine ⟨t,_,rfl,SqT.of ht,rfl,_,_,rfl,_,_,rfl,rfl,?_⟩
    have hg:Giv ps rs al k k Mo:=⟨prm_sh hpm,hInc,hwk,hk2,hcc,hrank,hrn,.inl rfl⟩
    obtain ⟨Nu,Nv,hNu,hNv,hNN⟩:=steps10 hG hMo hc2 ou' ov' lu lv
    have hw:Wds rs al u v n Mo Nu Nv:=⟨hG,hn50,hrl,ou',ov',by lia,by lia,ru,rv,hMo,hNu,hNv,hNN⟩
    have hEq:clashes rs = [] → ∀ f g ss tt,Down rs u f ss → Down rs v g tt → f = g:=fun hcl f g ss tt dU dV=>by
      have c:=wlk_cv (rndM_all hrn hInc hwk).2 ks u v hwk0
      have:=cv_nf hG (done_ok hG hcl) c ou'
      rwa [nf_of dU,nf_of dV] at this
    refine ⟨_,rfl,_,rfl,?_⟩
    cases b with
    | false=>exact iteF (iteF ⟨_,_,pr,r,ps,rs,al,k,k,Mo,n,Nu,Nv,u,v,false,_,_,_,rfl,hR.mono s4,hr',hpl3,hg,hw,hdone,hEq,qd⟩)
    | true =>
      have hcl:=hdone.mp rfl
      refine iteT ?_
      refine ⟨_,rfl,a,ns,0,rfl,s4.seq hS,by lia,_,_,rfl,rfl,⟨by decide,by decide⟩,_,_,rfl,rfl,(by show (0:Int) < 2; decide),rfl,_,rfl,?_⟩
      refine ite2 (fun c=>?_) (fun c=>?_)
      · refine ⟨_,_,rfl,rfl,⟨by decide,by decide,by decide⟩,?_⟩
        show gName 3 (V.int ((10:Int) ^ Int.toNat 20)) _ _ _
        rw [big20]
        exact ⟨_,_,pr,r,ps,rs,al,100000000000000000000,k,Mo,n,Nu,Nv,u,v,true,_,_,_,rfl,hR.mono s4,hr',hpl3,⟨hg.sh,hInc,hwk,hk2,hcc,hrank,hrn,.inr ⟨Nat.le_trans hk2 (by decide),hcl⟩⟩,hw,hdone,hEq,qd⟩
      · exact ⟨_,_,pr,r,ps,rs,al,k,k,Mo,n,Nu,Nv,u,v,true,_,_,_,rfl,hR.mono s4,hr',hpl3,hg,hw,hdone,hEq,qd⟩
  refine ⟨_,rfl,a,ns,rfl,hS,by lia,fun x y H1 hxy hx97 hy s1=>?_⟩
  refine ⟨_,rfl,2,rfl,8,rfl,a,_,rfl,s1.seq hS,fun p hp=>?_⟩
  have hcl:(cutI ns (some (2:Int)) (some (8:Int))).length ≤ 6:=cutI_len2 ns 2 8
  refine ⟨_,rfl,p,cutI ns (some 2) (some 8),x,y,rfl,hxy,SqL.of (by rw [upd_same,cutV_map]),by lia,fun pr ps b' H2 _ s2 hR hpl hb' hpm=>?_⟩
  have hps:ps.length ≤ 3:=by lia
  have t2:Same H H2:=s1.trans ((same_new hp _).trans s2)
  obtain ⟨pv',hpv,hpp⟩:=id hR
  have lpv:=pairLen hpp
  refine ⟨_,rfl,a,ns,0,rfl,t2.seq hS,by lia,(by show 4 ≤ sizeLine; decide),fun z hz=>?_⟩
  have sz:=same_new hz (.lst [.int 3,.int 3,.int 2,.int 1])
  obtain ⟨m,k,hat,hm,hk,hrk⟩:=rounds_of (ns.getD 0 0) hps
  refine ⟨_,rfl,pr,pv',rfl,.inl (SqL.of (sz _ _ hpv)),z,_,_,_,rfl,rfl,SqL.of upd_same,by rw [lpv]; exact hat,_,_,rfl,rfl,hm,?_⟩
  show gName 3 (V.int (ns.getD 0 0 % m)) _ _ _
  rw [hk]
  have hRz:=hR.mono sz
  have t3:=t2.trans sz
  generalize upd H2 z (.lst [.int 3,.int 3,.int 2,.int 1]) = H3 at *
  refine ⟨_,rfl,8,rfl,13,rfl,a,_,rfl,t3.seq hS,fun p4 hp4=>?_⟩
  have s4:=same_new hp4 (.lst (cutV (ns.map V.int) (some 8) (some 13)))
  have hc4:(cutI ns (some (8:Int)) (some (13:Int))).length ≤ 5:=cutI_len2 ns 8 13
  refine ⟨_,rfl,p4,cutI ns (some 8) (some 13),x,y,rfl,SqL.of (by rw [upd_same,cutV_map]),by lia,fun H5 s5=>?_⟩
  have t5:=t3.trans (s4.trans s5)
  refine ⟨_,rfl,_,rfl,_,rfl,13,rfl,21,rfl,a,_,rfl,t5.seq hS,fun p6 hp6=>?_⟩
  have s6:=same_new hp6 (.lst (cutV (ns.map V.int) (some 13) (some 21)))
  have hc6:(cutI ns (some (13:Int)) (some (21:Int))).length ≤ 8:=cutI_len2 ns 13 21
  have hR6:=hRz.mono ((s4.trans s5).trans s6)
  have lu:((cutI ns (some 8) (some 13)).map fun (c:Int)=>if c / 3 % 2 = 0 then x else y).length ≤ 5:=by rw [List.length_map]; exact hc4
  refine ⟨pr,ps,_,p6,cutI ns (some 13) (some 21),rfl,hR6,prm_sh hpm,by lia,Nat.le_trans lu (by decide),SqL.of (by rw [upd_same,cutV_map]),by lia,fun t l v ks H7 s7 ht hwk hvl=>?_⟩
  refine ⟨t,_,0,_,rfl,rfl,SqT.of ht,rfl,?_⟩
  have t7:=t5.trans (s6.trans s7)
  exact ⟨a,ns,_,x,y,b',pr,ps,k,_,v,ks,_,_,_,_,_,rfl,t7.seq hS,by lia,hxy,hy,hb',hpm,hrk,hR6.mono s7,spelt_over x y _,lu,hvl,hwk,q⟩
end
end Sg
namespace Sg
open PySem L2
theorem len1 {p:List Value → Prop} (h:∀ x0,p [x0]):∀ us:List Value,us.length = 1 → p us
  | [_],_=>h _
theorem len2 {p:List Value → Prop} (h:∀ x0 x1,p [x0,x1]):∀ us:List Value,us.length = 2 → p us
  | [_,_],_=>h _ _
theorem len3 {p:List Value → Prop} (h:∀ x0 x1 x2,p [x0,x1,x2]):∀ us:List Value,us.length = 3 → p us
  | [_,_,_],_=>h _ _ _
theorem len4 {p:List Value → Prop} (h:∀ x0 x1 x2 x3,p [x0,x1,x2,x3]):∀ us:List Value,us.length = 4 → p us
  | [_,_,_,_],_=>h _ _ _ _
theorem dfn_mk {K:PySem.W.Frag} {h:Heap} {mg:Str → Option Value} {x:Str} {st:Stmt} {ps:List Str} {f:Addr} {oc:Value} {od an:Option Addr} {osl:Array (Option Value)} {kV doc pm cdv ct:Value} (X:K.In h) (G:h.Ns mainGlobals mg)
    (a:PySem.W.nsIn K mainGlobals x = some (some (.ref f))) (l:K.lookup f = some ⟨oc,od,.func (PySem.W.fnOf x x (defArgs st) (defBody st) (defScope st) .none kV doc pm an cdv ct),osl⟩) (c:PySem.W.codeIn K cdv x = true) (k:PySem.W.keepIn K (.ref f) = true)
    (hb:∀ (kV doc pm:Value) (an:Option Addr) (cdv ct:Value) (us:List Value),us.length = ps.length → bindArgs (PySem.W.fnOf x x (defArgs st) (defBody st) (defScope st) .none kV doc pm an cdv ct) ⟨us,[]⟩ = pure (ps.zip us)):Dfn K mg x st ps :=
  ⟨f,_,PySem.W.mg_of X G a,(fun_mk (st:=st) l c k).binds hb,fun_mk (st:=st) l c k⟩
theorem all_mk {l:PySem.W.OpenLaw} {w:World} {K:PySem.W.Frag} {h:Heap} {mg:Str → Option Value} {fa f1 f2 f3 f4 f5 f6 f7 f8 f9 f10 f11 f12 f13 f14 f15 f16 f17 f18 f19 f20 f21 f22 f23 f24 f25 f26 f27 f28 f29 f30 f31 f32 f33 f34 f35 f36 f37 f38 f39 f40 f41 f42 f43 f44 f45 f46 f47 f48 f49:Addr} (X:K.In h) (G:h.Ns mainGlobals mg) (hfa:mg "law" = some (.ref fa))
    {od1 an1 od2 an2 od3 an3 od4 an4 od5 an5 od6 an6 od7 an7 od8 an8 od9 an9 od10 an10 od11 an11 od12 an12 od13 an13 od14 an14 od15 an15 od16 an16 od17 an17 od18 an18 od19 an19 od20 an20 od21 an21 od22 an22 od23 an23 od24 an24 od25 an25 od26 an26 od27 an27 od28 an28 od29 an29 od30 an30 od31 an31 od32 an32 od33 an33 od34 an34 od35 an35 od36 an36 od37 an37 od38 an38 od39 an39 od40 an40 od41 an41 od42 an42 od43 an43 od44 an44 od45 an45 od46 an46 od47 an47 od48 an48 od49 an49:Option Addr} {sl1 sl2 sl3 sl4 sl5 sl6 sl7 sl8 sl9 sl10 sl11 sl12 sl13 sl14 sl15 sl16 sl17 sl18 sl19 sl20 sl21 sl22 sl23 sl24 sl25 sl26 sl27 sl28 sl29 sl30 sl31 sl32 sl33 sl34 sl35 sl36 sl37 sl38 sl39 sl40 sl41 sl42 sl43 sl44 sl45 sl46 sl47 sl48 sl49:Array (Option Value)}
    {oc1 kV1 dc1 pm1 cd1 ct1 oc2 kV2 dc2 pm2 cd2 ct2 oc3 kV3 dc3 pm3 cd3 ct3 oc4 kV4 dc4 pm4 cd4 ct4 oc5 kV5 dc5 pm5 cd5 ct5 oc6 kV6 dc6 pm6 cd6 ct6 oc7 kV7 dc7 pm7 cd7 ct7 oc8 kV8 dc8 pm8 cd8 ct8 oc9 kV9 dc9 pm9 cd9 ct9 oc10 kV10 dc10 pm10 cd10 ct10 oc11 kV11 dc11 pm11 cd11 ct11 oc12 kV12 dc12 pm12 cd12 ct12 oc13 kV13 dc13 pm13 cd13 ct13 oc14 kV14 dc14 pm14 cd14 ct14 oc15 kV15 dc15 pm15 cd15 ct15 oc16 kV16 dc16 pm16 cd16 ct16 oc17 kV17 dc17 pm17 cd17 ct17 oc18 kV18 dc18 pm18 cd18 ct18 oc19 kV19 dc19 pm19 cd19 ct19 oc20 kV20 dc20 pm20 cd20 ct20 oc21 kV21 dc21 pm21 cd21 ct21 oc22 kV22 dc22 pm22 cd22 ct22 oc23 kV23 dc23 pm23 cd23 ct23 oc24 kV24 dc24 pm24 cd24 ct24 oc25 kV25 dc25 pm25 cd25 ct25 oc26 kV26 dc26 pm26 cd26 ct26 oc27 kV27 dc27 pm27 cd27 ct27 oc28 kV28 dc28 pm28 cd28 ct28 oc29 kV29 dc29 pm29 cd29 ct29 oc30 kV30 dc30 pm30 cd30 ct30 oc31 kV31 dc31 pm31 cd31 ct31 oc32 kV32 dc32 pm32 cd32 ct32 oc33 kV33 dc33 pm33 cd33 ct33 oc34 kV34 dc34 pm34 cd34 ct34 oc35 kV35 dc35 pm35 cd35 ct35 oc36 kV36 dc36 pm36 cd36 ct36 oc37 kV37 dc37 pm37 cd37 ct37 oc38 kV38 dc38 pm38 cd38 ct38 oc39 kV39 dc39 pm39 cd39 ct39 oc40 kV40 dc40 pm40 cd40 ct40 oc41 kV41 dc41 pm41 cd41 ct41 oc42 kV42 dc42 pm42 cd42 ct42 oc43 kV43 dc43 pm43 cd43 ct43 oc44 kV44 dc44 pm44 cd44 ct44 oc45 kV45 dc45 pm45 cd45 ct45 oc46 kV46 dc46 pm46 cd46 ct46 oc47 kV47 dc47 pm47 cd47 ct47 oc48 kV48 dc48 pm48 cd48 ct48 oc49 kV49 dc49 pm49 cd49 ct49:Value}
    (a1:PySem.W.nsIn K mainGlobals "before" = some (some (.ref f1))) (l1:K.lookup f1 = some ⟨oc1,od1,.func (PySem.W.fnOf "before" "before" (defArgs sBefore) (defBody sBefore) (defScope sBefore) .none kV1 dc1 pm1 an1 cd1 ct1),sl1⟩) (c1:PySem.W.codeIn K cd1 "before" = true) (k1:PySem.W.keepIn K (.ref f1) = true)
    (a2:PySem.W.nsIn K mainGlobals "stands" = some (some (.ref f2))) (l2:K.lookup f2 = some ⟨oc2,od2,.func (PySem.W.fnOf "stands" "stands" (defArgs sStd) (defBody sStd) (defScope sStd) .none kV2 dc2 pm2 an2 cd2 ct2),sl2⟩) (c2:PySem.W.codeIn K cd2 "stands" = true) (k2:PySem.W.keepIn K (.ref f2) = true)
    (a3:PySem.W.nsIn K mainGlobals "changed" = some (some (.ref f3))) (l3:K.lookup f3 = some ⟨oc3,od3,.func (PySem.W.fnOf "changed" "changed" (defArgs sChg) (defBody sChg) (defScope sChg) .none kV3 dc3 pm3 an3 cd3 ct3),sl3⟩) (c3:PySem.W.codeIn K cd3 "changed" = true) (k3:PySem.W.keepIn K (.ref f3) = true)
    (a4:PySem.W.nsIn K mainGlobals "linked" = some (some (.ref f4))) (l4:K.lookup f4 = some ⟨oc4,od4,.func (PySem.W.fnOf "linked" "linked" (defArgs sLinked) (defBody sLinked) (defScope sLinked) .none kV4 dc4 pm4 an4 cd4 ct4),sl4⟩) (c4:PySem.W.codeIn K cd4 "linked" = true) (k4:PySem.W.keepIn K (.ref f4) = true)
    (a5:PySem.W.nsIn K mainGlobals "turned" = some (some (.ref f5))) (l5:K.lookup f5 = some ⟨oc5,od5,.func (PySem.W.fnOf "turned" "turned" (defArgs sTurned) (defBody sTurned) (defScope sTurned) .none kV5 dc5 pm5 an5 cd5 ct5),sl5⟩) (c5:PySem.W.codeIn K cd5 "turned" = true) (k5:PySem.W.keepIn K (.ref f5) = true)
    (a6:PySem.W.nsIn K mainGlobals "moved" = some (some (.ref f6))) (l6:K.lookup f6 = some ⟨oc6,od6,.func (PySem.W.fnOf "moved" "moved" (defArgs sMoved) (defBody sMoved) (defScope sMoved) .none kV6 dc6 pm6 an6 cd6 ct6),sl6⟩) (c6:PySem.W.codeIn K cd6 "moved" = true) (k6:PySem.W.keepIn K (.ref f6) = true)
    (a7:PySem.W.nsIn K mainGlobals "words_along" = some (some (.ref f7))) (l7:K.lookup f7 = some ⟨oc7,od7,.func (PySem.W.fnOf "words_along" "words_along" (defArgs s_words_along) (defBody s_words_along) (defScope s_words_along) .none kV7 dc7 pm7 an7 cd7 ct7),sl7⟩) (c7:PySem.W.codeIn K cd7 "words_along" = true) (k7:PySem.W.keepIn K (.ref f7) = true)
    (a8:PySem.W.nsIn K mainGlobals "shortened" = some (some (.ref f8))) (l8:K.lookup f8 = some ⟨oc8,od8,.func (PySem.W.fnOf "shortened" "shortened" (defArgs s_shortened) (defBody s_shortened) (defScope s_shortened) .none kV8 dc8 pm8 an8 cd8 ct8),sl8⟩) (c8:PySem.W.codeIn K cd8 "shortened" = true) (k8:PySem.W.keepIn K (.ref f8) = true)
    (a9:PySem.W.nsIn K mainGlobals "fits" = some (some (.ref f9))) (l9:K.lookup f9 = some ⟨oc9,od9,.func (PySem.W.fnOf "fits" "fits" (defArgs sFits) (defBody sFits) (defScope sFits) .none kV9 dc9 pm9 an9 cd9 ct9),sl9⟩) (c9:PySem.W.codeIn K cd9 "fits" = true) (k9:PySem.W.keepIn K (.ref f9) = true)
    (a10:PySem.W.nsIn K mainGlobals "places_of" = some (some (.ref f10))) (l10:K.lookup f10 = some ⟨oc10,od10,.func (PySem.W.fnOf "places_of" "places_of" (defArgs sPlaces) (defBody sPlaces) (defScope sPlaces) .none kV10 dc10 pm10 an10 cd10 ct10),sl10⟩) (c10:PySem.W.codeIn K cd10 "places_of" = true) (k10:PySem.W.keepIn K (.ref f10) = true)
    (a11:PySem.W.nsIn K mainGlobals "overlaps" = some (some (.ref f11))) (l11:K.lookup f11 = some ⟨oc11,od11,.func (PySem.W.fnOf "overlaps" "overlaps" (defArgs sOverlaps) (defBody sOverlaps) (defScope sOverlaps) .none kV11 dc11 pm11 an11 cd11 ct11),sl11⟩) (c11:PySem.W.codeIn K cd11 "overlaps" = true) (k11:PySem.W.keepIn K (.ref f11) = true)
    (a12:PySem.W.nsIn K mainGlobals "numbers_at" = some (some (.ref f12))) (l12:K.lookup f12 = some ⟨oc12,od12,.func (PySem.W.fnOf "numbers_at" "numbers_at" (defArgs sNums) (defBody sNums) (defScope sNums) .none kV12 dc12 pm12 an12 cd12 ct12),sl12⟩) (c12:PySem.W.codeIn K cd12 "numbers_at" = true) (k12:PySem.W.keepIn K (.ref f12) = true)
    (a13:PySem.W.nsIn K mainGlobals "step" = some (some (.ref f13))) (l13:K.lookup f13 = some ⟨oc13,od13,.func (PySem.W.fnOf "step" "step" (defArgs sStep) (defBody sStep) (defScope sStep) .none kV13 dc13 pm13 an13 cd13 ct13),sl13⟩) (c13:PySem.W.codeIn K cd13 "step" = true) (k13:PySem.W.keepIn K (.ref f13) = true)
    (a14:PySem.W.nsIn K mainGlobals "first_step" = some (some (.ref f14))) (l14:K.lookup f14 = some ⟨oc14,od14,.func (PySem.W.fnOf "first_step" "first_step" (defArgs sFirst) (defBody sFirst) (defScope sFirst) .none kV14 dc14 pm14 an14 cd14 ct14),sl14⟩) (c14:PySem.W.codeIn K cd14 "first_step" = true) (k14:PySem.W.keepIn K (.ref f14) = true)
    (a15:PySem.W.nsIn K mainGlobals "ground" = some (some (.ref f15))) (l15:K.lookup f15 = some ⟨oc15,od15,.func (PySem.W.fnOf "ground" "ground" (defArgs sGround) (defBody sGround) (defScope sGround) .none kV15 dc15 pm15 an15 cd15 ct15),sl15⟩) (c15:PySem.W.codeIn K cd15 "ground" = true) (k15:PySem.W.keepIn K (.ref f15) = true)
    (a16:PySem.W.nsIn K mainGlobals "words_behind" = some (some (.ref f16))) (l16:K.lookup f16 = some ⟨oc16,od16,.func (PySem.W.fnOf "words_behind" "words_behind" (defArgs sWBeh) (defBody sWBeh) (defScope sWBeh) .none kV16 dc16 pm16 an16 cd16 ct16),sl16⟩) (c16:PySem.W.codeIn K cd16 "words_behind" = true) (k16:PySem.W.keepIn K (.ref f16) = true)
    (a17:PySem.W.nsIn K mainGlobals "clashes" = some (some (.ref f17))) (l17:K.lookup f17 = some ⟨oc17,od17,.func (PySem.W.fnOf "clashes" "clashes" (defArgs sClashP) (defBody sClashP) (defScope sClashP) .none kV17 dc17 pm17 an17 cd17 ct17),sl17⟩) (c17:PySem.W.codeIn K cd17 "clashes" = true) (k17:PySem.W.keepIn K (.ref f17) = true)
    (a18:PySem.W.nsIn K mainGlobals "equations_of" = some (some (.ref f18))) (l18:K.lookup f18 = some ⟨oc18,od18,.func (PySem.W.fnOf "equations_of" "equations_of" (defArgs sEqsOf) (defBody sEqsOf) (defScope sEqsOf) .none kV18 dc18 pm18 an18 cd18 ct18),sl18⟩) (c18:PySem.W.codeIn K cd18 "equations_of" = true) (k18:PySem.W.keepIn K (.ref f18) = true)
    (a19:PySem.W.nsIn K mainGlobals "rules_of" = some (some (.ref f19))) (l19:K.lookup f19 = some ⟨oc19,od19,.func (PySem.W.fnOf "rules_of" "rules_of" (defArgs sRulesOf) (defBody sRulesOf) (defScope sRulesOf) .none kV19 dc19 pm19 an19 cd19 ct19),sl19⟩) (c19:PySem.W.codeIn K cd19 "rules_of" = true) (k19:PySem.W.keepIn K (.ref f19) = true)
    (a20:PySem.W.nsIn K mainGlobals "ground_with_chain" = some (some (.ref f20))) (l20:K.lookup f20 = some ⟨oc20,od20,.func (PySem.W.fnOf "ground_with_chain" "ground_with_chain" (defArgs sGWC) (defBody sGWC) (defScope sGWC) .none kV20 dc20 pm20 an20 cd20 ct20),sl20⟩) (c20:PySem.W.codeIn K cd20 "ground_with_chain" = true) (k20:PySem.W.keepIn K (.ref f20) = true)
    (a21:PySem.W.nsIn K mainGlobals "both_ground" = some (some (.ref f21))) (l21:K.lookup f21 = some ⟨oc21,od21,.func (PySem.W.fnOf "both_ground" "both_ground" (defArgs sBothG) (defBody sBothG) (defScope sBothG) .none kV21 dc21 pm21 an21 cd21 ct21),sl21⟩) (c21:PySem.W.codeIn K cd21 "both_ground" = true) (k21:PySem.W.keepIn K (.ref f21) = true)
    (a22:PySem.W.nsIn K mainGlobals "right_ground" = some (some (.ref f22))) (l22:K.lookup f22 = some ⟨oc22,od22,.func (PySem.W.fnOf "right_ground" "right_ground" (defArgs sRightG) (defBody sRightG) (defScope sRightG) .none kV22 dc22 pm22 an22 cd22 ct22),sl22⟩) (c22:PySem.W.codeIn K cd22 "right_ground" = true) (k22:PySem.W.keepIn K (.ref f22) = true)
    (a23:PySem.W.nsIn K mainGlobals "later_first" = some (some (.ref f23))) (l23:K.lookup f23 = some ⟨oc23,od23,.func (PySem.W.fnOf "later_first" "later_first" (defArgs sLater) (defBody sLater) (defScope sLater) .none kV23 dc23 pm23 an23 cd23 ct23),sl23⟩) (c23:PySem.W.codeIn K cd23 "later_first" = true) (k23:PySem.W.keepIn K (.ref f23) = true)
    (a24:PySem.W.nsIn K mainGlobals "put_in" = some (some (.ref f24))) (l24:K.lookup f24 = some ⟨oc24,od24,.func (PySem.W.fnOf "put_in" "put_in" (defArgs sPutIn) (defBody sPutIn) (defScope sPutIn) .none kV24 dc24 pm24 an24 cd24 ct24),sl24⟩) (c24:PySem.W.codeIn K cd24 "put_in" = true) (k24:PySem.W.keepIn K (.ref f24) = true)
    (a25:PySem.W.nsIn K mainGlobals "settled" = some (some (.ref f25))) (l25:K.lookup f25 = some ⟨oc25,od25,.func (PySem.W.fnOf "settled" "settled" (defArgs sSettledP) (defBody sSettledP) (defScope sSettledP) .none kV25 dc25 pm25 an25 cd25 ct25),sl25⟩) (c25:PySem.W.codeIn K cd25 "settled" = true) (k25:PySem.W.keepIn K (.ref f25) = true)
    (a26:PySem.W.nsIn K mainGlobals "clashing" = some (some (.ref f26))) (l26:K.lookup f26 = some ⟨oc26,od26,.func (PySem.W.fnOf "clashing" "clashing" (defArgs s_clashing) (defBody s_clashing) (defScope s_clashing) .none kV26 dc26 pm26 an26 cd26 ct26),sl26⟩) (c26:PySem.W.codeIn K cd26 "clashing" = true) (k26:PySem.W.keepIn K (.ref f26) = true)
    (a27:PySem.W.nsIn K mainGlobals "equation_behind" = some (some (.ref f27))) (l27:K.lookup f27 = some ⟨oc27,od27,.func (PySem.W.fnOf "equation_behind" "equation_behind" (defArgs s_equation_behind) (defBody s_equation_behind) (defScope s_equation_behind) .none kV27 dc27 pm27 an27 cd27 ct27),sl27⟩) (c27:PySem.W.codeIn K cd27 "equation_behind" = true) (k27:PySem.W.keepIn K (.ref f27) = true)
    (a28:PySem.W.nsIn K mainGlobals "settled_shortly" = some (some (.ref f28))) (l28:K.lookup f28 = some ⟨oc28,od28,.func (PySem.W.fnOf "settled_shortly" "settled_shortly" (defArgs s_settled_shortly) (defBody s_settled_shortly) (defScope s_settled_shortly) .none kV28 dc28 pm28 an28 cd28 ct28),sl28⟩) (c28:PySem.W.codeIn K cd28 "settled_shortly" = true) (k28:PySem.W.keepIn K (.ref f28) = true)
    (a29:PySem.W.nsIn K mainGlobals "rounds_done" = some (some (.ref f29))) (l29:K.lookup f29 = some ⟨oc29,od29,.func (PySem.W.fnOf "rounds_done" "rounds_done" (defArgs s_rounds_done) (defBody s_rounds_done) (defScope s_rounds_done) .none kV29 dc29 pm29 an29 cd29 ct29),sl29⟩) (c29:PySem.W.codeIn K cd29 "rounds_done" = true) (k29:PySem.W.keepIn K (.ref f29) = true)
    (a30:PySem.W.nsIn K mainGlobals "asked" = some (some (.ref f30))) (l30:K.lookup f30 = some ⟨oc30,od30,.func (PySem.W.fnOf "asked" "asked" (defArgs sAsked) (defBody sAsked) (defScope sAsked) .none kV30 dc30 pm30 an30 cd30 ct30),sl30⟩) (c30:PySem.W.codeIn K cd30 "asked" = true) (k30:PySem.W.keepIn K (.ref f30) = true)
    (a31:PySem.W.nsIn K mainGlobals "_law_whole" = some (some (.ref f31))) (l31:K.lookup f31 = some ⟨oc31,od31,.func (PySem.W.fnOf "_law_whole" "_law_whole" (defArgs sWhole) (defBody sWhole) (defScope sWhole) .none kV31 dc31 pm31 an31 cd31 ct31),sl31⟩) (c31:PySem.W.codeIn K cd31 "_law_whole" = true) (k31:PySem.W.keepIn K (.ref f31) = true)
    (a32:PySem.W.nsIn K mainGlobals "_law_at" = some (some (.ref f32))) (l32:K.lookup f32 = some ⟨oc32,od32,.func (PySem.W.fnOf "_law_at" "_law_at" (defArgs sAt) (defBody sAt) (defScope sAt) .none kV32 dc32 pm32 an32 cd32 ct32),sl32⟩) (c32:PySem.W.codeIn K cd32 "_law_at" = true) (k32:PySem.W.keepIn K (.ref f32) = true)
    (a33:PySem.W.nsIn K mainGlobals "_law_paired" = some (some (.ref f33))) (l33:K.lookup f33 = some ⟨oc33,od33,.func (PySem.W.fnOf "_law_paired" "_law_paired" (defArgs sPaired) (defBody sPaired) (defScope sPaired) .none kV33 dc33 pm33 an33 cd33 ct33),sl33⟩) (c33:PySem.W.codeIn K cd33 "_law_paired" = true) (k33:PySem.W.keepIn K (.ref f33) = true)
    (a34:PySem.W.nsIn K mainGlobals "_law_sooner" = some (some (.ref f34))) (l34:K.lookup f34 = some ⟨oc34,od34,.func (PySem.W.fnOf "_law_sooner" "_law_sooner" (defArgs sSooner) (defBody sSooner) (defScope sSooner) .none kV34 dc34 pm34 an34 cd34 ct34),sl34⟩) (c34:PySem.W.codeIn K cd34 "_law_sooner" = true) (k34:PySem.W.keepIn K (.ref f34) = true)
    (a35:PySem.W.nsIn K mainGlobals "_law_spelt" = some (some (.ref f35))) (l35:K.lookup f35 = some ⟨oc35,od35,.func (PySem.W.fnOf "_law_spelt" "_law_spelt" (defArgs sSpelt) (defBody sSpelt) (defScope sSpelt) .none kV35 dc35 pm35 an35 cd35 ct35),sl35⟩) (c35:PySem.W.codeIn K cd35 "_law_spelt" = true) (k35:PySem.W.keepIn K (.ref f35) = true)
    (a36:PySem.W.nsIn K mainGlobals "_law_first_place" = some (some (.ref f36))) (l36:K.lookup f36 = some ⟨oc36,od36,.func (PySem.W.fnOf "_law_first_place" "_law_first_place" (defArgs sFPl) (defBody sFPl) (defScope sFPl) .none kV36 dc36 pm36 an36 cd36 ct36),sl36⟩) (c36:PySem.W.codeIn K cd36 "_law_first_place" = true) (k36:PySem.W.keepIn K (.ref f36) = true)
    (a37:PySem.W.nsIn K mainGlobals "_law_down" = some (some (.ref f37))) (l37:K.lookup f37 = some ⟨oc37,od37,.func (PySem.W.fnOf "_law_down" "_law_down" (defArgs sDown) (defBody sDown) (defScope sDown) .none kV37 dc37 pm37 an37 cd37 ct37),sl37⟩) (c37:PySem.W.codeIn K cd37 "_law_down" = true) (k37:PySem.W.keepIn K (.ref f37) = true)
    (a38:PySem.W.nsIn K mainGlobals "_law_over" = some (some (.ref f38))) (l38:K.lookup f38 = some ⟨oc38,od38,.func (PySem.W.fnOf "_law_over" "_law_over" (defArgs sOver) (defBody sOver) (defScope sOver) .none kV38 dc38 pm38 an38 cd38 ct38),sl38⟩) (c38:PySem.W.codeIn K cd38 "_law_over" = true) (k38:PySem.W.keepIn K (.ref f38) = true)
    (a39:PySem.W.nsIn K mainGlobals "_law_clashing" = some (some (.ref f39))) (l39:K.lookup f39 = some ⟨oc39,od39,.func (PySem.W.fnOf "_law_clashing" "_law_clashing" (defArgs sClash) (defBody sClash) (defScope sClash) .none kV39 dc39 pm39 an39 cd39 ct39),sl39⟩) (c39:PySem.W.codeIn K cd39 "_law_clashing" = true) (k39:PySem.W.keepIn K (.ref f39) = true)
    (a40:PySem.W.nsIn K mainGlobals "_law_settled" = some (some (.ref f40))) (l40:K.lookup f40 = some ⟨oc40,od40,.func (PySem.W.fnOf "_law_settled" "_law_settled" (defArgs sSettled) (defBody sSettled) (defScope sSettled) .none kV40 dc40 pm40 an40 cd40 ct40),sl40⟩) (c40:PySem.W.codeIn K cd40 "_law_settled" = true) (k40:PySem.W.keepIn K (.ref f40) = true)
    (a41:PySem.W.nsIn K mainGlobals "_law_in_rounds" = some (some (.ref f41))) (l41:K.lookup f41 = some ⟨oc41,od41,.func (PySem.W.fnOf "_law_in_rounds" "_law_in_rounds" (defArgs sRounds) (defBody sRounds) (defScope sRounds) .none kV41 dc41 pm41 an41 cd41 ct41),sl41⟩) (c41:PySem.W.codeIn K cd41 "_law_in_rounds" = true) (k41:PySem.W.keepIn K (.ref f41) = true)
    (a42:PySem.W.nsIn K mainGlobals "_law_gone" = some (some (.ref f42))) (l42:K.lookup f42 = some ⟨oc42,od42,.func (PySem.W.fnOf "_law_gone" "_law_gone" (defArgs sGone) (defBody sGone) (defScope sGone) .none kV42 dc42 pm42 an42 cd42 ct42),sl42⟩) (c42:PySem.W.codeIn K cd42 "_law_gone" = true) (k42:PySem.W.keepIn K (.ref f42) = true)
    (a43:PySem.W.nsIn K mainGlobals "_law_is_chain" = some (some (.ref f43))) (l43:K.lookup f43 = some ⟨oc43,od43,.func (PySem.W.fnOf "_law_is_chain" "_law_is_chain" (defArgs sIsChain) (defBody sIsChain) (defScope sIsChain) .none kV43 dc43 pm43 an43 cd43 ct43),sl43⟩) (c43:PySem.W.codeIn K cd43 "_law_is_chain" = true) (k43:PySem.W.keepIn K (.ref f43) = true)
    (a44:PySem.W.nsIn K mainGlobals "_law_links_of" = some (some (.ref f44))) (l44:K.lookup f44 = some ⟨oc44,od44,.func (PySem.W.fnOf "_law_links_of" "_law_links_of" (defArgs sLinks) (defBody sLinks) (defScope sLinks) .none kV44 dc44 pm44 an44 cd44 ct44),sl44⟩) (c44:PySem.W.codeIn K cd44 "_law_links_of" = true) (k44:PySem.W.keepIn K (.ref f44) = true)
    (a45:PySem.W.nsIn K mainGlobals "_law_wandered" = some (some (.ref f45))) (l45:K.lookup f45 = some ⟨oc45,od45,.func (PySem.W.fnOf "_law_wandered" "_law_wandered" (defArgs sWander) (defBody sWander) (defScope sWander) .none kV45 dc45 pm45 an45 cd45 ct45),sl45⟩) (c45:PySem.W.codeIn K cd45 "_law_wandered" = true) (k45:PySem.W.keepIn K (.ref f45) = true)
    (a46:PySem.W.nsIn K mainGlobals "_law_in_letters" = some (some (.ref f46))) (l46:K.lookup f46 = some ⟨oc46,od46,.func (PySem.W.fnOf "_law_in_letters" "_law_in_letters" (defArgs sLetters) (defBody sLetters) (defScope sLetters) .none kV46 dc46 pm46 an46 cd46 ct46),sl46⟩) (c46:PySem.W.codeIn K cd46 "_law_in_letters" = true) (k46:PySem.W.keepIn K (.ref f46) = true)
    (a47:PySem.W.nsIn K mainGlobals "_law_letter_pair" = some (some (.ref f47))) (l47:K.lookup f47 = some ⟨oc47,od47,.func (PySem.W.fnOf "_law_letter_pair" "_law_letter_pair" (defArgs sPair) (defBody sPair) (defScope sPair) .none kV47 dc47 pm47 an47 cd47 ct47),sl47⟩) (c47:PySem.W.codeIn K cd47 "_law_letter_pair" = true) (k47:PySem.W.keepIn K (.ref f47) = true)
    (a48:PySem.W.nsIn K mainGlobals "_law_so" = some (some (.ref f48))) (l48:K.lookup f48 = some ⟨oc48,od48,.func (PySem.W.fnOf "_law_so" "_law_so" (defArgs sSo) (defBody sSo) (defScope sSo) .none kV48 dc48 pm48 an48 cd48 ct48),sl48⟩) (c48:PySem.W.codeIn K cd48 "_law_so" = true) (k48:PySem.W.keepIn K (.ref f48) = true)
    (a49:PySem.W.nsIn K mainGlobals "law" = some (some (.ref f49))) (l49:K.lookup f49 = some ⟨oc49,od49,.func (PySem.W.fnOf "law" "law" (defArgs sLaw) (defBody sLaw) (defScope sLaw) .none kV49 dc49 pm49 an49 cd49 ct49),sl49⟩) (c49:PySem.W.codeIn K cd49 "law" = true) (k49:PySem.W.keepIn K (.ref f49) = true)
    (z1:PySem.W.nsIn K mainGlobals "len" = some none)
    (z2:PySem.W.nsIn K mainGlobals "range" = some none)
    (z3:PySem.W.nsIn K mainGlobals "enumerate" = some none)
    (z4:PySem.W.nsIn K mainGlobals "max" = some none)
    (z5:PySem.W.nsIn K mainGlobals "int" = some none)
    (z6:PySem.W.nsIn K mainGlobals "isinstance" = some none)
    (z7:PySem.W.nsIn K mainGlobals "list" = some none)
    (z8:PySem.W.nsIn K mainGlobals "tuple" = some none)
    (z9:PySem.W.nsIn K mainGlobals "str" = some none)
    (z10:PySem.W.nsIn K mainGlobals "bool" = some none)
    (y1:PySem.W.nsIn K mainGlobals "reversed" = some none)
    (y2:PySem.W.nsIn K cStatics sharingNotToldKey = some none)
    (y3:PySem.W.nsIn K mainGlobals "min" = some none)
    (y4:PySem.W.nsIn K mainGlobals "sorted" = some none)
    :
    ∃ fd:FuncData,(∀ (s:Shared) (v:Value),BindsTo s fd ⟨[v],[]⟩ [("_law_script",v)]) ∧ ∀ base:Heap,K.In base → base.Ns mainGlobals mg → FnOk l.prog w K mg base CX0 10 fa fd ["_law_script"] (spLaw K):=by
  have e:=hfa.symm.trans (PySem.W.mg_of X G a49)
  cases e
  have D1:Dfn K mg "before" sBefore ["one","other"]:=dfn_mk X G a1 l1 c1 k1 fun _ _ _ _ _ _=>len2 fun _ _=>rfl
  have D2:Dfn K mg "stands" sStd ["part","word","place"]:=dfn_mk X G a2 l2 c2 k2 fun _ _ _ _ _ _=>len3 fun _ _ _=>rfl
  have D3:Dfn K mg "changed" sChg ["word","place","old","new"]:=dfn_mk X G a3 l3 c3 k3 fun _ _ _ _ _ _=>len4 fun _ _ _ _=>rfl
  have D4:Dfn K mg "linked" sLinked ["pairs","word","link"]:=dfn_mk X G a4 l4 c4 k4 fun _ _ _ _ _ _=>len3 fun _ _ _=>rfl
  have D5:Dfn K mg "turned" sTurned ["chain"]:=dfn_mk X G a5 l5 c5 k5 fun _ _ _ _ _ _=>len1 fun _=>rfl
  have D6:Dfn K mg "moved" sMoved ["chain","places"]:=dfn_mk X G a6 l6 c6 k6 fun _ _ _ _ _ _=>len2 fun _ _=>rfl
  have D7:Dfn K mg "words_along" s_words_along ["pairs","word","chain"]:=dfn_mk X G a7 l7 c7 k7 fun _ _ _ _ _ _=>len3 fun _ _ _=>rfl
  have D8:Dfn K mg "shortened" s_shortened ["pairs","word","chain"]:=dfn_mk X G a8 l8 c8 k8 fun _ _ _ _ _ _=>len3 fun _ _ _=>rfl
  have D9:Dfn K mg "fits" sFits ["one","other","place"]:=dfn_mk X G a9 l9 c9 k9 fun _ _ _ _ _ _=>len3 fun _ _ _=>rfl
  have D10:Dfn K mg "places_of" sPlaces ["one","other","start"]:=dfn_mk X G a10 l10 c10 k10 fun _ _ _ _ _ _=>len3 fun _ _ _=>rfl
  have D11:Dfn K mg "overlaps" sOverlaps ["rules"]:=dfn_mk X G a11 l11 c11 k11 fun _ _ _ _ _ _=>len1 fun _=>rfl
  have D12:Dfn K mg "numbers_at" sNums ["rules","word","place"]:=dfn_mk X G a12 l12 c12 k12 fun _ _ _ _ _ _=>len3 fun _ _ _=>rfl
  have D13:Dfn K mg "step" sStep ["rules","word","place","number"]:=dfn_mk X G a13 l13 c13 k13 fun _ _ _ _ _ _=>len4 fun _ _ _ _=>rfl
  have D14:Dfn K mg "first_step" sFirst ["rules","word","start"]:=dfn_mk X G a14 l14 c14 k14 fun _ _ _ _ _ _=>len3 fun _ _ _=>rfl
  have D15:Dfn K mg "ground" sGround ["rules","word"]:=dfn_mk X G a15 l15 c15 k15 fun _ _ _ _ _ _=>len2 fun _ _=>rfl
  have D16:Dfn K mg "words_behind" sWBeh ["rules","overlap"]:=dfn_mk X G a16 l16 c16 k16 fun _ _ _ _ _ _=>len2 fun _ _=>rfl
  have D17:Dfn K mg "clashes" sClashP ["rules","overlap"]:=dfn_mk X G a17 l17 c17 k17 fun _ _ _ _ _ _=>len2 fun _ _=>rfl
  have D18:Dfn K mg "equations_of" sEqsOf ["pairs"]:=dfn_mk X G a18 l18 c18 k18 fun _ _ _ _ _ _=>len1 fun _=>rfl
  have D19:Dfn K mg "rules_of" sRulesOf ["equations"]:=dfn_mk X G a19 l19 c19 k19 fun _ _ _ _ _ _=>len1 fun _=>rfl
  have D20:Dfn K mg "ground_with_chain" sGWC ["equations","word"]:=dfn_mk X G a20 l20 c20 k20 fun _ _ _ _ _ _=>len2 fun _ _=>rfl
  have D21:Dfn K mg "both_ground" sBothG ["kept","equation"]:=dfn_mk X G a21 l21 c21 k21 fun _ _ _ _ _ _=>len2 fun _ _=>rfl
  have D22:Dfn K mg "right_ground" sRightG ["kept","equation"]:=dfn_mk X G a22 l22 c22 k22 fun _ _ _ _ _ _=>len2 fun _ _=>rfl
  have D23:Dfn K mg "later_first" sLater ["equation"]:=dfn_mk X G a23 l23 c23 k23 fun _ _ _ _ _ _=>len1 fun _=>rfl
  have D24:Dfn K mg "put_in" sPutIn ["kept","equation"]:=dfn_mk X G a24 l24 c24 k24 fun _ _ _ _ _ _=>len2 fun _ _=>rfl
  have D25:Dfn K mg "settled" sSettledP ["equations"]:=dfn_mk X G a25 l25 c25 k25 fun _ _ _ _ _ _=>len1 fun _=>rfl
  have D26:Dfn K mg "clashing" s_clashing ["equations"]:=dfn_mk X G a26 l26 c26 k26 fun _ _ _ _ _ _=>len1 fun _=>rfl
  have D27:Dfn K mg "equation_behind" s_equation_behind ["equations","overlap"]:=dfn_mk X G a27 l27 c27 k27 fun _ _ _ _ _ _=>len2 fun _ _=>rfl
  have D28:Dfn K mg "settled_shortly" s_settled_shortly ["pairs","equations"]:=dfn_mk X G a28 l28 c28 k28 fun _ _ _ _ _ _=>len2 fun _ _=>rfl
  have D29:Dfn K mg "rounds_done" s_rounds_done ["pairs","rounds"]:=dfn_mk X G a29 l29 c29 k29 fun _ _ _ _ _ _=>len2 fun _ _=>rfl
  have D30:Dfn K mg "asked" sAsked ["pairs","rounds","one","other"]:=dfn_mk X G a30 l30 c30 k30 fun _ _ _ _ _ _=>len4 fun _ _ _ _=>rfl
  have D31:Dfn K mg "_law_whole" sWhole ["_law_found"]:=dfn_mk X G a31 l31 c31 k31 fun _ _ _ _ _ _=>len1 fun _=>rfl
  have D32:Dfn K mg "_law_at" sAt ["_law_script","_law_k"]:=dfn_mk X G a32 l32 c32 k32 fun _ _ _ _ _ _=>len2 fun _ _=>rfl
  have D33:Dfn K mg "_law_paired" sPaired ["_law_cells","_law_two"]:=dfn_mk X G a33 l33 c33 k33 fun _ _ _ _ _ _=>len2 fun _ _=>rfl
  have D34:Dfn K mg "_law_sooner" sSooner ["_law_one","_law_other"]:=dfn_mk X G a34 l34 c34 k34 fun _ _ _ _ _ _=>len2 fun _ _=>rfl
  have D35:Dfn K mg "_law_spelt" sSpelt ["_law_cells","_law_two"]:=dfn_mk X G a35 l35 c35 k35 fun _ _ _ _ _ _=>len2 fun _ _=>rfl
  have D36:Dfn K mg "_law_first_place" sFPl ["_law_rules","_law_word"]:=dfn_mk X G a36 l36 c36 k36 fun _ _ _ _ _ _=>len2 fun _ _=>rfl
  have D37:Dfn K mg "_law_down" sDown ["_law_rules","_law_word"]:=dfn_mk X G a37 l37 c37 k37 fun _ _ _ _ _ _=>len2 fun _ _=>rfl
  have D38:Dfn K mg "_law_over" sOver ["_law_rules"]:=dfn_mk X G a38 l38 c38 k38 fun _ _ _ _ _ _=>len1 fun _=>rfl
  have D39:Dfn K mg "_law_clashing" sClash ["_law_rules"]:=dfn_mk X G a39 l39 c39 k39 fun _ _ _ _ _ _=>len1 fun _=>rfl
  have D40:Dfn K mg "_law_settled" sSettled ["_law_pairs"]:=dfn_mk X G a40 l40 c40 k40 fun _ _ _ _ _ _=>len1 fun _=>rfl
  have D41:Dfn K mg "_law_in_rounds" sRounds ["_law_pairs","_law_rounds"]:=dfn_mk X G a41 l41 c41 k41 fun _ _ _ _ _ _=>len2 fun _ _=>rfl
  have D42:Dfn K mg "_law_gone" sGone ["_law_pairs","_law_word","_law_chain"]:=dfn_mk X G a42 l42 c42 k42 fun _ _ _ _ _ _=>len3 fun _ _ _=>rfl
  have D43:Dfn K mg "_law_is_chain" sIsChain ["_law_found"]:=dfn_mk X G a43 l43 c43 k43 fun _ _ _ _ _ _=>len1 fun _=>rfl
  have D44:Dfn K mg "_law_links_of" sLinks ["_law_pairs","_law_word"]:=dfn_mk X G a44 l44 c44 k44 fun _ _ _ _ _ _=>len2 fun _ _=>rfl
  have D45:Dfn K mg "_law_wandered" sWander ["_law_pairs","_law_word","_law_cells"]:=dfn_mk X G a45 l45 c45 k45 fun _ _ _ _ _ _=>len3 fun _ _ _=>rfl
  have D46:Dfn K mg "_law_in_letters" sLetters ["_law_word","_law_two"]:=dfn_mk X G a46 l46 c46 k46 fun _ _ _ _ _ _=>len2 fun _ _=>rfl
  have D47:Dfn K mg "_law_letter_pair" sPair ["_law_script"]:=dfn_mk X G a47 l47 c47 k47 fun _ _ _ _ _ _=>len1 fun _=>rfl
  have D48:Dfn K mg "_law_so" sSo ["_law_found","_law_due"]:=dfn_mk X G a48 l48 c48 k48 fun _ _ _ _ _ _=>len2 fun _ _=>rfl
  have D49:Dfn K mg "law" sLaw ["_law_script"]:=dfn_mk X G a49 l49 c49 k49 fun _ _ _ _ _ _=>len1 fun _=>rfl
  have B:Blt mg:=⟨PySem.W.mg_none_of X G z1,PySem.W.mg_none_of X G z2,PySem.W.mg_none_of X G z3,PySem.W.mg_none_of X G z4,PySem.W.mg_none_of X G z5,PySem.W.mg_none_of X G z6,PySem.W.mg_none_of X G z7,PySem.W.mg_none_of X G z8,PySem.W.mg_none_of X G z9,PySem.W.mg_none_of X G z10⟩
  refine ⟨PySem.W.fnOf "law" "law" (defArgs sLaw) (defBody sLaw) (defScope sLaw) .none kV49 dc49 pm49 an49 cd49 ct49,fun s v=>.of_eq rfl,fun base _ _=>?_⟩
  have oBf:=ok_before (P:=l.prog) (w:=w) (base:=base) D1 B
  have oSt:=ok_std (P:=l.prog) (w:=w) (base:=base) D2 B
  have oCh:=ok_chg (P:=l.prog) (w:=w) (base:=base) D3 B
  have oStB:=ok_stdB (P:=l.prog) (w:=w) (base:=base) D2 B
  have oChB:=ok_chgB (P:=l.prog) (w:=w) (base:=base) D3 B
  have oLk:=ok_linked0 (P:=l.prog) (w:=w) (base:=base) D4 B oStB oChB
  have oTu:=ok_turned (P:=l.prog) (w:=w) (base:=base) D5 (PySem.W.mg_none_of X G y1)
  have oMv:=ok_moved (P:=l.prog) (w:=w) (base:=base) D6
  have oAl:=ok_along (P:=l.prog) (w:=w) (base:=base) D7 oLk
  have oSh:=ok_short (P:=l.prog) (w:=w) (base:=base) D8 B oAl
  have oOv:=ok_overlaps (P:=l.prog) (w:=w) (base:=base) D11 B (ok_places D10 B (ok_fits D9))
  have oSp:=ok_step (P:=l.prog) (w:=w) (base:=base) D13 oSt oCh
  have oGr:=ok_ground (P:=l.prog) (w:=w) (base:=base) D15 B (ok_first D14 B (ok_nums D12 B)) oSp
  have oWb:=ok_wbeh (P:=l.prog) (w:=w) (base:=base) D16 oSp
  have oCl:=ok_clsP (P:=l.prog) (w:=w) (base:=base) D17 oWb oGr
  have oEq:=ok_eqsOf (P:=l.prog) (w:=w) (base:=base) D18 B
  have oRo:=ok_rulesOf (P:=l.prog) (w:=w) (base:=base) D19
  have oGw:=ok_gwc (P:=l.prog) (w:=w) (base:=base) D20 oGr oRo oMv
  have oSe:=ok_settledP (P:=l.prog) (w:=w) (base:=base) D25 B (ok_both D21 oGw oTu) (ok_right D22 oGw) (ok_later D23 oBf oTu) (ok_putIn D24 oBf)
  have oCg:=ok_clashing (P:=l.prog) (w:=w) (base:=base) D26 oRo oOv oCl
  have oEb:=ok_eqB (P:=l.prog) (w:=w) (base:=base) D27 oWb oRo oTu oMv
  have oSs:=ok_setS (P:=l.prog) (w:=w) (base:=base) D28 oSe oSh
  have oRd:=ok_rd (P:=l.prog) (w:=w) (base:=base) D29 oSs oEq oCg oEb
  have oAs:=ok_asked (P:=l.prog) (w:=w) (base:=base) D30 B oRd oGw oTu oSh
  have oP:=ok_pairR (P:=l.prog) (w:=w) (base:=base) D47
  have oPd:=ok_pairedM (P:=l.prog) (w:=w) (base:=base) D33 B y2 (ok_letters D46 B)
  have oAt:=ok_at (P:=l.prog) (w:=w) (base:=base) D32 B
  have oDn:=ok_down (P:=l.prog) (w:=w) (base:=base) D37 B (ok_fpl D36 B)
  have oLc:=ok_clash (P:=l.prog) (w:=w) (base:=base) D39 B (ok_over D38 B (PySem.W.mg_none_of X G y3)) oDn
  have oSn:=ok_sooner (P:=l.prog) (w:=w) (base:=base) D34 B
  have oLr:=ok_rounds (P:=l.prog) (w:=w) (base:=base) D41 B (ok_settled D40 B (PySem.W.mg_none_of X G y4) oSn oDn) oLc
  have oGn:=ok_goneB (P:=l.prog) (w:=w) (base:=base) D42 B
  have oIc:=ok_ischain (P:=l.prog) (w:=w) (base:=base) D43 B (ok_whole D31 B)
  have oSo:=ok_so (P:=l.prog) (w:=w) (base:=base) D48 B
  have oSl:=ok_spelt (P:=l.prog) (w:=w) (base:=base) D35
  have oWa:=ok_wander (P:=l.prog) (w:=w) (base:=base) D45 B (ok_links D44 B) oGn
  exact ok_law (fun_mk (st:=sLaw) l49 c49 k49) B oP oPd oAt oSl oLr oDn oWa oAs oIc oGn oSo
theorem walk {l:PySem.W.OpenLaw} {q:Program} {loose:List Str} {XP:(Str → Option Value) → Heap → Prop} {YP:World → Heap → Prop} {d:DefRec} {K:Params → PySem.W.Frag} (hn:l.most = some 63) (hdf:d.params.defaults = [])
    (hY:∀ (w:World) (h:Heap),YP w h → (K w.params).In h)
    (F:∀ (w:World) (mg:Str → Option Value) (fa:Addr) (h:Heap),(K w.params).In h → h.Ns mainGlobals mg → mg d.name = some (.ref fa) →
      ∃ fd:FuncData,(∀ (s:Shared) (u:Value),BindsTo s fd ⟨[u],[]⟩ [("_law_script",u)]) ∧ ∀ base:Heap,(K w.params).In base → base.Ns mainGlobals mg → FnOk l.prog w (K w.params) mg base CX0 10 fa fd ["_law_script"] (spLaw (K w.params))) :
    PySem.W.WalkO q loose XP YP l.row.toRowW d [] (fun f vs=>PySem.call f vs) :=
  L2.walk_of (n:=63) (k:=10) (x:="_law_script") (CX:=fun _=>CX0) (sp:=fun w=>spLaw (K w.params)) hn (by decide) hdf ⟨rfl,by decide,by decide⟩ hY F (fun _ _ a ns hl _ hS=>⟨a,ns,rfl,hS,hl,fun _=>rfl⟩) fun _ _ _ _ _ z=>z
end Sg
noncomputable def PySem.W.Fast.tw14180185840850042614:Nat:=0
noncomputable def PySem.W.Fast.tw3957249209957662943:Nat:=0
noncomputable def PySem.W.Fast.tw1623705071696893985:Nat:=0
noncomputable def PySem.W.Fast.tw11892337190551663354:Nat:=0
noncomputable def PySem.W.Fast.tw17841206613717883528:Nat:=0
noncomputable def PySem.W.Fast.tw2964274412262784099:Nat:=0
noncomputable def PySem.W.Fast.tw13294557326506374694:Nat:=0
noncomputable def PySem.W.Fast.tw11179266067421018154:Nat:=0
noncomputable def PySem.W.Fast.tw16396380768509908258:Nat:=0
noncomputable def PySem.W.Fast.tw17179300040074896183:Nat:=0
noncomputable def PySem.W.Fast.tw10604137379764732837:Nat:=0
noncomputable def PySem.W.Fast.tw11309596433988947088:Nat:=0
noncomputable def PySem.W.Fast.tw16475353541489588391:Nat:=0
noncomputable def PySem.W.Fast.tw17955683142214225091:Nat:=0
noncomputable def PySem.W.Fast.tw17379609096583897757:Nat:=0
noncomputable def PySem.W.Fast.tw9365847757576947920:Nat:=0
noncomputable def PySem.W.Fast.tw4195447255007347589:Nat:=0
noncomputable def PySem.W.Fast.tw12342276872144260009:Nat:=0
noncomputable def PySem.W.Fast.tw15964951221104337372:Nat:=0
noncomputable def PySem.W.Fast.tw16398357358828859281:Nat:=0
noncomputable def PySem.W.Fast.tw14481986188012360015:Nat:=0
noncomputable def PySem.W.Fast.tw7719876267730903875:Nat:=0
noncomputable def PySem.W.Fast.tw13768042120119667038:Nat:=0
noncomputable def PySem.W.Fast.tw12664109508010317492:Nat:=0
noncomputable def PySem.W.Fast.tw16269350518041777016:Nat:=0
noncomputable def PySem.W.Fast.tw15085397569448012790:Nat:=0
noncomputable def PySem.W.Fast.tw15253981652206997554:Nat:=0
noncomputable def PySem.W.Fast.tw9810927952527605214:Nat:=0
noncomputable def PySem.W.Fast.tw3702045776021195808:Nat:=0
noncomputable def PySem.W.Fast.tw16328604438439502055:Nat:=0
open PySem PySem.W PyProof.Rows
set_option maxRecDepth 100000 in
set_option maxHeartbeats 0 in
theorem PySem.Challenge.cw_signmill_k10_whole_equal_words_holds : PySem.Challenge.rw_signmill_k10_whole_equal_words.Holds := by
  w_on; o_law; k_head; (case hw => w_witness2)
  k_fill
  refine Sg.walk (l := PySem.Challenge.rw_signmill_k10_whole_equal_words) rfl rfl (fun w h Y => PySem.W.kIn_of Y) ?F
  case F =>
    intro w mg fa h KX G hmg
    refine' Sg.all_mk KX G hmg ?a1 ?l1 ?c1 ?k1 ?a2 ?l2 ?c2 ?k2 ?a3 ?l3 ?c3 ?k3 ?a4 ?l4 ?c4 ?k4 ?a5 ?l5 ?c5 ?k5 ?a6 ?l6 ?c6 ?k6 ?a7 ?l7 ?c7 ?k7 ?a8 ?l8 ?c8 ?k8 ?a9 ?l9 ?c9 ?k9 ?a10 ?l10 ?c10 ?k10 ?a11 ?l11 ?c11 ?k11 ?a12 ?l12 ?c12 ?k12 ?a13 ?l13 ?c13 ?k13 ?a14 ?l14 ?c14 ?k14 ?a15 ?l15 ?c15 ?k15 ?a16 ?l16 ?c16 ?k16 ?a17 ?l17 ?c17 ?k17 ?a18 ?l18 ?c18 ?k18 ?a19 ?l19 ?c19 ?k19 ?a20 ?l20 ?c20 ?k20 ?a21 ?l21 ?c21 ?k21 ?a22 ?l22 ?c22 ?k22 ?a23 ?l23 ?c23 ?k23 ?a24 ?l24 ?c24 ?k24 ?a25 ?l25 ?c25 ?k25 ?a26 ?l26 ?c26 ?k26 ?a27 ?l27 ?c27 ?k27 ?a28 ?l28 ?c28 ?k28 ?a29 ?l29 ?c29 ?k29 ?a30 ?l30 ?c30 ?k30 ?a31 ?l31 ?c31 ?k31 ?a32 ?l32 ?c32 ?k32 ?a33 ?l33 ?c33 ?k33 ?a34 ?l34 ?c34 ?k34 ?a35 ?l35 ?c35 ?k35 ?a36 ?l36 ?c36 ?k36 ?a37 ?l37 ?c37 ?k37 ?a38 ?l38 ?c38 ?k38 ?a39 ?l39 ?c39 ?k39 ?a40 ?l40 ?c40 ?k40 ?a41 ?l41 ?c41 ?k41 ?a42 ?l42 ?c42 ?k42 ?a43 ?l43 ?c43 ?k43 ?a44 ?l44 ?c44 ?k44 ?a45 ?l45 ?c45 ?k45 ?a46 ?l46 ?c46 ?k46 ?a47 ?l47 ?c47 ?k47 ?a48 ?l48 ?c48 ?k48 ?a49 ?l49 ?c49 ?k49 ?z1 ?z2 ?z3 ?z4 ?z5 ?z6 ?z7 ?z8 ?z9 ?z10 ?y1 ?y2 ?y3 ?y4
    (case a1 => k_is); (case l1 => k_is); (case c1 => k_is); (case k1 => k_is)
    (case a2 => k_is); (case l2 => k_is); (case c2 => k_is); (case k2 => k_is)
    (case a3 => k_is); (case l3 => k_is); (case c3 => k_is); (case k3 => k_is)
    (case a4 => k_is); (case l4 => k_is); (case c4 => k_is); (case k4 => k_is)
    (case a5 => k_is); (case l5 => k_is); (case c5 => k_is); (case k5 => k_is)
    (case a6 => k_is); (case l6 => k_is); (case c6 => k_is); (case k6 => k_is)
    (case a7 => k_is); (case l7 => k_is); (case c7 => k_is); (case k7 => k_is)
    (case a8 => k_is); (case l8 => k_is); (case c8 => k_is); (case k8 => k_is)
    (case a9 => k_is); (case l9 => k_is); (case c9 => k_is); (case k9 => k_is)
    (case a10 => k_is); (case l10 => k_is); (case c10 => k_is); (case k10 => k_is)
    (case a11 => k_is); (case l11 => k_is); (case c11 => k_is); (case k11 => k_is)
    (case a12 => k_is); (case l12 => k_is); (case c12 => k_is); (case k12 => k_is)
    (case a13 => k_is); (case l13 => k_is); (case c13 => k_is); (case k13 => k_is)
    (case a14 => k_is); (case l14 => k_is); (case c14 => k_is); (case k14 => k_is)
    (case a15 => k_is); (case l15 => k_is); (case c15 => k_is); (case k15 => k_is)
    (case a16 => k_is); (case l16 => k_is); (case c16 => k_is); (case k16 => k_is)
    (case a17 => k_is); (case l17 => k_is); (case c17 => k_is); (case k17 => k_is)
    (case a18 => k_is); (case l18 => k_is); (case c18 => k_is); (case k18 => k_is)
    (case a19 => k_is); (case l19 => k_is); (case c19 => k_is); (case k19 => k_is)
    (case a20 => k_is); (case l20 => k_is); (case c20 => k_is); (case k20 => k_is)
    (case a21 => k_is); (case l21 => k_is); (case c21 => k_is); (case k21 => k_is)
    (case a22 => k_is); (case l22 => k_is); (case c22 => k_is); (case k22 => k_is)
    (case a23 => k_is); (case l23 => k_is); (case c23 => k_is); (case k23 => k_is)
    (case a24 => k_is); (case l24 => k_is); (case c24 => k_is); (case k24 => k_is)
    (case a25 => k_is); (case l25 => k_is); (case c25 => k_is); (case k25 => k_is)
    (case a26 => k_is); (case l26 => k_is); (case c26 => k_is); (case k26 => k_is)
    (case a27 => k_is); (case l27 => k_is); (case c27 => k_is); (case k27 => k_is)
    (case a28 => k_is); (case l28 => k_is); (case c28 => k_is); (case k28 => k_is)
    (case a29 => k_is); (case l29 => k_is); (case c29 => k_is); (case k29 => k_is)
    (case a30 => k_is); (case l30 => k_is); (case c30 => k_is); (case k30 => k_is)
    (case a31 => k_is); (case l31 => k_is); (case c31 => k_is); (case k31 => k_is)
    (case a32 => k_is); (case l32 => k_is); (case c32 => k_is); (case k32 => k_is)
    (case a33 => k_is); (case l33 => k_is); (case c33 => k_is); (case k33 => k_is)
    (case a34 => k_is); (case l34 => k_is); (case c34 => k_is); (case k34 => k_is)
    (case a35 => k_is); (case l35 => k_is); (case c35 => k_is); (case k35 => k_is)
    (case a36 => k_is); (case l36 => k_is); (case c36 => k_is); (case k36 => k_is)
    (case a37 => k_is); (case l37 => k_is); (case c37 => k_is); (case k37 => k_is)
    (case a38 => k_is); (case l38 => k_is); (case c38 => k_is); (case k38 => k_is)
    (case a39 => k_is); (case l39 => k_is); (case c39 => k_is); (case k39 => k_is)
    (case a40 => k_is); (case l40 => k_is); (case c40 => k_is); (case k40 => k_is)
    (case a41 => k_is); (case l41 => k_is); (case c41 => k_is); (case k41 => k_is)
    (case a42 => k_is); (case l42 => k_is); (case c42 => k_is); (case k42 => k_is)
    (case a43 => k_is); (case l43 => k_is); (case c43 => k_is); (case k43 => k_is)
    (case a44 => k_is); (case l44 => k_is); (case c44 => k_is); (case k44 => k_is)
    (case a45 => k_is); (case l45 => k_is); (case c45 => k_is); (case k45 => k_is)
    (case a46 => k_is); (case l46 => k_is); (case c46 => k_is); (case k46 => k_is)
    (case a47 => k_is); (case l47 => k_is); (case c47 => k_is); (case k47 => k_is)
    (case a48 => k_is); (case l48 => k_is); (case c48 => k_is); (case k48 => k_is)
    (case a49 => k_is); (case l49 => k_is); (case c49 => k_is); (case k49 => k_is)
    (case z1 => k_is); (case z2 => k_is); (case z3 => k_is); (case z4 => k_is); (case z5 => k_is); (case z6 => k_is); (case z7 => k_is); (case z8 => k_is); (case z9 => k_is); (case z10 => k_is)
    (case y1 => k_is)
    (case y2 => k_is)
    (case y3 => k_is)
    (case y4 => k_is)
#print axioms PySem.Challenge.cw_signmill_k10_whole_equal_words_holds
