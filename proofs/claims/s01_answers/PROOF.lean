import PyProof.Rows.All
import Wide.All
import OpenK.AllK
import Wide.FinOn
import PyProof.EqAt
import PyProof.EqKinds
import PyProof.TupleCall
import KE.BitLaws
import Open.SpecLaws
import KE.OsHead
import KE.OsGo
import KE.SpHead
import KE.OsShapes
import PySu125
import PySem.Challenge.RW_firmframe_s01_answers
set_option Elab.async false
set_option linter.all false
set_option maxRecDepth 100000
namespace L2
open PySem PySem.Spec PyProof.Rows
abbrev Key:=Sum Int Str
def keyIs:Key -> Value -> Bool
  | .inl k,v=>Value.isInt k v
  | .inr x,v=>Value.isStrOf x v
def keyH (w:World):Key -> Int
  | .inl k=>hashInt k
  | .inr x=>hashStr w x
theorem keyIs_shape:∀ {k:Key} {v:Value},keyIs k v = true -> (∃ i t,k = Sum.inl i /\ v = Value.int i t) \/ (∃ x t,k = Sum.inr x /\ v = Value.str x t)
  | .inl i,v,h=>by
    obtain ⟨t,e⟩:=Value.isInt_shape (k:=i) (v:=v) h
    exact .inl ⟨i,t,rfl,e⟩
  | .inr x,v,h=>by
    obtain ⟨t,e⟩:=Value.isStrOf_shape (x:=x) (v:=v) h
    exact .inr ⟨x,t,rfl,e⟩
theorem keyIs_int (i:Int) (t:Tok):keyIs (.inl i) (.int i t) = true:=by simp [keyIs,Value.isInt]
theorem keyIs_str (x:Str) (t:Tok):keyIs (.inr x) (.str x t) = true:=by simp [keyIs,Value.isStrOf]
theorem key_ll (a b:Int):decide ((Sum.inl a:Key) = Sum.inl b) = (a == b):=by
  by_cases e:a = b
  · subst e; simp
  · have h:¬ (Sum.inl a:Key) = Sum.inl b:=fun q=>e (Sum.inl.inj q)
    rw [decide_eq_false h]
    exact (beq_eq_false_iff_ne.mpr e).symm
theorem key_rr (a b:Str):decide ((Sum.inr a:Key) = Sum.inr b) = decide (a = b):=by
  by_cases e:a = b
  · subst e; simp
  · have h:¬ (Sum.inr a:Key) = Sum.inr b:=fun q=>e (Sum.inr.inj q)
    rw [decide_eq_false h,decide_eq_false e]
theorem key_lr (a:Int) (b:Str):decide ((Sum.inl a:Key) = Sum.inr b) = false:=decide_eq_false (fun q=>nomatch q)
theorem key_rl (a:Str) (b:Int):decide ((Sum.inr a:Key) = Sum.inl b) = false:=decide_eq_false (fun q=>nomatch q)
def mixKind (prog:Program) (w:World):PySem.KeyKind prog w Key where
  is:=keyIs
  hash:=keyH w
  inj:=fun v a b ha hb=>by
    rcases keyIs_shape ha with ⟨i,t,rfl,rfl⟩ | ⟨x,t,rfl,rfl⟩
    · rcases keyIs_shape hb with ⟨j,u,rfl,e⟩ | ⟨y,u,rfl,e⟩
      · injection e with e1 _; rw [e1]
      · exact nomatch e
    · rcases keyIs_shape hb with ⟨j,u,rfl,e⟩ | ⟨y,u,rfl,e⟩
      · exact nomatch e
      · injection e with e1 _; rw [e1]
  byValue:=fun k v h=>by
    rcases keyIs_shape h with ⟨i,t,rfl,rfl⟩ | ⟨x,t,rfl,rfl⟩ <;> rfl
  pyHash:=fun hv h=>by
    rcases keyIs_shape hv with ⟨i,t,rfl,rfl⟩ | ⟨x,t,rfl,rfl⟩
    · exact wpAny_pyHash_int h
    · exact wpAny_pyHash_str h
  eqBool:=fun hu hv h=>by
    rcases keyIs_shape hu with ⟨i,t,rfl,rfl⟩ | ⟨x,t,rfl,rfl⟩
    · rcases keyIs_shape hv with ⟨j,u,rfl,rfl⟩ | ⟨y,u,rfl,rfl⟩
      · rw [key_ll] at h; exact wpAny_eqBool_int h
      · rw [key_lr] at h; exact SeqAt.EqAt.int_str i t y u _ _ _ _ h
    · rcases keyIs_shape hv with ⟨j,u,rfl,rfl⟩ | ⟨y,u,rfl,rfl⟩
      · rw [key_rl] at h; exact SeqAt.EqAt.str_int x t j u _ _ _ _ h
      · rw [key_rr] at h; exact wpAny_eqBool_str h
  «strs»:=fun k x t v h=>by
    rcases keyIs_shape h with ⟨i,u,rfl,e⟩ | ⟨y,u,rfl,e⟩
    · exact nomatch e
    · injection e with e1 _
      subst e1
      cases v <;> rfl
theorem mixKind_int (prog:Program) (w:World) (i:Int) (t:Tok):(mixKind prog w).is (.inl i) (.int i t) = true:=keyIs_int i t
theorem mixKind_str (prog:Program) (w:World) (x:Str) (t:Tok):(mixKind prog w).is (.inr x) (.str x t) = true:=keyIs_str x t
end L2
namespace L2
open PySem PySem.Spec PyProof.Rows
inductive V where
  | non | bl (b:Bool) | int (i:Int) | str (x:Str) | byt (b:Array UInt8) | flt (b:UInt64) | ref (a:Addr) | ty (n:String)
  deriving DecidableEq
def RelV:V -> Value -> Prop
  | .non,u=>u = Value.none
  | .bl b,u=>u = Value.bool b
  | .int i,u=>∃ t,u = Value.int i t
  | .str x,u=>∃ t,u = Value.str x t
  | .byt b,u=>∃ t,u = Value.bytes b t
  | .flt b,u=>∃ t,u = Value.float b t
  | .ref a,u=>u = Value.ref a
  | .ty n,u=>u = Value.type n
abbrev Vals:List V -> List Value -> Prop:=Paired RelV
theorem Vals.length {xs:List V} {us:List Value} (r:Vals xs us):xs.length = us.length:=Paired.length r
theorem Vals.get:∀ {xs:List V} {us:List Value} {i:Nat} {x:V},Vals xs us -> xs[i]? = some x -> ∃ u,us[i]? = some u /\ RelV x u
  | _,_,_,_,.nil,e=>by simp at e
  | _,_,0,_,.cons r _,e=>by simp at e; subst e; exact ⟨_,rfl,r⟩
  | _,_,i + 1,x,.cons _ t,e=>by
    obtain ⟨u,h1,h2⟩:=Vals.get (i:=i) (x:=x) t (by simpa using e)
    exact ⟨u,by simpa using h1,h2⟩
theorem Vals.set {x:V} {u:Value} (r:RelV x u):∀ {xs:List V} {us:List Value} (i:Nat),Vals xs us -> Vals (xs.set i x) (us.set i u)
  | _,_,_,.nil=>.nil
  | _,_,0,.cons _ t=>.cons r t
  | _,_,i + 1,.cons q t=>.cons q (Vals.set r i t)
theorem Vals.append:∀ {xs ys:List V} {us ws:List Value},Vals xs us -> Vals ys ws -> Vals (xs ++ ys) (us ++ ws)
  | _,_,_,_,.nil,s=>s
  | _,_,_,_,.cons r t,s=>.cons r (Vals.append t s)
theorem Vals.take:∀ {xs:List V} {us:List Value} (n:Nat),Vals xs us -> Vals (xs.take n) (us.take n)
  | _,_,0,_=>.nil
  | _,_,_ + 1,.nil=>.nil
  | _,_,n + 1,.cons r t=>.cons r (Vals.take n t)
theorem Vals.drop:∀ {xs:List V} {us:List Value} (n:Nat),Vals xs us -> Vals (xs.drop n) (us.drop n)
  | _,_,0,r=>r
  | _,_,_ + 1,.nil=>.nil
  | _,_,n + 1,.cons _ t=>Vals.drop n t
def RelO:Option V -> Option Value -> Prop
  | some v,some u=>RelV v u
  | none,none=>True
  | _,_=>False
def KV {κ:Type}:List (κ × V) -> List (κ × Value) -> Prop:=Paired fun (p:κ × V) (q:κ × Value)=>p.1 = q.1 /\ RelV p.2 q.2
def kV:Key -> V
  | .inl i=>.int i
  | .inr x=>.str x
inductive HO where
  /-- a list -/
  | lst (xs:List V)
  /-- a tuple (never changes) -/
  | tup (xs:List V)
  /-- a dict whose keys are ints and texts; one whose keys are tuples of ints and texts (the empty one is both) -/
  | dK (kvs:List (Key × V)) | dT (kvs:List (List Key × V))
  /-- a set of ints: its members,its size -/
  | set (S:Int -> Bool) (n:Nat)
  /-- an instance of the class at C,its dict at dx,its attributes -/
  | ins (C dx:Addr) (fs:List (Str × V))
  /-- the dict of the instance at x -/
  | own (x:Addr)
  /-- the dict of an exception -/
  | xd (fs:List (Str × V))
  /-- a bound method,f of x -/
  | met (f x:Addr)
  /-- a range object lo,lo + 1,.. below hi -/
  | rng (lo hi:Int)
  /-- a thing that is known to the object (the script; a dict while a loop walks it): read,never written while it is so -/
  | frz (o:Obj) (u:HO)
  /-- a code object's table -/
  | tbl (ps:Array Value)
  /-- any other thing,by what is true of its one object (a def of one's own: SetO a S n:=HO.ext fun h=>..) -/
  | ext (φ:Heap -> Prop)
abbrev Hp:=Addr -> Option HO
def upd (H:Hp) (a:Addr) (o:HO):Hp:=fun b=>if b = a then some o else H b
theorem upd_same {H:Hp} {a:Addr} {o:HO}:upd H a o a = some o:=by unfold upd; rw [if_pos rfl]
theorem upd_ne {H:Hp} {a b:Addr} {o:HO} (h:b ≠ a):upd H a o b = H b:=by unfold upd; rw [if_neg h]
theorem upd_upd {H:Hp} {a:Addr} {o u:HO}:upd (upd H a o) a u = upd H a u:=by
  funext b; unfold upd; split <;> rfl
theorem ne_of {H:Hp} {a b:Addr} {o u:HO} (h:H a = some o) (h':H b = some u) (d:o ≠ u):a ≠ b:=by
  intro e; subst e; rw [h] at h'; exact d (Option.some.inj h')
theorem ne_of_none {H:Hp} {a b:Addr} {o:HO} (h:H a = some o) (h':H b = none):a ≠ b:=by
  intro e; subst e; rw [h] at h'; cases h'
section
variable (P:Program) (w:World)
def ObjOk (H:Hp) (h:Heap) (a:Addr):HO -> Prop
  | .lst xs=>xs.length <= sizeLine /\ ∃ (its:List Value) (n:Nat),Vals xs its /\ h.get? a = some { cls:=.type "list",data:=.seq its.toArray n }
  | .tup xs=>xs.length <= sizeLine /\ ∃ its:List Value,Vals xs its /\ IsTup h a its.toArray
  | .dK kvs=>kvs.length <= sizeLine /\ (a == sysModules) = false /\ ∃ vs,KV kvs vs /\ h.DictOf (mixKind P w) a vs
  | .dT kvs=>kvs.length <= sizeLine /\ (a == sysModules) = false /\ ∃ xs:List (List Key × Addr × Value),
      Paired (fun (p:List Key × V) (q:List Key × Addr × Value)=>p.1 = q.1 /\ H q.2.1 = some (.tup (p.1.map kV)) /\ RelV p.2 q.2.2) kvs xs ∧
      ∃ o es ep,h.get? a = some o /\ o.ExactDict /\ o.data = .dict es ep /\ es.toList = xs.map (entryOfKey (tupleKind (mixKind P w))) /\ (xs.map (·.1)).Nodup
  | .set S n=>h.SetOf (intKind P w) a S n
  | .ins C dx fs=>H dx = some (.own a) /\ fs.length <= 1000 /\ dx ≠ a /\ h.get? a = some (PySem.W.instObj C dx) ∧
      ∃ mA,h.Ns1 dx mA /\ (∀ f,RelO (fs.lookup f) (mA f)) /\ PySem.Within mA (fs.map (·.1))
  | .own _=>∃ o,h.get? a = some o
  | .xd fs=>∃ mA,h.Ns1 a mA /\ ∀ f,RelO (fs.lookup f) (mA f)
  | .rng lo hi=>∃ t u v,h.get? a = some { cls:=.type "range",data:=.fields #[.int lo t,.int hi u,.int 1 v] }
  | .frz o u=>h.get? a = some o /\ ObjOk H h a u
  | .tbl ps=>h.get? a = some { cls:=.none,data:=.fields ps }
  | .met f x=>h.get? a = some (PySem.W.methodObj (.ref f) (.ref x))
  | .ext φ=>φ h /\ (∃ o,h.get? a = some o) /\ ∀ h1 h2:Heap,φ h1 -> (∀ o,h1.get? a = some o -> h2.get? a = some o) -> φ h2
def HOk (H:Hp) (h:Heap):Prop:=∀ a o,H a = some o -> ObjOk P w H h a o
end
section
variable {P:Program} {w:World} {H H':Hp} {h h':Heap} {a:Addr} {o:HO}
theorem ObjOk.lt (x:ObjOk P w H h a o):a < h.objs.size:=by
  cases o with
  | lst xs=>obtain ⟨_,_,_,_,e⟩:=x; exact Heap.lt_size e
  | tup xs=>obtain ⟨_,_,_,p⟩:=x; exact p.lt
  | dK kvs=>obtain ⟨_,_,_,_,o,_,_,e,_⟩:=x; exact Heap.lt_size e
  | dT kvs=>obtain ⟨_,_,_,_,o,_,_,e,_⟩:=x; exact Heap.lt_size e
  | set S n=>obtain ⟨o,_,_,_,e,_⟩:=x; exact Heap.lt_size e
  | ins C dx fs=>obtain ⟨_,_,_,e,_⟩:=x; exact Heap.lt_size e
  | own y=>obtain ⟨_,e⟩:=x; exact Heap.lt_size e
  | xd fs=>obtain ⟨_,⟨_,_,_,e,_⟩,_⟩:=x; exact Heap.lt_size e
  | rng lo hi=>obtain ⟨_,_,_,e⟩:=x; exact Heap.lt_size e
  | frz ob u=>obtain ⟨e,_⟩:=x; exact Heap.lt_size e
  | tbl ps=>exact Heap.lt_size (show h.get? a = some _ from x)
  | met f y=>exact Heap.lt_size (show h.get? a = some _ from x)
  | ext φ=>obtain ⟨_,⟨_,e⟩,_⟩:=x; exact Heap.lt_size e
theorem Paired.mapP {α β:Type} {F G:α -> β -> Prop}:∀ {l₁:List α} {l₂:List β},Paired F l₁ l₂ -> (∀ a b,F a b -> G a b) -> Paired G l₁ l₂
  | _,_,.nil,_=>.nil
  | _,_,.cons r t,f=>.cons (f _ _ r) (Paired.mapP t f)
theorem Paired.imp' {α β:Type} {F G:α -> β -> Prop} (f:∀ a b,F a b -> G a b) {l₁:List α} {l₂:List β} (r:Paired F l₁ l₂):Paired G l₁ l₂:=Paired.mapP r f
theorem ObjOk.stay (x:ObjOk P w H h a o) (k:∀ b u,(b = a \/ H b = some (.own a)) -> h.get? b = some u -> h'.get? b = some u)
    (ho:∀ b,H b = some (.own a) -> H' b = some (.own a)) (ht:∀ b xs,H b = some (.tup xs) -> H' b = some (.tup xs)):ObjOk P w H' h' a o:=by
  induction o with
  | lst xs=>obtain ⟨z,its,n,r,e⟩:=x; exact ⟨z,its,n,r,k _ _ (.inl rfl) e⟩
  | tup xs=>obtain ⟨z,its,r,ob,e,c⟩:=x; exact ⟨z,its,r,ob,k _ _ (.inl rfl) e,c⟩
  | dK kvs=>obtain ⟨z,y,vs,r,ob,es,ep,e,c⟩:=x; exact ⟨z,y,vs,r,ob,es,ep,k _ _ (.inl rfl) e,c⟩
  | dT kvs =>
    obtain ⟨z,y,xs,r,ob,es,ep,e,c⟩:=x
    exact ⟨z,y,xs,Paired.mapP r fun p q z=>⟨z.1,ht _ _ z.2.1,z.2.2⟩,ob,es,ep,k _ _ (.inl rfl) e,c⟩
  | set S n=>obtain ⟨ob,es,ep,t,e,c⟩:=x; exact ⟨ob,es,ep,t,k _ _ (.inl rfl) e,c⟩
  | ins C dx fs =>
    obtain ⟨d,z,ne,e,mA,⟨od,es,ep,e2,c⟩,r⟩:=x
    exact ⟨ho _ d,z,ne,k _ _ (.inl rfl) e,mA,⟨od,es,ep,k _ _ (.inr d) e2,c⟩,r⟩
  | own y=>obtain ⟨ob,e⟩:=x; exact ⟨ob,k _ _ (.inl rfl) e⟩
  | xd fs=>obtain ⟨mA,⟨od,es,ep,e,c⟩,r⟩:=x; exact ⟨mA,⟨od,es,ep,k _ _ (.inl rfl) e,c⟩,r⟩
  | rng lo hi=>obtain ⟨t,u,v,e⟩:=x; exact ⟨t,u,v,k _ _ (.inl rfl) e⟩
  | frz ob u ih=>obtain ⟨e,q⟩:=x; exact ⟨k _ _ (.inl rfl) e,ih q⟩
  | tbl ps =>
    have e:h.get? a = some { cls:=.none,data:=.fields ps }:=x
    show h'.get? a = some { cls:=.none,data:=.fields ps }
    exact k a _ (.inl rfl) e
  | met f y =>
    have e:h.get? a = some (PySem.W.methodObj (.ref f) (.ref y)):=x
    show h'.get? a = some (PySem.W.methodObj (.ref f) (.ref y))
    exact k a _ (.inl rfl) e
  | ext φ=>obtain ⟨p,⟨o,e⟩,st⟩:=x; exact ⟨st _ _ p fun o q=>k _ _ (.inl rfl) q,⟨o,k _ _ (.inl rfl) e⟩,st⟩
theorem HOk.lt (x:HOk P w H h) (e:H a = some o):a < h.objs.size:=(x a o e).lt
theorem HOk.fresh (x:HOk P w H h) (e:h.objs.size <= a):H a = none:=by
  cases q:H a with
  | none=>rfl
  | some u=>exact absurd (Nat.lt_of_lt_of_le (x.lt q) e) (Nat.lt_irrefl _)
theorem HOk.kept (x:HOk P w H h) (k:∀ b u,h.get? b = some u -> h'.get? b = some u):HOk P w H h':=fun a o e =>
  (x a o e).stay (fun b u _ q=>k b u q) (fun _ q=>q) fun _ _ q=>q
theorem HOk.laid (x:HOk P w H h) (k:∀ b u,h.get? b = some u -> h'.get? b = some u) (hp:h.objs.size <= a) (new:ObjOk P w (upd H a o) h' a o):HOk P w (upd H a o) h':=fun b u e=>by
  have hn:=x.fresh hp
  by_cases hb:b = a
  · subst hb; rw [upd_same] at e; cases e; exact new
  · rw [upd_ne hb] at e
    exact (x b u e).stay (fun c v _ q=>k c v q) (fun c q=>by rw [upd_ne (ne_of_none q hn)]; exact q) fun c xs q=>by rw [upd_ne (ne_of_none q hn)]; exact q
end
def Rd (H:Hp) (a:Addr) (u:HO):Prop:=H a = some u \/ ∃ o,H a = some (.frz o u)
theorem Rd.ok {P:Program} {w:World} {H:Hp} {h:Heap} {a:Addr} {u:HO} (r:Rd H a u) (x:HOk P w H h):ObjOk P w H h a u:=by
  rcases r with r | ⟨o,r⟩
  · exact x a u r
  · obtain ⟨_,q⟩:=x a _ r
    exact q
def Mut:Option HO -> Prop
  | some (.lst _)=>True
  | some (.dK _)=>True
  | some (.dT _)=>True
  | some (.set _ _)=>True
  | some (.ins _ _ _)=>True
  | some (.ext _)=>True
  | _=>False
section
variable {P:Program} {w:World} {H:Hp} {h h':Heap} {x e:Addr} {o':HO}
theorem HOk.write (ok:HOk P w H h) (mu:Mut (H x)) (he:e = x \/ H e = some (.own x)) (k:∀ b u,b ≠ e -> h.get? b = some u -> h'.get? b = some u) (heo:∃ u,h'.get? e = some u)
    (new:ObjOk P w (upd H x o') h' x o'):HOk P w (upd H x o') h':=fun b u q=>by
  have nown:∀ c y,H c = some (.own y) -> c ≠ x:=fun c y r z=>by subst z; rw [r] at mu; exact mu
  have ntup:∀ c xs,H c = some (.tup xs) -> c ≠ x:=fun c xs r z=>by subst z; rw [r] at mu; exact mu
  by_cases hb:b = x
  · subst hb; rw [upd_same] at q; cases q; exact new
  · rw [upd_ne hb] at q
    by_cases hbe:b = e
    · have q':H b = some (.own x):=by
        rcases he with z | z
        · exact absurd (hbe.trans z) hb
        · rw [hbe]; exact z
      rw [q] at q'; cases q'
      obtain ⟨v,hv⟩:=heo
      exact ⟨v,by rw [hbe]; exact hv⟩
    · refine (ok b u q).stay (fun c v hc r=>k c v ?_ r) (fun c r=>by rw [upd_ne (nown c b r)]; exact r) fun c xs r=>by rw [upd_ne (ntup c xs r)]; exact r
      rcases hc with rfl | hc
      · exact hbe
      · rintro rfl
        rcases he with z | z
        · exact nown c b hc z
        · rw [hc] at z; cases z; exact hb rfl
end
structure Un (fs ex:List Addr) (H H':Hp) (h h':Heap):Prop where
  keep:∀ b o,h.get? b = some o -> H b = none -> b ∉ fs -> b ∉ ex -> h'.get? b = some o
  slot:∀ b o,h.get? b = some o -> H b = none -> b ∈ fs -> b ∉ ex -> ∃ sl,h'.get? b = some { o with slots:=sl }
  free:∀ b o,h.get? b = some o -> H b = none -> b ∉ ex -> H' b = none
  there:∀ b o,h.get? b = some o -> b ∉ ex -> ∃ o',h'.get? b = some o'
  tups:∀ b xs,H b = some (.tup xs) -> H' b = some (.tup xs)
  frzs:∀ b o u,H b = some (.frz o u) -> H' b = some (.frz o u)
  tbls:∀ b ps,H b = some (.tbl ps) -> ∃ more,H' b = some (.tbl (ps ++ more))
section
variable {fs fs' ex ex':List Addr} {H H1 H2:Hp} {h h1 h2 h':Heap} {a x e:Addr} {o:HO}
theorem Un.any (u:Un fs ex H H1 h h1) {b:Addr} {ob:Obj} (q:h.get? b = some ob) (n:H b = none) (hx:b ∉ ex):∃ sl,h1.get? b = some { ob with slots:=sl }:=by
  by_cases hb:b ∈ fs
  · exact u.slot b ob q n hb hx
  · exact ⟨ob.slots,u.keep b ob q n hb hx⟩
theorem Un.kept (k:∀ b u,h.get? b = some u -> h'.get? b = some u):Un fs ex H H h h' :=
  ⟨fun b ob q _ _ _=>k b ob q,fun b ob q _ _ _=>⟨ob.slots,k b ob q⟩,fun _ _ _ n _=>n,fun b ob q _=>⟨ob,k b ob q⟩,fun _ _ q=>q,fun _ _ _ q=>q,fun _ ps q=>⟨#[],by rw [q]; simp⟩⟩
theorem Un.refl:Un fs ex H H h h:=Un.kept fun _ _ q=>q
theorem Un.laid (k:∀ b u,h.get? b = some u -> h'.get? b = some u) (hp:h.objs.size <= a) (hn:H a = none):Un fs ex H (upd H a o) h h' where
  keep:=fun b u q _ _ _=>k b u q
  slot:=fun b u q _ _ _=>⟨u.slots,k b u q⟩
  free:=fun b u q n _=>by rw [upd_ne (Nat.ne_of_lt (Nat.lt_of_lt_of_le (Heap.lt_size q) hp))]; exact n
  there:=fun b u q _=>⟨u,k b u q⟩
  tups:=fun b xs q=>by rw [upd_ne (ne_of_none q hn)]; exact q
  frzs:=fun b u xs q=>by rw [upd_ne (ne_of_none q hn)]; exact q
  tbls:=fun b ps q=>⟨#[],by rw [upd_ne (ne_of_none q hn),q]; simp⟩
theorem Un.write (mu:Mut (H x)) (he:e = x \/ H e = some (.own x)) (k:∀ b u,b ≠ e -> h.get? b = some u -> h'.get? b = some u) (heo:∃ u,h'.get? e = some u):Un fs ex H (upd H x o) h h':=by
  have hx:∀ b,H b = none -> b ≠ x:=fun b n z=>by subst z; rw [n] at mu; exact mu
  have hb:∀ b,H b = none -> b ≠ e:=fun b n z=>by
    subst z
    rcases he with r | r
    · exact hx b n r
    · rw [n] at r; cases r
  have hm:∀ b u,H b = some u -> ¬ Mut (some u) -> b ≠ x:=fun b u q nm z=>by subst z; rw [q] at mu; exact nm mu
  refine ⟨fun b u q n _ _=>k b u (hb b n) q,fun b u q n _ _=>⟨u.slots,k b u (hb b n) q⟩,fun b u q n _=>by rw [upd_ne (hx b n)]; exact n,fun b u q _=>?_,
    fun b xs q=>by rw [upd_ne (hm b _ q fun z=>z)]; exact q,fun b u xs q=>by rw [upd_ne (hm b _ q fun z=>z)]; exact q,fun b ps q=>⟨#[],by rw [upd_ne (hm b _ q fun z=>z),q]; simp⟩⟩
  by_cases hbe:b = e
  · subst hbe; exact heo
  · exact ⟨u,k b u hbe q⟩
end
def trk (h:Heap) (H:Hp):List Addr:=(List.range h.objs.size).filter fun a=>(H a).isSome
def hidT (h:Heap) (H:Hp):Heap:=PySem.W.hideAll h (trk h H)
theorem hidT_size (h:Heap) (H:Hp):(hidT h H).objs.size = h.objs.size:=PySem.W.hideAll_size _ _
theorem hidT_get {h:Heap} {H:Hp} {b:Addr} {o:Obj} (e:h.get? b = some o) (n:H b = none):(hidT h H).get? b = some o :=
  PySem.W.hideAll_get _ e fun hm=>by
    have q:(H b).isSome = true:=(List.mem_filter.mp hm).2
    rw [n] at q; simp at q
theorem of_hidT {h:Heap} {H:Hp} {b:Addr} {o:Obj} (e:(hidT h H).get? b = some o):h.get? b = some o /\ H b = none:=by
  have e':h.get? b = some o:=PySem.W.of_hideAll (trk h H) e
  refine ⟨e',?_⟩
  cases q:H b with
  | none=>rfl
  | some x =>
    have hm:b ∈ trk h H:=List.mem_filter.mpr ⟨List.mem_range.mpr (Heap.lt_size e'),by simp [q]⟩
    have z:(hidT h H).get? b = none:=PySem.W.hideAll_none (trk h H) hm
    rw [z] at e; cases e
end L2
namespace L2
open PySem PySem.Spec PyProof.Rows
structure Mod (K:PySem.W.Frag) (mg:Str -> Option Value) (base:Heap):Prop where
  kin:K.In base
  glob:base.Ns mainGlobals mg
  blt:∃ mb,base.Ns builtinsNs mb /\ ∀ x:Str,x ≠ "__name__" -> mb x = bootBuiltins x
  nolimit:base.NoLimit
structure Cx where
  prog:Program
  w:World
  K:PySem.W.Frag
  mg:Str -> Option Value
  base:Heap
  A:Around
  N:List Str
  s_0:Shared
  H_0:Hp
  env:Env
  outer:List Env
  stack:List Env
  ex:List Addr
  fn:Str -> Bool
  calm:Bool
  pn:List (Addr × Obj)
  xe:Value -> Shared -> Prop
def frs (l:List Env):List Addr:=l.filterMap (·.frame)
abbrev Cx.fs (X:Cx):List Addr:=frs X.outer
def Vis (sc:Scope) (x:Str):Prop:=sc.names.lookup x = some .local \/ sc.names.lookup x = some .cell \/ sc.names.lookup x = some .free
def Loc (sc:Scope) (x:Str):Prop:=sc.names.lookup x = some .local \/ sc.names.lookup x = some .cell
def Look (env:Env) (h:Heap) (m:Str -> Option Value) (x:Str) (u:Value):Prop :=
  (env.kindOf x = some .local /\ m x = some u) \/ ((env.kindOf x = some .cell \/ env.kindOf x = some .free) /\ ∃ c,env.cells.lookup x = some c /\ h.IsCell c (some u))
structure Cx.Ok (X:Cx):Prop where
  mod:Mod X.K X.mg X.base
  kind:X.env.scope.kind = .function
  glob:X.env.globals = mainGlobals
  blt:X.env.builtins = builtinsNs
  above:X.s_0.heap.objs.size <= X.env.locals
  inj:∀ x y c,X.env.cells.lookup x = some c -> X.env.cells.lookup y = some c -> x = y
  has:∀ x,(X.env.kindOf x = some .cell \/ X.env.kindOf x = some .free) -> ∃ c,X.env.cells.lookup x = some c
  cab:∀ x c,X.fn x = true -> X.env.cells.lookup x = some c -> X.s_0.heap.objs.size <= c
  hd:X.calm = true -> X.A.handled = none
  frames:X.A.frames = some X.stack
  stk:X.stack = X.outer \/ (X.stack = X.env :: X.outer /\ X.env.frame = some X.env.locals)
  exf:∀ b ∈ X.ex,b ≠ X.env.locals /\ ∀ x c,X.env.cells.lookup x = some c -> c ≠ b
  bs:∀ b o,X.base.get? b = some o -> X.s_0.heap.get? b = some o /\ X.H_0 b = none
  bsz:X.base.objs.size <= X.s_0.heap.objs.size
  noex:∀ b o,X.base.get? b = some o -> b ∉ X.ex
  exfs:∀ b ∈ X.ex,b ∉ X.fs
  funs:X.s_0.heap.FunFrames X.base X.outer
  frf:∀ b ∈ X.fs,X.H_0 b = none
structure Inv (X:Cx) (pins:List (Addr × Obj)) (σ:List (Option V)) (H:Hp) (s:Shared):Prop where
  ok:X.Ok
  os:s.os = X.s_0.os
  bare:AllBare s.gens
  base:Un X.fs X.ex X.H_0 H X.s_0.heap s.heap
  loc:∃ m,s.heap.Ns X.env.locals m /\ ∀ (i:Nat) (x:Str) (v:V),X.N[i]? = some x -> σ[i]? = some (some v) -> Vis X.env.scope x -> ∃ u,RelV v u /\ Look X.env s.heap m x u
  cell:∀ x c,X.env.cells.lookup x = some c -> ∃ v,s.heap.IsCell c v
  free:H X.env.locals = none
  freeC:∀ x c,X.env.cells.lookup x = some c -> H c = none
  pin:∀ p ∈ X.pn ++ pins,s.heap.get? p.1 = some p.2 /\ H p.1 = none /\ p.1 ≠ X.env.locals /\ p.1 ∉ X.fs /\ ∀ v,p.2.data ≠ .cell v
  hok:HOk X.prog X.w H s.heap
  len:σ.length = X.N.length
section
variable {X:Cx} {pins:List (Addr × Obj)} {σ:List (Option V)} {H H':Hp} {s:Shared} {h':Heap}
theorem Cx.Ok.nofr (ok:X.Ok) {b:Addr} {o:Obj} (e:X.base.get? b = some o):b ∉ X.fs:=fun hb=>by
  have:=(ok.funs.mem hb).1
  rw [e] at this; cases this
theorem Inv.bs (I:Inv X pins σ H s):∀ b o,X.base.get? b = some o -> s.heap.get? b = some o /\ H b = none:=fun b o e =>
  ⟨I.base.keep b o (I.ok.bs b o e).1 (I.ok.bs b o e).2 (I.ok.nofr e) (I.ok.noex b o e),I.base.free b o (I.ok.bs b o e).1 (I.ok.bs b o e).2 (I.ok.noex b o e)⟩
theorem Inv.bk (I:Inv X pins σ H s):∀ b o,X.base.get? b = some o -> s.heap.get? b = some o:=fun b o e=>(I.bs b o e).1
theorem Inv.mod (I:Inv X pins σ H s):Mod X.K X.mg X.base:=I.ok.mod
theorem Inv.kIn (I:Inv X pins σ H s):X.K.In s.heap:=I.ok.mod.kin.keeps I.bk
theorem Inv.lt (I:Inv X pins σ H s):X.env.locals < s.heap.objs.size:=let ⟨_,hn,_⟩:=I.loc; hn.lt
theorem Inv.sz (I:Inv X pins σ H s):X.s_0.heap.objs.size <= s.heap.objs.size:=Nat.le_trans I.ok.above (Nat.le_of_lt I.lt)
theorem Inv.nofs (I:Inv X pins σ H s) {a:Addr} (h:s.heap.objs.size <= a):a ∉ X.fs:=fun hb=>by
  obtain ⟨_,o,ho,_⟩:=I.ok.funs.mem hb
  exact absurd (Nat.lt_of_lt_of_le (Heap.lt_size ho) (Nat.le_trans I.sz h)) (Nat.lt_irrefl _)
theorem Inv.cne (I:Inv X pins σ H s):∀ x c,X.env.cells.lookup x = some c -> c ≠ X.env.locals:=fun x c e z=>by
  obtain ⟨v,o,ho,hd⟩:=I.cell x c e
  obtain ⟨m,⟨o',es,ep,ho',hd',_⟩,_⟩:=I.loc
  rw [z,ho'] at ho; cases ho; rw [hd'] at hd; cases hd
theorem Inv.funs (I:Inv X pins σ H s):s.heap.FunFrames X.base X.outer:=by
  have all:∀ (l:List Env),(∀ b ∈ frs l,b ∈ X.fs) -> X.s_0.heap.FunFrames X.base l -> s.heap.FunFrames X.base l:=by
    intro l
    induction l with
    | nil=>intro _ _; trivial
    | cons env r ih =>
      intro hs hl
      obtain ⟨hk,⟨L,o,hf,hn,ho,hd⟩,hr⟩:=hl
      have hL:L ∈ X.fs:=hs L (by unfold frs; rw [List.filterMap_cons,hf]; exact List.mem_cons_self)
      obtain ⟨sl,e⟩:=I.base.slot L o ho (I.ok.frf L hL) hL fun z=>I.ok.exfs L z hL
      exact ⟨hk,⟨L,_,hf,hn,e,hd⟩,ih (fun b hb=>hs b (by unfold frs; rw [List.filterMap_cons,hf]; exact List.mem_cons_of_mem _ hb)) hr⟩
  exact all X.outer (fun _ hb=>hb) I.ok.funs
theorem Inv.stack (I:Inv X pins σ H s):s.heap.FunFrames X.base X.stack:=by
  rcases I.ok.stk with e | ⟨e,hf⟩
  · rw [e]; exact I.funs
  · rw [e]
    obtain ⟨m,hn,_⟩:=I.loc
    refine .cons (by rw [I.ok.kind]; decide) hf hn ?_ I.funs
    exact Heap.get?_none_of_le (Nat.le_trans I.ok.bsz I.ok.above)
theorem Inv.stkSub (I:Inv X pins σ H s):∀ b ∈ frs X.stack,b ∈ X.env.locals :: X.fs:=fun b hb=>by
  rcases I.ok.stk with e | ⟨e,hf⟩
  · rw [e] at hb; exact List.mem_cons_of_mem _ hb
  · rw [e] at hb
    unfold frs at hb
    rw [List.filterMap_cons,hf] at hb
    exact hb
theorem Inv.stkFree (I:Inv X pins σ H s):∀ b ∈ frs X.stack,H b = none:=fun b hb=>by
  rcases List.mem_cons.mp (I.stkSub b hb) with e | hb
  · rw [e]; exact I.free
  · obtain ⟨_,o,ho,_⟩:=I.ok.funs.mem hb
    exact I.base.free b o ho (I.ok.frf b hb) fun z=>I.ok.exfs b z hb
theorem Inv.step {g':Array GenState} {t':Nat} {d':Drawn} {ch:List Addr} (I:Inv X pins σ H s)
    (hch:∀ b ∈ ch,(b ∈ X.ex \/ X.s_0.heap.objs.size <= b) /\ b ≠ X.env.locals /\ (∀ x c,X.env.cells.lookup x = some c -> c ≠ b) /\ ∀ p ∈ X.pn ++ pins,p.1 ≠ b)
    (keep:∀ b o,b ≠ X.env.locals -> b ∉ X.fs -> b ∉ ch -> s.heap.get? b = some o -> H b = none -> h'.get? b = some o)
    (slot:∀ b o,b ≠ X.env.locals -> b ∈ X.fs -> b ∉ ch -> s.heap.get? b = some o -> H b = none -> ∃ sl,h'.get? b = some { o with slots:=sl }) (free:∀ b o,b ∉ ch -> s.heap.get? b = some o -> H b = none -> H' b = none)
    (there:∀ b o,b ∉ ch -> s.heap.get? b = some o -> ∃ o',h'.get? b = some o')
    (tups:∀ b xs,H b = some (.tup xs) -> H' b = some (.tup xs)) (frzs:∀ b o u,H b = some (.frz o u) -> H' b = some (.frz o u)) (tbls:∀ b ps,H b = some (.tbl ps) -> ∃ more,H' b = some (.tbl (ps ++ more)))
    (ns:∀ m,s.heap.Ns X.env.locals m -> h'.Ns X.env.locals m) (hok:HOk X.prog X.w H' h') (hg:AllBare g') :
    Inv X pins σ H' { s with heap:=h',gens:=g',drawn:=d',toks:=t' }:=by
  have neL:∀ b o,X.s_0.heap.get? b = some o -> b ≠ X.env.locals:=fun b o e=>Nat.ne_of_lt (Nat.lt_of_lt_of_le (Heap.lt_size e) I.ok.above)
  have neC:∀ b o,X.s_0.heap.get? b = some o -> b ∉ X.ex -> b ∉ ch:=fun b o e hx hb=>by
    rcases (hch b hb).1 with z | z
    · exact hx z
    · exact absurd (Nat.lt_of_lt_of_le (Heap.lt_size e) z) (Nat.lt_irrefl _)
  have cellK:∀ x c,X.env.cells.lookup x = some c -> ∀ v,s.heap.IsCell c v -> h'.IsCell c v:=fun x c e v ⟨o,ho,hd⟩=>by
    have nch:c ∉ ch:=fun z=>(hch c z).2.2.1 x c e rfl
    by_cases hc:c ∈ X.fs
    · obtain ⟨sl,q⟩:=slot c o (I.cne x c e) hc nch ho (I.freeC x c e)
      exact ⟨_,q,hd⟩
    · exact ⟨o,keep c o (I.cne x c e) hc nch ho (I.freeC x c e),hd⟩
  refine ⟨I.ok,I.os,hg,⟨fun b o e n hb hx=>?_,fun b o e n hb hx=>?_,fun b o e n hx=>?_,fun b o e hx=>?_,fun b xs e=>tups b xs (I.base.tups b xs e),fun b o xs e=>frzs b o xs (I.base.frzs b o xs e),fun b ps e=>?_⟩,?_,fun x c e=>?_,?_,fun x c e=>?_,fun p hp=>?_,hok,I.len⟩
  · exact keep b o (neL b o e) hb (neC b o e hx) (I.base.keep b o e n hb hx) (I.base.free b o e n hx)
  · obtain ⟨sl,e1⟩:=I.base.slot b o e n hb hx
    obtain ⟨sl',e2⟩:=slot b _ (neL b o e) hb (neC b o e hx) e1 (I.base.free b o e n hx)
    exact ⟨sl',e2⟩
  · obtain ⟨o',e1⟩:=I.base.there b o e hx
    exact free b o' (neC b o e hx) e1 (I.base.free b o e n hx)
  · obtain ⟨o',e1⟩:=I.base.there b o e hx
    exact there b o' (neC b o e hx) e1
  · obtain ⟨m1,e1⟩:=I.base.tbls b ps e
    obtain ⟨m2,e2⟩:=tbls b _ e1
    exact ⟨m1 ++ m2,by rw [e2,Array.append_assoc]⟩
  · obtain ⟨m,hn,hl⟩:=I.loc
    refine ⟨m,ns m hn,fun i x v e1 e2 e3=>?_⟩
    obtain ⟨u,r,l⟩:=hl i x v e1 e2 e3
    refine ⟨u,r,?_⟩
    rcases l with l | ⟨k,c,e,z⟩
    · exact .inl l
    · exact .inr ⟨k,c,e,cellK x c e _ z⟩
  · obtain ⟨v,z⟩:=I.cell x c e
    exact ⟨v,cellK x c e v z⟩
  · obtain ⟨m,⟨o,_,_,ho,_⟩,_⟩:=I.loc
    exact free _ o (fun z=>(hch _ z).2.1 rfl) ho I.free
  · obtain ⟨v,o,ho,hd⟩:=I.cell x c e
    exact free c o (fun z=>(hch c z).2.2.1 x c e rfl) ho (I.freeC x c e)
  · obtain ⟨e,n,ne,nf,d⟩:=I.pin p hp
    have nch:p.1 ∉ ch:=fun z=>(hch p.1 z).2.2.2 p hp rfl
    exact ⟨keep p.1 p.2 ne nf nch e n,free p.1 p.2 nch e n,ne,nf,d⟩
theorem Inv.un {t':Nat} (I:Inv X pins σ H s) (u:Un X.fs [] H H' s.heap h') (hok:HOk X.prog X.w H' h'):Inv X pins σ H' { s with heap:=h',toks:=t' }:=by
  obtain ⟨m,⟨o,es,ep,ho,r⟩,_⟩:=id I.loc
  obtain ⟨sl,hL⟩:=u.any ho I.free (by simp)
  exact I.step (g':=s.gens) (d':=s.drawn) (ch:=[]) (fun _ z=>nomatch z) (fun b o _ hb _ e n=>u.keep b o e n hb (by simp)) (fun b o _ hb _ e n=>u.slot b o e n hb (by simp)) (fun b o _ e n=>u.free b o e n (by simp)) (fun b o _ e=>u.there b o e (by simp)) u.tups u.frzs u.tbls (fun m' hm=>by
    obtain ⟨o',es',ep',ho',r'⟩:=hm
    rw [ho] at ho'; cases ho'
    exact ⟨_,es',ep',hL,r'⟩) hok I.bare
theorem Inv.call {g':Array GenState} {t':Nat} {d':Drawn} {ch:List Addr} (I:Inv X pins σ H s) (u:Un (frs X.stack) ch H H' s.heap h') (hok:HOk X.prog X.w H' h') (hg:AllBare g')
    (hch:∀ b ∈ ch,(b ∈ X.ex \/ X.s_0.heap.objs.size <= b) /\ b ≠ X.env.locals /\ (∀ x c,X.env.cells.lookup x = some c -> c ≠ b) /\ ∀ p ∈ X.pn ++ pins,p.1 ≠ b) :
    Inv X pins σ H' { s with heap:=h',gens:=g',drawn:=d',toks:=t' }:=by
  obtain ⟨m,⟨o,es,ep,ho,r⟩,_⟩:=id I.loc
  obtain ⟨sl,hL⟩:=u.any ho I.free fun z=>(hch _ z).2.1 rfl
  exact I.step (ch:=ch) hch (fun b o hL hb hc e n=>u.keep b o e n (fun z=>(List.mem_cons.mp (I.stkSub b z)).elim hL hb) hc) (fun b o _ _ hc e n=>u.any e n hc) (fun b o hc e n=>u.free b o e n hc) (fun b o hc e=>u.there b o e hc) u.tups u.frzs u.tbls (fun m' hm=>by
    obtain ⟨o',es',ep',ho',r'⟩:=hm
    rw [ho] at ho'; cases ho'
    exact ⟨_,es',ep',hL,r'⟩) hok hg
theorem Inv.turned {t':Nat} {it:Addr} (I:Inv X pins σ H s) (k:∀ b o,b ≠ it -> s.heap.get? b = some o -> h'.get? b = some o) (hn:H it = none) (hL:it ≠ X.env.locals)
    (h1:it ∈ X.ex \/ X.s_0.heap.objs.size <= it) (h2:∀ x c,X.env.cells.lookup x = some c -> c ≠ it) (h3:∀ p ∈ X.pn ++ pins,p.1 ≠ it):Inv X pins σ H { s with heap:=h',toks:=t' }:=by
  have nit:∀ b u,H b = some u -> b ≠ it:=fun b u e z=>by rw [z,hn] at e; cases e
  refine I.step (g':=s.gens) (d':=s.drawn) (ch:=[it]) (fun b hb=>?_) (fun b o _ _ hc e _=>k b o (fun z=>hc (by simp [z])) e) (fun b o _ _ hc e _=>⟨o.slots,k b o (fun z=>hc (by simp [z])) e⟩) (fun _ _ _ _ n=>n)
    (fun b o hc e=>⟨o,k b o (fun z=>hc (by simp [z])) e⟩) (fun _ _ e=>e) (fun _ _ _ e=>e) (fun b ps e=>⟨#[],by rw [e]; simp⟩) (fun m hm=>?_) (fun b u e=>?_) I.bare
  · have e:b = it:=by simpa using hb
    subst e
    exact ⟨h1,hL,h2,h3⟩
  · obtain ⟨o,es,ep,ho,r⟩:=hm
    exact ⟨o,es,ep,k _ o (Ne.symm hL) ho,r⟩
  · refine (I.hok b u e).stay (fun c v hc q=>k c v ?_ q) (fun _ q=>q) fun _ _ q=>q
    rcases hc with z | z
    · rw [z]; exact nit b u e
    · exact nit c _ z
theorem Inv.tok (I:Inv X pins σ H s) (t:Nat):Inv X pins σ H { s with toks:=t }:=I.un (h':=s.heap) (t':=t) Un.refl I.hok
theorem Inv.kept {t':Nat} (I:Inv X pins σ H s) (k:∀ b u,s.heap.get? b = some u -> h'.get? b = some u):Inv X pins σ H { s with heap:=h',toks:=t' }:=I.un (Un.kept k) (I.hok.kept k)
theorem Inv.laid {a:Addr} {o:HO} {t':Nat} (I:Inv X pins σ H s) (k:∀ b u,s.heap.get? b = some u -> h'.get? b = some u) (hp:s.heap.objs.size <= a) (new:ObjOk X.prog X.w (upd H a o) h' a o) :
    Inv X pins σ (upd H a o) { s with heap:=h',toks:=t' }:=I.un (Un.laid k hp (I.hok.fresh hp)) (I.hok.laid k hp new)
theorem Inv.write {x e:Addr} {o:HO} {t':Nat} (I:Inv X pins σ H s) (mu:Mut (H x)) (he:e = x \/ H e = some (.own x)) (k:∀ b u,b ≠ e -> s.heap.get? b = some u -> h'.get? b = some u) (heo:∃ u,h'.get? e = some u)
    (new:ObjOk X.prog X.w (upd H x o) h' x o):Inv X pins σ (upd H x o) { s with heap:=h',toks:=t' }:=I.un (Un.write mu he k heo) (I.hok.write mu he k heo new)
theorem Inv.weak {σ':List (Option V)} (I:Inv X pins σ H s) (hl:σ'.length = σ.length) (w:∀ (i:Nat) v,σ'[i]? = some (some v) -> σ[i]? = some (some v)):Inv X pins σ' H s :=
  ⟨I.ok,I.os,I.bare,I.base,let ⟨m,hn,hl'⟩:=I.loc; ⟨m,hn,fun i x v e1 e2 e3=>hl' i x v e1 (w i v e2) e3⟩,I.cell,I.free,I.freeC,I.pin,I.hok,hl.trans I.len⟩
theorem Inv.pins_of {pins':List (Addr × Obj)} (I:Inv X pins σ H s) (h:∀ p ∈ pins',s.heap.get? p.1 = some p.2 /\ H p.1 = none /\ p.1 ≠ X.env.locals /\ p.1 ∉ X.fs /\ ∀ v,p.2.data ≠ .cell v):Inv X pins' σ H s :=
  ⟨I.ok,I.os,I.bare,I.base,I.loc,I.cell,I.free,I.freeC,fun p hp=>(List.mem_append.mp hp).elim (fun z=>I.pin p (List.mem_append_left _ z)) (h p),I.hok,I.len⟩
theorem nodup_ix {N:List Str} (hN:N.Nodup) {i j:Nat} {x:Str} (a:N[i]? = some x) (b:N[j]? = some x):i = j:=by
  obtain ⟨h1,e1⟩:=List.getElem?_eq_some_iff.mp a
  obtain ⟨h2,e2⟩:=List.getElem?_eq_some_iff.mp b
  exact (List.getElem_inj hN).mp (e1.trans e2.symm)
theorem store_ok2 {M:Model} {A:Around} {E:Value -> Shared -> Prop} {i:Nat} {x:Str} {v:V} {u:Value} {Q:Unit -> Shared -> Prop} (I:Inv X pins σ H s) (hN:X.N.Nodup) (hi:X.N[i]? = some x) (hx:Loc X.env.scope x) (r:RelV v u)
    (h:∀ s',Inv X pins (σ.set i (some v)) H s' -> (∃ a,Heap.SameBut a s.heap s'.heap /\ (a = X.env.locals \/ X.env.cells.lookup x = some a)) -> Q () s') (hf:X.fn x = true \/ X.env.scope.names.lookup x = some .local:=by first | exact .inl rfl | exact .inr rfl | assumption):wpAny M A (storeName X.env x u) Q E s:=by
  obtain ⟨m,hn,hl⟩:=id I.loc
  have hcls:(X.env.scope.kind == .class || (X.env.scope.kind == .module && X.env.locals != X.env.globals)) = false:=by rw [I.ok.kind]; rfl
  have hiσ:i < σ.length:=by rw [I.len]; exact (List.getElem?_eq_some_iff.mp hi).1
  have cne:=I.cne
  have tracked:∀ {a:Addr} {h':Heap},(∃ o,s.heap.get? a = some o /\ H a = none) -> Heap.SameBut a s.heap h' -> HOk X.prog X.w H h':=fun {a h'} ha hs b ob e=>by
    obtain ⟨_,_,hfree⟩:=ha
    refine (I.hok b ob e).stay (fun c w' hc q=>(hs.2 c ?_).trans q) (fun _ q=>q) fun _ _ q=>q
    rintro rfl
    rcases hc with rfl | hc
    · rw [hfree] at e; cases e
    · rw [hfree] at hc; cases hc
  rcases hx with hk | hk
  · refine wpAny_storeName_local hk hn (fun h' hn' hs=>?_) hcls
    obtain ⟨oL,_,_,hoL,_⟩:=id hn
    refine h _ ⟨I.ok,I.os,I.bare,⟨fun b o e n hb hx=>?_,fun b o e n hb hx=>?_,I.base.free,fun b o e hx=>?_,I.base.tups,I.base.frzs,I.base.tbls⟩,⟨_,hn',fun j y v' e1 e2 e3=>?_⟩,fun y c e=>?_,I.free,I.freeC,fun p hp=>?_,tracked ⟨oL,hoL,I.free⟩ hs,by simpa using I.len⟩ ⟨_,hs,.inl rfl⟩
    · exact (hs.2 b (Nat.ne_of_lt (Nat.lt_of_lt_of_le (Heap.lt_size e) I.ok.above))).trans (I.base.keep b o e n hb hx)
    · obtain ⟨sl,e1⟩:=I.base.slot b o e n hb hx
      exact ⟨sl,(hs.2 b (Nat.ne_of_lt (Nat.lt_of_lt_of_le (Heap.lt_size e) I.ok.above))).trans e1⟩
    · obtain ⟨o',e1⟩:=I.base.there b o e hx
      exact ⟨o',(hs.2 b (Nat.ne_of_lt (Nat.lt_of_lt_of_le (Heap.lt_size e) I.ok.above))).trans e1⟩
    · by_cases hj:j = i
      · subst hj
        rw [hi] at e1; cases e1
        rw [List.getElem?_set_self hiσ] at e2
        cases e2
        exact ⟨u,r,.inl ⟨hk,by simp⟩⟩
      · rw [List.getElem?_set_ne (Ne.symm hj)] at e2
        obtain ⟨u',r',q⟩:=hl j y v' e1 e2 e3
        refine ⟨u',r',?_⟩
        rcases q with ⟨k,e⟩ | ⟨k,c,e,z⟩
        · refine .inl ⟨k,?_⟩
          have:y ≠ x:=fun e=>hj (nodup_ix hN e1 (e ▸ hi))
          simp [this,e]
        · exact .inr ⟨k,c,e,z.sameBut hs (cne y c e)⟩
    · obtain ⟨w',z⟩:=I.cell y c e
      exact ⟨w',z.sameBut hs (cne y c e)⟩
    · obtain ⟨e,n,ne,nf,d⟩:=I.pin p hp
      exact ⟨(hs.2 p.1 ne).trans e,n,ne,nf,d⟩
  · have hfn:X.fn x = true:=by
      rcases hf with z | z
      · exact z
      · rw [z] at hk; cases hk
    obtain ⟨c,hc⟩:=I.ok.has x (.inl hk)
    obtain ⟨w',z⟩:=I.cell x c hc
    refine wpAny_storeName_cell I.ok.kind hk hc z (fun h' hc' hs=>?_)
    obtain ⟨oc,hoc,hocd⟩:=id z
    refine h { s with heap:=h' } ⟨I.ok,I.os,I.bare,⟨fun b o e n hb hx=>?_,fun b o e n hb hx=>?_,I.base.free,fun b o e hx=>?_,I.base.tups,I.base.frzs,I.base.tbls⟩,⟨m,hn.sameBut hs (Ne.symm (cne x c hc)),fun j y v' e1 e2 e3=>?_⟩,fun y c' e=>?_,I.free,I.freeC,fun p hp=>?_,tracked ⟨oc,hoc,I.freeC x c hc⟩ hs,by simpa using I.len⟩ ⟨c,hs,.inr hc⟩
    · exact (hs.2 b (Nat.ne_of_lt (Nat.lt_of_lt_of_le (Heap.lt_size e) (I.ok.cab x c hfn hc)))).trans (I.base.keep b o e n hb hx)
    · obtain ⟨sl,e1⟩:=I.base.slot b o e n hb hx
      exact ⟨sl,(hs.2 b (Nat.ne_of_lt (Nat.lt_of_lt_of_le (Heap.lt_size e) (I.ok.cab x c hfn hc)))).trans e1⟩
    · obtain ⟨o',e1⟩:=I.base.there b o e hx
      exact ⟨o',(hs.2 b (Nat.ne_of_lt (Nat.lt_of_lt_of_le (Heap.lt_size e) (I.ok.cab x c hfn hc)))).trans e1⟩
    · by_cases hj:j = i
      · subst hj
        rw [hi] at e1; cases e1
        rw [List.getElem?_set_self hiσ] at e2
        cases e2
        exact ⟨u,r,.inr ⟨.inl hk,c,hc,hc'⟩⟩
      · rw [List.getElem?_set_ne (Ne.symm hj)] at e2
        obtain ⟨u',r',q⟩:=hl j y v' e1 e2 e3
        refine ⟨u',r',?_⟩
        rcases q with q | ⟨k,c',e,z'⟩
        · exact .inl q
        · refine .inr ⟨k,c',e,z'.sameBut hs ?_⟩
          rintro rfl
          exact hj (nodup_ix hN e1 (I.ok.inj _ _ _ e hc ▸ hi))
    · by_cases hcc:c' = c
      · subst hcc; exact ⟨_,hc'⟩
      · obtain ⟨w2,z2⟩:=I.cell y c' e
        exact ⟨w2,z2.sameBut hs hcc⟩
    · obtain ⟨e,n,ne,nf,d⟩:=I.pin p hp
      refine ⟨(hs.2 p.1 ?_).trans e,n,ne,nf,d⟩
      intro q
      rw [q,hoc] at e
      have q':oc = p.2:=Option.some.inj e
      exact d w' (by rw [<- q']; exact hocd)
theorem store_ok {M:Model} {A:Around} {E:Value -> Shared -> Prop} {i:Nat} {x:Str} {v:V} {u:Value} {Q:Unit -> Shared -> Prop} (I:Inv X pins σ H s) (hN:X.N.Nodup) (hi:X.N[i]? = some x) (hx:Loc X.env.scope x) (r:RelV v u)
    (h:∀ s',Inv X pins (σ.set i (some v)) H s' -> Q () s') (hf:X.fn x = true \/ X.env.scope.names.lookup x = some .local:=by first | exact .inl rfl | exact .inr rfl | assumption):wpAny M A (storeName X.env x u) Q E s :=
  store_ok2 I hN hi hx r (fun s' I' _=>h s' I') hf
theorem Inv.call' {s':Shared} {ch:List Addr} (I:Inv X pins σ H s) (ho:s'.os = s.os) (u:Un (frs X.stack) ch H H' s.heap s'.heap) (hok:HOk X.prog X.w H' s'.heap) (hg:AllBare s'.gens)
    (hch:∀ b ∈ ch,(b ∈ X.ex \/ X.s_0.heap.objs.size <= b) /\ b ≠ X.env.locals /\ (∀ x c,X.env.cells.lookup x = some c -> c ≠ b) /\ ∀ p ∈ X.pn ++ pins,p.1 ≠ b):Inv X pins σ H' s':=by
  obtain ⟨h',g',d',t',o'⟩:=s'
  have e:o' = s.os:=ho
  subst e
  exact I.call (g':=g') (t':=t') (d':=d') u hok hg hch
end
abbrev XK:=Value -> Option Addr -> Hp -> Prop
abbrev St:=List (Option V)
abbrev VK:=V -> Hp -> Prop
abbrev TE:=St -> Hp -> VK -> Prop
abbrev TT:=St -> Hp -> (Bool -> Hp -> Prop) -> Prop
abbrev TA:=St -> Hp -> (List V -> Hp -> Prop) -> Prop
structure Ends where
  nx:St -> Hp -> Prop
  rt:VK
  bk:St -> Hp -> Prop:=fun _ _=>False
  ct:St -> Hp -> Prop:=fun _ _=>False
abbrev TS:=Ends -> St -> Hp -> Prop
def EP (X:Cx) (pins:List (Addr × Obj)) (σ:St) (Q:VK) (u:Value) (s':Shared):Prop:=∃ v H',Inv X pins σ H' s' /\ RelV v u /\ Q v H'
def TP (X:Cx) (pins:List (Addr × Obj)) (σ:St) (Q:Bool -> Hp -> Prop) (b:Bool) (s':Shared):Prop:=∃ H',Inv X pins σ H' s' /\ Q b H'
def AP (X:Cx) (pins:List (Addr × Obj)) (σ:St) (Q:List V -> Hp -> Prop) (us:List Value) (s':Shared):Prop:=∃ vs H',Inv X pins σ H' s' /\ Vals vs us /\ Q vs H'
def SP (X:Cx) (pins:List (Addr × Obj)) (D:Ends) (f:Flow) (s':Shared):Prop :=
  match f with
  | .next=>∃ σ' H',Inv X pins σ' H' s' /\ D.nx σ' H'
  | .brk=>∃ σ' H',Inv X pins σ' H' s' /\ D.bk σ' H'
  | .cont=>∃ σ' H',Inv X pins σ' H' s' /\ D.ct σ' H'
  | .ret u=>∃ v σ' H',Inv X pins σ' H' s' /\ RelV v u /\ D.rt v H'
def PE (X:Cx) (e:Expr) (t:TE):Prop :=
  ∀ (pins:List (Addr × Obj)) (s:Shared) (σ:St) (H:Hp) (Q:VK),Inv X pins σ H s -> t σ H Q -> wpAny (model X.prog X.w) X.A (eval e X.env) (EP X pins σ Q) X.xe s
def PT (X:Cx) (e:Expr) (t:TT):Prop :=
  ∀ (pins:List (Addr × Obj)) (s:Shared) (σ:St) (H:Hp) (Q:Bool -> Hp -> Prop),Inv X pins σ H s -> t σ H Q -> wpAny (model X.prog X.w) X.A (isTrue e X.env (eval e X.env)) (TP X pins σ Q) X.xe s
def PW (X:Cx) (e:Expr) (t:TT):Prop :=
  ∀ (whole:Sem Value) (pins:List (Addr × Obj)) (s:Shared) (σ:St) (H:Hp) (Q:Bool -> Hp -> Prop),Inv X pins σ H s -> t σ H Q -> wpAny (model X.prog X.w) X.A (isTrue e X.env whole) (TP X pins σ Q) X.xe s
theorem PW.pt {X:Cx} {e:Expr} {t:TT} (h:PW X e t):PT X e t:=h _
def PA (X:Cx) (es:List Expr) (t:TA):Prop :=
  ∀ (pos:Pos) (pins:List (Addr × Obj)) (s:Shared) (σ:St) (H:Hp) (Q:List V -> Hp -> Prop),Inv X pins σ H s -> t σ H Q -> wpAny (model X.prog X.w) X.A (spliced (backTo pos (starEach es X.env))) (AP X pins σ Q) X.xe s
def PS (X:Cx) (st:Stmt) (t:TS):Prop :=
  ∀ (pins:List (Addr × Obj)) (s:Shared) (σ:St) (H:Hp) (D:Ends),Inv X pins σ H s -> t D σ H -> wpAny (model X.prog X.w) X.A (exec st X.env) (SP X pins D) X.xe s
def PSs (X:Cx) (st:List Stmt) (t:TS):Prop :=
  ∀ (pins:List (Addr × Obj)) (s:Shared) (σ:St) (H:Hp) (D:Ends),Inv X pins σ H s -> t D σ H -> wpAny (model X.prog X.w) X.A (execs st X.env) (SP X pins D) X.xe s
theorem thn {α:Type} {t:Sem α} {Q Q':α -> Shared -> Prop} {M:Model} {A:Around} {E:Value -> Shared -> Prop} {s:Shared} (h:wpAny M A t Q E s) (hQ:∀ a s,Q a s -> Q' a s):wpAny M A t Q' E s:=wpAny_mono h hQ fun _ _ x=>x
end L2
namespace L2
open PySem PySem.Spec PyProof.Rows
section
variable {X:Cx}
def tVar (i:Nat):TE:=fun σ H Q=>∃ v,σ[i]? = some (some v) /\ Q v H
def tC (v:V):TE:=fun _ H Q=>Q v H
theorem pe_var {i:Nat} {x:Str} {pos:Pos} (hN:X.N[i]? = some x) (hv:Vis X.env.scope x) (hd:(x == ("__debug__":Str)) = false:=by decide) (hcd:(x == ("__classdict__":Str)) = false:=by decide):PE X (.Name x pos) (tVar i):=by
  intro pins s σ H Q I h
  obtain ⟨v,e,h⟩:=h
  obtain ⟨m,hn,hl⟩:=I.loc
  obtain ⟨u,r,l⟩:=hl i x v hN e hv
  have fin:EP X pins σ Q u s:=⟨v,H,I,r,h⟩
  rcases l with ⟨hk,hm⟩ | ⟨hk,c,hc,hcell⟩
  · exact wpAny_Name (wpAny_loadName_local I.ok.kind hk hn hm fin) hd
  · rcases hk with hk | hk
    · exact wpAny_Name (wpAny_loadName_cell I.ok.kind hk hc hcell fin) hd
    · exact wpAny_Name (wpAny_loadName_free I.ok.kind hk hc hcell fin hcd) hd
theorem pe_int {i j pos}:PE X (.Constant (.int i) j pos) (tC (.int i)):=fun _ _ _ H _ I h=>wpAny_Constant_int ⟨.int i,H,I.tok _,⟨_,rfl⟩,h⟩
theorem pe_bl {b j pos}:PE X (.Constant (.bool b) j pos) (tC (.bl b)):=fun _ _ _ H _ I h=>Constant_bool ⟨.bl b,H,I,rfl,h⟩
theorem pe_non {j pos}:PE X (.Constant .none j pos) (tC .non):=fun _ _ _ H _ I h=>Constant_none ⟨.non,H,I,rfl,h⟩
theorem pe_str {x j pos}:PE X (.Constant (.str x) j pos) (tC (.str x)):=fun _ _ _ H _ I h=>Calls.Constant_str ⟨.str x,H,I.tok _,⟨_,rfl⟩,h⟩
def Gl (X:Cx) (x:Str):Prop:=X.env.kindOf x = some .globalImplicit
theorem ld_glob {E:Value -> Shared -> Prop} {pins:List (Addr × Obj)} {s:Shared} {σ:St} {H:Hp} {x:Str} {u:Value} {pos:Pos} {Q:Value -> Shared -> Prop} (I:Inv X pins σ H s) (hg:Gl X x) (hm:X.mg x = some u) (h:Q u s)
    (hd:(x == ("__debug__":Str)) = false:=by decide):wpAny (model X.prog X.w) X.A (eval (.Name x pos) X.env) Q E s :=
  Calls.Name_function_global I.ok.kind hg (Calls.loadGlobal_global (by rw [I.ok.glob]; exact I.mod.glob.keeps I.bk) hm h) hd
theorem ld_blt {E:Value -> Shared -> Prop} {pins:List (Addr × Obj)} {s:Shared} {σ:St} {H:Hp} {x:Str} {u:Value} {pos:Pos} {Q:Value -> Shared -> Prop} (I:Inv X pins σ H s) (hg:Gl X x) (hm:X.mg x = none) (hv:bootBuiltins x = some u) (h:Q u s)
    (hn:x ≠ "__name__":=by decide) (hd:(x == ("__debug__":Str)) = false:=by decide):wpAny (model X.prog X.w) X.A (eval (.Name x pos) X.env) Q E s:=by
  obtain ⟨mb,h1,h2⟩:=I.mod.blt
  exact Calls.Name_function_global I.ok.kind hg (Calls.loadGlobal_builtin (by rw [I.ok.glob]; exact I.mod.glob.keeps I.bk) hm (by rw [I.ok.blt]; exact h1.keeps I.bk) ((h2 x hn).trans hv) h) hd
theorem pe_glob {x:Str} {v:V} {u:Value} {pos:Pos} (hg:Gl X x) (hm:X.mg x = some u) (r:RelV v u) (hd:(x == ("__debug__":Str)) = false:=by decide):PE X (.Name x pos) (tC v) :=
  fun _ _ _ H _ I h=>ld_glob I hg hm ⟨v,H,I,r,h⟩ hd
variable {a b:Expr} {ta tb:TE} {pos:Pos}
def tB (t:TE):TT:=fun σ H Q=>t σ H fun x H1=>∃ c,x = .bl c /\ Q c H1
theorem pt_val {e:Expr} {t:TE} (h:PE X e t) (he:∀ whole,isTrue e X.env whole = (do let v <- whole; standAt e.pos; holding [v] (truthy v)):=by intro _; rfl):PT X e (tB t):=by
  intro pins s σ H Q I hw
  refine isTrue_plain (thn (h pins s σ H _ I hw) fun v s1 ⟨x,H1,I1,r1,q1⟩=>?_) (he _)
  obtain ⟨d,rfl,q⟩:=q1
  cases r1
  exact wpAny_truthy_bool ⟨H1,I1,q⟩
variable {tA tB':TT} {rest:List Expr}
def tAnd (t u:TT):TT:=fun σ H Q=>t σ H fun c H1=>if c = true then u σ H1 Q else Q false H1
def tOr (t u:TT):TT:=fun σ H Q=>t σ H fun c H1=>if c = true then Q true H1 else u σ H1 Q
def tNot (t:TT):TT:=fun σ H Q=>t σ H fun c H1=>Q (!c) H1
theorem pw_and1 (ha:PT X a tA):PW X (.BoolOp .And [a] pos) tA:=by
  intro wh pins s σ H Q I h
  refine isTrue_and (thn (ha pins s σ H Q I h) fun c s1 e=>?_)
  cases c with
  | true=>exact isTrue_and_nil e
  | false=>exact e
theorem pw_or1 (ha:PT X a tA):PW X (.BoolOp .Or [a] pos) tA:=by
  intro wh pins s σ H Q I h
  refine isTrue_or (thn (ha pins s σ H Q I h) fun c s1 e=>?_)
  cases c with
  | false=>exact isTrue_or_nil e
  | true=>exact e
theorem pw_and (ha:PT X a tA) (hb:PW X (.BoolOp .And (b :: rest) pos) tB'):PW X (.BoolOp .And (a :: b :: rest) pos) (tAnd tA tB'):=by
  intro wh pins s σ H Q I h
  refine isTrue_and (thn (ha pins s σ H _ I h) fun c s1 ⟨H1,I1,q1⟩=>?_)
  cases c with
  | true=>exact hb wh pins s1 σ H1 Q I1 q1
  | false=>exact ⟨H1,I1,q1⟩
theorem pw_or (ha:PT X a tA) (hb:PW X (.BoolOp .Or (b :: rest) pos) tB'):PW X (.BoolOp .Or (a :: b :: rest) pos) (tOr tA tB'):=by
  intro wh pins s σ H Q I h
  refine isTrue_or (thn (ha pins s σ H _ I h) fun c s1 ⟨H1,I1,q1⟩=>?_)
  cases c with
  | true=>exact ⟨H1,I1,q1⟩
  | false=>exact hb wh pins s1 σ H1 Q I1 q1
theorem pt_not (ha:PT X a tA):PT X (.UnaryOp .Not a pos) (tNot tA):=by
  intro pins s σ H Q I h
  exact isTrue_not (ha pins s σ H (fun c H1=>Q (!c) H1) I h)
def tAndV (ta tb:TE):TE:=fun σ H Q=>ta σ H fun x H1=>∃ c,x = .bl c /\ if c = true then tb σ H1 Q else Q (.bl false) H1
def tNotV (ta:TE):TE:=fun σ H Q=>ta σ H fun x H1=>∃ c,x = .bl c /\ Q (.bl (!c)) H1
theorem pe_one {op} {t:TE} (h:PE X a t):PE X (.BoolOp op [a] pos) t:=fun pins s σ H Q I hw=>BoolOp_one (h pins s σ H Q I hw)
theorem pe_and (ha:PE X a ta) (hb:PE X (.BoolOp .And (b :: rest) pos) tb):PE X (.BoolOp .And (a :: b :: rest) pos) (tAndV ta tb):=by
  intro pins s σ H Q I h
  refine BoolOp_and (thn (ha pins s σ H _ I h) fun v s1 ⟨x,H1,I1,r1,q1⟩=>?_)
  obtain ⟨c,rfl,q1⟩:=q1
  cases r1
  refine wpAny_truthy_bool ?_
  cases c with
  | true=>exact hb pins s1 σ H1 Q I1 q1
  | false=>exact ⟨.bl false,H1,I1,rfl,q1⟩
theorem pe_not (ha:PE X a ta):PE X (.UnaryOp .Not a pos) (tNotV ta):=by
  intro pins s σ H Q I h
  refine UnaryOp_ (thn (ha pins s σ H _ I h) fun v s1 ⟨x,H1,I1,r1,q1⟩=>?_)
  obtain ⟨c,rfl,q1⟩:=q1
  cases r1
  exact not_of (wpAny_truthy_bool ⟨.bl (!c),H1,I1,rfl,q1⟩)
def tIf (t:TT) (ta tb:TE):TE:=fun σ H Q=>t σ H fun c H1=>if c = true then ta σ H1 Q else tb σ H1 Q
theorem pe_ifExp {c:Expr} (hc:PT X c tA) (ha:PE X a ta) (hb:PE X b tb):PE X (.IfExp c a b pos) (tIf tA ta tb):=by
  intro pins s σ H Q I h
  refine wpAny_IfExp (thn (hc pins s σ H _ I h) fun d s1 ⟨H1,I1,q1⟩=>?_)
  cases d with
  | true=>exact ha pins s1 σ H1 Q I1 q1
  | false=>exact hb pins s1 σ H1 Q I1 q1
end
end L2
namespace L2
open PySem PySem.Spec PyProof.Rows
def SqL (K:PySem.W.Frag) (H:Hp) (a:Addr) (xs:List V):Prop :=
  Rd H a (.lst xs) ∨
    ∃ (o:Obj) (its:Array Value) (n:Nat),K.lookup a = some o /\ o.cls = .type "list" /\ o.dict = none /\ o.data = .seq its n /\ its.size <= sizeLine /\ Vals xs its.toList
def SqT (K:PySem.W.Frag) (H:Hp) (a:Addr) (xs:List V):Prop :=
  Rd H a (.tup xs) ∨
    ∃ (o:Obj) (its:Array Value) (n:Nat),K.lookup a = some o /\ o.cls = .type "tuple" /\ o.data = .seq its n /\ its.size <= sizeLine /\ Vals xs its.toList
def absV:Value -> Option V
  | .none=>some .non
  | .bool b=>some (.bl b)
  | .int i _=>some (.int i)
  | .str x _=>some (.str x)
  | .bytes b _=>some (.byt b)
  | .float b _=>some (.flt b)
  | .ref a=>some (.ref a)
  | .type n=>some (.ty n)
  | _=>none
theorem RelV.abs {x:V} {u:Value} (r:RelV x u):absV u = some x:=by
  cases x with
  | non=>cases r; rfl
  | bl _=>cases r; rfl
  | int _=>obtain ⟨t,rfl⟩:=r; rfl
  | str _=>obtain ⟨t,rfl⟩:=r; rfl
  | byt _=>obtain ⟨t,rfl⟩:=r; rfl
  | flt _=>obtain ⟨t,rfl⟩:=r; rfl
  | ref _=>cases r; rfl
  | ty _=>cases r; rfl
theorem RelV.inj {x y:V} {u:Value} (r:RelV x u) (q:RelV y u):x = y:=Option.some.inj (r.abs.symm.trans q.abs)
theorem Vals.inj:∀ {xs ys:List V} {us:List Value},Vals xs us -> Vals ys us -> xs = ys
  | _,_,_,.nil,.nil=>rfl
  | _,_,_,.cons r t,.cons r' t'=>by rw [r.inj r',Vals.inj t t']
section
variable {X:Cx} {pins:List (Addr × Obj)} {σ:St} {H:Hp} {s:Shared} {a:Addr} {xs ys:List V}
theorem SqL.of {K:PySem.W.Frag} (h:H a = some (.lst xs)):SqL K H a xs:=.inl (.inl h)
theorem SqT.of {K:PySem.W.Frag} (h:H a = some (.tup xs)):SqT K H a xs:=.inl (.inl h)
theorem Inv.list (I:Inv X pins σ H s) (h:SqL X.K H a xs):∃ its:List Value,Vals xs its /\ PlainL s.heap a its.toArray /\ xs.length <= sizeLine:=by
  rcases h with h | ⟨o,its,n,hk,hc,hd,hs,hz,r⟩
  · obtain ⟨z,its,n,r,e⟩:=h.ok I.hok
    exact ⟨its,r,⟨_,n,e,rfl,rfl,rfl⟩,z⟩
  · refine ⟨its.toList,r,⟨o,n,I.kIn a o hk,hc,hd,by simpa using hs⟩,?_⟩
    have e:=r.length
    simp only [Array.length_toList] at e
    omega
theorem Inv.tuple (I:Inv X pins σ H s) (h:SqT X.K H a xs):∃ its:List Value,Vals xs its /\ IsTup s.heap a its.toArray /\ xs.length <= sizeLine:=by
  rcases h with h | ⟨o,its,n,hk,hc,hs,hz,r⟩
  · obtain ⟨z,its,r,p⟩:=h.ok I.hok
    exact ⟨its,r,p,z⟩
  · refine ⟨its.toList,r,⟨o,I.kIn a o hk,hc,n,by simpa using hs⟩,?_⟩
    have e:=r.length
    simp only [Array.length_toList] at e
    omega
theorem Inv.list_inj (I:Inv X pins σ H s) (h:SqL X.K H a xs) (h':SqL X.K H a ys):xs = ys:=by
  obtain ⟨its,r,⟨o,n,e,_,_,d⟩,_⟩:=I.list h
  obtain ⟨its',r',⟨o',n',e',_,_,d'⟩,_⟩:=I.list h'
  rw [e] at e'; cases e'
  rw [d] at d'
  injection d' with d1 _
  have:its = its':=by simpa using congrArg Array.toList d1
  subst this
  exact r.inj r'
end
abbrev Cx.wish (X:Cx) (E:Value -> Shared -> Prop):Cx:={ X with xe:=E }
abbrev Cx.nox (X:Cx):Cx:=X.wish fun _ _=>False
theorem Cx.Ok.wish {X:Cx} (ok:X.Ok) (E:Value -> Shared -> Prop):(X.wish E).Ok :=
  ⟨ok.mod,ok.kind,ok.glob,ok.blt,ok.above,ok.inj,ok.has,ok.cab,ok.hd,ok.frames,ok.stk,ok.exf,ok.bs,ok.bsz,ok.noex,ok.exfs,ok.funs,ok.frf⟩
theorem Cx.Ok.unwish {X:Cx} {E:Value -> Shared -> Prop} (ok:(X.wish E).Ok):X.Ok :=
  ⟨ok.mod,ok.kind,ok.glob,ok.blt,ok.above,ok.inj,ok.has,ok.cab,ok.hd,ok.frames,ok.stk,ok.exf,ok.bs,ok.bsz,ok.noex,ok.exfs,ok.funs,ok.frf⟩
section
variable {X:Cx} {pins:List (Addr × Obj)} {σ:St} {H:Hp} {s:Shared} {E:Value -> Shared -> Prop}
theorem Inv.wish (I:Inv X pins σ H s) (E:Value -> Shared -> Prop):Inv (X.wish E) pins σ H s:=⟨I.ok.wish E,I.os,I.bare,I.base,I.loc,I.cell,I.free,I.freeC,I.pin,I.hok,I.len⟩
theorem Inv.unwish (I:Inv (X.wish E) pins σ H s):Inv X pins σ H s:=⟨I.ok.unwish,I.os,I.bare,I.base,I.loc,I.cell,I.free,I.freeC,I.pin,I.hok,I.len⟩
theorem SP.unwish {D:Ends} {f:Flow} {s':Shared} (h:SP (X.wish E) pins D f s'):SP X pins D f s':=by
  cases f with
  | next=>obtain ⟨σ',H',I,q⟩:=h; exact ⟨σ',H',I.unwish,q⟩
  | brk=>obtain ⟨σ',H',I,q⟩:=h; exact ⟨σ',H',I.unwish,q⟩
  | cont=>obtain ⟨σ',H',I,q⟩:=h; exact ⟨σ',H',I.unwish,q⟩
  | ret u=>obtain ⟨v,σ',H',I,r,q⟩:=h; exact ⟨v,σ',H',I.unwish,r,q⟩
theorem PSs.nox {st:List Stmt} {t:TS} (h:PSs X.nox st t):PSs X st t:=fun pins s σ H D I hw =>
  wpAny_mono (h pins s σ H D (I.wish _) hw) (fun _ _ q=>q.unwish) fun _ _ z=>False.elim z
end
section
variable {X:Cx} {st:Stmt} {rest:List Stmt} {t u:TS} {e:Expr} {te:TE} {pos:Pos}
def tNext:TS:=fun D σ H=>D.nx σ H
def tSeq (t u:TS):TS:=fun D σ H=>t { D with nx:=u D } σ H
theorem pss_nil:PSs X [] tNext:=fun _ _ σ H _ I h=>wpAny_execs_nil ⟨σ,H,I,h⟩
theorem pss_cons (h1:PS X st t) (h2:PSs X rest u):PSs X (st :: rest) (tSeq t u):=by
  intro pins s σ H D I h
  refine wpAny_execs_cons (thn (h1 pins s σ H { D with nx:=u D } I h) fun f s1 q=>?_)
  cases f with
  | next =>
    obtain ⟨σ',H',I',q⟩:=q
    exact h2 pins s1 σ' H' D I' q
  | ret v=>exact q
  | brk=>exact q
  | cont=>exact q
theorem pss_one (h1:PS X st t):PSs X [st] t:=by
  intro pins s σ H D I h
  refine wpAny_execs_cons (thn (h1 pins s σ H D I h) fun f s1 q=>?_)
  cases f with
  | next=>exact wpAny_execs_nil q
  | ret v=>exact q
  | brk=>exact q
  | cont=>exact q
theorem Inv.quiet {pins:List (Addr × Obj)} {σ:St} {H:Hp} {s:Shared} (I:Inv X pins σ H s):interactive X.env = false:=by simp [interactive,I.ok.kind]
def tDrop (te:TE):TS:=fun D σ H=>te σ H fun _ H1=>D.nx σ H1
theorem ps_expr (he:PE X e te) (hs:swapsWith e none pos.line X.env = pure false:=by rfl):PS X (.Expr e pos) (tDrop te):=by
  intro pins s σ H D I h
  exact wpAny_Expr_any (thn (he pins s σ H _ I h) fun v s1 ⟨x,H1,I1,r1,q1⟩=>⟨σ,H1,I1,q1⟩) I.quiet hs
def tRet (te:TE):TS:=fun D σ H=>te σ H D.rt
theorem ps_ret (he:PE X e te):PS X (.Return (some e) pos) (tRet te):=by
  intro pins s σ H D I h
  exact wpAny_Return_some (thn (he pins s σ H _ I h) fun v s1 ⟨x,H1,I1,r1,q1⟩=>⟨x,σ,H1,I1,r1,q1⟩)
def tIfS (c:TT) (t u:TS):TS:=fun D σ H=>c σ H fun b H1=>if b = true then t D σ H1 else u D σ H1
theorem ps_if {c:Expr} {a b:List Stmt} {tc:TT} (hc:PT X c tc) (ha:PSs X a t) (hb:PSs X b u):PS X (.If c a b pos) (tIfS tc t u):=by
  intro pins s σ H D I h
  refine wpAny_If (thn (hc pins s σ H _ I h) fun d s1 ⟨H1,I1,q1⟩=>?_)
  cases d with
  | true=>exact ha pins s1 σ H1 D I1 q1
  | false=>exact hb pins s1 σ H1 D I1 q1
end
abbrev TG:=V -> St -> Hp -> (St -> Hp -> Prop) -> Prop
abbrev TGs:=List V -> St -> Hp -> (St -> Hp -> Prop) -> Prop
def PG (X:Cx) (target:Expr) (t:TG):Prop :=
  ∀ (pins:List (Addr × Obj)) (s:Shared) (σ:St) (H:Hp) (v:V) (u:Value) (Q:St -> Hp -> Prop),Inv X pins σ H s -> RelV v u -> t v σ H Q →
    wpAny (model X.prog X.w) X.A (assign target X.env u) (fun _ s'=>∃ σ' H',Inv X pins σ' H' s' /\ Q σ' H') X.xe s
def PGs (X:Cx) (ts:List Expr) (t:TGs):Prop :=
  ∀ (pins:List (Addr × Obj)) (s:Shared) (σ:St) (H:Hp) (vs:List V) (us:List Value) (Q:St -> Hp -> Prop),Inv X pins σ H s -> Vals vs us -> t vs σ H Q →
    wpAny (model X.prog X.w) X.A (assignInOrder ((assignEach ts X.env).map (·.2)) us) (fun _ s'=>∃ σ' H',Inv X pins σ' H' s' /\ Q σ' H') X.xe s
abbrev TSet:=V -> V -> V -> Hp -> (Hp -> Prop) -> Prop
def PSet (X:Cx) (t:TSet):Prop :=
  ∀ (pins:List (Addr × Obj)) (s:Shared) (σ:St) (H:Hp) (o i v:V) (ov iv u:Value) (Q:Hp -> Prop),Inv X pins σ H s -> RelV o ov -> RelV i iv -> RelV v u -> t o i v H Q →
    wpAny (model X.prog X.w) X.A (setItem ov iv u) (fun _ s'=>∃ H',Inv X pins σ H' s' /\ Q H') X.xe s
section
variable {X:Cx} {pos:Pos}
def gName (i:Nat):TG:=fun v σ H Q=>Q (σ.set i (some v)) H
theorem pg_name {i:Nat} {x:Str} (hN:X.N.Nodup) (hi:X.N[i]? = some x) (hx:Loc X.env.scope x) (hf:X.fn x = true \/ X.env.scope.names.lookup x = some .local:=by first | exact .inl rfl | exact .inr rfl | assumption):PG X (.Name x pos) (gName i):=by
  intro pins s σ H v u Q I r h
  exact wpAny_assign_Name (store_ok I hN hi hx r (fun s' I'=>⟨_,H,I',h⟩) hf)
def gNil:TGs:=fun vs σ H Q=>vs = [] /\ Q σ H
def gCons (t:TG) (u:TGs):TGs:=fun vs σ H Q=>∃ v r,vs = v :: r /\ t v σ H fun σ' H'=>u r σ' H' Q
theorem pgs_nil:PGs X [] gNil:=by
  intro pins s σ H vs us Q I r h
  obtain ⟨e,h⟩:=h
  subst e
  cases r
  exact assignInOrder_nil ⟨σ,H,I,h⟩
theorem pgs_cons {e:Expr} {es:List Expr} {t:TG} {u:TGs} (h1:PG X e t) (h2:PGs X es u)
    (hs:(assignEach (e :: es) X.env).map (·.2) = assign e X.env :: (assignEach es X.env).map (·.2):=by rfl):PGs X (e :: es) (gCons t u):=by
  intro pins s σ H vs us Q I r h
  obtain ⟨v,vr,e1,h⟩:=h
  subst e1
  cases r with
  | cons r rr =>
    rw [hs]
    refine assignInOrder_cons (thn (h1 pins s σ H _ _ _ I r h) fun _ s1 ⟨σ1,H1,I1,q1⟩=>?_)
    exact h2 pins s1 σ1 H1 _ _ Q I1 rr q1
def gTup (K:PySem.W.Frag) (n:Nat) (t:TGs):TG:=fun v σ H Q=>∃ a xs,v = .ref a /\ SqT K H a xs /\ xs.length = n /\ t xs σ H Q
theorem pg_tup {es:List Expr} {k:Nat} {t:TGs} {n:Nat} (hc:X.calm = true) (h:PGs X es t)
    (hn:(assignEach es X.env).length = n:=by rfl) (hst:(assignEach es X.env).findIdx? (·.1) = none:=by rfl):PG X (.Tuple es k pos) (gTup X.K n t):=by
  intro pins s σ H v u Q I r hw
  obtain ⟨a,xs,e1,hq,hl,hw⟩:=hw
  subst e1
  cases r
  obtain ⟨its,rv,ht,hz⟩:=I.tuple hq
  refine assign_Tuple_tuple (I.ok.hd hc) ht (by simp [hn,<- hl,rv.length]) hst fun h' hx=>?_
  have I1:Inv X pins σ H { s with heap:=h' }:=I.kept (t':=s.toks) fun b o e=>hx b o (Nat.ne_of_lt (Heap.lt_size e)) e
  exact h pins _ σ H xs _ Q I1 (by simpa using rv) hw
def gSub (to ti:TE) (t:TSet):TG:=fun v σ H Q=>to σ H fun o H1=>ti σ H1 fun i H2=>t o i v H2 fun H3=>Q σ H3
theorem pg_sub {o i:Expr} {to ti:TE} {t:TSet} (ho:PE X o to) (hi:PE X i ti) (hs:PSet X t)
    (ha:∀ v,assign (.Subscript o i pos) X.env v = (do
      let ov <- holding [v] (eval o X.env)
      let iv <- holding [v,ov] (eval i X.env)
      standAt pos
      holding [v,ov,iv] (setItem ov iv v)
      release [v,ov,iv] []):=by intro _; rfl):PG X (.Subscript o i pos) (gSub to ti t):=by
  intro pins s σ H v u Q I r h
  rw [ha]
  refine wpAny_bind (wpAny_holding (thn (ho pins s σ H _ I h) fun ov s1 ⟨x,H1,I1,r1,q1⟩=>?_))
  refine wpAny_bind (wpAny_holding (thn (hi pins s1 σ H1 _ I1 q1) fun iv s2 ⟨y,H2,I2,r2,q2⟩=>?_))
  refine wpAny_bind (wpAny_standAt (wpAny_bind (wpAny_holding (thn (hs pins s2 σ H2 x y v ov iv u _ I2 r1 r2 r q2) fun _ s3 ⟨H3,I3,q3⟩=>?_))))
  exact wpAny_release ⟨σ,H3,I3,q3⟩
def tAsg (te:TE) (g:TG):TS:=fun D σ H=>te σ H fun x H1=>g x σ H1 D.nx
theorem ps_asg {tg e:Expr} {te:TE} {g:TG} (he:PE X e te) (hg:PG X tg g) (hs:swapsWithSole [tg] e pos.line X.env = pure false:=by rfl) (hw:swappedStores [tg] e X.env = pure none:=by rfl)
    (h1:(assignEach [tg] X.env).map (·.2) = [assign tg X.env]:=by rfl):PS X (.Assign [tg] e pos) (tAsg te g):=by
  intro pins s σ H D I h
  refine wpAny_Assign_stores (thn (he pins s σ H _ I h) fun v s1 ⟨x,H1,I1,r1,q1⟩=>?_) hs hw
  rw [h1]
  exact thn (hg pins s1 σ H1 x v _ I1 r1 q1) fun _ s2 q=>q
theorem ps_set {i:Nat} {x:Str} {e:Expr} {te:TE} {pos':Pos} (hN:X.N.Nodup) (hi:X.N[i]? = some x) (hx:Loc X.env.scope x) (he:PE X e te) (hs:swapsWith e (some (.Name x pos')) pos.line X.env = pure false:=by rfl) (hf:X.fn x = true \/ X.env.scope.names.lookup x = some .local:=by first | exact .inl rfl | exact .inr rfl | assumption) :
    PS X (.Assign [.Name x pos'] e pos) (tAsg te (gName i)):=by
  intro pins s σ H D I h
  refine wpAny_Assign_Name (thn (he pins s σ H _ I h) fun v s1 ⟨y,H1,I1,r1,q1⟩=>?_) hs
  exact store_ok I1 hN hi hx r1 (fun s2 I2=>⟨_,H1,I2,q1⟩) hf
end
section
variable {X:Cx} {pos:Pos}
def tWhile (c:TT) (tb:TS):TS:=fun D σ H=>∃ W:Nat -> St -> Hp -> Prop,(∃ m,W m σ H) /\ ∀ m σ H,W m σ H →
  c σ H fun b H1=>if b = true then ∃ N:St -> Hp -> Prop,(∀ σ' H',N σ' H' -> ∃ m',m' < m /\ W m' σ' H') /\ tb { D with nx:=N,ct:=N,bk:=D.nx } σ H1 else D.nx σ H1
theorem ps_while {c:Expr} {body:List Stmt} {tc:TT} {tb:TS} (hp:PassesOwn (model X.prog X.w) X.A X.env X.xe) (hc:PT X c tc) (hb:PSs X body tb):PS X (.While c body [] pos) (tWhile tc tb):=by
  intro pins s σ H D I h
  obtain ⟨W,⟨m0,w0⟩,turn⟩:=h
  refine wpAny_While (codeAny_whileLoop (fun n s'=>∃ σ' H',Inv X pins σ' H' s' /\ W n σ' H') ?_ m0 ⟨σ,H,I,w0⟩)
  rintro n s1 ⟨σ1,H1,I1,w1⟩
  refine wpAny_passesOwn hp (thn (hc pins s1 σ1 H1 _ I1 (turn n σ1 H1 w1)) fun b s2 ⟨H2,I2,q2⟩=>?_)
  cases b with
  | true =>
    obtain ⟨N,hN,q2⟩:=q2
    rw [if_pos rfl]
    refine wpAny_passesOwn hp (thn (hb pins s2 σ1 H2 _ I2 q2) fun f s3 q3=>?_)
    cases f with
    | next =>
      obtain ⟨σ3,H3,I3,n3⟩:=q3
      obtain ⟨m',hm,w3⟩:=hN σ3 H3 n3
      exact ⟨m',hm,σ3,H3,I3,w3⟩
    | cont =>
      obtain ⟨σ3,H3,I3,n3⟩:=q3
      obtain ⟨m',hm,w3⟩:=hN σ3 H3 n3
      exact ⟨m',hm,σ3,H3,I3,w3⟩
    | brk=>exact q3
    | ret v=>exact q3
  | false =>
    rw [if_neg Bool.false_ne_true]
    exact wpAny_execs_nil ⟨σ1,H2,I2,q2⟩
end
structure It where
  go:Nat -> Hp -> Prop
  yld:Nat -> Hp -> V -> Hp -> Prop
  stop:Nat -> Hp -> Prop
def FpOk (X:Cx) (pins:List (Addr × Obj)) (H:Hp) (b:Addr):Prop :=
  H b = none /\ b ≠ X.env.locals /\ b ∉ X.fs /\ (b ∈ X.ex \/ X.s_0.heap.objs.size <= b) /\ (∀ x c,X.env.cells.lookup x = some c -> c ≠ b) /\ ∀ p ∈ X.pn ++ pins,p.1 ≠ b
theorem Inv.fpOk {X:Cx} {pins:List (Addr × Obj)} {σ:St} {H H':Hp} {s:Shared} {b:Addr} (I:Inv X pins σ H s) (hb:s.heap.objs.size <= b) (hn:H' b = none):FpOk X pins H' b:=by
  refine ⟨hn,Nat.ne_of_gt (Nat.lt_of_lt_of_le I.lt hb),I.nofs hb,.inr (Nat.le_trans I.sz hb),fun x c e z=>?_,fun p hp z=>?_⟩
  · obtain ⟨v,q⟩:=I.cell x c e
    exact absurd (Nat.lt_of_lt_of_le q.lt (by rw [z]; exact hb)) (Nat.lt_irrefl _)
  · exact absurd (Nat.lt_of_lt_of_le (Heap.lt_size (I.pin p hp).1) (by rw [z]; exact hb)) (Nat.lt_irrefl _)
structure Turn (P:Program) (w:World) (K:PySem.W.Frag) (tg:Expr) (J:It) (fp:List Addr) (it:Addr) (tn:Nat -> Heap -> Prop):Prop where
  mem:it ∈ fp
  obj:∀ i h,tn i h -> ∀ b ∈ fp,∃ o,h.get? b = some o /\ ∀ v,o.data ≠ .cell v
  keep:∀ i h h',tn i h -> (∀ b ∈ fp,∀ o,h.get? b = some o -> h'.get? b = some o) -> tn i h'
  item:∀ (X:Cx),X.prog = P -> X.w = w -> X.K = K -> X.calm = true -> ∀ (i:Nat) (pins:List (Addr × Obj)) (s:Shared) (σ:St) (H:Hp) (E:Value -> Shared -> Prop),Inv X pins σ H s -> (∀ b ∈ fp,FpOk X pins H b) -> tn i s.heap -> J.go i H →
    wpAny (model P w) X.A (pyNext (.ref it)) (fun r s1=>∃ u,r = some u ∧
      wpAny (model P w) X.A (letOwnedTupleGo tg (.ref it) u) (fun _ s2=>∃ x H',Inv X pins σ H' s2 /\ RelV x u /\ J.yld i H x H' /\ tn (i + 1) s2.heap /\ ∀ b ∈ fp,H' b = none) E s1) E s
  done:∀ (X:Cx),X.prog = P -> X.w = w -> X.K = K -> X.calm = true -> ∀ (i:Nat) (pins:List (Addr × Obj)) (s:Shared) (σ:St) (H:Hp) (E:Value -> Shared -> Prop),Inv X pins σ H s -> (∀ b ∈ fp,FpOk X pins H b) -> tn i s.heap -> J.stop i H →
    wpAny (model P w) X.A (pyNext (.ref it)) (fun r s1=>r = none /\ Inv X pins σ H s1) E s
  self:∀ (A:Around) (i:Nat) (s:Shared) (Q:Value -> Shared -> Prop) (E:Value -> Shared -> Prop),tn i s.heap -> Q (.ref it) s -> wpAny (model P w) A (pyIter (.ref it)) Q E s
abbrev TI:=St -> Hp -> (It -> Hp -> Prop) -> Prop
def PIE (X:Cx) (pins:List (Addr × Obj)) (σ:St) (tg:Expr) (R:It -> Hp -> Prop) (itv:Value) (s2:Shared):Prop :=
  ∃ (it:Addr) (fp:List Addr) (tn:Nat -> Heap -> Prop) (J:It) (H':Hp),itv = .ref it /\ Inv X pins σ H' s2 /\ Turn X.prog X.w X.K tg J fp it tn /\ tn 0 s2.heap /\ (∀ b ∈ fp,FpOk X pins H' b) /\ R J H'
def PI (X:Cx) (tg iter:Expr) (wi:TI):Prop :=
  ∀ (pins:List (Addr × Obj)) (s:Shared) (σ:St) (H:Hp) (R:It -> Hp -> Prop),Inv X pins σ H s -> wi σ H R →
    wpAny (model X.prog X.w) X.A (eval iter X.env) (fun v s1=>wpAny (model X.prog X.w) X.A (pyIter v) (PIE X pins σ tg R) X.xe s1) X.xe s
theorem go_of {M:Model} {A:Around} {E:Value -> Shared -> Prop} {s:Shared} {tg:Expr} {it:Addr} {u:Value} {o:Obj} {n:String} {vs:Array Value} {Q:Unit -> Shared -> Prop} (ho:s.heap.get? it = some o) (hc:o.cls = .type n) (hd:o.data = .fields vs)
    (hn:["enumerate","zip","dict_itemiterator","dict_reverseitemiterator","odict_iterator","itertools.zip_longest","itertools.pairwise"].contains n = false) (hQ:Q () s):wpAny M A (letOwnedTupleGo tg (.ref it) u) Q E s:=by
  unfold letOwnedTupleGo
  cases tg <;> first
    | exact wpAny_pure hQ
    | (cases u <;> first
        | exact wpAny_pure hQ
        | (refine wpAny_bind (wpAny_load ho ?_)
           rw [hc,hd]
           show wpAny M A (if (["enumerate","zip","dict_itemiterator","dict_reverseitemiterator","odict_iterator","itertools.zip_longest","itertools.pairwise"].contains n && vs[0]? == some (rawInt _)) = true then _ else _) Q E s
           rw [if_neg (by intro h; rw [hn,Bool.false_and] at h; cases h)]
           exact wpAny_pure hQ))
def Itl (K:PySem.W.Frag) (a:Addr):It :=
  ⟨fun i H=>∃ xs x,SqL K H a xs /\ xs[i]? = some x,fun i H x H'=>H' = H /\ ∀ xs,SqL K H a xs -> xs[i]? = some x,fun i H=>∃ xs,SqL K H a xs /\ xs.length <= i⟩
def Itr (lo:Int) (n:Nat):It:=⟨fun i _=>i < n,fun i H x H'=>H' = H /\ x = .int (lo + i),fun i _=>n <= i⟩
theorem turn_list {P:Program} {w:World} {K:PySem.W.Frag} {tg:Expr} (a it:Addr):Turn P w K tg (Itl K a) [it] it (fun i h=>h.IsListIter it a i) where
  mem:=by simp
  obj:=fun i h st b hb=>by
    have e:b = it:=by simpa using hb
    subst e
    obtain ⟨o,e,c,d⟩:=st
    exact ⟨o,e,fun v z=>by rw [d] at z; cases z⟩
  keep:=fun i h h' st k=>st.at fun o e=>k it (by simp) o e
  item:=by
    intro X hP hw hK hc i pins s σ H E I hf st hg
    subst hP hw hK
    obtain ⟨xs,x,hq,hx⟩:=hg
    obtain ⟨its,rv,p,hz⟩:=I.list hq
    obtain ⟨u,hu,ru⟩:=rv.get hx
    obtain ⟨f0,f1,f2,f3,f4,f5⟩:=hf it (by simp)
    refine wpAny_pyNext_list_item st p.isList (x:=u) (by simpa using hu) fun h' st' sb=>?_
    have I1:Inv X pins σ H { s with heap:=h' }:=I.turned (t':=s.toks) (fun b o hb e=>(sb.2 b hb).trans e) f0 f1 f3 f4 f5
    obtain ⟨o,e,c,d⟩:=id st'
    exact ⟨u,rfl,go_of (s:={ s with heap:=h' }) e c d (by decide) ⟨x,H,I1,ru,⟨rfl,fun ys hy=>by rw [I.list_inj hy hq]; exact hx⟩,st',fun b hb=>(hf b hb).1⟩⟩
  done:=by
    intro X hP hw hK hc i pins s σ H E I hf st hg
    subst hP hw hK
    obtain ⟨xs,hq,hx⟩:=hg
    obtain ⟨its,rv,p,hz⟩:=I.list hq
    obtain ⟨f0,f1,f2,f3,f4,f5⟩:=hf it (by simp)
    have hl:=rv.length
    exact wpAny_pyNext_list_end (I.ok.hd hc) st p.isList (by simp; omega) fun h' eb=>⟨rfl,I.turned (t':=s.toks) (fun b o hb e=>eb b o hb e) f0 f1 f3 f4 f5⟩
  self:=fun _ _ _ _ _ st h=>wpAny_pyIter_listiter st h
theorem turn_range {P:Program} {w:World} {K:PySem.W.Frag} {tg:Expr} (it:Addr) (lo:Int) (n:Nat):Turn P w K tg (Itr lo n) [it] it (fun i h=>IsRangeIter h it (lo + (i:Nat) * 1) ((n:Int) - (i:Nat)) 1) where
  mem:=by simp
  obj:=fun i h st b hb=>by
    have e:b = it:=by simpa using hb
    subst e
    exact ⟨_,st,fun v z=>by
      have z':Data.fields _ = Data.cell v:=z
      cases z'⟩
  keep:=fun i h h' st k=>k it (by simp) _ st
  item:=by
    intro X hP hw hK hc i pins s σ H E I hf st hg
    subst hP hw hK
    obtain ⟨f0,f1,f2,f3,f4,f5⟩:=hf it (by simp)
    have W:=Walks.range (prog:=X.prog) (w:=X.w) (I.ok.hd hc) it lo 1 n
    refine W.item i s _ _ hg st fun v h' tk hv st' kk=>?_
    obtain ⟨t,rfl⟩:=hv
    have I1:Inv X pins σ H { s with heap:=h',toks:=tk }:=I.turned (fun b o hb e=>kk b o (by simpa using hb) e) f0 f1 f3 f4 f5
    refine ⟨_,rfl,go_of (s:={ s with heap:=h',toks:=tk }) (n:="range_iterator") st' rfl rfl (by decide) ⟨.int (lo + i),H,I1,⟨t,?_⟩,⟨rfl,rfl⟩,st',fun b hb=>(hf b hb).1⟩⟩
    rw [Int.mul_one]
  done:=by
    intro X hP hw hK hc i pins s σ H E I hf st hg
    subst hP hw hK
    obtain ⟨f0,f1,f2,f3,f4,f5⟩:=hf it (by simp)
    exact wpAny_pyNext_range_end (I.ok.hd hc) st (by have:n <= i:=hg; omega) fun h' eb=>⟨rfl,I.turned (t':=s.toks) (fun b o hb e=>eb b o hb e) f0 f1 f3 f4 f5⟩
  self:=fun _ _ _ _ _ st h=>wpAny_pyIter_rangeiter st h
end L2
namespace L2
open PySem PySem.Spec PyProof.Rows
section
variable {X:Cx} {tg:Expr}
def iList (K:PySem.W.Frag) (tl:TE):TI:=fun σ H R=>tl σ H fun x H1=>∃ a,x = .ref a /\ (∃ xs,SqL K H1 a xs) /\ R (Itl K a) H1
theorem pi_list {l:Expr} {tl:TE} (hl:PE X l tl):PI X tg l (iList X.K tl):=by
  intro pins s σ H R I h
  refine thn (hl pins s σ H _ I h) fun v s1 ⟨x,H1,I1,r1,q1⟩=>?_
  obtain ⟨a,e,⟨xs,hq⟩,q⟩:=q1
  subst e
  cases r1
  obtain ⟨its,rv,p,hz⟩:=I1.list hq
  refine wpAny_pyIter_list p.isList ?_
  refine ⟨s1.heap.objs.size,[s1.heap.objs.size],_,_,H1,rfl,I1.kept (t':=s1.toks) fun b o e=>Heap.get?_push_of_some _ e,turn_list a _,⟨_,Heap.get?_push_size _ rfl,rfl,rfl⟩,fun b hb=>?_,q⟩
  have e:b = s1.heap.objs.size:=by simpa using hb
  subst e
  exact I1.fpOk (Nat.le_refl _) (I1.hok.fresh (Nat.le_refl _))
theorem range_it {pins:List (Addr × Obj)} {σ:St} {H:Hp} {s:Shared} {R:It -> Hp -> Prop} {E:Value -> Shared -> Prop} {lo hi:Int} {t u v:Tok} {tk:Nat} (I:Inv X pins σ H s) (h1:-(2 ^ 62) <= lo) (h2:lo < 2 ^ 62) (h3:-(2 ^ 62) <= hi) (h4:hi < 2 ^ 62)
    (q:R (Itr lo (hi - lo).toNat) H):wpAny (model X.prog X.w) X.A (pyIter (.ref s.heap.objs.size)) (PIE X pins σ tg R) E { s with heap:=s.heap.push { cls:=.type "range",data:=.fields #[.int lo t,.int hi u,.int 1 v] },toks:=tk }:=by
  refine wpAny_pyIter_range (IsRange.new ..) (small_one h1 h2 h3 h4) ?_
  have I1:Inv X pins σ H { s with heap:=s.heap.push { cls:=.type "range",data:=.fields #[.int lo t,.int hi u,.int 1 v] },toks:=tk }:=I.kept fun b o e=>Heap.get?_push_of_some _ e
  refine ⟨(s.heap.push { cls:=.type "range",data:=.fields #[.int lo t,.int hi u,.int 1 v] }).objs.size,[(s.heap.push { cls:=.type "range",data:=.fields #[.int lo t,.int hi u,.int 1 v] }).objs.size],_,_,H,rfl,
    I1.kept (t':=tk) fun b o e=>Heap.get?_push_of_some _ e,turn_range _ lo (hi - lo).toNat,?_,fun b hb=>?_,q⟩
  · have e1:lo + ((0:Nat):Int) * 1 = lo:=by simp
    have e2:(((hi - lo).toNat:Nat):Int) - ((0:Nat):Int) = Builtin.Range.rangeSize lo hi 1:=by rw [rangeSize_one]; split <;> omega
    show IsRangeIter _ _ (lo + ((0:Nat):Int) * 1) ((((hi - lo).toNat:Nat):Int) - ((0:Nat):Int)) 1
    rw [e1,e2]
    exact Heap.get?_push_size _ rfl
  · have e:b = (s.heap.push { cls:=.type "range",data:=.fields #[.int lo t,.int hi u,.int 1 v] }).objs.size:=by simpa using hb
    subst e
    exact I1.fpOk (Nat.le_refl _) (I1.hok.fresh (Nat.le_refl _))
def iRng1 (ta:TA):TI:=fun σ H R=>ta σ H fun vs H1=>∃ j:Int,vs = [.int j] /\ -(2 ^ 62) <= j /\ j < 2 ^ 62 /\ R (Itr 0 j.toNat) H1
theorem pi_range1 {a:Expr} {ta:TA} {p pos:Pos} (hg:Gl X "range") (hm:X.mg "range" = none) (ha:PA X [a] ta) (hs:starEach [a] X.env = [(false,eval a X.env)]:=by rfl):PI X tg (.Call (.Name "range" p) [a] [] pos) (iRng1 ta):=by
  intro pins s σ H R I h
  refine Call_ (ld_blt I hg hm boot_range (PyProof.Rows.callWith_type1 (thn (ha pos pins s σ H _ I h) fun us s1 ⟨vs,H1,I1,r1,q1⟩=>?_) hs rfl))
  obtain ⟨j,e,q1,q2,q⟩:=q1
  subst e
  cases r1 with
  | cons r rr =>
    cases rr
    obtain ⟨t,rfl⟩:=r
    exact call_range_1 (range_it I1 (by omega) (by omega) q1 q2 (by simpa using q))
def tFor (wi:TI) (g:TG) (tb:TS):TS:=fun D σ H=>wi σ H fun J H1=>∃ W:Nat -> Nat -> St -> Hp -> Prop,(∃ m,W 0 m σ H1) /\ ∀ i m σ H,W i m σ H →
  (J.stop i H /\ D.nx σ H) \/ (J.go i H /\ ∃ N:St -> Hp -> Prop,(∀ σ' H',N σ' H' -> ∃ m',m' < m /\ W (i + 1) m' σ' H') /\ ∀ x H',J.yld i H x H' -> g x σ H' fun σ2 H2=>tb { D with nx:=N,ct:=N,bk:=D.nx } σ2 H2)
def pinsAt (fp:List Addr) (h:Heap):List (Addr × Obj):=fp.filterMap fun b=>(h.get? b).map fun o=>(b,o)
theorem mem_pinsAt {fp:List Addr} {h:Heap} {b:Addr} {o:Obj} (hb:b ∈ fp) (e:h.get? b = some o):(b,o) ∈ pinsAt fp h:=List.mem_filterMap.mpr ⟨b,hb,by rw [e]; rfl⟩
theorem of_pinsAt {fp:List Addr} {h:Heap} {p:Addr × Obj} (hp:p ∈ pinsAt fp h):p.1 ∈ fp /\ h.get? p.1 = some p.2:=by
  obtain ⟨b,hb,e⟩:=List.mem_filterMap.mp hp
  cases q:h.get? b with
  | none=>rw [q] at e; cases e
  | some o =>
    rw [q] at e
    have e':(b,o) = p:=Option.some.inj e
    subst e'
    exact ⟨hb,q⟩
theorem Inv.pinned {pins:List (Addr × Obj)} {σ:St} {H:Hp} {s:Shared} {fp:List Addr} (I:Inv X pins σ H s) (hf:∀ b ∈ fp,FpOk X pins H b) (ho:∀ b ∈ fp,∃ o,s.heap.get? b = some o /\ ∀ v,o.data ≠ .cell v):Inv X (pins ++ pinsAt fp s.heap) σ H s :=
  I.pins_of fun p hp=>(List.mem_append.mp hp).elim (fun z=>I.pin p (List.mem_append_right _ z)) fun z=>by
    obtain ⟨hb,e⟩:=of_pinsAt z
    obtain ⟨f0,f1,f2,_⟩:=hf p.1 hb
    obtain ⟨o,e',d⟩:=ho p.1 hb
    rw [e] at e'; cases e'
    exact ⟨e,f0,f1,f2,d⟩
theorem Inv.unpinned {pins pl:List (Addr × Obj)} {σ:St} {H:Hp} {s:Shared} (I:Inv X (pins ++ pl) σ H s):Inv X pins σ H s:=I.pins_of fun p hp=>I.pin p (List.mem_append_right _ (List.mem_append_left _ hp))
theorem ps_for {iter:Expr} {body:List Stmt} {wi:TI} {g:TG} {tb:TS} {pos:Pos} (hp:PassesOwn (model X.prog X.w) X.A X.env X.xe) (hc:X.calm = true) (hi:PI X tg iter wi) (hg:PG X tg g) (hb:PSs X body tb)
    (hs:∀ x,foldedSetIterable iter X.env x = pure x:=by intro _; rfl):PS X (.For tg iter body [] pos) (tFor wi g tb):=by
  intro pins s σ H D I h
  refine wpAny_For (thn (hi pins s σ H _ I h) fun v s1 h1=>thn h1 fun itv s2 h2=>?_) hs
  obtain ⟨it,fp,tn,J,H2,e,I2,T,st2,f2,W,⟨m0,w0⟩,turn⟩:=h2
  subst e
  have stat:∀ {H':Hp},(∀ b ∈ fp,H' b = none) -> ∀ b ∈ fp,FpOk X pins H' b:=fun hn b hb=>⟨hn b hb,(f2 b hb).2⟩
  refine codeAny_forLoop_any (fun n s'=>∃ i σ' H',Inv X pins σ' H' s' /\ tn i s'.heap /\ (∀ b ∈ fp,H' b = none) /\ W i n σ' H') ?_ m0 ⟨0,σ,H2,I2,st2,fun b hb=>(f2 b hb).1,w0⟩
  rintro n s3 ⟨i,σ3,H3,I3,st3,fr3,w3⟩
  rcases turn i n σ3 H3 w3 with ⟨stop,qn⟩ | ⟨go,N,hN,step⟩
  · refine wpAny_passesOwn hp (thn (T.done X rfl rfl rfl hc i pins s3 σ3 H3 X.xe I3 (stat fr3) st3 stop) fun r s4 ⟨hr,I4⟩=>?_)
    subst hr
    exact wpAny_execs_nil ⟨σ3,H3,I4,qn⟩
  · refine wpAny_passesOwn hp (thn (T.item X rfl rfl rfl hc i pins s3 σ3 H3 X.xe I3 (stat fr3) st3 go) fun r s4 ⟨u,hr,h4⟩=>?_)
    subst hr
    refine wpAny_passesOwn hp (thn h4 fun _ s5 ⟨x,H5,I5,r5,y5,st5,fr5⟩=>?_)
    have I5':=I5.pinned (stat fr5) (T.obj _ _ st5)
    refine wpAny_passesOwn hp (thn (hg _ s5 σ3 H5 x u _ I5' r5 (step x H5 y5)) fun _ s6 ⟨σ6,H6,I6,q6⟩=>?_)
    refine wpAny_passesOwn hp (thn (hb _ s6 σ6 H6 _ I6 q6) fun f s7 q7=>?_)
    have again:∀ {σ7:St} {H7:Hp},Inv X (pins ++ pinsAt fp s5.heap) σ7 H7 s7 -> N σ7 H7 -> ∃ m,m < n /\ ∃ i σ' H',Inv X pins σ' H' s7 /\ tn i s7.heap /\ (∀ b ∈ fp,H' b = none) /\ W i m σ' H':=fun {σ7 H7} I7 n7=>by
      obtain ⟨m',hm,w7⟩:=hN σ7 H7 n7
      refine ⟨m',hm,i + 1,σ7,H7,I7.unpinned,T.keep _ _ _ st5 fun b hb o e=>(I7.pin (b,o) (List.mem_append_right _ (List.mem_append_right _ (mem_pinsAt hb e)))).1,fun b hb=>?_,w7⟩
      obtain ⟨o,e,d⟩:=T.obj _ _ st5 b hb
      exact (I7.pin (b,o) (List.mem_append_right _ (List.mem_append_right _ (mem_pinsAt hb e)))).2.1
    cases f with
    | next=>obtain ⟨σ7,H7,I7,n7⟩:=q7; exact again I7 n7
    | cont=>obtain ⟨σ7,H7,I7,n7⟩:=q7; exact again I7 n7
    | brk=>obtain ⟨σ7,H7,I7,q7⟩:=q7; exact ⟨σ7,H7,I7.unpinned,q7⟩
    | ret v=>obtain ⟨x7,σ7,H7,I7,r7,q7⟩:=q7; exact ⟨x7,σ7,H7,I7.unpinned,r7,q7⟩
end
theorem for_list {K:PySem.W.Frag} {a:Addr} {xs:List V} {g:TG} {tb:TS} {D:Ends} {σ:St} {H:Hp} (Pv:Nat -> St -> Hp -> Prop) (h0:Pv 0 σ H) (hl:∀ i σ H,i <= xs.length -> Pv i σ H -> SqL K H a xs)
    (hs:∀ i x σ H,xs[i]? = some x -> Pv i σ H -> g x σ H fun σ2 H2=>tb { D with nx:=Pv (i + 1),ct:=Pv (i + 1),bk:=D.nx } σ2 H2) (hd:∀ σ H,Pv xs.length σ H -> D.nx σ H) :
    ∃ W:Nat -> Nat -> St -> Hp -> Prop,(∃ m,W 0 m σ H) /\ ∀ i m σ H,W i m σ H →
      ((Itl K a).stop i H /\ D.nx σ H) \/ ((Itl K a).go i H /\ ∃ N:St -> Hp -> Prop,(∀ σ' H',N σ' H' -> ∃ m',m' < m /\ W (i + 1) m' σ' H') /\ ∀ x H',(Itl K a).yld i H x H' -> g x σ H' fun σ2 H2=>tb { D with nx:=N,ct:=N,bk:=D.nx } σ2 H2):=by
  refine ⟨fun i m σ H=>m = xs.length - i /\ i <= xs.length /\ Pv i σ H,⟨xs.length,by simp,Nat.zero_le _,h0⟩,?_⟩
  rintro i m σ H ⟨rfl,hi,p⟩
  have q:=hl i σ H hi p
  by_cases hlt:i < xs.length
  · refine .inr ⟨⟨xs,xs[i],q,by simp [hlt]⟩,Pv (i + 1),fun σ' H' p'=>⟨xs.length - (i + 1),by omega,rfl,hlt,p'⟩,fun x H' y=>?_⟩
    obtain ⟨e,y⟩:=y
    subst e
    exact hs i x σ _ (y xs q) p
  · have e:i = xs.length:=by omega
    subst e
    exact .inl ⟨⟨xs,q,Nat.le_refl _⟩,hd σ H p⟩
theorem for_range {lo:Int} {n:Nat} {g:TG} {tb:TS} {D:Ends} {σ:St} {H:Hp} (Pv:Nat -> St -> Hp -> Prop) (h0:Pv 0 σ H)
    (hs:∀ i σ H,i < n -> Pv i σ H -> g (.int (lo + i)) σ H fun σ2 H2=>tb { D with nx:=Pv (i + 1),ct:=Pv (i + 1),bk:=D.nx } σ2 H2) (hd:∀ σ H,Pv n σ H -> D.nx σ H) :
    ∃ W:Nat -> Nat -> St -> Hp -> Prop,(∃ m,W 0 m σ H) /\ ∀ i m σ H,W i m σ H →
      ((Itr lo n).stop i H /\ D.nx σ H) \/ ((Itr lo n).go i H /\ ∃ N:St -> Hp -> Prop,(∀ σ' H',N σ' H' -> ∃ m',m' < m /\ W (i + 1) m' σ' H') /\ ∀ x H',(Itr lo n).yld i H x H' -> g x σ H' fun σ2 H2=>tb { D with nx:=N,ct:=N,bk:=D.nx } σ2 H2):=by
  refine ⟨fun i m σ H=>m = n - i /\ i <= n /\ Pv i σ H,⟨n,by simp,Nat.zero_le _,h0⟩,?_⟩
  rintro i m σ H ⟨rfl,hi,p⟩
  by_cases hlt:i < n
  · refine .inr ⟨hlt,Pv (i + 1),fun σ' H' p'=>⟨n - (i + 1),by omega,rfl,hlt,p'⟩,fun x H' y=>?_⟩
    obtain ⟨e,y⟩:=y
    subst e y
    exact hs i σ _ hlt p
  · have e:i = n:=by omega
    subst e
    exact .inl ⟨Nat.le_refl _,hd σ H p⟩
theorem while_by {c:TT} {tb:TS} {D:Ends} {σ:St} {H:Hp} (Pv:St -> Hp -> Prop) (μ:St -> Hp -> Nat) (h0:Pv σ H)
    (hs:∀ σ H,Pv σ H -> c σ H fun b H1=>if b = true then tb { D with nx:=fun σ' H'=>Pv σ' H' /\ μ σ' H' < μ σ H,ct:=fun σ' H'=>Pv σ' H' /\ μ σ' H' < μ σ H,bk:=D.nx } σ H1 else D.nx σ H1)
    (mono:∀ σ H Q Q',(∀ b H1,Q b H1 -> Q' b H1) -> c σ H Q -> c σ H Q'):tWhile c tb D σ H:=by
  refine ⟨fun m σ H=>m = μ σ H /\ Pv σ H,⟨_,rfl,h0⟩,?_⟩
  rintro m σ H ⟨rfl,p⟩
  refine mono σ H _ _ (fun b H1 q=>?_) (hs σ H p)
  cases b with
  | true=>exact ⟨_,fun σ' H' ⟨p',l⟩=>⟨_,l,rfl,p'⟩,q⟩
  | false=>exact q
end L2
namespace L2
open PySem PySem.Spec PyProof.Rows
abbrev R2:=V -> V -> Hp -> VK -> Prop
def OpR (X:Cx) (f:Value -> Value -> Sem Value) (r:R2):Prop :=
  ∀ (pins:List (Addr × Obj)) (s:Shared) (σ:St) (H:Hp) (x y:V) (v u:Value) (Q:VK),Inv X pins σ H s -> RelV x v -> RelV y u -> r x y H Q →
    wpAny (model X.prog X.w) X.A (f v u) (EP X pins σ Q) X.xe s
def CallR (X:Cx) (f:Value) (r:List V -> Hp -> VK -> Prop):Prop :=
  ∀ (pins:List (Addr × Obj)) (s:Shared) (σ:St) (H:Hp) (xs:List V) (us:List Value) (Q:VK),Inv X pins σ H s -> Vals xs us -> r xs H Q →
    wpAny (model X.prog X.w) X.A (call f us) (EP X pins σ Q) X.xe s
def tOp (r:R2) (ta tb:TE):TE:=fun σ H Q=>ta σ H fun x H1=>tb σ H1 fun y H2=>r x y H2 Q
def rI (C:Int -> Int -> Prop) (g:Int -> Int -> V):R2:=fun x y H Q=>∃ i j,x = .int i /\ y = .int j /\ C i j /\ Q (g i j) H
def rI0 (g:Int -> Int -> V):R2:=fun x y H Q=>∃ i j,x = .int i /\ y = .int j /\ Q (g i j) H
section
variable {X:Cx} {a b c:Expr} {ta tb tc:TE} {pos:Pos}
theorem binT (ha:PE X a ta) (hb:PE X b tb) {pins:List (Addr × Obj)} {s:Shared} {σ:St} {H:Hp} {R:V -> V -> Hp -> Prop} (I:Inv X pins σ H s)
    (h:ta σ H fun x H1=>tb σ H1 fun y H2=>R x y H2) {Q:Value -> Shared -> Prop} {f:Value -> Value -> Sem Value}
    (hf:∀ v u s2 x y H2,Inv X pins σ H2 s2 -> RelV x v -> RelV y u -> R x y H2 -> wpAny (model X.prog X.w) X.A (f v u) Q X.xe s2) :
    wpAny (model X.prog X.w) X.A (eval a X.env) (fun v s₁=>wpAny (model X.prog X.w) X.A (eval b X.env) (fun u s₂=>wpAny (model X.prog X.w) X.A (f v u) Q X.xe s₂) X.xe s₁) X.xe s:=by
  refine thn (ha pins s σ H _ I h) fun v s1 ⟨x,H1,I1,r1,q1⟩=>?_
  refine thn (hb pins s1 σ H1 _ I1 q1) fun u s2 ⟨y,H2,I2,r2,q2⟩=>?_
  exact hf v u s2 x y H2 I2 r1 r2 q2
theorem pe_op {op:Operator} {r:R2} (ho:OpR X (binaryOp op) r) (ha:PE X a ta) (hb:PE X b tb):PE X (.BinOp a op b pos) (tOp r ta tb):=by
  intro pins s σ H Q I h
  exact wpAny_BinOp (binT ha hb I h fun v u s2 x y H2 I2 rx ry q=>ho pins s2 σ H2 x y v u Q I2 rx ry q)
theorem opI {f:Value -> Value -> Sem Value} {C:Int -> Int -> Prop} {g:Int -> Int -> Int}
    (rule:∀ (i j:Int) (t u:Tok) (s:Shared) (Q:Value -> Shared -> Prop) (E:Value -> Shared -> Prop),C i j -> Q (.int (g i j) s.toks) { s with toks:=s.toks + 1 } -> wpAny (model X.prog X.w) X.A (f (.int i t) (.int j u)) Q E s) :
    OpR X f (rI C fun i j=>.int (g i j)):=by
  intro pins s σ H x y v u Q I rx ry h
  obtain ⟨i,j,rfl,rfl,hc,q⟩:=h
  obtain ⟨t,rfl⟩:=rx
  obtain ⟨t',rfl⟩:=ry
  exact rule i j t t' s _ _ hc ⟨.int (g i j),H,I.tok _,⟨_,rfl⟩,q⟩
theorem opI0 {f:Value -> Value -> Sem Value} {g:Int -> Int -> Int}
    (rule:∀ (i j:Int) (t u:Tok) (s:Shared) (Q:Value -> Shared -> Prop) (E:Value -> Shared -> Prop),Q (.int (g i j) s.toks) { s with toks:=s.toks + 1 } -> wpAny (model X.prog X.w) X.A (f (.int i t) (.int j u)) Q E s) :
    OpR X f (rI0 fun i j=>.int (g i j)):=by
  intro pins s σ H x y v u Q I rx ry h
  obtain ⟨i,j,rfl,rfl,q⟩:=h
  obtain ⟨t,rfl⟩:=rx
  obtain ⟨t',rfl⟩:=ry
  exact rule i j t t' s _ _ ⟨.int (g i j),H,I.tok _,⟨_,rfl⟩,q⟩
theorem opB0 {f:Value -> Value -> Sem Value} {g:Int -> Int -> Bool}
    (rule:∀ (i j:Int) (t u:Tok) (s:Shared) (Q:Value -> Shared -> Prop) (E:Value -> Shared -> Prop),Q (.bool (g i j)) s -> wpAny (model X.prog X.w) X.A (f (.int i t) (.int j u)) Q E s) :
    OpR X f (rI0 fun i j=>.bl (g i j)):=by
  intro pins s σ H x y v u Q I rx ry h
  obtain ⟨i,j,rfl,rfl,q⟩:=h
  obtain ⟨t,rfl⟩:=rx
  obtain ⟨t',rfl⟩:=ry
  exact rule i j t t' s _ _ ⟨.bl (g i j),H,I,rfl,q⟩
def CPow (i j:Int):Prop:=0 <= j /\ j <= 1000000 /\ i.natAbs < 2 ^ 64
def CMul (i j:Int):Prop:=(-(2 ^ 64) < i /\ i < 2 ^ 64) \/ (-(2 ^ 64) < j /\ j < 2 ^ 64)
theorem CMul.ok {i j:Int} (h:CMul i j):IntMulOk i j:=by
  rcases h with ⟨h1,h2⟩ | ⟨h1,h2⟩
  · exact .of_left (intBits_le_64 h1 h2)
  · exact .of_right (intBits_le_64 h1 h2)
theorem two_pow_nn (k:Nat):(0:Int) <= 2 ^ k:=by
  rw [two_pow_cast]
  exact Int.natCast_nonneg _
theorem op_add:OpR X (binaryOp .Add) (rI0 fun i j=>.int (i + j)):=opI0 fun _ _ _ _ _ _ _ q=>add_int q
theorem op_sub:OpR X (binaryOp .Sub) (rI0 fun i j=>.int (i - j)):=opI0 fun _ _ _ _ _ _ _ q=>sub_int q
theorem op_mul:OpR X (binaryOp .Mult) (rI CMul fun i j=>.int (i * j)):=opI fun _ _ _ _ _ _ _ hc q=>mul_int q hc.ok
theorem op_shl:OpR X (binaryOp .LShift) (rI CPow fun i j=>.int (i * 2 ^ j.toNat)):=opI fun _ _ _ _ _ _ _ hc q=>lshift_int_small hc.1 hc.2.1 hc.2.2 q
theorem op_shr:OpR X (binaryOp .RShift) (rI (fun _ j=>0 <= j) fun i j=>.int (i / 2 ^ j.toNat)):=opI fun i j _ _ _ _ _ hc q =>
  rshift_int hc (by rw [Int.fdiv_eq_ediv_of_nonneg i (two_pow_nn _)]; exact q)
theorem op_and:OpR X (binaryOp .BitAnd) (rI0 fun i j=>.int (Builtin.bitAnd i j)):=opI0 fun _ _ _ _ _ _ _ q=>and_int q
theorem op_or:OpR X (binaryOp .BitOr) (rI0 fun i j=>.int (Builtin.bitOr i j)):=opI0 fun _ _ _ _ _ _ _ q=>or_int q
end
def scal:V -> V -> Bool
  | .non,.non=>true | .non,.int _=>true | .int _,.non=>true | .non,.bl _=>true | .bl _,.non=>true | .non,.str _=>true | .str _,.non=>true
  | .int _,.int _=>true | .bl _,.bl _=>true | .str _,.str _=>true | .byt _,.byt _=>true
  | .int _,.str _=>true | .str _,.int _=>true | .bl _,.str _=>true | .str _,.bl _=>true
  | _,_=>false
def rEq:R2:=fun x y H Q=>scal x y = true /\ Q (.bl (decide (x = y))) H
def rNe:R2:=fun x y H Q=>scal x y = true /\ Q (.bl (!decide (x = y))) H
theorem dec_int {i j:Int}:decide (V.int i = V.int j) = (i == j):=by
  rw [Bool.eq_iff_iff]
  simp
theorem dec_bl {i j:Bool}:decide (V.bl i = V.bl j) = (i == j):=by
  rw [Bool.eq_iff_iff]
  simp
theorem dec_str {i j:Str}:decide (V.str i = V.str j) = (i == j):=by
  rw [Bool.eq_iff_iff]
  simp
theorem dec_byt {i j:Array UInt8}:decide (V.byt i = V.byt j) = (i.toList == j.toList):=by
  rw [Bool.eq_iff_iff]
  cases i
  cases j
  simp
section
variable {X:Cx} {a b c:Expr} {ta tb tc:TE} {pos:Pos}
theorem fin_bl {pins:List (Addr × Obj)} {σ:St} {H:Hp} {s:Shared} {Q:VK} {k k':Bool} (I:Inv X pins σ H s) (q:Q (.bl k) H) (e:k = k'):EP X pins σ Q (.bool k') s:=by
  subst e
  exact ⟨.bl k,H,I,rfl,q⟩
theorem op_eq:OpR X (compareOp .Eq) rEq:=by
  intro pins s σ H x y v u Q I rx ry h
  obtain ⟨hs,q⟩:=h
  cases x with
  | non =>
    cases rx
    cases y with
    | non=>cases ry; exact PySem.EqNone.eq_none_none (fin_bl I q (by simp))
    | bl j=>cases ry; exact PySem.EqNone.eq_none_bool (fin_bl I q (by simp))
    | int j=>obtain ⟨t',rfl⟩:=ry; exact PySem.EqNone.eq_none_int (fin_bl I q (by simp))
    | str j=>obtain ⟨t',rfl⟩:=ry; exact PySem.EqNone.eq_none_str (fin_bl I q (by simp))
    | _=>exact absurd (show false = true from hs) Bool.false_ne_true
  | bl i =>
    cases rx
    cases y with
    | non=>cases ry; exact PySem.EqNone.eq_bool_none (fin_bl I q (by simp))
    | bl j=>cases ry; exact eq_bool (fin_bl I q dec_bl)
    | str j=>obtain ⟨t',rfl⟩:=ry; exact PySem.EqMixed.eq_bool_str (fin_bl I q (by simp))
    | _=>exact absurd (show false = true from hs) Bool.false_ne_true
  | int i =>
    obtain ⟨t,rfl⟩:=rx
    cases y with
    | non=>cases ry; exact PySem.EqNone.eq_int_none (fin_bl I q (by simp))
    | int j=>obtain ⟨t',rfl⟩:=ry; exact eq_int (fin_bl I q dec_int)
    | str j=>obtain ⟨t',rfl⟩:=ry; exact PySem.EqMixed.eq_int_str (fin_bl I q (by simp))
    | _=>exact absurd (show false = true from hs) Bool.false_ne_true
  | str i =>
    obtain ⟨t,rfl⟩:=rx
    cases y with
    | non=>cases ry; exact PySem.EqNone.eq_str_none (fin_bl I q (by simp))
    | bl j=>cases ry; exact PySem.EqMixed.eq_str_bool (fin_bl I q (by simp))
    | int j=>obtain ⟨t',rfl⟩:=ry; exact PySem.EqMixed.eq_str_int (fin_bl I q (by simp))
    | str j=>obtain ⟨t',rfl⟩:=ry; exact eq_str (fin_bl I q dec_str)
    | _=>exact absurd (show false = true from hs) Bool.false_ne_true
  | byt i =>
    obtain ⟨t,rfl⟩:=rx
    cases y with
    | byt j=>obtain ⟨t',rfl⟩:=ry; exact PySem.W.eq_bytes (fin_bl I q dec_byt)
    | _=>exact absurd (show false = true from hs) Bool.false_ne_true
  | _=>cases y <;> exact absurd (show false = true from hs) Bool.false_ne_true
theorem op_ne:OpR X (compareOp .NotEq) rNe:=by
  intro pins s σ H x y v u Q I rx ry h
  obtain ⟨hs,q⟩:=h
  cases x with
  | non =>
    cases rx
    cases y with
    | non=>cases ry; exact PySem.EqNone.ne_none_none (fin_bl I q (by simp))
    | bl j=>cases ry; exact PySem.EqNone.ne_none_bool (fin_bl I q (by simp))
    | int j=>obtain ⟨t',rfl⟩:=ry; exact PySem.EqNone.ne_none_int (fin_bl I q (by simp))
    | str j=>obtain ⟨t',rfl⟩:=ry; exact PySem.EqNone.ne_none_str (fin_bl I q (by simp))
    | _=>exact absurd (show false = true from hs) Bool.false_ne_true
  | bl i =>
    cases rx
    cases y with
    | non=>cases ry; exact PySem.EqNone.ne_bool_none (fin_bl I q (by simp))
    | bl j=>cases ry; exact ne_bool (fin_bl I q (congrArg not dec_bl))
    | str j=>obtain ⟨t',rfl⟩:=ry; exact PySem.EqMixed.ne_bool_str (fin_bl I q (by simp))
    | _=>exact absurd (show false = true from hs) Bool.false_ne_true
  | int i =>
    obtain ⟨t,rfl⟩:=rx
    cases y with
    | non=>cases ry; exact PySem.EqNone.ne_int_none (fin_bl I q (by simp))
    | int j=>obtain ⟨t',rfl⟩:=ry; exact ne_int (fin_bl I q (congrArg not dec_int))
    | str j=>obtain ⟨t',rfl⟩:=ry; exact PySem.EqMixed.ne_int_str (fin_bl I q (by simp))
    | _=>exact absurd (show false = true from hs) Bool.false_ne_true
  | str i =>
    obtain ⟨t,rfl⟩:=rx
    cases y with
    | non=>cases ry; exact PySem.EqNone.ne_str_none (fin_bl I q (by simp))
    | bl j=>cases ry; exact PySem.EqMixed.ne_str_bool (fin_bl I q (by simp))
    | int j=>obtain ⟨t',rfl⟩:=ry; exact PySem.EqMixed.ne_str_int (fin_bl I q (by simp))
    | str j=>obtain ⟨t',rfl⟩:=ry; exact ne_str (fin_bl I q (congrArg not dec_str))
    | _=>exact absurd (show false = true from hs) Bool.false_ne_true
  | byt i =>
    obtain ⟨t,rfl⟩:=rx
    cases y with
    | byt j=>obtain ⟨t',rfl⟩:=ry; exact PySem.W.ne_bytes (fin_bl I q (congrArg not dec_byt))
    | _=>exact absurd (show false = true from hs) Bool.false_ne_true
  | _=>cases y <;> exact absurd (show false = true from hs) Bool.false_ne_true
theorem op_lt:OpR X (compareOp .Lt) (rI0 fun i j=>.bl (decide (i < j))):=opB0 fun _ _ _ _ _ _ _ q=>lt_int q
theorem op_le:OpR X (compareOp .LtE) (rI0 fun i j=>.bl (decide (i <= j))):=opB0 fun _ _ _ _ _ _ _ q=>le_int q
theorem op_gt:OpR X (compareOp .Gt) (rI0 fun i j=>.bl (decide (j < i))):=opB0 fun _ _ _ _ _ _ _ q=>gt_int q
theorem op_isN:OpR X (compareOp .Is) (fun x y H Q=>y = .non /\ Q (.bl (decide (x = .non))) H):=by
  intro pins s σ H x y v u Q I rx ry h
  obtain ⟨rfl,q⟩:=h
  cases ry
  refine is_none_gen (fin_bl I q ?_)
  cases x <;> first
    | (cases rx; rfl)
    | (obtain ⟨t,rfl⟩:=rx; rfl)
theorem op_notN:OpR X (compareOp .IsNot) (fun x y H Q=>y = .non /\ Q (.bl (!decide (x = .non))) H):=by
  intro pins s σ H x y v u Q I rx ry h
  obtain ⟨rfl,q⟩:=h
  cases ry
  refine isnot_none_gen (fin_bl I q ?_)
  cases x <;> first
    | (cases rx; rfl)
    | (obtain ⟨t,rfl⟩:=rx; rfl)
theorem nomark (b:Expr) {op:CmpOp} (h:op ≠ .In:=by decide) (h2:op ≠ .NotIn:=by decide):behindInMarks op b = false:=by
  have e1:(op == CmpOp.In) = false:=by cases op <;> first | rfl | exact absurd rfl h
  have e2:(op == CmpOp.NotIn) = false:=by cases op <;> first | rfl | exact absurd rfl h2
  cases b <;> simp [behindInMarks,e1,e2]
theorem pe_cmpR {op:CmpOp} {r:R2} (ho:OpR X (compareOp op) r) (ha:PE X a ta) (hb:PE X b tb) (hm:behindInMarks op b = false):PE X (.Compare a [op] [b] pos) (tOp r ta tb):=by
  intro pins s σ H Q I h
  exact wpAny_Compare1 (binT ha hb I h fun v u s2 x y H2 I2 rx ry q=>ho pins s2 σ H2 x y v u Q I2 rx ry q) hm
def tTest (t:TE):TT:=fun σ H Q=>t σ H fun x H'=>∃ k,x = .bl k /\ Q k H'
theorem pt_cmpR {op:CmpOp} {r:R2} (ho:OpR X (compareOp op) r) (ha:PE X a ta) (hb:PE X b tb) (hm:behindInMarks op b = false):PT X (.Compare a [op] [b] pos) (tTest (tOp r ta tb)):=by
  intro pins s σ H Q I h
  refine wpAny_isTrue_Compare1 (thn (ha pins s σ H _ I h) fun v s1 ⟨x,H1,I1,r1,q1⟩=>thn (hb pins s1 σ H1 _ I1 q1) fun u s2 ⟨y,H2,I2,r2,q2⟩ =>
    thn (ho pins s2 σ H2 x y v u _ I2 r1 r2 q2) fun c s3 ⟨z,H3,I3,r3,k,e,q3⟩=>?_) hm
  subst e
  cases r3
  exact wpAny_truthy_bool ⟨H3,I3,q3⟩
theorem line63:(sizeLine:Nat) < 2 ^ 63:=by rw [sizeLine_eq]; decide
theorem vals1 {x:V} {us:List Value} (r:Vals [x] us):∃ u,us = [u] /\ RelV x u:=by
  cases r with
  | cons r1 r2=>cases r2; exact ⟨_,rfl,r1⟩
theorem vals2 {x y:V} {us:List Value} (r:Vals [x,y] us):∃ u w',us = [u,w'] /\ RelV x u /\ RelV y w':=by
  cases r with
  | cons r1 r2 =>
    cases r2 with
    | cons r3 r4=>cases r4; exact ⟨_,_,rfl,r1,r3⟩
theorem call_max2 (hc:X.calm = true):CallR X (.builtin "max") (fun xs H Q=>∃ i j,xs = [.int i,.int j] /\ Q (.int (if j > i then j else i)) H):=by
  intro pins s σ H xs us Q I r h
  obtain ⟨i,j,rfl,q⟩:=h
  obtain ⟨u,w',rfl,⟨t,rfl⟩,⟨t',rfl⟩⟩:=vals2 r
  refine max_two_ints (I.ok.hd hc) fun h' tk k=>⟨_,H,I.kept k,?_,q⟩
  by_cases hj:j > i
  · rw [if_pos hj,if_pos hj]; exact ⟨_,rfl⟩
  · rw [if_neg hj,if_neg hj]; exact ⟨_,rfl⟩
theorem call_min2 (hc:X.calm = true):CallR X (.builtin "min") (fun xs H Q=>∃ i j,xs = [.int i,.int j] /\ Q (.int (if j < i then j else i)) H):=by
  intro pins s σ H xs us Q I r h
  obtain ⟨i,j,rfl,q⟩:=h
  obtain ⟨u,w',rfl,⟨t,rfl⟩,⟨t',rfl⟩⟩:=vals2 r
  refine min_two_ints (I.ok.hd hc) fun h' tk k=>⟨_,H,I.kept k,?_,q⟩
  by_cases hj:j < i
  · rw [if_pos hj,if_pos hj]; exact ⟨_,rfl⟩
  · rw [if_neg hj,if_neg hj]; exact ⟨_,rfl⟩
end
end L2
namespace L2
open PySem PySem.Spec PyProof.Rows
structure ObjM (h:Heap) (x dx C:Addr) (mA:Str -> Option Value):Prop where
  obj:h.get? x = some (PySem.W.instObj C dx)
  ns:h.Ns1 dx mA
  ne:dx ≠ x
theorem lookIn_ns {h:Heap} {dx:Addr} {mA:Str -> Option Value} (n:h.Ns1 dx mA):∃ od,h.get? dx = some od /\ ∀ name,PySem.W.lookIn name od = some (mA name):=by
  obtain ⟨o,es,ep,ho,hd,hk,_,hm⟩:=n
  refine ⟨o,ho,fun name=>?_⟩
  have e:=hm name
  unfold nsFind findBy at e
  rw [<- Array.find?_toList] at e
  unfold PySem.W.lookIn
  rw [hd]
  dsimp only
  split
  · rename_i y q
    rw [q] at e
    exact congrArg some e
  · rename_i q
    rw [q] at e
    have a:es.toList.any (·.refKey) = false:=by
      rw [List.any_eq_false]
      intro y hy
      obtain ⟨z,t,hkey⟩:=hk y (Array.mem_toList_iff.mp hy)
      simp [DictEntry.refKey,hkey]
    have a':¬ es.toList.any (·.refKey) = true:=by rw [a]; exact Bool.false_ne_true
    rw [if_neg a']
    exact congrArg some e
theorem ObjM.look {h:Heap} {x dx C:Addr} {mA:Str -> Option Value} (I:ObjM h x dx C mA):∃ od,PySem.W.InstAt h x (PySem.W.instObj C dx) C (some od) /\ ∀ name,PySem.W.lookIn name od = some (mA name) :=
  let ⟨od,ho,hl⟩:=lookIn_ns I.ns
  ⟨od,⟨I.obj,rfl,rfl,ho⟩,hl⟩
section
variable {prog:Program} {w:World} {A:Around} {E:Value -> Shared -> Prop} {s:Shared} {K:PySem.W.Frag} {x dx C f:Addr} {mA:Str -> Option Value} {name:Str} {v:Value}
theorem get_map {expr:Bool} {Q:Value -> Shared -> Prop} (X:K.In s.heap) (I:ObjM s.heap x dx C mA) (hg:PySem.W.plainGet K C name = true) (hh:PySem.W.hasDictIn K C = true)
    (ha:PySem.W.findIn K (.ref C) name = some none) (hv:mA name = some v) (hv':PySem.W.handedIn v = true) (h:Q v { s with toks:=s.toks + 1 }) :
    wpAny (model prog w) A (getAttr (.ref x) name expr) Q E s:=by
  obtain ⟨od,J,hl⟩:=I.look
  exact PySem.W.get_value X J (PySem.W.plainGet_of hg).1 (PySem.W.findObj_own hh ha rfl (by rw [hl,hv])) hv' h
theorem set_map {ns:List Str} {Q:Unit -> Shared -> Prop} (X:K.In s.heap) (I:ObjM s.heap x dx C mA)
    (hs:PySem.W.findIn K (.ref C) "__setattr__" = some (some (.builtin "object.__setattr__"))) (hp:PySem.W.plainOver K C = true) (ht:PySem.W.takerIn K C name = some none) (hh:PySem.W.hasDictIn K C = true)
    (hw:PySem.Within mA ns) (hsz:ns.length <= sizeLine)
    (h:∀ h',ObjM h' x dx C (fun y=>if y = name then some v else mA y) -> Heap.SameBut dx s.heap h' -> Q () { s with heap:=h',toks:=s.toks + 2 }) :
    wpAny (model prog w) A (setAttr (.ref x) name v) Q E s:=by
  obtain ⟨od,J,hl⟩:=I.look
  refine PySem.W.set_plain X J hs (PySem.W.osa_open (s:={ s with toks:=s.toks + 1 }) (r:=none) X J hp ht fun b=>?_)
  obtain ⟨cd,hc,hd'⟩:=PySem.W.any_some hh
  have hx:s.heap.get? x = some ⟨.ref C,some dx,.plain,#[]⟩:=I.obj
  refine wpAny_bind (wpAny_pure (wpAny_bind (wpAny_bind (wpAny_loadPart hx (wpAny_bind (PySem.W.Looks.here (s:={ s with toks:=s.toks + 1 }) (PySem.W.looks_clsIn X hc) ?_))))))
  rw [hd']
  refine wpAny_pure (a:=some dx) (wpAny_bind (wpAny_pure (wpAny_bind ?_)))
  refine wpAny_nsSet1 (s:={ s with toks:=s.toks + 1 }) I.ns fun h' hn2 hs2=>?_
  obtain ⟨oD,esD,epD,hoD,hdD,hcD⟩:=hn2.count (PySem.Within.cons name v hw)
  refine wpAny_bind (wpAny_lookBehind hoD (by rw [hdD]; exact pastItsLine_dict (Nat.le_trans hcD (by rw [List.length_cons]; omega))) ?_)
  exact wpAny_pure (h _ ⟨(hs2.2 _ (Ne.symm I.ne)).trans I.obj,hn2,I.ne⟩ hs2)
theorem make_map {R:Result -> Shared -> Prop} {vs:List Value} {kw:List (Str × Value)} (X:K.In s.heap) (hm:PySem.W.makesIn K C = true)
    (hi:PySem.W.findIn K (.ref C) "__init__" = some (some (.ref f))) (hf:PySem.W.typeIn K (.ref f) = some (.type "function"))
    (h:codeAny (model prog w) (A.under (.builtin "type.__call__" ⟨.ref C :: vs,kw⟩)) (.call (.ref f) ⟨.ref (s.heap.objs.size + 1) :: vs,kw⟩) (PySem.W.InitBack (s.heap.objs.size + 1) R)
      { s with heap:=(s.heap.push PySem.W.emptyDict).push (PySem.W.instObj C s.heap.objs.size) }) :
    codeAny (model prog w) A (.call (.ref C) ⟨vs,kw⟩) R s:=by
  obtain ⟨hh,g,d,t,os⟩:=s
  exact PySem.W.make_core (PySem.W.makes_of X hm) (PySem.W.looks_findIn X hi) (fun self=>PySem.W.bind_fn X self hf) (.inl rfl) h
end
def putF (f:Str) (v:V):List (Str × V) -> List (Str × V)
  | []=>[(f,v)]
  | (g,x) :: r=>if g = f then (g,v) :: r else (g,x) :: putF f v r
theorem lookup_putF (f g:Str) (v:V):∀ fs:List (Str × V),(putF f v fs).lookup g = if g = f then some v else fs.lookup g
  | []=>by
    show List.lookup g [(f,v)] = _
    by_cases h:g = f
    · have hb:(g == f) = true:=beq_iff_eq.mpr h
      simp only [List.lookup,hb,if_pos h]
    · have hb:(g == f) = false:=beq_eq_false_iff_ne.mpr h
      simp only [List.lookup,hb,if_neg h]
  | (k,x) :: r=>by
    have ih:=lookup_putF f g v r
    rw [show putF f v ((k,x) :: r) = (if k = f then (k,v) :: r else (k,x) :: putF f v r) from rfl]
    by_cases hk:k = f
    · rw [if_pos hk]
      by_cases h:g = k
      · have hb:(g == k) = true:=beq_iff_eq.mpr h
        simp only [List.lookup,hb,if_pos (h.trans hk)]
      · have hb:(g == k) = false:=beq_eq_false_iff_ne.mpr h
        simp only [List.lookup,hb,if_neg (fun e:g = f=>h (e.trans hk.symm))]
    · rw [if_neg hk]
      by_cases h:g = k
      · have hb:(g == k) = true:=beq_iff_eq.mpr h
        simp only [List.lookup,hb,if_neg (fun e:g = f=>hk (h.symm.trans e))]
      · have hb:(g == k) = false:=beq_eq_false_iff_ne.mpr h
        simp only [List.lookup,hb]
        exact ih
theorem keys_putF (f:Str) (v:V):∀ fs:List (Str × V),f ∈ (putF f v fs).map (·.1) /\ ∀ g,g ∈ fs.map (·.1) -> g ∈ (putF f v fs).map (·.1)
  | []=>⟨by simp [putF],fun g h=>by simp at h⟩
  | (k,x) :: r=>by
    obtain ⟨i1,i2⟩:=keys_putF f v r
    rw [show putF f v ((k,x) :: r) = (if k = f then (k,v) :: r else (k,x) :: putF f v r) from rfl]
    by_cases hk:k = f
    · rw [if_pos hk]
      subst hk
      exact ⟨by simp,fun g h=>by simpa using h⟩
    · rw [if_neg hk]
      refine ⟨?_,fun g h=>?_⟩
      · rw [List.map_cons]
        exact List.mem_cons_of_mem _ i1
      · rw [List.map_cons] at h ⊢
        rcases List.mem_cons.mp h with e | e
        · exact List.mem_cons.mpr (.inl e)
        · exact List.mem_cons_of_mem _ (i2 g e)
theorem length_putF (f:Str) (v:V):∀ fs:List (Str × V),(putF f v fs).length <= fs.length + 1
  | []=>by simp [putF]
  | (k,x) :: r=>by
    have ih:=length_putF f v r
    rw [show putF f v ((k,x) :: r) = (if k = f then (k,v) :: r else (k,x) :: putF f v r) from rfl]
    by_cases hk:k = f
    · rw [if_pos hk,List.length_cons,List.length_cons]; omega
    · rw [if_neg hk,List.length_cons,List.length_cons]; omega
theorem RelO.some_of {v:V} {o:Option Value} (r:RelO (some v) o):∃ u,o = some u /\ RelV v u:=by
  cases o with
  | none=>exact (show False from r).elim
  | some u=>exact ⟨u,rfl,r⟩
theorem handed_of {v:V} {u:Value} (r:RelV v u):PySem.W.handedIn u = true:=by
  cases v with
  | non=>cases (show u = Value.none from r); rfl
  | bl b=>cases (show u = Value.bool b from r); rfl
  | int i=>obtain ⟨t,e⟩:=(show ∃ t,u = Value.int i t from r); cases e; rfl
  | str x=>obtain ⟨t,e⟩:=(show ∃ t,u = Value.str x t from r); cases e; rfl
  | byt b=>obtain ⟨t,e⟩:=(show ∃ t,u = Value.bytes b t from r); cases e; rfl
  | flt b=>obtain ⟨t,e⟩:=(show ∃ t,u = Value.float b t from r); cases e; rfl
  | ref a=>cases (show u = Value.ref a from r); rfl
  | ty n=>cases (show u = Value.type n from r); rfl
section
variable {P:Program} {w:World} {H H':Hp} {h h':Heap} {a C dx:Addr} {fs fs':List (Str × V)}
theorem ins_get (hok:HOk P w H h) (e:H a = some (.ins C dx fs)):∃ mA,ObjM h a dx C mA /\ (∀ f,RelO (fs.lookup f) (mA f)) /\ PySem.Within mA (fs.map (·.1)) /\ fs.length <= 1000 /\ H dx = some (.own a):=by
  obtain ⟨d,z,ne,ob,mA,n,r,q⟩:=(show ObjOk P w H h a (.ins C dx fs) from hok a _ e)
  exact ⟨mA,⟨ob,n,ne⟩,r,q,z,d⟩
end
structure Cls (K:PySem.W.Frag) (C:Addr):Prop where
  pg:PySem.W.plainGet K C Str.empty = true
  hd:PySem.W.hasDictIn K C = true
  po:PySem.W.plainOver K C = true
  sa:PySem.W.findIn K (.ref C) "__setattr__" = some (some (.builtin "object.__setattr__"))
theorem Cls.get {K:PySem.W.Frag} {C:Addr} (c:Cls K C) (f:Str):PySem.W.plainGet K C f = true:=c.pg
def NoAttr (K:PySem.W.Frag) (C:Addr) (f:Str):Prop:=PySem.W.findIn K (.ref C) f = some none
theorem NoAttr.taker {K:PySem.W.Frag} {C:Addr} {f:Str} (n:NoAttr K C f):PySem.W.takerIn K C f = some none:=by
  unfold PySem.W.takerIn
  rw [show PySem.W.findIn K (.ref C) f = some none from n]
  rfl
section
variable {X:Cx} {pins:List (Addr × Obj)} {σ:St} {H:Hp} {s:Shared} {a C dx:Addr} {fs:List (Str × V)} {f:Str} {v:V} {A:Around} {E:Value -> Shared -> Prop}
theorem getattr_ok {b:Bool} {Q:Value -> Shared -> Prop} (I:Inv X pins σ H s) (e:H a = some (.ins C dx fs)) (c:Cls X.K C) (n:NoAttr X.K C f) (l:fs.lookup f = some v)
    (h:∀ u s',Inv X pins σ H s' -> RelV v u -> Q u s'):wpAny (model X.prog X.w) A (getAttr (.ref a) f b) Q E s:=by
  obtain ⟨mA,O,r,_,_,_⟩:=ins_get I.hok e
  obtain ⟨u,hu,ru⟩:=RelO.some_of (v:=v) (o:=mA f) (by rw [<- l]; exact r f)
  exact get_map I.kIn O (c.get f) c.hd n hu (handed_of ru) (h u _ (I.tok _) ru)
theorem setattr_ok {y:V} {u:Value} {Q:Unit -> Shared -> Prop} (I:Inv X pins σ H s) (e:H a = some (.ins C dx fs)) (c:Cls X.K C) (n:NoAttr X.K C f) (hl:fs.length < 1000) (ry:RelV y u)
    (h:∀ s',Inv X pins σ (upd H a (.ins C dx (putF f y fs))) s' -> Q () s'):wpAny (model X.prog X.w) A (setAttr (.ref a) f u) Q E s:=by
  obtain ⟨mA,O,r,wi,_,ho⟩:=ins_get I.hok e
  have hz:(fs.map (·.1)).length <= sizeLine:=by rw [List.length_map,sizeLine_eq]; omega
  refine set_map I.kIn O c.sa c.po n.taker c.hd wi hz fun h' O' sb=>h _ ?_
  have hd:∃ o,h'.get? dx = some o:=let ⟨o,_,_,e',_⟩:=O'.ns; ⟨o,e'⟩
  refine I.write (x:=a) (e:=dx) (by rw [e]; exact True.intro) (.inr ho) (fun b q hb z=>(sb.2 b hb).trans z) hd ?_
  refine ⟨by rw [upd_ne O.ne]; exact ho,?_,O.ne,O'.obj,_,O'.ns,fun g=>?_,fun g hg=>?_⟩
  · have:=length_putF f y fs; omega
  · show RelO ((putF f y fs).lookup g) (if g = f then some u else mA g)
    rw [lookup_putF]
    by_cases q:g = f
    · rw [if_pos q,if_pos q]; exact ry
    · rw [if_neg q,if_neg q]; exact r g
  · by_cases q:g = f
    · rw [q]; exact (keys_putF f y fs).1
    · refine (keys_putF f y fs).2 g (wi g fun z=>hg ?_)
      show (if g = f then some u else mA g) = none
      rw [if_neg q]; exact z
theorem Inv.made (I:Inv X pins σ H s):Inv X pins σ (upd (upd H s.heap.objs.size (.own (s.heap.objs.size + 1))) (s.heap.objs.size + 1) (.ins C s.heap.objs.size []))
    { s with heap:=(s.heap.push PySem.W.emptyDict).push (PySem.W.instObj C s.heap.objs.size) }:=by
  have e1:(s.heap.push PySem.W.emptyDict).get? s.heap.objs.size = some PySem.W.emptyDict:=Heap.get?_push_size s.heap rfl
  have e2:((s.heap.push PySem.W.emptyDict).push (PySem.W.instObj C s.heap.objs.size)).get? (s.heap.objs.size + 1) = some (PySem.W.instObj C s.heap.objs.size):=by
    have:=Heap.get?_push_size (s.heap.push PySem.W.emptyDict) (o:=PySem.W.instObj C s.heap.objs.size) rfl
    rwa [Heap.size_push] at this
  have e3:(s.heap.push PySem.W.emptyDict).Ns s.heap.objs.size (fun _=>none):=⟨PySem.W.emptyDict,#[],_,e1,rfl,(fun e he=>absurd he (by simp)),fun _=>rfl⟩
  have I1:=I.laid (a:=s.heap.objs.size) (o:=.own (s.heap.objs.size + 1)) (h':=s.heap.push PySem.W.emptyDict) (t':=s.toks) (fun b u q=>Heap.get?_push_of_some _ q) (Nat.le_refl _) ⟨_,e1⟩
  refine I1.laid (a:=s.heap.objs.size + 1) (o:=.ins C s.heap.objs.size []) (t':=s.toks) (fun b u q=>Heap.get?_push_of_some _ q) (Nat.le_of_eq (Heap.size_push _ _)) ?_
  have ne:s.heap.objs.size ≠ s.heap.objs.size + 1:=Nat.ne_of_lt (Nat.lt_succ_self _)
  refine ⟨by rw [upd_ne ne,upd_same],Nat.zero_le _,ne,e2,fun _=>none,(Heap.Ns1.of_empty e3).at fun o q=>Heap.get?_push_of_some _ q,fun _=>True.intro,fun y hy=>absurd rfl hy⟩
theorem attr_of {prog:Program} {w:World} {env:Env} {e:Expr} {f:Str} {pos:Pos} {s:Shared} {Q:Value -> Shared -> Prop} (hb:attributeBase e f env (eval e env) = eval e env)
    (h:wpAny (model prog w) A (eval e env) (fun o s₁=>wpAny (model prog w) A (getAttr o f true) Q E s₁) E s):wpAny (model prog w) A (eval (.Attribute e f pos) env) Q E s :=
  Attribute_any_ h (by rw [arm_eval_Attribute,hb])
end
def tFld (K:PySem.W.Frag) (ta:TE) (f:Str):TE:=fun σ H Q=>ta σ H fun x H1=>∃ a C dx fs v,x = .ref a /\ H1 a = some (.ins C dx fs) /\ Cls K C /\ NoAttr K C f /\ fs.lookup f = some v /\ Q v H1
def sFld (K:PySem.W.Frag) (ta tv:TE) (f:Str):TS:=fun D σ H=>tv σ H fun y H1=>ta σ H1 fun x H2=>∃ a C dx fs,x = .ref a /\ H2 a = some (.ins C dx fs) /\ Cls K C /\ NoAttr K C f /\ fs.length < 1000 ∧
  D.nx σ (upd H2 a (.ins C dx (putF f y fs)))
section
variable {X:Cx} {o e value:Expr} {f:Str} {pos pos' tpos:Pos} {ta tv:TE}
theorem pe_fld (he:PE X e ta) (hb:attributeBase e f X.env (eval e X.env) = eval e X.env):PE X (.Attribute e f pos) (tFld X.K ta f):=by
  intro pins s σ H Q I h
  refine attr_of hb (thn (he pins s σ H _ I h) fun u s1 ⟨x,H1,I1,rx,a,C,dx,fs,v,ex,ea,c,n,l,q⟩=>?_)
  subst ex
  obtain rfl:u = Value.ref a:=rx
  exact getattr_ok I1 ea c n l fun u' s2 I2 ru=>⟨v,H1,I2,ru,q⟩
theorem ps_fld (ha:PE X o ta) (hv:PE X value tv) (hs:swapsWith value (some (.Attribute o f pos')) pos.line X.env = pure false):PS X (.Assign [.Attribute o f pos'] value pos) (sFld X.K ta tv f):=by
  intro pins s σ H D I h
  refine plainObj_wpAny_Assign_Attribute (thn (hv pins s σ H _ I h) fun u s1 ⟨y,H1,I1,ry,q⟩=>thn (ha pins s1 σ H1 _ I1 q) fun ov s2 ⟨x,H2,I2,rx,a,C,dx,fs,ex,ea,c,n,l,q2⟩=>?_) hs
  subst ex
  obtain rfl:ov = Value.ref a:=rx
  exact setattr_ok I2 ea c n l ry fun s3 I3=>⟨σ,_,I3,q2⟩
end
section
variable {X:Cx} {pins:List (Addr × Obj)} {σ:St} {H:Hp} {s:Shared} {A:Around} {E:Value -> Shared -> Prop} {Q:Value -> Shared -> Prop} {c:Value} {b:Bool}
end
end L2
namespace L2
open PySem PySem.Spec PyProof.Rows
structure Room (k:Nat) (A:Around):Prop where
  hd:A.handled = none
  dp:A.depth + 3 * k + 5 < recursionLimit
  un:A.units + 16 * k + 200 < cLine
theorem Room.mono {j k:Nat} {A:Around} (r:Room k A) (h:j <= k):Room j A:=⟨r.hd,by have:=r.dp; omega,by have:=r.un; omega⟩
theorem Room.deeper {k:Nat} {A:Around} (r:Room (k + 1) A) (env:Env):Room k (A.deeper env) :=
  ⟨r.hd,by have:=r.dp; show A.depth + 1 + 3 * k + 5 < _; omega,by have:=r.un; show A.units + 3 + 16 * k + 200 < _; omega⟩
theorem make_depth {A:Around} {C:Addr} {us:List Value} {kw:List (Str × Value)}:(A.under (.builtin "type.__call__" ⟨.ref C :: us,kw⟩)).depth = A.depth + 1:=by
  first | rfl | simp [Around.under,Code.weight,Code.isCreation,Code.isGuard,Code.isCaller,Code.frames,Code.isFrame,guardIds]
theorem make_units {A:Around} {C:Addr} {us:List Value} {kw:List (Str × Value)}:(A.under (.builtin "type.__call__" ⟨.ref C :: us,kw⟩)).units = A.units + 1:=by
  first | rfl | simp [Around.under,Code.cUnits,Code.frames,Code.isFrame]
theorem Room.make {k:Nat} {A:Around} (r:Room (k + 1) A) (C:Addr) (us:List Value) (kw:List (Str × Value)):Room k (A.under (.builtin "type.__call__" ⟨.ref C :: us,kw⟩)) :=
  ⟨r.hd,by have:=r.dp; rw [make_depth]; omega,by have:=r.un; rw [make_units]; omega⟩
theorem Room.depth {k:Nat} {A:Around} (r:Room k A):A.depth < recursionLimit:=by have:=r.dp; omega
theorem Room.units {k:Nat} {A:Around} (r:Room k A):A.units + 64 < cLine:=by have:=r.un; omega
def tNil:TA:=fun _ H Q=>Q [] H
def tCons (ta:TE) (tr:TA):TA:=fun σ H Q=>ta σ H fun x H1=>tr σ H1 fun xs H2=>Q (x :: xs) H2
section
variable {X:Cx} {e:Expr} {es:List Expr} {te:TE} {t:TA} {pos:Pos}
theorem pa_nil:PA X [] tNil:=fun _ _ _ _ H Q I h=>Calls.spliced_nil ⟨[],H,I,.nil,h⟩
theorem pa_cons (ha:PE X e te) (hr:PA X es t) (hs:starEach (e :: es) X.env = (false,eval e X.env) :: starEach es X.env:=by rfl):PA X (e :: es) (tCons te t):=by
  intro pos pins s σ H Q I h
  rw [hs]
  show wpAny _ _ (spliced ((false,eval e X.env) :: backTo pos (starEach es X.env))) _ _ s
  refine Calls.spliced_cons (thn (ha pins s σ H _ I h) fun u s1 ⟨x,H1,I1,r1,q1⟩=>?_)
  exact thn (hr pos pins s1 σ H1 _ I1 q1) fun us s2 ⟨xs,H2,I2,r2,q2⟩=>⟨x :: xs,H2,I2,.cons r1 r2,q2⟩
def tTup (t:TA):TE:=fun σ H Q=>t σ H fun xs H1=>xs.length <= sizeLine /\ ∀ p,H1 p = none -> Q (.ref p) (upd H1 p (.tup xs))
def tLst (t:TA):TE:=fun σ H Q=>t σ H fun xs H1=>xs.length <= sizeLine /\ ∀ p,H1 p = none -> Q (.ref p) (upd H1 p (.lst xs))
theorem pe_tup {x1} (h:PA X es t):PE X (.Tuple es x1 pos) (tTup t):=by
  intro pins s σ H Q I hq
  refine wpAny_Tuple_spliced (thn (h pos pins s σ H _ I hq) fun us s1 ⟨xs,H1,I1,r,z,q⟩=>⟨by rw [<- r.length]; exact z,?_⟩)
  have hf:H1 s1.heap.objs.size = none:=I1.hok.fresh (Nat.le_refl _)
  refine ⟨.ref s1.heap.objs.size,upd H1 s1.heap.objs.size (.tup xs),I1.laid (t':=s1.toks) (fun b u e=>Heap.get?_push_of_some _ e) (Nat.le_refl _) ?_,rfl,q _ hf⟩
  exact ⟨z,us,r,⟨_,Heap.get?_push_size _ rfl,rfl,_,rfl⟩⟩
theorem pe_lst (h:PA X es t):PE X (.List es pos) (tLst t):=by
  intro pins s σ H Q I hq
  refine wpAny_List_spliced (thn (h pos pins s σ H _ I hq) fun us s1 ⟨xs,H1,I1,r,z,q⟩=>⟨by rw [<- r.length]; exact z,?_⟩)
  have hf:H1 s1.heap.objs.size = none:=I1.hok.fresh (Nat.le_refl _)
  refine ⟨.ref s1.heap.objs.size,upd H1 s1.heap.objs.size (.lst xs),I1.laid (t':=s1.toks) (fun b u e=>Heap.get?_push_of_some _ e) (Nat.le_refl _) ?_,rfl,q _ hf⟩
  exact ⟨z,us,0,r,Heap.get?_push_size _ rfl⟩
end
abbrev Sp:=List V -> Hp -> VK -> XK -> Prop
abbrev CXT:=List Env -> Hp -> Shared -> XK -> Value -> Shared -> Prop
structure Env0 (P:Program) (w:World) (K:PySem.W.Frag) (mg:Str -> Option Value) (base:Heap) (A:Around) (outer:List Env) (s:Shared) (H:Hp):Prop where
  frames:A.frames = some outer
  mod:Mod K mg base
  bs:∀ b o,base.get? b = some o -> s.heap.get? b = some o /\ H b = none
  bsz:base.objs.size <= s.heap.objs.size
  funs:s.heap.FunFrames base outer
  frf:∀ b ∈ frs outer,H b = none
  hok:HOk P w H s.heap
  bare:AllBare s.gens
def CE (outer:List Env) (P:Program) (w:World) (H:Hp) (s:Shared) (Q:VK) (u:Value) (s':Shared):Prop :=
  ∃ v H',s'.os = s.os /\ AllBare s'.gens /\ Un (frs outer) [] H H' s.heap s'.heap /\ HOk P w H' s'.heap /\ RelV v u /\ Q v H'
def CR (CX:CXT) (outer:List Env) (P:Program) (w:World) (H:Hp) (s:Shared) (Q:VK) (E:XK) (r:Result) (s':Shared):Prop :=
  match r with
  | .ok (.ret u)=>CE outer P w H s Q u s'
  | .ok _=>False
  | .error e=>CX outer H s E e s'
structure FnOk (P:Program) (w:World) (K:PySem.W.Frag) (mg:Str -> Option Value) (base:Heap) (CX:CXT) (k:Nat) (f:Addr) (fd:FuncData) (ps:List Str) (sp:Sp):Prop where
  len:∀ vs H Q E,sp vs H Q E -> vs.length = ps.length
  run:∀ (A:Around) (outer:List Env) (s:Shared) (H:Hp) (args:Args) (us:List Value) (vs:List V) (Q:VK) (E:XK),Room k A -> Env0 P w K mg base A outer s H -> BindsTo s fd args (ps.zip us) -> Vals vs us -> sp vs H Q E →
    codeAny (model P w) A (.call (.ref f) args) (CR CX outer P w H s Q E) s
theorem FnOk.imp {P:Program} {w:World} {K:PySem.W.Frag} {mg:Str -> Option Value} {base:Heap} {CX:CXT} {k:Nat} {f:Addr} {fd:FuncData} {ps:List Str} {sp sp':Sp} (F:FnOk P w K mg base CX k f fd ps sp)
    (h:∀ vs H Q E,sp' vs H Q E -> sp vs H Q E):FnOk P w K mg base CX k f fd ps sp' :=
  ⟨fun vs H Q E q=>F.len vs H Q E (h _ _ _ _ q),fun A outer s H args us vs Q E hr he hb hv hs=>F.run A outer s H args us vs Q E hr he hb hv (h _ _ _ _ hs)⟩
theorem Env0.make {P:Program} {w:World} {K:PySem.W.Frag} {mg:Str -> Option Value} {base:Heap} {A:Around} {outer:List Env} {s:Shared} {H:Hp} (e:Env0 P w K mg base A outer s H) (C:Addr) (us:List Value) (kw:List (Str × Value)) :
    Env0 P w K mg base (A.under (.builtin "type.__call__" ⟨.ref C :: us,kw⟩)) outer s H:=⟨by first | exact e.frames | (simpa [Around.under,Code.envs,Code.isFrame,pushEnvs] using e.frames),e.mod,e.bs,e.bsz,e.funs,e.frf,e.hok,e.bare⟩
section
variable {X:Cx} {pins:List (Addr × Obj)} {σ:St} {H:Hp} {s s':Shared}
theorem Inv.env0 (I:Inv X pins σ H s):Env0 X.prog X.w X.K X.mg X.base X.A X.stack s H :=
  ⟨I.ok.frames,I.ok.mod,I.bs,Nat.le_trans I.ok.bsz I.sz,I.stack,I.stkFree,I.hok,I.bare⟩
theorem Inv.after {Q:VK} {u:Value} (I:Inv X pins σ H s) (h:CE X.stack X.prog X.w H s Q u s'):EP X pins σ Q u s':=by
  obtain ⟨v,H',os,bare,un,hok,r,q⟩:=h
  obtain ⟨hh,g,d,t,os'⟩:=s'
  obtain rfl:os' = s.os:=os
  exact ⟨v,H',I.call (h':=hh) (g':=g) (d':=d) (t':=t) (ch:=[]) un hok bare (fun b z=>absurd z (by simp)),r,q⟩
end
def tCall (sp:Sp) (dvs:List V) (E:XK) (t:TA):TE:=fun σ H Q=>t σ H fun vs H1=>sp (vs ++ dvs) H1 Q E
def tMake (C:Addr) (sp:Sp) (dvs:List V) (E:XK) (t:TA):TE:=fun σ H Q=>t σ H fun vs H1=>∀ x dx,H1 x = none -> H1 dx = none -> dx ≠ x →
  sp (.ref x :: (vs ++ dvs)) (upd (upd H1 dx (.own x)) x (.ins C dx [])) (fun v H2=>v = .non /\ Q (.ref x) H2) E
def Binds (K:PySem.W.Frag) (fd:FuncData) (ps:List Str) (ds:List Value):Prop :=
  ∀ (s:Shared) (us:List Value),K.In s.heap -> (us ++ ds).length = ps.length -> BindsTo s fd ⟨us,[]⟩ (ps.zip (us ++ ds))
theorem Binds.all {K:PySem.W.Frag} {fd:FuncData} {ps:List Str} (h:∀ us:List Value,us.length = ps.length -> bindArgs fd ⟨us,[]⟩ = pure (ps.zip us)):Binds K fd ps []:=fun s us _ hl=>by
  rw [List.append_nil] at hl ⊢
  exact .of_eq (h us hl)
def Passes (CX:CXT) (X:Cx) (E:XK):Prop:=∀ (pins:List (Addr × Obj)) (σ:St) (H:Hp) (s:Shared) (e:Value) (s':Shared),Inv X pins σ H s -> CX X.stack H s E e s' -> X.xe e s'
section
variable {X:Cx} {CX:CXT} {k:Nat} {f C:Addr} {fd:FuncData} {ps:List Str} {sp:Sp} {dvs:List V} {ds:List Value} {E:XK} {x m:Str} {p pos apos:Pos} {e o:Expr} {es:List Expr} {ta:TE} {t:TA}
theorem run_fn {pins:List (Addr × Obj)} {σ:St} {H:Hp} {s:Shared} {Q:VK} {us:List Value} {vs:List V} (F:FnOk X.prog X.w X.K X.mg X.base CX k f fd ps sp) (hr:Room k X.A) (hb:Binds X.K fd ps ds) (hd:Vals dvs ds) (hx:Passes CX X E)
    (I:Inv X pins σ H s) (r:Vals vs us) (h:sp (vs ++ dvs) H Q E):wpAny (model X.prog X.w) X.A (call (.ref f) us) (EP X pins σ Q) X.xe s:=by
  have r2:Vals (vs ++ dvs) (us ++ ds):=r.append hd
  have hl:(us ++ ds).length = ps.length:=by rw [<- r2.length]; exact F.len _ _ _ _ h
  refine wpAny_call (codeAny_mono (F.run X.A X.stack s H ⟨us,[]⟩ (us ++ ds) (vs ++ dvs) Q E hr I.env0 (hb s us I.kIn hl) r2 h) fun r s' hq=>?_)
  cases r with
  | error e=>exact hx pins σ H s e s' I hq
  | ok fl =>
    cases fl with
    | ret u=>exact I.after hq
    | next=>exact False.elim hq
    | brk=>exact False.elim hq
    | cont=>exact False.elim hq
theorem pe_call (F:FnOk X.prog X.w X.K X.mg X.base CX k f fd ps sp) (hr:Room k X.A) (hg:Gl X x) (hm:X.mg x = some (.ref f)) (hk:PySem.W.keepIn X.K (.ref f) = true) (hb:Binds X.K fd ps ds) (hd:Vals dvs ds) (hx:Passes CX X E)
    (ha:PA X (e :: es) t) (hdb:(x == ("__debug__":Str)) = false:=by decide) (he:starEach (e :: es) X.env = (false,eval e X.env) :: starEach es X.env:=by rfl) (hpl:(backTo pos (starEach es X.env)).any (·.1) = false:=by rfl) :
    PE X (.Call (.Name x p) (e :: es) [] pos) (tCall sp dvs E t):=by
  intro pins s σ H Q I h
  refine wpAny_Call_Name_kw (ld_glob I hg hm ?_ hdb)
  refine PySem.W.callWith_K (h₀:=X.base) I.ok.mod.kin hk (thn (ha pos pins s σ H _ I h) fun us s1 ⟨vs,H1,I1,r,q⟩=>⟨I1.kIn,?_⟩) he hpl
  exact run_fn F hr hb hd hx I1 r q
structure Mk (K:PySem.W.Frag) (C f:Addr):Prop where
  makes:PySem.W.makesIn K C = true
  init:PySem.W.findIn K (.ref C) "__init__" = some (some (.ref f))
  fn:PySem.W.isFn K (.ref f) = true
  kp:PySem.W.keepIn K (.ref C) = true
theorem run_make {pins:List (Addr × Obj)} {σ:St} {H:Hp} {s:Shared} {Q:VK} {us:List Value} {vs:List V} (M:Mk X.K C f) (F:FnOk X.prog X.w X.K X.mg X.base CX k f fd ps sp) (hr:Room (k + 1) X.A) (hb:Binds X.K fd ps ds) (hd:Vals dvs ds)
    (hx:Passes CX X E) (I:Inv X pins σ H s) (r:Vals vs us)
    (h:∀ x dx,H x = none -> H dx = none -> dx ≠ x -> sp (.ref x :: (vs ++ dvs)) (upd (upd H dx (.own x)) x (.ins C dx [])) (fun v H2=>v = .non /\ Q (.ref x) H2) E) :
    wpAny (model X.prog X.w) X.A (call (.ref C) us) (EP X pins σ Q) X.xe s:=by
  have hq:=h (s.heap.objs.size + 1) s.heap.objs.size (I.hok.fresh (Nat.le_succ _)) (I.hok.fresh (Nat.le_refl _)) (Nat.ne_of_lt (Nat.lt_succ_self _))
  have I2:=Inv.made (C:=C) I
  have r2:Vals (V.ref (s.heap.objs.size + 1) :: (vs ++ dvs)) (Value.ref (s.heap.objs.size + 1) :: (us ++ ds)):=.cons rfl (r.append hd)
  have hl:(Value.ref (s.heap.objs.size + 1) :: us ++ ds).length = ps.length:=by
    have e:=r2.length
    rw [F.len _ _ _ _ hq] at e
    exact e.symm
  refine wpAny_call (make_map (f:=f) I.kIn M.makes M.init (beq_iff_eq.mp M.fn) (codeAny_mono (F.run _ X.stack _ _ ⟨Value.ref (s.heap.objs.size + 1) :: us,[]⟩ (Value.ref (s.heap.objs.size + 1) :: (us ++ ds)) _ _ E (hr.make C us [])
    (I2.env0.make C us []) (hb _ (Value.ref (s.heap.objs.size + 1) :: us) I2.kIn hl) r2 hq) fun r s' hq'=>?_))
  cases r with
  | error e=>exact hx pins σ _ _ e s' I2 hq'
  | ok fl =>
    cases fl with
    | ret u =>
      obtain ⟨v,H',I3,rv,ev,q3⟩:=I2.after hq'
      subst ev
      exact ⟨rv,⟨V.ref (s.heap.objs.size + 1),H',I3,rfl,q3⟩⟩
    | next=>exact False.elim hq'
    | brk=>exact False.elim hq'
    | cont=>exact False.elim hq'
theorem pe_make0 (M:Mk X.K C f) (F:FnOk X.prog X.w X.K X.mg X.base CX k f fd ps sp) (hr:Room (k + 1) X.A) (hg:Gl X x) (hm:X.mg x = some (.ref C)) (hb:Binds X.K fd ps ds) (hd:Vals dvs ds) (hx:Passes CX X E)
    (hdb:(x == ("__debug__":Str)) = false:=by decide):PE X (.Call (.Name x p) [] [] pos) (tMake C sp dvs E tNil):=by
  intro pins s σ H Q I h
  refine wpAny_Call_Name_kw (ld_glob I hg hm ?_ hdb)
  exact PySem.W.callWith_K0 I.kIn M.kp (run_make (us:=[]) M F hr hb hd hx I .nil h)
end
section
variable {X:Cx} {CX:CXT} {k:Nat} {f C:Addr} {fd:FuncData} {ps ks:List Str} {sp:Sp} {E:XK} {x m:Str} {p pos apos kpos:Pos} {e o:Expr} {es:List Expr} {kws:List Keyword} {te ta:TE} {t tk:TA} {nm:Option Str}
variable {g:List Value -> List Value -> List Value} {gV:List V -> List V -> List V}
end
structure FnScope (N P:List Str) (sc:Scope):Prop where
  kind:sc.kind = .function
  co:sc.isCoroutine = false
  gen:sc.isGenerator = false
  nd:N.Nodup
  pre:N.take P.length = P
  par:∀ x ∈ P,sc.names.lookup x = some .local \/ sc.names.lookup x = some .cell
  nofree:∀ y ∈ sc.names,y.2 ≠ .free
theorem bindL_out {kindOf:Str -> Option NameKind} {x:Str}:∀ {binds:List (Str × Value)} {m:Str -> Option Value},(∀ v,(x,v) ∉ binds) -> bindL kindOf binds m x = m x
  | [],_,_=>rfl
  | (n,v) :: r,m,h=>by
    unfold bindL
    rw [bindL_out fun w hw=>h w (List.mem_cons_of_mem _ hw)]
    split
    · have:x ≠ n:=by rintro rfl; exact h v List.mem_cons_self
      simp [this]
    · rfl
theorem bindC_out {kindOf:Str -> Option NameKind} {x:Str}:∀ {binds:List (Str × Value)} {m:Str -> Option Value},(∀ v,(x,v) ∉ binds) -> bindC kindOf binds m x = m x
  | [],_,_=>rfl
  | (n,v) :: r,m,h=>by
    unfold bindC
    rw [bindC_out fun w hw=>h w (List.mem_cons_of_mem _ hw)]
    split
    · rfl
    · have:x ≠ n:=by rintro rfl; exact h v List.mem_cons_self
      simp [this]
theorem bindL_get {kindOf:Str -> Option NameKind} {x:Str} {v:Value}:∀ {P:List Str} {vs:List Value} {i:Nat} {m:Str -> Option Value},P.Nodup -> P[i]? = some x -> vs[i]? = some v -> kindOf x = some .local →
    bindL kindOf (P.zip vs) m x = some v
  | [],_,_,_,_,h,_,_=>by simp at h
  | _ :: _,[],_,_,_,_,h,_=>by simp at h
  | p :: P,w :: vs,0,m,nd,h1,h2,hk=>by
    simp at h1 h2; subst h1; subst h2
    show bindL kindOf ((p,w) :: P.zip vs) m p = _
    unfold bindL
    rw [bindL_out fun v hv=>(List.nodup_cons.mp nd).1 (List.of_mem_zip hv).1,if_pos hk]
    simp
  | p :: P,w :: vs,i + 1,m,nd,h1,h2,hk=>by
    show bindL kindOf ((p,w) :: P.zip vs) m x = _
    unfold bindL
    exact bindL_get (i:=i) (List.nodup_cons.mp nd).2 (by simpa using h1) (by simpa using h2) hk
theorem bindC_get {kindOf:Str -> Option NameKind} {x:Str} {v:Value}:∀ {P:List Str} {vs:List Value} {i:Nat} {m:Str -> Option Value},P.Nodup -> P[i]? = some x -> vs[i]? = some v -> kindOf x ≠ some .local →
    bindC kindOf (P.zip vs) m x = some v
  | [],_,_,_,_,h,_,_=>by simp at h
  | _ :: _,[],_,_,_,_,h,_=>by simp at h
  | p :: P,w :: vs,0,m,nd,h1,h2,hk=>by
    simp at h1 h2; subst h1; subst h2
    show bindC kindOf ((p,w) :: P.zip vs) m p = _
    unfold bindC
    rw [bindC_out fun v hv=>(List.nodup_cons.mp nd).1 (List.of_mem_zip hv).1,if_neg hk]
    simp
  | p :: P,w :: vs,i + 1,m,nd,h1,h2,hk=>by
    show bindC kindOf ((p,w) :: P.zip vs) m x = _
    unfold bindC
    exact bindC_get (i:=i) (List.nodup_cons.mp nd).2 (by simpa using h1) (by simpa using h2) hk
def start (N:List Str) (vs:List V):St:=vs.map some ++ List.replicate (N.length - vs.length) none
def cxOf (CX:CXT) (P:Program) (w:World) (K:PySem.W.Frag) (mg:Str -> Option Value) (base:Heap) (N:List Str) (qual:Str) (scope:Scope) (f:Addr) (cd:Value) (A:Around) (outer:List Env) (s:Shared) (H:Hp) (E:XK):Cx where
  prog:=P
  w:=w
  K:=K
  mg:=mg
  base:=base
  A:=A.deeper (envOfC qual scope s.heap.objs.size f cd)
  N:=N
  s_0:=s
  H_0:=H
  env:=envOfC qual scope s.heap.objs.size f cd
  outer:=outer
  stack:=envOfC qual scope s.heap.objs.size f cd :: outer
  ex:=[]
  calm:=true
  fn:=fun _=>true
  pn:=[]
  xe:=fun e s'=>wpAny (model P w) (A.deeper (envOfC qual scope s.heap.objs.size f cd)) (leaving (envOfC qual scope s.heap.objs.size f cd) e) (fun _ s''=>CX outer H s E e s'') (fun e' s''=>CX outer H s E e' s'') s'
theorem cell_has {sc:Scope} {n:Nat} {x:Str} (h:sc.names.lookup x = some .cell):∃ c,(cellsFrom n sc.names []).lookup x = some c:=by
  have q:=PySem.W.cellsFrom_some sc.names n [] (.inl h)
  exact Option.isSome_iff_exists.mp q
theorem inv_start {CX:CXT} {P:Program} {w:World} {K:PySem.W.Frag} {mg:Str -> Option Value} {base:Heap} {N ps:List Str} {qual:Str} {scope:Scope} {f:Addr} {cd:Value} {A:Around} {outer:List Env} {s s1:Shared} {H:Hp} {E:XK} {us:List Value} {vs:List V}
    (S:FnScope N ps scope) (hd:A.handled = none) (e0:Env0 P w K mg base A outer s H) (hl:vs.length = ps.length) (r:Vals vs us)
    (x:InCallC s s.heap.objs.size (bindL (envOfC qual scope s.heap.objs.size f cd).kindOf (ps.zip us) fun _=>none) (cellsFrom (s.heap.objs.size + 1) scope.names []) (bindC (envOfC qual scope s.heap.objs.size f cd).kindOf (ps.zip us) fun _=>none) s1) :
    Inv (cxOf CX P w K mg base N qual scope f cd A outer s H E) [] (start N vs) H s1:=by
  have hpl:ps.length <= N.length:=by have:=congrArg List.length S.pre; rw [List.length_take] at this; omega
  obtain ⟨h1,tk,rfl,hk⟩:=x.done
  have noA:∀ b:Addr,b ∉ (cxOf CX P w K mg base N qual scope f cd A outer s H E).ex:=fun b z=>absurd (show b ∈ ([]:List Addr) from z) (by simp)
  refine ⟨⟨e0.mod,S.kind,rfl,rfl,Nat.le_refl _,fun y z c h1 h2=>?_,fun y hy=>?_,fun y c _ h=>?_,fun _=>hd,Around.frames_deeper e0.frames,.inr ⟨rfl,rfl⟩,fun b z=>absurd z (noA b),e0.bs,e0.bsz,fun b _ _=>noA b,fun b z=>absurd z (noA b),e0.funs,e0.frf⟩,
    rfl,e0.bare,Un.kept hk,⟨_,x.toInCall.ns,fun i y v h1 h2 h3=>?_⟩,fun y c h=>⟨_,x.cell y c h⟩,e0.hok.fresh (Nat.le_refl _),fun y c h=>?_,fun p hp=>absurd (show p ∈ ([]:List (Addr × Obj)) from hp) (by simp),e0.hok.kept hk,?_⟩
  · exact name_of_addr x.apart (PySem.mem_of_lookup h1) (PySem.mem_of_lookup h2)
  · have hy:scope.names.lookup y = some .cell \/ scope.names.lookup y = some .free:=hy
    rcases hy with hy | hy
    · exact cell_has hy
    · exact absurd rfl (S.nofree _ (PySem.mem_of_lookup hy))
  · exact Nat.le_of_lt (x.above y c (PySem.mem_of_lookup h))
  · have hi:i < vs.length:=by
      unfold start at h2
      by_cases hi:i < vs.length
      · exact hi
      · rw [List.getElem?_append_right (by simpa using hi)] at h2
        rw [List.getElem?_replicate] at h2
        split at h2 <;> cases h2
    have ha:vs[i]? = some v:=by
      unfold start at h2
      rw [List.getElem?_append_left (by simpa using hi),List.getElem?_map] at h2
      cases e:vs[i]? with
      | none=>rw [e] at h2; cases h2
      | some a=>rw [e] at h2; cases h2; rfl
    obtain ⟨u,hu,rv⟩:=r.get ha
    have hp:ps[i]? = some y:=by
      rw [<- S.pre,List.getElem?_take_of_lt (by omega)]; exact h1
    have ndP:ps.Nodup:=by rw [<- S.pre]; exact S.nd.sublist (List.take_sublist _ _)
    refine ⟨u,rv,?_⟩
    rcases S.par y (List.mem_of_getElem? hp) with k | k
    · exact .inl ⟨k,bindL_get ndP hp hu k⟩
    · obtain ⟨c,e⟩:=cell_has (n:=s.heap.objs.size + 1) k
      refine .inr ⟨.inl k,c,e,?_⟩
      have q:=x.cell y c e
      rw [bindC_get ndP hp hu (by show scope.names.lookup y ≠ _; rw [k]; decide)] at q
      exact q
  · exact e0.hok.fresh (Nat.le_of_lt (x.above y c (PySem.mem_of_lookup h)))
  · unfold start
    show _ = N.length
    rw [List.length_append,List.length_map,List.length_replicate]
    omega
theorem fn_of {CX:CXT} {P:Program} {w:World} {K:PySem.W.Frag} {mg:Str -> Option Value} {base:Heap} {k:Nat} {f:Addr} {name qual:Str} {params:Arguments} {body:List Stmt} {scope:Scope} {dV kV doc pm cdv ct oc:Value} {an od:Option Addr}
    {osl:Array (Option Value)} {N ps:List Str} {sp:Sp} (lk:K.lookup f = some ⟨oc,od,.func (PySem.W.fnOf name qual params body scope dV kV doc pm an cdv ct),osl⟩) (hcd:PySem.W.codeIn K cdv qual = true) (S:FnScope N ps scope)
    (len:∀ vs H Q E,sp vs H Q E -> vs.length = ps.length)
    (hbody:∀ (A:Around) (outer:List Env) (s:Shared) (H:Hp) (vs:List V) (Q:VK) (E:XK),Room k (A.deeper (envOfC qual scope s.heap.objs.size f cdv)) -> sp vs H Q E →
      ∃ t,PSs (cxOf CX P w K mg base N qual scope f cdv A outer s H E) body t /\ t { nx:=fun _ H'=>Q .non H',rt:=Q } (start N vs) H) :
    FnOk P w K mg base CX (k + 1) f (PySem.W.fnOf name qual params body scope dV kV doc pm an cdv ct) ps sp:=by
  refine ⟨len,fun A outer s H args us vs Q E hr e0 hb r hsp=>?_⟩
  have hl:=len _ _ _ _ hsp
  have KX:K.In s.heap:=e0.mod.kin.keeps fun b o e=>(e0.bs b o e).1
  have lim:s.heap.NoLimit:=e0.mod.nolimit.keeps fun b o e=>(e0.bs b o e).1
  have hkind:∀ y ∈ ps.zip us,scope.names.lookup y.1 = some .local \/ (scope.names.lookup y.1 = some .cell /\ ((cellsFrom (s.heap.objs.size + 1) scope.names []).lookup y.1).isSome = true):=fun ⟨n,v⟩ hy=>by
    rcases S.par n (List.of_mem_zip hy).1 with q | q
    · exact .inl q
    · exact .inr ⟨q,PySem.W.cellsFrom_some _ _ _ (.inl q)⟩
  refine codeAny_call_function hr.depth (KX _ _ lk) rfl S.co S.gen rfl (PySem.W.codeRec_of KX hcd) (hb _ _ _ _ ?_)
  refine wpAny_newFunctionEnv_cells S.kind hkind fun env he s1 x=>?_
  subst he
  refine ⟨lim.keeps x.toInCall.keep,codeAny_func ?_⟩
  obtain ⟨t,ht,hq⟩:=hbody A outer s H vs Q E (hr.deeper _) hsp
  have I:Inv (cxOf CX P w K mg base N qual scope f cdv A outer s H E) [] (start N vs) H s1:=inv_start S hr.hd e0 hl r x
  refine wpAny_mono (ht [] s1 (start N vs) H _ I hq) (fun fl s' hs=>?_) fun e s' hs=>hs
  have fin:∀ {σ':St} {H':Hp} {v:V} {u:Value},Inv (cxOf CX P w K mg base N qual scope f cdv A outer s H E) [] σ' H' s' -> RelV v u -> Q v H' -> CE outer P w H s Q u s' :=
    fun {σ' H' v u} J rv q=>⟨v,H',J.os,J.bare,J.base,J.hok,rv,q⟩
  cases fl with
  | ret u =>
    obtain ⟨v,σ',H',J,rv,q⟩:=hs
    exact fin J rv q
  | next =>
    obtain ⟨σ',H',J,q⟩:=hs
    exact fin (v:=V.non) (u:=Value.none) J rfl q
  | brk =>
    obtain ⟨_,_,_,q⟩:=hs
    exact False.elim q
  | cont =>
    obtain ⟨_,_,_,q⟩:=hs
    exact False.elim q
end L2
namespace L2
open PySem PySem.Spec PyProof.Rows
section
variable {X:Cx} {x:Str} {p pos:Pos} {e:Expr} {es:List Expr} {t:TA} {id T:String} {r:List V -> Hp -> VK -> Prop}
def tCB (r:List V -> Hp -> VK -> Prop) (t:TA):TE:=fun σ H Q=>t σ H fun vs H1=>r vs H1 Q
theorem pe_callB (hc:CallR X (.builtin id) r) (hg:Gl X x) (hm:X.mg x = none) (hv:bootBuiltins x = some (.builtin id)) (ha:PA X (e :: es) t) (hn:x ≠ "__name__":=by decide) (hdb:(x == ("__debug__":Str)) = false:=by decide)
    (he:starEach (e :: es) X.env = (false,eval e X.env) :: starEach es X.env:=by rfl) (hpl:(backTo pos (starEach es X.env)).any (·.1) = false:=by rfl):PE X (.Call (.Name x p) (e :: es) [] pos) (tCB r t):=by
  intro pins s σ H Q I h
  refine wpAny_Call_Name_kw (ld_blt I hg hm hv ?_ hn hdb)
  exact PyProof.Rows.callWith_builtin1 (thn (ha pos pins s σ H _ I h) fun us s1 ⟨vs,H1,I1,r1,q1⟩=>hc pins s1 σ H1 vs us Q I1 r1 q1) he hpl
theorem pe_callTy (hc:CallR X (.type T) r) (hg:Gl X x) (hm:X.mg x = none) (hv:bootBuiltins x = some (.type T)) (ha:PA X (e :: es) t) (hn:x ≠ "__name__":=by decide) (hdb:(x == ("__debug__":Str)) = false:=by decide)
    (he:starEach (e :: es) X.env = (false,eval e X.env) :: starEach es X.env:=by rfl) (hpl:(backTo pos (starEach es X.env)).any (·.1) = false:=by rfl):PE X (.Call (.Name x p) (e :: es) [] pos) (tCB r t):=by
  intro pins s σ H Q I h
  refine wpAny_Call_Name_kw (ld_blt I hg hm hv ?_ hn hdb)
  exact PyProof.Rows.callWith_type1 (thn (ha pos pins s σ H _ I h) fun us s1 ⟨vs,H1,I1,r1,q1⟩=>hc pins s1 σ H1 vs us Q I1 r1 q1) he hpl
end
end L2
namespace HT
open PySem PyProof.Rows
section
open PySem.SeqAt
open PySem.AutoSeq1 (wpAny_loadPart')
open PySem.MeetsSeq PySem.MeetsSeq2 PySem.MeetsSeq3
end
section
variable {prog:Program} {w:World} {A:Around} {E:Value -> Shared -> Prop} {s:Shared}
def sIx (n d:Nat):Option Int -> Nat
  | none=>d
  | some v=>if v < 0 then (v + (n:Int)).toNat else min v.toNat n
theorem sIx_nat (n d k:Nat):sIx n d (some (k:Int)) = min k n:=by
  show (if (k:Int) < 0 then ((k:Int) + (n:Int)).toNat else min (k:Int).toNat n) = min k n
  rw [if_neg (by omega),Int.toNat_natCast]
end
end HT
namespace L2
open PySem PySem.Spec PyProof.Rows
abbrev TO:=St -> Hp -> (Option Int -> Hp -> Prop) -> Prop
def PO (X:Cx) (e:Option Expr) (t:TO):Prop :=
  ∀ (pins:List (Addr × Obj)) (s:Shared) (σ:St) (H:Hp) (Q:Option Int -> Hp -> Prop),Inv X pins σ H s -> t σ H Q →
    wpAny (model X.prog X.w) X.A (evalPart e X.env) (fun u s'=>∃ o H',Inv X pins σ H' s' /\ IsPart u o /\ Q o H') X.xe s
def tNoPart:TO:=fun _ H Q=>Q none H
def tPart (t:TE):TO:=fun σ H Q=>t σ H fun x H1=>∃ i,x = .int i /\ Q (some i) H1
section
variable {X:Cx} {e:Expr} {te:TE} {lo hi:Option Expr} {tl th:TO} {pos p2:Pos}
theorem po_none:PO X none tNoPart:=by
  intro pins s σ H Q I h
  rw [evalPart_none]
  exact wpAny_pure ⟨none,H,I,.none,h⟩
theorem po_some (h:PE X e te):PO X (some e) (tPart te):=by
  intro pins s σ H Q I hw
  rw [evalPart_some]
  refine thn (h pins s σ H _ I hw) fun u s1 ⟨x,H1,I1,r1,q1⟩=>?_
  obtain ⟨i,rfl,q⟩:=q1
  obtain ⟨t,rfl⟩:=r1
  exact ⟨some i,H1,I1,.int i t,q⟩
def SlR (X:Cx) (r:V -> Option Int -> Option Int -> Hp -> VK -> Prop):Prop :=
  ∀ (pins:List (Addr × Obj)) (s:Shared) (σ:St) (H:Hp) (x:V) (v vl vu:Value) (lo hi:Option Int) (sl:Addr) (Q:VK),Inv X pins σ H s -> RelV x v -> s.heap.IsSliceOf sl vl vu .none -> IsPart vl lo -> IsPart vu hi -> r x lo hi H Q →
    ∃ T id,typeLookup (.type T) "__getitem__" = pure (some (.builtin id)) /\ s.TypeIs v T /\ wpAny (model X.prog X.w) X.A (getItem v (.ref sl)) (EP X pins σ Q) X.xe s
def tSl (r:V -> Option Int -> Option Int -> Hp -> VK -> Prop) (te:TE) (tl th:TO):TE:=fun σ H Q=>te σ H fun x H1=>tl σ H1 fun l H2=>th σ H2 fun u H3=>r x l u H3 Q
theorem pe_slice {r:V -> Option Int -> Option Int -> Hp -> VK -> Prop} (hr:SlR X r) (he:PE X e te) (hl:PO X lo tl) (hu:PO X hi th):PE X (.Subscript e (.Slice lo hi none p2) pos) (tSl r te tl th):=by
  intro pins s σ H Q I h
  refine Subscript_ (thn (he pins s σ H _ I h) fun v s1 ⟨x,H1,I1,r1,q1⟩=>?_)
  refine wpAny_Slice (thn (hl pins s1 σ H1 _ I1 q1) fun vl s2 ⟨l,H2,I2,pl,q2⟩=>thn (hu pins s2 σ H2 _ I2 q2) fun vu s3 ⟨u,H3,I3,pu,q3⟩=>?_)
  rw [evalPart_none]
  refine wpAny_pure ?_
  have I4:Inv X pins σ H3 { s3 with heap:=s3.heap.push { cls:=.type "slice",data:=.fields #[vl,vu,.none] } }:=I3.kept (t':=s3.toks) fun b ob q=>Heap.get?_push_of_some _ q
  obtain ⟨T,id,hT,ht,hg⟩:=hr pins { s3 with heap:=s3.heap.push { cls:=.type "slice",data:=.fields #[vl,vu,.none] } } σ H3 x v vl vu l u s3.heap.objs.size Q I4 r1 (Heap.IsSliceOf.new ..) pl pu q3
  show wpAny (model X.prog X.w) X.A (subscriptTail e (.Slice lo hi none p2) v (.ref s3.heap.objs.size)) (EP X pins σ Q) X.xe { s3 with heap:=s3.heap.push { cls:=.type "slice",data:=.fields #[vl,vu,.none] } }
  exact tail_any (ops:=[.ref s3.heap.objs.size,v]) ht hT hg (by with_unfolding_all rfl)
def cutV (xs:List V) (lo hi:Option Int):List V:=(xs.drop (HT.sIx xs.length 0 lo)).take (HT.sIx xs.length xs.length hi - HT.sIx xs.length 0 lo)
theorem cutV_length (xs:List V) (lo hi:Option Int):(cutV xs lo hi).length <= xs.length:=by
  unfold cutV
  rw [List.length_take,List.length_drop]
  omega
end
end L2
namespace L2
open PySem PySem.Spec PyProof.Rows
def ixN (n:Nat) (i:Int):Option Nat:=if 0 <= i then (if i < n then some i.toNat else none) else if -(n:Int) <= i then some (i + n).toNat else none
def atI {α:Type} (xs:List α) (i:Int):Option α:=(ixN xs.length i).bind fun j=>xs[j]?
theorem ixN_seq {n:Nat} {i:Int} {j:Nat} (h:ixN n i = some j):seqIndex? i n = some j /\ j < n /\ -(n:Int) <= i /\ i < n:=by
  unfold ixN at h
  by_cases h0:0 <= i
  · rw [if_pos h0] at h
    by_cases h1:i < n
    · rw [if_pos h1] at h
      have e:i.toNat = j:=Option.some.inj h
      exact ⟨by rw [seqIndex_of h0 h1,e],by omega,by omega,h1⟩
    · rw [if_neg h1] at h; cases h
  · rw [if_neg h0] at h
    by_cases h1:-(n:Int) <= i
    · rw [if_pos h1] at h
      have e:(i + n).toNat = j:=Option.some.inj h
      exact ⟨by rw [seqIndex_neg (by omega) h1,e],by omega,h1,by omega⟩
    · rw [if_neg h1] at h; cases h
theorem atI_get {α:Type} {xs:List α} {i:Int} {v:α} (h:atI xs i = some v):∃ j,seqIndex? i xs.length = some j /\ xs[j]? = some v /\ j < xs.length /\ -(xs.length:Int) <= i /\ i < xs.length:=by
  unfold atI at h
  cases e:ixN xs.length i with
  | none=>rw [e] at h; cases h
  | some j =>
    rw [e] at h
    obtain ⟨h1,h2,h3,h4⟩:=ixN_seq e
    exact ⟨j,h1,h,h2,h3,h4⟩
theorem atI_nat {α:Type} {xs:List α} {j:Nat} {v:α} (h:xs[j]? = some v):atI xs (j:Int) = some v:=by
  have hj:j < xs.length:=(List.getElem?_eq_some_iff.mp h).1
  have e:ixN xs.length (j:Int) = some j:=by
    unfold ixN
    rw [if_pos (by omega),if_pos (by omega)]; simp
  unfold atI; rw [e]; exact h
def PlainIx (b:Expr):Prop:=∀ o i,subscripted b false o i = operate [o,i] (getItem o i)
def IxR (X:Cx) (r:R2):Prop :=
  ∀ (value slice:Expr) (pins:List (Addr × Obj)) (s:Shared) (σ:St) (H:Hp) (x y:V) (v u:Value) (Q:VK),Inv X pins σ H s -> RelV x v -> RelV y u -> r x y H Q →
    subscripted slice false v u = operate [v,u] (getItem v u) -> wpAny (model X.prog X.w) X.A (subscriptTail value slice v u) (EP X pins σ Q) X.xe s
def MtR (X:Cx) (id:String) (r:V -> List V -> Hp -> VK -> Prop):Prop :=
  ∀ (pins:List (Addr × Obj)) (s:Shared) (σ:St) (H:Hp) (x:V) (xs:List V) (v:Value) (us:List Value) (Q:VK),Inv X pins σ H s -> RelV x v -> Vals xs us -> r x xs H Q →
    wpAny (model X.prog X.w) X.A (call (.builtin id) (v :: us)) (EP X pins σ Q) X.xe s
section
variable {X:Cx} {a b:Expr} {ta tb:TE} {pos:Pos}
theorem IxR.or {r r':R2} (h:IxR X r) (h':IxR X r'):IxR X (fun x y H Q=>r x y H Q \/ r' x y H Q):=by
  intro value slice pins s σ H x y v u Q I rx ry q hs
  rcases q with q | q
  · exact h value slice pins s σ H x y v u Q I rx ry q hs
  · exact h' value slice pins s σ H x y v u Q I rx ry q hs
theorem pe_ix {r:R2} (hr:IxR X r) (ha:PE X a ta) (hb:PE X b tb) (hs:PlainIx b):PE X (.Subscript a b pos) (tOp r ta tb):=by
  intro pins s σ H Q I h
  exact Subscript_ (binT ha hb I h fun v u s2 x y H2 I2 rx ry q=>hr a b pins s2 σ H2 x y v u Q I2 rx ry q (hs _ _))
def rIxL (K:PySem.W.Frag):R2:=fun x y H Q=>∃ p xs i v,x = .ref p /\ y = .int i /\ SqL K H p xs /\ atI xs i = some v /\ Q v H
def rIxT (K:PySem.W.Frag):R2:=fun x y H Q=>∃ p xs i v,x = .ref p /\ y = .int i /\ SqT K H p xs /\ atI xs i = some v /\ Q v H
def rIxS:R2:=fun x y H Q=>∃ z i c,x = .str z /\ y = .int i /\ z.length <= sizeLine /\ atI z.cps.toList i = some c /\ Q (.str ⟨#[c]⟩) H
theorem ix_list:IxR X (rIxL X.K):=by
  intro value slice pins s σ H x y v u Q I rx ry h hs
  obtain ⟨p,xs,i,z,rfl,rfl,hq,he,q⟩:=h
  cases rx
  obtain ⟨t,rfl⟩:=ry
  obtain ⟨its,r,pl,hz⟩:=I.list hq
  obtain ⟨j,h1,h2,h3,h4,h5⟩:=atI_get he
  obtain ⟨w,ew,rw'⟩:=r.get h2
  have hl:=r.length
  have hn:=line63
  have fin:EP X pins σ Q w s:=⟨z,H,I,rw',q⟩
  by_cases h0:0 <= i
  · have hj:i.toNat = j:=by
      rw [seqIndex_of h0 h5] at h1
      exact Option.some.inj h1
    exact item_listR pl.isList h0 (by omega) (by rw [hj]; simpa using ew) fin hs
  · have hj:(i + (its.toArray.size:Int)).toNat = j:=by
      rw [seqIndex_neg (by omega) h4] at h1
      rw [List.size_toArray,<- hl]
      exact Option.some.inj h1
    exact subscriptTail_builtinR (x:=w) pl.isList.typeIs slot_list_getitem.lookup
      (wpAny_getItem_list_neg (Q:=fun r s'=>r = w /\ EP X pins σ Q r s') pl.isList (by omega) (by rw [List.size_toArray] <;> omega) (by omega) (by rw [hj]; simpa using ew) ⟨rfl,fin⟩) hs
theorem ix_tup:IxR X (rIxT X.K):=by
  intro value slice pins s σ H x y v u Q I rx ry h hs
  obtain ⟨p,xs,i,z,rfl,rfl,hq,he,q⟩:=h
  cases rx
  obtain ⟨t,rfl⟩:=ry
  obtain ⟨its,r,pl,hz⟩:=I.tuple hq
  obtain ⟨j,h1,h2,h3,h4,h5⟩:=atI_get he
  obtain ⟨w,ew,rw'⟩:=r.get h2
  have hl:=r.length
  have hn:=line63
  have fin:EP X pins σ Q w s:=⟨z,H,I,rw',q⟩
  exact subscriptTail_builtinR (x:=w) pl.typeIs slot_tuple_getitem.lookup
    (getItem_tuple (j:=j) (Q:=fun r s'=>r = w /\ EP X pins σ Q r s') pl (by omega) (by omega) (by rw [List.size_toArray,<- hl]; exact h1) (by simpa using ew) ⟨rfl,fin⟩) hs
theorem ix_str:IxR X rIxS:=by
  intro value slice pins s σ H x y v u Q I rx ry h hs
  obtain ⟨z,i,c,rfl,rfl,hz,he,q⟩:=h
  obtain ⟨t,rfl⟩:=rx
  obtain ⟨t',rfl⟩:=ry
  obtain ⟨j,h1,h2,h3,h4,h5⟩:=atI_get he
  have hl:z.cps.toList.length = z.length:=by simp [Str.length]
  rw [hl] at h1 h4 h5
  have hn:=line63
  exact tail_any (typeIs_str s z t) slot_str_getitem.lookup (getItem_str (c:=c) (by
    have e1:decide (i < -(2 ^ 63:Int)) = false:=decide_eq_false (by omega)
    have e2:decide (i ≥ 2 ^ 63) = false:=decide_eq_false (by omega)
    rw [e1,e2,Bool.or_false]) (by rw [h1]; simpa using h2) ⟨.str ⟨#[c]⟩,H,I.tok _,⟨_,rfl⟩,q⟩) hs
def rIx (K:PySem.W.Frag):R2:=fun x y H Q=>rIxL K x y H Q \/ rIxT K x y H Q \/ rIxS x y H Q
theorem ix_seq:IxR X (rIx X.K):=ix_list.or (ix_tup.or ix_str)
theorem mapSeq_set (its:List Value) (n j:Nat) (u:Value):Obj.mapSeq (·.setIfInBounds j u) { cls:=.type "list",data:=.seq its.toArray n } = { cls:=.type "list",data:=.seq (its.set j u).toArray n }:=by
  simp [Obj.mapSeq]
theorem Inv.lst {pins:List (Addr × Obj)} {σ:St} {H:Hp} {s:Shared} {p:Addr} {xs:List V} (I:Inv X pins σ H s) (h:H p = some (.lst xs)) :
    ∃ (its:List Value) (n:Nat),Vals xs its /\ s.heap.get? p = some { cls:=.type "list",data:=.seq its.toArray n } /\ xs.length <= sizeLine:=by
  obtain ⟨z,its,n,r,e⟩:=I.hok p _ h
  exact ⟨its,n,r,e,z⟩
theorem Inv.lstUpd {pins:List (Addr × Obj)} {σ:St} {H:Hp} {s:Shared} {p:Addr} {xs ys:List V} {its its':List Value} {n n':Nat} {f:Obj -> Obj} (I:Inv X pins σ H s) (h:H p = some (.lst xs))
    (ho:s.heap.get? p = some { cls:=.type "list",data:=.seq its.toArray n }) (hf:f { cls:=.type "list",data:=.seq its.toArray n } = { cls:=.type "list",data:=.seq its'.toArray n' }) (r:Vals ys its') (hz:ys.length <= sizeLine) (t:Nat) :
    Inv X pins σ (upd H p (.lst ys)) { s with heap:=s.heap.update p f,toks:=t }:=by
  have e:(s.heap.update p f).get? p = some { cls:=.type "list",data:=.seq its'.toArray n' }:=by
    rw [Heap.get?_update_self f ho (by rw [hf] <;> rfl),hf]
  refine I.write (x:=p) (e:=p) (by rw [h]; trivial) (.inl rfl) (fun b u hb q=>(Heap.get?_update_other _ _ (Ne.symm hb)).trans q) ⟨_,e⟩ ?_
  exact ⟨hz,its',n',r,e⟩
def rSetL:V -> V -> V -> Hp -> (Hp -> Prop) -> Prop:=fun o i v H Q=>∃ p xs k j,o = .ref p /\ i = .int k /\ H p = some (.lst xs) /\ ixN xs.length k = some j /\ Q (upd H p (.lst (xs.set j v)))
theorem set_list:PSet X rSetL:=by
  intro pins s σ H o i v ov iv u Q I ro ri rv h
  obtain ⟨p,xs,k,j,rfl,rfl,hp,hj,q⟩:=h
  cases ro
  obtain ⟨t,rfl⟩:=ri
  obtain ⟨its,n,r,ho,hz⟩:=I.lst hp
  obtain ⟨h1,h2,h3,h4⟩:=ixN_seq hj
  have hl:=r.length
  have hn:=line63
  have I':Inv X pins σ (upd H p (.lst (xs.set j v))) { s with heap:=s.heap.update p (Obj.mapSeq (·.setIfInBounds j u)) } :=
    I.lstUpd hp ho (mapSeq_set its n j u) (r.set rv j) (by rw [List.length_set]; exact hz) s.toks
  by_cases h0:0 <= k
  · have hk:k.toNat = j:=by
      rw [seqIndex_of h0 h4] at h1
      exact Option.some.inj h1
    exact PySem.W.ki_setAt ho h0 (by omega) (by rw [List.size_toArray,<- hl]; exact h4) (by rw [hk]; exact ⟨_,I',q⟩)
  · have hk:(k + (its.toArray.size:Int)).toNat = j:=by
      rw [seqIndex_neg (by omega) h3] at h1
      rw [List.size_toArray,<- hl]
      exact Option.some.inj h1
    exact PySem.W.ki_setBack ho (by omega) (by rw [List.size_toArray,<- hl]; exact h3) (by omega) (by rw [hk]; exact ⟨_,I',q⟩)
theorem slice_bounds (lo hi:Option Int) (n:Nat):(sliceBounds lo hi none n).1 = ((HT.sIx n 0 lo:Nat):Int) /\ (sliceBounds lo hi none n).2.1 = ((HT.sIx n n hi:Nat):Int) /\ (sliceBounds lo hi none n).2.2 = 1:=by
  refine ⟨?_,?_,rfl⟩
  · cases lo with
    | none=>simp [sliceBounds,HT.sIx]
    | some i =>
      simp only [sliceBounds,HT.sIx,Option.getD_none,show (1:Int) > 0 by decide,if_true]
      by_cases h:i < 0
      · simp only [h,if_true] <;> omega
      · simp only [h,if_false] <;> omega
  · cases hi with
    | none=>simp [sliceBounds,HT.sIx]
    | some i =>
      simp only [sliceBounds,HT.sIx,Option.getD_none,show (1:Int) > 0 by decide,if_true]
      by_cases h:i < 0
      · simp only [h,if_true] <;> omega
      · simp only [h,if_false] <;> omega
theorem slicePick_cut (its:List Value) (lo hi:Option Int):slicePick its.toArray lo hi none = ((its.drop (HT.sIx its.length 0 lo)).take (HT.sIx its.length its.length hi - HT.sIx its.length 0 lo)).toArray:=by
  obtain ⟨h1,h2,h3⟩:=slice_bounds lo hi its.toArray.size
  unfold slicePick
  rw [h1,h2,h3]
  simp only [sliceRange_one,pick_run,List.size_toArray] <;> rfl
def rSlL (K:PySem.W.Frag):V -> Option Int -> Option Int -> Hp -> VK -> Prop:=fun x lo hi H Q=>∃ a xs,x = .ref a /\ SqL K H a xs /\ ∀ p,H p = none -> Q (.ref p) (upd H p (.lst (cutV xs lo hi)))
theorem sl_list:SlR X (rSlL X.K):=by
  intro pins s σ H x v vl vu lo hi sl Q I rx hs pl pu h
  obtain ⟨a,xs,rfl,hx,q⟩:=h
  cases rx
  obtain ⟨its,r,ht,hz⟩:=I.list hx
  have hlen:=r.length
  refine ⟨"list",_,slot_list_getitem.lookup,ht.isList.typeIs,?_⟩
  refine wpAny_getItem_list_slice ht.isList hs pl pu .none (by simp) ?_ (by rw [List.size_toArray] <;> omega)
  rw [slicePick_cut,<- hlen]
  refine ⟨.ref s.heap.objs.size,_,I.laid (t':=s.toks) (o:=.lst (cutV xs lo hi)) (fun b ob q=>Heap.get?_push_of_some _ q) (Nat.le_refl _) ?_,rfl,q _ (I.hok.fresh (Nat.le_refl _))⟩
  exact ⟨Nat.le_trans (cutV_length xs lo hi) hz,_,0,(r.drop (HT.sIx xs.length 0 lo)).take (HT.sIx xs.length xs.length hi - HT.sIx xs.length 0 lo),Heap.get?_push_size _ rfl⟩
def flatV:V -> Bool
  | .non=>true
  | .bl _=>true
  | .int _=>true
  | .str _=>true
  | _=>false
def eqV:V -> V -> Bool
  | .non,.non=>true
  | .bl a,.bl b=>a == b
  | .bl a,.int b=>(if a then 1 else 0) == b
  | .int a,.bl b=>a == (if b then 1 else 0)
  | .int a,.int b=>a == b
  | .str a,.str b=>a == b
  | _,_=>false
theorem eqAt_V {A:Around} {s:Shared} {y x:V} {u v:Value} (ry:RelV y u) (rx:RelV x v) (fy:flatV y = true) (fx:flatV x = true):SeqAt.EqAt A s u v (eqV y x):=by
  cases y with
  | non =>
    cases ry
    cases x with
    | non=>cases rx; exact SeqAt.EqAt.same _
    | bl b=>cases rx; exact SeqAt.EqAt.none_bool b
    | int b=>obtain ⟨t,rfl⟩:=rx; exact SeqAt.EqAt.none_int b t
    | str b=>obtain ⟨t,rfl⟩:=rx; exact SeqAt.EqAt.none_str b t
    | _=>exact absurd (show false = true from fx) Bool.false_ne_true
  | bl a =>
    cases ry
    cases x with
    | non=>cases rx; exact SeqAt.EqAt.bool_none a
    | bl b=>cases rx; exact SeqAt.EqAt.bool_bool a b
    | int b=>obtain ⟨t,rfl⟩:=rx; exact SeqAt.EqAt.bool_int a b t
    | str b=>obtain ⟨t,rfl⟩:=rx; exact SeqAt.EqAt.bool_str a b t
    | _=>exact absurd (show false = true from fx) Bool.false_ne_true
  | int a =>
    obtain ⟨t',rfl⟩:=ry
    cases x with
    | non=>cases rx; exact SeqAt.EqAt.int_none a t'
    | bl b=>cases rx; exact SeqAt.EqAt.int_bool a t' b
    | int b=>obtain ⟨t,rfl⟩:=rx; exact SeqAt.EqAt.int_int a t' b t
    | str b=>obtain ⟨t,rfl⟩:=rx; exact SeqAt.EqAt.int_str a t' b t
    | _=>exact absurd (show false = true from fx) Bool.false_ne_true
  | str a =>
    obtain ⟨t',rfl⟩:=ry
    cases x with
    | non=>cases rx; exact SeqAt.EqAt.str_none a t'
    | bl b=>cases rx; exact SeqAt.EqAt.str_bool a t' b
    | int b=>obtain ⟨t,rfl⟩:=rx; exact SeqAt.EqAt.str_int a t' b t
    | str b=>obtain ⟨t,rfl⟩:=rx; exact SeqAt.EqAt.str_str a t' b t
    | _=>exact absurd (show false = true from fx) Bool.false_ne_true
  | _=>exact absurd (show false = true from fy) Bool.false_ne_true
def eqU (x:V) (u:Value):Bool:=match u with
  | .none=>eqV .non x
  | .bool b=>eqV (.bl b) x
  | .int i _=>eqV (.int i) x
  | .str z _=>eqV (.str z) x
  | _=>false
theorem eqU_of {x y:V} {u:Value} (r:RelV y u) (f:flatV y = true):eqU x u = eqV y x:=by
  cases y with
  | non=>cases r; rfl
  | bl b=>cases r; rfl
  | int i=>obtain ⟨t,rfl⟩:=r; rfl
  | str z=>obtain ⟨t,rfl⟩:=r; rfl
  | _=>exact absurd (show false = true from f) Bool.false_ne_true
theorem any_eqU {x:V}:∀ {xs:List V} {us:List Value},Vals xs us -> xs.all flatV = true -> us.any (eqU x) = xs.any fun y=>eqV y x
  | _,_,.nil,_=>rfl
  | y :: xs,u :: us,.cons r t,f=>by
    rw [List.all_cons,Bool.and_eq_true] at f
    rw [List.any_cons,List.any_cons,eqU_of r f.1,any_eqU t f.2]
theorem mem_eqAt {A:Around} {s:Shared} {x:V} {v:Value} (rx:RelV x v) (fx:flatV x = true):∀ {xs:List V} {us:List Value},Vals xs us -> xs.all flatV = true -> ∀ u ∈ us,SeqAt.EqAt A s u v (eqU x u)
  | _,_,.nil,_=>fun u hu=>by cases hu
  | y :: xs,u :: us,.cons r t,f=>fun u' hu=>by
    rw [List.all_cons,Bool.and_eq_true] at f
    rcases List.mem_cons.mp hu with rfl | hu
    · rw [eqU_of r f.1]; exact eqAt_V r rx f.1 fx
    · exact mem_eqAt rx fx t f.2 u' hu
def inV (x:V) (xs:List V):Bool:=xs.any fun y=>eqV y x
def rIn (K:PySem.W.Frag) (neg:Bool):R2:=fun x y H Q=>∃ p xs,y = .ref p /\ (SqL K H p xs \/ SqT K H p xs) /\ flatV x = true /\ xs.all flatV = true /\ Q (.bl (if neg then !inV x xs else inV x xs)) H
theorem op_in_seq:OpR X (compareOp .In) (rIn X.K false):=by
  intro pins s σ H x y v u Q I rx ry h
  obtain ⟨p,xs,rfl,hq,fx,fs,q⟩:=h
  cases ry
  rcases hq with hq | hq
  · obtain ⟨its,r,pl,hz⟩:=I.list hq
    refine SeqAt.in_listAt (eqU x) pl.isList (fun w hw=>mem_eqAt rx fx r fs w (by simpa using hw)) ⟨.bl _,H,I,rfl,?_⟩
    rw [show its.toArray.any (eqU x) = its.any (eqU x) by simp,any_eqU r fs]
    exact q
  · obtain ⟨its,r,pl,hz⟩:=I.tuple hq
    refine SeqAt.in_tupleAt (eqU x) pl (fun w hw=>mem_eqAt rx fx r fs w (by simpa using hw)) ⟨.bl _,H,I,rfl,?_⟩
    rw [show its.toArray.any (eqU x) = its.any (eqU x) by simp,any_eqU r fs]
    exact q
theorem call_len_seq:CallR X (.builtin "len") (fun xs H Q=>∃ p ys,xs = [.ref p] /\ (SqL X.K H p ys \/ SqT X.K H p ys) /\ Q (.int ys.length) H):=by
  intro pins s σ H xs us Q I r h
  obtain ⟨p,ys,rfl,hq,q⟩:=h
  obtain ⟨u,rfl,rx⟩:=vals1 r
  cases rx
  have hn:=line63
  rcases hq with hq | hq
  · obtain ⟨its,r',pl,hz⟩:=I.list hq
    have hlen:=r'.length
    exact Calls.call_len_list pl.isList (by simp only [List.size_toArray] <;> omega) ⟨.int ys.length,H,I.tok _,⟨s.toks + 1,by rw [List.size_toArray,hlen]⟩,q⟩
  · obtain ⟨its,r',pl,hz⟩:=I.tuple hq
    have hlen:=r'.length
    exact len_tuple pl (by simp only [List.size_toArray] <;> omega) ⟨.int ys.length,H,I.tok _,⟨s.toks + 1,by rw [List.size_toArray,hlen]⟩,q⟩
theorem call_len_str:CallR X (.builtin "len") (fun xs H Q=>∃ z,xs = [.str z] /\ z.length <= sizeLine /\ Q (.int z.length) H):=by
  intro pins s σ H xs us Q I r h
  obtain ⟨z,rfl,hz,q⟩:=h
  obtain ⟨u,rfl,t,rfl⟩:=vals1 r
  have hn:=line63
  exact len_str (by omega) ⟨.int z.length,H,I.tok _,⟨_,rfl⟩,q⟩
theorem call_list_of:CallR X (.type "list") (fun xs H Q=>∃ p ys,xs = [.ref p] /\ (SqL X.K H p ys \/ SqT X.K H p ys) /\ ∀ l,H l = none -> Q (.ref l) (upd H l (.lst ys))):=by
  intro pins s σ H xs us Q I r h
  obtain ⟨p,ys,rfl,hq,q⟩:=h
  obtain ⟨u,rfl,rx⟩:=vals1 r
  cases rx
  have fin:∀ (its:List Value),Vals ys its -> ys.length <= sizeLine -> ∀ (h':Heap) (c':Nat),(∀ b o',s.heap.get? b = some o' -> h'.get? b = some o') →
      h'.get? s.heap.objs.size = some { cls:=.type "list",dict:=none,data:=.seq its.toArray c',slots:=#[] } -> EP X pins σ Q (.ref s.heap.objs.size) { s with heap:=h' }:=fun its r' hz h' c' kp e =>
    ⟨.ref s.heap.objs.size,_,I.laid (t':=s.toks) kp (Nat.le_refl _) (show ObjOk X.prog X.w _ h' _ (.lst ys) from ⟨hz,its,c',r',e⟩),rfl,q _ (I.hok.fresh (Nat.le_refl _))⟩
  rcases hq with hq | hq
  · obtain ⟨its,r',pl,hz⟩:=I.list hq
    have hlen:=r'.length
    obtain ⟨o,ho,hc,n,hd⟩:=pl.isList
    exact call_list_seq p (.inl rfl) ho hc hd (fun h' c' kp e=>fin its r' hz h' c' kp e) (by simp only [List.size_toArray] <;> omega)
  · obtain ⟨its,r',pl,hz⟩:=I.tuple hq
    have hlen:=r'.length
    obtain ⟨o,ho,hc,n,hd⟩:=pl
    exact call_list_seq p (.inr rfl) ho hc hd (fun h' c' kp e=>fin its r' hz h' c' kp e) (by simp only [List.size_toArray] <;> omega)
theorem call_tuple_of:CallR X (.type "tuple") (fun xs H Q=>∃ p ys,xs = [.ref p] /\ ((SqL X.K H p ys /\ ∀ l,H l = none -> Q (.ref l) (upd H l (.tup ys))) \/ (SqT X.K H p ys /\ Q (.ref p) H))):=by
  intro pins s σ H xs us Q I r h
  obtain ⟨p,ys,rfl,h⟩:=h
  obtain ⟨u,rfl,rx⟩:=vals1 r
  cases rx
  rcases h with ⟨hq,q⟩ | ⟨hq,q⟩
  · obtain ⟨its,r',pl,hz⟩:=I.list hq
    have hlen:=r'.length
    refine call_tuple_list pl.isList (fun h' kp=>?_) (by simp only [List.size_toArray] <;> omega)
    have I1:Inv X pins σ H { s with heap:=h' }:=I.kept (t':=s.toks) kp
    have I2:Inv X pins σ (upd H h'.objs.size (.tup ys)) { s with heap:=h'.push { cls:=.type "tuple",data:=.seq its.toArray } } :=
      I1.laid (t':=s.toks) (fun b o e=>Heap.get?_push_of_some _ e) (Nat.le_refl _) (show ObjOk X.prog X.w _ _ _ (.tup ys) from ⟨hz,its,r',IsTup.new _ _⟩)
    exact ⟨.ref h'.objs.size,_,I2,rfl,q _ (I1.hok.fresh (Nat.le_refl _))⟩
  · obtain ⟨its,r',pl,hz⟩:=I.tuple hq
    exact call_tuple_same pl ⟨.ref p,H,I,rfl,q⟩
def tyV (K:PySem.W.Frag) (T:String) (x:V) (H:Hp):Prop:=match x with
  | .str _=>T = "str"
  | .int _=>T = "int"
  | .ref p=>(T = "list" /\ ∃ xs,SqL K H p xs) \/ (T = "tuple" /\ ∃ o,K.lookup p = some o /\ o.cls = .type "tuple" /\ o.dict = none) ∨
      (T = "dict" /\ ((∃ kvs,H p = some (.dK kvs)) \/ ∃ kvs,H p = some (.dT kvs))) \/ (T = "set" /\ ∃ S n,H p = some (.set S n))
  | _=>False
theorem tyV_is {pins:List (Addr × Obj)} {σ:St} {H:Hp} {s:Shared} {T:String} {x:V} {v:Value} (I:Inv X pins σ H s) (r:RelV x v) (ty:tyV X.K T x H) :
    s.TypeIs v T /\ ∀ a,v = .ref a -> ∃ ob,s.heap.get? a = some ob /\ ob.dict = none:=by
  cases x with
  | str z =>
    obtain ⟨t,rfl⟩:=r
    cases (show T = "str" from ty)
    exact ⟨typeIs_str s z t,fun _ e=>nomatch e⟩
  | int i =>
    obtain ⟨t,rfl⟩:=r
    cases (show T = "int" from ty)
    exact ⟨typeIs_int s i t,fun _ e=>nomatch e⟩
  | ref p =>
    cases r
    rcases ty with ⟨rfl,xs,hq⟩ | ⟨rfl,o,hk,hc,hd⟩ | ⟨rfl,hk⟩ | ⟨rfl,S,n,hk⟩
    · obtain ⟨its,_,pl,_⟩:=I.list hq
      refine ⟨pl.isList.typeIs,fun a e=>?_⟩
      cases e
      obtain ⟨o,n,e,c,hd,_⟩:=pl
      exact ⟨o,e,hd⟩
    · refine ⟨⟨o,I.kIn p o hk,hc⟩,fun a e=>?_⟩
      cases e
      exact ⟨o,I.kIn _ o hk,hd⟩
    · have z:∃ o,s.heap.get? p = some o /\ o.ExactDict:=by
        rcases hk with ⟨kvs,hk⟩ | ⟨kvs,hk⟩
        · obtain ⟨_,_,_,_,o,_,_,e,ex,_⟩:=I.hok p _ hk
          exact ⟨o,e,ex⟩
        · obtain ⟨_,_,_,_,o,_,_,e,ex,_⟩:=I.hok p _ hk
          exact ⟨o,e,ex⟩
      obtain ⟨o,e,ex⟩:=z
      refine ⟨⟨o,e,ex.1⟩,fun a e2=>?_⟩
      cases e2
      exact ⟨o,e,ex.2.1⟩
    · obtain ⟨o,_,_,_,e,ex,_⟩:=I.hok p _ hk
      refine ⟨⟨o,e,ex.1⟩,fun a e2=>?_⟩
      cases e2
      exact ⟨o,e,ex.2.1⟩
  | _=>exact False.elim ty
def tBM (K:PySem.W.Frag) (T:String) (r:V -> List V -> Hp -> VK -> Prop) (to:TE) (t:TA):TE:=fun σ H Q=>to σ H fun x H1=>tyV K T x H1 /\ t σ H1 fun xs H2=>r x xs H2 Q
variable {o e:Expr} {es:List Expr} {to:TE} {t:TA} {name:Str} {apos cpos:Pos} {T id:String} {r:V -> List V -> Hp -> VK -> Prop}
theorem pe_bm (pa:PlainAttrs T) (slot:Slot T name id) (hty:typeOf (.builtin id) = pure (.type "method_descriptor")) (hm:MtR X id r) (ho:PE X o to) (ha:PA X (e :: es) t)
    (hbase:attributeBase o name X.env (eval o X.env) = eval o X.env:=by rfl)
    (hfew:((backTo cpos (starEach (e :: es) X.env)).all (fun x=>!x.1) && (backToKw cpos (keywordEach [] X.env)).all (fun x=>x.1.isSome)
      && decide ((e :: es).length + ([]:List Keyword).length + (if ([]:List Keyword).isEmpty then 0 else 1) < 30)) = true:=by rfl)
    (hline:(apos.endLine == cpos.line) = true:=by rfl) (hs:starEach (e :: es) X.env = (false,eval e X.env) :: starEach es X.env:=by rfl) (hplain:(backTo cpos (starEach es X.env)).any (·.1) = false:=by rfl) :
    PE X (.Call (.Attribute o name apos) (e :: es) [] cpos) (tBM X.K T r to t):=by
  intro pins s σ H Q I h
  refine wpAny_Call_method_late hbase hfew hline rfl (thn (ho pins s σ H _ I h) fun v s1 ⟨x,H1,I1,r1,ty,q1⟩=>?_)
  obtain ⟨h1,h2⟩:=tyV_is I1 r1 ty
  refine ⟨T,id,pa,slot,hty,h1,h2,?_⟩
  have hA:=ha cpos pins s1 σ H1 _ I1 q1
  rw [hs] at hA ⊢
  refine Calls.callWith_builtin (by show (false || (backTo cpos (starEach es X.env)).any (·.1)) = false; rw [hplain] <;> rfl) (Calls.evalArgs_plain ?_)
  exact thn hA fun us s2 ⟨vs,H2,I2,r2,q2⟩=>hm pins s2 σ H2 x vs v us Q I2 r1 r2 q2
end
end L2
namespace L2
open PySem PySem.Spec PyProof.Rows
def MtM (X:Cx) (id:String) (r:V -> List V -> Hp -> VK -> Prop):Prop :=
  ∀ (pins:List (Addr × Obj)) (s:Shared) (σ:St) (H:Hp) (x:V) (xs:List V) (v:Value) (us:List Value) (Q:VK),Inv X pins σ H s -> RelV x v -> Vals xs us -> r x xs H Q →
    wpAny (model X.prog X.w) X.A (call (.builtin id) (v :: us)) (EP X pins σ Q) X.xe s
theorem Vals.one:∀ {x:V} {us:List Value},Vals [x] us -> ∃ u,us = [u] /\ RelV x u
  | _,_,.cons r .nil=>⟨_,rfl,r⟩
theorem Vals.two:∀ {x y:V} {us:List Value},Vals [x,y] us -> ∃ u v,us = [u,v] /\ RelV x u /\ RelV y v
  | _,_,_,.cons r (.cons q .nil)=>⟨_,_,rfl,r,q⟩
theorem Vals.eraseIdx:∀ {xs:List V} {us:List Value} (i:Nat),Vals xs us -> Vals (xs.eraseIdx i) (us.eraseIdx i)
  | _,_,_,.nil=>.nil
  | _,_,0,.cons _ t=>t
  | _,_,i + 1,.cons r t=>.cons r (Vals.eraseIdx i t)
theorem len_erase {α:Type}:∀ (l:List α) (i:Nat),(l.eraseIdx i).length <= l.length
  | [],_=>Nat.le_refl _
  | _ :: _,0=>Nat.le_succ _
  | _ :: r,i + 1=>Nat.succ_le_succ (len_erase r i)
section
variable {X:Cx} {pins:List (Addr × Obj)} {σ:St} {H:Hp} {s:Shared} {l b:Addr} {xs ys zs:List V}
theorem Inv.lset {its its':List Value} {n:Nat} {f:Array Value -> Array Value} {t':Nat} (I:Inv X pins σ H s) (hH:H l = some (.lst xs))
    (e:s.heap.get? l = some { cls:=.type "list",data:=.seq its.toArray n }) (hf:f its.toArray = its'.toArray) (hv:Vals ys its') (hz:ys.length <= sizeLine) :
    Inv X pins σ (upd H l (.lst ys)) { s with heap:=s.heap.update l (Obj.mapSeq f),toks:=t' }:=by
  have q:=PySem.IsL.update e f
  rw [hf] at q
  refine I.write (x:=l) (e:=l) (by rw [hH]; exact trivial) (.inl rfl) (fun b' u hb hu=>(Heap.get?_update_other s.heap (Obj.mapSeq f) (Ne.symm hb)).trans hu) ⟨_,q⟩ ?_
  exact ⟨hz,its',_,hv,q⟩
theorem Inv.lnew {its:List Value} {t':Nat} (I:Inv X pins σ H s) (hv:Vals ys its) (hz:ys.length <= sizeLine) :
    Inv X pins σ (upd H s.heap.objs.size (.lst ys)) { s with heap:=s.heap.push { cls:=.type "list",data:=.seq its.toArray },toks:=t' } :=
  I.laid (fun _ _ q=>Heap.get?_push_of_some _ q) (Nat.le_refl _) ⟨hz,its,0,hv,Heap.get?_push_size _ rfl⟩
theorem Inv.fresh (I:Inv X pins σ H s):H s.heap.objs.size = none:=I.hok.fresh (Nat.le_refl _)
theorem Inv.lstM (I:Inv X pins σ H s) (hH:H l = some (.lst xs)):xs.length <= sizeLine /\ ∃ (its:List Value) (n:Nat),Vals xs its /\ xs.length = its.length /\ s.heap.get? l = some { cls:=.type "list",data:=.seq its.toArray n }:=by
  obtain ⟨z,its,n,r,e⟩:=I.hok l _ hH
  exact ⟨z,its,n,r,r.length,e⟩
theorem notLongL {n:Nat} (h:n <= sizeLine):Builtin.List.listTooLong n = false:=by
  unfold Builtin.List.listTooLong
  exact decide_eq_false (by omega)
end
section
variable {X:Cx}
def rAppend:V -> List V -> Hp -> VK -> Prop:=fun x vs H Q=>∃ l xs y,x = .ref l /\ vs = [y] /\ H l = some (.lst xs) /\ xs.length < sizeLine /\ Q .non (upd H l (.lst (xs ++ [y])))
theorem mt_append:MtM X "list.append" rAppend:=by
  intro pins s σ H x vs v us Q I rx rv h
  obtain ⟨l,xs,y,rfl,rfl,hH,hz,q⟩:=h
  cases rx
  obtain ⟨u,rfl,ru⟩:=rv.one
  obtain ⟨z,its,n,r,hl,e⟩:=I.lstM hH
  refine call_meets F.slot_list_append ⟨_,e,rfl⟩ F.entry_list_append (F.args_list_append_2 _ _) (PySem.list_append l its.toArray n u (by rw [List.size_toArray]; omega)) ⟨e,?_⟩
  refine ⟨.non,_,I.lset (its':=its ++ [u]) hH e (by simp) (r.append (.cons ru .nil)) ?_,rfl,q⟩
  rw [List.length_append,List.length_singleton]
  omega
def rExtend:V -> List V -> Hp -> VK -> Prop:=fun x vs H Q=>∃ l b xs zs,x = .ref l /\ vs = [.ref b] /\ H l = some (.lst xs) /\ H b = some (.lst zs) /\ xs.length + zs.length <= sizeLine /\ Q .non (upd H l (.lst (xs ++ zs)))
theorem mt_extend:MtM X "list.extend" rExtend:=by
  intro pins s σ H x vs v us Q I rx rv h
  obtain ⟨l,b,xs,zs,rfl,rfl,hH,hB,hz,q⟩:=h
  cases rx
  obtain ⟨u,rfl,ru⟩:=rv.one
  cases ru
  obtain ⟨z,its,n,r,hl,e⟩:=I.lstM hH
  obtain ⟨z2,its2,n2,r2,hl2,e2⟩:=I.lstM hB
  have hsz:its.toArray.size + its2.toArray.size <= sizeLine:=by rw [List.size_toArray,List.size_toArray]; omega
  have hlong:¬ (!its.toArray.isEmpty && Builtin.List.listTooLong (its.toArray.size + its2.toArray.size)) = true:=by
    rw [notLongL hsz,Bool.and_false]
    exact Bool.false_ne_true
  refine call_meets F.slot_list_extend ⟨_,e,rfl⟩ F.entry_list_extend (F.args_list_extend_2 _ _)
    (AutoSeq1.list_extend_list_list_0 l its.toArray n b its2.toArray n2 hlong (by rw [List.size_toArray]; omega) (by omega)) ⟨e,e2,?_⟩
  refine ⟨.non,_,I.lset (its':=its ++ its2) hH e (by simp) (r.append r2) ?_,rfl,q⟩
  rw [List.length_append]
  omega
def rCat:R2:=fun x y H Q=>∃ l b xs zs,x = .ref l /\ y = .ref b /\ H l = some (.lst xs) /\ H b = some (.lst zs) /\ xs.length + zs.length <= sizeLine /\ ∀ p,H p = none -> Q (.ref p) (upd H p (.lst (xs ++ zs)))
theorem op_cat:OpR X (binaryOp .Add) rCat:=by
  intro pins s σ H x y v u Q I rx ry h
  obtain ⟨l,b,xs,zs,rfl,rfl,hH,hB,hz,q⟩:=h
  cases rx
  cases ry
  obtain ⟨z,its,n,r,hl,e⟩:=I.lstM hH
  obtain ⟨z2,its2,n2,r2,hl2,e2⟩:=I.lstM hB
  refine PySem.P.add_list e e2 ?_ (by rw [List.size_toArray,List.size_toArray]; omega)
  have ea:its.toArray ++ its2.toArray = (its ++ its2).toArray:=by simp
  rw [ea]
  exact ⟨.ref _,_,I.lnew (t':=s.toks) (r.append r2) (by rw [List.length_append]; omega),rfl,q _ I.fresh⟩
end
section
variable {prog:Program} {w:World} {A:Around} {E:Value -> Shared -> Prop} {s:Shared}
set_option maxRecDepth 100000 in
end
section
variable {X:Cx}
end
end L2
namespace L2
open PySem PySem.Spec PyProof.Rows
theorem Vals.ints:∀ {ns:List Int} {us:List Value},Vals (ns.map V.int) us -> IntsAre us ns
  | [],us,h=>by
    rw [List.map_nil] at h
    cases h
    exact IntsAre.nil
  | n :: ns,us,h=>by
    rw [List.map_cons] at h
    cases h with
    | cons r t =>
      obtain ⟨k,rfl⟩:=r
      exact IntsAre.cons n k (Vals.ints t)
theorem Vals.bls:∀ {bs:List Bool} {us:List Value},Vals (bs.map V.bl) us -> us = bs.map Value.bool
  | [],us,h=>by
    rw [List.map_nil] at h
    cases h
    rfl
  | b :: bs,us,h=>by
    rw [List.map_cons] at h
    cases h with
    | cons r t =>
      cases r
      rw [Vals.bls t,List.map_cons]
theorem Vals.ref1 {a:Addr} {us:List Value} (r:Vals [V.ref a] us):us = [Value.ref a]:=by
  cases r with
  | cons r t =>
    cases t
    cases r
    rfl
section
variable {prog:Program} {w:World} {A:Around} {E:Value -> Shared -> Prop} {s:Shared} {l:Addr} {its:List Value} {ns:List Int} {Q:Value -> Shared -> Prop}
theorem sum_raw (hh:A.handled = none) (hl:s.heap.IsList l its.toArray) (hi:IntsAre its ns)
    (h:∀ h' tk t',(∀ b o,s.heap.get? b = some o -> h'.get? b = some o) -> Q (.int ns.sum t') { s with heap:=h',toks:=tk }):wpAny (model prog w) A (call (.builtin "sum") [.ref l]) Q E s:=by
  obtain ⟨xs,e⟩:=hi.allInts.items
  have hn:numsOf (intItems xs).toList = ns:=by rw [<- e]; exact hi.numsOf
  rw [nums_intItems] at hn
  rw [e] at hl
  refine PySem.sum_intListG hh hl fun h' tk t' hk=>?_
  have:=h h' tk t' hk
  rw [preSum_eq,List.take_of_length_le (by simp),hn]; exact this
theorem min_raw (hh:A.handled = none) (hl:s.heap.IsList l its.toArray) (hi:IntsAre its ns) (hne:0 < ns.length)
    (h:∀ h' tk M t',(∀ b o,s.heap.get? b = some o -> h'.get? b = some o) -> M ∈ ns -> (∀ a,a ∈ ns -> M <= a) -> Q (.int M t') { s with heap:=h',toks:=tk }):wpAny (model prog w) A (call (.builtin "min") [.ref l]) Q E s:=by
  obtain ⟨xs,e⟩:=hi.allInts.items
  have hn:numsOf (intItems xs).toList = ns:=by rw [<- e]; exact hi.numsOf
  rw [nums_intItems] at hn
  subst hn
  rw [e] at hl
  have hsz:0 < xs.size:=by simpa using hne
  refine PySem.min_intList hh hl hsz fun v h' tk hv hk=>?_
  obtain ⟨t,rfl⟩:=intItems_at hv
  obtain ⟨h1,h2⟩:=argBest_lt (numAt xs) (xs.size - 1)
  refine h h' tk _ t hk ?_ fun a ha=>?_
  · rw [numAt_eq]; exact PySem.getD_mem (by rw [List.length_map,Array.length_toList]; omega)
  · obtain ⟨j,hj,rfl⟩:=mem_getD ha
    rw [List.length_map,Array.length_toList] at hj
    rw [<- numAt_eq]; exact h2 j (by omega)
end
section
variable {X:Cx}
def rSum (K:PySem.W.Frag):List V -> Hp -> VK -> Prop:=fun vs H Q=>∃ (a:Addr) (ns:List Int),vs = [V.ref a] /\ SqL K H a (ns.map V.int) /\ Q (.int ns.sum) H
def rMin (K:PySem.W.Frag):List V -> Hp -> VK -> Prop:=fun vs H Q=>∃ (a:Addr) (ns:List Int),vs = [V.ref a] /\ SqL K H a (ns.map V.int) /\ 0 < ns.length /\ ∀ m,m ∈ ns -> (∀ y,y ∈ ns -> m <= y) -> Q (.int m) H
theorem cr_sum (hc:X.calm = true):CallR X (.builtin "sum") (rSum X.K):=by
  intro pins s σ H vs us Q I r h
  obtain ⟨a,ns,rfl,hs,q⟩:=h
  obtain ⟨its,rv,hl,_⟩:=I.list hs
  rw [Vals.ref1 r]
  exact sum_raw (I.ok.hd hc) hl.isList rv.ints fun h' tk t' hk=>⟨.int _,H,I.kept hk,⟨_,rfl⟩,q⟩
theorem cr_min (hc:X.calm = true):CallR X (.builtin "min") (rMin X.K):=by
  intro pins s σ H vs us Q I r h
  obtain ⟨a,ns,rfl,hs,hne,q⟩:=h
  obtain ⟨its,rv,hl,_⟩:=I.list hs
  rw [Vals.ref1 r]
  exact min_raw (I.ok.hd hc) hl.isList rv.ints hne fun h' tk m t' hk h1 h2=>⟨.int _,H,I.kept hk,⟨_,rfl⟩,q m h1 h2⟩
end
section
variable {X:Cx}
end
section
variable {X:Cx}
end
theorem iter_any {prog:Program} {w:World} {A:Around} {E:Value -> Shared -> Prop} {s:Shared} {l:Addr} {items:Array Value} {Q:Value -> Shared -> Prop} (hl:s.heap.IsList l items)
    (h:∀ s₂:Shared,s₂ = { s with heap:=s.heap.push { cls:=.type "list_iterator",data:=.fields #[.ref l,.int 0 0] } } →
      (s₂.heap.IsListIter s.heap.objs.size l 0 /\ s₂.heap.IsList l items) -> l ≠ s.heap.objs.size -> Q (.ref s.heap.objs.size) s₂):wpAny (model prog w) A (pyIter (.ref l)) Q E s:=by
  have hlt:l < s.heap.objs.size:=by obtain ⟨_,e,_⟩:=hl; exact Heap.lt_size e
  exact wpAny_pyIter_list hl (h _ rfl ⟨⟨_,Heap.get?_push_size _ rfl,rfl,rfl⟩,hl.push _⟩ (Nat.ne_of_lt hlt))
theorem truth_bools {prog:Program} {w:World} {A:Around} {bs:List Bool} {its:List Value} (e:its = bs.map Value.bool) :
    TruthOf prog w A (fun i v=>its.toArray[i]? = some v) (fun i=>bs.getD i false):=fun i v s Q E hv hq=>by
  have hv':its[i]? = some v:=by simpa using hv
  rw [e,List.getElem?_map] at hv'
  obtain ⟨b,hb,rfl⟩:=Option.map_eq_some_iff.mp hv'
  have hg:bs.getD i false = b:=by rw [List.getD_eq_getElem?_getD,hb] <;> rfl
  have hq':Q (bs.getD i false) s:=hq
  rw [hg] at hq'
  exact wpAny_truthy_bool hq'
theorem all_range:∀ bs:List Bool,(List.range bs.length).all (fun i=>bs.getD i false) = bs.all id
  | []=>rfl
  | b :: bs=>by
    rw [List.length_cons,List.range_succ_eq_map,List.all_cons,List.all_map,List.all_cons,<- all_range bs]
    all_goals rfl
section
variable {X:Cx}
def rAll (K:PySem.W.Frag):List V -> Hp -> VK -> Prop:=fun vs H Q=>∃ (a:Addr) (bs:List Bool),vs = [V.ref a] /\ SqL K H a (bs.map V.bl) /\ Q (.bl (bs.all id)) H
theorem cr_all (hc:X.calm = true):CallR X (.builtin "all") (rAll X.K):=by
  intro pins s σ H vs us Q I r h
  obtain ⟨a,bs,rfl,hs,q⟩:=h
  obtain ⟨its,rv,hl,_⟩:=I.list hs
  rw [Vals.ref1 r]
  have hb:=rv.bls
  refine call_all_walk (iter_any hl.isList fun s₂ e2 st hne=>?_)
  subst e2
  refine ⟨_,_,_,_,_,_,_,rfl,Walks.list (A:=X.A.in1) (I.ok.hd hc) _ a hne its.toArray,st,truth_bools hb,fun h' tk hk=>?_⟩
  refine ⟨.bl _,H,I.kept fun b o eo=>hk b o (fun hmem=>?_) (Heap.get?_push_of_some _ eo),?_,q⟩
  · rcases List.mem_cons.mp hmem with e1 | hmem
    · exact absurd (e1 ▸ Heap.lt_size eo) (Nat.lt_irrefl _)
    · cases hmem
  · show Value.bool _ = Value.bool _
    rw [<- all_range,hb,List.size_toArray,List.length_map]
end
mutual
inductive Dp (K:PySem.W.Frag) (H:Hp):V -> PyData -> Prop
  | non:Dp K H .non .none
  | bl (b:Bool):Dp K H (.bl b) (.bool b)
  | int (i:Int):Dp K H (.int i) (.int i)
  | str (x:Str):Dp K H (.str x) (.str x)
  | lst {a:Addr} {xs:List V} {ds:List PyData}:SqL K H a xs -> DpAll K H xs ds -> Dp K H (.ref a) (.list ds)
  | tup {a:Addr} {xs:List V} {ds:List PyData}:SqT K H a xs -> DpAll K H xs ds -> Dp K H (.ref a) (.tuple ds)
inductive DpAll (K:PySem.W.Frag) (H:Hp):List V -> List PyData -> Prop
  | nil:DpAll K H [] []
  | cons {v:V} {vs:List V} {d:PyData} {ds:List PyData}:Dp K H v d -> DpAll K H vs ds -> DpAll K H (v :: vs) (d :: ds)
end
section
variable {X:Cx} {pins:List (Addr × Obj)} {σ:St} {H:Hp} {s:Shared}
mutual
theorem Dp.reads (I:Inv X pins σ H s):∀ (d:PyData) (v:V) (u:Value),Dp X.K H v d -> RelV v u -> ∃ as,Reads s.heap u d as
  | .none,_,_,h,r=>by
    cases h
    cases r
    exact ⟨_,Reads.none⟩
  | .bool b,_,_,h,r=>by
    cases h
    cases r
    exact ⟨_,Reads.bool b⟩
  | .int i,_,_,h,r=>by
    cases h
    obtain ⟨t,rfl⟩:=r
    exact ⟨_,Reads.int i t⟩
  | .str x,_,_,h,r=>by
    cases h
    obtain ⟨t,rfl⟩:=r
    exact ⟨_,Reads.str x t⟩
  | .list ds,_,_,h,r=>by
    cases h with
    | lst hs ha =>
      cases r
      obtain ⟨its,rv,⟨o,n,ho,hc,_,hd⟩,_⟩:=I.list hs
      obtain ⟨as,hr⟩:=Dp.readsAll I ds _ its ha rv
      exact ⟨_,Reads.list ho hc hd hr⟩
  | .tuple ds,_,_,h,r=>by
    cases h with
    | tup hs ha =>
      cases r
      obtain ⟨its,rv,⟨o,ho,hc,n,hd⟩,_⟩:=I.tuple hs
      obtain ⟨as,hr⟩:=Dp.readsAll I ds _ its ha rv
      exact ⟨_,Reads.tuple ho hc hd hr⟩
  | .dict _,_,_,h,_=>by cases h
theorem Dp.readsAll (I:Inv X pins σ H s):∀ (ds:List PyData) (vs:List V) (us:List Value),DpAll X.K H vs ds -> Vals vs us -> ∃ as,ReadsAll s.heap us ds as
  | [],_,_,h,r=>by
    cases h
    cases r
    exact ⟨_,ReadsAll.nil⟩
  | d :: ds,_,_,h,r=>by
    cases h with
    | cons h1 h2 =>
      cases r with
      | cons r1 r2 =>
        obtain ⟨as,q1⟩:=Dp.reads I d _ _ h1 r1
        obtain ⟨bs,q2⟩:=Dp.readsAll I ds _ _ h2 r2
        exact ⟨_,ReadsAll.cons q1 q2⟩
end
end
section
variable {X:Cx}
end
end L2
namespace L2
open PySem PySem.Spec PyProof.Rows
abbrev CellAt (h:Heap) (c:Addr) (v:Option Value):Prop:=h.IsCell c v
def relS (scope sc:Scope):Scope :=
  { scope with names:=scope.names.map fun (n,k)=>if (k == .free && sc.kind == .function && sc.names.lookup n == some .cell) then (n,.cell) else (n,k) }
def cloFrom (cells:List (Str × Addr)):List (Str × NameKind) -> List (Str × Addr) -> List (Str × Addr)
  | [],acc=>acc
  | (n,k) :: r,acc=>if k == .free then cloFrom cells r ((n,(cells.lookup n).getD 0) :: acc) else cloFrom cells r acc
theorem closure_loop (env:Env) (f:Str × NameKind -> List (Str × Addr) -> Sem (ForInStep (List (Str × Addr))))
    (hf:∀ n k c,f (n,k) c = if k == .free then (do let a <- cellOf env n; pure (.yield ((n,a) :: c))) else pure (.yield c)) :
    ∀ (names:List (Str × NameKind)) (acc:List (Str × Addr)),(∀ y ∈ names,y.2 = .free -> ∃ c,env.cells.lookup y.1 = some c) -> forIn names acc f = pure (cloFrom env.cells names acc)
  | [],acc,_=>by rw [List.forIn_nil]; rfl
  | (n,k) :: r,acc,h=>by
    rw [List.forIn_cons,hf]
    have ih:=fun acc=>closure_loop env f hf r acc fun y hy=>h y (List.mem_cons_of_mem _ hy)
    unfold cloFrom
    by_cases hk:(k == NameKind.free) = true
    · rw [if_pos hk,if_pos hk]
      obtain ⟨c,hc⟩:=h (n,k) List.mem_cons_self (by simpa using hk)
      have e:cellOf env n = pure c:=by unfold cellOf; rw [hc]
      rw [e]
      have e2:(env.cells.lookup n).getD 0 = c:=by rw [hc]; rfl
      rw [e2]
      exact ih _
    · rw [if_neg hk,if_neg hk]
      exact ih _
theorem closure_ok {scope:Scope} {env:Env} (h:∀ y ∈ scope.names,y.2 = .free -> ∃ c,env.cells.lookup y.1 = some c):closureFor scope env = pure (cloFrom env.cells scope.names []):=by
  simp only [closureFor]
  rw [closure_loop env _ (fun n k c=>rfl) scope.names [] h]
  rfl
theorem mem_lookup {α:Type}:∀ {l:List (Str × α)} {n:Str} {c:α},(n,c) ∈ l -> ∃ c',l.lookup n = some c'
  | (k,v) :: r,n,c,h=>by
    rw [List.lookup_cons]
    cases hb:n == k with
    | true=>exact ⟨_,rfl⟩
    | false =>
      rcases List.mem_cons.mp h with e | h
      · cases e; simp at hb
      · exact mem_lookup h
theorem cloFrom_mem {cells:List (Str × Addr)}:∀ {names:List (Str × NameKind)} {acc:List (Str × Addr)} {n:Str} {c:Addr},(n,c) ∈ cloFrom cells names acc -> (n,c) ∈ acc \/ ((n,.free) ∈ names /\ c = (cells.lookup n).getD 0)
  | [],_,_,_,h=>.inl h
  | (m,k) :: r,acc,n,c,h=>by
    unfold cloFrom at h
    split at h
    · rename_i hk
      have hk:k = .free:=by simpa using hk
      rcases cloFrom_mem h with h | ⟨h1,h2⟩
      · rcases List.mem_cons.mp h with e | h
        · cases e; exact .inr ⟨hk ▸ List.mem_cons_self,rfl⟩
        · exact .inl h
      · exact .inr ⟨List.mem_cons_of_mem _ h1,h2⟩
    · rcases cloFrom_mem h with h | ⟨h1,h2⟩
      · exact .inl h
      · exact .inr ⟨List.mem_cons_of_mem _ h1,h2⟩
theorem cloFrom_acc {cells:List (Str × Addr)}:∀ {names:List (Str × NameKind)} {acc:List (Str × Addr)} {p:Str × Addr},p ∈ acc -> p ∈ cloFrom cells names acc
  | [],_,_,h=>h
  | (m,k) :: r,acc,p,h=>by
    unfold cloFrom
    split
    · exact cloFrom_acc (List.mem_cons_of_mem _ h)
    · exact cloFrom_acc h
theorem cloFrom_has {cells:List (Str × Addr)}:∀ {names:List (Str × NameKind)} {acc:List (Str × Addr)} {n:Str},(n,.free) ∈ names -> (n,(cells.lookup n).getD 0) ∈ cloFrom cells names acc
  | (m,k) :: r,acc,n,h=>by
    unfold cloFrom
    rcases List.mem_cons.mp h with e | h
    · cases e
      exact cloFrom_acc List.mem_cons_self
    · split
      · exact cloFrom_has h
      · exact cloFrom_has h
theorem cells_mem:∀ {names:List (Str × NameKind)} {h:Heap} {acc:List (Str × Addr)} {x:Str} {c:Addr},(x,c) ∈ cellsFrom h.objs.size names acc →
    (x,c) ∈ acc \/ ((x,.cell) ∈ names /\ h.objs.size <= c /\ CellAt (pushCells h names) c none)
  | [],_,_,_,_,h=>.inl h
  | (n,k) :: r,h,acc,x,c,hm=>by
    unfold cellsFrom at hm
    unfold pushCells
    split at hm
    · rename_i hk
      rw [if_pos hk]
      have hk:k = .cell:=by simpa using hk
      rw [<- Heap.size_push h { cls:=.type "cell",data:=.cell none }] at hm
      rcases cells_mem hm with hm | ⟨h1,h2,h3⟩
      · rcases List.mem_cons.mp hm with e | hm
        · cases e
          exact .inr ⟨hk ▸ List.mem_cons_self,Nat.le_refl _,_,pushCells_keeps r _ _ _ (Heap.get?_push_size _ rfl),rfl⟩
        · exact .inl hm
      · rw [Heap.size_push] at h2
        exact .inr ⟨List.mem_cons_of_mem _ h1,Nat.le_of_succ_le h2,h3⟩
    · rename_i hk
      rw [if_neg hk]
      rcases cells_mem hm with hm | ⟨h1,h2,h3⟩
      · exact .inl hm
      · exact .inr ⟨List.mem_cons_of_mem _ h1,h2,h3⟩
theorem cells_acc:∀ {names:List (Str × NameKind)} {n:Nat} {acc:List (Str × Addr)} {p:Str × Addr},p ∈ acc -> p ∈ cellsFrom n names acc
  | [],_,_,_,h=>h
  | (m,k) :: r,n,acc,p,h=>by
    unfold cellsFrom
    split
    · exact cells_acc (List.mem_cons_of_mem _ h)
    · exact cells_acc h
theorem cells_has:∀ {names:List (Str × NameKind)} {n:Nat} {acc:List (Str × Addr)} {x:Str},(x,.cell) ∈ names -> ∃ c,(x,c) ∈ cellsFrom n names acc
  | (m,k) :: r,n,acc,x,h=>by
    unfold cellsFrom
    rcases List.mem_cons.mp h with e | h
    · cases e
      exact ⟨n,cells_acc List.mem_cons_self⟩
    · split
      · exact cells_has h
      · exact cells_has h
theorem cells_inj:∀ {names:List (Str × NameKind)} {h:Heap} {acc:List (Str × Addr)} {x y:Str} {c:Addr},(∀ p ∈ acc,p.2 < h.objs.size) -> (∀ x y c,(x,c) ∈ acc -> (y,c) ∈ acc -> x = y) →
    (x,c) ∈ cellsFrom h.objs.size names acc -> (y,c) ∈ cellsFrom h.objs.size names acc -> x = y
  | [],_,_,_,_,_,_,hi,h1,h2=>hi _ _ _ h1 h2
  | (n,k) :: r,h,acc,x,y,c,hl,hi,h1,h2=>by
    unfold cellsFrom at h1 h2
    split at h1
    · rename_i hk
      rw [if_pos hk] at h2
      rw [<- Heap.size_push h { cls:=.type "cell",data:=.cell none }] at h1 h2
      refine cells_inj (h:=h.push _) (fun p hp=>?_) (fun x y c a b=>?_) h1 h2
      · rw [Heap.size_push]
        rcases List.mem_cons.mp hp with rfl | hp
        · exact Nat.lt_succ_self _
        · exact Nat.lt_succ_of_lt (hl p hp)
      · rcases List.mem_cons.mp a with e | a <;> rcases List.mem_cons.mp b with e' | b
        · cases e; cases e'; rfl
        · cases e; exact absurd (hl _ b) (Nat.lt_irrefl _)
        · cases e'; exact absurd (hl _ a) (Nat.lt_irrefl _)
        · exact hi _ _ _ a b
    · rename_i hk
      rw [if_neg hk] at h2
      exact cells_inj hl hi h1 h2
theorem newEnv_comp {M:Model} {A:Around} {E:Value -> Shared -> Prop} {s:Shared} {scope:Scope} {globals:Addr} {closure:List (Str × Addr)} {qual:Str} {func:Option Addr} {code:Value} {around:Env} {builtins:Addr} {Q:Env -> Shared -> Prop}
    (h:Q (newEnv scope s.heap.objs.size globals (cellsFrom (s.heap.objs.size + 1) scope.names closure) qual func code (some around) builtins)
      { s with heap:=pushCells (s.heap.push { cls:=.type "dict",data:=.dict #[] }) scope.names }) :
    wpAny M A (newFunctionEnv scope globals closure [] qual func code (some around) builtins) Q E s:=by
  simp only [newFunctionEnv,Option.isSome_some,if_true]
  refine wpAny_bind (wpAny_alloc ?_)
  refine wpAny_bind (wpAny_layCells _ (fun n k c=>rfl) scope.names closure _ _ ?_)
  rw [show ({ s with heap:=s.heap.push { cls:=.type "dict",data:=.dict #[] } }:Shared).heap.objs.size = s.heap.objs.size + 1 from Heap.size_push ..]
  rw [List.forIn_nil]
  exact wpAny_bind (wpAny_pure (wpAny_pure h))
theorem lookup_relS {sc:Scope}:∀ {names:List (Str × NameKind)} {x:Str} {k:NameKind},
    (names.map fun (n,k)=>if (k == NameKind.free && sc.kind == .function && sc.names.lookup n == some .cell) then (n,NameKind.cell) else (n,k)).lookup x = some k →
    ∃ k',names.lookup x = some k' /\ (k = k' \/ (k' = .free /\ k = .cell))
  | [],_,_,h=>by simp at h
  | (n,k₀) :: r,x,k,h=>by
    have ih:=@lookup_relS sc r x k
    have h':List.lookup x ((if (k₀ == NameKind.free && sc.kind == .function && sc.names.lookup n == some .cell) = true then (n,NameKind.cell) else (n,k₀)) :: (r.map _)) = some k:=h
    cases hx:x == n with
    | true =>
      simp only [List.lookup_cons,hx]
      by_cases hc:(k₀ == NameKind.free && sc.kind == .function && sc.names.lookup n == some .cell) = true
      · rw [if_pos hc] at h'
        simp only [List.lookup_cons,hx] at h'
        cases h'
        simp only [Bool.and_eq_true,beq_iff_eq] at hc
        exact ⟨k₀,rfl,.inr ⟨hc.1.1,rfl⟩⟩
      · rw [if_neg hc] at h'
        simp only [List.lookup_cons,hx] at h'
        cases h'
        exact ⟨_,rfl,.inl rfl⟩
    | false =>
      simp only [List.lookup_cons,hx]
      by_cases hc:(k₀ == NameKind.free && sc.kind == .function && sc.names.lookup n == some .cell) = true
      · rw [if_pos hc] at h'
        simp only [List.lookup_cons,hx] at h'
        exact ih h'
      · rw [if_neg hc] at h'
        simp only [List.lookup_cons,hx] at h'
        exact ih h'
structure BlkOk (N:List Str) (sc scope:Scope) (own:List (Str × Nat)):Prop where
  kind:scope.kind = .function
  uniq:∀ y ∈ scope.names,scope.names.lookup y.1 = some y.2
  ix:∀ p ∈ own,N[p.2]? = some p.1
  free:∀ y ∈ scope.names,y.2 = .free -> sc.names.lookup y.1 = some .cell \/ sc.names.lookup y.1 = some .free
  own:∀ y ∈ scope.names,y.2 = .local \/ y.2 = .cell -> y.1 ∈ own.map (·.1) \/ y.1 ∉ N
def wipe (σ:St):List Nat -> St
  | []=>σ
  | v :: vs=>(wipe σ vs).set v none
theorem wipe_length (σ:St):∀ vs:List Nat,(wipe σ vs).length = σ.length
  | []=>rfl
  | v :: vs=>by unfold wipe; rw [List.length_set,wipe_length σ vs]
theorem wipe_some {σ:St} {i:Nat} {x:V}:∀ {vs:List Nat},(wipe σ vs)[i]? = some (some x) -> σ[i]? = some (some x) /\ i ∉ vs
  | [],h=>⟨h,by simp⟩
  | v :: vs,h=>by
    unfold wipe at h
    by_cases hi:v = i
    · subst hi
      by_cases hv:v < (wipe σ vs).length
      · rw [List.getElem?_set_self hv] at h; cases h
      · rw [List.getElem?_eq_none (by simpa using hv)] at h; cases h
    · rw [List.getElem?_set_ne hi] at h
      obtain ⟨h1,h2⟩:=wipe_some h
      exact ⟨h1,by simp only [List.mem_cons,not_or]; exact ⟨fun e=>hi e.symm,h2⟩⟩
abbrev Cx.blk (X:Cx) (s:Shared) (H:Hp) (scope:Scope) (cenv:Env) (fp:List Addr):Cx:={ X with s_0:=s,H_0:=H,env:=cenv,outer:=X.stack,ex:=fp,fn:=fun x=>scope.names.lookup x == some .cell,pn:=[],xe:=fun _ _=>False }
section
variable {X:Cx} {pins:List (Addr × Obj)} {σ:St} {H:Hp} {s:Shared}
theorem block_start {scope:Scope} {own:List (Str × Nat)} {fp:List Addr} (I:Inv X pins σ H s) (ok:BlkOk X.N X.env.scope scope own) (hN:X.N.Nodup) (hfp:∀ b ∈ fp,FpOk X pins H b /\ b < s.heap.objs.size) :
    Inv (X.blk s H scope (compEnvC scope (cellsFrom (s.heap.objs.size + 1) scope.names (cloFrom X.env.cells scope.names [])) s.heap.objs.size X.env) fp) [] (wipe σ (own.map (·.2))) H { s with heap:=pushCells (s.heap.push { cls:=.type "dict",data:=.dict #[] }) scope.names }:=by
  have hfree:∀ y ∈ scope.names,y.2 = .free -> ∃ c,X.env.cells.lookup y.1 = some c:=fun y hy e=>by
    rcases ok.free y hy e with k | k
    · exact I.ok.has _ (.inl k)
    · exact I.ok.has _ (.inr k)
  generalize hcenv:compEnvC scope (cellsFrom (s.heap.objs.size + 1) scope.names (cloFrom X.env.cells scope.names [])) s.heap.objs.size X.env = cenv
  have kp:∀ b o,s.heap.get? b = some o -> (pushCells (s.heap.push { cls:=.type "dict",data:=.dict #[] }) scope.names).get? b = some o:=fun b o e=>pushCells_keeps _ _ _ _ (Heap.get?_push_of_some _ e)
  have hL:cenv.locals = s.heap.objs.size:=by rw [<- hcenv]; rfl
  have hcl:cenv.cells = cellsFrom (s.heap.objs.size + 1) scope.names (cloFrom X.env.cells scope.names []):=by rw [<- hcenv]; rfl
  have hsc:cenv.scope = relS scope X.env.scope:=by rw [<- hcenv]; rfl
  rw [<- Heap.size_push s.heap { cls:=.type "dict",data:=.dict #[] }] at hcl
  have cm:∀ {y c},(y,c) ∈ cloFrom X.env.cells scope.names [] -> X.env.cells.lookup y = some c /\ c < s.heap.objs.size:=fun {y c} hm=>by
    rcases cloFrom_mem hm with hm | ⟨h1,rfl⟩
    · cases hm
    · obtain ⟨c,hc⟩:=hfree _ h1 rfl
      rw [hc]
      obtain ⟨w,z⟩:=I.cell _ _ hc
      exact ⟨rfl,z.lt⟩
  have mem:∀ {y c},cenv.cells.lookup y = some c -> (X.env.cells.lookup y = some c /\ c < s.heap.objs.size) \/ (s.heap.objs.size + 1 <= c /\ CellAt (pushCells (s.heap.push { cls:=.type "dict",data:=.dict #[] }) scope.names) c none):=fun {y c} e=>by
    rw [hcl] at e
    rcases cells_mem (PySem.mem_of_lookup e) with hm | ⟨_,h2,h3⟩
    · exact .inl (cm hm)
    · rw [Heap.size_push] at h2; exact .inr ⟨h2,h3⟩
  have look:∀ {y},scope.names.lookup y = some .free -> ∃ c,cenv.cells.lookup y = some c /\ X.env.cells.lookup y = some c:=fun {y} hl=>by
    have hy:(y,NameKind.free) ∈ scope.names:=PySem.mem_of_lookup hl
    obtain ⟨c',e'⟩:=mem_lookup (cells_acc (names:=scope.names) (n:=(s.heap.push { cls:=.type "dict",data:=.dict #[] }).objs.size) (cloFrom_has (cells:=X.env.cells) (acc:=[]) hy))
    rw [<- hcl] at e'
    refine ⟨c',e',?_⟩
    rw [hcl] at e'
    rcases cells_mem (PySem.mem_of_lookup e') with hm | ⟨h1,_,_⟩
    · exact (cm hm).1
    · have:=ok.uniq _ h1
      rw [hl] at this; cases this
  have okB:(X.blk s H scope cenv fp).Ok:=by
    refine ⟨I.ok.mod,by show cenv.scope.kind = _; rw [hsc]; exact ok.kind,by show cenv.globals = _; rw [<- hcenv]; exact I.ok.glob,by show cenv.builtins = _; rw [<- hcenv]; exact I.ok.blt,by show s.heap.objs.size <= cenv.locals; rw [hL]; exact Nat.le_refl _,
      fun y z c e1 e2=>?_,fun y hy=>?_,fun y c z e=>?_,I.ok.hd,I.ok.frames,.inl rfl,fun b hb=>⟨?_,fun y c e z=>?_⟩,I.bs,Nat.le_trans I.ok.bsz I.sz,fun b o e hb=>?_,fun b hb z=>?_,I.stack,I.stkFree⟩
    · have e1:cenv.cells.lookup y = some c:=e1
      have e2:cenv.cells.lookup z = some c:=e2
      rw [hcl] at e1 e2
      refine cells_inj (fun p hp=>?_) (fun y z c a b=>I.ok.inj y z c (cm a).1 (cm b).1) (PySem.mem_of_lookup e1) (PySem.mem_of_lookup e2)
      rw [Heap.size_push]
      exact Nat.lt_succ_of_lt (cm (y:=p.1) (c:=p.2) hp).2
    · show ∃ c,cenv.cells.lookup y = some c
      have key:∀ k,cenv.kindOf y = some k -> (k = .cell \/ k = .free) -> ∃ c,cenv.cells.lookup y = some c:=fun k hk hk'=>by
        unfold Env.kindOf at hk
        rw [hsc] at hk
        obtain ⟨k',e,r⟩:=lookup_relS hk
        have:k' = .cell \/ k' = .free:=by
          rcases r with rfl | ⟨rfl,_⟩
          · exact hk'
          · exact .inr rfl
        rcases this with rfl | rfl
        · obtain ⟨c,hm⟩:=cells_has (n:=(s.heap.push { cls:=.type "dict",data:=.dict #[] }).objs.size) (acc:=cloFrom X.env.cells scope.names []) (PySem.mem_of_lookup e)
          obtain ⟨c',e'⟩:=mem_lookup hm
          exact ⟨c',by rw [hcl]; exact e'⟩
        · obtain ⟨c,h1,_⟩:=look e
          exact ⟨c,h1⟩
      rcases hy with hy | hy
      · exact key _ hy (.inl rfl)
      · exact key _ hy (.inr rfl)
    · have z:(scope.names.lookup y == some NameKind.cell) = true:=z
      have z:scope.names.lookup y = some .cell:=by simpa using z
      have e:cenv.cells.lookup y = some c:=e
      rw [hcl] at e
      rcases cells_mem (PySem.mem_of_lookup e) with hm | ⟨_,h2,_⟩
      · rcases cloFrom_mem hm with hm | ⟨h1,_⟩
        · cases hm
        · have q:=ok.uniq _ h1
          rw [z] at q; cases q
      · rw [Heap.size_push] at h2
        exact Nat.le_of_succ_le h2
    · show b ≠ cenv.locals
      rw [hL]; exact Nat.ne_of_lt (hfp b hb).2
    · have e:cenv.cells.lookup y = some c:=e
      rcases mem e with ⟨h1,_⟩ | ⟨h1,_⟩
      · exact (hfp b hb).1.2.2.2.2.1 y c h1 z
      · have h2:s.heap.objs.size + 1 <= b:=by rw [<- z]; exact h1
        exact absurd (Nat.lt_of_lt_of_le (hfp b hb).2 (Nat.le_of_succ_le h2)) (Nat.lt_irrefl _)
    · rcases (hfp b hb).1.2.2.2.1 with z | z
      · exact I.ok.noex b o e z
      · exact absurd (Nat.lt_of_lt_of_le (Heap.lt_size e) (Nat.le_trans I.ok.bsz z)) (Nat.lt_irrefl _)
    · rcases List.mem_cons.mp (I.stkSub b z) with z | z
      · exact (hfp b hb).1.2.1 z
      · exact (hfp b hb).1.2.2.1 z
  refine ⟨okB,rfl,I.bare,Un.kept kp,⟨fun _=>none,?_,fun i y av e1 e2 e3=>?_⟩,fun y c e=>?_,?_,fun y c e=>?_,fun p hp=>?_,I.hok.kept kp,by rw [wipe_length]; exact I.len⟩
  · show Heap.Ns _ cenv.locals _
    rw [hL]
    exact Heap.Ns.keeps (Heap.Ns.new ..) fun b o e=>pushCells_keeps _ _ _ _ e
  · obtain ⟨e2,hne⟩:=wipe_some e2
    have hfr:scope.names.lookup y = some .free /\ (cenv.kindOf y = some .cell \/ cenv.kindOf y = some .free):=by
      have key:∀ k,cenv.scope.names.lookup y = some k -> k = .local \/ k = .cell \/ k = .free -> scope.names.lookup y = some .free /\ (cenv.kindOf y = some .cell \/ cenv.kindOf y = some .free):=fun k hk hk'=>by
        have hk0:=hk
        rw [hsc] at hk
        obtain ⟨k',e,r⟩:=lookup_relS hk
        have no:¬ (k' = .local \/ k' = .cell):=fun hh=>by
          rcases ok.own _ (PySem.mem_of_lookup e) hh with e' | e'
          · obtain ⟨p,hp,hpy⟩:=List.mem_map.mp e'
            have e3:=ok.ix p hp
            have:p.1 = y:=hpy
            rw [this] at e3
            exact hne (List.mem_map.mpr ⟨p,hp,nodup_ix hN e3 e1⟩)
          · exact e' (List.mem_of_getElem? e1)
        rcases r with rfl | ⟨rfl,rfl⟩
        · rcases hk' with rfl | rfl | rfl
          · exact absurd (.inl rfl) no
          · exact absurd (.inr rfl) no
          · exact ⟨e,.inr hk0⟩
        · exact ⟨e,.inl hk0⟩
      have e3:Vis cenv.scope y:=e3
      rcases e3 with e3 | e3 | e3
      · exact key _ e3 (.inl rfl)
      · exact key _ e3 (.inr (.inl rfl))
      · exact key _ e3 (.inr (.inr rfl))
    obtain ⟨m,hn,hl⟩:=I.loc
    have hvis:Vis X.env.scope y:=(ok.free _ (PySem.mem_of_lookup hfr.1) rfl).elim (fun k=>.inr (.inl k)) (fun k=>.inr (.inr k))
    obtain ⟨w,r,q⟩:=hl i y av e1 e2 hvis
    refine ⟨w,r,.inr ⟨hfr.2,?_⟩⟩
    obtain ⟨c,h1,h2⟩:=look hfr.1
    rcases q with ⟨k,_⟩ | ⟨_,c',e',z⟩
    · have k:X.env.scope.names.lookup y = some .local:=k
      rcases ok.free _ (PySem.mem_of_lookup hfr.1) rfl with k' | k' <;> rw [show X.env.scope.names.lookup y = _ from k'] at k <;> cases k
    · rw [h2] at e'; cases e'
      exact ⟨c,h1,z.keeps kp⟩
  · have e:cenv.cells.lookup y = some c:=e
    rcases mem e with ⟨h1,_⟩ | ⟨_,z⟩
    · obtain ⟨w,z⟩:=I.cell y c h1
      exact ⟨w,z.keeps kp⟩
    · exact ⟨_,z⟩
  · show H cenv.locals = none
    rw [hL]; exact I.hok.fresh (Nat.le_refl _)
  · have e:cenv.cells.lookup y = some c:=e
    rcases mem e with ⟨h1,_⟩ | ⟨h1,_⟩
    · exact I.freeC y c h1
    · exact I.hok.fresh (Nat.le_of_succ_le h1)
  · exact absurd (show p ∈ ([]:List (Addr × Obj)) ++ [] from hp) (by simp)
theorem app_ok {E:Value -> Shared -> Prop} {D:Addr} {xs:List V} {y:V} {v:Value} {Q:Value -> Shared -> Prop} (I:Inv X pins σ H s) (hD:H D = some (.lst xs)) (hz:xs.length < sizeLine) (r:RelV y v)
    (h:∀ s',Inv X pins σ (upd H D (.lst (xs ++ [y]))) s' -> Q .none s'):wpAny (model X.prog X.w) X.A (call (.builtin "list.append") [.ref D,v]) Q E s:=by
  obtain ⟨hz',its,n,ri,e⟩:=I.hok D _ hD
  have hl:=ri.length
  refine append_at (hsz:=by rw [List.size_toArray]; omega) e fun h' sb ho'=>?_
  refine h { s with heap:=h' } (I.write (t':=s.toks) (by rw [hD]; trivial) (.inl rfl) (fun b u hb q=>(sb.2 b hb).trans q) ⟨_,ho'⟩ ⟨by rw [List.length_append]; exact hz,its ++ [v],n + 1,ri.append (.cons r .nil),?_⟩)
  rw [ho']
  simp
def PTs (X:Cx) (ifs:List Expr) (t:TT):Prop :=
  ∀ (pins:List (Addr × Obj)) (s:Shared) (σ:St) (H:Hp) (Q:Bool -> Hp -> Prop),Inv X pins σ H s -> t σ H Q →
    wpAny (model X.prog X.w) X.A (forIn ifs true fun c r=>if r = true then do let ok <- isTrue c X.env (eval c X.env); pure (ForInStep.yield ok) else pure (ForInStep.yield r)) (TP X pins σ Q) X.xe s
def tYes:TT:=fun _ H Q=>Q true H
theorem pts_nil:PTs X [] tYes:=fun _ _ _ H _ I h=>wpAny_tests_nil ⟨H,I,h⟩
theorem pts_one {c:Expr} {t:TT} (h:PT X c t):PTs X [c] t:=fun pins s σ H Q I hw=>wpAny_tests_one (h pins s σ H Q I hw)
end
theorem thnF {α:Type} {t:Sem α} {Q Q':α -> Shared -> Prop} {M:Model} {A:Around} {E:Value -> Shared -> Prop} {s:Shared} (h:wpAny M A t Q (fun _ _=>False) s) (hQ:∀ a s,Q a s -> Q' a s):wpAny M A t Q' E s:=wpAny_mono h hQ fun _ _ z=>False.elim z
theorem compLoop_any {prog:Program} {w:World} {A:Around} {R:Result -> Shared -> Prop} {s:Shared} {elt target iter:Expr} {ifs:List Expr} {scope:Scope} {pos:Pos} {it acc:Value} {env:Env} (I:Nat -> Shared -> Prop)
    (turn:∀ n s,I n s -> wpAny (model prog w) A (pyNext it) (fun r s₁=>match r with
      | none=>R (.ok .next) s₁
      | some v=>wpAny (model prog w) A (letOwnedTupleGo target it v) (fun _ s₁'=>wpAny (model prog w) A (assign target env v) (fun _ s₂ =>
          wpAny (model prog w) A (forIn ifs true fun c r=>if r = true then do let ok <- isTrue c env (eval c env); pure (ForInStep.yield ok) else pure (ForInStep.yield r)) (fun ok s₃ =>
            if ok = true then wpAny (model prog w) A (eval elt env) (fun x s₄ =>
              wpAny (model prog w) A (call (.builtin "list.append") [acc,x]) (fun _ s₅=>∃ m,m < n /\ I m s₅) (notedBy (model prog w) A env fun e s'=>R (.error e) s') s₄) (notedBy (model prog w) A env fun e s'=>R (.error e) s') s₃
            else ∃ m,m < n /\ I m s₃) (notedBy (model prog w) A env fun e s'=>R (.error e) s') s₂) (notedBy (model prog w) A env fun e s'=>R (.error e) s') s₁') (notedBy (model prog w) A env fun e s'=>R (.error e) s') s₁) (notedBy (model prog w) A env fun e s'=>R (.error e) s') s)
    (n:Nat) (h:I n s) :
    codeAny (model prog w) A (.compLoop (.ListComp elt [⟨target,iter,ifs,0⟩] scope pos) 0 it acc env) R s:=by
  refine codeAny_loop rfl I (fun n s hI=>?_) n h
  show wpAny _ A ((compTurn (.ListComp elt [⟨target,iter,ifs,0⟩] scope pos) 0 it acc env).onRaise (fun x=>do noteFrame x env; theTreesLotGoes x)) _ _ s
  refine wpAny_noted ?_
  rw [compTurn_list]
  refine wpAny_bind (wpAny_standAt (wpAny_bind (wpAny_mono (turn n s hI) (fun r s₁ h₁=>?_) fun _ _ h'=>h')))
  cases r with
  | none=>exact wpAny_pure h₁
  | some v =>
    refine wpAny_bind (wpAny_mono h₁ (fun _ s₁' h₁'=>?_) fun _ _ h'=>h')
    refine wpAny_bind (wpAny_mono h₁' (fun _ s₂ h₂=>wpAny_bind (wpAny_mono h₂ (fun ok s₃ h₃=>?_) fun _ _ h'=>h')) fun _ _ h'=>h')
    cases ok with
    | false=>exact wpAny_pure ⟨rfl,h₃⟩
    | true =>
      exact wpAny_bind (wpAny_bind (wpAny_mono h₃ (fun x s₄ h₄=>wpAny_bind (wpAny_mono h₄ (fun _ s₅ h₅=>wpAny_pure (wpAny_pure ⟨rfl,h₅⟩)) fun _ _ h'=>h')) fun _ _ h'=>h'))
section
variable {X:Cx}
def tLc (wi:TI) (g:TG) (tt:TT) (te:TE) (vs:List Nat):TE:=fun σ H Q=>wi σ H fun J H1=>∀ D,H1 D = none -> ∃ W:Nat -> Nat -> Hp -> Prop,(∃ m,W 0 m (upd H1 D (.lst []))) /\ ∀ i m H,W i m H →
  (J.stop i H /\ Q (.ref D) H) \/ (J.go i H /\ ∃ Nx:Hp -> Prop,(∀ H',Nx H' -> ∃ m',m' < m /\ W (i + 1) m' H') /\ ∀ x H',J.yld i H x H' -> g x (wipe σ vs) H' fun σ2 H2=>wipe σ2 vs = wipe σ vs /\ tt σ2 H2 fun b H3 =>
    if b = true then te σ2 H3 fun y H4=>∃ acc,H4 D = some (.lst acc) /\ acc.length < sizeLine /\ Nx (upd H4 D (.lst (acc ++ [y]))) else Nx H3)
theorem lc_core {pins:List (Addr × Obj)} {s:Shared} {σ:St} {H:Hp} {Q:VK} {elt tg iter:Expr} {ifs:List Expr} {scope:Scope} {own:List (Str × Nat)} {pos pos':Pos} {wi:TI} {g:TG} {tt:TT} {te:TE} {use:Option (Value -> Sem Unit)} {Qf:Value -> Shared -> Prop}
    (hc:X.calm = true) (hN:X.N.Nodup) (I:Inv X pins σ H s) (hi:PI X tg iter wi) (ok:BlkOk X.N X.env.scope scope own)
    (hg:∀ (s:Shared) (H:Hp) (C:Addr) (cl:List (Str × Addr)) (fp:List Addr),PG (X.blk s H scope (compEnvC scope cl C X.env) fp) tg g) (ht:∀ (s:Shared) (H:Hp) (C:Addr) (cl:List (Str × Addr)) (fp:List Addr),PTs (X.blk s H scope (compEnvC scope cl C X.env) fp) ifs tt)
    (he:∀ (s:Shared) (H:Hp) (C:Addr) (cl:List (Str × Addr)) (fp:List Addr),PE (X.blk s H scope (compEnvC scope cl C X.env) fp) elt te) (hs:∀ x,foldedSetIterable iter X.env x = pure x)
    (h:tLc wi g tt te (own.map (·.2)) σ H Q)
    (hRR:∀ D C s' m H',Inv X pins σ H' s' -> Q (.ref D) H' -> s'.heap.Ns C m -> FpOk X pins H' C -> compPost (model X.prog X.w) X.A X.xe use Qf (.ref D) C (.ok .next) s') :
    wpAny (model X.prog X.w) X.A (comprehension (.ListComp elt [⟨tg,iter,ifs,0⟩] scope pos) scope X.env pos' (newList []) false (eval iter X.env) use) Qf X.xe s:=by
  have hfree:∀ y ∈ scope.names,y.2 = .free -> ∃ c,X.env.cells.lookup y.1 = some c:=fun y hy e=>by
    rcases ok.free y hy e with k | k
    · exact I.ok.has _ (.inl k)
    · exact I.ok.has _ (.inr k)
  refine wpAny_comprehension_free (use:=use) rfl hs (closure_ok hfree) ok.kind (fun y hy e=>by rw [ok.uniq y hy,e])
    (thn (hi pins s σ H _ I h) fun xv s1 hx=>thn hx fun itv s2 h2=>?_)
  obtain ⟨it,fp,tn,J,H2,e,I2,T,st2,f2,q⟩:=h2
  subst e
  refine wpAny_newObj_type (newEnv_comp ?_) (by show 0 <= sizeLine; decide)
  generalize hD:s2.heap.objs.size = D
  have hDn:H2 D = none:=I2.hok.fresh (Nat.le_of_eq hD)
  obtain ⟨W,⟨m0,w0⟩,turn⟩:=q D hDn
  generalize hs3:({ s2 with heap:=s2.heap.push { cls:=.type "list",data:=.seq ([]:List Value).toArray } }:Shared) = s3
  have I3:Inv X pins σ (upd H2 D (.lst [])) s3:=by
    rw [<- hs3]
    refine I2.laid (t':=s2.toks) (fun b o e=>Heap.get?_push_of_some _ e) (Nat.le_of_eq hD) ⟨Nat.zero_le _,[],0,.nil,?_⟩
    rw [<- hD]
    exact Heap.get?_push_size _ rfl
  have h3:s3.heap = s2.heap.push { cls:=.type "list",data:=.seq ([]:List Value).toArray }:=by rw [<- hs3]
  have sz:∀ b ∈ fp,b < s2.heap.objs.size:=fun b hb=>by
    obtain ⟨o,e,_⟩:=T.obj _ _ st2 b hb
    exact Heap.lt_size e
  have f3:∀ b ∈ fp,FpOk X pins (upd H2 D (.lst [])) b /\ b < s3.heap.objs.size:=fun b hb=>by
    have hlt:=sz b hb
    refine ⟨⟨?_,(f2 b hb).2⟩,by rw [h3,Heap.size_push]; exact Nat.lt_succ_of_lt hlt⟩
    rw [upd_ne (by rw [<- hD]; exact Nat.ne_of_lt hlt)]
    exact (f2 b hb).1
  have st3:tn 0 s3.heap:=T.keep _ _ _ st2 fun b _ o e=>by rw [h3]; exact Heap.get?_push_of_some _ e
  have I4:=block_start I3 ok hN f3
  have pg:=hg s3 (upd H2 D (.lst [])) s3.heap.objs.size (cellsFrom (s3.heap.objs.size + 1) scope.names (cloFrom X.env.cells scope.names [])) fp
  have pt:=ht s3 (upd H2 D (.lst [])) s3.heap.objs.size (cellsFrom (s3.heap.objs.size + 1) scope.names (cloFrom X.env.cells scope.names [])) fp
  have pe:=he s3 (upd H2 D (.lst [])) s3.heap.objs.size (cellsFrom (s3.heap.objs.size + 1) scope.names (cloFrom X.env.cells scope.names [])) fp
  show codeAny _ _ (.compStart (.ListComp elt [⟨tg,iter,ifs,0⟩] scope pos) 0 (.ref it) (.ref D) (compEnvC scope (cellsFrom (s3.heap.objs.size + 1) scope.names (cloFrom X.env.cells scope.names [])) s3.heap.objs.size X.env)) (compPost (model X.prog X.w) X.A X.xe use Qf (.ref D) s3.heap.objs.size) { s3 with heap:=pushCells (s3.heap.push { cls:=.type "dict",data:=.dict #[] }) scope.names }
  have nfp:∀ b ∈ fp,(upd H2 D (.lst [])) b = none:=fun b hb=>(f3 b hb).1.1
  generalize hce:compEnvC scope (cellsFrom (s3.heap.objs.size + 1) scope.names (cloFrom X.env.cells scope.names [])) s3.heap.objs.size X.env = ce at I4 pg pt pe ⊢
  have cL:ce.locals = s3.heap.objs.size:=by subst hce; rfl
  generalize hH3:upd H2 D (.lst []) = H3 at I3 I4 pg pt pe w0 nfp f3
  generalize hs4:({ s3 with heap:=pushCells (s3.heap.push { cls:=.type "dict",data:=.dict #[] }) scope.names }:Shared) = s4 at I4 ⊢
  have st4:tn 0 s4.heap:=T.keep _ _ _ st3 fun b _ o e=>by rw [<- hs4]; exact pushCells_keeps _ _ _ _ (Heap.get?_push_of_some _ e)
  have stat:∀ {σ':St} {H':Hp} {s':Shared},Inv (X.blk s3 H3 scope ce fp) [] σ' H' s' -> (∀ b ∈ fp,H' b = none) -> ∀ b ∈ fp,FpOk (X.blk s3 H3 scope ce fp) [] H' b:=fun {σ' H' s'} I' hn b hb =>
    ⟨hn b hb,(I'.ok.exf b hb).1,I'.ok.exfs b hb,.inl hb,fun x c e=>(I'.ok.exf b hb).2 x c e,fun p hp=>absurd (show p ∈ ([]:List (Addr × Obj)) ++ [] from hp) (by simp)⟩
  have loop:codeAny (model X.prog X.w) X.A (.compLoop (.ListComp elt [⟨tg,iter,ifs,0⟩] scope pos) 0 (.ref it) (.ref D) ce) (compPost (model X.prog X.w) X.A X.xe use Qf (.ref D) s3.heap.objs.size) s4:=by
    refine compLoop_any (fun n s'=>∃ i H',Inv (X.blk s3 H3 scope ce fp) [] (wipe σ (own.map (·.2))) H' s' /\ tn i s'.heap /\ (∀ b ∈ fp,H' b = none) /\ W i n H') ?_ m0 ⟨0,H3,I4,st4,nfp,w0⟩
    rintro n s5 ⟨i,H5,I5,st5,n5,w5⟩
    rcases turn i n H5 w5 with ⟨stop,qq⟩ | ⟨go,Nx,hNx,step⟩
    · have td:=T.done (X.blk s3 H3 scope ce fp) rfl rfl rfl hc i [] s5 _ H5 (fun _ _=>False) I5 (stat I5 n5) st5 stop
      refine thnF td fun r s6 ⟨hr,I6⟩=>?_
      subst hr
      have I7:Inv X pins σ H5 s6:=I3.call' (ch:=fp) I6.os I6.base I6.hok I6.bare fun b hb=>⟨(f3 b hb).1.2.2.2.1,(f3 b hb).1.2.1,(f3 b hb).1.2.2.2.2.1,(f3 b hb).1.2.2.2.2.2⟩
      have nC:H5 s3.heap.objs.size = none:=by
        have z:H5 ce.locals = none:=I6.free
        rw [cL] at z
        exact z
      obtain ⟨m,hn,_⟩:=I6.loc
      have hn:s6.heap.Ns ce.locals m:=hn
      rw [cL] at hn
      exact hRR D s3.heap.objs.size s6 m H5 I7 qq hn (I3.fpOk (Nat.le_refl _) nC)
    · have ti:=T.item (X.blk s3 H3 scope ce fp) rfl rfl rfl hc i [] s5 _ H5 (fun _ _=>False) I5 (stat I5 n5) st5 go
      refine thnF ti fun r s6 ⟨u,hr,h6⟩=>?_
      subst hr
      refine thnF h6 fun _ s7 ⟨x,H7,I7,r7,y7,st7,n7⟩=>?_
      have I7':=I7.pinned (stat I7 n7) (T.obj _ _ st7)
      refine thnF (pg _ s7 _ H7 x u _ I7' r7 (step x H7 y7)) fun _ s8 ⟨σ8,H8,I8,hw8,q8⟩=>?_
      refine thnF (pt _ s8 σ8 H8 _ I8 q8) fun b s9 ⟨H9,I9,q9⟩=>?_
      have fin:∀ {s':Shared} {H':Hp},Inv (X.blk s3 H3 scope ce fp) ([] ++ pinsAt fp s7.heap) σ8 H' s' -> Nx H' -> ∃ m,m < n /\ ∃ i H',Inv (X.blk s3 H3 scope ce fp) [] (wipe σ (own.map (·.2))) H' s' /\ tn i s'.heap /\ (∀ b ∈ fp,H' b = none) /\ W i m H':=fun {s' H'} I' nx=>by
        obtain ⟨m',hm,w'⟩:=hNx H' nx
        have pin':∀ b ∈ fp,∀ o,s7.heap.get? b = some o -> s'.heap.get? b = some o /\ H' b = none:=fun b hb o e =>
          let z:=I'.pin (b,o) (List.mem_append_right _ (List.mem_append_right _ (mem_pinsAt hb e)))
          ⟨z.1,z.2.1⟩
        have hl:(wipe σ (own.map (·.2))).length = σ8.length:=by rw [<- hw8,wipe_length]
        refine ⟨m',hm,i + 1,H',(I'.unpinned (pins:=[])).weak hl (fun j v e=>?_),T.keep _ _ _ st7 fun b hb o e=>(pin' b hb o e).1,fun b hb=>?_,w'⟩
        · rw [<- hw8] at e
          exact (wipe_some e).1
        · obtain ⟨o,e,_⟩:=T.obj _ _ st7 b hb
          exact (pin' b hb o e).2
      cases b with
      | false =>
        simp only [Bool.false_eq_true,if_false] at q9 ⊢
        exact fin I9 q9
      | true =>
        simp only [if_true] at q9 ⊢
        refine thnF (pe _ s9 σ8 H9 _ I9 q9) fun z s10 ⟨yv,H10,I10,r10,acc,hD10,hz10,nx⟩=>?_
        exact app_ok (X:=X.blk s3 H3 scope ce fp) I10 hD10 hz10 r10 fun s11 I11=>fin I11 nx
  exact codeAny_compStart_list loop (T.self X.A 0 _ _ _ st4 loop)
theorem pe_lc {elt tg iter:Expr} {ifs:List Expr} {scope:Scope} {own:List (Str × Nat)} {pos:Pos} {wi:TI} {g:TG} {tt:TT} {te:TE} (hc:X.calm = true) (hN:X.N.Nodup) (hi:PI X tg iter wi) (ok:BlkOk X.N X.env.scope scope own)
    (hg:∀ (s:Shared) (H:Hp) (C:Addr) (cl:List (Str × Addr)) (fp:List Addr),PG (X.blk s H scope (compEnvC scope cl C X.env) fp) tg g) (ht:∀ (s:Shared) (H:Hp) (C:Addr) (cl:List (Str × Addr)) (fp:List Addr),PTs (X.blk s H scope (compEnvC scope cl C X.env) fp) ifs tt)
    (he:∀ (s:Shared) (H:Hp) (C:Addr) (cl:List (Str × Addr)) (fp:List Addr),PE (X.blk s H scope (compEnvC scope cl C X.env) fp) elt te) (hs:∀ x,foldedSetIterable iter X.env x = pure x:=by intro _; rfl) :
    PE X (.ListComp elt [⟨tg,iter,ifs,0⟩] scope pos) (tLc wi g tt te (own.map (·.2))):=by
  intro pins s σ H Q I h
  rw [eval_ListComp]
  refine lc_core hc hN I hi ok hg ht he hs h fun D C s' m H' I' q hn f=>⟨m,hn,fun h'' sb=>?_⟩
  obtain ⟨f0,f1,f2,f3,f4,f5⟩:=f
  exact ⟨.ref D,H',I'.turned (t':=s'.toks) (fun b o hb e=>(sb.2 b hb).trans e) f0 f1 f3 f4 f5,rfl,q⟩
theorem ps_setLc {i:Nat} {y:Str} {py:Pos} {elt tg iter:Expr} {ifs:List Expr} {scope:Scope} {own:List (Str × Nat)} {pos spos:Pos} {wi:TI} {g:TG} {tt:TT} {te:TE} (hc:X.calm = true) (hN:X.N.Nodup) (hy:X.N[i]? = some y) (hyl:X.env.scope.names.lookup y = some .local)
    (hsw:swapsWith (.ListComp elt [⟨tg,iter,ifs,0⟩] scope pos) (some (.Name y py)) spos.line X.env = pure true) (hi:PI X tg iter wi) (ok:BlkOk X.N X.env.scope scope own)
    (hg:∀ (s:Shared) (H:Hp) (C:Addr) (cl:List (Str × Addr)) (fp:List Addr),PG (X.blk s H scope (compEnvC scope cl C X.env) fp) tg g) (ht:∀ (s:Shared) (H:Hp) (C:Addr) (cl:List (Str × Addr)) (fp:List Addr),PTs (X.blk s H scope (compEnvC scope cl C X.env) fp) ifs tt)
    (he:∀ (s:Shared) (H:Hp) (C:Addr) (cl:List (Str × Addr)) (fp:List Addr),PE (X.blk s H scope (compEnvC scope cl C X.env) fp) elt te) (hs:∀ x,foldedSetIterable iter X.env x = pure x:=by intro _; rfl) :
    PS X (.Assign [.Name y py] (.ListComp elt [⟨tg,iter,ifs,0⟩] scope pos) spos) (tAsg (tLc wi g tt te (own.map (·.2))) (gName i)):=by
  intro pins s σ H D I h
  rw [exec_Assign_Name_used _ _ _ _ hsw]
  refine wpAny_bind (wpAny_standAt (wpAny_bind ?_))
  show wpAny _ X.A (do let _ <- comprehension (.ListComp elt [⟨tg,iter,ifs,0⟩] scope pos) scope X.env (firstIterPos [⟨tg,iter,ifs,0⟩] pos) (newList []) false (eval iter X.env) (some (assign (.Name y py) X.env))) _ _ s
  have h:tLc wi g tt te (own.map (·.2)) σ H (fun x H1=>gName i x σ H1 D.nx):=h
  refine wpAny_bind (thn (lc_core (Qf:=fun _ s'=>SP X pins D .next s') hc hN I hi ok hg ht he hs h fun L C s' m H' I' q hn f=>?_) fun _ s' hq=>wpAny_pure (wpAny_pure hq))
  show wpAny _ _ (assign (.Name y py) X.env (.ref L)) _ _ _
  refine wpAny_assign_Name (store_ok2 (v:=V.ref L) I' hN hy (.inl hyl) rfl (fun s2 I2 ⟨a,sb,ha⟩=>?_) (.inr hyl))
  obtain ⟨f0,f1,f2,f3,f4,f5⟩:=f
  have haC:C ≠ a:=by
    rcases ha with z | z
    · rw [z]; exact f1
    · exact fun e=>f4 y a z e.symm
  refine ⟨m,hn.sameBut sb haC,fun h3 sb3=>?_⟩
  exact ⟨_,H',I2.turned (t':=s2.toks) (fun b o hb e=>(sb3.2 b hb).trans e) f0 f1 f3 f4 f5,q⟩
theorem sw_true {elt:Expr} {gs:List Comprehension} {scope:Scope} {pos py:Pos} {y:Str} {l:Nat} {env:Env} (hk:env.scope.kind = .function) (hy:env.scope.names.lookup y = some .local) (hl:(py.line == pos.line) = true)
    (ha:(scope.names.any fun (n,k)=>n == y && (k == .local || k == .cell)) = false):swapsWith (.ListComp elt gs scope pos) (some (.Name y py)) l env = pure true:=by
  have ky:env.kindOf y = some .local:=hy
  have hb:env.blockKind = .function:=by unfold Env.blockKind; rw [hk]; rfl
  unfold swapsWith
  simp only [hb,ky,ha,Expr.pos,hl]
  rfl
end
theorem lc_range {lo:Int} {n:Nat} {g:TG} {tt:TT} {te:TE} {vs:List Nat} {σ:St} {H1:Hp} {D:Addr} {Qd:Hp -> Prop} (Pv:Nat -> Hp -> Prop) (h0:Pv 0 (upd H1 D (.lst [])))
    (hs:∀ i H,i < n -> Pv i H -> g (.int (lo + i)) (wipe σ vs) H fun σ2 H2=>wipe σ2 vs = wipe σ vs /\ tt σ2 H2 fun b H3 =>
      if b = true then te σ2 H3 fun y H4=>∃ acc,H4 D = some (.lst acc) /\ acc.length < sizeLine /\ Pv (i + 1) (upd H4 D (.lst (acc ++ [y]))) else Pv (i + 1) H3) (hd:∀ H,Pv n H -> Qd H) :
    ∃ W:Nat -> Nat -> Hp -> Prop,(∃ m,W 0 m (upd H1 D (.lst []))) /\ ∀ i m H,W i m H →
      ((Itr lo n).stop i H /\ Qd H) \/ ((Itr lo n).go i H /\ ∃ Nx:Hp -> Prop,(∀ H',Nx H' -> ∃ m',m' < m /\ W (i + 1) m' H') /\ ∀ x H',(Itr lo n).yld i H x H' -> g x (wipe σ vs) H' fun σ2 H2=>wipe σ2 vs = wipe σ vs /\ tt σ2 H2 fun b H3 =>
        if b = true then te σ2 H3 fun y H4=>∃ acc,H4 D = some (.lst acc) /\ acc.length < sizeLine /\ Nx (upd H4 D (.lst (acc ++ [y]))) else Nx H3):=by
  refine ⟨fun i m H=>m = n - i /\ i <= n /\ Pv i H,⟨n,by simp,Nat.zero_le _,h0⟩,?_⟩
  rintro i m H ⟨rfl,hi,p⟩
  by_cases hlt:i < n
  · refine .inr ⟨hlt,Pv (i + 1),fun H' p'=>⟨n - (i + 1),by omega,rfl,hlt,p'⟩,fun x H' y=>?_⟩
    obtain ⟨e,y⟩:=y
    subst e y
    exact hs i _ hlt p
  · have e:i = n:=by omega
    subst e
    exact .inl ⟨Nat.le_refl _,hd H p⟩
theorem lc_list {K:PySem.W.Frag} {a:Addr} {xs:List V} {g:TG} {tt:TT} {te:TE} {vs:List Nat} {σ:St} {H1:Hp} {D:Addr} {Qd:Hp -> Prop} (Pv:Nat -> Hp -> Prop) (h0:Pv 0 (upd H1 D (.lst []))) (hl:∀ i H,i <= xs.length -> Pv i H -> SqL K H a xs)
    (hs:∀ i x H,xs[i]? = some x -> Pv i H -> g x (wipe σ vs) H fun σ2 H2=>wipe σ2 vs = wipe σ vs /\ tt σ2 H2 fun b H3 =>
      if b = true then te σ2 H3 fun y H4=>∃ acc,H4 D = some (.lst acc) /\ acc.length < sizeLine /\ Pv (i + 1) (upd H4 D (.lst (acc ++ [y]))) else Pv (i + 1) H3) (hd:∀ H,Pv xs.length H -> Qd H) :
    ∃ W:Nat -> Nat -> Hp -> Prop,(∃ m,W 0 m (upd H1 D (.lst []))) /\ ∀ i m H,W i m H →
      ((Itl K a).stop i H /\ Qd H) \/ ((Itl K a).go i H /\ ∃ Nx:Hp -> Prop,(∀ H',Nx H' -> ∃ m',m' < m /\ W (i + 1) m' H') /\ ∀ x H',(Itl K a).yld i H x H' -> g x (wipe σ vs) H' fun σ2 H2=>wipe σ2 vs = wipe σ vs /\ tt σ2 H2 fun b H3 =>
        if b = true then te σ2 H3 fun y H4=>∃ acc,H4 D = some (.lst acc) /\ acc.length < sizeLine /\ Nx (upd H4 D (.lst (acc ++ [y]))) else Nx H3):=by
  refine ⟨fun i m H=>m = xs.length - i /\ i <= xs.length /\ Pv i H,⟨xs.length,by simp,Nat.zero_le _,h0⟩,?_⟩
  rintro i m H ⟨rfl,hi,p⟩
  have q:=hl i H hi p
  by_cases hlt:i < xs.length
  · refine .inr ⟨⟨xs,xs[i],q,by simp [hlt]⟩,Pv (i + 1),fun H' p'=>⟨xs.length - (i + 1),by omega,rfl,hlt,p'⟩,fun x H' y=>?_⟩
    obtain ⟨e,y⟩:=y
    subst e
    exact hs i x _ (y xs q) p
  · have e:i = xs.length:=by omega
    subst e
    exact .inl ⟨⟨xs,q,Nat.le_refl _⟩,hd H p⟩
def blkC (N:List Str) (sc scope:Scope) (own:List (Str × Nat)):Bool :=
  (match scope.kind with | .function=>true | _=>false) && (scope.names.all fun y=>decide (scope.names.lookup y.1 = some y.2)) && (own.all fun p=>decide (N[p.2]? = some p.1)) &&
    (scope.names.all fun y=>match y.2 with
      | .free=>(match sc.names.lookup y.1 with | some .cell=>true | some .free=>true | _=>false)
      | .local=>decide (y.1 ∈ own.map (·.1)) || decide (y.1 ∉ N)
      | .cell=>decide (y.1 ∈ own.map (·.1)) || decide (y.1 ∉ N)
      | _=>true)
theorem blkOk_by {N:List Str} {sc scope:Scope} {own:List (Str × Nat)} (h:blkC N sc scope own = true):BlkOk N sc scope own:=by
  unfold blkC at h
  simp only [Bool.and_eq_true,List.all_eq_true,decide_eq_true_eq] at h
  obtain ⟨⟨⟨h1,h2⟩,h3⟩,h4⟩:=h
  refine ⟨?_,h2,h3,fun y hy e=>?_,fun y hy e=>?_⟩
  · split at h1
    · assumption
    · cases h1
  · have q:=h4 y hy
    simp only [e] at q
    split at q <;> first | exact .inl (by assumption) | exact .inr (by assumption) | cases q
  · have q:=h4 y hy
    rcases e with e | e <;> (simp only [e,Bool.or_eq_true,decide_eq_true_eq] at q; exact q)
end L2
namespace L2
open PySem PySem.Spec PyProof.Rows
section
variable {prog:Program} {w:World} {A:Around} {R:Result -> Shared -> Prop} {s:Shared} {elt t0 i0 t1 i1:Expr} {ifs0 ifs1:List Expr} {scope:Scope} {pos:Pos} {it acc:Value} {env:Env}
end
section
variable {X:Cx}
end
end L2
namespace L2
open PySem PySem.Spec PyProof.Rows
section
variable {κ:Type} [DecidableEq κ]
end
theorem kV_is {P:Program} {w:World} {k:Key} {u:Value} (r:RelV (kV k) u):(mixKind P w).is k u = true:=by
  cases k with
  | inl i=>obtain ⟨t,e⟩:=(show ∃ t,u = Value.int i t from r); subst e; exact mixKind_int P w i t
  | inr x=>obtain ⟨t,e⟩:=(show ∃ t,u = Value.str x t from r); subst e; exact mixKind_str P w x t
section
variable {P:Program} {w:World} {H:Hp} {h:Heap} {a:Addr}
end
section
variable {X:Cx} {pins:List (Addr × Obj)} {σ:St} {H:Hp} {s:Shared} {a:Addr} {y v:V} {u r:Value} {o:Option V} {A:Around} {E:Value -> Shared -> Prop}
end
section
variable {X:Cx} {pins:List (Addr × Obj)} {σ:St} {H:Hp} {s:Shared} {a:Addr} {kvs:List (Key × V)} {k:Key} {u:Value} {A:Around} {E:Value -> Shared -> Prop}
end
def NoSl (i:Expr):Prop:=∀ ov iv,subscripted i false ov iv = operate [ov,iv] (getItem ov iv)
theorem subD_of {prog:Program} {w:World} {A:Around} {E:Value -> Shared -> Prop} {s:Shared} {env:Env} {value slice:Expr} {pos:Pos} {T id:String} {Q:Value -> Shared -> Prop}
    (hl:typeLookup (.type T) "__getitem__" = pure (some (.builtin id))) (hs:NoSl slice)
    (h:wpAny (model prog w) A (eval value env) (fun o s₁=>wpAny (model prog w) A (eval slice env) (fun i s₂=>s₂.TypeIs o T /\ wpAny (model prog w) A (getItem o i) Q E s₂) E s₁) E s) :
    wpAny (model prog w) A (eval (.Subscript value slice pos) env) Q E s:=by
  refine Subscript_ (wpAny_mono h (fun o s₁ h₁=>wpAny_mono h₁ (fun i s₂ h₂=>?_) fun _ _ x=>x) fun _ _ x=>x)
  obtain ⟨hT,h₂⟩:=h₂
  unfold subscriptTail
  refine wpAny_bind ?_
  rw [getitemInPython_of_ne hT.not_modules]
  refine wpAny_bind (wpAny_specialOf hT hl ?_)
  have fin:wpAny (model prog w) A (subscripted slice false o i) (fun r s₃=>wpAny (model prog w) A (letTemporaryGo value o r >>= fun _=>pure r) Q E s₃) E s₂:=by
    rw [hs o i]
    exact wpAny_operating (wpAny_mono h₂ (fun r s₃ h₃=>wpAny_bind (wpAny_letTemporaryGo (wpAny_pure h₃))) fun _ _ x=>x)
  first
    | exact wpAny_pure (wpAny_bind fin)
    | exact wpAny_bind (wpAny_pure (wpAny_bind fin))
    | exact wpAny_bind fin
section
variable {X:Cx} {o i e value:Expr} {pos pos' tpos:Pos} {td ty tv:TE}
end
section
variable {X:Cx} {pos:Pos}
end
section
variable {X:Cx} {pins:List (Addr × Obj)} {σ:St} {H:Hp} {s:Shared} {a:Addr} {y d:V} {u r:Value} {o:Option V} {A:Around} {E:Value -> Shared -> Prop}
end
section
variable {X:Cx} {o e f:Expr} {apos cpos:Pos} {td ty tx:TE}
end
section
variable {X:Cx} {pins:List (Addr × Obj)} {σ:St} {H:Hp} {s:Shared} {a:Addr} {kvs:List (Key × V)} {A:Around} {E:Value -> Shared -> Prop}
end
section
variable {X:Cx} {pins:List (Addr × Obj)} {σ:St} {H:Hp} {s:Shared} {a:Addr} {y:V} {u:Value} {A:Around} {E:Value -> Shared -> Prop}
end
end L2
namespace L2
open PySem PySem.Spec PyProof.Rows
section
variable {prog:Program} {w:World} {A:Around} {E:Value -> Shared -> Prop}
end
section
variable {X:Cx}
end
end L2
namespace L2
open PySem PySem.Spec PyProof.Rows
theorem boot_reversed5:bootBuiltins "reversed" = some (.type "reversed"):=by decide +kernel
section
variable {X:Cx} {pins:List (Addr × Obj)} {σ:St} {H:Hp} {s:Shared} {h':Heap}
theorem Inv.turnedL {t':Nat} {ch:List Addr} (I:Inv X pins σ H s) (k:∀ b o,b ∉ ch -> s.heap.get? b = some o -> h'.get? b = some o) (hf:∀ b ∈ ch,FpOk X pins H b):Inv X pins σ H { s with heap:=h',toks:=t' }:=by
  have nit:∀ b u,H b = some u -> b ∉ ch:=fun b u e z=>by
    have q:=(hf b z).1
    rw [q] at e; cases e
  refine I.step (g':=s.gens) (d':=s.drawn) (ch:=ch) (fun b hb=>⟨(hf b hb).2.2.2.1,(hf b hb).2.1,(hf b hb).2.2.2.2.1,(hf b hb).2.2.2.2.2⟩) (fun b o _ _ hc e _=>k b o hc e) (fun b o _ _ hc e _=>⟨o.slots,k b o hc e⟩)
    (fun _ _ _ _ n=>n) (fun b o hc e=>⟨o,k b o hc e⟩) (fun _ _ e=>e) (fun _ _ _ e=>e) (fun b ps e=>⟨#[],by rw [e]; simp⟩) (fun m hm=>?_) (fun b u e=>?_) I.bare
  · obtain ⟨o,es,ep,ho,r⟩:=hm
    exact ⟨o,es,ep,k _ o (fun z=>(hf _ z).2.1 rfl) ho,r⟩
  · refine (I.hok b u e).stay (fun c v hc q=>k c v ?_ q) (fun _ q=>q) fun _ _ q=>q
    rcases hc with z | z
    · rw [z]; exact nit b u e
    · exact nit c _ z
theorem Inv.turnedNew {t':Nat} {ch:List Addr} {T:Addr} {ob:HO} (I:Inv X pins σ H s) (k:∀ b o,b ∉ ch -> s.heap.get? b = some o -> h'.get? b = some o) (hf:∀ b ∈ ch,FpOk X pins H b) (hT:s.heap.objs.size <= T)
    (new:ObjOk X.prog X.w (upd H T ob) h' T ob):Inv X pins σ (upd H T ob) { s with heap:=h',toks:=t' }:=by
  have hn:H T = none:=I.hok.fresh hT
  have nit:∀ b u,H b = some u -> b ∉ ch:=fun b u e z=>by
    have q:=(hf b z).1
    rw [q] at e; cases e
  refine I.step (g':=s.gens) (d':=s.drawn) (ch:=ch) (fun b hb=>⟨(hf b hb).2.2.2.1,(hf b hb).2.1,(hf b hb).2.2.2.2.1,(hf b hb).2.2.2.2.2⟩) (fun b o _ _ hc e _=>k b o hc e) (fun b o _ _ hc e _=>⟨o.slots,k b o hc e⟩)
    (fun b o _ e n=>?_) (fun b o hc e=>⟨o,k b o hc e⟩) (fun b xs e=>?_) (fun b o u e=>?_) (fun b ps e=>⟨#[],?_⟩) (fun m hm=>?_) (fun b u e=>?_) I.bare
  · rw [upd_ne (Nat.ne_of_lt (Nat.lt_of_lt_of_le (Heap.lt_size e) hT))]; exact n
  · rw [upd_ne (ne_of_none e hn)]; exact e
  · rw [upd_ne (ne_of_none e hn)]; exact e
  · rw [upd_ne (ne_of_none e hn),e]; simp
  · obtain ⟨o,es,ep,ho,r⟩:=hm
    exact ⟨o,es,ep,k _ o (fun z=>(hf _ z).2.1 rfl) ho,r⟩
  · by_cases hb:b = T
    · subst hb
      rw [upd_same] at e
      cases e
      exact new
    · rw [upd_ne hb] at e
      refine (I.hok b u e).stay (fun c v hc q=>k c v ?_ q) (fun c q=>by rw [upd_ne (ne_of_none q hn)]; exact q) fun c xs q=>by rw [upd_ne (ne_of_none q hn)]; exact q
      rcases hc with z | z
      · rw [z]; exact nit b u e
      · exact nit c _ z
end
section
variable {X:Cx}
theorem pi_one {tg:Expr} {pins:List (Addr × Obj)} {σ:St} {H:Hp} {s:Shared} {R:It -> Hp -> Prop} {J:It} {tn:Nat -> Heap -> Prop} {tk:Nat} (I:Inv X pins σ H s) (o:Obj)
    (T:Turn X.prog X.w X.K tg J [s.heap.objs.size] s.heap.objs.size tn) (st:tn 0 (s.heap.push o)) (q:R J H):PIE X pins σ tg R (.ref s.heap.objs.size) { s with heap:=s.heap.push o,toks:=tk }:=by
  refine ⟨s.heap.objs.size,[s.heap.objs.size],tn,J,H,rfl,I.kept fun b ob e=>Heap.get?_push_of_some _ e,T,st,fun b hb=>?_,q⟩
  have e:b = s.heap.objs.size:=by simpa using hb
  subst e
  exact I.fpOk (Nat.le_refl _) (I.hok.fresh (Nat.le_refl _))
end
section
variable {X:Cx} {tg:Expr}
end
def Itv (K:PySem.W.Frag) (a:Addr) (n:Nat):It :=
  ⟨fun i H=>i < n /\ ∃ (xs:List V) (x:V),SqL K H a xs /\ xs[n - 1 - i]? = some x,fun i H x H'=>H' = H /\ ∀ xs,SqL K H a xs -> xs[n - 1 - i]? = some x,fun i _=>n <= i⟩
theorem turn_rev {P:Program} {w:World} {K:PySem.W.Frag} {tg:Expr} (a it:Addr) (n:Nat):Turn P w K tg (Itv K a n) [it] it (fun i h=>i <= n /\ h.IsRevIter it a ((n:Int) - 1 - (i:Nat))) where
  mem:=by simp
  obj:=fun i h st b hb=>by
    have e:b = it:=by simpa using hb
    subst e
    obtain ⟨_,o,e,c,d⟩:=st
    exact ⟨o,e,fun v z=>by rw [d] at z; cases z⟩
  keep:=fun i h h' st k=>⟨st.1,st.2.at fun o e=>k it (by simp) o e⟩
  item:=by
    intro X hP hw hK hc i pins s σ H E I hf st hg
    subst hP hw hK
    obtain ⟨hin,xs,x,hq,hx⟩:=hg
    obtain ⟨its,rv,p,hz⟩:=I.list hq
    obtain ⟨u,hu,ru⟩:=rv.get hx
    obtain ⟨f0,f1,f2,f3,f4,f5⟩:=hf it (by simp)
    obtain ⟨_,hit⟩:=st
    have e1:(n:Int) - 1 - ((i:Nat):Int) = ((n - 1 - i:Nat):Int):=by omega
    rw [e1] at hit
    refine wpAny_pyNext_rev_item hit p.isList (x:=u) (by simpa using hu) fun h' st' sb=>?_
    have e2:((n - 1 - i:Nat):Int) - 1 = (n:Int) - 1 - ((i + 1:Nat):Int):=by omega
    rw [e2] at st'
    have I1:Inv X pins σ H { s with heap:=h' }:=I.turned (t':=s.toks) (fun b o hb e=>(sb.2 b hb).trans e) f0 f1 f3 f4 f5
    obtain ⟨o,e,c,d⟩:=id st'
    exact ⟨u,rfl,go_of (s:={ s with heap:=h' }) e c d (by decide) ⟨x,H,I1,ru,⟨rfl,fun ys hy=>by rw [I.list_inj hy hq]; exact hx⟩,⟨hin,st'⟩,fun b hb=>(hf b hb).1⟩⟩
  done:=by
    intro X hP hw hK hc i pins s σ H E I hf st hg
    subst hP hw hK
    obtain ⟨f0,f1,f2,f3,f4,f5⟩:=hf it (by simp)
    obtain ⟨hin,hit⟩:=st
    have hge:n <= i:=hg
    have e1:(n:Int) - 1 - ((i:Nat):Int) = -1:=by omega
    rw [e1] at hit
    exact wpAny_pyNext_rev_end (I.ok.hd hc) hit fun h' eb=>⟨rfl,I.turned (t':=s.toks) (fun b o hb e=>eb b o hb e) f0 f1 f3 f4 f5⟩
  self:=fun A i s Q E st h=>wpAny_pyIter_revIter st.2 h
def iRev (K:PySem.W.Frag) (ta:TA):TI:=fun σ H R=>ta σ H fun vs H1=>∃ (a:Addr) (xs:List V),vs = [.ref a] /\ SqL K H1 a xs /\ R (Itv K a xs.length) H1
section
variable {X:Cx} {tg:Expr}
theorem pi_reversed {e:Expr} {ta:TA} {p pos:Pos} (hg:Gl X "reversed") (hm:X.mg "reversed" = none) (ha:PA X [e] ta) (hs:starEach [e] X.env = [(false,eval e X.env)]:=by rfl):PI X tg (.Call (.Name "reversed" p) [e] [] pos) (iRev X.K ta):=by
  intro pins s σ H R I h
  refine Call_ (ld_blt I hg hm boot_reversed5 (PyProof.Rows.callWith_type1 (thn (ha pos pins s σ H _ I h) fun us s1 ⟨vs,H1,I1,r1,q1⟩=>?_) hs rfl))
  obtain ⟨a,xs,e,hq,q⟩:=q1
  subst e
  cases r1 with
  | cons r rr =>
    cases rr
    cases r
    obtain ⟨its,rv,p',hz⟩:=I1.list hq
    have hl:=rv.length
    have e1:((its.toArray.size:Nat):Int) - 1 = (xs.length:Int) - 1 - ((0:Nat):Int):=by simp only [List.size_toArray]; omega
    refine call_reversed_list p'.isList (wpAny_pyIter_revIter (l:=a) (i:=((its.toArray.size:Nat):Int) - 1) ⟨_,Heap.get?_push_size _ rfl,rfl,rfl⟩ ?_)
    refine pi_one (tk:=s1.toks) I1 _ (turn_rev a _ xs.length) ⟨Nat.zero_le _,?_⟩ q
    rw [<- e1]
    exact ⟨_,Heap.get?_push_size _ rfl,rfl,rfl⟩
end
section
variable {prog:Program} {w:World} {A:Around} {E:Value -> Shared -> Prop} {s:Shared}
end
section
variable {X:Cx} {pins:List (Addr × Obj)} {σ:St} {H:Hp} {s:Shared} {d:Addr} {o:Obj}
end
section
variable {P:Program} {w:World} {K:PySem.W.Frag} {tg:Expr} {d:Addr} {o:Obj} {es:Array DictEntry} {ep:Nat}
end
section
variable {X:Cx} {tg e:Expr} {td:TE} {apos cpos:Pos}
end
theorem boot_zip5:bootBuiltins "zip" = some (.type "zip"):=by decide +kernel
def Itz (K:PySem.W.Frag) (a b:Addr):It :=
  ⟨fun i H=>∃ (xs ys:List V) (x y:V),SqL K H a xs /\ SqL K H b ys /\ xs[i]? = some x /\ ys[i]? = some y,
    fun i H v H'=>∃ T x y,v = .ref T /\ H T = none /\ H' = upd H T (.tup [x,y]) /\ (∀ xs,SqL K H a xs -> xs[i]? = some x) /\ ∀ ys,SqL K H b ys -> ys[i]? = some y,
    fun i H=>∃ xs ys:List V,SqL K H a xs /\ SqL K H b ys /\ (xs.length <= i \/ ys.length <= i)⟩
theorem turn_zip {P:Program} {w:World} {K:PySem.W.Frag} {elts:List Expr} {kk:Nat} {tpos:Pos} {a b z TI TO i1 i2:Addr} (D:ZipApart z TI TO i1 i2 a b) :
    Turn P w K (.Tuple elts kk tpos) (Itz K a b) [z,TI,TO,i1,i2] z (fun i h=>IsZip h z TI TO .none /\ IsPair h TI (.ref i1) (.ref i2) /\ (∃ x y,IsPair h TO x y) /\ h.IsListIter i1 a i /\ h.IsListIter i2 b i) where
  mem:=by simp
  obj:=fun i h st c hc=>by
    obtain ⟨hz,hTI,⟨x,y,hTO⟩,⟨o1,e1,_,d1⟩,⟨o2,e2,_,d2⟩⟩:=st
    have e':c = z \/ c = TI \/ c = TO \/ c = i1 \/ c = i2:=by simpa using hc
    rcases e' with q | q | q | q | q
    · rw [q]; exact ⟨_,hz,fun v q=>nomatch q⟩
    · rw [q]; exact ⟨_,hTI,fun v q=>nomatch q⟩
    · rw [q]; exact ⟨_,hTO,fun v q=>nomatch q⟩
    · rw [q]; exact ⟨o1,e1,fun v q=>by rw [d1] at q; cases q⟩
    · rw [q]; exact ⟨o2,e2,fun v q=>by rw [d2] at q; cases q⟩
  keep:=fun i h h' st k=>by
    obtain ⟨hz,hTI,⟨x,y,hTO⟩,h1,h2⟩:=st
    exact ⟨k z (by simp) _ hz,k TI (by simp) _ hTI,⟨x,y,k TO (by simp) _ hTO⟩,h1.at fun o q=>k i1 (by simp) o q,h2.at fun o q=>k i2 (by simp) o q⟩
  item:=by
    intro X hP hw hK hc i pins s σ H E I hf st hg
    subst hP hw hK
    obtain ⟨hz,hTI,⟨x0,y0,hTO⟩,h1,h2⟩:=st
    obtain ⟨xs,ys,x,y,hqx,hqy,hx,hy⟩:=hg
    obtain ⟨its,rv,p,_⟩:=I.list hqx
    obtain ⟨its2,rv2,p2,_⟩:=I.list hqy
    obtain ⟨u,hu,ru⟩:=rv.get hx
    obtain ⟨u2,hu2,ru2⟩:=rv2.get hy
    have hzl:z < s.heap.objs.size:=Heap.lt_size hz
    refine wpAny_pyNext_zip_item D hz hTI hTO h1 h2 p.isList p2.isList (x:=u) (y:=u2) (by simpa using hu) (by simpa using hu2) fun h' z' TO' h1' h2' hT hsz hk=>?_
    refine ⟨_,rfl,wpAny_letOwnedTupleGo_zip (s:={ s with heap:=h' }) z' fun h'' z'' sb=>?_⟩
    have hT2:h''.get? s.heap.objs.size = some { cls:=.type "tuple",data:=.seq #[u,u2] }:=(sb.2 _ (Nat.ne_of_gt hzl)).trans hT
    have new:ObjOk X.prog X.w (upd H s.heap.objs.size (.tup [x,y])) h'' s.heap.objs.size (.tup [x,y]) :=
      ⟨by show 2 <= sizeLine; decide,[u,u2],.cons ru (.cons ru2 .nil),⟨_,hT2,rfl,_,rfl⟩⟩
    have I1:Inv X pins σ (upd H s.heap.objs.size (.tup [x,y])) { s with heap:=h'' } :=
      I.turnedNew (t':=s.toks) (ch:=[z,TI,TO,i1,i2]) (fun c o hb q=>(sb.2 c (fun q'=>hb (by simp [q']))).trans (hk c o (fun q'=>hb (by simp [q'])) (fun q'=>hb (by simp [q'])) (fun q'=>hb (by simp [q'])) (fun q'=>hb (by simp [q'])) q)) hf (Nat.le_refl _) new
    refine ⟨.ref s.heap.objs.size,_,I1,rfl,⟨_,x,y,rfl,I.hok.fresh (Nat.le_refl _),rfl,fun l hl=>by rw [I.list_inj hl hqx]; exact hx,fun l hl=>by rw [I.list_inj hl hqy]; exact hy⟩,⟨z'',?_,⟨u,u2,?_⟩,?_,?_⟩,fun c hcm=>?_⟩
    · exact (sb.2 _ D.TIz).trans (hk _ _ D.TIz D.TITO D.TIi1 D.TIi2 hTI)
    · exact (sb.2 _ D.TOz).trans TO'
    · exact h1'.at fun o q=>(sb.2 _ D.i1z).trans q
    · exact h2'.at fun o q=>(sb.2 _ D.i2z).trans q
    · have hlt:c < s.heap.objs.size:=by
        have e':c = z \/ c = TI \/ c = TO \/ c = i1 \/ c = i2:=by simpa using hcm
        rcases e' with q | q | q | q | q
        · rw [q]; exact hzl
        · rw [q]; exact Heap.lt_size hTI
        · rw [q]; exact Heap.lt_size hTO
        · rw [q]; obtain ⟨_,e1,_⟩:=h1; exact Heap.lt_size e1
        · rw [q]; obtain ⟨_,e2,_⟩:=h2; exact Heap.lt_size e2
      rw [upd_ne (Nat.ne_of_lt hlt)]
      exact (hf c hcm).1
  done:=by
    intro X hP hw hK hc i pins s σ H E I hf st hg
    subst hP hw hK
    obtain ⟨hz,hTI,⟨x0,y0,hTO⟩,h1,h2⟩:=st
    obtain ⟨xs,ys,hqx,hqy,hend⟩:=hg
    obtain ⟨its,rv,p,_⟩:=I.list hqx
    obtain ⟨its2,rv2,p2,_⟩:=I.list hqy
    have l1:=rv.length
    have l2:=rv2.length
    have he:its.toArray[i]? = none \/ its2.toArray[i]? = none:=by
      rcases hend with q | q
      · exact .inl (by simp; omega)
      · exact .inr (by simp; omega)
    exact wpAny_pyNext_zip_end (I.ok.hd hc) D hz hTI hTO h1 h2 p.isList p2.isList he fun h' hk=>⟨rfl,I.turnedL (t':=s.toks) (ch:=[z,TI,TO,i1,i2]) (fun c o hb q =>
      hk c o (fun q'=>hb (by simp [q'])) (fun q'=>hb (by simp [q'])) (fun q'=>hb (by simp [q'])) (fun q'=>hb (by simp [q'])) q) hf⟩
  self:=fun A i s Q E st h=>wpAny_pyIter_zip st.1 h
def iZip (K:PySem.W.Frag) (ta:TA):TI:=fun σ H R=>ta σ H fun vs H1=>∃ a b xs ys,vs = [.ref a,.ref b] /\ SqL K H1 a xs /\ SqL K H1 b ys /\ R (Itz K a b) H1
theorem pi_zip {X:Cx} {e e2:Expr} {ta:TA} {p pos tpos:Pos} {elts:List Expr} {kk:Nat} (hg:Gl X "zip") (hm:X.mg "zip" = none) (ha:PA X [e,e2] ta)
    (hs:starEach [e,e2] X.env = (false,eval e X.env) :: starEach [e2] X.env:=by rfl) (hpl:(backTo pos (starEach [e2] X.env)).any (·.1) = false:=by rfl) :
    PI X (.Tuple elts kk tpos) (.Call (.Name "zip" p) [e,e2] [] pos) (iZip X.K ta):=by
  intro pins s σ H R I h
  refine Call_ (ld_blt I hg hm boot_zip5 (PyProof.Rows.callWith_type1 (thn (ha pos pins s σ H _ I h) fun us s1 ⟨vs,H1,I1,r1,q1⟩=>?_) hs hpl))
  obtain ⟨a,b,xs,ys,ex,hqx,hqy,q⟩:=q1
  subst ex
  cases r1 with
  | cons r rr =>
    cases rr with
    | cons r' rr =>
      cases rr
      cases r
      cases r'
      obtain ⟨its,rv,p1,_⟩:=I1.list hqx
      obtain ⟨its2,rv2,p2,_⟩:=I1.list hqy
      have la:a < s1.heap.objs.size:=p1.lt
      have lb:b < s1.heap.objs.size:=p2.lt
      refine call_zip_2 p1.isList p2.isList fun h' hz hTI hTO h1 h2 hsz hk=>wpAny_pyIter_zip hz ?_
      have I2:Inv X pins σ H1 { s1 with heap:=h' }:=I1.kept (t':=s1.toks) hk
      refine ⟨s1.heap.objs.size + 4,[s1.heap.objs.size + 4,s1.heap.objs.size + 2,s1.heap.objs.size + 3,s1.heap.objs.size,s1.heap.objs.size + 1],_,_,H1,rfl,I2,turn_zip (PySem.W.ktu_apart s1.heap.objs.size a b la lb),⟨hz,hTI,⟨_,_,hTO⟩,h1,h2⟩,fun c hcm=>?_,q⟩
      have e':c = s1.heap.objs.size + 4 \/ c = s1.heap.objs.size + 2 \/ c = s1.heap.objs.size + 3 \/ c = s1.heap.objs.size \/ c = s1.heap.objs.size + 1:=by simpa using hcm
      have hle:s1.heap.objs.size <= c:=by
        rcases e' with z | z | z | z | z
        · rw [z]; exact Nat.le_add_right _ _
        · rw [z]; exact Nat.le_add_right _ _
        · rw [z]; exact Nat.le_add_right _ _
        · rw [z]; exact Nat.le_refl _
        · rw [z]; exact Nat.le_add_right _ _
      exact I1.fpOk hle (I1.hok.fresh hle)
end L2
section 
namespace Bits
open PySem PyProof.Rows
theorem bit_at {x:Int} (i:Nat):Builtin.bitAnd (x.fdiv (2 ^ i)) 1 = x / 2 ^ i % 2:=by
  have hp:(0:Int) <= 2 ^ i:=by
    rw [two_pow_cast]
    exact Int.natCast_nonneg _
  rw [Int.fdiv_eq_ediv_of_nonneg _ hp,bitAnd_m1]
theorem bitOr_pp {x y:Int} (hx:0 <= x) (hy:0 <= y):Builtin.bitOr x y = ((x.toNat ||| y.toNat:Nat):Int):=by
  have e:=nat_or_add_and x.toNat y.toNat
  rw [bitOr_and,bitAnd_pp hx hy]
  omega
end Bits
end 
section 
namespace TL
open PySem PySem.Builtin PySem.Builtin.Str PySem.StrLaws
end TL
end 
namespace L2
open PySem PySem.Spec PyProof.Rows
section
variable {X:Cx} {pins:List (Addr × Obj)} {σ:St} {H:Hp} {s:Shared} {Q:VK}
end
section
variable {X:Cx}
end
section
variable {X:Cx} {o e:Expr} {to te:TE}
end
end L2
namespace L2
open PySem PySem.Spec PyProof.Rows
section
variable {X:Cx}
end
end L2
namespace Att
open PySem PySem.W PySem.Calls PyProof.Rows
section
variable {prog:Program} {w:World} {A:Around} {E:Value -> Shared -> Prop} {s:Shared} {K:Frag}
end
end Att
namespace L2
open PySem PySem.Spec PyProof.Rows
end L2
namespace L2
open PySem PySem.Spec PyProof.Rows
end L2
namespace L2
open PySem PySem.Spec PyProof.Rows
def inClass (s:Stmt) (j:Nat):Stmt:=match s with
  | .ClassDef _ _ _ body _ _ _ _ _ _ _=>body.getD j (.Pass ⟨0,0,0,0⟩)
  | _=>.Pass ⟨0,0,0,0⟩
def defArgs (s:Stmt):Arguments:=match s with
  | .FunctionDef _ a _ _ _ _ _ _ _ _=>a
  | _=>{ posonlyargs:=[],args:=[],vararg:=none,kwonlyargs:=[],kw_defaults:=[],kwarg:=none,defaults:=[] }
def defBody (s:Stmt):List Stmt:=match s with
  | .FunctionDef _ _ b _ _ _ _ _ _ _=>b
  | _=>[]
def defScope (s:Stmt):Scope:=match s with
  | .FunctionDef _ _ _ _ _ _ sc _ _ _=>sc
  | _=>{ kind:=.function,names:=[],isGenerator:=false,isCoroutine:=false }
abbrev CX0:CXT:=fun _ _ _ _ _ _=>False
abbrev E0:XK:=fun _ _ _=>False
theorem pass0 {X:Cx}:Passes CX0 X E0:=fun _ _ _ _ _ _ _ h=>h.elim
structure Fun (K:PySem.W.Frag) (x qual:Str) (st:Stmt) (f:Addr) (fd:FuncData):Prop where
  ex:∃ (oc:Value) (od:Option Addr) (kV doc pm:Value) (an:Option Addr) (cdv ct:Value) (osl:Array (Option Value)),
    fd = PySem.W.fnOf x qual (defArgs st) (defBody st) (defScope st) .none kV doc pm an cdv ct /\ K.lookup f = some ⟨oc,od,.func fd,osl⟩ /\ PySem.W.codeIn K cdv qual = true
  kp:PySem.W.keepIn K (.ref f) = true
section
variable {P:Program} {w:World} {K:PySem.W.Frag} {mg:Str -> Option Value} {base:Heap}
theorem Fun.ok {x qual:Str} {st:Stmt} {f:Addr} {fd:FuncData} {N ps:List Str} {k:Nat} {sp:Sp} (F:Fun K x qual st f fd) (S:FnScope N ps (defScope st)) (len:∀ vs H Q E,sp vs H Q E -> vs.length = ps.length)
    (hbody:∀ (cdv:Value) (A:Around) (outer:List Env) (s:Shared) (H:Hp) (vs:List V) (Q:VK) (E:XK),Room k (A.deeper (envOfC qual (defScope st) s.heap.objs.size f cdv)) -> sp vs H Q E →
      ∃ t,PSs (cxOf CX0 P w K mg base N qual (defScope st) f cdv A outer s H E).nox (defBody st) t /\ t { nx:=fun _ H'=>Q .non H',rt:=Q } (start N vs) H):FnOk P w K mg base CX0 (k + 1) f fd ps sp:=by
  obtain ⟨oc,od,kV,doc,pm,an,cdv,ct,osl,rfl,lk,hcd⟩:=F.ex
  refine fn_of lk hcd S len fun A outer s H vs Q E hr hsp=>?_
  obtain ⟨t,h,q⟩:=hbody cdv A outer s H vs Q E hr hsp
  exact ⟨t,h.nox,q⟩
theorem Fun.binds {x qual:Str} {st:Stmt} {f:Addr} {fd:FuncData} {ps:List Str} (F:Fun K x qual st f fd)
    (h:∀ (kV doc pm:Value) (an:Option Addr) (cdv ct:Value) (us:List Value),us.length = ps.length -> bindArgs (PySem.W.fnOf x qual (defArgs st) (defBody st) (defScope st) .none kV doc pm an cdv ct) ⟨us,[]⟩ = pure (ps.zip us)):Binds K fd ps []:=by
  obtain ⟨oc,od,kV,doc,pm,an,cdv,ct,osl,rfl,lk,hcd⟩:=F.ex
  exact .all (h kV doc pm an cdv ct)
theorem fun_mk {x qual:Str} {st:Stmt} {f:Addr} {oc:Value} {od an:Option Addr} {osl:Array (Option Value)} {kV doc pm cdv ct:Value} (l:K.lookup f = some ⟨oc,od,.func (PySem.W.fnOf x qual (defArgs st) (defBody st) (defScope st) .none kV doc pm an cdv ct),osl⟩)
    (c:PySem.W.codeIn K cdv qual = true) (k:PySem.W.keepIn K (.ref f) = true):Fun K x qual st f (PySem.W.fnOf x qual (defArgs st) (defBody st) (defScope st) .none kV doc pm an cdv ct):=⟨⟨oc,od,kV,doc,pm,an,cdv,ct,osl,rfl,l,c⟩,k⟩
end
section
variable {X:Cx}
theorem pv (i:Nat) {x:Str} {pos:Pos} (hN:X.N[i]? = some x:=by rfl) (hv:Vis X.env.scope x:=by first | exact Or.inl rfl | exact Or.inr (Or.inl rfl) | exact Or.inr (Or.inr rfl)) (hd:(x == ("__debug__":Str)) = false:=by decide)
    (hcd:(x == ("__classdict__":Str)) = false:=by decide):PE X (.Name x pos) (tVar i):=pe_var hN hv hd hcd
end
def Same (H H':Hp):Prop:=∀ b o,H b = some o -> H' b = some o
theorem Same.trans {H H1 H2:Hp} (a:Same H H1) (b:Same H1 H2):Same H H2:=fun c o h=>b c o (a c o h)
theorem Same.free {H H':Hp} (e:Same H H') {l:Addr} (h:H' l = Option.none):H l = Option.none:=by
  cases q:H l with
  | none=>rfl
  | some o =>
    rw [e l o q] at h
    cases h
theorem Same.seq {K:PySem.W.Frag} {H H':Hp} {a:Addr} {xs:List V} (e:Same H H') (h:SqL K H a xs):SqL K H' a xs:=by
  rcases h with (h | ⟨o,h⟩) | h
  · exact .inl (.inl (e _ _ h))
  · exact .inl (.inr ⟨o,e _ _ h⟩)
  · exact .inr h
section
variable {κ:Type} [DecidableEq κ]
end
end L2
section
set_option Elab.async false
set_option linter.all false
set_option maxRecDepth 100000
set_option maxHeartbeats 2000000
namespace L2
open PySem PySem.Spec PyProof.Rows
open PySem.W (WData Codec OpenSpec Well WellAll ReadsW ReadsAllW)
mutual
/-- x stands for the datum d,lists and tuples all the way -/
inductive Dw (K:PySem.W.Frag) (H:Hp):V -> WData -> Prop
  | non:Dw K H .non .none
  | bl (b:Bool):Dw K H (.bl b) (.bool b)
  | int (i:Int):Dw K H (.int i) (.int i)
  | str (x:Str):Dw K H (.str x) (.str x)
  | byt (b:Array UInt8):Dw K H (.byt b) (.bytes b.toList)
  | lst {a:Addr} {xs:List V} {ds:List WData}:SqL K H a xs -> DwAll K H xs ds -> Dw K H (.ref a) (.list ds)
  | tup {a:Addr} {xs:List V} {ds:List WData}:SqT K H a xs -> DwAll K H xs ds -> Dw K H (.ref a) (.tuple ds)
inductive DwAll (K:PySem.W.Frag) (H:Hp):List V -> List WData -> Prop
  | nil:DwAll K H [] []
  | cons {v:V} {vs:List V} {d:WData} {ds:List WData}:Dw K H v d -> DwAll K H vs ds -> DwAll K H (v :: vs) (d :: ds)
end
theorem dw_ints {K:PySem.W.Frag} {H:Hp}:∀ ns:List Int,DwAll K H (ns.map V.int) (ns.map WData.int)
  | []=>.nil
  | n :: r=>.cons (.int n) (dw_ints r)
theorem ints_dw {K:PySem.W.Frag} {H:Hp}:∀ (ns:List Int) (xs:List V),DwAll K H xs (ns.map WData.int) -> xs = ns.map V.int
  | [],xs,h=>by
    cases h
    rfl
  | n :: r,xs,h=>by
    cases h with
    | cons h1 h2 =>
      cases h1
      rw [ints_dw r _ h2] <;> rfl
section
variable {P:Program} {w:World} {K:PySem.W.Frag} {H:Hp} {h:Heap} {R:PySem.W.WRecords} {cl:Str -> Option Addr}
theorem sqL_at {a:Addr} {xs:List V} (hok:HOk P w H h) (KX:K.In h) (q:SqL K H a xs):∃ (its:List Value) (o:Obj) (n:Nat),Vals xs its /\ h.get? a = some o /\ o.cls = .type "list" /\ o.data = .seq its.toArray n:=by
  rcases q with q | ⟨o,its,n,e,hc,_,hd,_,hv⟩
  · obtain ⟨_,its,n,hv,e⟩:=(show ObjOk P w H h a (.lst xs) from q.ok hok)
    exact ⟨its,_,n,hv,e,rfl,rfl⟩
  · exact ⟨its.toList,o,n,hv,KX _ _ e,hc,by simp [hd]⟩
theorem sqT_at {a:Addr} {xs:List V} (hok:HOk P w H h) (KX:K.In h) (q:SqT K H a xs):∃ (its:List Value) (o:Obj) (n:Nat),Vals xs its /\ h.get? a = some o /\ o.cls = .type "tuple" /\ o.data = .seq its.toArray n:=by
  rcases q with q | ⟨o,its,n,e,hc,hd,_,hv⟩
  · obtain ⟨_,its,hv,o,e,hc,n,hd⟩:=(show ObjOk P w H h a (.tup xs) from q.ok hok)
    exact ⟨its,o,n,hv,e,hc,hd⟩
  · exact ⟨its.toList,o,n,hv,KX _ _ e,hc,by simp [hd]⟩
mutual
theorem Dw.reads (hok:HOk P w H h) (KX:K.In h):∀ (d:WData) (v:V) (u:Value),Dw K H v d -> RelV v u -> ∃ as,ReadsW R cl h u d as
  | .none,_,_,x,r=>by
    cases x
    cases r
    exact ⟨_,ReadsW.none⟩
  | .bool b,_,_,x,r=>by
    cases x
    cases r
    exact ⟨_,ReadsW.bool b⟩
  | .int i,_,_,x,r=>by
    cases x
    obtain ⟨t,rfl⟩:=r
    exact ⟨_,ReadsW.int i t⟩
  | .str s,_,_,x,r=>by
    cases x
    obtain ⟨t,rfl⟩:=r
    exact ⟨_,ReadsW.str s t⟩
  | .bytes b,_,_,x,r=>by
    cases x
    obtain ⟨t,rfl⟩:=r
    exact ⟨_,ReadsW.bytes _ t⟩
  | .list ds,_,_,x,r=>by
    cases x with
    | lst hs ha =>
      cases r
      obtain ⟨its,o,n,rv,ho,hc,hd⟩:=sqL_at hok KX hs
      obtain ⟨as,hr⟩:=Dw.readsAll hok KX ds _ its ha rv
      exact ⟨_,ReadsW.list ho hc hd hr⟩
  | .tuple ds,_,_,x,r=>by
    cases x with
    | tup hs ha =>
      cases r
      obtain ⟨its,o,n,rv,ho,hc,hd⟩:=sqT_at hok KX hs
      obtain ⟨as,hr⟩:=Dw.readsAll hok KX ds _ its ha rv
      exact ⟨_,ReadsW.tuple ho hc hd hr⟩
  | .float _,_,_,x,_=>by cases x
  | .dict _,_,_,x,_=>by cases x
  | .bytearray _,_,_,x,_=>by cases x
  | .set _,_,_,x,_=>by cases x
  | .frozenset _,_,_,x,_=>by cases x
  | .obj _ _,_,_,x,_=>by cases x
theorem Dw.readsAll (hok:HOk P w H h) (KX:K.In h):∀ (ds:List WData) (vs:List V) (us:List Value),DwAll K H vs ds -> Vals vs us -> ∃ as,ReadsAllW R cl h us ds as
  | [],_,_,x,r=>by
    cases x
    cases r
    exact ⟨_,ReadsAllW.nil⟩
  | d :: ds,_,_,x,r=>by
    cases x with
    | cons h1 h2 =>
      cases r with
      | cons r1 r2 =>
        obtain ⟨as,q1⟩:=Dw.reads hok KX d _ _ h1 r1
        obtain ⟨bs,q2⟩:=Dw.readsAll hok KX ds _ _ h2 r2
        exact ⟨_,ReadsAllW.cons q1 q2⟩
end
end
mutual
/-- data that a codec tells -/
def plW:WData -> Bool
  | .none=>true
  | .bool _=>true
  | .int _=>true
  | .str _=>true
  | .bytes _=>true
  | .list xs=>plWs xs
  | .tuple xs=>plWs xs
  | _=>false
def plWs:List WData -> Bool
  | []=>true
  | x :: r=>plW x && plWs r
end
theorem plWs_map {α:Type} {f:α -> WData} (h:∀ a,plW (f a) = true):∀ l:List α,plWs (l.map f) = true
  | []=>rfl
  | x :: r=>by
    show (plW (f x) && plWs (r.map f)) = true
    rw [h x,plWs_map h r] <;> rfl
theorem pl_enc:∀ (c:Codec) (a:c.denote),plW (c.enc a) = true
  | .unit,_=>rfl
  | .bool,_=>rfl
  | .int _ _,_=>rfl
  | .nat _ _,_=>rfl
  | .u8,_=>rfl
  | .bytes _ _,_=>rfl
  | .text _ _ _ _,_=>rfl
  | .list _ _ c,a=>plWs_map (fun x=>pl_enc c x) a
  | .pair c d,a=>by
    show (plW (c.enc a.1) && (plW (d.enc a.2) && true)) = true
    rw [pl_enc c a.1,pl_enc d a.2] <;> rfl
  | .triple c d e,a=>by
    show (plW (c.enc a.1) && (plW (d.enc a.2.1) && (plW (e.enc a.2.2) && true))) = true
    rw [pl_enc c a.1,pl_enc d a.2.1,pl_enc e a.2.2] <;> rfl
  | .option c,none=>rfl
  | .option c,some x=>pl_enc c x
theorem pl_encAll:∀ (cs:List Codec) (a:Codec.denoteAll cs),plWs (Codec.encAll cs a) = true
  | [],_=>rfl
  | c :: cs,a=>by
    show (plW (c.enc a.1) && plWs (Codec.encAll cs a.2)) = true
    rw [pl_enc c a.1,pl_encAll cs a.2] <;> rfl
theorem weight_mem:∀ {xs:List WData} {d:WData},d ∈ xs -> d.weight <= WData.weightAll xs
  | [],d,h=>absurd h (by simp)
  | x :: r,d,h=>by
    show d.weight <= x.weight + 1 + WData.weightAll r
    rcases List.mem_cons.mp h with e | m
    · rw [e]
      omega
    · have z:=weight_mem m
      omega
def toV:Value -> V
  | .none=>.non
  | .bool b=>.bl b
  | .int i _=>.int i
  | .str x _=>.str x
  | .bytes b _=>.byt b
  | .ref a=>.ref a
  | _=>.non
def OkU (A:List Addr):Value -> Prop
  | .none=>True
  | .bool _=>True
  | .int _ _=>True
  | .str _ _=>True
  | .bytes _ _=>True
  | .ref a=>a ∈ A
  | _=>False
theorem OkU.mono {A B:List Addr} (h:∀ a ∈ A,a ∈ B):∀ {u:Value},OkU A u -> OkU B u:=fun {u} x=>by
  cases u with
  | ref a=>exact h a x
  | none=>trivial
  | bool b=>trivial
  | int i t=>trivial
  | str s t=>trivial
  | bytes b t=>trivial
  | _=>exact False.elim x
theorem relV_toV {A:List Addr} {u:Value} (x:OkU A u):RelV (toV u) u:=by
  cases u with
  | ref a=>rfl
  | none=>rfl
  | bool b=>rfl
  | int i t=>exact ⟨t,rfl⟩
  | str s t=>exact ⟨t,rfl⟩
  | bytes b t=>exact ⟨t,rfl⟩
  | _=>exact False.elim x
theorem vals_toV {A:List Addr}:∀ {vs:List Value},(∀ u ∈ vs,OkU A u) -> Vals (vs.map toV) vs
  | [],_=>.nil
  | u :: r,h=>.cons (relV_toV (h u (List.mem_cons_self ..))) (vals_toV fun x hx=>h x (List.mem_cons_of_mem _ hx))
def ArgOb (h:Heap) (A:List Addr) (a:Addr):Prop:=∃ vs:List Value,vs.length <= sizeLine /\ (∀ u ∈ vs,OkU A u) ∧
  (h.get? a = some { cls:=.type "list",data:=.seq vs.toArray } \/ h.get? a = some { cls:=.type "tuple",data:=.seq vs.toArray })
theorem ArgOb.mono {h:Heap} {A B:List Addr} {a:Addr} (k:∀ a ∈ A,a ∈ B) (x:ArgOb h A a):ArgOb h B a:=by
  obtain ⟨vs,h1,h2,h3⟩:=x
  exact ⟨vs,h1,fun u hu=>(h2 u hu).mono k,h3⟩
theorem wellAll_len {P:Params} {h:Heap}:∀ {vs:List Value} {ds:List WData},WellAll P h vs ds -> vs.length = ds.length
  | _,_,.nil=>rfl
  | _,_,.cons _ b=>by
    show _ + 1 = _ + 1
    rw [wellAll_len b]
theorem well_list {P:Params} {h:Heap} {v:Value} {ds:List WData} (x:Well P h v (.list ds)):∃ (a:Addr) (vs:List Value),v = .ref a /\ h.get? a = some { cls:=.type "list",data:=.seq vs.toArray } /\ WellAll P h vs ds:=by
  cases x with
  | list ho hall=>exact ⟨_,_,rfl,ho,hall⟩
theorem well_tuple {P:Params} {h:Heap} {v:Value} {ds:List WData} (x:Well P h v (.tuple ds)):∃ (a:Addr) (vs:List Value),v = .ref a /\ h.get? a = some { cls:=.type "tuple",data:=.seq vs.toArray } /\ WellAll P h vs ds:=by
  cases x with
  | tuple ho hall=>exact ⟨_,_,rfl,ho,hall⟩
theorem well_cons {P:Params} {h:Heap} {us:List Value} {d:WData} {ds:List WData} (x:WellAll P h us (d :: ds)):∃ (v:Value) (vs:List Value),us = v :: vs /\ Well P h v d /\ WellAll P h vs ds:=by
  cases x with
  | cons a b=>exact ⟨_,_,rfl,a,b⟩
theorem line_of {n:Nat} (h:n <= 1048576):n <= sizeLine:=Nat.le_trans h (by decide)
section
variable {P:Params} {h:Heap}
mutual
theorem area_one:∀ (d:WData) (v:Value),Well P h v d -> plW d = true -> d.weight <= 1048576 -> ∃ A:List Addr,OkU A v /\ ∀ a ∈ A,ArgOb h A a
  | .none,_,x,_,_=>by
    cases x
    exact ⟨[],trivial,fun a m=>absurd m (by simp)⟩
  | .bool b,_,x,_,_=>by
    cases x
    exact ⟨[],trivial,fun a m=>absurd m (by simp)⟩
  | .int i,_,x,_,_=>by
    cases x
    exact ⟨[],trivial,fun a m=>absurd m (by simp)⟩
  | .str s,_,x,_,_=>by
    cases x
    exact ⟨[],trivial,fun a m=>absurd m (by simp)⟩
  | .bytes b,_,x,_,_=>by
    cases x
    exact ⟨[],trivial,fun a m=>absurd m (by simp)⟩
  | .list ds,_,x,p,z=>by
    obtain ⟨a,vs,rfl,ho,hall⟩:=well_list x
    have z2:WData.weightAll ds <= 1048576:=z
    obtain ⟨A,h1,h2⟩:=area_all ds _ hall p fun d hd=>Nat.le_trans (weight_mem hd) z2
    have k:∀ b ∈ A,b ∈ a :: A:=fun b hb=>List.mem_cons_of_mem _ hb
    refine ⟨a :: A,List.mem_cons_self ..,fun b hb=>?_⟩
    rcases List.mem_cons.mp hb with e | m
    · rw [e]
      exact ⟨vs,line_of (by rw [wellAll_len hall]; exact Nat.le_trans (PySem.W.length_le_weightAllW ds) z2),fun u hu=>(h1 u hu).mono k,.inl ho⟩
    · exact (h2 b m).mono k
  | .tuple ds,_,x,p,z=>by
    obtain ⟨a,vs,rfl,ho,hall⟩:=well_tuple x
    have z2:WData.weightAll ds <= 1048576:=z
    obtain ⟨A,h1,h2⟩:=area_all ds _ hall p fun d hd=>Nat.le_trans (weight_mem hd) z2
    have k:∀ b ∈ A,b ∈ a :: A:=fun b hb=>List.mem_cons_of_mem _ hb
    refine ⟨a :: A,List.mem_cons_self ..,fun b hb=>?_⟩
    rcases List.mem_cons.mp hb with e | m
    · rw [e]
      exact ⟨vs,line_of (by rw [wellAll_len hall]; exact Nat.le_trans (PySem.W.length_le_weightAllW ds) z2),fun u hu=>(h1 u hu).mono k,.inr ho⟩
    · exact (h2 b m).mono k
  | .float _,_,_,p,_=>Bool.noConfusion (show false = true from p)
  | .dict _,_,_,p,_=>Bool.noConfusion (show false = true from p)
  | .bytearray _,_,_,p,_=>Bool.noConfusion (show false = true from p)
  | .set _,_,_,p,_=>Bool.noConfusion (show false = true from p)
  | .frozenset _,_,_,p,_=>Bool.noConfusion (show false = true from p)
  | .obj _ _,_,_,p,_=>Bool.noConfusion (show false = true from p)
theorem area_all:∀ (ds:List WData) (vs:List Value),WellAll P h vs ds -> plWs ds = true -> (∀ d ∈ ds,d.weight <= 1048576) -> ∃ A:List Addr,(∀ u ∈ vs,OkU A u) /\ ∀ a ∈ A,ArgOb h A a
  | [],_,x,_,_=>by
    cases x
    exact ⟨[],fun u m=>absurd m (by simp),fun a m=>absurd m (by simp)⟩
  | d :: ds,_,x,p,z=>by
    obtain ⟨v,vs,rfl,x1,x2⟩:=well_cons x
    have q:plW d = true /\ plWs ds = true:=Bool.and_eq_true_iff.mp p
    obtain ⟨A,a1,a2⟩:=area_one d v x1 q.1 (z d (List.mem_cons_self ..))
    obtain ⟨B,b1,b2⟩:=area_all ds vs x2 q.2 fun e he=>z e (List.mem_cons_of_mem _ he)
    have kA:∀ b ∈ A,b ∈ A ++ B:=fun b hb=>List.mem_append.mpr (.inl hb)
    have kB:∀ b ∈ B,b ∈ A ++ B:=fun b hb=>List.mem_append.mpr (.inr hb)
    refine ⟨A ++ B,fun u hu=>?_,fun b hb=>?_⟩
    · rcases List.mem_cons.mp hu with e | m
      · rw [e]
        exact a1.mono kA
      · exact (b1 u m).mono kB
    · rcases List.mem_append.mp hb with m | m
      · exact (a2 b m).mono kA
      · exact (b2 b m).mono kB
end
end
def hoOf (o:Obj):Option HO:=match o.data with
  | .seq vs _=>if (o.cls == Value.type "list") = true then some (.frz o (.lst (vs.toList.map toV))) else some (.frz o (.tup (vs.toList.map toV)))
  | _=>none
def argH (K:PySem.W.Frag) (h:Heap) (A:List Addr):Hp:=fun b=>if b ∈ A then (if (K.lookup b).isNone = true then (h.get? b).bind hoOf else none) else none
def OnlyF (H:Hp):Prop:=∀ b,H b = none \/ ∃ o u,H b = some (.frz o u)
theorem hoOf_lst (vs:List Value):hoOf { cls:=.type "list",data:=.seq vs.toArray } = some (.frz { cls:=.type "list",data:=.seq vs.toArray } (.lst (vs.map toV))):=by
  show (if (Value.type "list" == Value.type "list") = true then some (HO.frz { cls:=.type "list",data:=.seq vs.toArray } (.lst (vs.toArray.toList.map toV))) else some (HO.frz { cls:=.type "list",data:=.seq vs.toArray } (.tup (vs.toArray.toList.map toV)))) = _
  rw [if_pos (beq_self_eq_true _)]
theorem hoOf_tup (vs:List Value):hoOf { cls:=.type "tuple",data:=.seq vs.toArray } = some (.frz { cls:=.type "tuple",data:=.seq vs.toArray } (.tup (vs.map toV))):=by
  show (if (Value.type "tuple" == Value.type "list") = true then some (HO.frz { cls:=.type "tuple",data:=.seq vs.toArray } (.lst (vs.toArray.toList.map toV))) else some (HO.frz { cls:=.type "tuple",data:=.seq vs.toArray } (.tup (vs.toArray.toList.map toV)))) = _
  rw [if_neg (by decide)]
section
variable {P:Program} {w:World} {K:PySem.W.Frag} {h:Heap} {A:List Addr}
theorem argH_at {b:Addr} {o:Obj} (hb:b ∈ A) (hk:K.lookup b = none) (e:h.get? b = some o):argH K h A b = hoOf o:=by
  unfold argH
  rw [if_pos hb,hk,if_pos (show (none:Option Obj).isNone = true from rfl),e] <;> rfl
theorem of_argH {b:Addr} {u:HO} (q:argH K h A b = some u):b ∈ A /\ K.lookup b = none:=by
  unfold argH at q
  by_cases hb:b ∈ A
  · rw [if_pos hb] at q
    cases hk:K.lookup b with
    | none=>exact ⟨hb,rfl⟩
    | some o =>
      rw [hk,if_neg (by simp)] at q
      cases q
  · rw [if_neg hb] at q
    cases q
theorem argH_is (ar:∀ a ∈ A,ArgOb h A a) {b:Addr} {u:HO} (q:argH K h A b = some u):K.lookup b = none /\ ∃ vs:List Value,vs.length <= sizeLine /\ (∀ u ∈ vs,OkU A u) ∧
    ((h.get? b = some { cls:=.type "list",data:=.seq vs.toArray } /\ u = .frz { cls:=.type "list",data:=.seq vs.toArray } (.lst (vs.map toV))) ∨
     (h.get? b = some { cls:=.type "tuple",data:=.seq vs.toArray } /\ u = .frz { cls:=.type "tuple",data:=.seq vs.toArray } (.tup (vs.map toV)))):=by
  obtain ⟨hb,hk⟩:=of_argH q
  obtain ⟨vs,h1,h2,h3⟩:=ar b hb
  refine ⟨hk,vs,h1,h2,?_⟩
  rcases h3 with e | e
  · rw [argH_at hb hk e,hoOf_lst] at q
    exact .inl ⟨e,(Option.some.inj q).symm⟩
  · rw [argH_at hb hk e,hoOf_tup] at q
    exact .inr ⟨e,(Option.some.inj q).symm⟩
theorem argH_only (ar:∀ a ∈ A,ArgOb h A a):OnlyF (argH K h A):=fun b=>by
  cases q:argH K h A b with
  | none=>exact .inl rfl
  | some u =>
    obtain ⟨_,vs,_,_,⟨_,e⟩ | ⟨_,e⟩⟩:=argH_is ar q
    · exact .inr ⟨_,_,by rw [e]⟩
    · exact .inr ⟨_,_,by rw [e]⟩
theorem argH_ok (ar:∀ a ∈ A,ArgOb h A a):HOk P w (argH K h A) h:=fun b u q=>by
  obtain ⟨_,vs,h1,h2,⟨e,rfl⟩ | ⟨e,rfl⟩⟩:=argH_is ar q
  · exact ⟨e,by rw [List.length_map]; exact h1,vs,_,vals_toV h2,e⟩
  · exact ⟨e,by rw [List.length_map]; exact h1,vs,vals_toV h2,_,e,rfl,_,rfl⟩
theorem seq_inj {c c':Value} {vs us:List Value} (e:(some { cls:=c,data:=.seq vs.toArray }:Option Obj) = some { cls:=c',data:=.seq us.toArray }):c = c' /\ vs = us:=by
  have e1:=Option.some.inj e
  have e2:c = c':=congrArg Obj.cls e1
  have e3:Data.seq vs.toArray = Data.seq us.toArray:=congrArg Obj.data e1
  injection e3 with e4
  refine ⟨e2,?_⟩
  have e5:=congrArg Array.toList e4
  simpa using e5
theorem argL (KX:K.In h) (ar:∀ a ∈ A,ArgOb h A a) {a:Addr} {vs:List Value} (ha:a ∈ A) (e:h.get? a = some { cls:=.type "list",data:=.seq vs.toArray }):(∀ u ∈ vs,OkU A u) /\ SqL K (argH K h A) a (vs.map toV):=by
  obtain ⟨us,h1,h2,h3⟩:=ar a ha
  have hu:us = vs:=by
    rcases h3 with q | q
    · rw [e] at q
      exact (seq_inj q).2.symm
    · rw [e] at q
      exact absurd (Value.type.inj (seq_inj q).1) (by decide)
  subst hu
  refine ⟨h2,?_⟩
  cases hk:K.lookup a with
  | none=>exact .inl (.inr ⟨_,by rw [argH_at ha hk e,hoOf_lst]⟩)
  | some o =>
    have e2:=KX a o hk
    rw [e] at e2
    obtain rfl:=Option.some.inj e2
    exact .inr ⟨_,us.toArray,_,hk,rfl,rfl,rfl,by rw [List.size_toArray]; exact h1,by simpa using vals_toV h2⟩
theorem argT (KX:K.In h) (ar:∀ a ∈ A,ArgOb h A a) {a:Addr} {vs:List Value} (ha:a ∈ A) (e:h.get? a = some { cls:=.type "tuple",data:=.seq vs.toArray }):(∀ u ∈ vs,OkU A u) /\ SqT K (argH K h A) a (vs.map toV):=by
  obtain ⟨us,h1,h2,h3⟩:=ar a ha
  have hu:us = vs:=by
    rcases h3 with q | q
    · rw [e] at q
      exact absurd (Value.type.inj (seq_inj q).1) (by decide)
    · rw [e] at q
      exact (seq_inj q).2.symm
  subst hu
  refine ⟨h2,?_⟩
  cases hk:K.lookup a with
  | none=>exact .inl (.inr ⟨_,by rw [argH_at ha hk e,hoOf_tup]⟩)
  | some o =>
    have e2:=KX a o hk
    rw [e] at e2
    obtain rfl:=Option.some.inj e2
    exact .inr ⟨_,us.toArray,_,hk,rfl,rfl,by rw [List.size_toArray]; exact h1,by simpa using vals_toV h2⟩
mutual
theorem dw_one {Pm:Params} (KX:K.In h) (ar:∀ a ∈ A,ArgOb h A a):∀ (d:WData) (v:Value),Well Pm h v d -> plW d = true -> OkU A v -> Dw K (argH K h A) (toV v) d
  | .none,_,x,_,_=>by
    cases x
    exact .non
  | .bool b,_,x,_,_=>by
    cases x
    exact .bl b
  | .int i,_,x,_,_=>by
    cases x
    exact .int i
  | .str s,_,x,_,_=>by
    cases x
    exact .str s
  | .bytes b,_,x,_,_=>by
    cases x
    have z:=Dw.byt (K:=K) (H:=argH K h A) b.toArray
    exact z
  | .list ds,_,x,p,hu=>by
    obtain ⟨a,vs,rfl,ho,hall⟩:=well_list x
    obtain ⟨h2,hs⟩:=argL KX ar hu ho
    exact .lst hs (dw_all KX ar ds _ hall p h2)
  | .tuple ds,_,x,p,hu=>by
    obtain ⟨a,vs,rfl,ho,hall⟩:=well_tuple x
    obtain ⟨h2,hs⟩:=argT KX ar hu ho
    exact .tup hs (dw_all KX ar ds _ hall p h2)
  | .float _,_,_,p,_=>Bool.noConfusion (show false = true from p)
  | .dict _,_,_,p,_=>Bool.noConfusion (show false = true from p)
  | .bytearray _,_,_,p,_=>Bool.noConfusion (show false = true from p)
  | .set _,_,_,p,_=>Bool.noConfusion (show false = true from p)
  | .frozenset _,_,_,p,_=>Bool.noConfusion (show false = true from p)
  | .obj _ _,_,_,p,_=>Bool.noConfusion (show false = true from p)
theorem dw_all {Pm:Params} (KX:K.In h) (ar:∀ a ∈ A,ArgOb h A a):∀ (ds:List WData) (vs:List Value),WellAll Pm h vs ds -> plWs ds = true -> (∀ u ∈ vs,OkU A u) -> DwAll K (argH K h A) (vs.map toV) ds
  | [],_,x,_,_=>by
    cases x
    exact .nil
  | d :: ds,_,x,p,hu=>by
    obtain ⟨v,vs,rfl,x1,x2⟩:=well_cons x
    have q:plW d = true /\ plWs ds = true:=Bool.and_eq_true_iff.mp p
    exact .cons (dw_one KX ar d v x1 q.1 (hu _ (List.mem_cons_self ..))) (dw_all KX ar ds vs x2 q.2 fun u m=>hu u (List.mem_cons_of_mem _ m))
end
end
theorem spec_call {P:Program} {w:World} {K:PySem.W.Frag} {mg mb:Str -> Option Value} {CX:CXT} {k:Nat} {fa:Addr} {fd:FuncData} {ps:List Str} {sp:Sp} {s₁:Shared} {vals:List Value} {ds:List WData} {R:PySem.W.WRecords} {cl:Str -> Option Addr} {d0:WData}
    (KX:K.In s₁.heap) (hns:s₁.heap.Ns mainGlobals mg) (hb:s₁.heap.Ns builtinsNs mb) (hbb:∀ x:Str,x ≠ "__name__" -> mb x = bootBuiltins x) (hlim:s₁.heap.NoLimit) (hg:s₁.gens = #[])
    (hwl:WellAll w.params s₁.heap vals ds) (hpl:plWs ds = true) (hwt:∀ d ∈ ds,d.weight <= 1048576) (hr:Room k callerA)
    (F:∀ base:Heap,K.In base -> base.Ns mainGlobals mg -> FnOk P w K mg base CX k fa fd ps sp) (hbind:∀ (s:Shared) (us:List Value),us.length = ps.length -> BindsTo s fd ⟨us,[]⟩ (ps.zip us)) (hlen:ds.length = ps.length)
    (hsp:∀ (H:Hp) (xs:List V),OnlyF H -> DwAll K H xs ds -> sp xs H (fun v H'=>Dw K H' v d0) fun _ _ _=>False)
    (hCX:∀ H e s',CX [] H s₁ (fun _ _ _=>False) e s' -> False) :
    codeAny (model P w) callerA (.call (.ref fa) ⟨vals,[]⟩) (fun r s'=>∃ u as,r = .ok (.ret u) /\ ReadsW R cl s'.heap u d0 as /\ OldK s₁.heap s'.heap /\ s'.os = s₁.os /\ AllBare s'.gens) s₁:=by
  obtain ⟨A,ho,ar⟩:=area_all ds vals hwl hpl hwt
  have hO:OnlyF (argH K s₁.heap A):=argH_only ar
  have hok:HOk P w (argH K s₁.heap A) s₁.heap:=argH_ok ar
  have hS:=dw_all KX ar ds vals hwl hpl ho
  have hV:=vals_toV ho
  have hK:∀ b u,argH K s₁.heap A b = some u -> K.lookup b = none:=fun b u q=>(argH_is ar q).1
  have noA:∀ {b:Addr} {o:Obj} {es:Array DictEntry} {ep:Nat},s₁.heap.get? b = some o -> o.data = .dict es ep -> argH K s₁.heap A b = none:=fun {b o es ep} e d=>by
    cases q:argH K s₁.heap A b with
    | none=>rfl
    | some u =>
      obtain ⟨_,vs,_,_,⟨e2,_⟩ | ⟨e2,_⟩⟩:=argH_is ar q
      · rw [e2] at e
        cases e
        have d':Data.seq vs.toArray _ = Data.dict es ep:=d
        cases d'
      · rw [e2] at e
        cases e
        have d':Data.seq vs.toArray _ = Data.dict es ep:=d
        cases d'
  generalize argH K s₁.heap A = H at hO hok hS hK noA
  have base_of:∀ {b:Addr} {o:Obj},s₁.heap.get? b = some o -> H b = none -> (hidT s₁.heap H).get? b = some o:=fun e n=>hidT_get e n
  have nsK:∀ {b:Addr} {m:Str -> Option Value},s₁.heap.Ns b m -> (hidT s₁.heap H).Ns b m:=fun {b m} ⟨o,es,ep,e,d,r⟩=>⟨o,es,ep,base_of e (noA e d),d,r⟩
  have nK:∀ b o,K.lookup b = some o -> H b = none:=fun b o e=>by
    cases q:H b with
    | none=>rfl
    | some u =>
      rw [hK b u q] at e
      cases e
  have hKb:K.In (hidT s₁.heap H):=fun b o e=>base_of (KX b o e) (nK b o e)
  have hM:Mod K mg (hidT s₁.heap H):=⟨hKb,nsK hns,⟨mb,nsK hb,hbb⟩,let ⟨mc,h1,h2⟩:=hlim; ⟨mc,nsK h1,h2⟩⟩
  have e0:Env0 P w K mg (hidT s₁.heap H) callerA [] s₁ H:=⟨rfl,hM,fun b o e=>of_hidT e,Nat.le_of_eq (hidT_size _ _),trivial,fun b hb=>absurd (show b ∈ ([]:List Addr) from hb) (by simp),hok,.of_eq hg⟩
  have hl:vals.length = ps.length:=by rw [wellAll_len hwl]; exact hlen
  refine codeAny_mono ((F _ hKb (nsK hns)).run callerA [] s₁ H ⟨vals,[]⟩ vals (vals.map toV) _ _ hr e0 (hbind s₁ vals hl) hV (hsp H _ hO hS)) fun r s' x=>?_
  cases r with
  | error e=>exact (hCX H e s' x).elim
  | ok fl =>
    cases fl with
    | next=>exact False.elim x
    | brk=>exact False.elim x
    | cont=>exact False.elim x
    | ret u =>
      obtain ⟨v,H',os,bare,un,hok',r',q⟩:=x
      have kept:∀ b o,s₁.heap.get? b = some o -> s'.heap.get? b = some o:=fun b o e=>by
        cases q2:H b with
        | none=>exact un.keep b o e q2 (by intro z; exact absurd (show b ∈ ([]:List Addr) from z) (by simp)) (by simp)
        | some u2 =>
          rcases hO b with z | ⟨ob,u3,z⟩
          · rw [q2] at z
            cases z
          · have z2:=un.frzs b ob _ z
            obtain ⟨e1,_⟩:=hok b _ z
            obtain ⟨e2,_⟩:=hok' b _ z2
            rw [e] at e1
            cases e1
            exact e2
      have KX':K.In s'.heap:=fun b o e=>kept b o (KX b o e)
      obtain ⟨as,hrd⟩:=Dw.reads (R:=R) (cl:=cl) hok' KX' d0 v u q r'
      exact ⟨u,as,rfl,hrd,OldK.of_keep kept,os,bare⟩
theorem layable_weight {ds:List WData} (h:WData.layableAll ds = true):∀ d ∈ ds,d.weight <= 1048576:=fun d hd =>
  (PySem.W.layableW_iff.mp (List.all_eq_true.mp h d hd)).2.2
theorem encAll_len:∀ (cs:List Codec) (a:Codec.denoteAll cs),(Codec.encAll cs a).length = cs.length
  | [],_=>rfl
  | c :: cs,a=>by
    show (Codec.encAll cs a.2).length + 1 = cs.length + 1
    rw [encAll_len cs a.2]
theorem walk_spec {r:OpenSpec} {k:Nat} {q:Program} {loose:List Str} {XP:(Str -> Option Value) -> Heap -> Prop} {YP:World -> Heap -> Prop} {d:DefRec} {K:Params -> PySem.W.Frag} {CX:World -> CXT} {ps:List Str} {sp:World -> Sp}
    (hwell:r.wellSaid = true) (hdf:d.params.defaults = []) (hlen:r.args.length = ps.length) (hr:Room k callerA)
    (hY:∀ (w:World) (h:Heap),YP w h -> (K w.params).In h)
    (F:∀ (w:World) (mg:Str -> Option Value) (fa:Addr) (h:Heap),YP w h -> (K w.params).In h -> h.Ns mainGlobals mg -> mg d.name = some (.ref fa) →
      ∃ fd:FuncData,(∀ (s:Shared) (us:List Value),us.length = ps.length -> BindsTo s fd ⟨us,[]⟩ (ps.zip us)) ∧
        ∀ base:Heap,(K w.params).In base -> base.Ns mainGlobals mg -> FnOk r.prog w (K w.params) mg base (CX w) k fa fd ps (sp w))
    (hsp:∀ (w:World) (H:Hp) (xs:List V) (a:Codec.denoteAll r.args),OnlyF H -> Codec.withinAll r.args a = true -> Codec.app r.args r.asked a = true -> DwAll (K w.params) H xs (Codec.encAll r.args a) →
      sp w xs H (fun v H'=>Dw (K w.params) H' v (r.ret.enc (Codec.app r.args r.f a))) fun _ _ _=>False)
    (hCX:∀ (w:World) (H:Hp) (s:Shared) (e:Value) (s':Shared),CX w [] H s (fun _ _ _=>False) e s' -> False) :
    PySem.W.WalkOS q loose XP YP r d [] (fun f vs=>PySem.call f vs):=by
  intro w s_0 s₁ mg mb G Y fa o pm cd doc dV kV ho hd hcd hD hmg hg args vals as hpre hlay hrd hwl hlo
  obtain ⟨a,e1,e2⟩:=PySem.W.os_pre_some hpre
  obtain ⟨e3,hwi⟩:=Codec.encAll_of_decAll r.args args a e1
  subst e3
  have KX:=hY w _ Y
  obtain ⟨fd,hb,hF⟩:=F w mg fa _ Y KX G.T.g hmg
  refine PySem.W.enter_call (codeAny_mono (spec_call (R:=[]) (cl:=classAt s_0.heap) (d0:=r.ret.enc (Codec.app r.args r.f a)) KX G.T.g G.T.b G.T.builtins G.T.nolimit hg hwl (pl_encAll _ _) (layable_weight hlay) hr hF hb (by rw [encAll_len]; exact hlen)
    (fun H xs hO hS=>hsp w H xs a hO hwi e2 hS) fun H e s'=>hCX w H s₁ e s') fun r' s' hq=>?_)
  obtain ⟨u,as',rfl,h1,h2,h3,h4⟩:=hq
  exact ⟨.inl ⟨u,_,as',rfl,fun _=>rfl,h1,(OpenSpec.post_iff hwell hwi _ _).mpr rfl,fun z=>Bool.noConfusion (show false = true from z)⟩,h2,h3,h4⟩
theorem walk_specK {r:OpenSpec} {k:Nat} {q:Program} {loose:List Str} {XP:(Str -> Option Value) -> Heap -> Prop} {YP:World -> Heap -> Prop} {d:DefRec} {K:Params -> PySem.W.Frag} {CX:CXT} {ps:List Str} {sp:PySem.W.Frag -> Sp}
    (hwell:r.wellSaid = true) (hdf:d.params.defaults = []) (hlen:r.args.length = ps.length) (hr:Room k callerA)
    (hY:∀ (w:World) (h:Heap),YP w h -> (K w.params).In h)
    (F:∀ (w:World) (mg:Str -> Option Value) (fa:Addr) (h:Heap),YP w h -> (K w.params).In h -> h.Ns mainGlobals mg -> mg d.name = some (.ref fa) →
      ∃ fd:FuncData,(∀ (s:Shared) (us:List Value),us.length = ps.length -> BindsTo s fd ⟨us,[]⟩ (ps.zip us)) ∧
        ∀ base:Heap,(K w.params).In base -> base.Ns mainGlobals mg -> FnOk r.prog w (K w.params) mg base CX k fa fd ps (sp (K w.params)))
    (hsp:∀ (K:PySem.W.Frag) (H:Hp) (xs:List V) (a:Codec.denoteAll r.args),OnlyF H -> Codec.withinAll r.args a = true -> Codec.app r.args r.asked a = true -> DwAll K H xs (Codec.encAll r.args a) →
      sp K xs H (fun v H'=>Dw K H' v (r.ret.enc (Codec.app r.args r.f a))) fun _ _ _=>False)
    (hCX:∀ (H:Hp) (s:Shared) (e:Value) (s':Shared),CX [] H s (fun _ _ _=>False) e s' -> False) :
    PySem.W.WalkOS q loose XP YP r d [] (fun f vs=>PySem.call f vs) :=
  walk_spec (K:=K) (CX:=fun _=>CX) (sp:=fun w=>sp (K w.params)) hwell hdf hlen hr hY F (fun w H xs a h1 h2 h3 h4=>hsp (K w.params) H xs a h1 h2 h3 h4) fun _ H s e s'=>hCX H s e s'
end L2
end
set_option Elab.async false
set_option linter.all false
set_option maxRecDepth 100000
set_option maxHeartbeats 4000000
section
namespace L2
open PySem PySem.Spec PyProof.Rows
section
open AutoSeq1  (wpAny_loadPart')
open SeqRoads2 MeetsSeq3 MeetsSeq2 MeetsSeq
theorem rm_loop (l:Addr) (its:Array Value) (n:Nat) (x:Value) (e:Value -> Bool) (j:Nat) (hj:j < its.size) (hit:e its[j] = true) (hz:its.size <= sizeLine) (k:Nat) :
    ∀ i:Nat,j - i = k -> i <= j -> (∀ m (hm:m < its.size),i <= m -> m < j -> e its[m] = false) →
      Meets (Builtin.«list.remove.loop» ⟨[.ref l,x,rawInt i],[]⟩) fun A R s =>
        s.heap.get? l = some { cls:=.type "list",dict:=none,data:=.seq its n,slots:=#[] } /\ (∀ y,y ∈ its -> SeqAt.EqAt A.in1 s y x (e y)) ∧
          R (.ok (.ret .none)) { s with heap:=s.heap.update l (Obj.mapSeq fun v=>v.eraseIdxIfInBounds j) }:=by
  induction k with
  | zero =>
    intro i hk hij hno prog w A R s h; obtain ⟨hp,g,d,tk,os⟩:=s; obtain ⟨hl,he,h⟩:=h
    have q:i = j:=by omega
    subst q
    wp_walk using wpAny_loadPart' hl; rw [show its[((i:Nat):Int).toNat]? = some its[i] by simp [hj]]
    refine wpAny_bind (he _ (Array.getElem_mem hj) prog w _ _ ?_); rw [hit]
    wp_walk using (wpAny_updateSeq hl rfl (hz:=hz) (_hz':=Nat.le_trans (size_erased its _) (Nat.le_succ_of_le hz))),wpAny_loadPart' hl
    simpa using h
  | succ k ih =>
    intro i hk hij hno prog w A R s h; obtain ⟨hp,g,d,tk,os⟩:=s; obtain ⟨hl,he,h⟩:=h
    have hlt:i < its.size:=by omega
    wp_walk using wpAny_loadPart' hl; rw [show its[((i:Nat):Int).toNat]? = some its[i] by simp [hlt]]
    refine wpAny_bind (he _ (Array.getElem_mem hlt) prog w _ _ ?_); rw [hno i hlt (Nat.le_refl _) (by omega)]
    wp_walk
    rw [show ((i:Int) + 1) = ((i + 1:Nat):Int) by push_cast; rfl]
    refine ⟨plainId_quiet plain_remove_loop _,codeAny_builtin entry_remove_loop ?_⟩
    rw [Around.under_plainId plain_remove_loop _]; exact ih (i + 1) (by omega) (by omega) (fun m hm a b=>hno m hm (by omega) b) prog w A R _ ⟨hl,he,h⟩
theorem rm_all (l:Addr) (its:Array Value) (n:Nat) (x:Value) (e:Value -> Bool) (j:Nat) (hj:j < its.size) (hit:e its[j] = true) (hno:∀ m (hm:m < its.size),m < j -> e its[m] = false) (hz:its.size <= sizeLine) :
    Meets (Builtin.«list.remove» ⟨[.ref l,x],[]⟩) fun A R s =>
        s.heap.get? l = some { cls:=.type "list",dict:=none,data:=.seq its n,slots:=#[] } /\ (∀ y,y ∈ its -> SeqAt.EqAt A.in1 s y x (e y)) ∧
          R (.ok (.ret .none)) { s with heap:=s.heap.update l (Obj.mapSeq fun v=>v.eraseIdxIfInBounds j) }:=by
  intro prog w A R s h
  obtain ⟨hp,g,d,tk,os⟩:=s; obtain ⟨hl,he,h⟩:=h
  wp_walk using wpAny_loadPart' hl; refine ⟨plainId_quiet plain_remove_loop _,codeAny_builtin entry_remove_loop ?_⟩
  rw [Around.under_plainId plain_remove_loop _]; exact rm_loop l its n x e j hj hit hz _ 0 rfl (Nat.zero_le _) (fun m hm _ b=>hno m hm b) prog w A R _ ⟨hl,he,h⟩
theorem ext_tup (l:Addr) (its:Array Value) (n:Nat) (b:Addr) (its2:Array Value) (n2:Nat) (dd:Option Addr) (sl:Array (Option Value))
    (hs0:¬(!its.isEmpty && Builtin.List.listTooLong (its.size + its2.size)) = true) (hs1:its.size <= sizeLine) (hs2:its.size + its2.size <= sizeLine + 1) :
    Meets (Builtin.«list.extend» ⟨[.ref l,.ref b],[]⟩) fun _ R s =>
      s.heap.get? l = some { cls:=.type "list",dict:=none,data:=.seq its n,slots:=#[] } /\ s.heap.get? b = some { cls:=.type "tuple",dict:=dd,data:=.seq its2 n2,slots:=sl } ∧
        R (.ok (.ret Value.none)) { s with heap:=s.heap.update l (Obj.mapSeq fun x=>x ++ its2),toks:=s.toks } :=
  .of_wp fun prog w A R s h=>by
    obtain ⟨hp,g,d,tk,os⟩:=s; obtain ⟨hl,hb,h⟩:=h
    have f2:=AutoSeq1.sub_tuple_tuple; have f3:=AutoSeq1.sub_list_list; have f4:=AutoSeq1.sub_tuple_list; have f5:=AutoSeq1.sub_list_tuple
    have hz':(its ++ its2).size <= sizeLine + 1:=by rw [Array.size_append]; exact hs2
    wp_walk using (wpAny_updateSeq hl rfl (hz:=hs1) (_hz':=hz')),wpAny_loadPart' hl,wpAny_loadPart' hb; exact ⟨_,rfl,h⟩
end
section
variable {X:Cx}
def rRng1:List V -> Hp -> VK -> Prop:=fun xs H Q=>∃ n:Int,xs = [.int n] /\ ∀ p,H p = none -> Q (.ref p) (upd H p (.rng 0 n))
theorem call_rng1:CallR X (.type "range") rRng1:=by
  intro pins s σ H xs us Q I r h
  obtain ⟨n,rfl,q⟩:=h
  obtain ⟨u,rfl,rx⟩:=vals1 r
  obtain ⟨t,rfl⟩:=rx
  exact call_range_1 ⟨.ref s.heap.objs.size,_,I.laid (fun b o e=>Heap.get?_push_of_some _ e) (Nat.le_refl _) (show ObjOk X.prog X.w _ _ _ (.rng 0 n) from ⟨_,_,_,Heap.get?_push_size _ rfl⟩),rfl,q _ (I.hok.fresh (Nat.le_refl _))⟩
theorem vals_items:∀ {acc:List Value} {k:Nat} {n:Nat},acc.length = n -> (∀ j v,acc[j]? = some v -> ∃ t,v = Value.int ((k + j:Nat):Int) t) -> Vals ((List.range' k n).map fun i=>V.int (i:Nat)) acc
  | [],k,n,h,_=>by
    subst h
    exact .nil
  | v :: r,k,n,h,g=>by
    subst h
    obtain ⟨t,e⟩:=g 0 v rfl
    rw [List.length_cons,List.range'_succ,List.map_cons]
    refine .cons ⟨t,e⟩ (vals_items (k:=k + 1) rfl fun j w hj=>?_)
    obtain ⟨t',e'⟩:=g (j + 1) w hj
    exact ⟨t',by rw [e',show k + (j + 1) = k + 1 + j by omega]⟩
def rListRng:List V -> Hp -> VK -> Prop:=fun xs H Q=>∃ (p:Addr) (n:Nat),xs = [.ref p] /\ H p = some (.rng 0 n) /\ n <= 1000000 /\ ∀ l,H l = none -> Q (.ref l) (upd H l (.lst ((List.range n).map fun i=>V.int (i:Nat))))
theorem call_list_rng (hc:X.calm = true):CallR X (.type "list") rListRng:=by
  intro pins s σ H xs us Q I r h
  obtain ⟨p,n,rfl,hp,hn,q⟩:=h
  obtain ⟨u,rfl,rx⟩:=vals1 r
  cases rx
  obtain ⟨t,u,v,e⟩:=(show ObjOk X.prog X.w H s.heap p (.rng 0 n) from I.hok p _ hp)
  refine call_list_range (n:=n) (I.ok.hd hc) (show IsRange s.heap p 0 n 1 t u v from e) (small_one (by omega) (by omega) (by omega) (by omega)) (by rw [rangeSize_one]; split <;> omega) (Nat.le_trans hn (by decide)) fun h' tk acc c kp e' ia=>?_
  refine ⟨.ref s.heap.objs.size,_,I.laid (o:=.lst ((List.range n).map fun i=>V.int (i:Nat))) kp (Nat.le_refl _) ⟨?_,acc.toList,c,?_,by rw [Array.toArray_toList]; exact e'⟩,rfl,q _ (I.hok.fresh (Nat.le_refl _))⟩
  · rw [List.length_map,List.length_range,sizeLine_eq]; omega
  · rw [List.range_eq_range']
    refine vals_items (by rw [Array.length_toList]; exact ia.1) fun j w hj=>?_
    obtain ⟨t',e2⟩:=ia.2 j w (by rw [<- Array.getElem?_toList]; exact hj)
    exact ⟨t',by rw [e2]; congr 1; omega⟩
def Tp (ns:List Int) (H:Hp) (v:V):Prop:=∃ a,v = .ref a /\ H a = some (.tup (ns.map V.int))
theorem dp_ints {K:PySem.W.Frag} {H:Hp}:∀ ns:List Int,DpAll K H (ns.map V.int) (ns.map PyData.int)
  | []=>.nil
  | n :: r=>.cons (.int n) (dp_ints r)
theorem reads_tp {pins:List (Addr × Obj)} {σ:St} {H:Hp} {s:Shared} {ns:List Int} {v:V} {u:Value} (I:Inv X pins σ H s) (h:Tp ns H v) (r:RelV v u):∃ as,Reads s.heap u (.tuple (ns.map PyData.int)) as:=by
  obtain ⟨a,rfl,e⟩:=h
  exact Dp.reads I _ _ u (.tup (SqT.of e) (dp_ints _)) r
theorem eqv_ints:∀ ns ms:List Int,PyData.eqvAll (ns.map PyData.int) (ms.map PyData.int) = decide (ns = ms)
  | [],[]=>by simp [PyData.eqvAll]
  | [],m :: ms=>by simp [PyData.eqvAll]
  | n :: ns,[]=>by simp [PyData.eqvAll]
  | n :: ns,m :: ms=>by
    rw [List.map_cons,List.map_cons,PyData.eqvAll,PyData.eqv,eqv_ints ns ms,Bool.eq_iff_iff]
    simp
theorem eqv_tp (ns ms:List Int):PyData.eqv (.tuple (ns.map PyData.int)) (.tuple (ms.map PyData.int)) = decide (ns = ms):=by
  rw [PyData.eqv]; exact eqv_ints ns ms
theorem canLay_ints:∀ ns:List Int,PyData.canLayAll0 (ns.map PyData.int) = true
  | []=>rfl
  | n :: r=>by rw [List.map_cons,PyData.canLayAll0,canLay_ints r]; rfl
theorem depth_ints:∀ ns:List Int,PyData.depthAll (ns.map PyData.int) <= 1
  | []=>by simp [PyData.depthAll]
  | n :: r=>by
    have:=depth_ints r
    rw [List.map_cons,PyData.depthAll,PyData.depth]
    omega
theorem shaped_tp (ns:List Int):SeqAt.shaped (.tuple (ns.map PyData.int)) = true:=by
  have:=depth_ints ns
  unfold SeqAt.shaped
  rw [PyData.canLay0,canLay_ints,PyData.depth,Bool.true_and]
  exact (decide_eq_true (by omega))
def rNeT:R2:=fun x y H Q=>∃ ns ms,Tp ns H x /\ Tp ms H y /\ Q (.bl (!decide (ns = ms))) H
theorem op_neT (hu:X.A.units + 64 < cLine):OpR X (compareOp .NotEq) rNeT:=by
  intro pins s σ H x y v u Q I rx ry h
  obtain ⟨ns,ms,hx,hy,q⟩:=h
  obtain ⟨as,r1⟩:=reads_tp I hx rx
  obtain ⟨bs,r2⟩:=reads_tp I hy ry
  exact SeqAt.compareNe_shaped r1 r2 (shaped_tp _) (shaped_tp _) hu ⟨.bl _,H,I,by rw [eqv_tp]; rfl,q⟩
abbrev TpAll (H:Hp):List V -> List (List Int) -> Prop:=Paired fun v ns=>Tp ns H v
theorem reads_tps {pins:List (Addr × Obj)} {σ:St} {H:Hp} {s:Shared} {nss:List (List Int)} {ws:List V} {a:Addr} (I:Inv X pins σ H s) (h:H a = some (.lst ws)) (t:TpAll H ws nss) :
    ∃ as,Reads s.heap (.ref a) (.list (nss.map fun ns=>.tuple (ns.map PyData.int))) as:=by
  refine Dp.reads I _ (.ref a) _ (.lst (SqL.of h) ?_) rfl
  clear h
  induction t with
  | nil=>exact .nil
  | cons r _ ih =>
    obtain ⟨a,rfl,e⟩:=r
    exact .cons (.tup (SqT.of e) (dp_ints _)) ih
theorem canLay_tps:∀ nss:List (List Int),PyData.canLayAll0 (nss.map fun ns=>.tuple (ns.map PyData.int)) = true
  | []=>rfl
  | n :: r=>by rw [List.map_cons,PyData.canLayAll0,canLay_tps r,PyData.canLay0,canLay_ints]; rfl
theorem any_tps (ns:List Int):∀ nss:List (List Int),((nss.map fun ms=>PyData.tuple (ms.map PyData.int)).any fun y=>PyData.eqv y (.tuple (ns.map PyData.int))) = nss.contains ns
  | []=>rfl
  | m :: r=>by
    rw [List.map_cons,List.any_cons,eqv_tp,any_tps ns r,List.contains_cons,show (ns == m) = decide (m = ns) by rw [Bool.eq_iff_iff,beq_iff_eq,decide_eq_true_eq,eq_comm]]
def rInT:R2:=fun x y H Q=>∃ ns nss a ws,Tp ns H x /\ y = .ref a /\ H a = some (.lst ws) /\ TpAll H ws nss /\ Q (.bl (nss.contains ns)) H
def rNotInT:R2:=fun x y H Q=>∃ ns nss a ws,Tp ns H x /\ y = .ref a /\ H a = some (.lst ws) /\ TpAll H ws nss /\ Q (.bl (!nss.contains ns)) H
theorem op_inT (hu:X.A.units + 65 < cLine):OpR X (compareOp .In) rInT:=by
  intro pins s σ H x y v u Q I rx ry h
  obtain ⟨ns,nss,a,ws,hx,rfl,ha,ht,q⟩:=h
  cases ry
  obtain ⟨as,r1⟩:=reads_tp I hx rx
  obtain ⟨bs,r2⟩:=reads_tps I ha ht
  exact SeqAt.in_list_reads r2 r1 (canLay_tps _) (SeqAt.canLay_of_shaped (shaped_tp _)) (PyProof.Rows.room_in_shaped (shaped_tp _) hu) ⟨.bl _,H,I,by rw [any_tps]; rfl,q⟩
theorem op_notinT (hu:X.A.units + 65 < cLine):OpR X (compareOp .NotIn) rNotInT:=by
  intro pins s σ H x y v u Q I rx ry h
  obtain ⟨ns,nss,a,ws,hx,rfl,ha,ht,q⟩:=h
  cases ry
  obtain ⟨as,r1⟩:=reads_tp I hx rx
  obtain ⟨bs,r2⟩:=reads_tps I ha ht
  exact SeqAt.notIn_list_reads r2 r1 (canLay_tps _) (SeqAt.canLay_of_shaped (shaped_tp _)) (PyProof.Rows.room_in_shaped (shaped_tp _) hu) ⟨.bl _,H,I,by rw [any_tps]; rfl,q⟩
theorem TpAll.get {H:Hp}:∀ {ws:List V} {nss:List (List Int)} {i:Nat} {v:V},TpAll H ws nss -> ws[i]? = some v -> ∃ ns,nss[i]? = some ns /\ Tp ns H v
  | _,_,_,_,.nil,e=>by simp at e
  | _,_,0,_,.cons r _,e=>by simp at e; subst e; exact ⟨_,rfl,r⟩
  | _,_,i + 1,v,.cons _ t,e=>by
    obtain ⟨ns,h1,h2⟩:=TpAll.get (i:=i) (v:=v) t (by simpa using e)
    exact ⟨ns,by simpa using h1,h2⟩
theorem Tp.inj {H:Hp} {v:V} {ns ms:List Int} (h:Tp ns H v) (g:Tp ms H v):ns = ms:=by
  obtain ⟨a,rfl,e⟩:=h
  obtain ⟨b,q,e'⟩:=g
  cases q
  rw [e] at e'
  have z:ns.map V.int = ms.map V.int:=by
    have:=Option.some.inj e'
    exact HO.tup.inj this
  exact (List.map_inj_right (fun _ _ q=>V.int.inj q)).mp z
theorem tp_key {pins:List (Addr × Obj)} {σ:St} {H:Hp} {s:Shared} {ws:List V} {nss:List (List Int)} {its:List Value} {y:V} {u:Value} {ns:List Int} {j:Nat} (I:Inv X pins σ H s) (hu:X.A.units + 65 < cLine) (ht:TpAll H ws nss) (hy:Tp ns H y) (ru:RelV y u) (r:Vals ws its) (hl:ws.length = its.length)
    (hj:nss[j]? = some ns) (hno:∀ m,m < j -> nss[m]? ≠ some ns):∃ (f:Value -> Bool) (hjl:j < its.toArray.size),f its.toArray[j] = true /\ (∀ m (hm:m < its.toArray.size),m < j -> f its.toArray[m] = false) /\ ∀ t,t ∈ its.toArray -> SeqAt.EqAt X.A.in1 s t u (f t):=by
  classical
  obtain ⟨as,r1⟩:=reads_tp I hy ru
  have tl:ws.length = nss.length:=Paired.length ht
  have hjl:j < its.length:=by
    have:=(List.getElem?_eq_some_iff.mp hj).1
    omega
  let f:Value -> Bool:=fun t=>decide (∃ m:Nat,its[m]? = some t /\ nss[m]? = some ns)
  have key:∀ (m:Nat) (t:Value),its[m]? = some t -> SeqAt.EqAt X.A.in1 s t u (decide (nss[m]? = some ns)) /\ f t = decide (nss[m]? = some ns):=fun m t hm=>by
    have hml:m < ws.length:=by
      have:=(List.getElem?_eq_some_iff.mp hm).1
      omega
    obtain ⟨t',h1,h2⟩:=r.get (List.getElem?_eq_getElem hml)
    have et:t' = t:=Option.some.inj (h1.symm.trans hm)
    subst et
    obtain ⟨ms,h3,h4⟩:=ht.get (List.getElem?_eq_getElem hml)
    obtain ⟨bs,r2⟩:=reads_tp I h4 h2
    have eq1:decide (nss[m]? = some ns) = decide (ms = ns):=by rw [h3,Bool.eq_iff_iff]; simp
    refine ⟨?_,?_⟩
    · have x:=PySem.W.keq_at (A:=X.A) r2 r1 (shaped_tp _) (shaped_tp _) (by show X.A.units + 1 + 64 < cLine; omega)
      rw [eqv_tp] at x
      rw [eq1]
      exact x
    · rw [Bool.eq_iff_iff]
      simp only [f,decide_eq_true_eq]
      refine ⟨fun ⟨m',a,b⟩=>?_,fun a=>⟨m,hm,a⟩⟩
      have hml':m' < ws.length:=by
        have:=(List.getElem?_eq_some_iff.mp a).1
        omega
      obtain ⟨t2,h1',h2'⟩:=r.get (List.getElem?_eq_getElem hml')
      have et2:t2 = t':=Option.some.inj (h1'.symm.trans a)
      subst et2
      obtain ⟨ms',h3',h4'⟩:=ht.get (List.getElem?_eq_getElem hml')
      rw [h2'.inj h2] at h4'
      rw [h3,h4.inj h4',<- h3',b]
  refine ⟨f,by simpa using hjl,?_,fun m hm hmj=>?_,fun t hmem=>?_⟩
  · rw [show its.toArray[j]'(by simpa using hjl) = its[j] from rfl,(key j _ (List.getElem?_eq_getElem hjl)).2]
    exact decide_eq_true hj
  · have hm':m < its.length:=by simpa using hm
    rw [show its.toArray[m]'hm = its[m] from rfl,(key m _ (List.getElem?_eq_getElem hm')).2]
    exact decide_eq_false (hno m hmj)
  · obtain ⟨m,hm⟩:=List.mem_iff_getElem?.mp (show t ∈ its by simpa using hmem)
    rw [(key m t hm).2]
    exact (key m t hm).1
def rRemove:V -> List V -> Hp -> VK -> Prop:=fun x vs H Q=>∃ l ws nss y ns j,x = .ref l /\ vs = [y] /\ H l = some (.lst ws) /\ TpAll H ws nss /\ Tp ns H y /\ nss[j]? = some ns /\ (∀ m,m < j -> nss[m]? ≠ some ns) /\ Q .non (upd H l (.lst (ws.eraseIdx j)))
theorem mt_remove (hu:X.A.units + 65 < cLine):MtM X "list.remove" rRemove:=by
  intro pins s σ H x vs v us Q I rx rv h
  obtain ⟨l,ws,nss,y,ns,j,rfl,rfl,hH,ht,hy,hj,hno,q⟩:=h
  cases rx
  obtain ⟨u,rfl,ru⟩:=rv.one
  obtain ⟨z,its,n,r,hl,e⟩:=I.lstM hH
  obtain ⟨f,hjl,k1,k2,k3⟩:=tp_key I hu ht hy ru r hl hj hno
  refine call_meets F.slot_list_remove ⟨_,e,rfl⟩ F.entry_list_remove (F.args_list_remove_2 _ _) (rm_all l its.toArray n u f j hjl k1 k2 (by rw [List.size_toArray]; omega)) ⟨e,k3,?_⟩
  refine ⟨.non,_,I.lset (its':=its.eraseIdx j) hH e ?_ (r.eraseIdx j) (Nat.le_trans (len_erase _ _) z),rfl,q⟩
  have hjl':j < its.length:=by simpa using hjl
  simp [Array.eraseIdxIfInBounds,hjl']
def rIndexT:V -> List V -> Hp -> VK -> Prop:=fun x vs H Q=>∃ l ws nss y ns j,x = .ref l /\ vs = [y] /\ H l = some (.lst ws) /\ TpAll H ws nss /\ Tp ns H y /\ nss[j]? = some ns /\ (∀ m,m < j -> nss[m]? ≠ some ns) /\ Q (.int (j:Nat)) H
theorem mt_indexT (hu:X.A.units + 65 < cLine):MtR X "list.index" rIndexT:=by
  intro pins s σ H x vs v us Q I rx rv h
  obtain ⟨l,ws,nss,y,ns,j,rfl,rfl,hH,ht,hy,hj,hno,q⟩:=h
  cases rx
  obtain ⟨u,rfl,ru⟩:=rv.one
  obtain ⟨z,its,n,r,hl,e⟩:=I.lstM hH
  obtain ⟨f,hjl,k1,k2,k3⟩:=tp_key I hu ht hy ru r hl hj hno
  have hsl:=sizeLine_eq
  have hjl':j < its.length:=by simpa using hjl
  exact call_meets PySem.F.slot_list_index ⟨_,e,rfl⟩ PySem.F.entry_list_index (PySem.F.args_list_index_2 _ _) (SeqAt.list_indexAt l its.toArray n _ _ u f j hjl (by omega) k1 k2) ⟨e,k3,.int (j:Nat),H,I.tok _,⟨_,rfl⟩,q⟩
def rLen (K:PySem.W.Frag):List V -> Hp -> VK -> Prop:=fun xs H Q=>∃ p ys,xs = [.ref p] /\ (SqL K H p ys \/ SqT K H p ys) /\ Q (.int ys.length) H
theorem cr_len:CallR X (.builtin "len") (rLen X.K):=call_len_seq
def rLenS:List V -> Hp -> VK -> Prop:=fun xs H Q=>∃ z,xs = [.str z] /\ z.length <= sizeLine /\ Q (.int z.length) H
theorem cr_lenS:CallR X (.builtin "len") rLenS:=call_len_str
def rList (K:PySem.W.Frag):List V -> Hp -> VK -> Prop:=fun xs H Q=>∃ p ys,xs = [.ref p] /\ (SqL K H p ys \/ SqT K H p ys) /\ ∀ l,H l = none -> Q (.ref l) (upd H l (.lst ys))
theorem cr_list:CallR X (.type "list") (rList X.K):=call_list_of
def rTuple (K:PySem.W.Frag):List V -> Hp -> VK -> Prop:=fun xs H Q=>∃ p ys,xs = [.ref p] /\ ((SqL K H p ys /\ ∀ l,H l = none -> Q (.ref l) (upd H l (.tup ys))) \/ (SqT K H p ys /\ Q (.ref p) H))
theorem cr_tuple:CallR X (.type "tuple") (rTuple X.K):=call_tuple_of
def rMin2:List V -> Hp -> VK -> Prop:=fun xs H Q=>∃ i j,xs = [.int i,.int j] /\ Q (.int (if j < i then j else i)) H
theorem cr_min2 (hc:X.calm = true):CallR X (.builtin "min") rMin2:=call_min2 hc
def rMax2:List V -> Hp -> VK -> Prop:=fun xs H Q=>∃ i j,xs = [.int i,.int j] /\ Q (.int (if j > i then j else i)) H
theorem cr_max2 (hc:X.calm = true):CallR X (.builtin "max") rMax2:=call_max2 hc
def rExtendT:V -> List V -> Hp -> VK -> Prop:=fun x vs H Q=>∃ l b xs zs,x = .ref l /\ vs = [.ref b] /\ H l = some (.lst xs) /\ H b = some (.tup zs) /\ xs.length + zs.length <= sizeLine /\ Q .non (upd H l (.lst (xs ++ zs)))
theorem mt_extendT:MtM X "list.extend" rExtendT:=by
  intro pins s σ H x vs v us Q I rx rv h
  obtain ⟨l,b,xs,zs,rfl,rfl,hH,hB,hz,q⟩:=h
  cases rx
  obtain ⟨u,rfl,ru⟩:=rv.one
  cases ru
  obtain ⟨z,its,n,r,hl,e⟩:=I.lstM hH
  obtain ⟨z2,its2,r2,o,e2,hc,n2,hd⟩:=(show ObjOk X.prog X.w H s.heap b (.tup zs) from I.hok b _ hB)
  have hl2:=r2.length
  have hsz:its.toArray.size + its2.toArray.size <= sizeLine:=by rw [List.size_toArray,List.size_toArray]; omega
  have hlong:¬ (!its.toArray.isEmpty && Builtin.List.listTooLong (its.toArray.size + its2.toArray.size)) = true:=by
    rw [notLongL hsz,Bool.and_false]
    exact Bool.false_ne_true
  obtain ⟨oc,od,odat,osl⟩:=o
  subst hc hd
  refine call_meets F.slot_list_extend ⟨_,e,rfl⟩ F.entry_list_extend (F.args_list_extend_2 _ _)
    (ext_tup l its.toArray n b its2.toArray n2 od osl hlong (by rw [List.size_toArray]; omega) (by omega)) ⟨e,e2,?_⟩
  refine ⟨.non,_,I.lset (its':=its ++ its2) hH e (by simp) (r.append r2) ?_,rfl,q⟩
  rw [List.length_append]
  omega
end
end L2
end
section
namespace L2.FF
open PySem PySem.Spec PyProof.Rows
abbrev Pr:=Hp -> V -> Prop
theorem same_refl (H:Hp):Same H H:=fun _ _ h=>h
class Stab (P:Pr):Prop where
  st:∀ {H H':Hp} {v:V},Same H H' -> P H v -> P H' v
def I (n:Int):Pr:=fun _ v=>v = .int n
def B (b:Bool):Pr:=fun _ v=>v = .bl b
def T (x:Str):Pr:=fun _ v=>v = .str x
def Ls {α:Type} (P:α -> Pr) (xs:List α):Pr:=fun H v=>∃ a vs,v = .ref a /\ H a = some (.lst vs) /\ Paired (fun u x=>P x H u) vs xs
instance {n:Int}:Stab (I n):=⟨fun _ h=>h⟩
instance {b:Bool}:Stab (B b):=⟨fun _ h=>h⟩
instance {x:Str}:Stab (T x):=⟨fun _ h=>h⟩
instance {ns:List Int}:Stab (Tp ns):=⟨fun e ⟨a,q,h⟩=>⟨a,q,e _ _ h⟩⟩
theorem paired_st {α:Type} {P:α -> Pr} [∀ x,Stab (P x)] {H H':Hp} (e:Same H H') {vs:List V} {xs:List α} (h:Paired (fun u x=>P x H u) vs xs):Paired (fun u x=>P x H' u) vs xs :=
  Paired.imp' (F:=fun u x=>P x H u) (G:=fun u x=>P x H' u) (fun u x q=>(Stab.st e q:P x H' u)) h
instance {α:Type} {P:α -> Pr} [∀ x,Stab (P x)] {xs:List α}:Stab (Ls P xs):=⟨fun e ⟨a,vs,q,h,t⟩=>⟨a,vs,q,e _ _ h,paired_st e t⟩⟩
theorem ints_vs {H:Hp}:∀ {vs:List V} {ns:List Int},Paired (fun u n=>I n H u) vs ns -> vs = ns.map V.int
  | _,_,.nil=>rfl
  | _,_,.cons r t=>by rw [List.map_cons,<- ints_vs t,show _ = _ from r]
theorem vs_ints {H:Hp}:∀ ns:List Int,Paired (fun u n=>I n H u) (ns.map V.int) ns
  | []=>.nil
  | n :: r=>.cons rfl (vs_ints r)
theorem bls_vs {H:Hp}:∀ {vs:List V} {bs:List Bool},Paired (fun u b=>B b H u) vs bs -> vs = bs.map V.bl
  | _,_,.nil=>rfl
  | _,_,.cons r t=>by rw [List.map_cons,<- bls_vs t,show _ = _ from r]
theorem paired_ix {α β:Type} {F:α -> β -> Prop}:∀ {l:List α} {m:List β} {i:Nat} {y:β},Paired F l m -> m[i]? = some y -> ∃ x,l[i]? = some x /\ F x y
  | _,_,_,_,.nil,e=>by simp at e
  | _,_,0,_,.cons r _,e=>by simp at e; subst e; exact ⟨_,rfl,r⟩
  | _,_,i + 1,y,.cons _ t,e=>by
    obtain ⟨x,h1,h2⟩:=paired_ix (i:=i) (y:=y) t (by simpa using e)
    exact ⟨x,by simpa using h1,h2⟩
theorem paired_ix' {α β:Type} {F:α -> β -> Prop} {l:List α} {m:List β} {i:Nat} {x:α} (p:Paired F l m) (h:l[i]? = some x):∃ y,m[i]? = some y /\ F x y:=by
  have hl:=Paired.length p
  have h1:=(List.getElem?_eq_some_iff.mp h).1
  obtain ⟨x',h2,h3⟩:=paired_ix p (List.getElem?_eq_getElem (show i < m.length by omega))
  exact ⟨_,List.getElem?_eq_getElem (by omega),by rw [<- Option.some.inj (h2.symm.trans h)]; exact h3⟩
theorem paired_app {α β:Type} {F:α -> β -> Prop}:∀ {l l':List α} {m m':List β},Paired F l m -> Paired F l' m' -> Paired F (l ++ l') (m ++ m')
  | _,_,_,_,.nil,s=>s
  | _,_,_,_,.cons r t,s=>.cons r (paired_app t s)
structure Ext (Hs H Hs2 H2:Hp):Prop where
  big:Same H H2
  sub:Same Hs2 H2
  mono:Same Hs Hs2
  fr:∀ a o,Hs2 a = some o -> Hs a = some o \/ H a = none
theorem Ext.refl {Hs H:Hp} (s:Same Hs H):Ext Hs H Hs H:=⟨same_refl _,s,same_refl _,fun _ _ h=>.inl h⟩
theorem Ext.trans {Hs H Hs2 H2 Hs3 H3:Hp} (a:Ext Hs H Hs2 H2) (b:Ext Hs2 H2 Hs3 H3):Ext Hs H Hs3 H3 :=
  ⟨a.big.trans b.big,b.sub,a.mono.trans b.mono,fun c o h=>(b.fr c o h).elim (fun g=>a.fr c o g) fun g=>.inr (a.big.free g)⟩
theorem same_upd {Hs H:Hp} {p:Addr} {o:HO} (s:Same Hs H) (n:H p = none):Same Hs (upd H p o):=fun b u h=>by
  rw [upd_ne (ne_of_none (s _ _ h) n)]; exact s _ _ h
theorem Ext.alloc {Hs H:Hp} {p:Addr} (o:HO) (s:Same Hs H) (n:H p = none):Ext Hs H (upd Hs p o) (upd H p o):=by
  refine ⟨same_upd (same_refl _) n,fun b u h=>?_,same_upd (same_refl _) (s.free n),fun b u h=>?_⟩
  · by_cases e:b = p
    · subst e; rw [upd_same] at h ⊢; exact h
    · rw [upd_ne e] at h ⊢; exact s _ _ h
  · by_cases e:b = p
    · subst e; exact .inr n
    · rw [upd_ne e] at h; exact .inl h
def Ev (t:TE) (σ:St) (Hs:Hp) (P:Pr):Prop:=∀ Hs' H,Same Hs Hs' -> Same Hs' H -> ∀ Q:VK,(∀ v Hs2 H2,Ext Hs' H Hs2 H2 -> P Hs2 v -> Q v H2) -> t σ H Q
def EvT (t:TT) (σ:St) (Hs:Hp) (b:Bool):Prop:=∀ Hs' H,Same Hs Hs' -> Same Hs' H -> ∀ Q:Bool -> Hp -> Prop,(∀ Hs2 H2,Ext Hs' H Hs2 H2 -> Q b H2) -> t σ H Q
abbrev AllP (H:Hp):List V -> List Pr -> Prop:=Paired fun v P=>P H v
def EvA (t:TA) (σ:St) (Hs:Hp) (Ps:List Pr):Prop:=∀ Hs' H,Same Hs Hs' -> Same Hs' H -> ∀ Q:List V -> Hp -> Prop,(∀ vs Hs2 H2,Ext Hs' H Hs2 H2 -> AllP Hs2 vs Ps -> Q vs H2) -> t σ H Q
theorem EvA.weak {t:TA} {σ:St} {Hs Hs':Hp} {Ps:List Pr} (h:EvA t σ Hs Ps) (s:Same Hs Hs'):EvA t σ Hs' Ps:=fun G H a b=>h G H (s.trans a) b
section
variable {σ:St} {Hs:Hp} {ta tb tc:TE} {P R:Pr} {i j:Int} {K:PySem.W.Frag}
theorem Ev.imp (h:Ev ta σ Hs P) (q:∀ H v,P H v -> R H v):Ev ta σ Hs R:=fun G H a b Q k=>h G H a b Q fun v H2 H3 e p=>k v H2 H3 e (q _ _ p)
theorem Ev.int_eq (h:Ev ta σ Hs (I i)) (e:i = j):Ev ta σ Hs (I j):=e ▸ h
theorem ev_var [Stab P] {k:Nat} {v:V} (h:σ[k]? = some (some v)) (p:P Hs v):Ev (tVar k) σ Hs P:=fun G H a b Q q=>⟨v,h,q v G H (.refl b) (Stab.st a p)⟩
theorem ev_int:Ev (tC (.int i)) σ Hs (I i):=fun G H a b Q q=>q _ G H (.refl b) rfl
theorem ev_bl {k:Bool}:Ev (tC (.bl k)) σ Hs (B k):=fun G H a b Q q=>q _ G H (.refl b) rfl
theorem ev_str {x:Str}:Ev (tC (.str x)) σ Hs (T x):=fun G H a b Q q=>q _ G H (.refl b) rfl
theorem ev2 {A B':Pr} [Stab A] {r:R2} (ha:Ev ta σ Hs A) (hb:Ev tb σ Hs B') (h:∀ x y G H,Same G H -> A G x -> B' G y -> ∀ Q:VK,(∀ v H2s H2,Ext G H H2s H2 -> R H2s v -> Q v H2) -> r x y H Q):Ev (tOp r ta tb) σ Hs R:=by
  intro G H a b Q q
  refine ha G H a b _ fun x G1 H1 e1 p1=>?_
  refine hb G1 H1 (a.trans e1.mono) e1.sub _ fun y G2 H2 e2 p2=>?_
  exact h x y G2 H2 e2.sub (Stab.st e2.mono p1) p2 Q fun v G3 H3 e3 p3=>q v G3 H3 (e1.trans (e2.trans e3)) p3
theorem ev_i0 {g:Int -> Int -> V} (ha:Ev ta σ Hs (I i)) (hb:Ev tb σ Hs (I j)) (h:∀ G,R G (g i j)):Ev (tOp (rI0 g) ta tb) σ Hs R :=
  ev2 ha hb fun x y G H s p q Q k=>⟨i,j,p,q,k _ G H (.refl s) (h G)⟩
theorem ev_ic {C:Int -> Int -> Prop} {g:Int -> Int -> V} (ha:Ev ta σ Hs (I i)) (hb:Ev tb σ Hs (I j)) (c:C i j) (h:∀ G,R G (g i j)):Ev (tOp (rI C g) ta tb) σ Hs R :=
  ev2 ha hb fun x y G H s p q Q k=>⟨i,j,p,q,c,k _ G H (.refl s) (h G)⟩
theorem ev_add (ha:Ev ta σ Hs (I i)) (hb:Ev tb σ Hs (I j)):Ev (tOp (rI0 fun i j=>.int (i + j)) ta tb) σ Hs (I (i + j)):=ev_i0 ha hb fun _=>rfl
theorem ev_sub (ha:Ev ta σ Hs (I i)) (hb:Ev tb σ Hs (I j)):Ev (tOp (rI0 fun i j=>.int (i - j)) ta tb) σ Hs (I (i - j)):=ev_i0 ha hb fun _=>rfl
theorem ev_mul (ha:Ev ta σ Hs (I i)) (hb:Ev tb σ Hs (I j)) (c:CMul i j):Ev (tOp (rI CMul fun i j=>.int (i * j)) ta tb) σ Hs (I (i * j)):=ev_ic ha hb c fun _=>rfl
theorem ev_lt (ha:Ev ta σ Hs (I i)) (hb:Ev tb σ Hs (I j)):Ev (tOp (rI0 fun i j=>.bl (decide (i < j))) ta tb) σ Hs (B (decide (i < j))):=ev_i0 ha hb fun _=>rfl
theorem ev_le (ha:Ev ta σ Hs (I i)) (hb:Ev tb σ Hs (I j)):Ev (tOp (rI0 fun i j=>.bl (decide (i <= j))) ta tb) σ Hs (B (decide (i <= j))):=ev_i0 ha hb fun _=>rfl
theorem ev_gt (ha:Ev ta σ Hs (I i)) (hb:Ev tb σ Hs (I j)):Ev (tOp (rI0 fun i j=>.bl (decide (j < i))) ta tb) σ Hs (B (decide (j < i))):=ev_i0 ha hb fun _=>rfl
theorem ev_and (ha:Ev ta σ Hs (I i)) (hb:Ev tb σ Hs (I j)):Ev (tOp (rI0 fun i j=>.int (Builtin.bitAnd i j)) ta tb) σ Hs (I (Builtin.bitAnd i j)):=ev_i0 ha hb fun _=>rfl
theorem ev_or (ha:Ev ta σ Hs (I i)) (hb:Ev tb σ Hs (I j)):Ev (tOp (rI0 fun i j=>.int (Builtin.bitOr i j)) ta tb) σ Hs (I (Builtin.bitOr i j)):=ev_i0 ha hb fun _=>rfl
theorem ev_shl (ha:Ev ta σ Hs (I i)) (hb:Ev tb σ Hs (I j)) (c:CPow i j):Ev (tOp (rI CPow fun i j=>.int (i * 2 ^ j.toNat)) ta tb) σ Hs (I (i * 2 ^ j.toNat)):=ev_ic ha hb c fun _=>rfl
theorem ev_shr (ha:Ev ta σ Hs (I i)) (hb:Ev tb σ Hs (I j)) (c:0 <= j):Ev (tOp (rI (fun _ j=>0 <= j) fun i j=>.int (i / 2 ^ j.toNat)) ta tb) σ Hs (I (i / 2 ^ j.toNat)):=ev_ic ha hb c fun _=>rfl
theorem ev_eqI (ha:Ev ta σ Hs (I i)) (hb:Ev tb σ Hs (I j)):Ev (tOp rEq ta tb) σ Hs (B (decide (i = j))) :=
  ev2 ha hb fun x y G H s p q Q k=>by
    rw [show x = _ from p,show y = _ from q]
    exact ⟨rfl,k _ G H (.refl s) (congrArg V.bl (decide_eq_decide.mpr ⟨fun e=>V.int.inj e,fun e=>by rw [e]⟩))⟩
theorem ev_neI (ha:Ev ta σ Hs (I i)) (hb:Ev tb σ Hs (I j)):Ev (tOp rNe ta tb) σ Hs (B (!decide (i = j))) :=
  ev2 ha hb fun x y G H s p q Q k=>by
    rw [show x = _ from p,show y = _ from q]
    exact ⟨rfl,k _ G H (.refl s) (congrArg (fun z=>V.bl (!z)) (decide_eq_decide.mpr ⟨fun e=>V.int.inj e,fun e=>by rw [e]⟩))⟩
theorem ev_eqS {x y:Str} (ha:Ev ta σ Hs (T x)) (hb:Ev tb σ Hs (T y)):Ev (tOp rEq ta tb) σ Hs (B (decide (x = y))) :=
  ev2 ha hb fun x y G H s p q Q k=>by
    rw [show x = _ from p,show y = _ from q]
    exact ⟨rfl,k _ G H (.refl s) (congrArg V.bl (decide_eq_decide.mpr ⟨fun e=>V.str.inj e,fun e=>by rw [e]⟩))⟩
theorem ev_neT {ns ms:List Int} (ha:Ev ta σ Hs (Tp ns)) (hb:Ev tb σ Hs (Tp ms)):Ev (tOp rNeT ta tb) σ Hs (B (!decide (ns = ms))) :=
  ev2 ha hb fun x y G H s p q Q k=>⟨ns,ms,Stab.st s p,Stab.st s q,k _ G H (.refl s) rfl⟩
theorem ev_inT {ns:List Int} {nss:List (List Int)} (ha:Ev ta σ Hs (Tp ns)) (hb:Ev tb σ Hs (Ls Tp nss)):Ev (tOp rInT ta tb) σ Hs (B (nss.contains ns)) :=
  ev2 ha hb fun x y G H s p q Q k=>by
    obtain ⟨a,ws,rfl,h1,h2⟩:=(Stab.st s q:Ls Tp nss H _)
    exact ⟨ns,nss,a,ws,Stab.st s p,rfl,h1,h2,k _ G H (.refl s) rfl⟩
theorem ev_notinT {ns:List Int} {nss:List (List Int)} (ha:Ev ta σ Hs (Tp ns)) (hb:Ev tb σ Hs (Ls Tp nss)):Ev (tOp rNotInT ta tb) σ Hs (B (!nss.contains ns)) :=
  ev2 ha hb fun x y G H s p q Q k=>by
    obtain ⟨a,ws,rfl,h1,h2⟩:=(Stab.st s q:Ls Tp nss H _)
    exact ⟨ns,nss,a,ws,Stab.st s p,rfl,h1,h2,k _ G H (.refl s) rfl⟩
theorem ev_ixL {α:Type} {F:α -> Pr} [∀ x,Stab (F x)] {xs:List α} {n:Nat} {x:α} (ha:Ev ta σ Hs (Ls F xs)) (hb:Ev tb σ Hs (I i)) (e:i = (n:Int)) (h:xs[n]? = some x):Ev (tOp (rIxL K) ta tb) σ Hs (F x) :=
  ev2 ha hb fun y z G H s p q Q k=>by
    obtain ⟨a,ws,rfl,h1,h2⟩:=p
    obtain ⟨v,h3,h4⟩:=paired_ix h2 h
    exact ⟨a,ws,i,v,rfl,q,SqL.of (s _ _ h1),by rw [e]; exact atI_nat h3,k v G H (.refl s) h4⟩
theorem ev_ixT {ns:List Int} {n:Nat} {x:Int} (ha:Ev ta σ Hs (Tp ns)) (hb:Ev tb σ Hs (I i)) (e:i = (n:Int)) (h:ns[n]? = some x):Ev (tOp (rIxT K) ta tb) σ Hs (I x) :=
  ev2 ha hb fun y z G H s p q Q k=>by
    obtain ⟨a,rfl,h1⟩:=p
    exact ⟨a,ns.map V.int,i,.int x,rfl,q,SqT.of (s _ _ h1),by rw [e]; exact atI_nat (by rw [List.getElem?_map,h]; rfl),k _ G H (.refl s) rfl⟩
theorem ev_cat {α:Type} {F:α -> Pr} [∀ x,Stab (F x)] {xs ys:List α} (ha:Ev ta σ Hs (Ls F xs)) (hb:Ev tb σ Hs (Ls F ys)) (hz:xs.length + ys.length <= 16000000):Ev (tOp rCat ta tb) σ Hs (Ls F (xs ++ ys)) :=
  ev2 ha hb fun y z G H s p q Q k=>by
    obtain ⟨a,ws,rfl,h1,h2⟩:=p
    obtain ⟨b,us,rfl,h3,h4⟩:=q
    have l1:=Paired.length h2
    have l2:=Paired.length h4
    refine ⟨a,b,ws,us,rfl,rfl,s _ _ h1,s _ _ h3,by rw [sizeLine_eq]; omega,fun c hc=>k _ (upd G c _) _ (.alloc _ s hc) ⟨c,_,rfl,upd_same,?_⟩⟩
    exact paired_st (same_upd (same_refl _) (s.free hc)) (paired_app h2 h4)
theorem evt_b {b:Bool} (h:Ev ta σ Hs (B b)):EvT (tTest ta) σ Hs b:=fun G H a c Q k=>h G H a c _ fun v G2 H2 e p=>⟨b,p,k G2 H2 e⟩
theorem evt_v {b:Bool} (h:Ev ta σ Hs (B b)):EvT (tB ta) σ Hs b:=fun G H a c Q k=>h G H a c _ fun v G2 H2 e p=>⟨b,p,k G2 H2 e⟩
theorem evt_not {t:TT} {b:Bool} (h:EvT t σ Hs b):EvT (tNot t) σ Hs (!b):=fun G H a c Q k=>h G H a c _ fun G2 H2 e=>k G2 H2 e
theorem evt_and {t u:TT} {a b:Bool} (h:EvT t σ Hs a) (g:a = true -> EvT u σ Hs b):EvT (tAnd t u) σ Hs (a && b):=fun G H x y Q k=>h G H x y _ fun G2 H2 e=>by
  cases a with
  | true=>rw [if_pos rfl]; exact g rfl G2 H2 (x.trans e.mono) e.sub Q fun G3 H3 e'=>k G3 H3 (e.trans e')
  | false=>rw [if_neg (by decide)]; exact k G2 H2 e
theorem evt_or {t u:TT} {a b:Bool} (h:EvT t σ Hs a) (g:a = false -> EvT u σ Hs b):EvT (tOr t u) σ Hs (a || b):=fun G H x y Q k=>h G H x y _ fun G2 H2 e=>by
  cases a with
  | true=>rw [if_pos rfl]; exact k G2 H2 e
  | false=>rw [if_neg (by decide)]; exact g rfl G2 H2 (x.trans e.mono) e.sub Q fun G3 H3 e'=>k G3 H3 (e.trans e')
theorem evt_yes:EvT tYes σ Hs true:=fun G H _ c Q k=>k G H (.refl c)
theorem ev_if {t:TT} {b:Bool} (h:EvT t σ Hs b) (h1:b = true -> Ev ta σ Hs P) (h2:b = false -> Ev tb σ Hs P):Ev (tIf t ta tb) σ Hs P:=fun G H x y Q k=>h G H x y _ fun G2 H2 e=>by
  cases b with
  | true=>rw [if_pos rfl]; exact h1 rfl G2 H2 (x.trans e.mono) e.sub Q fun v G3 H3 e'=>k v G3 H3 (e.trans e')
  | false=>rw [if_neg (by decide)]; exact h2 rfl G2 H2 (x.trans e.mono) e.sub Q fun v G3 H3 e'=>k v G3 H3 (e.trans e')
theorem ev_bit {t:TT} {b:Bool} (h:EvT t σ Hs b):Ev (tIf t (tC (.int 1)) (tC (.int 0))) σ Hs (I (if b then 1 else 0)) :=
  ev_if h (fun e=>by rw [e]; exact ev_int) (fun e=>by rw [e]; exact ev_int)
theorem ev_andV {a b:Bool} (h:Ev ta σ Hs (B a)) (g:a = true -> Ev tb σ Hs (B b)):Ev (tAndV ta tb) σ Hs (B (a && b)):=fun G H x y Q k=>h G H x y _ fun v G2 H2 e p=>by
  refine ⟨a,p,?_⟩
  cases a with
  | true=>rw [if_pos rfl]; exact g rfl G2 H2 (x.trans e.mono) e.sub Q fun v G3 H3 e' p'=>k v G3 H3 (e.trans e') p'
  | false=>rw [if_neg (by decide)]; exact k _ G2 H2 e rfl
theorem ev_notV {a:Bool} (h:Ev ta σ Hs (B a)):Ev (tNotV ta) σ Hs (B (!a)):=fun G H x y Q k=>h G H x y _ fun v G2 H2 e p=>⟨a,p,k _ G2 H2 e rfl⟩
theorem eva_nil:EvA tNil σ Hs []:=fun G H a b Q k=>k [] G H (.refl b) .nil
theorem eva_cons [Stab P] {tr:TA} {Ps:List Pr} (h:Ev ta σ Hs P) (g:EvA tr σ Hs Ps):EvA (tCons ta tr) σ Hs (P :: Ps):=fun G H a b Q k=>h G H a b _ fun v G1 H1 e1 p1 =>
  g G1 H1 (a.trans e1.mono) e1.sub _ fun vs G2 H2 e2 p2=>k (v :: vs) G2 H2 (e1.trans e2) (.cons (Stab.st e2.mono p1) p2)
theorem ev_cb {t:TA} {Ps:List Pr} {r:List V -> Hp -> VK -> Prop} (h:EvA t σ Hs Ps) (g:∀ vs G H,Same G H -> AllP G vs Ps -> ∀ Q:VK,(∀ v G2 H2,Ext G H G2 H2 -> R G2 v -> Q v H2) -> r vs H Q):Ev (tCB r t) σ Hs R :=
  fun G H a b Q k=>h G H a b _ fun vs G1 H1 e1 p1=>g vs G1 H1 e1.sub p1 Q fun v G2 H2 e2 p2=>k v G2 H2 (e1.trans e2) p2
theorem all1 {H:Hp} {P:Pr} {vs:List V} (h:AllP H vs [P]):∃ v,vs = [v] /\ P H v:=by
  cases h with
  | cons a t=>cases t; exact ⟨_,rfl,a⟩
theorem all2 {H:Hp} {P P2:Pr} {vs:List V} (h:AllP H vs [P,P2]):∃ v u,vs = [v,u] /\ P H v /\ P2 H u:=by
  cases h with
  | cons a t=>obtain ⟨v,rfl,q⟩:=all1 t; exact ⟨_,_,rfl,a,q⟩
theorem all3 {H:Hp} {P P2 P3:Pr} {vs:List V} (h:AllP H vs [P,P2,P3]):∃ v u w,vs = [v,u,w] /\ P H v /\ P2 H u /\ P3 H w:=by
  cases h with
  | cons a t=>obtain ⟨v,u,rfl,q,q'⟩:=all2 t; exact ⟨_,_,_,rfl,a,q,q'⟩
theorem all4 {H:Hp} {P P2 P3 P4:Pr} {vs:List V} (h:AllP H vs [P,P2,P3,P4]):∃ v u w z,vs = [v,u,w,z] /\ P H v /\ P2 H u /\ P3 H w /\ P4 H z:=by
  cases h with
  | cons a t=>obtain ⟨v,u,w,rfl,q,q',q''⟩:=all3 t; exact ⟨_,_,_,_,rfl,a,q,q',q''⟩
theorem allP_map {α:Type} {F:α -> Pr} {H:Hp}:∀ {xs:List α} {vs:List V},AllP H vs (xs.map F) -> Paired (fun u x=>F x H u) vs xs
  | [],vs,h=>by cases h; exact .nil
  | x :: xs,vs,h=>by
    cases h with
    | cons a t=>exact .cons a (allP_map t)
theorem ev_lst {α:Type} (F:α -> Pr) [∀ x,Stab (F x)] (xs:List α) {t:TA} (h:EvA t σ Hs (xs.map F)) (hz:xs.length <= 1000:=by decide):Ev (tLst t) σ Hs (Ls F xs):=fun G H a b Q k=>h G H a b _ fun vs G1 H1 e1 p1=>by
  have p:=allP_map p1
  have hl:=Paired.length p
  exact ⟨by rw [sizeLine_eq]; omega,fun c hc=>k _ (upd G1 c _) _ (e1.trans (.alloc _ e1.sub hc)) ⟨c,_,rfl,upd_same,paired_st (same_upd (same_refl _) (e1.sub.free hc)) p⟩⟩
theorem ev_tup (ns:List Int) {t:TA} (h:EvA t σ Hs (ns.map I)) (hz:ns.length <= 1000:=by decide):Ev (tTup t) σ Hs (Tp ns):=fun G H a b Q k=>h G H a b _ fun vs G1 H1 e1 p1=>by
  have p:=allP_map p1
  have hl:=Paired.length p
  refine ⟨by rw [sizeLine_eq]; omega,fun c hc=>k _ (upd G1 c _) _ (e1.trans (.alloc _ e1.sub hc)) ⟨c,rfl,?_⟩⟩
  rw [upd_same,ints_vs p]
theorem ev_len {α:Type} {F:α -> Pr} {xs:List α} (h:Ev ta σ Hs (Ls F xs)) [∀ x,Stab (F x)]:Ev (tCB (rLen K) (tCons ta tNil)) σ Hs (I (xs.length:Nat)) :=
  ev_cb (eva_cons h eva_nil) fun vs G H s p Q k=>by
    obtain ⟨v,rfl,a,ws,rfl,h1,h2⟩:=all1 p
    exact ⟨a,ws,rfl,.inl (SqL.of (s _ _ h1)),k _ G H (.refl s) (congrArg (fun n:Nat=>V.int n) (Paired.length h2))⟩
theorem ev_lenS {x:Str} (h:Ev ta σ Hs (T x)) (hz:x.length <= 1000):Ev (tCB rLenS (tCons ta tNil)) σ Hs (I (x.length:Nat)) :=
  ev_cb (eva_cons h eva_nil) fun vs G H s p Q k=>by
    obtain ⟨v,rfl,h1⟩:=all1 p
    rw [show v = _ from h1]
    exact ⟨x,rfl,by rw [sizeLine_eq]; omega,k _ G H (.refl s) rfl⟩
theorem ev_sum {ns:List Int} (h:Ev ta σ Hs (Ls I ns)):Ev (tCB (rSum K) (tCons ta tNil)) σ Hs (I ns.sum) :=
  ev_cb (eva_cons h eva_nil) fun vs G H s p Q k=>by
    obtain ⟨v,rfl,a,ws,rfl,h1,h2⟩:=all1 p
    exact ⟨a,ns,rfl,by rw [<- ints_vs h2]; exact SqL.of (s _ _ h1),k _ G H (.refl s) rfl⟩
theorem ev_all {bs:List Bool} (h:Ev ta σ Hs (Ls B bs)):Ev (tCB (rAll K) (tCons ta tNil)) σ Hs (B (bs.all id)) :=
  ev_cb (eva_cons h eva_nil) fun vs G H s p Q k=>by
    obtain ⟨v,rfl,a,ws,rfl,h1,h2⟩:=all1 p
    exact ⟨a,bs,rfl,by rw [<- bls_vs h2]; exact SqL.of (s _ _ h1),k _ G H (.refl s) rfl⟩
theorem ev_min2 (ha:Ev ta σ Hs (I i)) (hb:Ev tb σ Hs (I j)):Ev (tCB rMin2 (tCons ta (tCons tb tNil))) σ Hs (I (if j < i then j else i)) :=
  ev_cb (eva_cons ha (eva_cons hb eva_nil)) fun vs G H s p Q k=>by
    obtain ⟨v,u,rfl,h1,h2⟩:=all2 p
    exact ⟨i,j,by rw [show v = _ from h1,show u = _ from h2],k _ G H (.refl s) rfl⟩
theorem ev_max2 (ha:Ev ta σ Hs (I i)) (hb:Ev tb σ Hs (I j)):Ev (tCB rMax2 (tCons ta (tCons tb tNil))) σ Hs (I (if j > i then j else i)) :=
  ev_cb (eva_cons ha (eva_cons hb eva_nil)) fun vs G H s p Q k=>by
    obtain ⟨v,u,rfl,h1,h2⟩:=all2 p
    exact ⟨i,j,by rw [show v = _ from h1,show u = _ from h2],k _ G H (.refl s) rfl⟩
theorem ev_tuple {ns:List Int} (h:Ev ta σ Hs (Ls I ns)):Ev (tCB (rTuple K) (tCons ta tNil)) σ Hs (Tp ns) :=
  ev_cb (eva_cons h eva_nil) fun vs G H s p Q k=>by
    obtain ⟨v,rfl,a,ws,rfl,h1,h2⟩:=all1 p
    refine ⟨a,ws,rfl,.inl ⟨SqL.of (s _ _ h1),fun c hc=>k _ (upd G c _) _ (.alloc _ s hc) ⟨c,rfl,?_⟩⟩⟩
    rw [upd_same,ints_vs h2]
theorem ev_list {α:Type} {F:α -> Pr} [∀ x,Stab (F x)] {xs:List α} (h:Ev ta σ Hs (Ls F xs)):Ev (tCB (rList K) (tCons ta tNil)) σ Hs (Ls F xs) :=
  ev_cb (eva_cons h eva_nil) fun vs G H s p Q k=>by
    obtain ⟨v,rfl,a,ws,rfl,h1,h2⟩:=all1 p
    exact ⟨a,ws,rfl,.inl (SqL.of (s _ _ h1)),fun c hc=>k _ (upd G c _) _ (.alloc _ s hc) ⟨c,ws,rfl,upd_same,paired_st (same_upd (same_refl _) (s.free hc)) h2⟩⟩
theorem ev_listRng {n:Nat} (h:Ev ta σ Hs (I n)) (hz:n <= 1000000):Ev (tCB rListRng (tCons (tCB rRng1 (tCons ta tNil)) tNil)) σ Hs (Ls I ((List.range n).map fun (k:Nat)=>(k:Int))):=by
  have h1:Ev (tCB rRng1 (tCons ta tNil)) σ Hs (fun G v=>∃ c,v = .ref c /\ G c = some (.rng 0 n)):=ev_cb (eva_cons h eva_nil) fun vs G H s p Q k=>by
    obtain ⟨v,rfl,h1⟩:=all1 p
    exact ⟨n,by rw [show v = _ from h1],fun c hc=>k _ (upd G c _) _ (.alloc _ s hc) ⟨c,rfl,upd_same⟩⟩
  have:Stab (fun G v=>∃ c,v = V.ref c /\ G c = some (.rng 0 n)):=⟨fun e ⟨c,q,h⟩=>⟨c,q,e _ _ h⟩⟩
  refine ev_cb (eva_cons h1 eva_nil) fun vs G H s p Q k=>?_
  obtain ⟨v,rfl,c,rfl,hc⟩:=all1 p
  refine ⟨c,n,rfl,s _ _ hc,hz,fun d hd=>k _ (upd G d _) _ (.alloc _ s hd) ⟨d,_,rfl,upd_same,?_⟩⟩
  have q:=vs_ints (H:=upd G d (.lst ((List.range n).map fun i=>V.int (i:Nat)))) ((List.range n).map fun (k:Nat)=>(k:Int))
  rw [List.map_map] at q
  exact q
def spP {ι:Type} (A:ι -> List Pr) (C:ι -> Prop) (F:ι -> Pr):Sp:=fun vs H Q _=>∃ (x:ι) (G:Hp),Same G H /\ C x /\ AllP G vs (A x) /\ ∀ v G2 H2,Ext G H G2 H2 -> F x G2 v -> Q v H2
theorem ev_call {ι:Type} {A:ι -> List Pr} {C:ι -> Prop} {F:ι -> Pr} {E:XK} (x:ι) {t:TA} (h:EvA t σ Hs (A x)) (c:C x):Ev (tCall (spP A C F) [] E t) σ Hs (F x) :=
  fun G H a b Q k=>h G H a b _ fun vs G1 H1 e1 p1=>by
    rw [List.append_nil]
    exact ⟨x,G1,e1.sub,c,p1,fun v G2 H2 e2 p2=>k v G2 H2 (e1.trans e2) p2⟩
end
end L2.FF
end
section
namespace L2.FF
open PySem PySem.Spec PyProof.Rows
theorem take_succ_of {α:Type} {l:List α} {i:Nat} {x:α} (h:l[i]? = some x):l.take (i + 1) = l.take i ++ [x]:=by
  obtain ⟨h1,h2⟩:=List.getElem?_eq_some_iff.mp h
  rw [List.take_succ_eq_append_getElem h1,h2]
theorem wipe_one {σ:St} {i:Nat} {v:V}:wipe ((wipe σ [i]).set i (some v)) [i] = wipe σ [i]:=by
  show ((σ.set i none).set i (some v)).set i none = σ.set i none
  rw [List.set_set,List.set_set]
theorem fm_snoc {α β:Type} (p:α -> Bool) (g:α -> β) (l:List α) (x:α):((l ++ [x]).filter p).map g = (l.filter p).map g ++ (if p x then [g x] else []):=by
  rw [List.filter_append,List.map_append]
  cases h:p x <;> simp [h]
def LcInv {β:Type} (F:β -> Pr) (Gs H0 G1:Hp) (D:Addr) (ys:List β) (n:Nat) (H:Hp):Prop :=
  ∃ G acc,Ext Gs H0 G H /\ Same G1 G /\ H D = some (.lst acc) /\ G D = none /\ Paired (fun u y=>F y G u) acc ys /\ acc.length <= n
section
variable {σ:St} {Hs:Hp} {K:PySem.W.Frag} {α β:Type} {P:α -> Pr} {F:β -> Pr} [∀ x,Stab (P x)] [∀ y,Stab (F y)]
theorem ext_at {Gs H0 G H:Hp} {D:Addr} {o:HO} (e:Ext Gs H0 G H) (n0:H0 D = none) (nG:G D = none):Ext Gs H0 G (upd H D o) :=
  ⟨fun b u h=>by rw [upd_ne (ne_of_none h n0)]; exact e.big _ _ h,fun b u h=>by rw [upd_ne (ne_of_none h nG)]; exact e.sub _ _ h,e.mono,e.fr⟩
theorem ext_own {Gs H0 G H:Hp} {D:Addr} {o:HO} (e:Ext Gs H0 G H) (n0:H0 D = none) (nG:G D = none) (h:H D = some o):Ext Gs H0 (upd G D o) H :=
  ⟨e.big,fun b u q=>by
    by_cases z:b = D
    · subst z; rw [upd_same] at q; rw [h]; exact q
    · rw [upd_ne z] at q; exact e.sub _ _ q,e.mono.trans (same_upd (same_refl _) nG),fun b u q=>by
    by_cases z:b = D
    · subst z; exact .inr n0
    · rw [upd_ne z] at q; exact e.fr _ _ q⟩
theorem lc_turn {Gs H0 G1:Hp} {D:Addr} {tt:TT} {te:TE} {p:α -> Bool} {g:α -> β} {x:α} {l:List α} {n:Nat} {σ2:St} {H:Hp} (n0:H0 D = none) (hz:n < 1000000)
    (J:LcInv F Gs H0 G1 D ((l.filter p).map g) n H) (ht:∀ G,Same G1 G -> EvT tt σ2 G (p x)) (he:∀ G,Same G1 G -> p x = true -> Ev te σ2 G (F (g x))) :
    tt σ2 H fun b H3=>if b = true then te σ2 H3 fun y H4=>∃ acc,H4 D = some (.lst acc) /\ acc.length < sizeLine /\ LcInv F Gs H0 G1 D (((l ++ [x]).filter p).map g) (n + 1) (upd H4 D (.lst (acc ++ [y])))
      else LcInv F Gs H0 G1 D (((l ++ [x]).filter p).map g) (n + 1) H3:=by
  obtain ⟨G,acc,e,s,hD,nD,pr,hl⟩:=J
  refine ht G s G H (same_refl _) e.sub _ fun G2 H2 e2=>?_
  have nD2:G2 D = none:=by
    cases q:G2 D with
    | none=>rfl
    | some o=>exact (e2.fr D o q).elim (fun z=>by rw [nD] at z; cases z) fun z=>by rw [hD] at z; cases z
  rw [fm_snoc]
  cases hp:p x with
  | false =>
    rw [if_neg (by decide)]
    refine ⟨G2,acc,e.trans e2,s.trans e2.mono,e2.big _ _ hD,nD2,?_,by omega⟩
    rw [if_neg (by decide),List.append_nil]
    exact paired_st e2.mono pr
  | true =>
    rw [if_pos rfl]
    refine he G2 (s.trans e2.mono) hp G2 H2 (same_refl _) e2.sub _ fun v G3 H3 e3 p3=>?_
    have nD3:G3 D = none:=by
      cases q:G3 D with
      | none=>rfl
      | some o=>exact (e3.fr D o q).elim (fun z=>by rw [nD2] at z; cases z) fun z=>by rw [e2.big _ _ hD] at z; cases z
    refine ⟨acc,e3.big _ _ (e2.big _ _ hD),by rw [sizeLine_eq]; omega,G3,acc ++ [v],?_,(s.trans e2.mono).trans e3.mono,upd_same,nD3,?_,by rw [List.length_append,List.length_singleton]; omega⟩
    · exact ext_at (e.trans (e2.trans e3)) n0 nD3
    · rw [if_pos rfl]
      exact paired_app (paired_st (e2.mono.trans e3.mono) pr) (.cons p3 .nil)
theorem ev_lcL {tl te:TE} {tt:TT} {i:Nat} (xs:List α) (p:α -> Bool) (g:α -> β) (hl:Ev tl σ Hs (Ls P xs)) (hz:xs.length <= 900000)
    (ht:∀ x ∈ xs,∀ v G,Same Hs G -> P x G v -> EvT tt ((wipe σ [i]).set i (some v)) G (p x))
    (he:∀ x ∈ xs,p x = true -> ∀ v G,Same Hs G -> P x G v -> Ev te ((wipe σ [i]).set i (some v)) G (F (g x))) :
    Ev (tLc (iList K tl) (gName i) tt te [i]) σ Hs (Ls F ((xs.filter p).map g)):=by
  intro Gs H0 a b Q k
  refine hl Gs H0 a b _ fun v G1 H1 e1 p1=>?_
  obtain ⟨c,ws,rfl,h1,h2⟩:=p1
  refine ⟨c,rfl,⟨ws,SqL.of (e1.sub _ _ h1)⟩,fun D hD=>?_⟩
  have n0:H0 D = none:=e1.big.free hD
  have lw:ws.length = xs.length:=Paired.length h2
  refine lc_list (K:=K) (a:=c) (xs:=ws) (Qd:=Q (.ref D)) (fun n H=>n <= ws.length /\ LcInv F Gs H0 G1 D (((xs.take n).filter p).map g) n H) ⟨Nat.zero_le _,G1,[],ext_at e1 n0 (e1.sub.free hD),same_refl _,upd_same,e1.sub.free hD,.nil,Nat.le_refl _⟩
    (fun n H _ ⟨_,G,acc,e,s,_⟩=>SqL.of (e.sub _ _ (s _ _ h1))) ?_ ?_
  · rintro n y H hy ⟨hn,J⟩
    obtain ⟨x,hx,px⟩:=paired_ix' h2 hy
    have hlt:n < ws.length:=(List.getElem?_eq_some_iff.mp hy).1
    have xm:x ∈ xs:=List.mem_of_getElem? hx
    refine ⟨wipe_one,?_⟩
    have q:=lc_turn (F:=F) (p:=p) (g:=g) (x:=x) (σ2:=(wipe σ [i]).set i (some y)) (te:=te) (tt:=tt) n0 (by omega) J (fun G s=>ht x xm y G ((a.trans e1.mono).trans s) (Stab.st s px)) (fun G s hp=>he x xm hp y G ((a.trans e1.mono).trans s) (Stab.st s px))
    rw [<- take_succ_of hx] at q
    simpa [Nat.succ_le_of_lt hlt] using q
  · rintro H ⟨_,G,acc,e,s,hD',nD,pr,_⟩
    rw [lw,List.take_length] at pr
    exact k _ (upd G D (.lst acc)) H (ext_own e n0 nD hD') ⟨D,acc,rfl,upd_same,paired_st (same_upd (same_refl _) nD) pr⟩
theorem ev_lcR {ta te:TE} {tt:TT} {i:Nat} (n:Nat) (p:Nat -> Bool) (g:Nat -> β) (hl:Ev ta σ Hs (I n)) (hz:n <= 900000)
    (ht:∀ x,x < n -> ∀ G,Same Hs G -> EvT tt ((wipe σ [i]).set i (some (.int x))) G (p x))
    (he:∀ x,x < n -> p x = true -> ∀ G,Same Hs G -> Ev te ((wipe σ [i]).set i (some (.int x))) G (F (g x))) :
    Ev (tLc (iRng1 (tCons ta tNil)) (gName i) tt te [i]) σ Hs (Ls F (((List.range n).filter p).map g)):=by
  intro Gs H0 a b Q k
  unfold tLc iRng1
  refine eva_cons hl eva_nil Gs H0 a b _ fun vs G1 H1 e1 p1=>?_
  obtain ⟨v,rfl,hv⟩:=all1 p1
  refine ⟨n,by rw [show v = _ from hv],by omega,by omega,fun D hD=>?_⟩
  rw [Int.toNat_natCast]
  have n0:H0 D = none:=e1.big.free hD
  refine lc_range (lo:=0) (n:=n) (Qd:=Q (.ref D)) (fun k H=>k <= n /\ LcInv F Gs H0 G1 D (((List.range k).filter p).map g) k H) ⟨Nat.zero_le _,G1,[],ext_at e1 n0 (e1.sub.free hD),same_refl _,upd_same,e1.sub.free hD,.nil,Nat.le_refl _⟩ ?_ ?_
  · rintro x H hx ⟨hn,J⟩
    refine ⟨wipe_one,?_⟩
    rw [show (0:Int) + (x:Int) = (x:Int) by omega]
    have q:=lc_turn (F:=F) (p:=p) (g:=g) (x:=x) (σ2:=(wipe σ [i]).set i (some (.int x))) (te:=te) (tt:=tt) n0 (by omega) J (fun G s=>ht x hx G ((a.trans e1.mono).trans s)) (fun G s hp=>he x hx hp G ((a.trans e1.mono).trans s))
    rw [<- List.range_succ] at q
    simpa [Nat.succ_le_of_lt hx] using q
  · rintro H ⟨_,G,acc,e,s,hD',nD,pr,_⟩
    exact k _ (upd G D (.lst acc)) H (ext_own e n0 nD hD') ⟨D,acc,rfl,upd_same,paired_st (same_upd (same_refl _) nD) pr⟩
theorem ev_lcLm {tl te:TE} {i:Nat} (xs:List α) (g:α -> β) (hl:Ev tl σ Hs (Ls P xs)) (hz:xs.length <= 900000)
    (he:∀ x ∈ xs,∀ v G,Same Hs G -> P x G v -> Ev te ((wipe σ [i]).set i (some v)) G (F (g x))) :
    Ev (tLc (iList K tl) (gName i) tYes te [i]) σ Hs (Ls F (xs.map g)):=by
  have q:=ev_lcL (K:=K) (P:=P) (F:=F) (te:=te) (i:=i) xs (fun _=>true) g hl hz (fun _ _ _ _ _ _=>evt_yes) fun x hx _=>he x hx
  rw [List.filter_eq_self.mpr fun _ _=>rfl] at q
  exact q
theorem ev_lcRm {ta te:TE} {i:Nat} (n:Nat) (g:Nat -> β) (hl:Ev ta σ Hs (I n)) (hz:n <= 900000)
    (he:∀ x,x < n -> ∀ G,Same Hs G -> Ev te ((wipe σ [i]).set i (some (.int x))) G (F (g x))) :
    Ev (tLc (iRng1 (tCons ta tNil)) (gName i) tYes te [i]) σ Hs (Ls F ((List.range n).map g)):=by
  have q:=ev_lcR (F:=F) (te:=te) (i:=i) n (fun _=>true) g hl hz (fun _ _ _ _=>evt_yes) fun x hx _=>he x hx
  rw [List.filter_eq_self.mpr fun _ _=>rfl] at q
  exact q
end
def EvN (t:TS) (σ:St) (Hs:Hp) (N:St -> Hp -> Prop) (R:Pr):Prop:=∀ Hs' H,Same Hs Hs' -> Same Hs' H -> ∀ D:Ends,(∀ σ' G2 H2,Ext Hs' H G2 H2 -> N σ' G2 -> D.nx σ' H2) -> (∀ v G2 H2,Ext Hs' H G2 H2 -> R G2 v -> D.rt v H2) -> t D σ H
abbrev NoN:St -> Hp -> Prop:=fun _ _=>False
section
variable {σ:St} {Hs:Hp} {K:PySem.W.Frag} {N N':St -> Hp -> Prop} {R P:Pr} {te:TE} {t u:TS} {i:Nat}
theorem EvN.weak {Hs':Hp} (h:EvN t σ Hs N R) (s:Same Hs Hs'):EvN t σ Hs' N R:=fun G H a b=>h G H (s.trans a) b
theorem evn_ret (h:Ev te σ Hs R):EvN (tRet te) σ Hs N R:=fun G H a b D _ k=>h G H a b _ k
theorem evn_nil (h:∀ G,Same Hs G -> N σ G):EvN tNext σ Hs N R:=fun G H a b D k _=>k σ G H (.refl b) (h G a)
theorem evn_seq (h:EvN t σ Hs N R) (g:∀ σ' G,Same Hs G -> N σ' G -> EvN u σ' G N' R):EvN (tSeq t u) σ Hs N' R:=fun G H a b D k r =>
  h G H a b _ (fun σ' G2 H2 e n=>g σ' G2 (a.trans e.mono) n G2 H2 (same_refl _) e.sub D (fun σ2 G3 H3 e' n'=>k σ2 G3 H3 (e.trans e') n') fun v G3 H3 e' p=>r v G3 H3 (e.trans e') p) r
theorem evn_set (h:Ev te σ Hs P) (g:∀ v G,Same Hs G -> P G v -> EvN u (σ.set i (some v)) G N' R):EvN (tSeq (tAsg te (gName i)) u) σ Hs N' R:=fun G H a b D k r =>
  h G H a b _ fun v G2 H2 e p=>g v G2 (a.trans e.mono) p G2 H2 (same_refl _) e.sub D (fun σ2 G3 H3 e' n'=>k σ2 G3 H3 (e.trans e') n') fun v G3 H3 e' p=>r v G3 H3 (e.trans e') p
theorem evn_set1 (h:Ev te σ Hs P) (g:∀ v G,Same Hs G -> P G v -> N (σ.set i (some v)) G):EvN (tAsg te (gName i)) σ Hs N R:=fun G H a b D k r =>
  h G H a b _ fun v G2 H2 e p=>k _ G2 H2 e (g v G2 (a.trans e.mono) p)
theorem evn_if {c:TT} {b:Bool} (h:EvT c σ Hs b) (h1:b = true -> EvN t σ Hs N R) (h2:b = false -> EvN u σ Hs N R):EvN (tIfS c t u) σ Hs N R:=fun G H x y D k r=>h G H x y _ fun G2 H2 e=>by
  cases b with
  | true=>rw [if_pos rfl]; exact h1 rfl G2 H2 (x.trans e.mono) e.sub D (fun σ2 G3 H3 e' n'=>k σ2 G3 H3 (e.trans e') n') fun v G3 H3 e' p=>r v G3 H3 (e.trans e') p
  | false=>rw [if_neg (by decide)]; exact h2 rfl G2 H2 (x.trans e.mono) e.sub D (fun σ2 G3 H3 e' n'=>k σ2 G3 H3 (e.trans e') n') fun v G3 H3 e' p=>r v G3 H3 (e.trans e') p
theorem evn_ifret {c:TT} {b:Bool} (h:EvT c σ Hs b) (h1:b = true -> EvN t σ Hs NoN R) (h2:b = false -> EvN u σ Hs N R):EvN (tSeq (tIfS c t tNext) u) σ Hs N R:=by
  refine evn_seq (N:=fun σ' G=>b = false /\ σ' = σ) (evn_if h (fun e=>?_) fun e=>evn_nil fun _ _=>⟨e,rfl⟩) fun σ' G s ⟨e,q⟩=>by subst q; exact (h2 e).weak s
  exact fun G H x y D k r=>h1 e G H x y D (fun _ _ _ _ z=>z.elim) r
theorem evn_for {α:Type} {P:α -> Pr} [∀ x,Stab (P x)] {tl:TE} {tb:TS} (xs:List α) (J:Nat -> St -> Hp -> Prop) (hl:Ev tl σ Hs (Ls P xs)) (h0:∀ G,Same Hs G -> J 0 σ G)
    (hs:∀ k x v σ' G,xs[k]? = some x -> P x G v -> Same Hs G -> J k σ' G -> EvN tb (σ'.set i (some v)) G (J (k + 1)) R):EvN (tFor (iList K tl) (gName i) tb) σ Hs (J xs.length) R:=by
  intro Gs H0 a b D k r
  refine hl Gs H0 a b _ fun v G1 H1 e1 p1=>?_
  obtain ⟨c,ws,rfl,h1,h2⟩:=p1
  have lw:ws.length = xs.length:=Paired.length h2
  refine ⟨c,rfl,⟨ws,SqL.of (e1.sub _ _ h1)⟩,for_list (K:=K) (a:=c) (xs:=ws) (fun n σ' H=>∃ G,Ext Gs H0 G H /\ Same G1 G /\ J n σ' G) ⟨G1,e1,same_refl _,h0 G1 (a.trans e1.mono)⟩ (fun n σ' H _ ⟨G,e,s,_⟩=>SqL.of (e.sub _ _ (s _ _ h1))) ?_ ?_⟩
  · rintro n y σ' H hy ⟨G,e,s,j⟩
    obtain ⟨x,hx,px⟩:=paired_ix' h2 hy
    exact hs n x y σ' G hx (Stab.st s px) ((a.trans e1.mono).trans s) j G H (same_refl _) e.sub _ (fun σ2 G3 H3 e' n'=>⟨G3,e.trans e',s.trans e'.mono,n'⟩) fun v G3 H3 e' p=>r v G3 H3 (e.trans e') p
  · rintro σ' H ⟨G,e,s,j⟩
    rw [lw] at j
    exact k σ' G H e j
theorem evn_forRev {α:Type} {P:α -> Pr} [∀ x,Stab (P x)] {tl:TE} {tb:TS} (xs:List α) (J:Nat -> St -> Hp -> Prop) (hl:Ev tl σ Hs (Ls P xs)) (h0:∀ G,Same Hs G -> J 0 σ G)
    (hs:∀ k x v σ' G,xs.reverse[k]? = some x -> P x G v -> Same Hs G -> J k σ' G -> EvN tb (σ'.set i (some v)) G (J (k + 1)) R):EvN (tFor (iRev K (tCons tl tNil)) (gName i) tb) σ Hs (J xs.length) R:=by
  intro Gs H0 a b D k r
  unfold tFor iRev
  refine eva_cons hl eva_nil Gs H0 a b _ fun vs G1 H1 e1 p1=>?_
  obtain ⟨v,rfl,c,ws,rfl,h1,h2⟩:=all1 p1
  have lw:ws.length = xs.length:=Paired.length h2
  refine ⟨c,ws,rfl,SqL.of (e1.sub _ _ h1),fun n m σ' H=>m = ws.length - n /\ n <= ws.length /\ ∃ G,Ext Gs H0 G H /\ Same G1 G /\ J n σ' G,⟨ws.length,by simp,Nat.zero_le _,G1,e1,same_refl _,h0 G1 (a.trans e1.mono)⟩,?_⟩
  rintro n m σ' H ⟨rfl,hn,G,e,s,j⟩
  have sq:SqL K H c ws:=SqL.of (e.sub _ _ (s _ _ h1))
  by_cases hlt:n < ws.length
  · refine .inr ⟨⟨hlt,ws,ws[ws.length - 1 - n],sq,List.getElem?_eq_getElem (by omega)⟩,fun σ2 H2=>∃ G,Ext Gs H0 G H2 /\ Same G1 G /\ J (n + 1) σ2 G,fun σ2 H2 q=>⟨ws.length - (n + 1),by omega,rfl,hlt,q⟩,fun y H' q=>?_⟩
    obtain ⟨eH,q⟩:=q
    subst eH
    obtain ⟨x,hx,px⟩:=paired_ix' h2 (q ws sq)
    have hx':xs.reverse[n]? = some x:=by
      rw [List.getElem?_reverse (by omega),<- lw]
      exact hx
    exact hs n x y σ' G hx' (Stab.st s px) ((a.trans e1.mono).trans s) j G _ (same_refl _) e.sub _ (fun σ2 G3 H3 e' n'=>⟨G3,e.trans e',s.trans e'.mono,n'⟩) fun v G3 H3 e' p=>r v G3 H3 (e.trans e') p
  · have en:n = xs.length:=by omega
    subst en
    exact .inl ⟨by show ws.length <= xs.length; omega,k σ' G H e j⟩
theorem evn_forRng {ta:TE} {tb:TS} (n:Nat) (J:Nat -> St -> Hp -> Prop) (hl:Ev ta σ Hs (I n)) (hz:n <= 1000000) (h0:∀ G,Same Hs G -> J 0 σ G)
    (hs:∀ k σ' G,k < n -> Same Hs G -> J k σ' G -> EvN tb (σ'.set i (some (.int k))) G (J (k + 1)) R):EvN (tFor (iRng1 (tCons ta tNil)) (gName i) tb) σ Hs (J n) R:=by
  intro Gs H0 a b D k r
  unfold tFor iRng1
  refine eva_cons hl eva_nil Gs H0 a b _ fun vs G1 H1 e1 p1=>?_
  obtain ⟨v,rfl,hv⟩:=all1 p1
  refine ⟨n,by rw [show v = _ from hv],by omega,by omega,?_⟩
  rw [Int.toNat_natCast]
  refine for_range (lo:=0) (n:=n) (fun k σ' H=>∃ G,Ext Gs H0 G H /\ Same G1 G /\ J k σ' G) ⟨G1,e1,same_refl _,h0 G1 (a.trans e1.mono)⟩ ?_ ?_
  · rintro m σ' H hm ⟨G,e,s,j⟩
    rw [show (0:Int) + (m:Int) = (m:Int) by omega]
    exact hs m σ' G hm ((a.trans e1.mono).trans s) j G H (same_refl _) e.sub _ (fun σ2 G3 H3 e' n'=>⟨G3,e.trans e',s.trans e'.mono,n'⟩) fun v G3 H3 e' p=>r v G3 H3 (e.trans e') p
  · rintro σ' H ⟨G,e,s,j⟩
    exact k σ' G H e j
end
structure Own (Gs H0:Hp) (a:Addr) (ys:List V) (G H:Hp):Prop where
  ext:Ext Gs H0 G H
  new:H0 a = none
  out:G a = none
  at_:H a = some (.lst ys)
theorem Own.step {Gs H0:Hp} {a:Addr} {ys:List V} {G H G2 H2:Hp} (o:Own Gs H0 a ys G H) (e:Ext G H G2 H2):Own Gs H0 a ys G2 H2:=by
  refine ⟨o.ext.trans e,o.new,?_,e.big _ _ o.at_⟩
  cases q:G2 a with
  | none=>rfl
  | some u=>exact (e.fr a u q).elim (fun z=>by rw [o.out] at z; cases z) fun z=>by rw [o.at_] at z; cases z
theorem Own.put {Gs H0:Hp} {a:Addr} {ys zs:List V} {G H:Hp} (o:Own Gs H0 a ys G H):Own Gs H0 a zs G (upd H a (.lst zs)):=⟨ext_at o.ext o.new o.out,o.new,o.out,upd_same⟩
theorem Own.done {Gs H0:Hp} {a:Addr} {ys:List V} {G H:Hp} (o:Own Gs H0 a ys G H):Ext Gs H0 (upd G a (.lst ys)) H:=ext_own o.ext o.new o.out o.at_
def EvO (Gs H0:Hp) (a:Addr) (t:TS) (σ:St) (G:Hp) (ys:List V) (N:St -> Hp -> List V -> Prop) (R:Pr):Prop :=
  ∀ H,Own Gs H0 a ys G H -> ∀ D:Ends,(∀ σ' G2 H2 ys',Own Gs H0 a ys' G2 H2 -> Same G G2 -> N σ' G2 ys' -> D.nx σ' H2) -> (∀ v G2 H2,Ext Gs H0 G2 H2 -> R G2 v -> D.rt v H2) -> t D σ H
section
variable {Gs H0:Hp} {a:Addr} {σ:St} {G:Hp} {ys:List V} {K:PySem.W.Frag} {N N':St -> Hp -> List V -> Prop} {R P:Pr} {te:TE} {t u:TS} {i j:Nat}
theorem evo_seq (h:EvO Gs H0 a t σ G ys N R) (g:∀ σ' G2 ys',Same G G2 -> N σ' G2 ys' -> EvO Gs H0 a u σ' G2 ys' N' R):EvO Gs H0 a (tSeq t u) σ G ys N' R:=fun H o D k r =>
  h H o _ (fun σ' G2 H2 ys' o2 s n=>g σ' G2 ys' s n H2 o2 D (fun σ3 G3 H3 ys3 o3 s3 n3=>k σ3 G3 H3 ys3 o3 (s.trans s3) n3) r) r
theorem evo_nil (h:N σ G ys):EvO Gs H0 a tNext σ G ys N R:=fun H o D k _=>k σ G H ys o (same_refl _) h
theorem evo_set (h:Ev te σ G P) (g:∀ v G2,Same G G2 -> P G2 v -> N (σ.set i (some v)) G2 ys):EvO Gs H0 a (tAsg te (gName i)) σ G ys N R:=fun H o D k _ =>
  h G H (same_refl _) o.ext.sub _ fun v G2 H2 e p=>k _ G2 H2 ys (o.step e) e.mono (g v G2 e.mono p)
theorem evo_if {c:TT} {b:Bool} (h:EvT c σ G b) (h1:b = true -> ∀ G2,Same G G2 -> EvO Gs H0 a t σ G2 ys N R) (h2:b = false -> ∀ G2,Same G G2 -> EvO Gs H0 a u σ G2 ys N R):EvO Gs H0 a (tIfS c t u) σ G ys N R:=fun H o D k r =>
  h G H (same_refl _) o.ext.sub _ fun G2 H2 e=>by
    cases b with
    | true=>rw [if_pos rfl]; exact h1 rfl G2 e.mono H2 (o.step e) D (fun σ3 G3 H3 ys3 o3 s3 n3=>k σ3 G3 H3 ys3 o3 (e.mono.trans s3) n3) r
    | false=>rw [if_neg (by decide)]; exact h2 rfl G2 e.mono H2 (o.step e) D (fun σ3 G3 H3 ys3 o3 s3 n3=>k σ3 G3 H3 ys3 o3 (e.mono.trans s3) n3) r
theorem evo_append (hi:σ[i]? = some (some (.ref a))) (h:Ev te σ G P) (hz:ys.length < 16000000) (g:∀ v G2,Same G G2 -> P G2 v -> N σ G2 (ys ++ [v])) :
    EvO Gs H0 a (tDrop (tBM K "list" rAppend (tVar i) (tCons te tNil))) σ G ys N R:=fun H o D k _=>by
  refine ⟨_,hi,.inl ⟨rfl,_,SqL.of o.at_⟩,?_⟩
  refine h G H (same_refl _) o.ext.sub _ fun v G2 H2 e p=>?_
  have o2:=o.step e
  exact ⟨a,ys,v,rfl,rfl,o2.at_,by rw [sizeLine_eq]; omega,k σ G2 _ _ o2.put e.mono (g v G2 e.mono p)⟩
theorem evo_extendT {ns:List Int} (hi:σ[i]? = some (some (.ref a))) (h:Ev te σ G (Tp ns)) (hz:ys.length + ns.length <= 16000000) (g:∀ G2,Same G G2 -> N σ G2 (ys ++ ns.map V.int)) :
    EvO Gs H0 a (tDrop (tBM K "list" rExtendT (tVar i) (tCons te tNil))) σ G ys N R:=fun H o D k _=>by
  refine ⟨_,hi,.inl ⟨rfl,_,SqL.of o.at_⟩,?_⟩
  refine h G H (same_refl _) o.ext.sub _ fun v G2 H2 e p=>?_
  have o2:=o.step e
  obtain ⟨c,rfl,hc⟩:=p
  exact ⟨a,c,ys,_,rfl,rfl,o2.at_,e.sub _ _ hc,by rw [sizeLine_eq,List.length_map]; omega,k σ G2 _ _ o2.put e.mono (g G2 e.mono)⟩
theorem evo_mono {M:St -> Hp -> List V -> Prop} (h:EvO Gs H0 a t σ G ys M R) (g:∀ σ' G2 ys',M σ' G2 ys' -> N σ' G2 ys'):EvO Gs H0 a t σ G ys N R:=fun H o D k r=>h H o D (fun σ' G2 H2 ys' o2 s n=>k σ' G2 H2 ys' o2 s (g _ _ _ n)) r
theorem evo_done (h:Same G (upd G a (.lst ys)) -> EvN t σ (upd G a (.lst ys)) NoN R):EvO Gs H0 a t σ G ys N R:=fun H o D _ r =>
  h (same_upd (same_refl _) o.out) _ H (same_refl _) o.done.sub D (fun _ _ _ _ z=>z.elim) fun v G2 H2 e p=>r v G2 H2 (o.done.trans e) p
theorem evo_for {α:Type} {P:α -> Pr} [∀ x,Stab (P x)] {tl:TE} {tb:TS} (xs:List α) (J:Nat -> St -> Hp -> List V -> Prop) (hl:Ev tl σ G (Ls P xs)) (h0:∀ G2,Same G G2 -> J 0 σ G2 ys)
    (hs:∀ k x v σ' G2 ys',xs[k]? = some x -> P x G2 v -> Same G G2 -> J k σ' G2 ys' -> EvO Gs H0 a tb (σ'.set i (some v)) G2 ys' (J (k + 1)) R):EvO Gs H0 a (tFor (iList K tl) (gName i) tb) σ G ys (J xs.length) R:=fun H o D k r=>by
  refine hl G H (same_refl _) o.ext.sub _ fun v G1 H1 e1 p1=>?_
  obtain ⟨c,ws,rfl,h1,h2⟩:=p1
  have lw:ws.length = xs.length:=Paired.length h2
  refine ⟨c,rfl,⟨ws,SqL.of (e1.sub _ _ h1)⟩,for_list (K:=K) (a:=c) (xs:=ws) (fun n σ' H=>∃ G2 ys',Own Gs H0 a ys' G2 H /\ Same G1 G2 /\ J n σ' G2 ys') ⟨G1,ys,o.step e1,same_refl _,h0 G1 e1.mono⟩ (fun n σ' H _ ⟨G2,ys',o2,s,_⟩=>SqL.of (o2.ext.sub _ _ (s _ _ h1))) ?_ ?_⟩
  · rintro n y σ' H hy ⟨G2,ys',o2,s,jj⟩
    obtain ⟨x,hx,px⟩:=paired_ix' h2 hy
    exact hs n x y σ' G2 ys' hx (Stab.st s px) (e1.mono.trans s) jj H o2 _ (fun σ3 G3 H3 ys3 o3 s3 n3=>⟨G3,ys3,o3,s.trans s3,n3⟩) r
  · rintro σ' H ⟨G2,ys',o2,s,jj⟩
    rw [lw] at jj
    exact k σ' G2 H ys' o2 (e1.mono.trans s) jj
theorem evo_forRng {ta:TE} {tb:TS} (n:Nat) (J:Nat -> St -> Hp -> List V -> Prop) (hl:Ev ta σ G (I n)) (hz:n <= 1000000) (h0:∀ G2,Same G G2 -> J 0 σ G2 ys)
    (hs:∀ k σ' G2 ys',k < n -> Same G G2 -> J k σ' G2 ys' -> EvO Gs H0 a tb (σ'.set i (some (.int k))) G2 ys' (J (k + 1)) R):EvO Gs H0 a (tFor (iRng1 (tCons ta tNil)) (gName i) tb) σ G ys (J n) R:=fun H o D k r=>by
  unfold tFor iRng1
  refine eva_cons hl eva_nil G H (same_refl _) o.ext.sub _ fun vs G1 H1 e1 p1=>?_
  obtain ⟨v,rfl,hv⟩:=all1 p1
  refine ⟨n,by rw [show v = _ from hv],by omega,by omega,?_⟩
  rw [Int.toNat_natCast]
  refine for_range (lo:=0) (n:=n) (fun m σ' H=>∃ G2 ys',Own Gs H0 a ys' G2 H /\ Same G1 G2 /\ J m σ' G2 ys') ⟨G1,ys,o.step e1,same_refl _,h0 G1 e1.mono⟩ ?_ ?_
  · rintro m σ' H hm ⟨G2,ys',o2,s,jj⟩
    rw [show (0:Int) + (m:Int) = (m:Int) by omega]
    exact hs m σ' G2 ys' hm (e1.mono.trans s) jj H o2 _ (fun σ3 G3 H3 ys3 o3 s3 n3=>⟨G3,ys3,o3,s.trans s3,n3⟩) r
  · rintro σ' H ⟨G2,ys',o2,s,jj⟩
    exact k σ' G2 H ys' o2 (e1.mono.trans s) jj
theorem evn_own {α:Type} (F:α -> Pr) [∀ x,Stab (F x)] (xs:List α) {ta:TA} {Hs:Hp} (h:EvA ta σ Hs (xs.map F)) (hz:xs.length <= 1000)
    (g:∀ Gs H0 c vs G2,Same Hs G2 -> Paired (fun u x=>F x G2 u) vs xs -> EvO Gs H0 c u (σ.set i (some (.ref c))) G2 vs (fun _ _ _=>False) R):EvN (tSeq (tAsg (tLst ta) (gName i)) u) σ Hs NoN R:=fun Gs H0 x y D _ r =>
  h Gs H0 x y _ fun vs G1 H1 e1 p1=>by
    have p:=allP_map p1
    have hl:=Paired.length p
    refine ⟨by rw [sizeLine_eq]; omega,fun c hc=>?_⟩
    exact g Gs H0 c vs G1 (x.trans e1.mono) p _ ⟨ext_at e1 (e1.big.free hc) (e1.sub.free hc),e1.big.free hc,e1.sub.free hc,upd_same⟩ D (fun _ _ _ _ _ _ z=>z.elim) r
end
section
variable {P:Program} {w:World} {K:PySem.W.Frag} {mg:Str -> Option Value} {base:Heap}
theorem pure_fn {ι:Type} {A:ι -> List Pr} {C:ι -> Prop} {R:ι -> Pr} {x qual:Str} {st:Stmt} {f:Addr} {fd:FuncData} {N ps:List Str} {k:Nat} (F:Fun K x qual st f fd) (S:FnScope N ps (defScope st)) (len:∀ y,(A y).length = ps.length)
    (hb:∀ (cdv:Value) (B:Around) (outer:List Env) (s:Shared) (H:Hp) (E:XK),Room k (B.deeper (envOfC qual (defScope st) s.heap.objs.size f cdv)) →
      ∃ t,PSs (cxOf CX0 P w K mg base N qual (defScope st) f cdv B outer s H E).nox (defBody st) t /\ ∀ y vs G,C y -> AllP G vs (A y) -> EvN t (start N vs) G NoN (R y)):FnOk P w K mg base CX0 (k + 1) f fd ps (spP A C R):=by
  refine F.ok S (fun vs H Q E h=>?_) (fun cdv B outer s H vs Q E hr h=>?_)
  · obtain ⟨y,G,_,_,p,_⟩:=h
    rw [Paired.length p,len y]
  · obtain ⟨y,G,sG,c,p,q⟩:=h
    obtain ⟨t,h1,h2⟩:=hb cdv B outer s H E hr
    exact ⟨t,h1,h2 y vs G c p G H (same_refl _) sG _ (fun _ _ _ _ z=>z.elim) fun v G2 H2 e r=>q v G2 H2 e r⟩
end
end L2.FF
end
section
namespace L2.FF
structure WD where
  m:Nat
  n:Nat
  bars:List (Nat × Nat)
  ties:List (Nat × Nat × Nat)
def e2 (x:Nat × Nat):List Int:=[(x.1:Int),(x.2:Int)]
def e3 (x:Nat × Nat × Nat):List Int:=[(x.1:Int),(x.2.1:Int),(x.2.2:Int)]
theorem e2_inj {x y:Nat × Nat} (h:e2 x = e2 y):x = y:=by
  unfold e2 at h
  simp only [List.cons.injEq,and_true] at h
  exact Prod.ext (by omega) (by omega)
theorem e3_inj {x y:Nat × Nat × Nat} (h:e3 x = e3 y):x = y:=by
  unfold e3 at h
  simp only [List.cons.injEq,and_true] at h
  exact Prod.ext (by omega) (Prod.ext (by show x.2.1 = y.2.1; omega) (by show x.2.2 = y.2.2; omega))
def pcount (fs:List Nat):Nat:=((List.range fs.length).filter fun k=>decide (fs.getD k 0 = k)).length
def sqs (m n:Nat):List (Nat × Nat):=(List.range m).flatMap fun i=>(List.range n).map fun j=>(i,j)
theorem sqs_succ (k n:Nat):sqs (k + 1) n = sqs k n ++ (List.range n).map fun j=>(k,j):=by
  unfold sqs
  rw [List.range_succ,List.flatMap_append]
  simp
theorem sqs_le (k n:Nat):(sqs k n).length = k * n:=by
  induction k with
  | zero=>simp [sqs]
  | succ k ih=>rw [sqs_succ,List.length_append,ih,List.length_map,List.length_range,Nat.succ_mul]
def jn (m:Nat) (fs:List Nat) (b:Nat × Nat):List Nat:=fs.map fun f=>if f = max (fs.getD b.1 0) (fs.getD (m + b.2) 0) then min (fs.getD b.1 0) (fs.getD (m + b.2) 0) else f
def bf (m n:Nat) (bs:List (Nat × Nat)):List Nat:=bs.foldl (jn m) (List.range (m + n))
theorem jn_len (m:Nat) (fs:List Nat) (b:Nat × Nat):(jn m fs b).length = fs.length:=List.length_map _
theorem fold_len (m:Nat):∀ (bs:List (Nat × Nat)) (fs:List Nat),(bs.foldl (jn m) fs).length = fs.length
  | [],fs=>rfl
  | b :: r,fs=>by rw [List.foldl_cons,fold_len m r,jn_len]
theorem bf_len (m n:Nat) (bs:List (Nat × Nat)):(bf m n bs).length = m + n:=by unfold bf; rw [fold_len,List.length_range]
def sh (m n:Nat) (bs:List (Nat × Nat)):Nat:=pcount (bf m n bs) - 1
def ka (m:Nat) (fs:List Nat) (x:Nat × Nat):Bool:=decide (fs.getD x.1 0 = fs.getD (m + x.2) 0)
def ang (m n:Nat) (bs:List (Nat × Nat)):List Nat:=(sqs m n).map fun x=>if ka m (bf m n bs) x then 1 else 0
def wo (bs:List (Nat × Nat)) (b:Nat × Nat):List (Nat × Nat):=bs.filter fun x=>x != b
def sizeOk (W:WD):Prop:=1 <= W.m /\ W.m <= 5 /\ 1 <= W.n /\ W.n <= 5
theorem sizeOk.sum {W:WD} (h:sizeOk W):2 <= W.m + W.n /\ W.m + W.n <= 10:=by obtain ⟨a,b,c,d⟩:=h; omega
theorem sizeOk.sqs {W:WD} (h:sizeOk W):(sqs W.m W.n).length <= 25:=by
  rw [sqs_le]
  exact Nat.mul_le_mul h.2.1 h.2.2.2
def inW (W:WD) (bs:List (Nat × Nat)):Prop:=bs.length <= 100 /\ ∀ b ∈ bs,b.1 < W.m /\ b.2 < W.n
theorem inW.wo {W:WD} {bs:List (Nat × Nat)} {b:Nat × Nat} (h:inW W bs):inW W (wo bs b):=⟨Nat.le_trans (List.length_filter_le _ _) h.1,fun x hx=>h.2 x (List.mem_filter.mp hx).1⟩
theorem sqs_mem {m n:Nat} {x:Nat × Nat} (h:x ∈ sqs m n):x.1 < m /\ x.2 < n:=by
  unfold sqs at h
  simp only [List.mem_flatMap,List.mem_range,List.mem_map] at h
  obtain ⟨i,hi,j,hj,rfl⟩:=h
  exact ⟨hi,hj⟩
theorem jn_zero {m:Nat} {fs:List Nat} {b:Nat × Nat} (h:fs[0]? = some 0):(jn m fs b)[0]? = some 0:=by
  unfold jn
  rw [List.getElem?_map,h]
  show some (if 0 = max (fs.getD b.1 0) (fs.getD (m + b.2) 0) then min (fs.getD b.1 0) (fs.getD (m + b.2) 0) else 0) = some 0
  split
  · congr 1; omega
  · rfl
theorem fold_zero {m:Nat}:∀ {bs:List (Nat × Nat)} {fs:List Nat},fs[0]? = some 0 -> (bs.foldl (jn m) fs)[0]? = some 0
  | [],_,h=>h
  | _ :: _,_,h=>by rw [List.foldl_cons]; exact fold_zero (jn_zero h)
theorem pc_pos {m n:Nat} {bs:List (Nat × Nat)} (h:0 < m + n):1 <= pcount (bf m n bs):=by
  have z:(bf m n bs)[0]? = some 0:=fold_zero (by rw [List.getElem?_range h])
  have l:=bf_len m n bs
  refine List.length_pos_iff_exists_mem.mpr ⟨0,List.mem_filter.mpr ⟨List.mem_range.mpr (by omega),decide_eq_true ?_⟩⟩
  rw [List.getD_eq_getElem?_getD,z]
  rfl
theorem filter_e {α:Type} [BEq α] [LawfulBEq α] {e:α -> List Int} (inj:∀ {x y},e x = e y -> x = y) (b:α):∀ bs:List α,(bs.map e).filter (fun y=>!decide (y = e b)) = (bs.filter fun x=>x != b).map e
  | []=>rfl
  | x :: r=>by
    have ih:=filter_e inj b r
    rw [List.map_cons,List.filter_cons,List.filter_cons,ih]
    by_cases h:x = b
    · subst h; simp
    · have:¬ e x = e b:=fun z=>h (inj z)
      simp [h,this]
theorem filter_e2 (b:Nat × Nat) (bs:List (Nat × Nat)):(bs.map e2).filter (fun y=>!decide (y = e2 b)) = (wo bs b).map e2:=filter_e e2_inj b bs
def inT (W:WD) (ts:List (Nat × Nat × Nat)):Prop:=ts.length <= 100 /\ ∀ t ∈ ts,t.1 < W.m /\ t.2.1 < W.n /\ t.2.2 <= 1
def okW (W:WD):Prop:=sizeOk W /\ inW W W.bars /\ inT W W.ties
def cnt (xs:List Nat):List Int:=(xs.length:Int) :: xs.map fun (k:Nat)=>(k:Int)
def flat2 (xs:List (Nat × Nat)):List Int:=(xs.length:Int) :: (xs.map e2).flatten
def flat3 (xs:List (Nat × Nat × Nat)):List Int:=(xs.length:Int) :: (xs.map e3).flatten
def isp (m n:Nat) (bs:List (Nat × Nat)) (b:Nat × Nat):Bool:=decide (sh m n (wo bs b) = sh m n bs)
def r_firm (W:WD):List Int:=[if decide (sh W.m W.n W.bars = 0) then 1 else 0,(sh W.m W.n W.bars:Nat)]
def r_part (W:WD) (s:Nat):List Nat:=(List.range (bf W.m W.n W.bars).length).filter fun k=>decide ((bf W.m W.n W.bars).getD k 0 = (bf W.m W.n W.bars).getD s 0)
def r_stills (W:WD):List Int:=[(((ang W.m W.n W.bars).sum:Nat):Int)] ++ (ang W.m W.n W.bars).map fun (k:Nat)=>(k:Int)
def r_alike (W:WD) (i j k l:Nat):Int:=if decide ((bf W.m W.n W.bars).getD i 0 = (bf W.m W.n W.bars).getD k 0) && decide ((bf W.m W.n W.bars).getD (W.m + j) 0 = (bf W.m W.n W.bars).getD (W.m + l) 0) then 1 else 0
def r_spare (W:WD) (b:Nat × Nat):List Int:=if W.bars.contains b then [if isp W.m W.n W.bars b then 1 else 0] else [-6]
def put1 (m:Nat) (s:List Nat × List (Nat × Nat)) (b:Nat × Nat):List Nat × List (Nat × Nat):=if ka m s.1 b then s else (jn m s.1 b,s.2 ++ [b])
def putS (m:Nat) (l:List (Nat × Nat)) (s:List Nat × List (Nat × Nat)):List Nat × List (Nat × Nat):=l.foldl (put1 m) s
def putM (m n:Nat) (bs:List (Nat × Nat)):List (Nat × Nat):=(putS m (sqs m n) (bf m n bs,[])).2
theorem putS_len (m:Nat):∀ (l:List (Nat × Nat)) (s:List Nat × List (Nat × Nat)),(putS m l s).1.length = s.1.length
  | [],_=>rfl
  | b :: r,s=>by
    show (putS m r (put1 m s b)).1.length = _
    rw [putS_len m r]
    unfold put1
    split
    · rfl
    · exact jn_len _ _ _
theorem putS_len2 (m:Nat):∀ (l:List (Nat × Nat)) (s:List Nat × List (Nat × Nat)),(putS m l s).2.length <= s.2.length + l.length
  | [],_=>Nat.le_refl _
  | b :: r,s=>by
    show (putS m r (put1 m s b)).2.length <= _
    have h:=putS_len2 m r (put1 m s b)
    have h2:(put1 m s b).2.length <= s.2.length + 1:=by
      unfold put1
      split
      · omega
      · simp
    rw [List.length_cons]
    omega
def thin1 (m n:Nat) (bs:List (Nat × Nat)) (b:Nat × Nat):List (Nat × Nat):=if isp m n bs b then wo bs b else bs
theorem thin1_pos {m n:Nat} {bs:List (Nat × Nat)} {b:Nat × Nat} (h:isp m n bs b = true):thin1 m n bs b = wo bs b:=by unfold thin1; rw [if_pos h]
theorem thin1_neg {m n:Nat} {bs:List (Nat × Nat)} {b:Nat × Nat} (h:isp m n bs b = false):thin1 m n bs b = bs:=by unfold thin1; rw [if_neg (by rw [h]; decide)]
def thinM (m n:Nat) (bs:List (Nat × Nat)):List (Nat × Nat):=bs.reverse.foldl (thin1 m n) bs
theorem thin_in {m n:Nat} {W:WD}:∀ (l:List (Nat × Nat)) {bs:List (Nat × Nat)},inW W bs -> inW W (l.foldl (thin1 m n) bs)
  | [],_,h=>h
  | b :: r,bs,h=>by
    rw [List.foldl_cons]
    refine thin_in r ?_
    unfold thin1
    split
    · exact h.wo
    · exact h
def bentM (W:WD) (l:List Nat):List (Nat × Nat):=(sqs W.m W.n).filter fun x=>!decide (l.getD x.1 0 = l.getD (W.m + x.2) 0)
def r_turn (W:WD) (l:List Nat):List Int:=if l.length ≠ W.m + W.n then [-22] else [if decide ((W.bars.filter fun x=>(bentM W l).contains x).length = 0) then 1 else 0,((bentM W l).length:Nat)]
def r_falls (W:WD) (b:Nat × Nat):List Int:=if W.bars.contains b then [((ang W.m W.n W.bars).sum:Nat) - ((ang W.m W.n (wo W.bars b)).sum:Nat),(sh W.m W.n (wo W.bars b):Nat)] else [-6]
def r_would (W:WD) (b:Nat × Nat):List Int:=if W.bars.contains b then [-17] else [(sh W.m W.n (W.bars ++ [b]):Nat),((ang W.m W.n (W.bars ++ [b])).sum:Nat) - ((ang W.m W.n W.bars).sum:Nat)]
theorem inW.app {W:WD} {bs:List (Nat × Nat)} {b:Nat × Nat} (h:inW W bs) (hz:bs.length <= 50) (h1:b.1 < W.m) (h2:b.2 < W.n):inW W (bs ++ [b]):=⟨by simp; omega,fun x hx=>by
  rcases List.mem_append.1 hx with hx | hx
  · exact h.2 x hx
  · rw [List.mem_singleton.mp hx]; exact ⟨h1,h2⟩⟩
def tsrc (m:Nat) (t:Nat × Nat × Nat):Nat:=if t.2.2 = 0 then t.1 else m + t.2.1
def ttgt (m:Nat) (t:Nat × Nat × Nat):Nat:=if t.2.2 = 0 then m + t.2.1 else t.1
def cm (tb:List Nat) (a b:Nat):Bool:=(tb.getD a 0).testBit b
def stp (m:Nat) (tb:List Nat) (t:Nat × Nat × Nat):List Nat:=if cm tb (tsrc m t) (ttgt m t) then tb else tb.map fun k=>if k.testBit (tsrc m t) then k ||| tb.getD (ttgt m t) 0 else k
def tt0 (N:Nat):List Nat:=(List.range N).map fun s=>2 ^ s
def tt (m n:Nat) (ts:List (Nat × Nat × Nat)):List Nat:=ts.foldl (stp m) (tt0 (m + n))
def rch (tb:List Nat) (a:Nat):List Nat:=(List.range tb.length).filter fun k=>cm tb a k
def tog (tb:List Nat) (a:Nat):List Nat:=(List.range tb.length).filter fun k=>decide (tb.getD k 0 = tb.getD a 0)
def tfT (tb:List Nat):List Nat:=(List.range tb.length).map fun s=>(tog tb s).getD 0 0
def tp (m n:Nat) (ts:List (Nat × Nat × Nat)):Nat:=pcount (tfT (tt m n ts))
def fmT (tb:List Nat):Bool:=decide (tb.min?.getD 0 = 2 ^ tb.length - 1)
def iend (tb:List Nat) (s:Nat):Bool:=((rch tb s).map fun o=>decide (tb.getD o 0 = tb.getD s 0)).all id
def ista (tb:List Nat) (s:Nat):Bool:=(((List.range tb.length).filter fun o=>cm tb o s).map fun o=>decide (tb.getD o 0 = tb.getD s 0)).all id
def roots (fs:List Nat):List Nat:=(List.range fs.length).filter fun k=>decide (fs.getD k 0 = k)
def pled (tb:List Nat):List Nat:=(List.range tb.length).filter fun k=>decide ((tfT tb).getD k 0 = k)
def eled (tb:List Nat):List Nat:=(pled tb).filter (iend tb)
def sled (tb:List Nat):List Nat:=(pled tb).filter (ista tb)
def mlean (m:Nat) (tb:List Nat) (t:Nat × Nat × Nat):Bool:=!cm tb (tsrc m t) (ttgt m t)
def two (xs:List (Nat × Nat)):List (Nat × Nat × Nat):=xs.flatMap fun x=>[(x.1,x.2,0),(x.1,x.2,1)]
def alean (m n:Nat) (tb:List Nat):List Nat:=(two (sqs m n)).map fun t=>if mlean m tb t then 1 else 0
def lcnt (m n:Nat) (ts:List (Nat × Nat × Nat)):Nat:=(alean m n (tt m n ts)).sum
def mdo (tb:List Nat) (k:Nat):Bool:=decide ((eled tb).length <= k) && decide ((sled tb).length <= k)
def floop (g:List Nat -> List (Nat × Nat × Nat) -> Option (List (Nat × Nat × Nat))) (m:Nat) (tb:List Nat):List (Nat × Nat × Nat) -> Option (List (Nat × Nat × Nat))
  | []=>none
  | t :: r=>match g (stp m tb t) r with
    | some s=>some (t :: s)
    | none=>floop g m tb r
def fset (m:Nat):Nat -> List Nat -> List (Nat × Nat × Nat) -> Option (List (Nat × Nat × Nat))
  | 0,tb,_=>if fmT tb then some [] else none
  | k + 1,tb,ms=>if mdo tb (k + 1) then floop (fset m k) m tb ms else none
def fkin (m:Nat):List (Nat × Nat) -> List Nat -> Option (List Nat)
  | [],tb=>if fmT tb then some [] else none
  | b :: r,tb=>match fkin m r (stp m tb (b.1,b.2,0)) with
    | some s=>some (0 :: s)
    | none=>match fkin m r (stp m tb (b.1,b.2,1)) with
      | some s=>some (1 :: s)
      | none=>none
def r_tfirm (W:WD):List Int:=[if decide (tp W.m W.n W.ties = 1) then 1 else 0,(tp W.m W.n W.ties:Nat)]
theorem stp_len (m:Nat) (tb:List Nat) (t:Nat × Nat × Nat):(stp m tb t).length = tb.length:=by
  unfold stp; split
  · rfl
  · exact List.length_map _
theorem foldt_len (m:Nat):∀ (ts:List (Nat × Nat × Nat)) (tb:List Nat),(ts.foldl (stp m) tb).length = tb.length
  | [],_=>rfl
  | t :: r,tb=>by rw [List.foldl_cons,foldt_len m r,stp_len]
theorem tt_len (m n:Nat) (ts:List (Nat × Nat × Nat)):(tt m n ts).length = m + n:=by unfold tt tt0; rw [foldt_len,List.length_map,List.length_range]
theorem tog_pos {tb:List Nat} {s:Nat} (hs:s < tb.length):0 < (tog tb s).length :=
  List.length_pos_iff_exists_mem.mpr ⟨s,List.mem_filter.mpr ⟨List.mem_range.mpr hs,decide_eq_true rfl⟩⟩
theorem tfT_len (tb:List Nat):(tfT tb).length = tb.length:=by unfold tfT; rw [List.length_map,List.length_range]
theorem two_len:∀ xs:List (Nat × Nat),(two xs).length = 2 * xs.length
  | []=>rfl
  | x :: r=>by
    have h:=two_len r
    unfold two at h ⊢
    rw [List.flatMap_cons,List.length_append,h,List.length_cons (as:=r)]
    show 2 + _ = _
    omega
theorem two_mem {t:Nat × Nat × Nat} {xs:List (Nat × Nat)}:t ∈ two xs ↔ (t.1,t.2.1) ∈ xs /\ t.2.2 <= 1:=by
  obtain ⟨i,j,d⟩:=t
  unfold two
  simp only [List.mem_flatMap,List.mem_cons,List.not_mem_nil,or_false,Prod.mk.injEq]
  constructor
  · rintro ⟨x,hx,⟨rfl,rfl,rfl⟩ | ⟨rfl,rfl,rfl⟩⟩
    · exact ⟨hx,Nat.zero_le _⟩
    · exact ⟨hx,Nat.le_refl _⟩
  · rintro ⟨hx,hd⟩
    refine ⟨_,hx,?_⟩
    dsimp only at hd ⊢
    rcases Nat.le_one_iff_eq_zero_or_eq_one.mp hd with h | h
    · exact .inl ⟨rfl,rfl,h⟩
    · exact .inr ⟨rfl,rfl,h⟩
def wo3 (ts:List (Nat × Nat × Nat)) (t:Nat × Nat × Nat):List (Nat × Nat × Nat):=ts.filter fun x=>x != t
theorem filter_e3 (b:Nat × Nat × Nat) (bs:List (Nat × Nat × Nat)):(bs.map e3).filter (fun y=>!decide (y = e3 b)) = (wo3 bs b).map e3:=filter_e e3_inj b bs
theorem pled_le (tb:List Nat):(pled tb).length <= tb.length:=by have:=List.length_filter_le (fun k=>decide ((tfT tb).getD k 0 = k)) (List.range tb.length); rw [List.length_range] at this; exact this
theorem inT.two {W:WD} {bs:List (Nat × Nat)} (h:inW W bs) (hz:bs.length <= 50):inT W (two bs):=⟨by rw [two_len]; omega,fun t ht=>by
  obtain ⟨h1,h2⟩:=two_mem.mp ht
  exact ⟨(h.2 _ h1).1,(h.2 _ h1).2,h2⟩⟩
theorem inT.app {W:WD} {ts:List (Nat × Nat × Nat)} {t:Nat × Nat × Nat} (h:inT W ts) (hz:ts.length <= 50) (h1:t.1 < W.m) (h2:t.2.1 < W.n) (h3:t.2.2 <= 1):inT W (ts ++ [t]):=⟨by simp; omega,fun x hx=>by
  rcases List.mem_append.1 hx with hx | hx
  · exact h.2 x hx
  · rw [List.mem_singleton.mp hx]; exact ⟨h1,h2,h3⟩⟩
theorem inT.wo3 {W:WD} {ts:List (Nat × Nat × Nat)} {t:Nat × Nat × Nat} (h:inT W ts):inT W (wo3 ts t):=⟨Nat.le_trans (List.length_filter_le _ _) h.1,fun x hx=>h.2 x (List.mem_filter.mp hx).1⟩
theorem first_ix {α:Type} [DecidableEq α] {x:α}:∀ {l:List α},x ∈ l -> ∃ j:Nat,l[j]? = some x /\ ∀ m:Nat,m < j -> l[m]? ≠ some x
  | y :: r,h=>by
    by_cases e:y = x
    · subst e; exact ⟨0,rfl,fun m hm=>by omega⟩
    · obtain ⟨j,h1,h2⟩:=first_ix (List.mem_of_ne_of_mem (fun z=>e z.symm) h)
      refine ⟨j + 1,h1,fun m hm=>?_⟩
      cases m with
      | zero=>exact fun z=>e (Option.some.inj z)
      | succ m=>exact h2 m (by omega)
theorem map_ix {α:Type} {e:α -> List Int} (inj:∀ {x y},e x = e y -> x = y) {l:List α} {m:Nat} {x:α} (h:(l.map e)[m]? = some (e x)):l[m]? = some x:=by
  rw [List.getElem?_map] at h
  cases q:l[m]? with
  | none=>rw [q] at h; cases h
  | some y=>rw [q] at h; rw [inj (Option.some.inj h)]
theorem erase_filter {α:Type} [BEq α] [LawfulBEq α] {x:α}:∀ {l:List α} {j:Nat},l.Nodup -> l[j]? = some x -> l.eraseIdx j = l.filter fun y=>y != x
  | y :: r,0,nd,h=>by
    cases Option.some.inj h
    have n:=(List.nodup_cons.mp nd).1
    rw [List.filter_cons,if_neg (by simp)]
    show r = _
    rw [List.filter_eq_self.mpr]
    intro z hz
    exact bne_iff_ne.mpr fun e=>n (e ▸ hz)
  | y :: r,j + 1,nd,h=>by
    have n:=List.nodup_cons.mp nd
    have hm:x ∈ r:=List.mem_of_getElem? (show r[j]? = some x from h)
    rw [List.filter_cons,if_pos (bne_iff_ne.mpr fun e:y = x=>n.1 (by rw [e]; exact hm)),<- erase_filter n.2 (show r[j]? = some x from h)]
    rfl
theorem erase_wo {l:List (Nat × Nat)} {j:Nat} {x:Nat × Nat} (nd:l.Nodup) (h:l[j]? = some x):l.eraseIdx j = wo l x:=erase_filter nd h
theorem erase_wo3 {l:List (Nat × Nat × Nat)} {j:Nat} {x:Nat × Nat × Nat} (nd:l.Nodup) (h:l[j]? = some x):l.eraseIdx j = wo3 l x:=erase_filter nd h
def ci (l:List Nat):List Int:=l.map fun (k:Nat)=>(k:Int)
def bi (b:Bool):Int:=if b then 1 else 0
abbrev WD.tb (W:WD):List Nat:=tt W.m W.n W.ties
def r_ends (W:WD):List Int:=[((eled W.tb).length:Int),((sled W.tb).length:Int)] ++ ci (eled W.tb) ++ ci (sled W.tb)
def r_tall (W:WD):List Int:=[((alean W.m W.n W.tb).sum:Int)] ++ ci (alean W.m W.n W.tb)
def r_lean (W:WD) (t:Nat × Nat × Nat):List Int:=if mlean W.m W.tb t then cnt ((List.range W.tb.length).map fun s=>if cm W.tb (tsrc W.m t) s then 1 else 0) else [-33]
def brokT (W:WD) (l:List Nat):List (Nat × Nat × Nat):=W.ties.filter fun t=>decide (l.getD (ttgt W.m t) 0 < l.getD (tsrc W.m t) 0)
def r_tturn (W:WD) (l:List Nat):List Int:=if l.length ≠ W.m + W.n then [-22] else [bi (decide ((brokT W l).length = 0)),((bentM W l).length:Nat)]
def spT (W:WD) (t:Nat × Nat × Nat):Bool:=!mlean W.m (tt W.m W.n (wo3 W.ties t)) t
def r_tspare (W:WD) (t:Nat × Nat × Nat):List Int:=if W.ties.contains t then [bi (spT W t)] else [-6]
def missT (W:WD):List (Nat × Nat × Nat):=(two (sqs W.m W.n)).filter fun t=>!W.ties.contains t
def tputO (W:WD):Option (List (Nat × Nat × Nat)):=(List.range 5).findSome? fun k=>fset W.m k W.tb (missT W)
def r_tput (W:WD):List Int:=if 9 < W.m * W.n then [-28] else match tputO W with
  | some s=>flat3 s
  | none=>[-33]
def r_twould (W:WD) (t:Nat × Nat × Nat):List Int:=if W.ties.contains t then [-17] else [(tp W.m W.n (W.ties ++ [t]):Nat),(lcnt W.m W.n W.ties:Nat) - (lcnt W.m W.n (W.ties ++ [t]):Nat)]
def r_tfalls (W:WD) (t:Nat × Nat × Nat):List Int:=if W.ties.contains t then [(tp W.m W.n (wo3 W.ties t):Nat),(lcnt W.m W.n (wo3 W.ties t):Nat) - (lcnt W.m W.n W.ties:Nat)] else [-6]
def r_stiff (W:WD) (b:Nat × Nat):List Int:=[bi ((tog W.tb b.1).contains (W.m + b.2)),bi (decide (((two [b]).filter fun t=>W.ties.contains t).length = 2))]
def oth (t:Nat × Nat × Nat):Nat × Nat × Nat:=(t.1,t.2.1,1 - t.2.2)
def flipL (ts:List (Nat × Nat × Nat)) (t:Nat × Nat × Nat):List (Nat × Nat × Nat):=ts.map fun x=>if x = t then oth t else x
def u_flip (W:WD) (t:Nat × Nat × Nat):WD:=if W.ties.contains t then if W.ties.contains (oth t) then W else { W with ties:=flipL W.ties t } else W
def r_flip (W:WD) (t:Nat × Nat × Nat):List Int:=if W.ties.contains t then if W.ties.contains (oth t) then [-17] else [(tp W.m W.n (flipL W.ties t):Nat)] else [-6]
def mixL (W:WD) (bs:List (Nat × Nat)):List (Nat × Nat × Nat):=two bs ++ W.ties
def needB (W:WD):List (Nat × Nat):=W.bars.filter fun b=>!isp W.m W.n W.bars b
def zipT (bs:List (Nat × Nat)) (ks:List Nat):List (Nat × Nat × Nat):=List.zipWith (fun (x:Nat × Nat) d=>(x.1,x.2,d)) bs ks
def sglO (W:WD):Option (List Nat):=fkin W.m W.bars (tt0 (W.m + W.n))
def u_single (W:WD):WD:=if 9 < W.bars.length then W else match sglO W with
  | some k=>{ W with ties:=zipT W.bars k }
  | none=>W
def r_single (W:WD):List Int:=if 9 < W.bars.length then [-28] else match sglO W with
  | some k=>cnt k
  | none=>[-33]
def r_can (W:WD):List Int:=[bi (decide (sh W.m W.n W.bars = 0) && decide ((needB W).length = 0)),((needB W).length:Nat)]
def mxp (W:WD) (bs:List (Nat × Nat)):Nat:=tp W.m W.n (mixL W bs)
def r_mixed (W:WD):List Int:=[bi (decide (mxp W W.bars = 1)),(mxp W W.bars:Nat),(lcnt W.m W.n (mixL W W.bars):Nat)]
def mtb (W:WD):List Nat:=tt W.m W.n (mixL W W.bars)
def idlB (W:WD):List (Nat × Nat):=W.bars.filter fun b=>decide (mxp W (wo W.bars b) = mxp W W.bars)
def r_change (W:WD):List Int:=[(sh W.m W.n W.bars:Nat),(tp W.m W.n (two W.bars):Nat),(tp W.m W.n W.ties:Nat),(mxp W W.bars:Nat)]
theorem findSome_at {β:Type} {f:Nat -> Option β} {s:β}:∀ {n l:Nat},(∀ i,i < l -> f i = none) -> f l = some s -> l < n -> (List.range n).findSome? f = some s
  | n,l,h0,h1,hl=>by
    rw [show List.range n = List.range l ++ (l :: (List.range n).drop (l + 1)) by
      have e:=List.take_append_drop l (List.range n)
      rw [List.take_range,Nat.min_eq_left (by omega),List.drop_eq_getElem_cons (by rw [List.length_range]; exact hl),List.getElem_range] at e
      exact e.symm,List.findSome?_append,List.findSome?_eq_none_iff.mpr fun x hx=>h0 x (List.mem_range.mp hx),Option.none_or,List.findSome?_cons,h1]
theorem set_flip {t o:Nat × Nat × Nat}:∀ {l:List (Nat × Nat × Nat)} {j:Nat},l.Nodup -> l[j]? = some t -> l.set j o = l.map fun x=>if x = t then o else x
  | y :: r,0,nd,h=>by
    cases Option.some.inj h
    have n:=(List.nodup_cons.mp nd).1
    rw [List.set_cons_zero,List.map_cons,if_pos rfl]
    congr 1
    conv=>lhs; rw [<- List.map_id r]
    exact List.map_congr_left fun x hx=>(if_neg fun (e:x = t)=>n (by rw [<- e]; exact hx)).symm
  | y :: r,j + 1,nd,h=>by
    have n:=List.nodup_cons.mp nd
    have hm:t ∈ r:=List.mem_of_getElem? (show r[j]? = some t from h)
    rw [List.set_cons_succ,List.map_cons,if_neg (show ¬ y = t from fun e=>n.1 (by rw [e]; exact hm)),set_flip n.2 (show r[j]? = some t from h)]
theorem miss_le {W:WD} (h:sizeOk W):(missT W).length <= 50:=Nat.le_trans (List.length_filter_le _ _) (by rw [two_len]; have:=h.sqs; omega)
theorem fset_len {m:Nat}:∀ {k:Nat} {tb:List Nat} {ms s:List (Nat × Nat × Nat)},fset m k tb ms = some s -> s.length = k
  | 0,tb,ms,s,h=>by
    have h:(if fmT tb = true then some [] else none) = some s:=h
    split at h <;> cases h
    rfl
  | k + 1,tb,ms,s,h=>by
    replace h:(if mdo tb (k + 1) = true then floop (fset m k) m tb ms else none) = some s:=h
    split at h
    · induction ms with
      | nil=>cases h
      | cons t r ih =>
        have h:(match fset m k (stp m tb t) r with | some s=>some (t :: s) | none=>floop (fset m k) m tb r) = some s:=h
        split at h
        · rename_i s' e
          cases h
          rw [List.length_cons,fset_len e]
        · exact ih h
    · cases h
theorem fkin_len {m:Nat}:∀ {bs:List (Nat × Nat)} {tb:List Nat} {s:List Nat},fkin m bs tb = some s -> s.length = bs.length /\ ∀ x ∈ s,x <= 1
  | [],tb,s,h=>by
    have h:(if fmT tb = true then some [] else none) = some s:=h
    split at h <;> cases h
    exact ⟨rfl,fun x hx=>by cases hx⟩
  | b :: r,tb,s,h=>by
    have h:(match fkin m r (stp m tb (b.1,b.2,0)) with | some s=>some (0 :: s) | none=>match fkin m r (stp m tb (b.1,b.2,1)) with | some s=>some (1 :: s) | none=>none) = some s:=h
    have fin:∀ {d:Nat} {tb:List Nat} {s':List Nat},d <= 1 -> fkin m r tb = some s' -> (d :: s').length = (b :: r).length /\ ∀ x ∈ d :: s',x <= 1:=fun hd e=>by
      obtain ⟨a,c⟩:=fkin_len e
      exact ⟨by rw [List.length_cons,List.length_cons,a],fun x hx=>(List.mem_cons.mp hx).elim (fun z=>z ▸ hd) (c x)⟩
    split at h
    · rename_i s' e
      cases h
      exact fin (Nat.zero_le _) e
    · split at h
      · rename_i s' e
        cases h
        exact fin (Nat.le_refl _) e
      · cases h
theorem inT.mix {W:WD} {bs:List (Nat × Nat)} (h:inW W bs) (hz:bs.length <= 25) (ht:inT W W.ties) (hz2:W.ties.length <= 50):inT W (mixL W bs):=⟨by unfold mixL; rw [List.length_append,two_len]; omega,fun t hx=>(List.mem_append.mp hx).elim ((inT.two h (by omega)).2 t) (ht.2 t)⟩
theorem flip_in {W:WD} {t:Nat × Nat × Nat} (h:inT W W.ties) (ht:W.ties.contains t = true):inT W (flipL W.ties t):=⟨by unfold flipL; rw [List.length_map]; exact h.1,fun x hx=>by
  obtain ⟨y,hy,rfl⟩:=List.mem_map.mp hx
  have h1:=h.2 t (List.contains_iff_mem.mp ht)
  split
  · exact ⟨h1.1,h1.2.1,by show 1 - t.2.2 <= 1; omega⟩
  · exact h.2 y hy⟩
end L2.FF
end
section
namespace L2.FF
open PySem PySem.Spec PyProof.Rows
abbrev NI (n:Nat):Pr:=I (n:Int)
abbrev P2 (x:Nat × Nat):Pr:=Tp (e2 x)
abbrev P3 (x:Nat × Nat × Nat):Pr:=Tp (e3 x)
theorem paired_map {α:Type} {e:α -> List Int} {H:Hp}:∀ {vs:List V} {xs:List α},Paired (fun u x=>Tp (e x) H u) vs xs -> Paired (fun u ns=>Tp ns H u) vs (xs.map e)
  | _,_,.nil=>.nil
  | _,_,.cons a t=>.cons a (paired_map t)
theorem ls_map {α:Type} {e:α -> List Int} {xs:List α} {H:Hp} {v:V} (h:Ls (fun x=>Tp (e x)) xs H v):Ls Tp (xs.map e) H v:=by
  obtain ⟨a,vs,q,h1,h2⟩:=h
  exact ⟨a,vs,q,h1,paired_map h2⟩
theorem map_paired {α:Type} {e:α -> List Int} {H:Hp}:∀ {vs:List V} {xs:List α},Paired (fun u ns=>Tp ns H u) vs (xs.map e) -> Paired (fun u x=>Tp (e x) H u) vs xs
  | _,[],h=>by cases h; exact .nil
  | _,x :: r,h=>by
    cases h with
    | cons a t=>exact .cons a (map_paired t)
theorem map_ls {α:Type} {e:α -> List Int} {xs:List α} {H:Hp} {v:V} (h:Ls Tp (xs.map e) H v):Ls (fun x=>Tp (e x)) xs H v:=by
  obtain ⟨a,vs,q,h1,h2⟩:=h
  exact ⟨a,vs,q,h1,map_paired h2⟩
theorem contains_map {α:Type} [BEq α] [LawfulBEq α] {e:α -> List Int} (inj:∀ {x y},e x = e y -> x = y) (x:α):∀ xs:List α,(xs.map e).contains (e x) = xs.contains x
  | []=>rfl
  | y :: r=>by
    rw [List.map_cons,List.contains_cons,List.contains_cons,contains_map inj x r,show (e x == e y) = (x == y) by rw [Bool.eq_iff_iff,beq_iff_eq,beq_iff_eq]; exact ⟨inj,fun h=>by rw [h]⟩]
theorem paired_nat {H:Hp}:∀ {vs:List V} {ns:List Nat},Paired (fun u n=>NI n H u) vs ns -> Paired (fun u n=>I n H u) vs (ns.map fun (k:Nat)=>(k:Int))
  | _,_,.nil=>.nil
  | _,_,.cons a t=>.cons a (paired_nat t)
theorem nat_paired {H:Hp}:∀ {vs:List V} {ns:List Nat},Paired (fun u n=>I n H u) vs (ns.map fun (k:Nat)=>(k:Int)) -> Paired (fun u n=>NI n H u) vs ns
  | _,[],h=>by cases h; exact .nil
  | _,n :: r,h=>by
    cases h with
    | cons a t=>exact .cons a (nat_paired t)
theorem ls_nat {ns:List Nat} {H:Hp} {v:V} (h:Ls NI ns H v):Ls I (ns.map fun (k:Nat)=>(k:Int)) H v:=by
  obtain ⟨a,vs,q,h1,h2⟩:=h
  exact ⟨a,vs,q,h1,paired_nat h2⟩
theorem nat_ls {ns:List Nat} {H:Hp} {v:V} (h:Ls I (ns.map fun (k:Nat)=>(k:Int)) H v):Ls NI ns H v:=by
  obtain ⟨a,vs,q,h1,h2⟩:=h
  exact ⟨a,vs,q,h1,nat_paired h2⟩
theorem sum_cast:∀ ns:List Nat,(ns.map fun (k:Nat)=>(k:Int)).sum = ((ns.sum:Nat):Int)
  | []=>rfl
  | n :: r=>by rw [List.map_cons,List.sum_cons,sum_cast r,List.sum_cons]; push_cast; rfl
def Sq (ns:List Int):Pr:=fun H v=>Tp ns H v \/ Ls I ns H v
instance {ns:List Int}:Stab (Sq ns):=⟨fun e h=>h.elim (fun h=>.inl (Stab.st e h)) fun h=>.inr (Stab.st e h)⟩
section
variable {σ:St} {Hs:Hp} {ta tb:TE} {K:PySem.W.Frag} {a b:Nat}
theorem ev_addN (ha:Ev ta σ Hs (NI a)) (hb:Ev tb σ Hs (NI b)):Ev (tOp (rI0 fun i j=>.int (i + j)) ta tb) σ Hs (NI (a + b)):=(ev_add ha hb).int_eq (by push_cast; rfl)
theorem ev_subN (ha:Ev ta σ Hs (NI a)) (hb:Ev tb σ Hs (NI b)) (h:b <= a):Ev (tOp (rI0 fun i j=>.int (i - j)) ta tb) σ Hs (NI (a - b)):=(ev_sub ha hb).int_eq (by omega)
theorem ev_eqN (ha:Ev ta σ Hs (NI a)) (hb:Ev tb σ Hs (NI b)):Ev (tOp rEq ta tb) σ Hs (B (decide (a = b))):=(ev_eqI ha hb).imp fun H v h=>by
  rw [show v = _ from h]; exact congrArg V.bl (decide_eq_decide.mpr (by omega))
theorem ev_neN (ha:Ev ta σ Hs (NI a)) (hb:Ev tb σ Hs (NI b)):Ev (tOp rNe ta tb) σ Hs (B (!decide (a = b))):=(ev_neI ha hb).imp fun H v h=>by
  rw [show v = _ from h]; exact congrArg (fun z=>V.bl (!z)) (decide_eq_decide.mpr (by omega))
theorem ev_ltN (ha:Ev ta σ Hs (NI a)) (hb:Ev tb σ Hs (NI b)):Ev (tOp (rI0 fun i j=>.bl (decide (i < j))) ta tb) σ Hs (B (decide (a < b))):=(ev_lt ha hb).imp fun H v h=>by
  rw [show v = _ from h]; exact congrArg V.bl (decide_eq_decide.mpr (by omega))
theorem ev_gtN (ha:Ev ta σ Hs (NI a)) (hb:Ev tb σ Hs (NI b)):Ev (tOp (rI0 fun i j=>.bl (decide (j < i))) ta tb) σ Hs (B (decide (b < a))):=(ev_gt ha hb).imp fun H v h=>by
  rw [show v = _ from h]; exact congrArg V.bl (decide_eq_decide.mpr (by omega))
theorem ev_minN (ha:Ev ta σ Hs (NI a)) (hb:Ev tb σ Hs (NI b)):Ev (tCB rMin2 (tCons ta (tCons tb tNil))) σ Hs (NI (min a b)):=(ev_min2 ha hb).int_eq (by split <;> omega)
theorem ev_maxN (ha:Ev ta σ Hs (NI a)) (hb:Ev tb σ Hs (NI b)):Ev (tCB rMax2 (tCons ta (tCons tb tNil))) σ Hs (NI (max a b)):=(ev_max2 ha hb).int_eq (by split <;> omega)
theorem ev_ixN {xs:List Nat} {n:Nat} (ha:Ev ta σ Hs (Ls NI xs)) (hb:Ev tb σ Hs (NI n)) (h:n < xs.length):Ev (tOp (rIxL K) ta tb) σ Hs (NI (xs.getD n 0)) :=
  ev_ixL ha hb rfl (by rw [List.getD_eq_getElem?_getD,List.getElem?_eq_getElem h]; rfl)
theorem ev_ixS {ns:List Int} {i:Int} {n:Nat} {x:Int} (ha:Ev ta σ Hs (Sq ns)) (hb:Ev tb σ Hs (I i)) (e:i = (n:Int)) (h:ns[n]? = some x):Ev (tOp (rIx K) ta tb) σ Hs (I x) :=
  ev2 ha hb fun y z G H s p q Q k=>by
    rcases p with p | p
    · obtain ⟨a,rfl,h1⟩:=p
      exact .inr (.inl ⟨a,ns.map V.int,i,.int x,rfl,q,SqT.of (s _ _ h1),by rw [e]; exact atI_nat (by rw [List.getElem?_map,h]; rfl),k _ G H (.refl s) rfl⟩)
    · obtain ⟨a,ws,rfl,h1,h2⟩:=p
      obtain ⟨v,h3,h4⟩:=paired_ix h2 h
      exact .inl ⟨a,ws,i,v,rfl,q,SqL.of (s _ _ h1),by rw [e]; exact atI_nat h3,k v G H (.refl s) h4⟩
theorem ev_in2 {x:Nat × Nat} {xs:List (Nat × Nat)} (ha:Ev ta σ Hs (P2 x)) (hb:Ev tb σ Hs (Ls P2 xs)):Ev (tOp rInT ta tb) σ Hs (B (xs.contains x)):=by
  have q:=ev_inT ha (hb.imp fun H v h=>ls_map h)
  rw [contains_map e2_inj] at q
  exact q
theorem ev_notin2 {x:Nat × Nat} {xs:List (Nat × Nat)} (ha:Ev ta σ Hs (P2 x)) (hb:Ev tb σ Hs (Ls P2 xs)):Ev (tOp rNotInT ta tb) σ Hs (B (!xs.contains x)):=by
  have q:=ev_notinT ha (hb.imp fun H v h=>ls_map h)
  rw [contains_map e2_inj] at q
  exact q
theorem ev_in3 {x:Nat × Nat × Nat} {xs:List (Nat × Nat × Nat)} (ha:Ev ta σ Hs (P3 x)) (hb:Ev tb σ Hs (Ls P3 xs)):Ev (tOp rInT ta tb) σ Hs (B (xs.contains x)):=by
  have q:=ev_inT ha (hb.imp fun H v h=>ls_map h)
  rw [contains_map e3_inj] at q
  exact q
theorem ev_notin3 {x:Nat × Nat × Nat} {xs:List (Nat × Nat × Nat)} (ha:Ev ta σ Hs (P3 x)) (hb:Ev tb σ Hs (Ls P3 xs)):Ev (tOp rNotInT ta tb) σ Hs (B (!xs.contains x)):=by
  have q:=ev_notinT ha (hb.imp fun H v h=>ls_map h)
  rw [contains_map e3_inj] at q
  exact q
theorem ev_listRngN {n:Nat} (h:Ev ta σ Hs (NI n)) (hz:n <= 1000000):Ev (tCB rListRng (tCons (tCB rRng1 (tCons ta tNil)) tNil)) σ Hs (Ls NI (List.range n)):=(ev_listRng h hz).imp fun H v h=>nat_ls h
theorem ev_sumN {ns:List Nat} (h:Ev ta σ Hs (Ls NI ns)):Ev (tCB (rSum K) (tCons ta tNil)) σ Hs (NI ns.sum):=(ev_sum (h.imp fun H v h=>ls_nat h)).int_eq (sum_cast ns)
end
def wf (m n:Int) (bl tl:Addr):List (Str × V):=[(("rows":Str),V.int m),(("columns":Str),V.int n),(("bars":Str),V.ref bl),(("ties":Str),V.ref tl)]
theorem lk_miss {f g:Str} {v:V} {r:List (Str × V)} (h:(f == g) = false):((g,v) :: r).lookup f = r.lookup f:=by rw [List.lookup_cons,h]
theorem lk_hit {f:Str} {v:V} {r:List (Str × V)}:((f,v) :: r).lookup f = some v:=by rw [List.lookup_cons,beq_self_eq_true]
theorem putF_pos {f:Str} {v u:V} {r:List (Str × V)}:putF f v ((f,u) :: r) = (f,v) :: r:=by unfold putF; rw [if_pos rfl]
theorem putF_neg {f g:Str} {v u:V} {r:List (Str × V)} (h:¬ g = f):putF f v ((g,u) :: r) = (g,u) :: putF f v r:=by rw [putF,if_neg h]
theorem wf_pR {m n r:Int} {bl tl:Addr}:putF "rows" (.int r) (wf m n bl tl) = wf r n bl tl:=by unfold wf; rw [putF_pos]
theorem wf_pC {m n r:Int} {bl tl:Addr}:putF "columns" (.int r) (wf m n bl tl) = wf m r bl tl:=by unfold wf; rw [putF_neg (by decide +kernel),putF_pos]
theorem wf_pB {m n:Int} {bl tl b2:Addr}:putF "bars" (.ref b2) (wf m n bl tl) = wf m n b2 tl:=by unfold wf; rw [putF_neg (by decide +kernel),putF_neg (by decide +kernel),putF_pos]
theorem wf_pT {m n:Int} {bl tl t2:Addr}:putF "ties" (.ref t2) (wf m n bl tl) = wf m n bl t2:=by unfold wf; rw [putF_neg (by decide +kernel),putF_neg (by decide +kernel),putF_neg (by decide +kernel),putF_pos]
theorem wf_len {m n:Int} {bl tl:Addr}:(wf m n bl tl).length < 1000:=by show 4 < 1000; decide
theorem wf_new {m n:Int} {bl tl:Addr}:putF "ties" (.ref tl) (putF "bars" (.ref bl) (putF "columns" (.int n) (putF "rows" (.int m) []))) = wf m n bl tl:=by
  have a:putF "rows" (V.int m) [] = [(("rows":Str),V.int m)]:=rfl
  have b:putF "columns" (V.int n) [(("rows":Str),V.int m)] = [(("rows":Str),V.int m),(("columns":Str),V.int n)]:=by rw [putF_neg (by decide +kernel)]; rfl
  have c:putF "bars" (V.ref bl) [(("rows":Str),V.int m),(("columns":Str),V.int n)] = [(("rows":Str),V.int m),(("columns":Str),V.int n),(("bars":Str),V.ref bl)]:=by rw [putF_neg (by decide +kernel),putF_neg (by decide +kernel)]; rfl
  rw [a,b,c,putF_neg (by decide +kernel),putF_neg (by decide +kernel),putF_neg (by decide +kernel)]
  rfl
structure WAt (C:Addr) (W:WD) (H:Hp) (p dx bl tl:Addr):Prop where
  ins:H p = some (.ins C dx (wf W.m W.n bl tl))
  own:H dx = some (.own p)
  br:Ls P2 W.bars H (.ref bl)
  ti:Ls P3 W.ties H (.ref tl)
  ne:bl ≠ tl
def WA (C:Addr) (W:WD):Pr:=fun H v=>∃ p dx bl tl,v = .ref p /\ WAt C W H p dx bl tl
theorem WAt.same {C:Addr} {W:WD} {H H':Hp} {p dx bl tl:Addr} (h:WAt C W H p dx bl tl) (e:Same H H'):WAt C W H' p dx bl tl:=⟨e _ _ h.ins,e _ _ h.own,Stab.st e h.br,Stab.st e h.ti,h.ne⟩
instance {C:Addr} {W:WD}:Stab (WA C W):=⟨fun e ⟨p,dx,bl,tl,q,h⟩=>⟨p,dx,bl,tl,q,h.same e⟩⟩
theorem wf_rows {m n:Int} {bl tl:Addr}:(wf m n bl tl).lookup ("rows":Str) = some (.int m):=by unfold wf; rw [lk_hit]
theorem wf_cols {m n:Int} {bl tl:Addr}:(wf m n bl tl).lookup ("columns":Str) = some (.int n):=by unfold wf; rw [lk_miss (by decide +kernel),lk_hit]
theorem wf_bars {m n:Int} {bl tl:Addr}:(wf m n bl tl).lookup ("bars":Str) = some (.ref bl):=by unfold wf; rw [lk_miss (by decide +kernel),lk_miss (by decide +kernel),lk_hit]
theorem wf_ties {m n:Int} {bl tl:Addr}:(wf m n bl tl).lookup ("ties":Str) = some (.ref tl):=by unfold wf; rw [lk_miss (by decide +kernel),lk_miss (by decide +kernel),lk_miss (by decide +kernel),lk_hit]
structure Txt (K:PySem.W.Frag) (C:Addr):Prop where
  cl:Cls K C
  nR:NoAttr K C "rows"
  nC:NoAttr K C "columns"
  nB:NoAttr K C "bars"
  nT:NoAttr K C "ties"
section
variable {σ:St} {Hs:Hp} {K:PySem.W.Frag} {C:Addr} {W:WD} {ta:TE}
theorem ev_rows (x:Txt K C) (h:Ev ta σ Hs (WA C W)):Ev (tFld K ta "rows") σ Hs (I W.m):=fun G H a b Q k=>h G H a b _ fun v G2 H2 e p=>by
  obtain ⟨p,dx,bl,tl,rfl,q⟩:=p
  exact ⟨p,C,dx,_,_,rfl,e.sub _ _ q.ins,x.cl,x.nR,wf_rows,k _ G2 H2 e rfl⟩
theorem ev_cols (x:Txt K C) (h:Ev ta σ Hs (WA C W)):Ev (tFld K ta "columns") σ Hs (I W.n):=fun G H a b Q k=>h G H a b _ fun v G2 H2 e p=>by
  obtain ⟨p,dx,bl,tl,rfl,q⟩:=p
  exact ⟨p,C,dx,_,_,rfl,e.sub _ _ q.ins,x.cl,x.nC,wf_cols,k _ G2 H2 e rfl⟩
theorem ev_bars (x:Txt K C) (h:Ev ta σ Hs (WA C W)):Ev (tFld K ta "bars") σ Hs (Ls P2 W.bars):=fun G H a b Q k=>h G H a b _ fun v G2 H2 e p=>by
  obtain ⟨p,dx,bl,tl,rfl,q⟩:=p
  exact ⟨p,C,dx,_,_,rfl,e.sub _ _ q.ins,x.cl,x.nB,wf_bars,k _ G2 H2 e q.br⟩
theorem ev_ties (x:Txt K C) (h:Ev ta σ Hs (WA C W)):Ev (tFld K ta "ties") σ Hs (Ls P3 W.ties):=fun G H a b Q k=>h G H a b _ fun v G2 H2 e p=>by
  obtain ⟨p,dx,bl,tl,rfl,q⟩:=p
  exact ⟨p,C,dx,_,_,rfl,e.sub _ _ q.ins,x.cl,x.nT,wf_ties,k _ G2 H2 e q.ti⟩
end
theorem same_upd2 {G H:Hp} {a:Addr} {o:HO} (s:Same G H):Same (upd G a o) (upd H a o):=fun b u h=>by
  by_cases e:b = a
  · subst e; rw [upd_same] at h ⊢; exact h
  · rw [upd_ne e] at h ⊢; exact s _ _ h
theorem tp_upd {ns:List Int} {G:Hp} {a:Addr} {o u:HO} {v:V} (h:Tp ns G v) (ha:G a = some u) (hu:∀ xs,u ≠ .tup xs):Tp ns (upd G a o) v:=by
  obtain ⟨c,rfl,hc⟩:=h
  exact ⟨c,rfl,by rw [upd_ne (ne_of hc ha (fun e=>hu _ e.symm))]; exact hc⟩
theorem pairedT_upd {α:Type} {e:α -> List Int} {G:Hp} {a:Addr} {o u:HO} (ha:G a = some u) (hu:∀ xs,u ≠ .tup xs) {vs:List V} {xs:List α} (h:Paired (fun v x=>Tp (e x) G v) vs xs):Paired (fun v x=>Tp (e x) (upd G a o) v) vs xs :=
  Paired.imp' (F:=fun v x=>Tp (e x) G v) (G:=fun v x=>Tp (e x) (upd G a o) v) (fun v x q=>tp_upd q ha hu) h
section
variable {C:Addr} {W:WD} {G:Hp} {p dx bl tl:Addr}
theorem WAt.setBars (h:WAt C W G p dx bl tl) {us:List V} {bs:List (Nat × Nat)} (pr:Paired (fun u x=>P2 x G u) us bs):WAt C { W with bars:=bs } (upd G bl (.lst us)) p dx bl tl:=by
  obtain ⟨b,ws,e,hb,_⟩:=h.br
  cases e
  obtain ⟨t,zs,e,ht,pt⟩:=h.ti
  cases e
  have n:∀ xs,HO.lst ws ≠ .tup xs:=fun _ z=>by cases z
  refine ⟨by rw [upd_ne (ne_of h.ins hb (by intro z; cases z))]; exact h.ins,by rw [upd_ne (ne_of h.own hb (by intro z; cases z))]; exact h.own,⟨bl,us,rfl,upd_same,pairedT_upd hb n pr⟩,⟨tl,zs,rfl,by rw [upd_ne h.ne.symm]; exact ht,pairedT_upd hb n pt⟩,h.ne⟩
theorem WAt.setTies (h:WAt C W G p dx bl tl) {us:List V} {ts:List (Nat × Nat × Nat)} (pr:Paired (fun u x=>P3 x G u) us ts):WAt C { W with ties:=ts } (upd G tl (.lst us)) p dx bl tl:=by
  obtain ⟨b,ws,e,hb,pb⟩:=h.br
  cases e
  obtain ⟨t,zs,e,ht,_⟩:=h.ti
  cases e
  have n:∀ xs,HO.lst zs ≠ .tup xs:=fun _ z=>by cases z
  refine ⟨by rw [upd_ne (ne_of h.ins ht (by intro z; cases z))]; exact h.ins,by rw [upd_ne (ne_of h.own ht (by intro z; cases z))]; exact h.own,⟨bl,ws,rfl,by rw [upd_ne h.ne]; exact hb,pairedT_upd ht n pb⟩,⟨tl,us,rfl,upd_same,pairedT_upd ht n pr⟩,h.ne⟩
theorem WAt.setIns {m n:Nat} {bs:List (Nat × Nat)} {ts:List (Nat × Nat × Nat)} {bl2 tl2:Addr} (h:WAt C W G p dx bl tl) (hb:Ls P2 bs G (.ref bl2)) (ht:Ls P3 ts G (.ref tl2)) (hn:bl2 ≠ tl2) :
    WAt C ⟨m,n,bs,ts⟩ (upd G p (.ins C dx (wf m n bl2 tl2))) p dx bl2 tl2:=by
  obtain ⟨b,ws,e,hb,pb⟩:=hb
  cases e
  obtain ⟨t,zs,e,ht,pt⟩:=ht
  cases e
  have n:∀ xs,HO.ins C dx (wf W.m W.n bl tl) ≠ .tup xs:=fun _ z=>by cases z
  exact ⟨upd_same,by rw [upd_ne (ne_of h.own h.ins (by intro z; cases z))]; exact h.own,⟨bl2,ws,rfl,by rw [upd_ne (ne_of hb h.ins (by intro z; cases z))]; exact hb,pairedT_upd h.ins n pb⟩,⟨tl2,zs,rfl,by rw [upd_ne (ne_of ht h.ins (by intro z; cases z))]; exact ht,pairedT_upd h.ins n pt⟩,hn⟩
end
structure Aft (C:Addr) (W2:WD) (r:List Int) (G H:Hp) (p dx bl tl:Addr) (v:V) (H2:Hp):Prop where
  ex:∃ G2 bl2 tl2,WAt C W2 G2 p dx bl2 tl2 /\ Same G2 H2 /\ (bl2 = bl \/ H bl2 = none) /\ (tl2 = tl \/ H tl2 = none) /\ Ls I r G2 v /\ ∀ b o,G2 b = some o -> (∃ o',G b = some o') \/ H b = none
  kp:∀ b o,H b = some o -> b ≠ p -> b ≠ bl -> b ≠ tl -> H2 b = some o
theorem Ext.dom {G H G2 H2:Hp} (e:Ext G H G2 H2):∀ b o,G2 b = some o -> (∃ o',G b = some o') \/ H b = none:=fun b o h=>(e.fr b o h).imp (fun h=>⟨_,h⟩) id
theorem dom_upd {G H G2 H2 G4 H4:Hp} {a:Addr} {o1 o2:HO} (e:Ext G H G2 H2) (ha:G2 a = some o1) (e4:Ext (upd G2 a o2) (upd H2 a o2) G4 H4):∀ b o,G4 b = some o -> (∃ o',G b = some o') \/ H b = none:=fun b o h=>by
  by_cases z:b = a
  · subst z; exact e.dom _ _ ha
  · rcases e4.fr b o h with h | h
    · rw [upd_ne z] at h; exact e.dom _ _ h
    · rw [upd_ne z] at h; exact .inr (e.big.free h)
theorem Aft.same {C:Addr} {W:WD} {r:List Int} {G H G2 H2:Hp} {p dx bl tl:Addr} {v:V} (e:Ext G H G2 H2) (h:WAt C W G p dx bl tl) (q:Ls I r G2 v):Aft C W r G H p dx bl tl v H2 :=
  ⟨⟨G2,bl,tl,h.same e.mono,e.sub,.inl rfl,.inl rfl,q,e.dom⟩,fun b o h _ _ _=>e.big b o h⟩
def spW {ι:Type} (C:Addr) (A:ι -> List Pr) (Cd:ι -> WD -> Prop) (Fw:ι -> WD -> WD) (F:ι -> WD -> List Int):Sp:=fun vs H Q _=>∃ (x:ι) (W:WD) (G:Hp) (p dx bl tl:Addr) (rest:List V),
  vs = .ref p :: rest /\ Same G H /\ WAt C W G p dx bl tl /\ AllP G rest (A x) /\ Cd x W /\ ∀ v H2,Aft C (Fw x W) (F x W) G H p dx bl tl v H2 -> Q v H2
theorem spW.len {ι:Type} {C:Addr} {A:ι -> List Pr} {Cd:ι -> WD -> Prop} {Fw:ι -> WD -> WD} {F:ι -> WD -> List Int} {vs:List V} {H:Hp} {Q:VK} {E:XK} (h:spW C A Cd Fw F vs H Q E) {n:Nat} (hn:∀ x,(A x).length = n):vs.length = n + 1:=by
  obtain ⟨x,W,G,p,dx,bl,tl,rest,rfl,_,_,pr,_⟩:=h
  rw [List.length_cons,Paired.length pr,hn]
end L2.FF
end
section
namespace L2.FF
open PySem PySem.Spec PyProof.Rows
def top (i:Nat):Stmt:=PySem.Challenge.pw_firmframe_s01_answers.main.body.getD i (.Pass ⟨0,0,0,0⟩)
structure Fn (P:Program) (w:World) (K:PySem.W.Frag) (mg:Str -> Option Value) (base:Heap) (x:Str) (k:Nat) (ps:List Str) (sp:Sp):Prop where
  ex:∃ f fd,mg x = some (.ref f) /\ PySem.W.keepIn K (.ref f) = true /\ Binds K fd ps [] /\ FnOk P w K mg base CX0 k f fd ps sp
theorem pe_fn {X:Cx} {x:Str} {k j:Nat} {ps:List Str} {sp:Sp} {p pos:Pos} {e:Expr} {es:List Expr} {t:TA} (F:Fn X.prog X.w X.K X.mg X.base x k ps sp) (hr:Room j X.A) (ha:PA X (e :: es) t) (hj:k <= j:=by first | decide | omega) (hg:Gl X x:=by rfl)
    (hdb:(x == ("__debug__":Str)) = false:=by decide) (he:starEach (e :: es) X.env = (false,eval e X.env) :: starEach es X.env:=by rfl) (hpl:(backTo pos (starEach es X.env)).any (·.1) = false:=by rfl) :
    PE X (.Call (.Name x p) (e :: es) [] pos) (tCall sp [] E0 t):=by
  obtain ⟨f,fd,hm,hk,hb,G⟩:=F.ex
  exact pe_call G (hr.mono hj) hg hm hk hb .nil pass0 ha hdb he hpl
theorem room65 {k:Nat} {A:Around} (r:Room k A):A.units + 65 < cLine:=by have:=r.un; omega
theorem pe_glI {X:Cx} {x:Str} {i:Int} {pos:Pos} (hg:Gl X x) (hm:∃ t,X.mg x = some (.int i t)) (hd:(x == ("__debug__":Str)) = false:=by decide):PE X (.Name x pos) (tC (.int i)):=by
  obtain ⟨t,h⟩:=hm
  exact pe_glob hg h ⟨t,rfl⟩ hd
theorem pe_glS {X:Cx} {x:Str} {y:Str} {pos:Pos} (hg:Gl X x) (hm:∃ t,X.mg x = some (.str y t)) (hd:(x == ("__debug__":Str)) = false:=by decide):PE X (.Name x pos) (tC (.str y)):=by
  obtain ⟨t,h⟩:=hm
  exact pe_glob hg h ⟨t,rfl⟩ hd
theorem pe_glR {X:Cx} {x:Str} {a:Addr} {pos:Pos} (hg:Gl X x) (hm:X.mg x = some (.ref a)) (hd:(x == ("__debug__":Str)) = false:=by decide):PE X (.Name x pos) (tC (.ref a)):=pe_glob hg hm rfl hd
section
variable {X:Cx} {K:PySem.W.Frag}
theorem pg_tupK {es:List Expr} {k:Nat} {t:TGs} {n:Nat} {pos:Pos} (hK:X.K = K) (hc:X.calm = true) (h:PGs X es t) (hn:(assignEach es X.env).length = n:=by rfl) (hst:(assignEach es X.env).findIdx? (·.1) = none:=by rfl):PG X (.Tuple es k pos) (gTup K n t):=hK ▸ pg_tup hc h hn hst
theorem ix_listK (h:X.K = K):IxR X (rIxL K):=h ▸ ix_list
theorem ix_tupK (h:X.K = K):IxR X (rIxT K):=h ▸ ix_tup
theorem ix_seqK (h:X.K = K):IxR X (rIx K):=h ▸ ix_seq
theorem sl_listK (h:X.K = K):SlR X (rSlL K):=h ▸ sl_list
theorem cr_lenK (h:X.K = K):CallR X (.builtin "len") (rLen K):=h ▸ cr_len
theorem cr_listK (h:X.K = K):CallR X (.type "list") (rList K):=h ▸ cr_list
theorem cr_tupleK (h:X.K = K):CallR X (.type "tuple") (rTuple K):=h ▸ cr_tuple
theorem cr_sumK (hc:X.calm = true) (h:X.K = K):CallR X (.builtin "sum") (rSum K):=h ▸ cr_sum hc
theorem cr_allK (hc:X.calm = true) (h:X.K = K):CallR X (.builtin "all") (rAll K):=h ▸ cr_all hc
theorem pe_fldK {e:Expr} {ta:TE} {f:Str} {pos:Pos} (h:X.K = K) (he:PE X e ta) (hb:attributeBase e f X.env (eval e X.env) = eval e X.env):PE X (.Attribute e f pos) (tFld K ta f):=h ▸ pe_fld he hb
theorem pi_listK {tg l:Expr} {tl:TE} (h:X.K = K) (hl:PE X l tl):PI X tg l (iList K tl):=h ▸ pi_list hl
theorem pi_reversedK {tg e:Expr} {ta:TA} {p pos:Pos} (h:X.K = K) (hm:X.mg "reversed" = none) (ha:PA X [e] ta) (hg:Gl X "reversed":=by rfl) (hs:starEach [e] X.env = [(false,eval e X.env)]:=by rfl):PI X tg (.Call (.Name "reversed" p) [e] [] pos) (iRev K ta):=h ▸ pi_reversed hg hm ha hs
theorem tbm_K {e:Expr} {T:String} {r:V -> List V -> Hp -> VK -> Prop} {to:TE} {t:TA} (hK:X.K = K) (h:PE X e (tBM X.K T r to t)):PE X e (tBM K T r to t):=hK ▸ h
end
section
variable {X:Cx} {K:PySem.W.Frag} {a b c:Expr} {ta tb tc:TE} {pos p:Pos} {x:Str}
theorem pgn (i:Nat) (nd:X.N.Nodup) (hi:X.N[i]? = some x:=by rfl) (hx:Loc X.env.scope x:=by first | exact Or.inl rfl | exact Or.inr rfl) (hf:X.fn x = true \/ X.env.scope.names.lookup x = some .local:=by first | exact .inl rfl | exact .inr rfl):PG X (.Name x pos) (gName i):=pg_name nd hi hx hf
theorem psn (i:Nat) (nd:X.N.Nodup) (he:PE X a ta) (hi:X.N[i]? = some x:=by rfl) (hx:Loc X.env.scope x:=by first | exact Or.inl rfl | exact Or.inr rfl) (hs:swapsWith a (some (.Name x p)) pos.line X.env = pure false:=by rfl) (hf:X.fn x = true \/ X.env.scope.names.lookup x = some .local:=by first | exact .inl rfl | exact .inr rfl) :
    PS X (.Assign [.Name x p] a pos) (tAsg ta (gName i)):=ps_set nd hi hx he hs hf
theorem pa1 (ha:PE X a ta) (hs:starEach [a] X.env = (false,eval a X.env) :: starEach [] X.env:=by rfl):PA X [a] (tCons ta tNil):=pa_cons ha pa_nil hs
theorem pa2 (ha:PE X a ta) (hb:PE X b tb) (h1:starEach [a,b] X.env = (false,eval a X.env) :: starEach [b] X.env:=by rfl) (h2:starEach [b] X.env = (false,eval b X.env) :: starEach [] X.env:=by rfl):PA X [a,b] (tCons ta (tCons tb tNil)):=pa_cons ha (pa1 hb h2) h1
theorem pa3 (ha:PE X a ta) (hb:PE X b tb) (hc:PE X c tc) (h1:starEach [a,b,c] X.env = (false,eval a X.env) :: starEach [b,c] X.env:=by rfl) (h2:starEach [b,c] X.env = (false,eval b X.env) :: starEach [c] X.env:=by rfl) (h3:starEach [c] X.env = (false,eval c X.env) :: starEach [] X.env:=by rfl) :
    PA X [a,b,c] (tCons ta (tCons tb (tCons tc tNil))):=pa_cons ha (pa2 hb hc h2 h3) h1
variable (K) in
theorem ixl (ha:PE X a ta) (hb:PE X b tb) (h:X.K = K:=by rfl) (hs:PlainIx b:=by exact fun _ _=>rfl):PE X (.Subscript a b pos) (tOp (rIxL K) ta tb):=pe_ix (ix_listK h) ha hb hs
variable (K) in
theorem ixt (ha:PE X a ta) (hb:PE X b tb) (h:X.K = K:=by rfl) (hs:PlainIx b:=by exact fun _ _=>rfl):PE X (.Subscript a b pos) (tOp (rIxT K) ta tb):=pe_ix (ix_tupK h) ha hb hs
variable (K) in
theorem ixq (ha:PE X a ta) (hb:PE X b tb) (h:X.K = K:=by rfl) (hs:PlainIx b:=by exact fun _ _=>rfl):PE X (.Subscript a b pos) (tOp (rIx K) ta tb):=pe_ix (ix_seqK h) ha hb hs
variable (K) in
theorem pfl {f:Str} (ha:PE X a ta) (h:X.K = K:=by rfl) (hb:attributeBase a f X.env (eval a X.env) = eval a X.env:=by rfl):PE X (.Attribute a f pos) (tFld K ta f):=pe_fldK h ha hb
variable (K) in
theorem pln (hm:X.mg "len" = none) (ha:PE X a ta) (h:X.K = K:=by rfl) (hg:Gl X "len":=by rfl) (he:starEach [a] X.env = (false,eval a X.env) :: starEach [] X.env:=by rfl) (hpl:(backTo pos (starEach [] X.env)).any (·.1) = false:=by rfl) :
    PE X (.Call (.Name "len" p) [a] [] pos) (tCB (rLen K) (tCons ta tNil)):=pe_callB (cr_lenK h) hg hm PySem.boot_len (pa1 ha he) (he:=he) (hpl:=hpl)
theorem prg {tg:Expr} (hm:X.mg "range" = none) (ha:PE X a ta) (hg:Gl X "range":=by rfl) (he:starEach [a] X.env = (false,eval a X.env) :: starEach [] X.env:=by rfl) (hs:starEach [a] X.env = [(false,eval a X.env)]:=by rfl):PI X tg (.Call (.Name "range" p) [a] [] pos) (iRng1 (tCons ta tNil)):=pi_range1 hg hm (pa1 ha he) hs
end
theorem scm {N ps:List Str} {sc:Scope} (h:(decide N.Nodup && (decide (∀ x ∈ ps,sc.names.lookup x = some .local \/ sc.names.lookup x = some .cell) && decide (∀ y ∈ sc.names,y.2 ≠ .free))) = true) (a:sc.kind = .function:=by rfl) (b:sc.isCoroutine = false:=by rfl) (c:sc.isGenerator = false:=by rfl) (d:N.take ps.length = ps:=by rfl):FnScope N ps sc:=by
  rw [Bool.and_eq_true,Bool.and_eq_true,decide_eq_true_eq,decide_eq_true_eq,decide_eq_true_eq] at h
  exact ⟨a,b,c,h.1,d,h.2.1,h.2.2⟩
structure Mods (mg:Str -> Option Value):Prop where
  b_len:mg "len" = none
  b_range:mg "range" = none
  b_list:mg "list" = none
  b_tuple:mg "tuple" = none
  b_sum:mg "sum" = none
  b_min:mg "min" = none
  b_max:mg "max" = none
  b_all:mg "all" = none
  b_zip:mg "zip" = none
  b_reversed:mg "reversed" = none
  c_NONE_SUCH:∃ t,mg "NONE_SUCH" = some (.int (-2) t)
  c_NOT_THERE:∃ t,mg "NOT_THERE" = some (.int (-6) t)
  c_NOT_BEGUN:∃ t,mg "NOT_BEGUN" = some (.int (-11) t)
  c_THERE_ALREADY:∃ t,mg "THERE_ALREADY" = some (.int (-17) t)
  c_OUT_OF_RANGE:∃ t,mg "OUT_OF_RANGE" = some (.int (-22) t)
  c_MOST_ROWS:∃ t,mg "MOST_ROWS" = some (.int 5 t)
  c_MOST_COLUMNS:∃ t,mg "MOST_COLUMNS" = some (.int 5 t)
  c_KINDS:∃ t,mg "KINDS" = some (.int 2 t)
  c_BEGIN:∃ t,mg "BEGIN" = some (.int 0 t)
  c_WAY:∃ t,mg "WAY" = some (.str "w" t)
  c_TOO_MANY:∃ t,mg "TOO_MANY" = some (.int (-28) t)
  c_NOT_SO:∃ t,mg "NOT_SO" = some (.int (-33) t)
  c_MOST_SQUARES:∃ t,mg "MOST_SQUARES" = some (.int 9 t)
  c_MOST_MORE:∃ t,mg "MOST_MORE" = some (.int 4 t)
  c_MOST_BARS:∃ t,mg "MOST_BARS" = some (.int 9 t)
  c_FIRST_BOTH_CALL:∃ t,mg "FIRST_BOTH_CALL" = some (.int 39 t)
  c_FIRST_TIE_CALL:∃ t,mg "FIRST_TIE_CALL" = some (.int 20 t)
end L2.FF
end
section
namespace L2
open PySem PySem.Spec PyProof.Rows
structure ZApart (zz ti to p q lb:Addr):Prop where
  a1:ti ≠ zz
  a2:to ≠ zz
  a3:p ≠ zz
  a4:q ≠ zz
  a5:ti ≠ to
  a6:ti ≠ p
  a7:ti ≠ q
  a8:to ≠ p
  a9:to ≠ q
  b1:p ≠ q
  b2:lb ≠ zz
  b3:lb ≠ to
  b4:lb ≠ p
  b5:lb ≠ q
section
variable {prog:Program} {w:World} {A:Around} {E:Value -> Shared -> Prop} {s:Shared}
theorem zs_item {zz ti to p q lb:Addr} {x:Str} {tx:Tok} {k c:Nat} {its:Array Value} {y u0 u1:Value} {Q:Value -> Shared -> Prop} (D:ZApart zz ti to p q lb)
    (zo:IsZip s.heap zz ti to .none) (zi:IsPair s.heap ti (.ref p) (.ref q)) (zt:IsPair s.heap to u0 u1)
    (ip:s.heap.IsStrIter p "str_ascii_iterator" x tx k) (iq:s.heap.IsListIter q lb k) (il:s.heap.IsList lb its) (hc:x.cps[k]? = some c) (hy:its[k]? = some y)
    (fin:∀ g,IsZip g zz ti to (rawInt s.heap.objs.size) -> IsPair g to (.str ⟨#[c]⟩ s.toks) y -> g.IsStrIter p "str_ascii_iterator" x tx (k + 1) -> g.IsListIter q lb (k + 1) -> IsPair g s.heap.objs.size (.str ⟨#[c]⟩ s.toks) y →
      g.objs.size = s.heap.objs.size + 1 -> (∀ b o,b ≠ zz -> b ≠ to -> b ≠ p -> b ≠ q -> s.heap.get? b = some o -> g.get? b = some o) -> Q (.ref s.heap.objs.size) { s with heap:=g,toks:=s.toks + 1 }) :
    wpAny (model prog w) A (Builtin.«zip.__next__» ⟨[.ref zz],[]⟩) (fun f s'=>∃ v,f = .done (.ret v) /\ Q v s') E s:=by
  show wpAny _ _ (field (.ref zz) 2 >>= _) _ _ _
  refine wpAny_bind (wpAny_field zo rfl (x:=.bool false) rfl ?_)
  show wpAny _ _ (field (.ref zz) 3 >>= _) _ _ _
  refine wpAny_bind (wpAny_field zo rfl (x:=.ref ti) rfl ?_)
  refine wpAny_bind (wpAny_seqItems zi rfl ?_)
  show wpAny _ _ (Builtin.SmallTypes.ownedTupleIsFree (.ref zz) >>= _) _ _ _
  refine wpAny_bind ?_
  unfold Builtin.SmallTypes.ownedTupleIsFree; refine wpAny_bind (wpAny_field zo rfl (x:=.none) rfl (wpAny_pure ?_))
  simp only [if_true]
  refine wpAny_bind (wpAny_rule ?_); refine wpAny_bind (wpAny_field zo rfl (x:=.ref to) rfl ?_)
  refine wpAny_bind (wpAny_setField_rec zo (by simp) fun g1 zo1 s1=>?_)
  replace zo1:IsZip g1 zz ti to .ellipsis:=zo1
  refine wpAny_bind ?_
  simp only [List.zipIdx_cons,List.zipIdx_nil,List.forIn_cons,List.forIn_nil]
  refine wpAny_bind (wpAny_bind (wpAny_onRaise ?_)); show wpAny _ _ (Builtin.SmallTypes.nextOf (.ref p) >>= _) _ _ _
  refine wpAny_bind (wpAny_nextOf_ascii_item (ip.extBut s1.extBut D.a3) hc fun g2 ip2 s2=>wpAny_pure ?_)
  have zt2:IsPair g2 to u0 u1:=s2.extBut _ _ D.a8 (s1.extBut _ _ D.a2 zt)
  refine wpAny_bind (wpAny_seqItems zt2 rfl ?_)
  refine wpAny_bind (wpAny_updateSeq_pair zt2 fun g3 zt3 s3=>?_)
  replace zt3:IsPair g3 to (.str ⟨#[c]⟩ s.toks) u1:=zt3
  refine wpAny_bind (wpAny_letGo (wpAny_pure ?_)); refine wpAny_bind (wpAny_bind (wpAny_onRaise ?_))
  show wpAny _ _ (Builtin.SmallTypes.nextOf (.ref q) >>= _) _ _ _
  refine wpAny_bind (wpAny_nextOf_list_item (((iq.extBut s1.extBut D.a4).extBut s2.extBut D.b1.symm).extBut s3.extBut D.a9.symm)
    (((il.extBut s1.extBut D.b2).extBut s2.extBut D.b4).extBut s3.extBut D.b3) hy fun g4 iq4 s4=>wpAny_pure ?_)
  have zt4:IsPair g4 to (.str ⟨#[c]⟩ s.toks) u1:=s4.extBut _ _ D.a9 zt3
  refine wpAny_bind (wpAny_seqItems zt4 rfl ?_)
  refine wpAny_bind (wpAny_updateSeq_pair zt4 fun g5 zt5 s5=>?_)
  replace zt5:IsPair g5 to (.str ⟨#[c]⟩ s.toks) y:=zt5
  refine wpAny_bind (wpAny_letGo (wpAny_pure (wpAny_pure ?_))); refine wpAny_bind (wpAny_seqItems zt5 rfl ?_)
  refine wpAny_bind (wpAny_newTuple ?_); have hz:g5.objs.size = s.heap.objs.size:=by rw [s5.1,s4.1,s3.1,s2.1,s1.1]
  have zo5:IsZip g5 zz ti to .ellipsis:=s5.extBut _ _ D.a2.symm (s4.extBut _ _ D.a4.symm (s3.extBut _ _ D.a2.symm (s2.extBut _ _ D.a3.symm zo1)))
  have kp:∀ b o,b ≠ zz -> b ≠ to -> b ≠ p -> b ≠ q -> s.heap.get? b = some o -> g5.get? b = some o:=fun b o n1 n2 n3 n4 e =>
    s5.extBut _ _ n2 (s4.extBut _ _ n4 (s3.extBut _ _ n2 (s2.extBut _ _ n3 (s1.extBut _ _ n1 e))))
  have ip5:g5.IsStrIter p "str_ascii_iterator" x tx (k + 1):=((ip2.extBut s3.extBut D.a8.symm).extBut s4.extBut D.b1).extBut s5.extBut D.a8.symm
  have iq5:g5.IsListIter q lb (k + 1):=iq4.extBut s5.extBut D.a9.symm
  have lz:zz < g5.objs.size:=Heap.lt_size zo5
  show wpAny _ _ (Builtin.SmallTypes.ownedTupleHandOut (.ref zz) (.ref g5.objs.size) >>= _) _ _ _
  refine wpAny_bind ?_
  unfold Builtin.SmallTypes.ownedTupleHandOut; have zo6:IsZip (g5.push { cls:=.type "tuple",data:=.seq #[.str ⟨#[c]⟩ s.toks,y] }) zz ti to .ellipsis:=Heap.get?_push_of_some _ zo5
  refine wpAny_bind (wpAny_setField_rec zo6 (by simp) fun g7 zo7 s7=>?_)
  replace zo7:IsZip g7 zz ti to (rawInt g5.objs.size):=zo7
  refine wpAny_setField_rec zo7 (by simp) fun g8 zo8 s8=>?_
  replace zo8:IsZip g8 zz ti to (rawInt g5.objs.size):=zo8
  have up:∀ b o,b ≠ zz -> g5.get? b = some o -> g8.get? b = some o:=fun b o n e=>s8.extBut _ _ n (s7.extBut _ _ n (Heap.get?_push_of_some _ e))
  have t8:IsPair g8 g5.objs.size (.str ⟨#[c]⟩ s.toks) y:=s8.extBut _ _ (Nat.ne_of_gt lz) (s7.extBut _ _ (Nat.ne_of_gt lz) (Heap.get?_push_size _ rfl))
  have z8:g8.objs.size = g5.objs.size + 1:=by rw [s8.1,s7.1,Heap.size_push]
  rw [hz] at zo8 t8 z8
  refine wpAny_pure ⟨_,rfl,?_⟩
  show Q (.ref g5.objs.size) _
  rw [hz]
  obtain ⟨o1,oe1,oc1,od1⟩:=ip5
  exact fin g8 zo8 (up _ _ D.a2 zt5) ⟨o1,up _ _ D.a3 oe1,oc1,od1⟩ (iq5.at fun o e=>up _ o D.a4 e) t8 z8 fun b o n1 n2 n3 n4 e=>up b o n1 (kp b o n1 n2 n3 n4 e)
theorem zs_end {zz ti to p q lb:Addr} {x:Str} {tx:Tok} {k:Nat} {u0 u1:Value} {Q:Fin -> Shared -> Prop} (hh:A.handled = none) (D:ZApart zz ti to p q lb)
    (zo:IsZip s.heap zz ti to .none) (zi:IsPair s.heap ti (.ref p) (.ref q)) (ip:s.heap.IsStrIter p "str_ascii_iterator" x tx k) (hc:x.cps[k]? = none)
    (fin:∀ g e,(∀ b o,b ≠ zz -> b ≠ to -> b ≠ p -> b ≠ q -> s.heap.get? b = some o -> g.get? b = some o) -> (∃ o,g.get? e = some o /\ o.cls = .type "StopIteration") -> E (.ref e) { s with heap:=g }) :
    wpAny (model prog w) A (Builtin.«zip.__next__» ⟨[.ref zz],[]⟩) Q E s:=by
  show wpAny _ _ (field (.ref zz) 2 >>= _) _ _ _
  refine wpAny_bind (wpAny_field zo rfl (x:=.bool false) rfl ?_)
  show wpAny _ _ (field (.ref zz) 3 >>= _) _ _ _
  refine wpAny_bind (wpAny_field zo rfl (x:=.ref ti) rfl ?_)
  refine wpAny_bind (wpAny_seqItems zi rfl ?_)
  show wpAny _ _ (Builtin.SmallTypes.ownedTupleIsFree (.ref zz) >>= _) _ _ _
  refine wpAny_bind ?_
  unfold Builtin.SmallTypes.ownedTupleIsFree; refine wpAny_bind (wpAny_field zo rfl (x:=.none) rfl (wpAny_pure ?_))
  simp only [if_true]
  refine wpAny_bind (wpAny_rule ?_); refine wpAny_bind (wpAny_field zo rfl (x:=.ref to) rfl ?_)
  refine wpAny_bind (wpAny_setField_rec zo (by simp) fun g1 zo1 s1=>?_)
  replace zo1:IsZip g1 zz ti to .ellipsis:=zo1
  refine wpAny_bind ?_
  simp only [List.zipIdx_cons,List.zipIdx_nil,List.forIn_cons,List.forIn_nil]
  refine wpAny_bind (wpAny_bind (wpAny_onRaise ?_)); show wpAny _ _ (Builtin.SmallTypes.nextOf (.ref p) >>= _) _ _ _
  refine wpAny_bind (wpAny_nextOf_ascii_end hh (ip.extBut s1.extBut D.a3) hc fun g2 e s2 he=>?_)
  obtain ⟨oe,hoe,hce⟩:=he
  have zo2:IsZip g2 zz ti to .ellipsis:=s2 _ _ D.a3.symm zo1
  have ez:e ≠ zz:=fun z=>by subst z; rw [zo2] at hoe; cases hoe; simp at hce
  exact wpAny_setField_rec zo2 (by simp) fun g3 _ s3=>fin g3 e (fun b o n1 _ n3 _ z=>s3.extBut _ _ n1 (s2 _ _ n3 (s1.extBut _ _ n1 z))) ⟨oe,s3.extBut _ _ ez hoe,hce⟩
theorem zs_next {zz ti to p q lb:Addr} {x:Str} {tx:Tok} {k c:Nat} {its:Array Value} {y u0 u1:Value} {Q:Option Value -> Shared -> Prop} (D:ZApart zz ti to p q lb)
    (zo:IsZip s.heap zz ti to .none) (zi:IsPair s.heap ti (.ref p) (.ref q)) (zt:IsPair s.heap to u0 u1)
    (ip:s.heap.IsStrIter p "str_ascii_iterator" x tx k) (iq:s.heap.IsListIter q lb k) (il:s.heap.IsList lb its) (hc:x.cps[k]? = some c) (hy:its[k]? = some y)
    (fin:∀ g,IsZip g zz ti to (rawInt s.heap.objs.size) -> IsPair g to (.str ⟨#[c]⟩ s.toks) y -> g.IsStrIter p "str_ascii_iterator" x tx (k + 1) -> g.IsListIter q lb (k + 1) -> IsPair g s.heap.objs.size (.str ⟨#[c]⟩ s.toks) y →
      g.objs.size = s.heap.objs.size + 1 -> (∀ b o,b ≠ zz -> b ≠ to -> b ≠ p -> b ≠ q -> s.heap.get? b = some o -> g.get? b = some o) -> Q (some (.ref s.heap.objs.size)) { s with heap:=g,toks:=s.toks + 1 }) :
    wpAny (model prog w) A (pyNext (.ref zz)) Q E s:=by
  have ht:s.TypeIs (.ref zz) "zip":=⟨_,zo,rfl⟩
  unfold pyNext
  exact wpAny_bind (wpAny_attempt (wpAny_callSpecial?_slot (name:=Str.ofString "__next__") ht F.slot_zip_next
    (wpAny_call_entry F.slot_zip_next ht F.entry_zip_next (zs_item D zo zi zt ip iq il hc hy fun g c1 c2 c3 c4 c5 c6 c7=>wpAny_pure (fin g c1 c2 c3 c4 c5 c6 c7)) (F.args_zip_next_1 _))))
theorem zs_stop {zz ti to p q lb:Addr} {x:Str} {tx:Tok} {k:Nat} {Q:Option Value -> Shared -> Prop} (hh:A.handled = none) (D:ZApart zz ti to p q lb)
    (zo:IsZip s.heap zz ti to .none) (zi:IsPair s.heap ti (.ref p) (.ref q)) (ip:s.heap.IsStrIter p "str_ascii_iterator" x tx k) (hc:x.cps[k]? = none)
    (fin:∀ g,(∀ b o,b ≠ zz -> b ≠ to -> b ≠ p -> b ≠ q -> s.heap.get? b = some o -> g.get? b = some o) -> Q none { s with heap:=g }):wpAny (model prog w) A (pyNext (.ref zz)) Q E s:=by
  have ht:s.TypeIs (.ref zz) "zip":=⟨_,zo,rfl⟩
  unfold pyNext
  refine wpAny_bind (wpAny_attempt (wpAny_callSpecial?_slot (name:=Str.ofString "__next__") ht F.slot_zip_next
    (wpAny_call_entry F.slot_zip_next ht F.entry_zip_next (zs_end (u0:=.none) (u1:=.none) hh D zo zi ip hc fun g e kp he=>?_) (F.args_zip_next_1 _))))
  obtain ⟨o,ho,hc⟩:=he
  refine wpAny_bind (wpAny_isInstance (T:="StopIteration") (b:=true) ⟨o,ho,hc⟩ isSubtype_stop ?_)
  exact wpAny_pure (fin _ kp)
end
abbrev zsO1 (x:Str) (tx:Tok):Obj:={ cls:=.type "str_ascii_iterator",data:=.fields #[.str x tx,.int 0 0] }
abbrev zsO2 (lb:Addr):Obj:={ cls:=.type "list_iterator",data:=.fields #[.ref lb,.int 0 0] }
abbrev zsH (h:Heap) (x:Str) (tx:Tok) (lb:Addr):Heap :=
  ((((h.push (zsO1 x tx)).push (zsO2 lb)).push { cls:=.type "tuple",data:=.seq #[.ref h.objs.size,.ref (h.push (zsO1 x tx)).objs.size] }).push { cls:=.type "tuple",data:=.seq #[.none,.none] }).push
    { cls:=.type "zip",data:=.fields #[.none,.bool false,.bool false,.ref ((h.push (zsO1 x tx)).push (zsO2 lb)).objs.size,.ref (((h.push (zsO1 x tx)).push (zsO2 lb)).push { cls:=.type "tuple",data:=.seq #[.ref h.objs.size,.ref (h.push (zsO1 x tx)).objs.size] }).objs.size] }
theorem zs_new (x:Str) (tx:Tok) (lb:Addr) (its:Array Value) (ha:x.cps.all (· < 128) = true) :
    Meets (Builtin.«zip.__new__» ⟨[.type "zip",.str x tx,.ref lb],[]⟩) (fun _ R s=>s.heap.IsList lb its ∧
      R (.ok (.ret (.ref ((((s.heap.push (zsO1 x tx)).push (zsO2 lb)).push { cls:=.type "tuple",data:=.seq #[.ref s.heap.objs.size,.ref (s.heap.push (zsO1 x tx)).objs.size] }).push { cls:=.type "tuple",data:=.seq #[.none,.none] }).objs.size))) { s with heap:=zsH s.heap x tx lb }) :=
  .of_wp fun prog w A R s h=>by
    obtain ⟨hp,g,d,tk,os⟩:=s; obtain ⟨hl,h⟩:=h
    have hsub:=PySem.sub_zip
    have l2:Heap.IsList (Shared.heap ⟨hp.push (zsO1 x tx),g,d,tk,os⟩) lb its:=Heap.IsList.push hl _
    wp_walk using wpAny_pyIter_ascii ha,wpAny_pyIter_list l2
    exact ⟨_,rfl,h⟩
section
variable {prog:Program} {w:World} {A:Around} {E:Value -> Shared -> Prop} {s:Shared}
theorem call_zs {x:Str} {tx:Tok} {lb:Addr} {its:Array Value} {Q:Value -> Shared -> Prop} (ha:x.cps.all (· < 128) = true) (hl:s.heap.IsList lb its)
    (fin:∀ g,IsZip g (s.heap.objs.size + 4) (s.heap.objs.size + 2) (s.heap.objs.size + 3) .none -> IsPair g (s.heap.objs.size + 2) (.ref s.heap.objs.size) (.ref (s.heap.objs.size + 1)) →
      IsPair g (s.heap.objs.size + 3) .none .none -> g.IsStrIter s.heap.objs.size "str_ascii_iterator" x tx 0 -> g.IsListIter (s.heap.objs.size + 1) lb 0 -> (∀ b o,s.heap.get? b = some o -> g.get? b = some o) -> Q (.ref (s.heap.objs.size + 4)) { s with heap:=g }) :
    wpAny (model prog w) A (call (.type "zip") [.str x tx,.ref lb]) Q E s:=by
  refine callType_new F.called_zip (by decide) (F.typeCall_zip_2 _ _) (F.newCall_zip_2 _ _) (fun obj=>F.args_object_init_3 obj _ _) F.entry_zip_new (zs_new x tx lb its ha) ⟨hl,?_⟩
  have y1:(s.heap.push (zsO1 x tx)).objs.size = s.heap.objs.size + 1:=Heap.size_push ..
  have y2:((s.heap.push (zsO1 x tx)).push (zsO2 lb)).objs.size = s.heap.objs.size + 2:=by rw [Heap.size_push,y1]
  have y3:(((s.heap.push (zsO1 x tx)).push (zsO2 lb)).push { cls:=.type "tuple",data:=.seq #[.ref s.heap.objs.size,.ref (s.heap.push (zsO1 x tx)).objs.size] }).objs.size = s.heap.objs.size + 3:=by rw [Heap.size_push,y2]
  have y4:((((s.heap.push (zsO1 x tx)).push (zsO2 lb)).push { cls:=.type "tuple",data:=.seq #[.ref s.heap.objs.size,.ref (s.heap.push (zsO1 x tx)).objs.size] }).push { cls:=.type "tuple",data:=.seq #[.none,.none] }).objs.size = s.heap.objs.size + 4:=by rw [Heap.size_push,y3]
  have d5:(zsH s.heap x tx lb).get? ((((s.heap.push (zsO1 x tx)).push (zsO2 lb)).push { cls:=.type "tuple",data:=.seq #[.ref s.heap.objs.size,.ref (s.heap.push (zsO1 x tx)).objs.size] }).push { cls:=.type "tuple",data:=.seq #[.none,.none] }).objs.size = some _:=Heap.get?_push_size _ rfl
  have d4:(zsH s.heap x tx lb).get? (((s.heap.push (zsO1 x tx)).push (zsO2 lb)).push { cls:=.type "tuple",data:=.seq #[.ref s.heap.objs.size,.ref (s.heap.push (zsO1 x tx)).objs.size] }).objs.size = some _:=Heap.get?_push_of_some _ (Heap.get?_push_size _ rfl)
  have d3:(zsH s.heap x tx lb).get? ((s.heap.push (zsO1 x tx)).push (zsO2 lb)).objs.size = some _:=Heap.get?_push_of_some _ (Heap.get?_push_of_some _ (Heap.get?_push_size _ rfl))
  have d2:(zsH s.heap x tx lb).get? (s.heap.push (zsO1 x tx)).objs.size = some _:=Heap.get?_push_of_some _ (Heap.get?_push_of_some _ (Heap.get?_push_of_some _ (Heap.get?_push_size _ rfl)))
  have d1:(zsH s.heap x tx lb).get? s.heap.objs.size = some _:=Heap.get?_push_of_some _ (Heap.get?_push_of_some _ (Heap.get?_push_of_some _ (Heap.get?_push_of_some _ (Heap.get?_push_size _ rfl))))
  show _ /\ _
  rw [y2,y3,y4] at d5
  rw [y1,y2] at d3
  rw [y3] at d4
  rw [y1] at d2
  rw [y4]
  exact ⟨⟨_,d5,rfl⟩,fin _ d5 d3 d4 ⟨_,d1,rfl,rfl⟩ ⟨_,d2,rfl,rfl⟩ fun b o e=>Heap.get?_push_of_some _ (Heap.get?_push_of_some _ (Heap.get?_push_of_some _ (Heap.get?_push_of_some _ (Heap.get?_push_of_some _ e))))⟩
end
def Itzs (K:PySem.W.Frag) (x:Str) (b:Addr):It :=
  ⟨fun i H=>∃ (c:Nat) (ys:List V) (y:V),x.cps[i]? = some c /\ SqL K H b ys /\ ys[i]? = some y,
    fun i H v H'=>∃ T c y,v = .ref T /\ H T = none /\ H' = upd H T (.tup [.str ⟨#[c]⟩,y]) /\ x.cps[i]? = some c /\ ∀ ys,SqL K H b ys -> ys[i]? = some y,
    fun i H=>x.cps.size <= i⟩
theorem turn_zs {P:Program} {w:World} {K:PySem.W.Frag} {elts:List Expr} {kk:Nat} {tpos:Pos} {x:Str} {tx:Tok} {b zz ti to p q:Addr} (D:ZApart zz ti to p q b) :
    Turn P w K (.Tuple elts kk tpos) (Itzs K x b) [zz,ti,to,p,q] zz (fun i h=>IsZip h zz ti to .none /\ IsPair h ti (.ref p) (.ref q) /\ (∃ u v,IsPair h to u v) /\ h.IsStrIter p "str_ascii_iterator" x tx i /\ h.IsListIter q b i) where
  mem:=by simp
  obj:=fun i h st c hc=>by
    obtain ⟨c1,c2,⟨u,v,c3⟩,⟨o1,e1,_,d1⟩,⟨o2,e2,_,d2⟩⟩:=st
    have e':c = zz \/ c = ti \/ c = to \/ c = p \/ c = q:=by simpa using hc
    rcases e' with r | r | r | r | r
    · rw [r]; exact ⟨_,c1,fun v q=>nomatch q⟩
    · rw [r]; exact ⟨_,c2,fun v q=>nomatch q⟩
    · rw [r]; exact ⟨_,c3,fun v q=>nomatch q⟩
    · rw [r]; exact ⟨o1,e1,fun v q=>by rw [d1] at q; cases q⟩
    · rw [r]; exact ⟨o2,e2,fun v q=>by rw [d2] at q; cases q⟩
  keep:=fun i h h' st kp=>by
    obtain ⟨c1,c2,⟨u,v,c3⟩,⟨o1,e1,f1⟩,c5⟩:=st
    exact ⟨kp zz (by simp) _ c1,kp ti (by simp) _ c2,⟨u,v,kp to (by simp) _ c3⟩,⟨o1,kp p (by simp) _ e1,f1⟩,c5.at fun o r=>kp q (by simp) o r⟩
  item:=by
    intro X hP hw hK hc i pins s σ H E I hf st hg
    subst hP hw hK
    obtain ⟨c1,c2,⟨u0,v0,c3⟩,c4,c5⟩:=st
    obtain ⟨c,ys,y,hx,hq,hy⟩:=hg
    obtain ⟨its,rv,pl,_⟩:=I.list hq
    obtain ⟨u2,hu2,ru2⟩:=rv.get hy
    have lz:zz < s.heap.objs.size:=Heap.lt_size c1
    refine zs_next D c1 c2 c3 c4 c5 pl.isList hx (y:=u2) (by simpa using hu2) fun g z1 z2 z3 z4 z5 z6 z7=>?_
    refine ⟨_,rfl,wpAny_letOwnedTupleGo_zip (s:={ s with heap:=g,toks:=s.toks + 1 }) z1 fun g' z1' sb=>?_⟩
    have nt:g'.get? s.heap.objs.size = some { cls:=.type "tuple",data:=.seq #[.str ⟨#[c]⟩ s.toks,u2] }:=(sb.2 _ (Nat.ne_of_gt lz)).trans z5
    have new:ObjOk X.prog X.w (upd H s.heap.objs.size (.tup [.str ⟨#[c]⟩,y])) g' s.heap.objs.size (.tup [.str ⟨#[c]⟩,y]) :=
      ⟨by show 2 <= sizeLine; decide,[.str ⟨#[c]⟩ s.toks,u2],.cons ⟨_,rfl⟩ (.cons ru2 .nil),⟨_,nt,rfl,_,rfl⟩⟩
    have I1:Inv X pins σ (upd H s.heap.objs.size (.tup [.str ⟨#[c]⟩,y])) { s with heap:=g',toks:=s.toks + 1 } :=
      I.turnedNew (t':=s.toks + 1) (ch:=[zz,ti,to,p,q]) (fun b' o hb r=>(sb.2 b' (fun r'=>hb (by simp [r']))).trans (z7 b' o (fun r'=>hb (by simp [r'])) (fun r'=>hb (by simp [r'])) (fun r'=>hb (by simp [r'])) (fun r'=>hb (by simp [r'])) r)) hf (Nat.le_refl _) new
    refine ⟨.ref s.heap.objs.size,_,I1,rfl,⟨_,c,y,rfl,I.hok.fresh (Nat.le_refl _),rfl,hx,fun l hl=>by rw [I.list_inj hl hq]; exact hy⟩,⟨z1',?_,⟨.str ⟨#[c]⟩ s.toks,u2,?_⟩,?_,?_⟩,fun b' hb'=>?_⟩
    · exact (sb.2 _ D.a1).trans (z7 _ _ D.a1 D.a5 D.a6 D.a7 c2)
    · exact (sb.2 _ D.a2).trans z2
    · obtain ⟨o1,e1,f1⟩:=z3
      exact ⟨o1,(sb.2 _ D.a3).trans e1,f1⟩
    · exact z4.at fun o r=>(sb.2 _ D.a4).trans r
    · have hlt:b' < s.heap.objs.size:=by
        have e':b' = zz \/ b' = ti \/ b' = to \/ b' = p \/ b' = q:=by simpa using hb'
        rcases e' with r | r | r | r | r
        · rw [r]; exact lz
        · rw [r]; exact Heap.lt_size c2
        · rw [r]; exact Heap.lt_size c3
        · rw [r]; obtain ⟨_,e1,_⟩:=c4; exact Heap.lt_size e1
        · rw [r]; obtain ⟨_,e2,_⟩:=c5; exact Heap.lt_size e2
      rw [upd_ne (Nat.ne_of_lt hlt)]
      exact (hf b' hb').1
  done:=by
    intro X hP hw hK hc i pins s σ H E I hf st hg
    subst hP hw hK
    obtain ⟨c1,c2,_,c4,_⟩:=st
    exact zs_stop (I.ok.hd hc) D c1 c2 c4 (Array.getElem?_eq_none hg) fun g kp=>⟨rfl,I.turnedL (t':=s.toks) (ch:=[zz,ti,to,p,q]) (fun b' o hb r =>
      kp b' o (fun r'=>hb (by simp [r'])) (fun r'=>hb (by simp [r'])) (fun r'=>hb (by simp [r'])) (fun r'=>hb (by simp [r'])) r) hf⟩
  self:=fun A i s Q E st h=>wpAny_pyIter_zip st.1 h
def iZipS (K:PySem.W.Frag) (ta:TA):TI:=fun σ H R=>ta σ H fun vs H1=>∃ x b ys,vs = [.str x,.ref b] /\ x.cps.all (· < 128) = true /\ SqL K H1 b ys /\ R (Itzs K x b) H1
theorem pi_zipS {X:Cx} {K:PySem.W.Frag} {e e2:Expr} {ta:TA} {p pos tpos:Pos} {elts:List Expr} {kk:Nat} (hK:X.K = K) (hm:X.mg "zip" = none) (ha:PA X [e,e2] ta) (hg:Gl X "zip":=by rfl)
    (hs:starEach [e,e2] X.env = (false,eval e X.env) :: starEach [e2] X.env:=by rfl) (hpl:(backTo pos (starEach [e2] X.env)).any (·.1) = false:=by rfl) :
    PI X (.Tuple elts kk tpos) (.Call (.Name "zip" p) [e,e2] [] pos) (iZipS K ta):=by
  subst hK
  intro pins s σ H R I h
  refine Call_ (ld_blt I hg hm boot_zip5 (PyProof.Rows.callWith_type1 (thn (ha pos pins s σ H _ I h) fun us s1 ⟨vs,H1,I1,r1,q1⟩=>?_) hs hpl))
  obtain ⟨x,b,ys,ex,has,hq,qq⟩:=q1
  subst ex
  obtain ⟨u1,u2,rfl,r,r'⟩:=r1.two
  obtain ⟨tx,rfl⟩:=r
  cases r'
  obtain ⟨its,rv,pl,_⟩:=I1.list hq
  have lb:(b:Nat) < s1.heap.objs.size:=pl.lt
  refine call_zs has pl.isList fun g z1 z2 z3 z4 z5 kp=>wpAny_pyIter_zip z1 ?_
  have I2:Inv X pins σ H1 { s1 with heap:=g }:=I1.kept (t':=s1.toks) kp
  have D:ZApart (s1.heap.objs.size + 4) (s1.heap.objs.size + 2) (s1.heap.objs.size + 3) s1.heap.objs.size (s1.heap.objs.size + 1) b:=by
    have f:∀ a c:Nat,a < c \/ c < a -> (a:Addr) ≠ c:=fun a c h e=>by omega
    exact ⟨f _ _ (by omega),f _ _ (by omega),f _ _ (by omega),f _ _ (by omega),f _ _ (by omega),f _ _ (by omega),f _ _ (by omega),f _ _ (by omega),f _ _ (by omega),f _ _ (by omega),Nat.ne_of_lt (Nat.lt_of_lt_of_le lb (Nat.le_add_right _ _)),Nat.ne_of_lt (Nat.lt_of_lt_of_le lb (Nat.le_add_right _ _)),Nat.ne_of_lt lb,Nat.ne_of_lt (Nat.lt_of_lt_of_le lb (Nat.le_add_right _ _))⟩
  refine ⟨s1.heap.objs.size + 4,[s1.heap.objs.size + 4,s1.heap.objs.size + 2,s1.heap.objs.size + 3,s1.heap.objs.size,s1.heap.objs.size + 1],_,_,H1,rfl,I2,turn_zs (x:=x) (tx:=tx) D,⟨z1,z2,⟨_,_,z3⟩,z4,z5⟩,fun c hcm=>?_,qq⟩
  have e':c = s1.heap.objs.size + 4 \/ c = s1.heap.objs.size + 2 \/ c = s1.heap.objs.size + 3 \/ c = s1.heap.objs.size \/ c = s1.heap.objs.size + 1:=by simpa using hcm
  have hle:s1.heap.objs.size <= c:=by
    rcases e' with z | z | z | z | z
    · rw [z]; exact Nat.le_add_right _ _
    · rw [z]; exact Nat.le_add_right _ _
    · rw [z]; exact Nat.le_add_right _ _
    · rw [z]; exact Nat.le_refl _
    · rw [z]; exact Nat.le_add_right _ _
  exact I1.fpOk hle (I1.hok.fresh hle)
end L2
end
section
namespace L2.FF
open PySem PySem.Spec PyProof.Rows
abbrev sgn (c:Nat):Str:=⟨#[c]⟩
theorem wipe_two {σ:St} {i j:Nat} {u v:V} (h:i ≠ j):wipe (((wipe σ [i,j]).set i (some u)).set j (some v)) [i,j] = wipe σ [i,j]:=by
  show (((((σ.set j none).set i none).set i (some u)).set j (some v)).set j none).set i none = (σ.set j none).set i none
  rw [List.set_set,List.set_set,List.set_comm _ _ (Ne.symm h),List.set_set,List.set_comm _ _ (Ne.symm h),List.set_set]
section
variable {σ:St} {Hs:Hp} {K:PySem.W.Frag} {β:Type} {F:β -> Pr} [∀ y,Stab (F y)]
theorem ext_fresh {Gs H0 G H:Hp} {t:Addr} {o:HO} (e:Ext Gs H0 G H) (n:H t = none):Ext Gs H0 G (upd H t o):=ext_at e (e.big.free n) (e.sub.free n)
theorem ev_lcZ {ta tb te:TE} {i j:Nat} (x:Str) (ns:List Nat) (g:Nat -> Nat -> β) (hij:i ≠ j) (hx:Ev ta σ Hs (T x)) (hn:Ev tb σ Hs (Ls NI ns)) (hl:x.cps.size = ns.length) (has:x.cps.all (· < 128) = true) (hz:ns.length <= 1000)
    (he:∀ (k c n:Nat),x.cps[k]? = some c -> ns[k]? = some n -> ∀ G,Same Hs G -> Ev te (((wipe σ [i,j]).set i (some (.str (sgn c)))).set j (some (.int n))) G (F (g c n))) :
    Ev (tLc (iZipS K (tCons ta (tCons tb tNil))) (gTup K 2 (gCons (gName i) (gCons (gName j) gNil))) tYes te [i,j]) σ Hs (Ls F ((x.cps.toList.zip ns).map fun p=>g p.1 p.2)):=by
  intro Gs H0 a b Q k
  unfold tLc iZipS
  refine eva_cons hx (eva_cons hn eva_nil) Gs H0 a b _ fun vs G1 H1 e1 p1=>?_
  obtain ⟨v,u,rfl,hv,c,ws,rfl,h1,h2⟩:=all2 p1
  have lw:ws.length = ns.length:=Paired.length h2
  refine ⟨x,c,ws,by rw [show v = _ from hv],has,SqL.of (e1.sub _ _ h1),fun D hD=>?_⟩
  have n0:H0 D = none:=e1.big.free hD
  have zl:(x.cps.toList.zip ns).length = ns.length:=by rw [List.length_zip,Array.length_toList,hl]; omega
  refine ⟨fun n mm H=>mm = ns.length - n /\ n <= ns.length /\ LcInv F Gs H0 G1 D (((x.cps.toList.zip ns).take n).map fun p=>g p.1 p.2) n H,⟨ns.length,by simp,Nat.zero_le _,G1,[],ext_at e1 n0 (e1.sub.free hD),same_refl _,upd_same,e1.sub.free hD,.nil,Nat.le_refl _⟩,?_⟩
  rintro n mm H ⟨rfl,hn1,J⟩
  obtain ⟨G,acc,e,s,hD',nD,pr,hla⟩:=J
  by_cases hlt:n < ns.length
  · have hc:x.cps[n]? = some (x.cps[n]'(by omega)):=Array.getElem?_eq_getElem (by omega)
    have hnn:ns[n]? = some ns[n]:=List.getElem?_eq_getElem hlt
    have hw:ws[n]? = some (.int (ns[n]:Nat)):=by
      obtain ⟨y,hy,py⟩:=paired_ix h2 hnn
      rw [hy,show y = _ from py]
    have sq:SqL K H c ws:=SqL.of (e.sub _ _ (s _ _ h1))
    refine .inr ⟨⟨_,ws,_,hc,sq,hw⟩,fun H'=>LcInv F Gs H0 G1 D (((x.cps.toList.zip ns).take (n + 1)).map fun p=>g p.1 p.2) (n + 1) H',fun H' q=>⟨ns.length - (n + 1),by omega,rfl,hlt,q⟩,fun y H' q=>?_⟩
    obtain ⟨t,c',y',rfl,ht,rfl,hc',hy'⟩:=q
    have ec:c' = x.cps[n]'(by omega):=Option.some.inj (hc'.symm.trans hc)
    have ey:y' = .int (ns[n]:Nat):=Option.some.inj ((hy' ws sq).symm.trans hw)
    subst ec ey
    have Dt:D ≠ t:=ne_of_none hD' ht
    refine ⟨t,_,rfl,SqT.of upd_same,rfl,_,_,rfl,_,_,rfl,rfl,wipe_two hij,?_⟩
    have e':Ext Gs H0 G (upd H t (.tup [.str (sgn (x.cps[n]'(by omega))),.int (ns[n]:Nat)])):=ext_fresh e ht
    unfold tYes
    dsimp only
    rw [if_pos rfl]
    refine he n _ _ hc hnn G ((a.trans e1.mono).trans s) G _ (same_refl _) e'.sub _ fun w G3 H3 e3 p3=>?_
    have hD3:H3 D = some (.lst acc):=e3.big _ _ (by rw [upd_ne Dt]; exact hD')
    have nD3:G3 D = none:=by
      cases q:G3 D with
      | none=>rfl
      | some o=>exact (e3.fr D o q).elim (fun z=>by rw [nD] at z; cases z) fun z=>by rw [upd_ne Dt,hD'] at z; cases z
    refine ⟨acc,hD3,by rw [sizeLine_eq]; omega,G3,acc ++ [w],ext_at (e'.trans e3) n0 nD3,s.trans e3.mono,upd_same,nD3,?_,by rw [List.length_append,List.length_singleton]; omega⟩
    have hzip:(x.cps.toList.zip ns)[n]? = some (x.cps[n]'(by omega),ns[n]):=by
      rw [List.getElem?_zip_eq_some]
      exact ⟨by rw [Array.getElem?_toList]; exact hc,hnn⟩
    rw [take_succ_of hzip,List.map_append]
    exact paired_app (paired_st e3.mono pr) (.cons p3 .nil)
  · have en:n = ns.length:=by omega
    subst en
    refine .inl ⟨by show x.cps.size <= ns.length; omega,k _ (upd G D (.lst acc)) H (ext_own e n0 nD hD') ⟨D,acc,rfl,upd_same,?_⟩⟩
    rw [<- zl,List.take_length] at pr
    exact paired_st (same_upd (same_refl _) nD) pr
end
structure KTexts (K:PySem.W.Frag) (a:Addr) (xs:List Str):Prop where
  ex:∃ (o:Obj) (its:Array Value) (n:Nat),K.lookup a = some o /\ o.cls = .type "tuple" /\ o.data = .seq its n /\ its.size <= sizeLine /\ Vals (xs.map V.str) its.toList
theorem ev_ixK {σ:St} {Hs:Hp} {K:PySem.W.Frag} {a:Addr} {xs:List Str} {ti:TE} {k:Nat} {x:Str} (d:KTexts K a xs) (hi:Ev ti σ Hs (NI k)) (h:xs[k]? = some x):Ev (tOp (rIxT K) (tC (.ref a)) ti) σ Hs (T x):=by
  have h0:Ev (tC (.ref a)) σ Hs (fun _ v=>v = .ref a):=fun G H _ b Q q=>q _ G H (.refl b) rfl
  have:Stab (fun (_:Hp) v=>v = V.ref a):=⟨fun _ h=>h⟩
  refine ev2 h0 hi fun y z G H s p q Q k'=>?_
  rw [show y = _ from p]
  exact ⟨a,xs.map V.str,k,.str x,rfl,q,.inr d.ex,atI_nat (by rw [List.getElem?_map,h]; rfl),k' _ G H (.refl s) rfl⟩
end L2.FF
end
section
namespace L2.FF
open PySem PySem.Spec PyProof.Rows
def Op {α:Type} (P:α -> Pr):Option α -> Pr
  | none=>fun _ v=>v = .non
  | some x=>P x
instance {α:Type} {P:α -> Pr} [∀ x,Stab (P x)] {o:Option α}:Stab (Op P o):=⟨fun {H H' v} e h=>by
  cases o with
  | none=>exact h
  | some x=>exact Stab.st (P:=P x) e h⟩
def Fr (P:Pr) (G:Hp):Pr:=fun H v=>P H v /\ ∀ c,v = .ref c -> G c = none
instance {P:Pr} {G:Hp} [Stab P]:Stab (Fr P G):=⟨fun e h=>⟨Stab.st e h.1,h.2⟩⟩
theorem Fr.new {α:Type} {F:α -> Pr} {xs:List α} {G H G2 H2:Hp} {v:V} (h:Fr (Ls F xs) G G2 v) (e:Ext G H G2 H2):∃ c,v = .ref c /\ H c = none /\ Ls F xs G2 (.ref c):=by
  obtain ⟨⟨c,vs,rfl,h1,h2⟩,hn⟩:=h
  exact ⟨c,rfl,(e.fr _ _ h1).elim (fun z=>by rw [hn c rfl] at z; cases z) id,c,vs,rfl,h1,h2⟩
def spF {ι:Type} (A:ι -> List Pr) (C:ι -> Prop) (F:ι -> Pr):Sp:=fun vs H Q _=>∃ (x:ι) (G:Hp),Same G H /\ C x /\ AllP G vs (A x) /\ ∀ v G2 H2,Ext G H G2 H2 -> Fr (F x) G G2 v -> Q v H2
theorem ev_callF {σ:St} {Hs:Hp} {ι:Type} {A:ι -> List Pr} {C:ι -> Prop} {F:ι -> Pr} {E:XK} (x:ι) {t:TA} (h:EvA t σ Hs (A x)) (c:C x):Ev (tCall (spF A C F) [] E t) σ Hs (Fr (F x) Hs) :=
  fun G H a b Q k=>h G H a b _ fun vs G1 H1 e1 p1=>by
    rw [List.append_nil]
    exact ⟨x,G1,e1.sub,c,p1,fun v G2 H2 e2 p2=>k v G2 H2 (e1.trans e2) ⟨p2.1,fun c hc=>(a.trans e1.mono).free (p2.2 c hc)⟩⟩
theorem fresh_fn {P:Program} {w:World} {K:PySem.W.Frag} {mg:Str -> Option Value} {base:Heap} {ι:Type} {A:ι -> List Pr} {C:ι -> Prop} {R:ι -> Pr} {x qual:Str} {st:Stmt} {f:Addr} {fd:FuncData} {N ps:List Str} {k:Nat} (F:Fun K x qual st f fd) (S:FnScope N ps (defScope st)) (len:∀ y,(A y).length = ps.length)
    (hb:∀ (cdv:Value) (B:Around) (outer:List Env) (s:Shared) (H:Hp) (E:XK),Room k (B.deeper (envOfC qual (defScope st) s.heap.objs.size f cdv)) →
      ∃ t,PSs (cxOf CX0 P w K mg base N qual (defScope st) f cdv B outer s H E).nox (defBody st) t /\ ∀ y vs G,C y -> AllP G vs (A y) -> EvN t (start N vs) G NoN (Fr (R y) G)):FnOk P w K mg base CX0 (k + 1) f fd ps (spF A C R):=by
  refine F.ok S (fun vs H Q E h=>?_) (fun cdv B outer s H vs Q E hr h=>?_)
  · obtain ⟨y,G,_,_,p,_⟩:=h
    rw [Paired.length p,len y]
  · obtain ⟨y,G,sG,c,p,q⟩:=h
    obtain ⟨t,h1,h2⟩:=hb cdv B outer s H E hr
    exact ⟨t,h1,h2 y vs G c p G H (same_refl _) sG _ (fun _ _ _ _ z=>z.elim) fun v G2 H2 e r=>q v G2 H2 e r⟩
theorem evn_ownF {α:Type} (F:α -> Pr) [∀ x,Stab (F x)] (xs:List α) {ta:TA} {σ:St} {Hs:Hp} {u:TS} {i:Nat} {R:Pr} (h:EvA ta σ Hs (xs.map F)) (hz:xs.length <= 1000)
    (g:∀ Gs H0 c vs G2,Hs c = none -> Same Hs G2 -> Paired (fun u x=>F x G2 u) vs xs -> EvO Gs H0 c u (σ.set i (some (.ref c))) G2 vs (fun _ _ _=>False) R):EvN (tSeq (tAsg (tLst ta) (gName i)) u) σ Hs NoN R:=fun Gs H0 x y D _ r =>
  h Gs H0 x y _ fun vs G1 H1 e1 p1=>by
    have p:=allP_map p1
    have hl:=Paired.length p
    refine ⟨by rw [sizeLine_eq]; omega,fun c hc=>?_⟩
    exact g Gs H0 c vs G1 ((x.trans y).free (e1.big.free hc)) (x.trans e1.mono) p _ ⟨ext_at e1 (e1.big.free hc) (e1.sub.free hc),e1.big.free hc,e1.sub.free hc,upd_same⟩ D (fun _ _ _ _ _ _ z=>z.elim) r
section
variable {X:Cx} {K:PySem.W.Frag}
theorem cr_minK (hc:X.calm = true) (h:X.K = K):CallR X (.builtin "min") (rMin K):=h ▸ cr_min hc
theorem op_inK (h:X.K = K):OpR X (compareOp .In) (rIn K false):=h ▸ op_in_seq
def rIsN:R2:=fun x y H Q=>y = .non /\ Q (.bl (decide (x = .non))) H
def rNotN:R2:=fun x y H Q=>y = .non /\ Q (.bl (!decide (x = .non))) H
theorem op_isN':OpR X (compareOp .Is) rIsN:=op_isN
theorem op_notN':OpR X (compareOp .IsNot) rNotN:=op_notN
theorem pi_zipK {e e2:Expr} {ta:TA} {p pos tpos:Pos} {elts:List Expr} {kk:Nat} (hK:X.K = K) (hm:X.mg "zip" = none) (ha:PA X [e,e2] ta) (hg:Gl X "zip":=by rfl)
    (hs:starEach [e,e2] X.env = (false,eval e X.env) :: starEach [e2] X.env:=by rfl) (hpl:(backTo pos (starEach [e2] X.env)).any (·.1) = false:=by rfl) :
    PI X (.Tuple elts kk tpos) (.Call (.Name "zip" p) [e,e2] [] pos) (iZip K ta):=hK ▸ pi_zip hg hm ha hs hpl
end
section
variable {σ:St} {Hs:Hp} {K:PySem.W.Frag} {ta tb tc:TE} {a b:Nat}
theorem ev_non {α:Type} {P:α -> Pr}:Ev (tC .non) σ Hs (Op P none):=fun G H _ b Q q=>q _ G H (.refl b) rfl
theorem ls_ref {α:Type} {F:α -> Pr} {xs:List α} {H:Hp} {v:V} (h:Ls F xs H v):v ≠ .non:=by
  obtain ⟨a,_,rfl,_⟩:=h
  intro z; cases z
theorem evt_isN {α:Type} {F:α -> Pr} [∀ x,Stab (F x)] {o:Option (List α)} (h:Ev ta σ Hs (Op (Ls F) o)):EvT (tTest (tOp rIsN ta (tC .non))) σ Hs o.isNone:=evt_b (ev2 (R:=L2.FF.B o.isNone) h (ev_non (P:=I)) fun x y G H s p q Q k=>⟨q,k _ G H (.refl s) (by
  cases o with
  | none=>exact congrArg V.bl (decide_eq_true (show x = .non from p))
  | some xs=>exact congrArg V.bl (decide_eq_false (ls_ref p)))⟩)
theorem evt_notN {α:Type} {F:α -> Pr} [∀ x,Stab (F x)] {o:Option (List α)} (h:Ev ta σ Hs (Op (Ls F) o)):EvT (tTest (tOp rNotN ta (tC .non))) σ Hs o.isSome:=evt_b (ev2 (R:=L2.FF.B o.isSome) h (ev_non (P:=I)) fun x y G H s p q Q k=>⟨q,k _ G H (.refl s) (by
  cases o with
  | none=>exact congrArg (fun z=>V.bl (!z)) (decide_eq_true (show x = .non from p))
  | some xs=>exact congrArg (fun z=>V.bl (!z)) (decide_eq_false (ls_ref p)))⟩)
theorem ev_minL {xs:List Nat} (h:Ev ta σ Hs (Ls NI xs)) (h0:0 < xs.length):Ev (tCB (rMin K) (tCons ta tNil)) σ Hs (NI (xs.min?.getD 0)) :=
  ev_cb (eva_cons (h.imp fun H v h=>ls_nat h) eva_nil) fun vs G H s p Q k=>by
    obtain ⟨v,rfl,a,ws,rfl,h1,h2⟩:=all1 p
    refine ⟨a,_,rfl,by rw [<- ints_vs h2]; exact SqL.of (s _ _ h1),by rw [List.length_map]; exact h0,fun m hm hmin=>k _ G H (.refl s) ?_⟩
    obtain ⟨x,hx,rfl⟩:=List.mem_map.mp hm
    have e:xs.min? = some x:=List.min?_eq_some_iff.mpr ⟨hx,fun y hy=>by have:=hmin _ (List.mem_map.mpr ⟨y,hy,rfl⟩); omega⟩
    rw [e]; rfl
theorem inV_nat (a:Nat):∀ xs:List Nat,inV (.int a) ((xs.map fun (k:Nat)=>(k:Int)).map V.int) = xs.contains a
  | []=>rfl
  | x :: r=>by
    have ih:=inV_nat a r
    unfold inV at ih ⊢
    rw [List.map_cons,List.map_cons,List.any_cons,ih,List.contains_cons]
    congr 1
    show decide ((x:Int) = (a:Int)) = _
    rw [Bool.eq_iff_iff,beq_iff_eq,decide_eq_true_eq]
    omega
theorem flat_ints:∀ ns:List Int,(ns.map V.int).all flatV = true
  | []=>rfl
  | _ :: r=>by rw [List.map_cons,List.all_cons,flat_ints r]; rfl
theorem ev_inN {xs:List Nat} (ha:Ev ta σ Hs (NI a)) (hb:Ev tb σ Hs (Ls NI xs)):Ev (tOp (rIn K false) ta tb) σ Hs (B (xs.contains a)) :=
  ev2 ha (hb.imp fun H v h=>ls_nat h) fun y z G H s p q Q k=>by
    obtain ⟨c,ws,rfl,h1,h2⟩:=q
    have e:=ints_vs h2
    rw [show y = _ from p]
    exact ⟨c,ws,rfl,.inl (SqL.of (s _ _ h1)),rfl,by rw [e]; exact flat_ints _,k _ G H (.refl s) (by
      show V.bl (inV _ ws) = _
      rw [e,inV_nat])⟩
theorem ev_leN (ha:Ev ta σ Hs (NI a)) (hb:Ev tb σ Hs (NI b)):Ev (tOp (rI0 fun i j=>.bl (decide (i <= j))) ta tb) σ Hs (B (decide (a <= b))):=(ev_le ha hb).imp fun H v h=>by
  rw [show v = _ from h]; exact congrArg V.bl (decide_eq_decide.mpr (by omega))
theorem ev_mulN (ha:Ev ta σ Hs (NI a)) (hb:Ev tb σ Hs (NI b)) (h:a < 1000):Ev (tOp (rI CMul fun i j=>.int (i * j)) ta tb) σ Hs (NI (a * b)):=(ev_mul ha hb (.inl ⟨by omega,by omega⟩)).int_eq (by push_cast; rfl)
theorem paired_drop {α β:Type} {F:α -> β -> Prop}:∀ {l:List α} {m:List β} (j:Nat),Paired F l m -> Paired F (l.drop j) (m.drop j)
  | _,_,0,h=>h
  | _,_,_ + 1,.nil=>.nil
  | _,_,j + 1,.cons _ t=>paired_drop j t
theorem cut_from (xs:List V) (i:Nat):cutV xs (some (i:Int)) none = xs.drop i:=by
  unfold cutV
  rw [HT.sIx_nat,show HT.sIx xs.length xs.length none = xs.length from rfl]
  by_cases h:i <= xs.length
  · rw [Nat.min_eq_left h,List.take_of_length_le (by rw [List.length_drop]; exact Nat.le_refl _)]
  · rw [Nat.min_eq_right (by omega),List.drop_of_length_le (Nat.le_refl _),List.drop_of_length_le (by omega)]
    simp
theorem ev_from {α:Type} {F:α -> Pr} [∀ x,Stab (F x)] {xs:List α} (ha:Ev ta σ Hs (Ls F xs)) (hb:Ev tb σ Hs (NI a)):Ev (tSl (rSlL K) ta (tPart tb) tNoPart) σ Hs (Ls F (xs.drop a)):=by
  intro G H x y Q k
  refine ha G H x y _ fun v G1 H1 e1 p1=>?_
  refine hb G1 H1 (x.trans e1.mono) e1.sub _ fun u G2 H2 e2 p2=>⟨_,p2,?_⟩
  obtain ⟨c,ws,rfl,h1,h2⟩:=p1
  refine ⟨c,_,rfl,SqL.of (e2.sub _ _ (e2.mono _ _ h1)),fun d hd=>?_⟩
  rw [cut_from]
  exact k _ (upd G2 d _) _ (e1.trans (e2.trans (.alloc _ e2.sub hd))) ⟨d,_,rfl,upd_same,paired_st (e2.mono.trans (same_upd (same_refl _) (e2.sub.free hd))) (paired_drop a h2)⟩
theorem ev_lcZZ {α γ β:Type} {P:α -> Pr} {R:γ -> Pr} {F:β -> Pr} [∀ x,Stab (P x)] [∀ x,Stab (R x)] [∀ y,Stab (F y)] {te:TE} {i j:Nat} (xs:List α) (ns:List γ) (g:α -> γ -> β) (hij:i ≠ j) (hx:Ev ta σ Hs (Ls P xs)) (hn:Ev tb σ Hs (Ls R ns)) (hl:xs.length = ns.length) (hz:ns.length <= 1000)
    (he:∀ (k:Nat) (c:α) (n:γ) (v u:V),xs[k]? = some c -> ns[k]? = some n -> ∀ G,Same Hs G -> P c G v -> R n G u -> Ev te (((wipe σ [i,j]).set i (some v)).set j (some u)) G (F (g c n))) :
    Ev (tLc (iZip K (tCons ta (tCons tb tNil))) (gTup K 2 (gCons (gName i) (gCons (gName j) gNil))) tYes te [i,j]) σ Hs (Fr (Ls F (List.zipWith g xs ns)) Hs):=by
  intro Gs H0 a b Q k
  unfold tLc iZip
  refine eva_cons hx (eva_cons hn eva_nil) Gs H0 a b _ fun vs G1 H1 e1 p1=>?_
  obtain ⟨v,u,rfl,⟨c0,us,rfl,h3,h4⟩,c,ws,rfl,h1,h2⟩:=all2 p1
  have lw:ws.length = ns.length:=Paired.length h2
  have lu:us.length = xs.length:=Paired.length h4
  refine ⟨c0,c,us,ws,rfl,SqL.of (e1.sub _ _ h3),SqL.of (e1.sub _ _ h1),fun D hD=>?_⟩
  have n0:H0 D = none:=e1.big.free hD
  have zl:(List.zipWith g xs ns).length = ns.length:=by rw [List.length_zipWith]; omega
  refine ⟨fun n mm H=>mm = ns.length - n /\ n <= ns.length /\ LcInv F Gs H0 G1 D ((List.zipWith g xs ns).take n) n H,⟨ns.length,by simp,Nat.zero_le _,G1,[],ext_at e1 n0 (e1.sub.free hD),same_refl _,upd_same,e1.sub.free hD,.nil,Nat.le_refl _⟩,?_⟩
  rintro n mm H ⟨rfl,hn1,J⟩
  obtain ⟨G,acc,e,s,hD',nD,pr,hla⟩:=J
  have sq:SqL K H c ws:=SqL.of (e.sub _ _ (s _ _ h1))
  have sq0:SqL K H c0 us:=SqL.of (e.sub _ _ (s _ _ h3))
  by_cases hlt:n < ns.length
  · have hc:xs[n]? = some (xs[n]'(by omega)):=List.getElem?_eq_getElem (by omega)
    have hnn:ns[n]? = some ns[n]:=List.getElem?_eq_getElem hlt
    obtain ⟨y,hy,py⟩:=paired_ix h2 hnn
    obtain ⟨x,hx',px⟩:=paired_ix h4 hc
    refine .inr ⟨⟨us,ws,x,y,sq0,sq,hx',hy⟩,fun H'=>LcInv F Gs H0 G1 D ((List.zipWith g xs ns).take (n + 1)) (n + 1) H',fun H' q=>⟨ns.length - (n + 1),by omega,rfl,hlt,q⟩,fun w H' q=>?_⟩
    obtain ⟨t,x',y',rfl,ht,rfl,hxx,hyy⟩:=q
    have ex:x' = x:=Option.some.inj ((hxx us sq0).symm.trans hx')
    have ey:y' = y:=Option.some.inj ((hyy ws sq).symm.trans hy)
    subst ex ey
    have Dt:D ≠ t:=ne_of_none hD' ht
    refine ⟨t,_,rfl,SqT.of upd_same,rfl,_,_,rfl,_,_,rfl,rfl,wipe_two hij,?_⟩
    have e':Ext Gs H0 G (upd H t (.tup [x',y'])):=ext_fresh e ht
    unfold tYes
    dsimp only
    rw [if_pos rfl]
    refine he n _ _ x' y' hc hnn G ((a.trans e1.mono).trans s) (Stab.st s px) (Stab.st s py) G _ (same_refl _) e'.sub _ fun w G3 H3 e3 p3=>?_
    have hD3:H3 D = some (.lst acc):=e3.big _ _ (by rw [upd_ne Dt]; exact hD')
    have nD3:G3 D = none:=by
      cases q:G3 D with
      | none=>rfl
      | some o=>exact (e3.fr D o q).elim (fun z=>by rw [nD] at z; cases z) fun z=>by rw [upd_ne Dt,hD'] at z; cases z
    refine ⟨acc,hD3,by rw [sizeLine_eq]; omega,G3,acc ++ [w],ext_at (e'.trans e3) n0 nD3,s.trans e3.mono,upd_same,nD3,?_,by rw [List.length_append,List.length_singleton]; omega⟩
    have hzip:(List.zipWith g xs ns)[n]? = some (g (xs[n]'(by omega)) ns[n]):=by rw [List.getElem?_zipWith,hc,hnn]
    rw [take_succ_of hzip]
    exact paired_app (paired_st e3.mono pr) (.cons p3 .nil)
  · have en:n = ns.length:=by omega
    subst en
    refine .inl ⟨⟨us,ws,sq0,sq,.inr (by omega)⟩,k _ (upd G D (.lst acc)) H (ext_own e n0 nD hD') ⟨⟨D,acc,rfl,upd_same,?_⟩,fun c hc=>by cases hc; exact (a.trans b).free n0⟩⟩
    rw [<- zl,List.take_length] at pr
    exact paired_st (same_upd (same_refl _) nD) pr
end
end L2.FF
end
section
namespace L2.FF
open PySem PySem.Spec PyProof.Rows
structure KDict (K:PySem.W.Frag) (a:Addr) (fs:List (Int × Addr)):Prop where
  ex:∃ (ep:Nat) (es:List DictEntry),K.lookup a = some { cls:=.type "dict",data:=.dict es.toArray ep } /\ Paired (fun (e:DictEntry) (p:Int × Addr)=>(∃ t,e.key = .int p.1 t) /\ e.val = .ref p.2 /\ e.hash = hashInt p.1) es fs
  nd:(fs.map (·.1)).Nodup
def kvOf (fs:List (Int × Addr)):List (Key × Value):=fs.map fun p=>(Sum.inl p.1,Value.ref p.2)
abbrev EntOk (e:DictEntry) (p:Int × Addr):Prop:=(∃ t,e.key = .int p.1 t) /\ e.val = .ref p.2 /\ e.hash = hashInt p.1
theorem ent_keys {P:Program} {w:World}:∀ {es:List DictEntry} {fs:List (Int × Addr)},Paired EntOk es fs -> ∀ e ∈ es,∃ k,(mixKind P w).is k e.key = true /\ e.hash = (mixKind P w).hash k
  | _,_,.nil,e,h=>by cases h
  | _,_,.cons r t,e,h=>by
    rcases List.mem_cons.mp h with q | q
    · subst q
      obtain ⟨⟨t,hk⟩,_,hh⟩:=r
      exact ⟨Sum.inl _,by rw [hk]; exact mixKind_int _ _ _ _,hh⟩
    · exact ent_keys t e q
theorem ent_pairs {P:Program} {w:World}:∀ {es:List DictEntry} {fs:List (Int × Addr)},Paired EntOk es fs -> PySem.Pairs (mixKind P w) es (kvOf fs)
  | _,_,.nil=>.nil
  | _,_,.cons r t=>by
    obtain ⟨⟨t',hk⟩,hv,_⟩:=r
    exact .cons (by rw [hk]; exact mixKind_int _ _ _ _) hv (ent_pairs t)
theorem kv_nodup:∀ {fs:List (Int × Addr)},(fs.map (·.1)).Nodup -> ((kvOf fs).map (·.1)).Nodup
  | [],_=>List.nodup_nil
  | p :: r,h=>by
    have n:=List.nodup_cons.mp h
    refine List.nodup_cons.mpr ⟨fun m=>n.1 ?_,kv_nodup n.2⟩
    obtain ⟨q,hq,e⟩:=List.mem_map.mp m
    obtain ⟨q',hq',e'⟩:=List.mem_map.mp hq
    subst e'
    exact List.mem_map.mpr ⟨q',hq',Sum.inl.inj e⟩
theorem KDict.of {K:PySem.W.Frag} {a:Addr} {fs:List (Int × Addr)} (d:KDict K a fs) {P:Program} {w:World} {h:Heap} (X:K.In h):h.DictOf (mixKind P w) a (kvOf fs):=by
  obtain ⟨ep,es,hl,pr⟩:=d.ex
  exact ⟨_,es.toArray,ep,X _ _ hl,⟨rfl,rfl,rfl⟩,rfl,fun e he=>ent_keys pr e (by simpa using he),ent_pairs pr,kv_nodup d.nd⟩
theorem kv_at:∀ {fs:List (Int × Addr)} {k:Int} {f:Addr},(fs.map (·.1)).Nodup -> (k,f) ∈ fs -> valueAt (kvOf fs) (Sum.inl k) = some (.ref f)
  | p :: r,k,f,nd,h=>by
    have n:=List.nodup_cons.mp nd
    unfold valueAt kvOf
    rw [List.map_cons,List.find?_cons]
    by_cases e:p.1 = k
    · rw [decide_eq_true (show (Sum.inl p.1:Key) = Sum.inl k by rw [e])]
      rcases List.mem_cons.mp h with q | q
      · rw [<- q]; rfl
      · exact absurd (List.mem_map.mpr ⟨(k,f),q,e.symm⟩) n.1
    · rw [decide_eq_false (show ¬ (Sum.inl p.1:Key) = Sum.inl k from fun z=>e (Sum.inl.inj z))]
      rcases List.mem_cons.mp h with q | q
      · exact absurd (by rw [<- q]) e
      · exact kv_at n.2 q
def CallOk (X:Cx) (f:Addr) (sp:Sp):Prop:=∃ k fd ps,FnOk X.prog X.w X.K X.mg X.base CX0 k f fd ps sp /\ Room k X.A /\ PySem.W.keepIn X.K (.ref f) = true /\ Binds X.K fd ps []
def tDisp (fs:List (Int × Addr)) (ok:Addr -> Sp -> Prop) (ty:TE) (t:TA):TE:=fun σ H Q=>ty σ H fun y H1=>∃ k f sp,y = .int k /\ (k,f) ∈ fs /\ ok f sp /\ t σ H1 fun vs H2=>sp vs H2 Q E0
theorem pe_disp {X:Cx} {D:Str} {a:Addr} {fs:List (Int × Addr)} {i e:Expr} {es:List Expr} {ty:TE} {t:TA} {p ps pos:Pos} (d:KDict X.K a fs) (hm:X.mg D = some (.ref a)) (hi:PE X i ty) (ha:PA X (e :: es) t) (hs:NoSl i)
    (hg:Gl X D:=by rfl) (hdb:(D == ("__debug__":Str)) = false:=by decide) (he:starEach (e :: es) X.env = (false,eval e X.env) :: starEach es X.env:=by rfl) (hpl:(backTo pos (starEach es X.env)).any (·.1) = false:=by rfl)
    (hc:eval (.Call (.Subscript (.Name D p) i ps) (e :: es) [] pos) X.env = (do callWith pos (<- eval (.Subscript (.Name D p) i ps) X.env) [] (backTo pos (starEach (e :: es) X.env)) (backToKw pos (keywordEach [] X.env))):=by rfl) :
    PE X (.Call (.Subscript (.Name D p) i ps) (e :: es) [] pos) (tDisp fs (CallOk X) ty t):=by
  intro pins s σ H Q I h
  refine Call_ (subD_of PySem.F.slot_dict_getitem.lookup hs (ld_glob I hg hm (thn (hi pins s σ H _ I h) fun iv s2 ⟨y,H2,I2,ry,k,f,sp,ey,hf,ok,q2⟩=>?_) hdb)) hc
  subst ey
  have dd:s2.heap.DictOf (mixKind X.prog X.w) a (kvOf fs):=d.of I2.kIn
  obtain ⟨k',fd,ps',F,hr,hk,hb⟩:=ok
  refine ⟨dd.typeIs,wpAny_getItem_of (k:=Sum.inl k) (kV_is (k:=Sum.inl k) ry) dd.mapOf (kv_at d.nd hf) ?_⟩
  have I3:=I2.tok (s2.toks + 1)
  refine PySem.W.callWith_K (h₀:=X.base) I.ok.mod.kin hk (thn (ha pos pins _ σ H2 _ I3 q2) fun us s3 ⟨vs,H3,I4,r,q⟩=>⟨I4.kIn,?_⟩) he hpl
  exact run_fn F hr hb .nil pass0 I4 r (by rw [List.append_nil]; exact q)
end L2.FF
end
section
namespace L2.FF
open PySem PySem.Spec PyProof.Rows
def spU (C:Addr) (ok:List Nat -> WD -> Prop) (up:List Nat -> WD -> WD) (an:List Nat -> WD -> List Int):Sp:=spW (ι:=List Nat) C (fun ns=>[Ls NI ns]) ok up an
section
variable {P:Program} {w:World} {K:PySem.W.Frag} {mg:Str -> Option Value} {base:Heap} {k:Nat} {f C:Addr} {fd:FuncData} {ps:List Str}
theorem pure_toU {ι:Type} {A:ι -> List Pr} {Cd:ι -> Prop} {R:ι -> Pr} {ok:List Nat -> WD -> Prop} {an:List Nat -> WD -> List Int} (F:FnOk P w K mg base CX0 k f fd ps (spP A Cd R))
    (h:∀ ns W,ok ns W -> ∃ x,A x = [WA C W,Ls NI ns] /\ Cd x /\ R x = Ls I (an ns W)):FnOk P w K mg base CX0 k f fd ps (spU C ok (fun _ W=>W) an):=by
  refine F.imp fun vs H Q E hs=>?_
  obtain ⟨ns,W,G,p,dx,bl,tl,rest,rfl,sG,wa,pr,hc,kk⟩:=hs
  obtain ⟨x,e1,c,e2⟩:=h ns W hc
  obtain ⟨v1,rfl,q1⟩:=all1 pr
  refine ⟨x,G,sG,c,?_,fun v G2 H2 e r=>kk v H2 (.same e wa (by rw [<- e2]; exact r))⟩
  rw [e1]
  exact .cons ⟨p,dx,bl,tl,rfl,wa⟩ (.cons q1 .nil)
theorem wall_toU {ι:Type} {A:ι -> List Pr} {Cd:ι -> WD -> Prop} {Fw:ι -> WD -> WD} {F':ι -> WD -> List Int} {ok:List Nat -> WD -> Prop} {up:List Nat -> WD -> WD} {an:List Nat -> WD -> List Int} (F:FnOk P w K mg base CX0 k f fd ps (spW C A Cd Fw F'))
    (h:∀ ns W,ok ns W -> ∃ x,A x = [Ls NI ns] /\ Cd x W /\ Fw x W = up ns W /\ F' x W = an ns W):FnOk P w K mg base CX0 k f fd ps (spU C ok up an):=by
  refine F.imp fun vs H Q E hs=>?_
  obtain ⟨ns,W,G,p,dx,bl,tl,rest,rfl,sG,wa,pr,hc,kk⟩:=hs
  obtain ⟨x,e1,c,e2,e3⟩:=h ns W hc
  exact ⟨x,W,G,p,dx,bl,tl,rest,rfl,sG,wa,by rw [e1]; exact pr,c,fun v H2 a=>kk v H2 (by rw [<- e2,<- e3]; exact a)⟩
def DefOk (P:Program) (w:World) (K:PySem.W.Frag) (mg:Str -> Option Value) (base:Heap) (L:Nat) (f:Addr) (sp:Sp):Prop:=∃ k fd ps,k <= L /\ FnOk P w K mg base CX0 k f fd ps sp /\ PySem.W.keepIn K (.ref f) = true /\ Binds K fd ps []
end
end L2.FF
end
section
namespace L2.FF
open PySem PySem.Spec PyProof.Rows
def SL (K:PySem.W.Frag) (ns:List Int):Pr:=fun H v=>∃ a,v = .ref a /\ SqL K H a (ns.map V.int)
instance {K:PySem.W.Frag} {ns:List Int}:Stab (SL K ns):=⟨fun e ⟨a,q,h⟩=>⟨a,q,e.seq h⟩⟩
def CallsAt (K:PySem.W.Frag) (H:Hp) (a:Addr) (xs:List V):Prop:=(∃ o,H a = some (.frz o (.lst xs))) ∨
  ∃ (o:Obj) (its:Array Value) (n:Nat),K.lookup a = some o /\ o.cls = .type "list" /\ o.dict = none /\ o.data = .seq its n /\ its.size <= sizeLine /\ Vals xs its.toList
theorem calls_plus {K:PySem.W.Frag} {G H:Hp} {a g:Addr} {ns:List Int} {acc:List V} (s:Same G H) (c:CallsAt K H a (ns.map V.int)) (hg:H g = some (.lst acc)) (ng:G g = none):∃ Gp,Same G Gp /\ Same Gp H /\ SL K ns Gp (.ref a) /\ Gp g = none:=by
  rcases c with ⟨o,h⟩ | h
  · refine ⟨fun b=>if b = a then H a else G b,fun b u q=>?_,fun b u q=>?_,⟨a,rfl,.inl (.inr ⟨o,?_⟩)⟩,?_⟩
    · show (if b = a then H a else G b) = some u
      split
      · rename_i z; rw [<- z]; exact s _ _ q
      · exact q
    · have q:(if b = a then H a else G b) = some u:=q
      split at q
      · rename_i z; rw [z]; exact q
      · exact s _ _ q
    · show (if a = a then H a else G a) = _
      rw [if_pos rfl]; exact h
    · show (if g = a then H a else G g) = none
      rw [if_neg (ne_of hg h (by intro z; cases z))]; exact ng
  · exact ⟨G,same_refl _,s,⟨a,rfl,.inr h⟩,ng⟩
section
variable {σ:St} {Hs:Hp} {K:PySem.W.Frag} {ta tb tc:TE} {ns:List Int}
theorem ev_ixSL {n:Nat} {x:Int} {i:Int} (ha:Ev ta σ Hs (SL K ns)) (hb:Ev tb σ Hs (I i)) (e:i = (n:Int)) (h:ns[n]? = some x):Ev (tOp (rIxL K) ta tb) σ Hs (I x) :=
  ev2 ha hb fun y z G H s p q Q k=>by
    obtain ⟨a,rfl,h1⟩:=p
    exact ⟨a,_,i,.int x,rfl,q,s.seq h1,by rw [e]; exact atI_nat (by rw [List.getElem?_map,h]; rfl),k _ G H (.refl s) rfl⟩
theorem ev_lenSL (h:Ev ta σ Hs (SL K ns)):Ev (tCB (rLen K) (tCons ta tNil)) σ Hs (NI ns.length) :=
  ev_cb (eva_cons h eva_nil) fun vs G H s p Q k=>by
    obtain ⟨v,rfl,a,rfl,h1⟩:=all1 p
    exact ⟨a,_,rfl,.inl (s.seq h1),k _ G H (.refl s) (by rw [List.length_map]; rfl)⟩
theorem cut_nat (xs:List V) (i j:Nat) (hj:j <= xs.length):cutV xs (some (i:Int)) (some (j:Int)) = (xs.drop i).take (j - i):=by
  unfold cutV
  rw [HT.sIx_nat,HT.sIx_nat,Nat.min_eq_left hj]
  by_cases h:i <= xs.length
  · rw [Nat.min_eq_left h]
  · rw [Nat.min_eq_right (by omega),List.drop_of_length_le (Nat.le_refl _),List.drop_of_length_le (by omega)]
    simp
theorem ev_slice {i j:Nat} (ha:Ev ta σ Hs (SL K ns)) (hb:Ev tb σ Hs (NI i)) (hc:Ev tc σ Hs (NI j)) (hj:j <= ns.length):Ev (tSl (rSlL K) ta (tPart tb) (tPart tc)) σ Hs (Ls I ((ns.drop i).take (j - i))):=by
  intro G H a b Q k
  refine ha G H a b _ fun v G1 H1 e1 p1=>?_
  refine hb G1 H1 (a.trans e1.mono) e1.sub _ fun u G2 H2 e2 p2=>⟨_,p2,?_⟩
  refine hc G2 H2 ((a.trans e1.mono).trans e2.mono) e2.sub _ fun w G3 H3 e3 p3=>⟨_,p3,?_⟩
  obtain ⟨c,rfl,h1⟩:=p1
  refine ⟨c,_,rfl,(e2.mono.trans (e3.mono.trans e3.sub)).seq h1,fun d hd=>?_⟩
  rw [cut_nat _ _ _ (by rw [List.length_map]; exact hj)]
  refine k _ (upd G3 d _) _ (e1.trans (e2.trans (e3.trans (.alloc _ e3.sub hd)))) ⟨d,_,rfl,upd_same,?_⟩
  rw [<- List.map_drop,<- List.map_take]
  exact vs_ints _
end
structure Mach where
  ok:Nat × List Nat -> WD -> Prop
  up:Nat × List Nat -> WD -> WD
  an:Nat × List Nat -> WD -> List Int
def Mach.run (M:Mach):WD -> List (Nat × List Nat) -> List Int
  | _,[]=>[]
  | W,c :: r=>(((M.an c W).length:Int) :: M.an c W) ++ M.run (M.up c W) r
def Mach.okRun (M:Mach):WD -> List (Nat × List Nat) -> Prop
  | _,[]=>True
  | W,c :: r=>M.ok c W /\ (M.an c W).length <= 1000 /\ M.okRun (M.up c W) r
def encC (xs:List Str) (c:Nat × List Nat):List Int:=if xs[c.1]? = some (Str.ofString "w") then (c.1:Int) :: (c.2.length:Int) :: c.2.map fun (k:Nat)=>(k:Int) else (c.1:Int) :: c.2.map fun (k:Nat)=>(k:Int)
def wfC (xs:List Str) (c:Nat × List Nat):Prop:=∃ x,xs[c.1]? = some x /\ (x = "w" \/ x.length = c.2.length) /\ x.length <= 1000 /\ c.2.length <= 1000
theorem full_split (xs:List Str) {cs:List (Nat × List Nat)} {i:Nat} {c:Nat × List Nat} (h:cs[i]? = some c) :
    (cs.map (encC xs)).flatten = ((cs.take i).map (encC xs)).flatten ++ (encC xs c ++ ((cs.drop (i + 1)).map (encC xs)).flatten):=by
  obtain ⟨hi,e⟩:=List.getElem?_eq_some_iff.mp h
  have:cs = cs.take i ++ c :: cs.drop (i + 1):=by rw [<- e,<- List.drop_eq_getElem_cons hi,List.take_append_drop]
  conv=>lhs; rw [this]
  rw [List.map_append,List.flatten_append,List.map_cons,List.flatten_cons]
theorem off_succ (xs:List Str) {cs:List (Nat × List Nat)} {i:Nat} {c:Nat × List Nat} (h:cs[i]? = some c):((cs.take (i + 1)).map (encC xs)).flatten.length = ((cs.take i).map (encC xs)).flatten.length + (encC xs c).length:=by
  rw [take_succ_of h,List.map_append,List.flatten_append,List.length_append]
  simp
theorem at_pre {α:Type} {p q:List α} {k:Nat}:(p ++ q)[p.length + k]? = q[k]?:=by rw [List.getElem?_append_right (by omega)]; congr 1; omega
theorem drop_pre {α:Type} {p q:List α} {k:Nat}:(p ++ q).drop (p.length + k) = q.drop k:=by rw [List.drop_append,List.drop_of_length_le (by omega),List.nil_append]; congr 1; omega
def mu (L:Nat) (σ:St):Nat:=match (σ[3]?:Option (Option V)) with
  | some (some (V.int n))=>L - n.toNat
  | _=>0
end L2.FF
end
section
namespace L2.FF
open PySem PySem.Spec PyProof.Rows
section
variable {P:Program} {w:World} {K:PySem.W.Frag} {mg:Str -> Option Value} {base:Heap}
abbrev s_strip_count:Stmt:=top 10
theorem sc_strip_count:FnScope ["wall"] ["wall"] (defScope s_strip_count):=scm (by decide +kernel)
def sp_strip_count (C:Addr) :Sp:=spP (ι:=WD) (fun W=>[WA C W]) (fun _=>True) (fun W=>NI (W.m + W.n))
theorem ok_strip_count {f C:Addr} {fd:FuncData} (X:Txt K C) (M:Mods mg)   (F:Fun K "strip_count" "strip_count" s_strip_count f fd):FnOk P w K mg base CX0 1 f fd ["wall"] (sp_strip_count C ):=by
  have nd:=(sc_strip_count).nd
  refine pure_fn F sc_strip_count (fun _=>rfl) fun cdv B outer s H E hr=>⟨_,(pss_one (ps_ret (pe_op op_add (pfl K (pv 0)) (pfl K (pv 0))))),?_⟩
  rintro W vs G _ p
  obtain ⟨v,rfl,q⟩:=all1 p
  exact evn_ret (ev_addN (ev_rows X (ev_var rfl q)) (ev_cols X (ev_var rfl q)))
abbrev s_column_strip:Stmt:=top 11
theorem sc_column_strip:FnScope ["wall","column"] ["wall","column"] (defScope s_column_strip):=scm (by decide +kernel)
def sp_column_strip (C:Addr) :Sp:=spP (ι:=WD × Nat) (fun x=>[WA C x.1,NI x.2]) (fun _=>True) (fun x=>NI (x.1.m + x.2))
theorem ok_column_strip {f C:Addr} {fd:FuncData} (X:Txt K C) (M:Mods mg)   (F:Fun K "column_strip" "column_strip" s_column_strip f fd):FnOk P w K mg base CX0 1 f fd ["wall","column"] (sp_column_strip C ):=by
  have nd:=(sc_column_strip).nd
  refine pure_fn F sc_column_strip (fun _=>rfl) fun cdv B outer s H E hr=>⟨_,(pss_one (ps_ret (pe_op op_add (pfl K (pv 0)) (pv 1)))),?_⟩
  rintro ⟨W,j⟩ vs G _ p
  obtain ⟨v,u,rfl,q,r⟩:=all2 p
  exact evn_ret (ev_addN (ev_rows X (ev_var rfl q)) (ev_var rfl r))
abbrev s_part_count:Stmt:=top 14
theorem sc_part_count:FnScope ["firsts","strip"] ["firsts"] (defScope s_part_count):=scm (by decide +kernel)
def sp_part_count (C:Addr) :Sp:=spP (ι:=List Nat) (fun fs=>[Ls NI fs]) (fun fs=>fs.length <= 1000) (fun fs=>NI (pcount fs))
theorem ok_part_count {f C:Addr} {fd:FuncData} (X:Txt K C) (M:Mods mg)   (F:Fun K "part_count" "part_count" s_part_count f fd):FnOk P w K mg base CX0 1 f fd ["firsts"] (sp_part_count C ):=by
  have nd:=(sc_part_count).nd
  refine pure_fn F sc_part_count (fun _=>rfl) fun cdv B outer s H E hr=>⟨_,(pss_one (ps_ret (pln K M.b_len (pe_lc rfl nd (prg M.b_range (pln K M.b_len (pv 0))) (blkOk_by (N:=["firsts","strip"]) (sc:=defScope s_part_count) (own:=[("strip",1)]) (by decide +kernel)) (fun _ _ _ _ _=>pgn 1 nd) (fun _ _ _ _ _=>(pts_one (pt_cmpR op_eq (ixl K (pv 0) (pv 1)) (pv 1) (nomark _)))) (fun _ _ _ _ _=>(pv 1)))))),?_⟩
  rintro fs vs G hz p
  obtain ⟨v,rfl,q⟩:=all1 p
  refine evn_ret ((ev_len (ev_lcR (F:=NI) fs.length (fun k=>decide (fs.getD k 0 = k)) id (ev_len (ev_var rfl q)) (by omega) (fun k hk G2 s=>?_) fun k hk _ G2 s=>?_)).int_eq (by rw [List.length_map]; rfl))
  · exact evt_b (ev_eqN (ev_ixN (ev_var rfl (Stab.st s q)) (ev_var rfl rfl) hk) (ev_var rfl rfl))
  · exact ev_var rfl rfl
abbrev s_squares:Stmt:=top 12
theorem sc_squares:FnScope ["wall","found","row","column"] ["wall"] (defScope s_squares):=scm (by decide +kernel)
def sp_squares (C:Addr) :Sp:=spP (ι:=WD) (fun W=>[WA C W]) (fun W=>W.m <= 5 /\ W.n <= 5) (fun W=>Ls P2 (sqs W.m W.n))
theorem ok_squares {f C:Addr} {fd:FuncData} (X:Txt K C) (M:Mods mg)   (F:Fun K "squares" "squares" s_squares f fd):FnOk P w K mg base CX0 1 f fd ["wall"] (sp_squares C ):=by
  have nd:=(sc_squares).nd
  refine pure_fn F sc_squares (fun _=>rfl) fun cdv B outer s H E hr=>⟨_,(pss_cons (psn 1 nd (pe_lst pa_nil)) (pss_cons (ps_for PassesOwn.never rfl (prg M.b_range (pfl K (pv 0))) (pgn 2 nd) (pss_one (ps_for PassesOwn.never rfl (prg M.b_range (pfl K (pv 0))) (pgn 3 nd) (pss_one (ps_expr (tbm_K (K:=K) rfl (pe_bm PySem.F.plainAttrs_list PySem.F.slot_list_append PySem.F.type_list_append mt_append (pv 1) (pa1 (pe_tup (pa2 (pv 2) (pv 3))))))))))) (pss_one (ps_ret (pv 1))))),?_⟩
  rintro W vs G ⟨hm,hn⟩ p
  obtain ⟨v,rfl,q⟩:=all1 p
  refine evn_own P2 [] eva_nil (by decide) fun Gs H0 c ws G2 s2 p2=>?_
  refine evo_seq (evo_forRng (i:=2) W.m (fun k σ G ys=>Same G2 G /\ (∃ x y,σ = [some v,some (.ref c),x,y]) /\ Paired (fun u x=>P2 x G u) ys (sqs k W.n)) (ev_rows X (ev_var rfl (Stab.st s2 q))) (by omega)
    (fun G3 s3=>⟨s3,⟨_,_,rfl⟩,paired_st s3 p2⟩) ?_) fun σ' G3 ys' s3 ⟨s4,⟨x,y,e⟩,pr⟩=>?_
  · rintro k σ' G3 ys hk s3 ⟨s4,⟨x,y,rfl⟩,pr⟩
    refine evo_mono (evo_forRng (i:=3) W.n (fun l σ G ys=>Same G2 G /\ (∃ y,σ = [some v,some (.ref c),some (.int k),y]) /\ Paired (fun u x=>P2 x G u) ys (sqs k W.n ++ (List.range l).map fun j=>(k,j))) (ev_cols X (ev_var rfl (Stab.st (s2.trans s4) q))) (by omega)
      (fun G4 s5=>⟨s4.trans s5,⟨y,rfl⟩,by rw [List.range_zero,List.map_nil,List.append_nil]; exact paired_st s5 pr⟩) ?_) ?_
    · rintro l σ' G4 ys4 hl s5 ⟨s6,⟨y4,rfl⟩,pr4⟩
      refine evo_append (i:=1) rfl (ev_tup (e2 (k,l)) (eva_cons (ev_var rfl rfl) (eva_cons (ev_var rfl rfl) eva_nil)) (by show 2 <= 1000; decide)) ?_ fun u G5 s7 pu=>⟨s6.trans s7,⟨_,rfl⟩,?_⟩
      · have h1:=Paired.length pr4
        have h2:=sqs_le k W.n
        rw [List.length_append,List.length_map,List.length_range] at h1
        have:k * W.n <= 5 * 5:=Nat.mul_le_mul (by omega) hn
        omega
      · rw [List.range_succ,List.map_append,<- List.append_assoc]
        exact paired_app (paired_st s7 pr4) (.cons pu .nil)
    · rintro σ' G4 ys4 ⟨s6,⟨y4,rfl⟩,pr4⟩
      exact ⟨s6,⟨_,_,rfl⟩,by rw [sqs_succ]; exact pr4⟩
  · subst e
    exact evo_done fun s5=>evn_ret (ev_var rfl ⟨c,ys',rfl,upd_same,paired_st s5 pr⟩)
abbrev s_bent_squares:Stmt:=top 13
theorem sc_bent_squares:FnScope ["wall","way","square"] ["wall","way"] (defScope s_bent_squares):=scm (by decide +kernel)
def sp_bent_squares (C:Addr) :Sp:=spP (ι:=WD × List Nat) (fun x=>[WA C x.1,Ls NI x.2]) (fun x=>x.1.m <= 5 /\ x.1.n <= 5 /\ x.2.length = x.1.m + x.1.n) (fun x=>Ls P2 (bentM x.1 x.2))
theorem ok_bent_squares {f C:Addr} {fd:FuncData} (X:Txt K C) (M:Mods mg)  (c_column_strip:Fn P w K mg base "column_strip" 1 ["wall","column"] (sp_column_strip C)) (c_squares:Fn P w K mg base "squares" 1 ["wall"] (sp_squares C)) (F:Fun K "bent_squares" "bent_squares" s_bent_squares f fd):FnOk P w K mg base CX0 2 f fd ["wall","way"] (sp_bent_squares C ):=by
  have nd:=(sc_bent_squares).nd
  refine pure_fn F sc_bent_squares (fun _=>rfl) fun cdv B outer s H E hr=>⟨_,(pss_one (ps_ret (pe_lc rfl nd (pi_listK (K:=K) rfl (pe_fn c_squares hr (pa1 (pv 0)))) (blkOk_by (N:=["wall","way","square"]) (sc:=defScope s_bent_squares) (own:=[("square",2)]) (by decide +kernel)) (fun _ _ _ _ _=>pgn 2 nd) (fun _ _ _ _ _=>(pts_one (pt_cmpR op_ne (ixl K (pv 1) (ixt K (pv 2) pe_int)) (ixl K (pv 1) (pe_fn c_column_strip hr (pa2 (pv 0) (ixt K (pv 2) pe_int)))) (nomark _)))) (fun _ _ _ _ _=>(pv 2))))),?_⟩
  rintro ⟨W,l⟩ vs G ⟨hm,hn,e'⟩ p
  obtain ⟨v0,v1,rfl,q0,q1⟩:=all2 p
  clear p
  dsimp only at *
  have hq:=sqs_le W.m W.n
  have:W.m * W.n <= 5 * 5:=Nat.mul_le_mul hm hn
  refine evn_ret ((ev_lcL (P:=P2) (F:=P2) (sqs W.m W.n) (fun x=>!decide (l.getD x.1 0 = l.getD (W.m + x.2) 0)) id (ev_call W (eva_cons (ev_var rfl q0) eva_nil) ⟨hm,hn⟩) (by omega) (fun x hx u G2 s2 px=>?_) fun x _ _ u G2 s2 px=>ev_var rfl px).imp (R:=Ls P2 (bentM W l)) fun H v h=>by rw [List.map_id] at h; exact h)
  have hx':=sqs_mem hx
  exact evt_b (ev_neN (ev_ixN (ev_var rfl (Stab.st s2 q1)) (ev_ixT (ev_var rfl px) ev_int (n:=0) rfl rfl) (by omega)) (ev_ixN (ev_var rfl (Stab.st s2 q1)) (ev_call (W,x.2) (eva_cons (ev_var rfl (Stab.st s2 q0)) (eva_cons (ev_ixT (ev_var rfl px) ev_int (n:=1) rfl rfl) eva_nil)) trivial) (by show W.m + x.2 < _; omega)))
abbrev s_counted:Stmt:=top 15
theorem sc_counted:FnScope ["numbers"] ["numbers"] (defScope s_counted):=scm (by decide +kernel)
def sp_counted (C:Addr) :Sp:=spP (ι:=List Int) (fun ns=>[Ls I ns]) (fun ns=>ns.length <= 15000000) (fun ns=>Ls I ((ns.length:Int) :: ns))
theorem ok_counted {f C:Addr} {fd:FuncData} (X:Txt K C) (M:Mods mg)   (F:Fun K "counted" "counted" s_counted f fd):FnOk P w K mg base CX0 1 f fd ["numbers"] (sp_counted C ):=by
  have nd:=(sc_counted).nd
  refine pure_fn F sc_counted (fun _=>rfl) fun cdv B outer s H E hr=>⟨_,(pss_one (ps_ret (pe_op op_cat (pe_lst (pa1 (pln K M.b_len (pv 0)))) (pv 0)))),?_⟩
  rintro ns vs G hz p
  obtain ⟨v,rfl,q⟩:=all1 p
  exact evn_ret (ev_cat (ev_lst I [(ns.length:Int)] (eva_cons (ev_len (ev_var rfl q)) eva_nil) (by simp)) (ev_var rfl q) (by simp; omega))
abbrev s_flattened:Stmt:=top 16
theorem sc_flattened:FnScope ["places","answer","place"] ["places"] (defScope s_flattened):=scm (by decide +kernel)
def sp_flattened (C:Addr) :Sp:=spP (ι:=List (List Int)) (fun nss=>[Ls Tp nss]) (fun nss=>nss.flatten.length <= 1000) (fun nss=>Ls I ((nss.length:Int) :: nss.flatten))
theorem ok_flattened {f C:Addr} {fd:FuncData} (X:Txt K C) (M:Mods mg)   (F:Fun K "flattened" "flattened" s_flattened f fd):FnOk P w K mg base CX0 1 f fd ["places"] (sp_flattened C ):=by
  have nd:=(sc_flattened).nd
  refine pure_fn F sc_flattened (fun _=>rfl) fun cdv B outer s H E hr=>⟨_,(pss_cons (psn 1 nd (pe_lst (pa1 (pln K M.b_len (pv 0))))) (pss_cons (ps_for PassesOwn.never rfl (pi_listK (K:=K) rfl (pv 0)) (pgn 2 nd) (pss_one (ps_expr (tbm_K (K:=K) rfl (pe_bm PySem.F.plainAttrs_list PySem.F.slot_list_extend PySem.F.type_list_extend mt_extendT (pv 1) (pa1 (pv 2))))))) (pss_one (ps_ret (pv 1))))),?_⟩
  rintro nss vs G hz p
  obtain ⟨v,rfl,q⟩:=all1 p
  refine evn_own I [(nss.length:Int)] (eva_cons (ev_len (ev_var rfl q)) eva_nil) (by simp) fun Gs H0 c ws G2 s2 p2=>?_
  have e0:=ints_vs p2
  refine evo_seq (evo_for (i:=2) nss (fun k σ G ys=>(∃ x,σ = [some v,some (.ref c),x]) /\ ys = (((nss.length:Int) :: (nss.take k).flatten)).map V.int) (ev_var rfl (Stab.st s2 q)) (fun G3 s3=>⟨⟨_,rfl⟩,e0⟩) ?_) fun σ' G3 ys' s3 ⟨⟨x,e⟩,pr⟩=>?_
  · rintro k ns u σ' G3 ys hk pu s3 ⟨⟨x,rfl⟩,rfl⟩
    have e1:(nss.take (k + 1)).flatten = (nss.take k).flatten ++ ns:=by rw [take_succ_of hk,List.flatten_append]; simp
    refine evo_extendT (i:=1) rfl (ev_var rfl pu) ?_ fun G4 s4=>⟨⟨_,rfl⟩,?_⟩
    · have h1:(nss.take (k + 1)).flatten.length <= nss.flatten.length:=by
        have:=congrArg (fun l:List (List Int)=>l.flatten.length) (List.take_append_drop (k + 1) nss)
        simp only [List.flatten_append,List.length_append] at this
        omega
      rw [e1,List.length_append] at h1
      rw [List.length_map,List.length_cons]
      omega
    · rw [e1,<- List.map_append,List.cons_append]
  · subst e pr
    rw [List.take_length]
    exact evo_done fun s5=>evn_ret (ev_var rfl ⟨c,_,rfl,upd_same,vs_ints _⟩)
abbrev s_without:Stmt:=top 17
theorem sc_without:FnScope ["places","place","other"] ["places","place"] (defScope s_without):=scm (by decide +kernel)
def sp_without (C:Addr) :Sp:=spP (ι:=List (List Int) × List Int) (fun x=>[Ls Tp x.1,Tp x.2]) (fun x=>x.1.length <= 1000) (fun x=>Ls Tp (x.1.filter fun y=>!decide (y = x.2)))
theorem ok_without {f C:Addr} {fd:FuncData} (X:Txt K C) (M:Mods mg)   (F:Fun K "without" "without" s_without f fd):FnOk P w K mg base CX0 1 f fd ["places","place"] (sp_without C ):=by
  have nd:=(sc_without).nd
  refine pure_fn F sc_without (fun _=>rfl) fun cdv B outer s H E hr=>⟨_,(pss_one (ps_ret (pe_lc rfl nd (pi_listK (K:=K) rfl (pv 0)) (blkOk_by (N:=["places","place","other"]) (sc:=defScope s_without) (own:=[("other",2)]) (by decide +kernel)) (fun _ _ _ _ _=>pgn 2 nd) (fun _ _ _ _ _=>(pts_one (pt_cmpR (op_neT hr.units) (pv 2) (pv 1) (nomark _)))) (fun _ _ _ _ _=>(pv 2))))),?_⟩
  rintro ⟨nss,ns⟩ vs G hz p
  obtain ⟨v,u,rfl,q,r⟩:=all2 p
  refine evn_ret ((ev_lcL (P:=Tp) (F:=Tp) nss (fun y=>!decide (y = ns)) id (ev_var rfl q) (by show nss.length <= 900000; have:nss.length <= 1000:=hz; omega) (fun x _ v G2 s px=>?_) fun x _ _ v G2 s px=>?_).imp fun H v h=>by rw [List.map_id] at h; exact h)
  · exact evt_b (ev_neT (ev_var rfl px) (ev_var rfl (Stab.st s r)))
  · exact ev_var rfl px
end
end L2.FF
end
section
namespace L2.FF
open PySem PySem.Spec PyProof.Rows
section
variable {P:Program} {w:World} {K:PySem.W.Frag} {mg:Str -> Option Value} {base:Heap}
theorem ev_wo2 {σ:St} {Hs:Hp} {C:Addr} {ta tb:TE} {E:XK} {bs:List (Nat × Nat)} {b:Nat × Nat} (ha:Ev ta σ Hs (Ls P2 bs)) (hb:Ev tb σ Hs (P2 b)) (hz:bs.length <= 1000):Ev (tCall (sp_without C) [] E (tCons ta (tCons tb tNil))) σ Hs (Ls P2 (wo bs b)):=by
  refine (ev_call (bs.map e2,e2 b) (eva_cons (ha.imp fun H v h=>ls_map h) (eva_cons hb eva_nil)) (by show (bs.map e2).length <= 1000; rw [List.length_map]; exact hz)).imp fun H v h=>?_
  have h':Ls Tp ((bs.map e2).filter fun y=>!decide (y = e2 b)) H v:=h
  rw [filter_e2] at h'
  exact map_ls h'
abbrev s_joined:Stmt:=top 19
theorem sc_joined:FnScope ["wall","firsts","bar","one","other","low","high","first"] ["wall","firsts","bar"] (defScope s_joined):=scm (by decide +kernel)
def sp_joined (C:Addr) :Sp:=spP (ι:=WD × List Nat × (Nat × Nat)) (fun x=>[WA C x.1,Ls NI x.2.1,P2 x.2.2]) (fun x=>x.2.1.length = x.1.m + x.1.n /\ x.2.1.length <= 10 /\ x.2.2.1 < x.1.m /\ x.2.2.2 < x.1.n) (fun x=>Ls NI (jn x.1.m x.2.1 x.2.2))
theorem ok_joined {f C:Addr} {fd:FuncData} (X:Txt K C) (M:Mods mg)  (c_column_strip:Fn P w K mg base "column_strip" 1 ["wall","column"] (sp_column_strip C)) (F:Fun K "joined" "joined" s_joined f fd):FnOk P w K mg base CX0 2 f fd ["wall","firsts","bar"] (sp_joined C ):=by
  have nd:=(sc_joined).nd
  refine pure_fn F sc_joined (fun _=>rfl) fun cdv B outer s H E hr=>⟨_,(pss_cons (psn 3 nd (ixl K (pv 1) (ixt K (pv 2) pe_int))) (pss_cons (psn 4 nd (ixl K (pv 1) (pe_fn c_column_strip hr (pa2 (pv 0) (ixt K (pv 2) pe_int))))) (pss_cons (psn 5 nd (pe_callB (cr_min2 rfl) rfl M.b_min boot_min (pa2 (pv 3) (pv 4)))) (pss_cons (psn 6 nd (pe_callB (cr_max2 rfl) rfl M.b_max boot_max (pa2 (pv 3) (pv 4)))) (pss_one (ps_ret (pe_lc rfl nd (pi_listK (K:=K) rfl (pv 1)) (blkOk_by (N:=["wall","firsts","bar","one","other","low","high","first"]) (sc:=defScope s_joined) (own:=[("first",7)]) (by decide +kernel)) (fun _ _ _ _ _=>pgn 7 nd) (fun _ _ _ _ _=>pts_nil) (fun _ _ _ _ _=>(pe_ifExp (pt_cmpR op_eq (pv 7) (pv 6) (nomark _)) (pv 5) (pv 7)))))))))),?_⟩
  rintro ⟨W,fs,b⟩ vs G ⟨h1,h2,h3,h4⟩ p
  obtain ⟨v0,v1,v2,rfl,q0,q1,q2⟩:=all3 p
  dsimp only at h1 h2 h3 h4 q0 q1 q2
  refine evn_set (ev_ixN (ev_var rfl q1) (ev_ixT (ev_var rfl q2) ev_int (n:=0) rfl rfl) (by omega)) fun a1 G1 s1 p1=>?_
  refine evn_set (ev_ixN (ev_var rfl (Stab.st s1 q1)) (ev_call (W,b.2) (eva_cons (ev_var rfl (Stab.st s1 q0)) (eva_cons (ev_ixT (ev_var rfl (Stab.st s1 q2)) ev_int (n:=1) rfl rfl) eva_nil)) trivial) (by show W.m + b.2 < fs.length; omega)) fun a2 G2 s2 p2=>?_
  refine evn_set (ev_minN (ev_var rfl (Stab.st s2 p1)) (ev_var rfl p2)) fun a3 G3 s3 p3=>?_
  refine evn_set (ev_maxN (ev_var rfl (Stab.st s3 (Stab.st s2 p1))) (ev_var rfl (Stab.st s3 p2))) fun a4 G4 s4 p4=>?_
  refine evn_ret (ev_lcLm (P:=NI) (F:=NI) fs (fun f=>if f = max (fs.getD b.1 0) (fs.getD (W.m + b.2) 0) then min (fs.getD b.1 0) (fs.getD (W.m + b.2) 0) else f) (ev_var rfl (Stab.st (((s1.trans s2).trans s3).trans s4) q1)) (by omega) fun x _ u G5 s5 px=>?_)
  refine ev_if (evt_b (ev_eqN (ev_var rfl px) (ev_var rfl (Stab.st s5 p4)))) (fun e=>?_) fun e=>?_
  · rw [if_pos (of_decide_eq_true e)]
    exact ev_var rfl (Stab.st s5 (Stab.st s4 p3))
  · rw [if_neg (of_decide_eq_false e)]
    exact ev_var rfl px
abbrev s_bar_firsts:Stmt:=top 20
theorem sc_bar_firsts:FnScope ["wall","bars","firsts","bar"] ["wall","bars"] (defScope s_bar_firsts):=scm (by decide +kernel)
def sp_bar_firsts (C:Addr) :Sp:=spP (ι:=WD × List (Nat × Nat)) (fun x=>[WA C x.1,Ls P2 x.2]) (fun x=>sizeOk x.1 /\ inW x.1 x.2) (fun x=>Ls NI (bf x.1.m x.1.n x.2))
theorem ok_bar_firsts {f C:Addr} {fd:FuncData} (X:Txt K C) (M:Mods mg)  (c_strip_count:Fn P w K mg base "strip_count" 1 ["wall"] (sp_strip_count C)) (c_joined:Fn P w K mg base "joined" 2 ["wall","firsts","bar"] (sp_joined C)) (F:Fun K "bar_firsts" "bar_firsts" s_bar_firsts f fd):FnOk P w K mg base CX0 3 f fd ["wall","bars"] (sp_bar_firsts C ):=by
  have nd:=(sc_bar_firsts).nd
  refine pure_fn F sc_bar_firsts (fun _=>rfl) fun cdv B outer s H E hr=>⟨_,(pss_cons (psn 2 nd (pe_callTy (call_list_rng rfl) rfl M.b_list boot_list (pa_cons (pe_callTy call_rng1 rfl M.b_range boot_range (pa1 (pe_fn c_strip_count hr (pa1 (pv 0))))) pa_nil))) (pss_cons (ps_for PassesOwn.never rfl (pi_listK (K:=K) rfl (pv 1)) (pgn 3 nd) (pss_one (psn 2 nd (pe_fn c_joined hr (pa3 (pv 0) (pv 2) (pv 3)))))) (pss_one (ps_ret (pv 2))))),?_⟩
  rintro ⟨W,bs⟩ vs G ⟨h1,h2⟩ p
  obtain ⟨v0,v1,rfl,q0,q1⟩:=all2 p
  dsimp only at h1 h2 q0 q1
  have h3:=h1.sum
  refine evn_set (ev_listRngN (ev_call W (eva_cons (ev_var rfl q0) eva_nil) trivial) (by omega)) fun a1 G1 s1 p1=>?_
  refine evn_seq (evn_for (i:=3) bs (fun k σ G'=>Same G G' /\ (∃ a x,σ = [some v0,some v1,some a,x] /\ Ls NI ((bs.take k).foldl (jn W.m) (List.range (W.m + W.n))) G' a)) (ev_var rfl (Stab.st s1 q1)) (fun G2 s2=>⟨s1.trans s2,a1,_,rfl,Stab.st s2 p1⟩) ?_) fun σ' G2 s2 ⟨s3,a,x,e,pa⟩=>?_
  · rintro k b u σ' G2 hk pu s2 ⟨s3,a,x,rfl,pa⟩
    have hb:=h2.2 b (List.mem_of_getElem? hk)
    refine evn_set1 (ev_call (W,_,b) (eva_cons (ev_var rfl (Stab.st s3 q0)) (eva_cons (ev_var rfl pa) (eva_cons (ev_var rfl pu) eva_nil))) ⟨?_,?_,hb.1,hb.2⟩) fun a' G3 s4 pa'=>⟨s3.trans s4,a',_,rfl,?_⟩
    · show ((bs.take k).foldl (jn W.m) (List.range (W.m + W.n))).length = W.m + W.n
      exact bf_len _ _ _
    · show ((bs.take k).foldl (jn W.m) (List.range (W.m + W.n))).length <= 10
      have e:=bf_len W.m W.n (bs.take k)
      unfold bf at e
      omega
    · rw [take_succ_of hk,List.foldl_append]
      exact pa'
  · subst e
    rw [List.take_length] at pa
    exact evn_ret (ev_var rfl pa)
abbrev s_shears:Stmt:=top 21
theorem sc_shears:FnScope ["wall","bars"] ["wall","bars"] (defScope s_shears):=scm (by decide +kernel)
def sp_shears (C:Addr) :Sp:=spP (ι:=WD × List (Nat × Nat)) (fun x=>[WA C x.1,Ls P2 x.2]) (fun x=>sizeOk x.1 /\ inW x.1 x.2) (fun x=>NI (sh x.1.m x.1.n x.2))
theorem ok_shears {f C:Addr} {fd:FuncData} (X:Txt K C) (M:Mods mg)  (c_part_count:Fn P w K mg base "part_count" 1 ["firsts"] (sp_part_count C)) (c_bar_firsts:Fn P w K mg base "bar_firsts" 3 ["wall","bars"] (sp_bar_firsts C)) (F:Fun K "shears" "shears" s_shears f fd):FnOk P w K mg base CX0 4 f fd ["wall","bars"] (sp_shears C ):=by
  have nd:=(sc_shears).nd
  refine pure_fn F sc_shears (fun _=>rfl) fun cdv B outer s H E hr=>⟨_,(pss_one (ps_ret (pe_op op_sub (pe_fn c_part_count hr (pa1 (pe_fn c_bar_firsts hr (pa2 (pv 0) (pv 1))))) pe_int))),?_⟩
  rintro ⟨W,bs⟩ vs G ⟨h1,h2⟩ p
  obtain ⟨v0,v1,rfl,q0,q1⟩:=all2 p
  have h3:2 <= W.m + W.n /\ W.m + W.n <= 10:=h1.sum
  exact evn_ret (ev_subN (ev_call (bf W.m W.n bs) (eva_cons (ev_call (W,bs) (eva_cons (ev_var rfl q0) (eva_cons (ev_var rfl q1) eva_nil)) ⟨h1,h2⟩) eva_nil) (by show (bf W.m W.n bs).length <= 1000; rw [bf_len]; omega)) ev_int (pc_pos (show 0 < W.m + W.n by omega)))
abbrev s_keeps_angle:Stmt:=top 22
theorem sc_keeps_angle:FnScope ["wall","firsts","square"] ["wall","firsts","square"] (defScope s_keeps_angle):=scm (by decide +kernel)
def sp_keeps_angle (C:Addr) :Sp:=spP (ι:=WD × List Nat × (Nat × Nat)) (fun x=>[WA C x.1,Ls NI x.2.1,Sq (e2 x.2.2)]) (fun x=>x.2.1.length = x.1.m + x.1.n /\ x.2.2.1 < x.1.m /\ x.2.2.2 < x.1.n) (fun x=>B (ka x.1.m x.2.1 x.2.2))
theorem ok_keeps_angle {f C:Addr} {fd:FuncData} (X:Txt K C) (M:Mods mg)  (c_column_strip:Fn P w K mg base "column_strip" 1 ["wall","column"] (sp_column_strip C)) (F:Fun K "keeps_angle" "keeps_angle" s_keeps_angle f fd):FnOk P w K mg base CX0 2 f fd ["wall","firsts","square"] (sp_keeps_angle C ):=by
  have nd:=(sc_keeps_angle).nd
  refine pure_fn F sc_keeps_angle (fun _=>rfl) fun cdv B outer s H E hr=>⟨_,(pss_one (ps_ret (pe_cmpR op_eq (ixl K (pv 1) (ixq K (pv 2) pe_int)) (ixl K (pv 1) (pe_fn c_column_strip hr (pa2 (pv 0) (ixq K (pv 2) pe_int)))) (nomark _)))),?_⟩
  rintro ⟨W,fs,b⟩ vs G ⟨h1,h3,h4⟩ p
  obtain ⟨v0,v1,v2,rfl,q0,q1,q2⟩:=all3 p
  dsimp only at h1 h3 h4 q0 q1 q2
  exact evn_ret (ev_eqN (ev_ixN (ev_var rfl q1) (ev_ixS (ev_var rfl q2) ev_int (n:=0) rfl rfl) (by show b.1 < fs.length; omega))
    (ev_ixN (ev_var rfl q1) (ev_call (W,b.2) (eva_cons (ev_var rfl q0) (eva_cons (ev_ixS (ev_var rfl q2) ev_int (n:=1) rfl rfl) eva_nil)) trivial) (by show W.m + b.2 < fs.length; omega)))
abbrev s_angles:Stmt:=top 23
theorem sc_angles:FnScope ["wall","bars","firsts","square"] ["wall","bars"] (defScope s_angles):=scm (by decide +kernel)
def sp_angles (C:Addr) :Sp:=spP (ι:=WD × List (Nat × Nat)) (fun x=>[WA C x.1,Ls P2 x.2]) (fun x=>sizeOk x.1 /\ inW x.1 x.2) (fun x=>Ls NI (ang x.1.m x.1.n x.2))
theorem ok_angles {f C:Addr} {fd:FuncData} (X:Txt K C) (M:Mods mg)  (c_bar_firsts:Fn P w K mg base "bar_firsts" 3 ["wall","bars"] (sp_bar_firsts C)) (c_squares:Fn P w K mg base "squares" 1 ["wall"] (sp_squares C)) (c_keeps_angle:Fn P w K mg base "keeps_angle" 2 ["wall","firsts","square"] (sp_keeps_angle C)) (F:Fun K "angles" "angles" s_angles f fd):FnOk P w K mg base CX0 4 f fd ["wall","bars"] (sp_angles C ):=by
  have nd:=(sc_angles).nd
  refine pure_fn F sc_angles (fun _=>rfl) fun cdv B outer s H E hr=>⟨_,(pss_cons (psn 2 nd (pe_fn c_bar_firsts hr (pa2 (pv 0) (pv 1)))) (pss_one (ps_ret (pe_lc rfl nd (pi_listK (K:=K) rfl (pe_fn c_squares hr (pa1 (pv 0)))) (blkOk_by (N:=["wall","bars","firsts","square"]) (sc:=defScope s_angles) (own:=[("square",3)]) (by decide +kernel)) (fun _ _ _ _ _=>pgn 3 nd) (fun _ _ _ _ _=>pts_nil) (fun _ _ _ _ _=>(pe_ifExp (pt_val (pe_fn c_keeps_angle hr (pa3 (pv 0) (pv 2) (pv 3)))) pe_int pe_int)))))),?_⟩
  rintro ⟨W,bs⟩ vs G ⟨h1,h2⟩ p
  obtain ⟨v0,v1,rfl,q0,q1⟩:=all2 p
  dsimp only at h1 h2 q0 q1
  refine evn_set (ev_call (W,bs) (eva_cons (ev_var rfl q0) (eva_cons (ev_var rfl q1) eva_nil)) ⟨h1,h2⟩) fun a1 G1 s1 p1=>?_
  refine evn_ret (ev_lcLm (P:=P2) (F:=NI) (sqs W.m W.n) (fun x=>if ka W.m (bf W.m W.n bs) x then 1 else 0) (ev_call W (eva_cons (ev_var rfl (Stab.st s1 q0)) eva_nil) ⟨h1.2.1,h1.2.2.2⟩) (by have:=h1.sqs; omega) fun x hx u G5 s5 px=>?_)
  have hx':=sqs_mem hx
  exact (ev_bit (evt_v (ev_call (W,bf W.m W.n bs,x) (eva_cons (ev_var rfl (Stab.st (s1.trans s5) q0)) (eva_cons (ev_var rfl (Stab.st s5 p1)) (eva_cons ((ev_var (P:=P2 x) rfl px).imp fun H v h=>.inl h) eva_nil))) ⟨bf_len _ _ _,hx'.1,hx'.2⟩))).int_eq (by cases ka W.m (bf W.m W.n bs) x <;> rfl)
abbrev s_is_spare:Stmt:=top 24
theorem sc_is_spare:FnScope ["wall","bars","bar"] ["wall","bars","bar"] (defScope s_is_spare):=scm (by decide +kernel)
def sp_is_spare (C:Addr) :Sp:=spP (ι:=WD × List (Nat × Nat) × (Nat × Nat)) (fun x=>[WA C x.1,Ls P2 x.2.1,P2 x.2.2]) (fun x=>sizeOk x.1 /\ inW x.1 x.2.1) (fun x=>B (decide (sh x.1.m x.1.n (wo x.2.1 x.2.2) = sh x.1.m x.1.n x.2.1)))
theorem ok_is_spare {f C:Addr} {fd:FuncData} (X:Txt K C) (M:Mods mg)  (c_shears:Fn P w K mg base "shears" 4 ["wall","bars"] (sp_shears C)) (c_without:Fn P w K mg base "without" 1 ["places","place"] (sp_without C)) (F:Fun K "is_spare" "is_spare" s_is_spare f fd):FnOk P w K mg base CX0 5 f fd ["wall","bars","bar"] (sp_is_spare C ):=by
  have nd:=(sc_is_spare).nd
  refine pure_fn F sc_is_spare (fun _=>rfl) fun cdv B outer s H E hr=>⟨_,(pss_one (ps_ret (pe_cmpR op_eq (pe_fn c_shears hr (pa2 (pv 0) (pe_fn c_without hr (pa2 (pv 1) (pv 2))))) (pe_fn c_shears hr (pa2 (pv 0) (pv 1))) (nomark _)))),?_⟩
  rintro ⟨W,bs,b⟩ vs G ⟨h1,h2⟩ p
  obtain ⟨v0,v1,v2,rfl,q0,q1,q2⟩:=all3 p
  dsimp only at h1 h2 q0 q1 q2
  exact evn_ret (ev_eqN (ev_call (W,wo bs b) (eva_cons (ev_var rfl q0) (eva_cons (ev_wo2 (ev_var rfl q1) (ev_var rfl q2) (by have:=h2.1; omega)) eva_nil)) ⟨h1,h2.wo⟩) (ev_call (W,bs) (eva_cons (ev_var rfl q0) (eva_cons (ev_var rfl q1) eva_nil)) ⟨h1,h2⟩))
end
end L2.FF
end
section
namespace L2.FF
open PySem PySem.Spec PyProof.Rows
section
variable {P:Program} {w:World} {K:PySem.W.Frag} {mg:Str -> Option Value} {base:Heap}
section
variable {σ:St} {Hs:Hp} {C:Addr} {ta tb:TE} {E:XK}
theorem ev_counted {xs:List Nat} (h:Ev ta σ Hs (Ls NI xs)) (hz:xs.length <= 1000):Ev (tCall (sp_counted C) [] E (tCons ta tNil)) σ Hs (Ls I (cnt xs)) :=
  (ev_call (xs.map fun (k:Nat)=>(k:Int)) (eva_cons (h.imp fun H v h=>ls_nat h) eva_nil) (by show (List.map _ xs).length <= _; rw [List.length_map]; omega)).imp fun H v h=>by
    have h':Ls I (((xs.map fun (k:Nat)=>(k:Int)).length:Int) :: xs.map fun (k:Nat)=>(k:Int)) H v:=h
    rw [List.length_map] at h'
    exact h'
theorem flat_len {α:Type} {e:α -> List Int} {k:Nat} (he:∀ x,(e x).length = k):∀ xs:List α,(xs.map e).flatten.length = k * xs.length
  | []=>rfl
  | x :: r=>by rw [List.map_cons,List.flatten_cons,List.length_append,he,flat_len he r,List.length_cons,Nat.mul_succ]; omega
theorem ev_flat2 {xs:List (Nat × Nat)} (h:Ev ta σ Hs (Ls P2 xs)) (hz:xs.length <= 100):Ev (tCall (sp_flattened C) [] E (tCons ta tNil)) σ Hs (Ls I (flat2 xs)) :=
  (ev_call (xs.map e2) (eva_cons (h.imp fun H v h=>ls_map h) eva_nil) (by show (List.map e2 xs).flatten.length <= _; rw [flat_len (k:=2) fun _=>rfl]; omega)).imp fun H v h=>by
    have h':Ls I (((xs.map e2).length:Int) :: (xs.map e2).flatten) H v:=h
    rw [List.length_map] at h'
    exact h'
theorem ev_flat3 {xs:List (Nat × Nat × Nat)} (h:Ev ta σ Hs (Ls P3 xs)) (hz:xs.length <= 100):Ev (tCall (sp_flattened C) [] E (tCons ta tNil)) σ Hs (Ls I (flat3 xs)) :=
  (ev_call (xs.map e3) (eva_cons (h.imp fun H v h=>ls_map h) eva_nil) (by show (List.map e3 xs).flatten.length <= _; rw [flat_len (k:=3) fun _=>rfl]; omega)).imp fun H v h=>by
    have h':Ls I (((xs.map e3).length:Int) :: (xs.map e3).flatten) H v:=h
    rw [List.length_map] at h'
    exact h'
theorem ev_tup2 {K:PySem.W.Frag} {i j:Nat} (h:Ev ta σ Hs (Ls NI [i,j])):Ev (tCB (rTuple K) (tCons ta tNil)) σ Hs (P2 (i,j)):=ev_tuple (h.imp fun H v h=>ls_nat h)
theorem ev_tup3 {K:PySem.W.Frag} {i j d:Nat} (h:Ev ta σ Hs (Ls NI [i,j,d])):Ev (tCB (rTuple K) (tCons ta tNil)) σ Hs (P3 (i,j,d)):=ev_tuple (h.imp fun H v h=>ls_nat h)
end
abbrev s_call_firm:Stmt:=top 27
theorem sc_call_firm:FnScope ["wall","handed","ways"] ["wall","handed"] (defScope s_call_firm):=scm (by decide +kernel)
def sp_call_firm (C:Addr) :Sp:=spP (ι:=WD) (fun x=>[WA C x,Ls NI []]) (fun x=>okW x) (fun x=>Ls I (r_firm x))
theorem ok_call_firm {f C:Addr} {fd:FuncData} (X:Txt K C) (M:Mods mg)  (c_shears:Fn P w K mg base "shears" 4 ["wall","bars"] (sp_shears C)) (F:Fun K "call_firm" "call_firm" s_call_firm f fd):FnOk P w K mg base CX0 5 f fd ["wall","handed"] (sp_call_firm C ):=by
  have nd:=(sc_call_firm).nd
  refine pure_fn F sc_call_firm (fun _=>rfl) fun cdv B outer s H E hr=>⟨_,(pss_cons (psn 2 nd (pe_fn c_shears hr (pa2 (pv 0) (pfl K (pv 0))))) (pss_one (ps_ret (pe_lst (pa2 (pe_ifExp (pt_cmpR op_eq (pv 2) pe_int (nomark _)) pe_int pe_int) (pv 2)))))),?_⟩
  rintro W vs G ok p
  obtain ⟨v0,v1,rfl,q0,q1⟩:=all2 p
  refine evn_set (ev_call (W,W.bars) (eva_cons (ev_var rfl q0) (eva_cons (ev_bars X (ev_var rfl q0)) eva_nil)) ⟨ok.1,ok.2.1⟩) fun a G1 s1 p1=>evn_ret (ev_lst I (r_firm W) (eva_cons (ev_bit (evt_b (ev_eqN (b:=0) (ev_var rfl p1) ev_int))) (eva_cons (ev_var rfl p1) eva_nil)) (by show 2 <= 1000; decide))
abbrev s_call_parts:Stmt:=top 28
theorem sc_call_parts:FnScope ["wall","handed"] ["wall","handed"] (defScope s_call_parts):=scm (by decide +kernel)
def sp_call_parts (C:Addr) :Sp:=spP (ι:=WD) (fun x=>[WA C x,Ls NI []]) (fun x=>okW x) (fun x=>Ls I (cnt (bf x.m x.n x.bars)))
theorem ok_call_parts {f C:Addr} {fd:FuncData} (X:Txt K C) (M:Mods mg)  (c_counted:Fn P w K mg base "counted" 1 ["numbers"] (sp_counted C)) (c_bar_firsts:Fn P w K mg base "bar_firsts" 3 ["wall","bars"] (sp_bar_firsts C)) (F:Fun K "call_parts" "call_parts" s_call_parts f fd):FnOk P w K mg base CX0 4 f fd ["wall","handed"] (sp_call_parts C ):=by
  have nd:=(sc_call_parts).nd
  refine pure_fn F sc_call_parts (fun _=>rfl) fun cdv B outer s H E hr=>⟨_,(pss_one (ps_ret (pe_fn c_counted hr (pa1 (pe_fn c_bar_firsts hr (pa2 (pv 0) (pfl K (pv 0)))))))),?_⟩
  rintro W vs G ok p
  obtain ⟨v0,v1,rfl,q0,q1⟩:=all2 p
  exact evn_ret (ev_counted (ev_call (W,W.bars) (eva_cons (ev_var rfl q0) (eva_cons (ev_bars X (ev_var rfl q0)) eva_nil)) ⟨ok.1,ok.2.1⟩) (by rw [bf_len]; have:=ok.1.sum; omega))
abbrev s_call_part:Stmt:=top 29
theorem sc_call_part:FnScope ["wall","handed","firsts","first","strip"] ["wall","handed"] (defScope s_call_part):=scm (by decide +kernel)
def sp_call_part (C:Addr) :Sp:=spP (ι:=WD × Nat) (fun x=>[WA C x.1,Ls NI [x.2]]) (fun x=>okW x.1 /\ x.2 < x.1.m + x.1.n) (fun x=>Ls I (cnt (r_part x.1 x.2)))
theorem ok_call_part {f C:Addr} {fd:FuncData} (X:Txt K C) (M:Mods mg)  (c_bar_firsts:Fn P w K mg base "bar_firsts" 3 ["wall","bars"] (sp_bar_firsts C)) (c_counted:Fn P w K mg base "counted" 1 ["numbers"] (sp_counted C)) (F:Fun K "call_part" "call_part" s_call_part f fd):FnOk P w K mg base CX0 4 f fd ["wall","handed"] (sp_call_part C ):=by
  have nd:=(sc_call_part).nd
  refine pure_fn F sc_call_part (fun _=>rfl) fun cdv B outer s H E hr=>⟨_,(pss_cons (psn 2 nd (pe_fn c_bar_firsts hr (pa2 (pv 0) (pfl K (pv 0))))) (pss_cons (psn 3 nd (ixl K (pv 2) (ixl K (pv 1) pe_int))) (pss_one (ps_ret (pe_fn c_counted hr (pa1 (pe_lc rfl nd (prg M.b_range (pln K M.b_len (pv 2))) (blkOk_by (N:=["wall","handed","firsts","first","strip"]) (sc:=defScope s_call_part) (own:=[("strip",4)]) (by decide +kernel)) (fun _ _ _ _ _=>pgn 4 nd) (fun _ _ _ _ _=>(pts_one (pt_cmpR op_eq (ixl K (pv 2) (pv 4)) (pv 3) (nomark _)))) (fun _ _ _ _ _=>(pv 4))))))))),?_⟩
  rintro ⟨W,s⟩ vs G ⟨ok,hs0⟩ p
  obtain ⟨v0,v1,rfl,q0,q1⟩:=all2 p
  clear p
  dsimp only at *
  have hs:2 <= W.m + W.n /\ W.m + W.n <= 10:=ok.1.sum
  have hl:(bf W.m W.n W.bars).length = W.m + W.n:=bf_len _ _ _
  refine evn_set (ev_call (W,W.bars) (eva_cons (ev_var rfl q0) (eva_cons (ev_bars X (ev_var rfl q0)) eva_nil)) ⟨ok.1,ok.2.1⟩) fun a G1 s1 p1=>?_
  dsimp only at p1
  refine evn_set (ev_ixN (ev_var rfl p1) (ev_ixN (n:=0) (ev_var rfl (Stab.st s1 q1)) ev_int (by show 0 < 1; decide)) (by show s < _; omega)) fun b G2 s2 p2=>?_
  refine evn_ret (ev_counted (((ev_lcR (F:=NI) (bf W.m W.n W.bars).length (fun k=>decide ((bf W.m W.n W.bars).getD k 0 = (bf W.m W.n W.bars).getD s 0)) id (ev_len (ev_var rfl (Stab.st s2 p1))) (by omega) (fun k hk G3 s3=>?_) fun k hk _ G3 s3=>?_)).imp fun H v h=>by rw [List.map_id] at h; exact h) (Nat.le_trans (List.length_filter_le _ _) (by rw [List.length_range]; omega)))
  · exact evt_b (ev_eqN (ev_ixN (ev_var rfl (Stab.st s3 (Stab.st s2 p1))) (ev_var rfl rfl) hk) (ev_var rfl (Stab.st s3 p2)))
  · exact ev_var rfl rfl
abbrev s_call_still:Stmt:=top 30
theorem sc_call_still:FnScope ["wall","handed"] ["wall","handed"] (defScope s_call_still):=scm (by decide +kernel)
def sp_call_still (C:Addr) :Sp:=spP (ι:=WD × (Nat × Nat)) (fun x=>[WA C x.1,Ls NI [x.2.1,x.2.2]]) (fun x=>okW x.1 /\ x.2.1 < x.1.m /\ x.2.2 < x.1.n) (fun x=>Ls I ([if ka x.1.m (bf x.1.m x.1.n x.1.bars) x.2 then 1 else 0]))
theorem ok_call_still {f C:Addr} {fd:FuncData} (X:Txt K C) (M:Mods mg)  (c_keeps_angle:Fn P w K mg base "keeps_angle" 2 ["wall","firsts","square"] (sp_keeps_angle C)) (c_bar_firsts:Fn P w K mg base "bar_firsts" 3 ["wall","bars"] (sp_bar_firsts C)) (F:Fun K "call_still" "call_still" s_call_still f fd):FnOk P w K mg base CX0 4 f fd ["wall","handed"] (sp_call_still C ):=by
  have nd:=(sc_call_still).nd
  refine pure_fn F sc_call_still (fun _=>rfl) fun cdv B outer s H E hr=>⟨_,(pss_one (ps_ret (pe_lst (pa1 (pe_ifExp (pt_val (pe_fn c_keeps_angle hr (pa3 (pv 0) (pe_fn c_bar_firsts hr (pa2 (pv 0) (pfl K (pv 0)))) (pv 1)))) pe_int pe_int))))),?_⟩
  rintro ⟨W,b⟩ vs G ⟨ok,h1,h2⟩ p
  obtain ⟨v0,v1,rfl,q0,q1⟩:=all2 p
  clear p
  dsimp only at *
  exact evn_ret (ev_lst I [if ka W.m (bf W.m W.n W.bars) b then 1 else 0] (eva_cons (ev_bit (evt_v (ev_call (W,bf W.m W.n W.bars,b) (eva_cons (ev_var rfl q0) (eva_cons (ev_call (W,W.bars) (eva_cons (ev_var rfl q0) (eva_cons (ev_bars X (ev_var rfl q0)) eva_nil)) ⟨ok.1,ok.2.1⟩) (eva_cons ((ev_var rfl q1).imp fun H v h=>.inr (ls_nat h)) eva_nil))) ⟨bf_len _ _ _,h1,h2⟩))) eva_nil) (by show 1 <= 1000; decide))
abbrev s_call_stills:Stmt:=top 31
theorem sc_call_stills:FnScope ["wall","handed","kept"] ["wall","handed"] (defScope s_call_stills):=scm (by decide +kernel)
def sp_call_stills (C:Addr) :Sp:=spP (ι:=WD) (fun x=>[WA C x,Ls NI []]) (fun x=>okW x) (fun x=>Ls I (r_stills x))
theorem ok_call_stills {f C:Addr} {fd:FuncData} (X:Txt K C) (M:Mods mg)  (c_angles:Fn P w K mg base "angles" 4 ["wall","bars"] (sp_angles C)) (F:Fun K "call_stills" "call_stills" s_call_stills f fd):FnOk P w K mg base CX0 5 f fd ["wall","handed"] (sp_call_stills C ):=by
  have nd:=(sc_call_stills).nd
  refine pure_fn F sc_call_stills (fun _=>rfl) fun cdv B outer s H E hr=>⟨_,(pss_cons (psn 2 nd (pe_fn c_angles hr (pa2 (pv 0) (pfl K (pv 0))))) (pss_one (ps_ret (pe_op op_cat (pe_lst (pa1 (pe_callB (cr_sumK (K:=K) rfl rfl) rfl M.b_sum boot_sum (pa1 (pv 2))))) (pv 2))))),?_⟩
  rintro W vs G ok p
  obtain ⟨v0,v1,rfl,q0,q1⟩:=all2 p
  refine evn_set (ev_call (W,W.bars) (eva_cons (ev_var rfl q0) (eva_cons (ev_bars X (ev_var rfl q0)) eva_nil)) ⟨ok.1,ok.2.1⟩) fun a G1 s1 p1=>?_
  exact evn_ret (ev_cat (ev_lst I [(((ang W.m W.n W.bars).sum:Nat):Int)] (eva_cons (ev_sumN (ev_var rfl p1)) eva_nil) (by show 1 <= 1000; decide)) ((ev_var rfl p1).imp fun H v h=>ls_nat h) (by have:=ok.1.sqs; simp [ang]; omega))
abbrev s_call_alike:Stmt:=top 32
theorem sc_call_alike:FnScope ["wall","handed","firsts","same_rows","same_columns"] ["wall","handed"] (defScope s_call_alike):=scm (by decide +kernel)
def sp_call_alike (C:Addr) :Sp:=spP (ι:=WD × Nat × Nat × Nat × Nat) (fun x=>[WA C x.1,Ls NI [x.2.1,x.2.2.1,x.2.2.2.1,x.2.2.2.2]]) (fun x=>okW x.1 /\ x.2.1 < x.1.m /\ x.2.2.1 < x.1.n /\ x.2.2.2.1 < x.1.m /\ x.2.2.2.2 < x.1.n) (fun x=>Ls I ([r_alike x.1 x.2.1 x.2.2.1 x.2.2.2.1 x.2.2.2.2]))
theorem ok_call_alike {f C:Addr} {fd:FuncData} (X:Txt K C) (M:Mods mg)  (c_bar_firsts:Fn P w K mg base "bar_firsts" 3 ["wall","bars"] (sp_bar_firsts C)) (c_column_strip:Fn P w K mg base "column_strip" 1 ["wall","column"] (sp_column_strip C)) (F:Fun K "call_alike" "call_alike" s_call_alike f fd):FnOk P w K mg base CX0 4 f fd ["wall","handed"] (sp_call_alike C ):=by
  have nd:=(sc_call_alike).nd
  refine pure_fn F sc_call_alike (fun _=>rfl) fun cdv B outer s H E hr=>⟨_,(pss_cons (psn 2 nd (pe_fn c_bar_firsts hr (pa2 (pv 0) (pfl K (pv 0))))) (pss_cons (psn 3 nd (pe_cmpR op_eq (ixl K (pv 2) (ixl K (pv 1) pe_int)) (ixl K (pv 2) (ixl K (pv 1) pe_int)) (nomark _))) (pss_cons (psn 4 nd (pe_cmpR op_eq (ixl K (pv 2) (pe_fn c_column_strip hr (pa2 (pv 0) (ixl K (pv 1) pe_int)))) (ixl K (pv 2) (pe_fn c_column_strip hr (pa2 (pv 0) (ixl K (pv 1) pe_int)))) (nomark _))) (pss_one (ps_ret (pe_lst (pa1 (pe_ifExp (PW.pt (pw_and (pt_val (pv 3)) (pw_and1 (pt_val (pv 4))))) pe_int pe_int)))))))),?_⟩
  rintro ⟨W,i,j,k,l⟩ vs G ⟨ok,hi,hj,hk,hl⟩ p
  obtain ⟨v0,v1,rfl,q0,q1⟩:=all2 p
  clear p
  dsimp only at *
  have hl:(bf W.m W.n W.bars).length = W.m + W.n:=bf_len _ _ _
  refine evn_set (ev_call (W,W.bars) (eva_cons (ev_var rfl q0) (eva_cons (ev_bars X (ev_var rfl q0)) eva_nil)) ⟨ok.1,ok.2.1⟩) fun a G1 s1 p1=>?_
  dsimp only at p1
  have ix:∀ (n:Nat) (G2:Hp),Same G G2 -> n < 4 -> ∀ σ:St,σ[1]? = some (some v1) -> Ev (tOp (rIxL K) (tVar 1) (tC (.int (n:Nat)))) σ G2 (NI ([i,j,k,l].getD n 0)):=fun n G2 s hn σ hσ=>ev_ixN (ev_var hσ (Stab.st s q1)) ev_int hn
  have cs:∀ (n:Nat) (G2:Hp),Same G G2 -> n < 4 -> ∀ σ:St,σ[0]? = some (some v0) -> σ[1]? = some (some v1) -> Ev (tCall (sp_column_strip C) [] E0 (tCons (tVar 0) (tCons (tOp (rIxL K) (tVar 1) (tC (.int (n:Nat)))) tNil))) σ G2 (NI (W.m + [i,j,k,l].getD n 0)):=fun n G2 s hn σ hσ0 hσ=>ev_call (W,[i,j,k,l].getD n 0) (eva_cons (ev_var hσ0 (Stab.st s q0)) (eva_cons (ix n G2 s hn σ hσ) eva_nil)) trivial
  refine evn_set (ev_eqN (ev_ixN (ev_var rfl p1) (ix 0 G1 s1 (by decide) _ rfl) (by show i < _; omega)) (ev_ixN (ev_var rfl p1) (ix 2 G1 s1 (by decide) _ rfl) (by show k < _; omega))) fun b1 G2 s2 p2=>?_
  refine evn_set (ev_eqN (ev_ixN (ev_var rfl (Stab.st s2 p1)) (cs 1 G2 (s1.trans s2) (by decide) _ rfl rfl) (by show W.m + j < _; omega)) (ev_ixN (ev_var rfl (Stab.st s2 p1)) (cs 3 G2 (s1.trans s2) (by decide) _ rfl rfl) (by show W.m + l < _; omega))) fun b2 G3 s3 p3=>?_
  exact evn_ret (ev_lst I [r_alike W i j k l] (eva_cons (ev_bit (evt_and (evt_v (ev_var rfl (Stab.st s3 p2))) fun _=>evt_v (ev_var rfl p3))) eva_nil) (by show 1 <= 1000; decide))
abbrev s_call_spare:Stmt:=top 33
theorem sc_call_spare:FnScope ["wall","handed","bar"] ["wall","handed"] (defScope s_call_spare):=scm (by decide +kernel)
def sp_call_spare (C:Addr) :Sp:=spP (ι:=WD × (Nat × Nat)) (fun x=>[WA C x.1,Ls NI [x.2.1,x.2.2]]) (fun x=>okW x.1) (fun x=>Ls I (r_spare x.1 x.2))
theorem ok_call_spare {f C:Addr} {fd:FuncData} (X:Txt K C) (M:Mods mg)  (c_is_spare:Fn P w K mg base "is_spare" 5 ["wall","bars","bar"] (sp_is_spare C)) (F:Fun K "call_spare" "call_spare" s_call_spare f fd):FnOk P w K mg base CX0 6 f fd ["wall","handed"] (sp_call_spare C ):=by
  have nd:=(sc_call_spare).nd
  refine pure_fn F sc_call_spare (fun _=>rfl) fun cdv B outer s H E hr=>⟨_,(pss_cons (psn 2 nd (pe_callTy (cr_tupleK (K:=K) rfl) rfl M.b_tuple boot_tuple (pa1 (pv 1)))) (pss_cons (ps_if (pt_cmpR (op_notinT (room65 hr)) (pv 2) (pfl K (pv 0)) (by with_unfolding_all rfl)) (pss_one (ps_ret (pe_lst (pa1 (pe_glI rfl M.c_NOT_THERE))))) pss_nil) (pss_one (ps_ret (pe_lst (pa1 (pe_ifExp (pt_val (pe_fn c_is_spare hr (pa3 (pv 0) (pfl K (pv 0)) (pv 2)))) pe_int pe_int))))))),?_⟩
  rintro ⟨W,b⟩ vs G ok p
  obtain ⟨v0,v1,rfl,q0,q1⟩:=all2 p
  clear p
  dsimp only at *
  refine evn_set (ev_tup2 (ev_var rfl q1)) fun a G1 s1 p1=>?_
  refine evn_ifret (evt_b (ev_notin2 (ev_var rfl p1) (ev_bars X (ev_var rfl (Stab.st s1 q0))))) (fun e=>?_) fun e=>?_
  · refine evn_ret ((ev_lst I [-6] (eva_cons ev_int eva_nil)).imp fun H v h=>?_)
    show Ls I (r_spare W b) H v
    unfold r_spare
    rw [if_neg (by simpa using e)]
    exact h
  · refine evn_ret ((ev_lst I [if isp W.m W.n W.bars b then 1 else 0] (eva_cons (ev_bit (evt_v (ev_call (W,W.bars,b) (eva_cons (ev_var rfl (Stab.st s1 q0)) (eva_cons (ev_bars X (ev_var rfl (Stab.st s1 q0))) (eva_cons (ev_var rfl p1) eva_nil))) ⟨ok.1,ok.2.1⟩))) eva_nil) (by show 1 <= 1000; decide)).imp fun H v h=>?_)
    show Ls I (r_spare W b) H v
    unfold r_spare
    rw [if_pos (by simpa using e)]
    exact h
abbrev s_call_spares:Stmt:=top 34
theorem sc_call_spares:FnScope ["wall","handed","bar"] ["wall","handed"] (defScope s_call_spares):=scm (by decide +kernel)
def sp_call_spares (C:Addr) :Sp:=spP (ι:=WD) (fun x=>[WA C x,Ls NI []]) (fun x=>okW x) (fun x=>Ls I (flat2 (x.bars.filter fun b=>isp x.m x.n x.bars b)))
theorem ok_call_spares {f C:Addr} {fd:FuncData} (X:Txt K C) (M:Mods mg)  (c_flattened:Fn P w K mg base "flattened" 1 ["places"] (sp_flattened C)) (c_is_spare:Fn P w K mg base "is_spare" 5 ["wall","bars","bar"] (sp_is_spare C)) (F:Fun K "call_spares" "call_spares" s_call_spares f fd):FnOk P w K mg base CX0 6 f fd ["wall","handed"] (sp_call_spares C ):=by
  have nd:=(sc_call_spares).nd
  refine pure_fn F sc_call_spares (fun _=>rfl) fun cdv B outer s H E hr=>⟨_,(pss_one (ps_ret (pe_fn c_flattened hr (pa1 (pe_lc rfl nd (pi_listK (K:=K) rfl (pfl K (pv 0))) (blkOk_by (N:=["wall","handed","bar"]) (sc:=defScope s_call_spares) (own:=[("bar",2)]) (by decide +kernel)) (fun _ _ _ _ _=>pgn 2 nd) (fun _ _ _ _ _=>(pts_one (pt_val (pe_fn c_is_spare hr (pa3 (pv 0) (pfl K (pv 0)) (pv 2)))))) (fun _ _ _ _ _=>(pv 2))))))),?_⟩
  rintro W vs G ok p
  obtain ⟨v0,v1,rfl,q0,q1⟩:=all2 p
  refine evn_ret (ev_flat2 ((ev_lcL (P:=P2) (F:=P2) W.bars (fun b=>isp W.m W.n W.bars b) id (ev_bars X (ev_var rfl q0)) (by have:=ok.2.1.1; omega) (fun x _ u G2 s2 px=>?_) fun x _ _ u G2 s2 px=>?_).imp fun H v h=>by rw [List.map_id] at h; exact h) (Nat.le_trans (List.length_filter_le _ _) ok.2.1.1))
  · exact evt_v (ev_call (W,W.bars,x) (eva_cons (ev_var rfl (Stab.st s2 q0)) (eva_cons (ev_bars X (ev_var rfl (Stab.st s2 q0))) (eva_cons (ev_var rfl px) eva_nil))) ⟨ok.1,ok.2.1⟩)
  · exact ev_var rfl px
abbrev s_call_least:Stmt:=top 40
theorem sc_call_least:FnScope ["wall","handed","strips","parts"] ["wall","handed"] (defScope s_call_least):=scm (by decide +kernel)
def sp_call_least (C:Addr) :Sp:=spP (ι:=WD) (fun x=>[WA C x,Ls NI []]) (fun x=>okW x) (fun x=>Ls I ([((x.m + x.n - 1:Nat):Int),(x.bars.length:Int) - (((x.m + x.n:Nat):Int) - (pcount (bf x.m x.n x.bars):Nat))]))
theorem ok_call_least {f C:Addr} {fd:FuncData} (X:Txt K C) (M:Mods mg)  (c_strip_count:Fn P w K mg base "strip_count" 1 ["wall"] (sp_strip_count C)) (c_part_count:Fn P w K mg base "part_count" 1 ["firsts"] (sp_part_count C)) (c_bar_firsts:Fn P w K mg base "bar_firsts" 3 ["wall","bars"] (sp_bar_firsts C)) (F:Fun K "call_least" "call_least" s_call_least f fd):FnOk P w K mg base CX0 4 f fd ["wall","handed"] (sp_call_least C ):=by
  have nd:=(sc_call_least).nd
  refine pure_fn F sc_call_least (fun _=>rfl) fun cdv B outer s H E hr=>⟨_,(pss_cons (psn 2 nd (pe_fn c_strip_count hr (pa1 (pv 0)))) (pss_cons (psn 3 nd (pe_fn c_part_count hr (pa1 (pe_fn c_bar_firsts hr (pa2 (pv 0) (pfl K (pv 0))))))) (pss_one (ps_ret (pe_lst (pa2 (pe_op op_sub (pv 2) pe_int) (pe_op op_sub (pln K M.b_len (pfl K (pv 0))) (pe_op op_sub (pv 2) (pv 3))))))))),?_⟩
  rintro W vs G ok p
  obtain ⟨v0,v1,rfl,q0,q1⟩:=all2 p
  have hs:2 <= W.m + W.n /\ W.m + W.n <= 10:=ok.1.sum
  refine evn_set (ev_call W (eva_cons (ev_var rfl q0) eva_nil) trivial) fun a G1 s1 p1=>?_
  refine evn_set (ev_call (bf W.m W.n W.bars) (eva_cons (ev_call (W,W.bars) (eva_cons (ev_var rfl (Stab.st s1 q0)) (eva_cons (ev_bars X (ev_var rfl (Stab.st s1 q0))) eva_nil)) ⟨ok.1,ok.2.1⟩) eva_nil) (by show (bf W.m W.n W.bars).length <= 1000; rw [bf_len]; omega)) fun b G2 s2 p2=>?_
  exact evn_ret (ev_lst I [((W.m + W.n - 1:Nat):Int),(W.bars.length:Int) - (((W.m + W.n:Nat):Int) - (pcount (bf W.m W.n W.bars):Nat))] (eva_cons (ev_subN (b:=1) (ev_var rfl (Stab.st s2 p1)) ev_int (by omega)) (eva_cons (ev_sub (ev_len (ev_bars X (ev_var rfl (Stab.st (s1.trans s2) q0)))) (ev_sub (ev_var rfl (Stab.st s2 p1)) (ev_var rfl p2))) eva_nil)) (by show 2 <= 1000; decide))
abbrev s_call_all:Stmt:=top 41
theorem sc_call_all:FnScope ["wall","handed"] ["wall","handed"] (defScope s_call_all):=scm (by decide +kernel)
def sp_call_all (C:Addr) :Sp:=spP (ι:=WD) (fun x=>[WA C x,Ls NI []]) (fun x=>okW x) (fun x=>Ls I (flat2 x.bars))
theorem ok_call_all {f C:Addr} {fd:FuncData} (X:Txt K C) (M:Mods mg)  (c_flattened:Fn P w K mg base "flattened" 1 ["places"] (sp_flattened C)) (F:Fun K "call_all" "call_all" s_call_all f fd):FnOk P w K mg base CX0 2 f fd ["wall","handed"] (sp_call_all C ):=by
  have nd:=(sc_call_all).nd
  refine pure_fn F sc_call_all (fun _=>rfl) fun cdv B outer s H E hr=>⟨_,(pss_one (ps_ret (pe_fn c_flattened hr (pa1 (pfl K (pv 0)))))),?_⟩
  rintro W vs G ok p
  obtain ⟨v0,v1,rfl,q0,q1⟩:=all2 p
  exact evn_ret (ev_flat2 (ev_bars X (ev_var rfl q0)) ok.2.1.1)
abbrev s_call_row:Stmt:=top 42
theorem sc_call_row:FnScope ["wall","handed","column"] ["wall","handed"] (defScope s_call_row):=scm (by decide +kernel)
def sp_call_row (C:Addr) :Sp:=spP (ι:=WD × Nat) (fun x=>[WA C x.1,Ls NI [x.2]]) (fun x=>okW x.1) (fun x=>Ls I (cnt ((List.range x.1.n).filter fun j=>x.1.bars.contains (x.2,j))))
theorem ok_call_row {f C:Addr} {fd:FuncData} (X:Txt K C) (M:Mods mg)  (c_counted:Fn P w K mg base "counted" 1 ["numbers"] (sp_counted C)) (F:Fun K "call_row" "call_row" s_call_row f fd):FnOk P w K mg base CX0 2 f fd ["wall","handed"] (sp_call_row C ):=by
  have nd:=(sc_call_row).nd
  refine pure_fn F sc_call_row (fun _=>rfl) fun cdv B outer s H E hr=>⟨_,(pss_one (ps_ret (pe_fn c_counted hr (pa1 (pe_lc rfl nd (prg M.b_range (pfl K (pv 0))) (blkOk_by (N:=["wall","handed","column"]) (sc:=defScope s_call_row) (own:=[("column",2)]) (by decide +kernel)) (fun _ _ _ _ _=>pgn 2 nd) (fun _ _ _ _ _=>(pts_one (pt_cmpR (op_inT (room65 hr)) (pe_tup (pa2 (ixl K (pv 1) pe_int) (pv 2))) (pfl K (pv 0)) (by with_unfolding_all rfl)))) (fun _ _ _ _ _=>(pv 2))))))),?_⟩
  rintro ⟨W,i⟩ vs G ok p
  obtain ⟨v0,v1,rfl,q0,q1⟩:=all2 p
  clear p
  dsimp only at *
  refine evn_ret (ev_counted ((ev_lcR (F:=NI) W.n (fun j=>W.bars.contains (i,j)) id (ev_cols X (ev_var rfl q0)) (by have:=ok.1.sum; omega) (fun k hk G3 s3=>?_) fun k hk _ G3 s3=>?_).imp fun H v h=>by rw [List.map_id] at h; exact h) (Nat.le_trans (List.length_filter_le _ _) (by rw [List.length_range]; have:=ok.1.sum; omega)))
  · exact evt_b (ev_in2 (ev_tup (e2 (i,k)) (eva_cons (ev_ixN (n:=0) (ev_var rfl (Stab.st s3 q1)) ev_int (by show 0 < 1; decide)) (eva_cons (ev_var rfl rfl) eva_nil)) (by show 2 <= 1000; decide)) (ev_bars X (ev_var rfl (Stab.st s3 q0))))
  · exact ev_var rfl rfl
abbrev s_call_column:Stmt:=top 43
theorem sc_call_column:FnScope ["wall","handed","row"] ["wall","handed"] (defScope s_call_column):=scm (by decide +kernel)
def sp_call_column (C:Addr) :Sp:=spP (ι:=WD × Nat) (fun x=>[WA C x.1,Ls NI [x.2]]) (fun x=>okW x.1) (fun x=>Ls I (cnt ((List.range x.1.m).filter fun i=>x.1.bars.contains (i,x.2))))
theorem ok_call_column {f C:Addr} {fd:FuncData} (X:Txt K C) (M:Mods mg)  (c_counted:Fn P w K mg base "counted" 1 ["numbers"] (sp_counted C)) (F:Fun K "call_column" "call_column" s_call_column f fd):FnOk P w K mg base CX0 2 f fd ["wall","handed"] (sp_call_column C ):=by
  have nd:=(sc_call_column).nd
  refine pure_fn F sc_call_column (fun _=>rfl) fun cdv B outer s H E hr=>⟨_,(pss_one (ps_ret (pe_fn c_counted hr (pa1 (pe_lc rfl nd (prg M.b_range (pfl K (pv 0))) (blkOk_by (N:=["wall","handed","row"]) (sc:=defScope s_call_column) (own:=[("row",2)]) (by decide +kernel)) (fun _ _ _ _ _=>pgn 2 nd) (fun _ _ _ _ _=>(pts_one (pt_cmpR (op_inT (room65 hr)) (pe_tup (pa2 (pv 2) (ixl K (pv 1) pe_int))) (pfl K (pv 0)) (by with_unfolding_all rfl)))) (fun _ _ _ _ _=>(pv 2))))))),?_⟩
  rintro ⟨W,j⟩ vs G ok p
  obtain ⟨v0,v1,rfl,q0,q1⟩:=all2 p
  clear p
  dsimp only at *
  refine evn_ret (ev_counted ((ev_lcR (F:=NI) W.m (fun i=>W.bars.contains (i,j)) id (ev_rows X (ev_var rfl q0)) (by have:=ok.1.sum; omega) (fun k hk G3 s3=>?_) fun k hk _ G3 s3=>?_).imp fun H v h=>by rw [List.map_id] at h; exact h) (Nat.le_trans (List.length_filter_le _ _) (by rw [List.length_range]; have:=ok.1.sum; omega)))
  · exact evt_b (ev_in2 (ev_tup (e2 (k,j)) (eva_cons (ev_var rfl rfl) (eva_cons (ev_ixN (n:=0) (ev_var rfl (Stab.st s3 q1)) ev_int (by show 0 < 1; decide)) eva_nil)) (by show 2 <= 1000; decide)) (ev_bars X (ev_var rfl (Stab.st s3 q0))))
  · exact ev_var rfl rfl
end
end L2.FF
end
section
namespace L2.FF
open PySem PySem.Spec PyProof.Rows
section
variable {P:Program} {w:World} {K:PySem.W.Frag} {mg:Str -> Option Value} {base:Heap}
abbrev s_call_put:Stmt:=top 35
theorem sc_call_put:FnScope ["wall","handed","firsts","added","square"] ["wall","handed"] (defScope s_call_put):=scm (by decide +kernel)
def sp_call_put (C:Addr) :Sp:=spP (ι:=WD) (fun x=>[WA C x,Ls NI []]) (fun x=>okW x) (fun x=>Ls I (flat2 (putM x.m x.n x.bars)))
theorem ok_call_put {f C:Addr} {fd:FuncData} (X:Txt K C) (M:Mods mg)  (c_bar_firsts:Fn P w K mg base "bar_firsts" 3 ["wall","bars"] (sp_bar_firsts C)) (c_squares:Fn P w K mg base "squares" 1 ["wall"] (sp_squares C)) (c_keeps_angle:Fn P w K mg base "keeps_angle" 2 ["wall","firsts","square"] (sp_keeps_angle C)) (c_joined:Fn P w K mg base "joined" 2 ["wall","firsts","bar"] (sp_joined C)) (c_flattened:Fn P w K mg base "flattened" 1 ["places"] (sp_flattened C)) (F:Fun K "call_put" "call_put" s_call_put f fd):FnOk P w K mg base CX0 4 f fd ["wall","handed"] (sp_call_put C ):=by
  have nd:=(sc_call_put).nd
  refine pure_fn F sc_call_put (fun _=>rfl) fun cdv B outer s H E hr=>⟨_,(pss_cons (psn 2 nd (pe_fn c_bar_firsts hr (pa2 (pv 0) (pfl K (pv 0))))) (pss_cons (psn 3 nd (pe_lst pa_nil)) (pss_cons (ps_for PassesOwn.never rfl (pi_listK (K:=K) rfl (pe_fn c_squares hr (pa1 (pv 0)))) (pgn 4 nd) (pss_one (ps_if (pt_not (pt_val (pe_fn c_keeps_angle hr (pa3 (pv 0) (pv 2) (pv 4))))) (pss_cons (ps_expr (tbm_K (K:=K) rfl (pe_bm PySem.F.plainAttrs_list PySem.F.slot_list_append PySem.F.type_list_append mt_append (pv 3) (pa1 (pv 4))))) (pss_one (psn 2 nd (pe_fn c_joined hr (pa3 (pv 0) (pv 2) (pv 4)))))) pss_nil))) (pss_one (ps_ret (pe_fn c_flattened hr (pa1 (pv 3)))))))),?_⟩
  rintro W vs G ok p
  obtain ⟨v0,v1,rfl,q0,q1⟩:=all2 p
  have hs:2 <= W.m + W.n /\ W.m + W.n <= 10:=ok.1.sum
  refine evn_set (ev_call (W,W.bars) (eva_cons (ev_var rfl q0) (eva_cons (ev_bars X (ev_var rfl q0)) eva_nil)) ⟨ok.1,ok.2.1⟩) fun a G1 s1 p1=>?_
  refine evn_own P2 [] eva_nil (by decide) fun Gs H0 c ws G2 s2 p2=>?_
  refine evo_seq (evo_for (i:=4) (sqs W.m W.n) (fun k σ G3 ys=>Same G2 G3 /\ ∃ f x,σ = [some v0,some v1,some f,some (.ref c),x] /\ Ls NI (putS W.m ((sqs W.m W.n).take k) (bf W.m W.n W.bars,[])).1 G3 f /\ Paired (fun u x=>P2 x G3 u) ys (putS W.m ((sqs W.m W.n).take k) (bf W.m W.n W.bars,[])).2) (ev_call W (eva_cons (ev_var rfl (Stab.st (s1.trans s2) q0)) eva_nil) ⟨ok.1.2.1,ok.1.2.2.2⟩)
    (fun G3 s3=>⟨s3,a,_,rfl,Stab.st (s2.trans s3) p1,paired_st s3 p2⟩) ?_) fun σ' G3 ys' s3 ⟨s4,f,x,e,pf,pr⟩=>?_
  · rintro k b u σ' G3 ys hk pu s3 ⟨s4,f,x,rfl,pf,pr⟩
    have hb:=sqs_mem (List.mem_of_getElem? hk)
    have e1:putS W.m ((sqs W.m W.n).take (k + 1)) (bf W.m W.n W.bars,[]) = put1 W.m (putS W.m ((sqs W.m W.n).take k) (bf W.m W.n W.bars,[])) b:=by
      unfold putS
      rw [take_succ_of hk,List.foldl_append]; rfl
    have hl:(putS W.m ((sqs W.m W.n).take k) (bf W.m W.n W.bars,[])).1.length = W.m + W.n:=by rw [putS_len]; exact bf_len _ _ _
    have h2:(putS W.m ((sqs W.m W.n).take k) (bf W.m W.n W.bars,[])).2.length <= 25:=by
      have h3:=putS_len2 W.m ((sqs W.m W.n).take k) (bf W.m W.n W.bars,[])
      have h4:=ok.1.sqs
      rw [List.length_take] at h3
      simp at h3
      omega
    refine evo_if (evt_not (evt_v (ev_call (W,_,b) (eva_cons (ev_var rfl (Stab.st ((s1.trans s2).trans s4) q0)) (eva_cons (ev_var rfl pf) (eva_cons ((ev_var (P:=P2 b) rfl pu).imp fun H v h=>.inl h) eva_nil))) ⟨hl,hb.1,hb.2⟩))) (fun e G4 s5=>?_) fun e G4 s5=>?_
    · refine evo_seq (N:=fun σ G5 ys2=>Same G4 G5 /\ σ = [some v0,some v1,some f,some (.ref c),some u] /\ Paired (fun u x=>P2 x G5 u) ys2 ((putS W.m ((sqs W.m W.n).take k) (bf W.m W.n W.bars,[])).2 ++ [b])) (evo_append (i:=3) rfl (ev_var rfl (Stab.st s5 pu)) ?_ fun w G5 s6 pw=>⟨s6,rfl,paired_app (paired_st (s5.trans s6) pr) (.cons pw .nil)⟩) fun σ2 G5 ys2 s6 ⟨_,e2,pr2⟩=>?_
      · have:=Paired.length pr
        omega
      · subst e2
        refine evo_set (ev_call (W,_,b) (eva_cons (ev_var rfl (Stab.st (((s1.trans s2).trans s4).trans (s5.trans s6)) q0)) (eva_cons (ev_var rfl (Stab.st (s5.trans s6) pf)) (eva_cons (ev_var rfl (Stab.st (s5.trans s6) pu)) eva_nil))) ⟨hl,by show _ <= 10; rw [hl]; omega,hb.1,hb.2⟩) fun f2 G6 s7 pf2=>⟨s4.trans ((s5.trans s6).trans s7),f2,_,rfl,?_,?_⟩
        · rw [e1]; unfold put1; rw [if_neg (by simpa using e)]; exact pf2
        · rw [e1]; unfold put1; rw [if_neg (by simpa using e)]; exact paired_st s7 pr2
    · refine evo_nil ⟨s4.trans s5,f,_,rfl,?_,?_⟩
      · rw [e1]; unfold put1; rw [if_pos (by simpa using e)]; exact Stab.st s5 pf
      · rw [e1]; unfold put1; rw [if_pos (by simpa using e)]; exact paired_st s5 pr
  · subst e
    rw [List.take_length] at pr
    refine evo_done fun s5=>evn_ret (ev_flat2 (ev_var rfl ⟨c,ys',rfl,upd_same,paired_st s5 pr⟩) ?_)
    have h3:=putS_len2 W.m (sqs W.m W.n) (bf W.m W.n W.bars,[])
    have h4:=ok.1.sqs
    simp at h3
    show (putS W.m (sqs W.m W.n) (bf W.m W.n W.bars,[])).2.length <= 100
    omega
abbrev s_call_thin:Stmt:=top 36
theorem sc_call_thin:FnScope ["wall","handed","left","bar"] ["wall","handed"] (defScope s_call_thin):=scm (by decide +kernel)
def sp_call_thin (C:Addr) :Sp:=spP (ι:=WD) (fun x=>[WA C x,Ls NI []]) (fun x=>okW x) (fun x=>Ls I (flat2 (thinM x.m x.n x.bars)))
theorem ok_call_thin {f C:Addr} {fd:FuncData} (X:Txt K C) (M:Mods mg)  (c_is_spare:Fn P w K mg base "is_spare" 5 ["wall","bars","bar"] (sp_is_spare C)) (c_without:Fn P w K mg base "without" 1 ["places","place"] (sp_without C)) (c_flattened:Fn P w K mg base "flattened" 1 ["places"] (sp_flattened C)) (F:Fun K "call_thin" "call_thin" s_call_thin f fd):FnOk P w K mg base CX0 6 f fd ["wall","handed"] (sp_call_thin C ):=by
  have nd:=(sc_call_thin).nd
  refine pure_fn F sc_call_thin (fun _=>rfl) fun cdv B outer s H E hr=>⟨_,(pss_cons (psn 2 nd (pe_callTy (cr_listK (K:=K) rfl) rfl M.b_list boot_list (pa1 (pfl K (pv 0))))) (pss_cons (ps_for PassesOwn.never rfl (pi_reversedK (K:=K) rfl M.b_reversed (pa1 (pfl K (pv 0)))) (pgn 3 nd) (pss_one (ps_if (pt_val (pe_fn c_is_spare hr (pa3 (pv 0) (pv 2) (pv 3)))) (pss_one (psn 2 nd (pe_fn c_without hr (pa2 (pv 2) (pv 3))))) pss_nil))) (pss_one (ps_ret (pe_fn c_flattened hr (pa1 (pv 2))))))),?_⟩
  rintro W vs G ok p
  obtain ⟨v0,v1,rfl,q0,q1⟩:=all2 p
  refine evn_set (ev_list (ev_bars X (ev_var rfl q0))) fun a G1 s1 p1=>?_
  refine evn_seq (evn_forRev (i:=3) W.bars (fun k σ G2=>Same G G2 /\ ∃ f x,σ = [some v0,some v1,some f,x] /\ Ls P2 ((W.bars.reverse.take k).foldl (thin1 W.m W.n) W.bars) G2 f) (ev_bars X (ev_var rfl (Stab.st s1 q0))) (fun G2 s2=>⟨s1.trans s2,a,_,rfl,Stab.st s2 p1⟩) ?_) fun σ' G2 s2 ⟨s3,f,x,e,pf⟩=>?_
  · rintro k b u σ' G2 hk pu s2 ⟨s3,f,x,rfl,pf⟩
    have hin:=thin_in (m:=W.m) (n:=W.n) (W:=W) (W.bars.reverse.take k) ok.2.1
    rw [take_succ_of hk,List.foldl_append]
    refine evn_if (evt_v (ev_call (W,_,b) (eva_cons (ev_var rfl (Stab.st s3 q0)) (eva_cons (ev_var rfl pf) (eva_cons (ev_var rfl pu) eva_nil))) ⟨ok.1,hin⟩)) (fun e=>?_) fun e=>evn_nil fun G3 s4=>⟨s3.trans s4,f,_,rfl,?_⟩
    · refine evn_set1 (ev_wo2 (ev_var rfl pf) (ev_var rfl pu) (by have:=hin.1; omega)) fun f2 G3 s4 pf2=>⟨s3.trans s4,f2,_,rfl,?_⟩
      show Ls P2 (thin1 W.m W.n _ b) G3 f2
      rw [thin1_pos (show isp _ _ _ _ = true from e)]
      exact pf2
    · show Ls P2 (thin1 W.m W.n _ b) G3 f
      rw [thin1_neg (show isp _ _ _ _ = false from e)]
      exact Stab.st s4 pf
  · subst e
    rw [<- List.length_reverse,List.take_length] at pf
    exact evn_ret (ev_flat2 (ev_var rfl pf) (thin_in (W:=W) W.bars.reverse ok.2.1).1)
abbrev s_call_turn:Stmt:=top 37
theorem sc_call_turn:FnScope ["wall","way","bent","broken","bar"] ["wall","way"] (defScope s_call_turn):=scm (by decide +kernel)
def sp_call_turn (C:Addr) :Sp:=spP (ι:=WD × List Nat) (fun x=>[WA C x.1,Ls NI x.2]) (fun x=>okW x.1 /\ x.2.length <= 12) (fun x=>Ls I (r_turn x.1 x.2))
theorem ok_call_turn {f C:Addr} {fd:FuncData} (X:Txt K C) (M:Mods mg)  (c_strip_count:Fn P w K mg base "strip_count" 1 ["wall"] (sp_strip_count C)) (c_bent_squares:Fn P w K mg base "bent_squares" 2 ["wall","way"] (sp_bent_squares C)) (F:Fun K "call_turn" "call_turn" s_call_turn f fd):FnOk P w K mg base CX0 3 f fd ["wall","way"] (sp_call_turn C ):=by
  have nd:=(sc_call_turn).nd
  refine pure_fn F sc_call_turn (fun _=>rfl) fun cdv B outer s H E hr=>⟨_,(pss_cons (ps_if (pt_cmpR op_ne (pln K M.b_len (pv 1)) (pe_fn c_strip_count hr (pa1 (pv 0))) (nomark _)) (pss_one (ps_ret (pe_lst (pa1 (pe_glI rfl M.c_OUT_OF_RANGE))))) pss_nil) (pss_cons (psn 2 nd (pe_fn c_bent_squares hr (pa2 (pv 0) (pv 1)))) (pss_cons (ps_setLc (i:=3) rfl nd rfl rfl (sw_true rfl rfl rfl (by decide +kernel)) (pi_listK (K:=K) rfl (pfl K (pv 0))) (blkOk_by (N:=["wall","way","bent","broken","bar"]) (sc:=defScope s_call_turn) (own:=[("bar",4)]) (by decide +kernel)) (fun _ _ _ _ _=>pgn 4 nd) (fun _ _ _ _ _=>(pts_one (pt_cmpR (op_inT (room65 hr)) (pv 4) (pv 2) (by with_unfolding_all rfl)))) (fun _ _ _ _ _=>(pv 4))) (pss_one (ps_ret (pe_lst (pa2 (pe_ifExp (pt_cmpR op_eq (pln K M.b_len (pv 3)) pe_int (nomark _)) pe_int pe_int) (pln K M.b_len (pv 2))))))))),?_⟩
  rintro ⟨W,l⟩ vs G ⟨ok,hl⟩ p
  obtain ⟨v0,v1,rfl,q0,q1⟩:=all2 p
  clear p
  dsimp only at *
  have hs:2 <= W.m + W.n /\ W.m + W.n <= 10:=ok.1.sum
  refine evn_ifret (evt_b (ev_neN (ev_len (ev_var rfl q1)) (ev_call W (eva_cons (ev_var rfl q0) eva_nil) trivial))) (fun e=>?_) fun e=>?_
  · refine evn_ret ((ev_lst I [-22] (eva_cons ev_int eva_nil)).imp fun H v h=>?_)
    unfold r_turn
    rw [if_pos (by simpa using e)]
    exact h
  · have e':l.length = W.m + W.n:=by simpa using e
    refine evn_set (P:=Ls P2 (bentM W l)) (ev_call (W,l) (eva_cons (ev_var rfl q0) (eva_cons (ev_var rfl q1) eva_nil)) ⟨ok.1.2.1,ok.1.2.2.2,e'⟩) fun a G1 s1 p1=>?_
    refine evn_set ((ev_lcL (P:=P2) (F:=P2) W.bars (fun x=>(bentM W l).contains x) id (ev_bars X (ev_var rfl (Stab.st s1 q0))) (by have:=ok.2.1.1; omega) (fun x hx u G2 s2 px=>evt_b (ev_in2 (ev_var rfl px) (ev_var rfl (Stab.st s2 p1)))) fun x _ _ u G2 s2 px=>ev_var rfl px).imp (R:=Ls P2 (W.bars.filter fun x=>(bentM W l).contains x)) fun H v h=>by rw [List.map_id] at h; exact h) fun b G2 s2 p2=>?_
    refine evn_ret ((ev_lst I [if decide ((W.bars.filter fun x=>(bentM W l).contains x).length = 0) then 1 else 0,((bentM W l).length:Nat)] (eva_cons (ev_bit (evt_b (ev_eqN (b:=0) (ev_len (ev_var rfl p2)) ev_int))) (eva_cons (ev_len (ev_var rfl (Stab.st s2 p1))) eva_nil)) (by show 2 <= 1000; decide)).imp fun H v h=>?_)
    unfold r_turn
    rw [if_neg (by simpa using e')]
    exact h
abbrev s_call_falls:Stmt:=top 38
theorem sc_call_falls:FnScope ["wall","handed","bar","left"] ["wall","handed"] (defScope s_call_falls):=scm (by decide +kernel)
def sp_call_falls (C:Addr) :Sp:=spP (ι:=WD × (Nat × Nat)) (fun x=>[WA C x.1,Ls NI [x.2.1,x.2.2]]) (fun x=>okW x.1) (fun x=>Ls I (r_falls x.1 x.2))
theorem ok_call_falls {f C:Addr} {fd:FuncData} (X:Txt K C) (M:Mods mg)  (c_without:Fn P w K mg base "without" 1 ["places","place"] (sp_without C)) (c_angles:Fn P w K mg base "angles" 4 ["wall","bars"] (sp_angles C)) (c_shears:Fn P w K mg base "shears" 4 ["wall","bars"] (sp_shears C)) (F:Fun K "call_falls" "call_falls" s_call_falls f fd):FnOk P w K mg base CX0 5 f fd ["wall","handed"] (sp_call_falls C ):=by
  have nd:=(sc_call_falls).nd
  refine pure_fn F sc_call_falls (fun _=>rfl) fun cdv B outer s H E hr=>⟨_,(pss_cons (psn 2 nd (pe_callTy (cr_tupleK (K:=K) rfl) rfl M.b_tuple boot_tuple (pa1 (pv 1)))) (pss_cons (ps_if (pt_cmpR (op_notinT (room65 hr)) (pv 2) (pfl K (pv 0)) (by with_unfolding_all rfl)) (pss_one (ps_ret (pe_lst (pa1 (pe_glI rfl M.c_NOT_THERE))))) pss_nil) (pss_cons (psn 3 nd (pe_fn c_without hr (pa2 (pfl K (pv 0)) (pv 2)))) (pss_one (ps_ret (pe_lst (pa2 (pe_op op_sub (pe_callB (cr_sumK (K:=K) rfl rfl) rfl M.b_sum boot_sum (pa1 (pe_fn c_angles hr (pa2 (pv 0) (pfl K (pv 0)))))) (pe_callB (cr_sumK (K:=K) rfl rfl) rfl M.b_sum boot_sum (pa1 (pe_fn c_angles hr (pa2 (pv 0) (pv 3)))))) (pe_fn c_shears hr (pa2 (pv 0) (pv 3)))))))))),?_⟩
  rintro ⟨W,b⟩ vs G ok p
  obtain ⟨v0,v1,rfl,q0,q1⟩:=all2 p
  clear p
  dsimp only at *
  refine evn_set (ev_tup2 (ev_var rfl q1)) fun a G1 s1 p1=>?_
  refine evn_ifret (evt_b (ev_notin2 (ev_var rfl p1) (ev_bars X (ev_var rfl (Stab.st s1 q0))))) (fun e=>?_) fun e=>?_
  · refine evn_ret ((ev_lst I [-6] (eva_cons ev_int eva_nil)).imp fun H v h=>?_)
    unfold r_falls
    rw [if_neg (by simpa using e)]
    exact h
  · refine evn_set (ev_wo2 (ev_bars X (ev_var rfl (Stab.st s1 q0))) (ev_var rfl p1) (by have:=ok.2.1.1; omega)) fun c G2 s2 p2=>?_
    refine evn_ret ((ev_lst I [((ang W.m W.n W.bars).sum:Nat) - ((ang W.m W.n (wo W.bars b)).sum:Nat),(sh W.m W.n (wo W.bars b):Nat)] (eva_cons (ev_sub (ev_sumN (ev_call (W,W.bars) (eva_cons (ev_var rfl (Stab.st (s1.trans s2) q0)) (eva_cons (ev_bars X (ev_var rfl (Stab.st (s1.trans s2) q0))) eva_nil)) ⟨ok.1,ok.2.1⟩)) (ev_sumN (ev_call (W,wo W.bars b) (eva_cons (ev_var rfl (Stab.st (s1.trans s2) q0)) (eva_cons (ev_var rfl p2) eva_nil)) ⟨ok.1,ok.2.1.wo⟩))) (eva_cons (ev_call (W,wo W.bars b) (eva_cons (ev_var rfl (Stab.st (s1.trans s2) q0)) (eva_cons (ev_var rfl p2) eva_nil)) ⟨ok.1,ok.2.1.wo⟩) eva_nil)) (by show 2 <= 1000; decide)).imp fun H v h=>?_)
    unfold r_falls
    rw [if_pos (by simpa using e)]
    exact h
abbrev s_call_would:Stmt:=top 39
theorem sc_call_would:FnScope ["wall","handed","bar","more"] ["wall","handed"] (defScope s_call_would):=scm (by decide +kernel)
def sp_call_would (C:Addr) :Sp:=spP (ι:=WD × (Nat × Nat)) (fun x=>[WA C x.1,Ls NI [x.2.1,x.2.2]]) (fun x=>okW x.1 /\ x.1.bars.length <= 50 /\ x.2.1 < x.1.m /\ x.2.2 < x.1.n) (fun x=>Ls I (r_would x.1 x.2))
theorem ok_call_would {f C:Addr} {fd:FuncData} (X:Txt K C) (M:Mods mg)  (c_shears:Fn P w K mg base "shears" 4 ["wall","bars"] (sp_shears C)) (c_angles:Fn P w K mg base "angles" 4 ["wall","bars"] (sp_angles C)) (F:Fun K "call_would" "call_would" s_call_would f fd):FnOk P w K mg base CX0 5 f fd ["wall","handed"] (sp_call_would C ):=by
  have nd:=(sc_call_would).nd
  refine pure_fn F sc_call_would (fun _=>rfl) fun cdv B outer s H E hr=>⟨_,(pss_cons (psn 2 nd (pe_callTy (cr_tupleK (K:=K) rfl) rfl M.b_tuple boot_tuple (pa1 (pv 1)))) (pss_cons (ps_if (pt_cmpR (op_inT (room65 hr)) (pv 2) (pfl K (pv 0)) (by with_unfolding_all rfl)) (pss_one (ps_ret (pe_lst (pa1 (pe_glI rfl M.c_THERE_ALREADY))))) pss_nil) (pss_cons (psn 3 nd (pe_op op_cat (pfl K (pv 0)) (pe_lst (pa1 (pv 2))))) (pss_one (ps_ret (pe_lst (pa2 (pe_fn c_shears hr (pa2 (pv 0) (pv 3))) (pe_op op_sub (pe_callB (cr_sumK (K:=K) rfl rfl) rfl M.b_sum boot_sum (pa1 (pe_fn c_angles hr (pa2 (pv 0) (pv 3))))) (pe_callB (cr_sumK (K:=K) rfl rfl) rfl M.b_sum boot_sum (pa1 (pe_fn c_angles hr (pa2 (pv 0) (pfl K (pv 0)))))))))))))),?_⟩
  rintro ⟨W,b⟩ vs G ⟨ok,hz,hb1,hb2⟩ p
  obtain ⟨v0,v1,rfl,q0,q1⟩:=all2 p
  clear p
  dsimp only at *
  have hin:inW W (W.bars ++ [b]):=ok.2.1.app hz hb1 hb2
  refine evn_set (ev_tup2 (ev_var rfl q1)) fun a G1 s1 p1=>?_
  refine evn_ifret (evt_b (ev_in2 (ev_var rfl p1) (ev_bars X (ev_var rfl (Stab.st s1 q0))))) (fun e=>?_) fun e=>?_
  · refine evn_ret ((ev_lst I [-17] (eva_cons ev_int eva_nil)).imp fun H v h=>?_)
    unfold r_would
    rw [if_pos (by simpa using e)]
    exact h
  · refine evn_set (ev_cat (ev_bars X (ev_var rfl (Stab.st s1 q0))) (ev_lst P2 [b] (eva_cons (ev_var rfl p1) eva_nil) (by show 1 <= 1000; decide)) (by have:=ok.2.1.1; simp; omega)) fun c G2 s2 p2=>?_
    refine evn_ret ((ev_lst I [(sh W.m W.n (W.bars ++ [b]):Nat),((ang W.m W.n (W.bars ++ [b])).sum:Nat) - ((ang W.m W.n W.bars).sum:Nat)] (eva_cons (ev_call (W,W.bars ++ [b]) (eva_cons (ev_var rfl (Stab.st (s1.trans s2) q0)) (eva_cons (ev_var rfl p2) eva_nil)) ⟨ok.1,hin⟩) (eva_cons (ev_sub (ev_sumN (ev_call (W,W.bars ++ [b]) (eva_cons (ev_var rfl (Stab.st (s1.trans s2) q0)) (eva_cons (ev_var rfl p2) eva_nil)) ⟨ok.1,hin⟩)) (ev_sumN (ev_call (W,W.bars) (eva_cons (ev_var rfl (Stab.st (s1.trans s2) q0)) (eva_cons (ev_bars X (ev_var rfl (Stab.st (s1.trans s2) q0))) eva_nil)) ⟨ok.1,ok.2.1⟩))) eva_nil)) (by show 2 <= 1000; decide)).imp fun H v h=>?_)
    unfold r_would
    rw [if_neg (by simpa using e)]
    exact h
end
end L2.FF
end
section
namespace L2.FF
open PySem PySem.Spec PyProof.Rows
section
variable {P:Program} {w:World} {K:PySem.W.Frag} {mg:Str -> Option Value} {base:Heap}
section
variable {σ:St} {Hs:Hp} {ta tb:TE} {a b:Nat}
theorem ev_orN (ha:Ev ta σ Hs (NI a)) (hb:Ev tb σ Hs (NI b)):Ev (tOp (rI0 fun i j=>.int (Builtin.bitOr i j)) ta tb) σ Hs (NI (a ||| b)):=(ev_or ha hb).int_eq (by rw [Bits.bitOr_pp (by omega) (by omega)]; rfl)
theorem ev_shlN (hb:Ev tb σ Hs (NI b)) (hz:b <= 1000):Ev (tOp (rI CPow fun i j=>.int (i * 2 ^ j.toNat)) (tC (.int 1)) tb) σ Hs (NI (2 ^ b)):=(ev_shl ev_int hb ⟨by omega,by omega,by decide⟩).int_eq (by rw [Int.toNat_natCast,Int.one_mul]; push_cast; rfl)
theorem bit_eq (x s:Nat):decide (Builtin.bitAnd ((x:Int) / 2 ^ ((s:Int)).toNat) 1 = 1) = x.testBit s:=by
  have h:=Bits.bit_at (x:=(x:Int)) s
  rw [Int.fdiv_eq_ediv_of_nonneg _ (by exact Int.le_of_lt (Int.pow_pos (by decide)))] at h
  rw [Int.toNat_natCast,h,Nat.testBit_eq_decide_div_mod_eq,decide_eq_decide]
  have e:((x:Int) / 2 ^ s % 2) = (((x / 2 ^ s % 2:Nat)):Int):=by push_cast; rfl
  rw [e]
  omega
theorem ev_testBit (ha:Ev ta σ Hs (NI a)) (hb:Ev tb σ Hs (NI b)):Ev (tOp rEq (tOp (rI0 fun i j=>.int (Builtin.bitAnd i j)) (tOp (rI (fun _ j=>0 <= j) fun i j=>.int (i / 2 ^ j.toNat)) ta tb) (tC (.int 1))) (tC (.int 1))) σ Hs (B (a.testBit b)):=by
  have q:=ev_eqI (ev_and (ev_shr ha hb (by omega)) (ev_int (i:=1))) (ev_int (i:=1))
  rw [bit_eq] at q
  exact q
end
abbrev s_two_ties:Stmt:=top 49
theorem sc_two_ties:FnScope ["places","found","place","kind"] ["places"] (defScope s_two_ties):=scm (by decide +kernel)
def sp_two_ties (C:Addr) :Sp:=spF (ι:=List (Nat × Nat)) (fun xs=>[Ls (fun x=>Sq (e2 x)) xs]) (fun xs=>xs.length <= 1000) (fun xs=>Ls P3 (two xs))
theorem ok_two_ties {f C:Addr} {fd:FuncData} (X:Txt K C) (M:Mods mg)   (F:Fun K "two_ties" "two_ties" s_two_ties f fd):FnOk P w K mg base CX0 1 f fd ["places"] (sp_two_ties C ):=by
  have nd:=(sc_two_ties).nd
  refine fresh_fn F sc_two_ties (fun _=>rfl) fun cdv B outer s H E hr=>⟨_,(pss_cons (psn 1 nd (pe_lst pa_nil)) (pss_cons (ps_for PassesOwn.never rfl (pi_listK (K:=K) rfl (pv 0)) (pgn 2 nd) (pss_one (ps_for PassesOwn.never rfl (prg M.b_range (pe_glI rfl M.c_KINDS)) (pgn 3 nd) (pss_one (ps_expr (tbm_K (K:=K) rfl (pe_bm PySem.F.plainAttrs_list PySem.F.slot_list_append PySem.F.type_list_append mt_append (pv 1) (pa1 (pe_tup (pa3 (ixq K (pv 2) pe_int) (ixq K (pv 2) pe_int) (pv 3))))))))))) (pss_one (ps_ret (pv 1))))),?_⟩
  rintro xs vs G hz p
  obtain ⟨v,rfl,q⟩:=all1 p
  refine evn_ownF P3 [] eva_nil (by decide) fun Gs H0 c ws G2 hn s2 p2=>?_
  refine evo_seq (evo_for (P:=fun x=>Sq (e2 x)) (i:=2) xs (fun k σ G ys=>Same G2 G /\ (∃ x y,σ = [some v,some (.ref c),x,y]) /\ Paired (fun u x=>P3 x G u) ys (two (xs.take k))) (ev_var rfl (Stab.st s2 q)) (fun G3 s3=>⟨s3,⟨_,_,rfl⟩,paired_st s3 p2⟩) ?_) fun σ' G3 ys' s3 ⟨s4,⟨x,y,e⟩,pr⟩=>?_
  · rintro k a u σ' G3 ys hk pu s3 ⟨s4,⟨x,y,rfl⟩,pr⟩
    have hl:(two (xs.take k)).length <= 2000:=by rw [two_len,List.length_take]; omega
    refine evo_mono (evo_forRng (i:=3) 2 (fun l σ G ys=>Same G3 G /\ (∃ y,σ = [some v,some (.ref c),some u,y]) /\ Paired (fun u x=>P3 x G u) ys (two (xs.take k) ++ (List.range l).map fun d=>(a.1,a.2,d))) ev_int (by omega)
      (fun G4 s5=>⟨s5,⟨y,rfl⟩,by rw [List.range_zero,List.map_nil,List.append_nil]; exact paired_st s5 pr⟩) ?_) ?_
    · rintro l σ' G4 ys4 hl2 s5 ⟨s6,⟨y4,rfl⟩,pr4⟩
      refine evo_append (i:=1) rfl (ev_tup (e3 (a.1,a.2,l)) (eva_cons (ev_ixS (ev_var rfl (Stab.st s6 pu)) ev_int (n:=0) rfl rfl) (eva_cons (ev_ixS (ev_var rfl (Stab.st s6 pu)) ev_int (n:=1) rfl rfl) (eva_cons (ev_var rfl rfl) eva_nil))) (by show 3 <= 1000; decide)) ?_ fun u G5 s7 pu=>⟨s6.trans s7,⟨_,rfl⟩,?_⟩
      · have h1:=Paired.length pr4
        rw [List.length_append,List.length_map,List.length_range] at h1
        omega
      · rw [List.range_succ,List.map_append,<- List.append_assoc]
        exact paired_app (paired_st s7 pr4) (.cons pu .nil)
    · rintro σ' G4 ys4 ⟨s6,⟨y4,rfl⟩,pr4⟩
      refine ⟨s4.trans s6,⟨_,_,rfl⟩,?_⟩
      rw [take_succ_of hk]
      unfold two at pr4 ⊢
      rw [List.flatMap_append]
      exact pr4
  · subst e
    rw [List.take_length] at pr
    exact evo_done fun s5=>evn_ret (ev_var rfl ⟨⟨c,ys',rfl,upd_same,paired_st s5 pr⟩,fun c' e=>by cases e; exact hn⟩)
abbrev s_from_strip:Stmt:=top 50
theorem sc_from_strip:FnScope ["wall","tie"] ["wall","tie"] (defScope s_from_strip):=scm (by decide +kernel)
def sp_from_strip (C:Addr) :Sp:=spP (ι:=WD × (Nat × Nat × Nat)) (fun x=>[WA C x.1,Sq (e3 x.2)]) (fun _=>True) (fun x=>NI (tsrc x.1.m x.2))
theorem ok_from_strip {f C:Addr} {fd:FuncData} (X:Txt K C) (M:Mods mg)  (c_column_strip:Fn P w K mg base "column_strip" 1 ["wall","column"] (sp_column_strip C)) (F:Fun K "from_strip" "from_strip" s_from_strip f fd):FnOk P w K mg base CX0 2 f fd ["wall","tie"] (sp_from_strip C ):=by
  have nd:=(sc_from_strip).nd
  refine pure_fn F sc_from_strip (fun _=>rfl) fun cdv B outer s H E hr=>⟨_,(pss_one (ps_ret (pe_ifExp (pt_cmpR op_eq (ixq K (pv 1) pe_int) pe_int (nomark _)) (ixq K (pv 1) pe_int) (pe_fn c_column_strip hr (pa2 (pv 0) (ixq K (pv 1) pe_int)))))),?_⟩
  rintro ⟨W,t⟩ vs G _ p
  obtain ⟨v0,v1,rfl,q0,q1⟩:=all2 p
  clear p
  try dsimp only at *
  unfold tsrc
  refine evn_ret (ev_if (evt_b (ev_eqN (a:=t.2.2) (b:=0) (ev_ixS (ev_var rfl q1) ev_int (n:=2) rfl rfl) ev_int)) (fun e=>?_) fun e=>?_)
  · rw [if_pos (of_decide_eq_true e)]; exact ev_ixS (ev_var rfl q1) ev_int (n:=0) rfl rfl
  · rw [if_neg (of_decide_eq_false e)]; exact ev_call (W,t.2.1) (eva_cons (ev_var rfl q0) (eva_cons (ev_ixS (ev_var rfl q1) ev_int (n:=1) rfl rfl) eva_nil)) trivial
abbrev s_to_strip:Stmt:=top 51
theorem sc_to_strip:FnScope ["wall","tie"] ["wall","tie"] (defScope s_to_strip):=scm (by decide +kernel)
def sp_to_strip (C:Addr) :Sp:=spP (ι:=WD × (Nat × Nat × Nat)) (fun x=>[WA C x.1,Sq (e3 x.2)]) (fun _=>True) (fun x=>NI (ttgt x.1.m x.2))
theorem ok_to_strip {f C:Addr} {fd:FuncData} (X:Txt K C) (M:Mods mg)  (c_column_strip:Fn P w K mg base "column_strip" 1 ["wall","column"] (sp_column_strip C)) (F:Fun K "to_strip" "to_strip" s_to_strip f fd):FnOk P w K mg base CX0 2 f fd ["wall","tie"] (sp_to_strip C ):=by
  have nd:=(sc_to_strip).nd
  refine pure_fn F sc_to_strip (fun _=>rfl) fun cdv B outer s H E hr=>⟨_,(pss_one (ps_ret (pe_ifExp (pt_cmpR op_eq (ixq K (pv 1) pe_int) pe_int (nomark _)) (pe_fn c_column_strip hr (pa2 (pv 0) (ixq K (pv 1) pe_int))) (ixq K (pv 1) pe_int)))),?_⟩
  rintro ⟨W,t⟩ vs G _ p
  obtain ⟨v0,v1,rfl,q0,q1⟩:=all2 p
  clear p
  try dsimp only at *
  unfold ttgt
  refine evn_ret (ev_if (evt_b (ev_eqN (a:=t.2.2) (b:=0) (ev_ixS (ev_var rfl q1) ev_int (n:=2) rfl rfl) ev_int)) (fun e=>?_) fun e=>?_)
  · rw [if_pos (of_decide_eq_true e)]; exact ev_call (W,t.2.1) (eva_cons (ev_var rfl q0) (eva_cons (ev_ixS (ev_var rfl q1) ev_int (n:=1) rfl rfl) eva_nil)) trivial
  · rw [if_neg (of_decide_eq_false e)]; exact ev_ixS (ev_var rfl q1) ev_int (n:=0) rfl rfl
abbrev s_comes:Stmt:=top 52
theorem sc_comes:FnScope ["table","source","target"] ["table","source","target"] (defScope s_comes):=scm (by decide +kernel)
def sp_comes (C:Addr) :Sp:=spP (ι:=List Nat × Nat × Nat) (fun x=>[Ls NI x.1,NI x.2.1,NI x.2.2]) (fun x=>x.2.1 < x.1.length) (fun x=>B (cm x.1 x.2.1 x.2.2))
theorem ok_comes {f C:Addr} {fd:FuncData} (X:Txt K C) (M:Mods mg)   (F:Fun K "comes" "comes" s_comes f fd):FnOk P w K mg base CX0 1 f fd ["table","source","target"] (sp_comes C ):=by
  have nd:=(sc_comes).nd
  refine pure_fn F sc_comes (fun _=>rfl) fun cdv B outer s H E hr=>⟨_,(pss_one (ps_ret (pe_cmpR op_eq (pe_op op_and (pe_op op_shr (ixl K (pv 0) (pv 1)) (pv 2)) pe_int) pe_int (nomark _)))),?_⟩
  rintro ⟨tb,a,b⟩ vs G h p
  obtain ⟨v0,v1,v2,rfl,q0,q1,q2⟩:=all3 p
  clear p
  try dsimp only at *
  exact evn_ret (ev_testBit (ev_ixN (ev_var rfl q0) (ev_var rfl q1) h) (ev_var rfl q2))
abbrev s_stepped:Stmt:=top 53
theorem sc_stepped:FnScope ["wall","table","tie","source","target","further","known"] ["wall","table","tie"] (defScope s_stepped):=scm (by decide +kernel)
def sp_stepped (C:Addr) :Sp:=spP (ι:=WD × List Nat × (Nat × Nat × Nat)) (fun x=>[WA C x.1,Ls NI x.2.1,Sq (e3 x.2.2)]) (fun x=>x.2.1.length = x.1.m + x.1.n /\ x.2.1.length <= 10 /\ x.2.2.1 < x.1.m /\ x.2.2.2.1 < x.1.n) (fun x=>Ls NI (stp x.1.m x.2.1 x.2.2))
theorem ok_stepped {f C:Addr} {fd:FuncData} (X:Txt K C) (M:Mods mg)  (c_from_strip:Fn P w K mg base "from_strip" 2 ["wall","tie"] (sp_from_strip C)) (c_to_strip:Fn P w K mg base "to_strip" 2 ["wall","tie"] (sp_to_strip C)) (c_comes:Fn P w K mg base "comes" 1 ["table","source","target"] (sp_comes C)) (F:Fun K "stepped" "stepped" s_stepped f fd):FnOk P w K mg base CX0 3 f fd ["wall","table","tie"] (sp_stepped C ):=by
  have nd:=(sc_stepped).nd
  refine pure_fn F sc_stepped (fun _=>rfl) fun cdv B outer s H E hr=>⟨_,(pss_cons (psn 3 nd (pe_fn c_from_strip hr (pa2 (pv 0) (pv 2)))) (pss_cons (psn 4 nd (pe_fn c_to_strip hr (pa2 (pv 0) (pv 2)))) (pss_cons (ps_if (pt_val (pe_fn c_comes hr (pa3 (pv 1) (pv 3) (pv 4)))) (pss_one (ps_ret (pv 1))) pss_nil) (pss_cons (psn 5 nd (ixl K (pv 1) (pv 4))) (pss_one (ps_ret (pe_lc rfl nd (pi_listK (K:=K) rfl (pv 1)) (blkOk_by (N:=["wall","table","tie","source","target","further","known"]) (sc:=defScope s_stepped) (own:=[("known",6)]) (by decide +kernel)) (fun _ _ _ _ _=>pgn 6 nd) (fun _ _ _ _ _=>pts_nil) (fun _ _ _ _ _=>(pe_ifExp (pt_cmpR op_eq (pe_op op_and (pe_op op_shr (pv 6) (pv 3)) pe_int) pe_int (nomark _)) (pe_op op_or (pv 6) (pv 5)) (pv 6)))))))))),?_⟩
  rintro ⟨W,tb,t⟩ vs G ⟨h1,h2,h3,h4⟩ p
  obtain ⟨v0,v1,v2,rfl,q0,q1,q2⟩:=all3 p
  clear p
  try dsimp only at *
  have hs:tsrc W.m t < tb.length:=by unfold tsrc; split <;> omega
  have ht:ttgt W.m t < tb.length:=by unfold ttgt; split <;> omega
  refine evn_set (P:=NI (tsrc W.m t)) (ev_call (W,t) (eva_cons (ev_var rfl q0) (eva_cons (ev_var rfl q2) eva_nil)) trivial) fun a G1 s1 p1=>?_
  refine evn_set (P:=NI (ttgt W.m t)) (ev_call (W,t) (eva_cons (ev_var rfl (Stab.st s1 q0)) (eva_cons (ev_var rfl (Stab.st s1 q2)) eva_nil)) trivial) fun b G2 s2 p2=>?_
  have s3:=s1.trans s2
  refine evn_ifret (evt_v (ev_call (tb,tsrc W.m t,ttgt W.m t) (eva_cons (ev_var rfl (Stab.st s3 q1)) (eva_cons (ev_var rfl (Stab.st s2 p1)) (eva_cons (ev_var rfl p2) eva_nil))) hs)) (fun e=>?_) fun e=>?_
  · unfold stp; rw [if_pos e]; exact evn_ret (ev_var rfl (Stab.st s3 q1))
  · unfold stp; rw [if_neg (by rw [e]; decide)]
    refine evn_set (ev_ixN (ev_var rfl (Stab.st s3 q1)) (ev_var rfl p2) ht) fun c G4 s5 p5=>?_
    refine evn_ret (ev_lcLm (P:=NI) (F:=NI) tb (fun k=>if k.testBit (tsrc W.m t) then k ||| tb.getD (ttgt W.m t) 0 else k) (ev_var rfl (Stab.st (s3.trans s5) q1)) (by omega) fun x _ u G5 s6 px=>?_)
    refine ev_if (evt_b (ev_testBit (ev_var rfl px) (ev_var rfl (Stab.st (s2.trans (s5.trans s6)) p1)))) (fun e=>?_) fun e=>?_
    · rw [if_pos e]; exact ev_orN (ev_var rfl px) (ev_var rfl (Stab.st s6 p5))
    · rw [if_neg (by rw [e]; decide)]; exact ev_var rfl px
abbrev s_tie_table:Stmt:=top 54
theorem sc_tie_table:FnScope ["wall","ties","table","strip","tie"] ["wall","ties"] (defScope s_tie_table):=scm (by decide +kernel)
def sp_tie_table (C:Addr) :Sp:=spP (ι:=WD × List (Nat × Nat × Nat)) (fun x=>[WA C x.1,Ls P3 x.2]) (fun x=>sizeOk x.1 /\ inT x.1 x.2) (fun x=>Ls NI (tt x.1.m x.1.n x.2))
theorem ok_tie_table {f C:Addr} {fd:FuncData} (X:Txt K C) (M:Mods mg)  (c_strip_count:Fn P w K mg base "strip_count" 1 ["wall"] (sp_strip_count C)) (c_stepped:Fn P w K mg base "stepped" 3 ["wall","table","tie"] (sp_stepped C)) (F:Fun K "tie_table" "tie_table" s_tie_table f fd):FnOk P w K mg base CX0 4 f fd ["wall","ties"] (sp_tie_table C ):=by
  have nd:=(sc_tie_table).nd
  refine pure_fn F sc_tie_table (fun _=>rfl) fun cdv B outer s H E hr=>⟨_,(pss_cons (ps_setLc (i:=2) rfl nd rfl rfl (sw_true rfl rfl rfl (by decide +kernel)) (prg M.b_range (pe_fn c_strip_count hr (pa1 (pv 0)))) (blkOk_by (N:=["wall","ties","table","strip","tie"]) (sc:=defScope s_tie_table) (own:=[("strip",3)]) (by decide +kernel)) (fun _ _ _ _ _=>pgn 3 nd) (fun _ _ _ _ _=>pts_nil) (fun _ _ _ _ _=>(pe_op op_shl pe_int (pv 3)))) (pss_cons (ps_for PassesOwn.never rfl (pi_listK (K:=K) rfl (pv 1)) (pgn 4 nd) (pss_one (psn 2 nd (pe_fn c_stepped hr (pa3 (pv 0) (pv 2) (pv 4)))))) (pss_one (ps_ret (pv 2))))),?_⟩
  rintro ⟨W,ts⟩ vs G ⟨h1,h2⟩ p
  obtain ⟨v0,v1,rfl,q0,q1⟩:=all2 p
  clear p
  try dsimp only at *
  have h3:=h1.sum
  refine evn_set (P:=Ls NI (tt0 (W.m + W.n))) (ev_lcRm (F:=NI) (W.m + W.n) (fun s=>2 ^ s) (ev_call W (eva_cons (ev_var rfl q0) eva_nil) trivial) (by omega) fun x hx G1 s1=>ev_shlN (ev_var rfl rfl) (by omega)) fun a1 G1 s1 p1=>?_
  refine evn_seq (evn_for (i:=4) ts (fun k σ G'=>Same G G' /\ (∃ a y x,σ = [some v0,some v1,some a,y,x] /\ Ls NI (tt W.m W.n (ts.take k)) G' a)) (ev_var rfl (Stab.st s1 q1)) (fun G2 s2=>⟨s1.trans s2,a1,_,_,rfl,Stab.st s2 p1⟩) ?_) fun σ' G2 s2 ⟨s3,a,y,x,e,pa⟩=>?_
  · rintro k b u σ' G2 hk pu s2 ⟨s3,a,y,x,rfl,pa⟩
    have hb:=h2.2 b (List.mem_of_getElem? hk)
    have hl:=tt_len W.m W.n (ts.take k)
    refine evn_set1 (ev_call (W,tt W.m W.n (ts.take k),b) (eva_cons (ev_var rfl (Stab.st s3 q0)) (eva_cons (ev_var rfl pa) (eva_cons ((ev_var (P:=P3 b) rfl pu).imp fun H v h=>.inl h) eva_nil))) ⟨hl,by dsimp only; omega,hb.1,hb.2.1⟩) fun a' G3 s4 pa'=>⟨s3.trans s4,a',_,_,rfl,?_⟩
    unfold tt
    rw [take_succ_of hk,List.foldl_append]
    exact pa'
  · subst e
    rw [List.take_length] at pa
    exact evn_ret (ev_var rfl pa)
abbrev s_reached:Stmt:=top 55
theorem sc_reached:FnScope ["table","strip","other"] ["table","strip"] (defScope s_reached):=scm (by decide +kernel)
def sp_reached (C:Addr) :Sp:=spP (ι:=List Nat × Nat) (fun x=>[Ls NI x.1,NI x.2]) (fun x=>x.2 < x.1.length /\ x.1.length <= 10) (fun x=>Ls NI (rch x.1 x.2))
theorem ok_reached {f C:Addr} {fd:FuncData} (X:Txt K C) (M:Mods mg)  (c_comes:Fn P w K mg base "comes" 1 ["table","source","target"] (sp_comes C)) (F:Fun K "reached" "reached" s_reached f fd):FnOk P w K mg base CX0 2 f fd ["table","strip"] (sp_reached C ):=by
  have nd:=(sc_reached).nd
  refine pure_fn F sc_reached (fun _=>rfl) fun cdv B outer s H E hr=>⟨_,(pss_one (ps_ret (pe_lc rfl nd (prg M.b_range (pln K M.b_len (pv 0))) (blkOk_by (N:=["table","strip","other"]) (sc:=defScope s_reached) (own:=[("other",2)]) (by decide +kernel)) (fun _ _ _ _ _=>pgn 2 nd) (fun _ _ _ _ _=>(pts_one (pt_val (pe_fn c_comes hr (pa3 (pv 0) (pv 1) (pv 2)))))) (fun _ _ _ _ _=>(pv 2))))),?_⟩
  rintro ⟨tb,a⟩ vs G ⟨h,h2⟩ p
  obtain ⟨v0,v1,rfl,q0,q1⟩:=all2 p
  clear p
  try dsimp only at *
  exact evn_ret ((ev_lcR (F:=NI) tb.length (fun k=>cm tb a k) id (ev_len (ev_var rfl q0)) (by omega) (fun k hk G3 s3=>evt_v (ev_call (tb,a,k) (eva_cons (ev_var rfl (Stab.st s3 q0)) (eva_cons (ev_var rfl (Stab.st s3 q1)) (eva_cons (ev_var rfl rfl) eva_nil))) h)) fun k hk _ G3 s3=>ev_var rfl rfl).imp fun H v h=>by rw [List.map_id] at h; exact h)
abbrev s_together:Stmt:=top 56
theorem sc_together:FnScope ["table","strip","other"] ["table","strip"] (defScope s_together):=scm (by decide +kernel)
def sp_together (C:Addr) :Sp:=spP (ι:=List Nat × Nat) (fun x=>[Ls NI x.1,NI x.2]) (fun x=>x.2 < x.1.length /\ x.1.length <= 10) (fun x=>Ls NI (tog x.1 x.2))
theorem ok_together {f C:Addr} {fd:FuncData} (X:Txt K C) (M:Mods mg)   (F:Fun K "together" "together" s_together f fd):FnOk P w K mg base CX0 1 f fd ["table","strip"] (sp_together C ):=by
  have nd:=(sc_together).nd
  refine pure_fn F sc_together (fun _=>rfl) fun cdv B outer s H E hr=>⟨_,(pss_one (ps_ret (pe_lc rfl nd (prg M.b_range (pln K M.b_len (pv 0))) (blkOk_by (N:=["table","strip","other"]) (sc:=defScope s_together) (own:=[("other",2)]) (by decide +kernel)) (fun _ _ _ _ _=>pgn 2 nd) (fun _ _ _ _ _=>(pts_one (pt_cmpR op_eq (ixl K (pv 0) (pv 2)) (ixl K (pv 0) (pv 1)) (nomark _)))) (fun _ _ _ _ _=>(pv 2))))),?_⟩
  rintro ⟨tb,a⟩ vs G ⟨h,h2⟩ p
  obtain ⟨v0,v1,rfl,q0,q1⟩:=all2 p
  clear p
  try dsimp only at *
  exact evn_ret ((ev_lcR (F:=NI) tb.length (fun k=>decide (tb.getD k 0 = tb.getD a 0)) id (ev_len (ev_var rfl q0)) (by omega) (fun k hk G3 s3=>evt_b (ev_eqN (ev_ixN (ev_var rfl (Stab.st s3 q0)) (ev_var rfl rfl) hk) (ev_ixN (ev_var rfl (Stab.st s3 q0)) (ev_var rfl (Stab.st s3 q1)) h))) fun k hk _ G3 s3=>ev_var rfl rfl).imp fun H v h=>by rw [List.map_id] at h; exact h)
abbrev s_table_firsts:Stmt:=top 57
theorem sc_table_firsts:FnScope ["table","strip"] ["table"] (defScope s_table_firsts):=scm (by decide +kernel)
def sp_table_firsts (C:Addr) :Sp:=spP (ι:=List Nat) (fun x=>[Ls NI x]) (fun x=>x.length <= 10) (fun x=>Ls NI (tfT x))
theorem ok_table_firsts {f C:Addr} {fd:FuncData} (X:Txt K C) (M:Mods mg)  (c_together:Fn P w K mg base "together" 1 ["table","strip"] (sp_together C)) (F:Fun K "table_firsts" "table_firsts" s_table_firsts f fd):FnOk P w K mg base CX0 2 f fd ["table"] (sp_table_firsts C ):=by
  have nd:=(sc_table_firsts).nd
  refine pure_fn F sc_table_firsts (fun _=>rfl) fun cdv B outer s H E hr=>⟨_,(pss_one (ps_ret (pe_lc rfl nd (prg M.b_range (pln K M.b_len (pv 0))) (blkOk_by (N:=["table","strip"]) (sc:=defScope s_table_firsts) (own:=[("strip",1)]) (by decide +kernel)) (fun _ _ _ _ _=>pgn 1 nd) (fun _ _ _ _ _=>pts_nil) (fun _ _ _ _ _=>(ixl K (pe_fn c_together hr (pa2 (pv 0) (pv 1))) pe_int))))),?_⟩
  rintro tb vs G h2 p
  obtain ⟨v0,rfl,q0⟩:=all1 p
  clear p
  try dsimp only at *
  exact evn_ret (ev_lcRm (F:=NI) tb.length (fun s=>(tog tb s).getD 0 0) (ev_len (ev_var rfl q0)) (by omega) fun x hx G2 s2=>ev_ixN (n:=0) (ev_call (tb,x) (eva_cons (ev_var rfl (Stab.st s2 q0)) (eva_cons (ev_var rfl rfl) eva_nil)) ⟨hx,h2⟩) ev_int (tog_pos hx))
abbrev s_tie_parts:Stmt:=top 58
theorem sc_tie_parts:FnScope ["wall","ties"] ["wall","ties"] (defScope s_tie_parts):=scm (by decide +kernel)
def sp_tie_parts (C:Addr) :Sp:=spP (ι:=WD × List (Nat × Nat × Nat)) (fun x=>[WA C x.1,Ls P3 x.2]) (fun x=>sizeOk x.1 /\ inT x.1 x.2) (fun x=>NI (tp x.1.m x.1.n x.2))
theorem ok_tie_parts {f C:Addr} {fd:FuncData} (X:Txt K C) (M:Mods mg)  (c_part_count:Fn P w K mg base "part_count" 1 ["firsts"] (sp_part_count C)) (c_table_firsts:Fn P w K mg base "table_firsts" 2 ["table"] (sp_table_firsts C)) (c_tie_table:Fn P w K mg base "tie_table" 4 ["wall","ties"] (sp_tie_table C)) (F:Fun K "tie_parts" "tie_parts" s_tie_parts f fd):FnOk P w K mg base CX0 5 f fd ["wall","ties"] (sp_tie_parts C ):=by
  have nd:=(sc_tie_parts).nd
  refine pure_fn F sc_tie_parts (fun _=>rfl) fun cdv B outer s H E hr=>⟨_,(pss_one (ps_ret (pe_fn c_part_count hr (pa1 (pe_fn c_table_firsts hr (pa1 (pe_fn c_tie_table hr (pa2 (pv 0) (pv 1))))))))),?_⟩
  rintro ⟨W,ts⟩ vs G ⟨h1,h2⟩ p
  obtain ⟨v0,v1,rfl,q0,q1⟩:=all2 p
  clear p
  try dsimp only at *
  have h3:=h1.sum
  have hl:=tt_len W.m W.n ts
  exact evn_ret (ev_call (tfT (tt W.m W.n ts)) (eva_cons (ev_call (tt W.m W.n ts) (eva_cons (ev_call (W,ts) (eva_cons (ev_var rfl q0) (eva_cons (ev_var rfl q1) eva_nil)) ⟨h1,h2⟩) eva_nil) (by show (tt W.m W.n ts).length <= 10; omega)) eva_nil) (by show (tfT (tt W.m W.n ts)).length <= 1000; rw [tfT_len]; omega))
abbrev s_is_firm:Stmt:=top 59
theorem sc_is_firm:FnScope ["table"] ["table"] (defScope s_is_firm):=scm (by decide +kernel)
def sp_is_firm (C:Addr) :Sp:=spP (ι:=List Nat) (fun x=>[Ls NI x]) (fun x=>0 < x.length /\ x.length <= 10) (fun x=>B (fmT x))
theorem ok_is_firm {f C:Addr} {fd:FuncData} (X:Txt K C) (M:Mods mg)   (F:Fun K "is_firm" "is_firm" s_is_firm f fd):FnOk P w K mg base CX0 1 f fd ["table"] (sp_is_firm C ):=by
  have nd:=(sc_is_firm).nd
  refine pure_fn F sc_is_firm (fun _=>rfl) fun cdv B outer s H E hr=>⟨_,(pss_one (ps_ret (pe_cmpR op_eq (pe_callB (cr_minK (K:=K) rfl rfl) rfl M.b_min boot_min (pa1 (pv 0))) (pe_op op_sub (pe_op op_shl pe_int (pln K M.b_len (pv 0))) pe_int) (nomark _)))),?_⟩
  rintro tb vs G ⟨h1,h2⟩ p
  obtain ⟨v0,rfl,q0⟩:=all1 p
  clear p
  try dsimp only at *
  exact evn_ret (ev_eqN (ev_minL (ev_var rfl q0) h1) (ev_subN (ev_shlN (ev_len (ev_var rfl q0)) (by omega)) ev_int (Nat.one_le_two_pow)))
abbrev s_is_end:Stmt:=top 60
theorem sc_is_end:FnScope ["table","strip","other"] ["table","strip"] (defScope s_is_end):=scm (by decide +kernel)
def sp_is_end (C:Addr) :Sp:=spP (ι:=List Nat × Nat) (fun x=>[Ls NI x.1,NI x.2]) (fun x=>x.2 < x.1.length /\ x.1.length <= 10) (fun x=>B (iend x.1 x.2))
theorem ok_is_end {f C:Addr} {fd:FuncData} (X:Txt K C) (M:Mods mg)  (c_reached:Fn P w K mg base "reached" 2 ["table","strip"] (sp_reached C)) (F:Fun K "is_end" "is_end" s_is_end f fd):FnOk P w K mg base CX0 3 f fd ["table","strip"] (sp_is_end C ):=by
  have nd:=(sc_is_end).nd
  refine pure_fn F sc_is_end (fun _=>rfl) fun cdv B outer s H E hr=>⟨_,(pss_one (ps_ret (pe_callB (cr_allK (K:=K) rfl rfl) rfl M.b_all boot_all (pa1 (pe_lc rfl nd (pi_listK (K:=K) rfl (pe_fn c_reached hr (pa2 (pv 0) (pv 1)))) (blkOk_by (N:=["table","strip","other"]) (sc:=defScope s_is_end) (own:=[("other",2)]) (by decide +kernel)) (fun _ _ _ _ _=>pgn 2 nd) (fun _ _ _ _ _=>pts_nil) (fun _ _ _ _ _=>(pe_cmpR op_eq (ixl K (pv 0) (pv 2)) (ixl K (pv 0) (pv 1)) (nomark _)))))))),?_⟩
  rintro ⟨tb,a⟩ vs G ⟨h,h2⟩ p
  obtain ⟨v0,v1,rfl,q0,q1⟩:=all2 p
  clear p
  try dsimp only at *
  exact evn_ret (ev_all (ev_lcLm (P:=NI) (F:=L2.FF.B) (rch tb a) (fun o=>decide (tb.getD o 0 = tb.getD a 0)) (ev_call (tb,a) (eva_cons (ev_var rfl q0) (eva_cons (ev_var rfl q1) eva_nil)) ⟨h,h2⟩) (by have:=List.length_filter_le (fun k=>cm tb a k) (List.range tb.length); rw [List.length_range] at this; unfold rch; omega) fun x hx u G2 s2 px=>ev_eqN (ev_ixN (ev_var rfl (Stab.st s2 q0)) (ev_var rfl px) (List.mem_range.mp (List.mem_filter.mp hx).1)) (ev_ixN (ev_var rfl (Stab.st s2 q0)) (ev_var rfl (Stab.st s2 q1)) h)))
abbrev s_is_start:Stmt:=top 61
theorem sc_is_start:FnScope ["table","strip","other"] ["table","strip"] (defScope s_is_start):=scm (by decide +kernel)
def sp_is_start (C:Addr) :Sp:=spP (ι:=List Nat × Nat) (fun x=>[Ls NI x.1,NI x.2]) (fun x=>x.2 < x.1.length /\ x.1.length <= 10) (fun x=>B (ista x.1 x.2))
theorem ok_is_start {f C:Addr} {fd:FuncData} (X:Txt K C) (M:Mods mg)  (c_comes:Fn P w K mg base "comes" 1 ["table","source","target"] (sp_comes C)) (F:Fun K "is_start" "is_start" s_is_start f fd):FnOk P w K mg base CX0 2 f fd ["table","strip"] (sp_is_start C ):=by
  have nd:=(sc_is_start).nd
  refine pure_fn F sc_is_start (fun _=>rfl) fun cdv B outer s H E hr=>⟨_,(pss_one (ps_ret (pe_callB (cr_allK (K:=K) rfl rfl) rfl M.b_all boot_all (pa1 (pe_lc rfl nd (prg M.b_range (pln K M.b_len (pv 0))) (blkOk_by (N:=["table","strip","other"]) (sc:=defScope s_is_start) (own:=[("other",2)]) (by decide +kernel)) (fun _ _ _ _ _=>pgn 2 nd) (fun _ _ _ _ _=>(pts_one (pt_val (pe_fn c_comes hr (pa3 (pv 0) (pv 2) (pv 1)))))) (fun _ _ _ _ _=>(pe_cmpR op_eq (ixl K (pv 0) (pv 2)) (ixl K (pv 0) (pv 1)) (nomark _)))))))),?_⟩
  rintro ⟨tb,a⟩ vs G ⟨h,h2⟩ p
  obtain ⟨v0,v1,rfl,q0,q1⟩:=all2 p
  clear p
  try dsimp only at *
  exact evn_ret (ev_all (ev_lcR (F:=L2.FF.B) tb.length (fun o=>cm tb o a) (fun o=>decide (tb.getD o 0 = tb.getD a 0)) (ev_len (ev_var rfl q0)) (by omega) (fun x hx G2 s2=>evt_v (ev_call (tb,x,a) (eva_cons (ev_var rfl (Stab.st s2 q0)) (eva_cons (ev_var rfl rfl) (eva_cons (ev_var rfl (Stab.st s2 q1)) eva_nil))) hx)) fun x hx _ G2 s2=>ev_eqN (ev_ixN (ev_var rfl (Stab.st s2 q0)) (ev_var rfl rfl) hx) (ev_ixN (ev_var rfl (Stab.st s2 q0)) (ev_var rfl (Stab.st s2 q1)) h)))
abbrev s_part_leaders:Stmt:=top 62
theorem sc_part_leaders:FnScope ["table","firsts","strip"] ["table"] (defScope s_part_leaders):=scm (by decide +kernel)
def sp_part_leaders (C:Addr) :Sp:=spP (ι:=List Nat) (fun x=>[Ls NI x]) (fun x=>x.length <= 10) (fun x=>Ls NI (pled x))
theorem ok_part_leaders {f C:Addr} {fd:FuncData} (X:Txt K C) (M:Mods mg)  (c_table_firsts:Fn P w K mg base "table_firsts" 2 ["table"] (sp_table_firsts C)) (F:Fun K "part_leaders" "part_leaders" s_part_leaders f fd):FnOk P w K mg base CX0 3 f fd ["table"] (sp_part_leaders C ):=by
  have nd:=(sc_part_leaders).nd
  refine pure_fn F sc_part_leaders (fun _=>rfl) fun cdv B outer s H E hr=>⟨_,(pss_cons (psn 1 nd (pe_fn c_table_firsts hr (pa1 (pv 0)))) (pss_one (ps_ret (pe_lc rfl nd (prg M.b_range (pln K M.b_len (pv 0))) (blkOk_by (N:=["table","firsts","strip"]) (sc:=defScope s_part_leaders) (own:=[("strip",2)]) (by decide +kernel)) (fun _ _ _ _ _=>pgn 2 nd) (fun _ _ _ _ _=>(pts_one (pt_cmpR op_eq (ixl K (pv 1) (pv 2)) (pv 2) (nomark _)))) (fun _ _ _ _ _=>(pv 2)))))),?_⟩
  rintro tb vs G h2 p
  obtain ⟨v0,rfl,q0⟩:=all1 p
  clear p
  try dsimp only at *
  have hl:=tfT_len tb
  refine evn_set (P:=Ls NI (tfT tb)) (ev_call tb (eva_cons (ev_var rfl q0) eva_nil) h2) fun a G1 s1 p1=>?_
  exact evn_ret ((ev_lcR (F:=NI) tb.length (fun k=>decide ((tfT tb).getD k 0 = k)) id (ev_len (ev_var rfl (Stab.st s1 q0))) (by omega) (fun k hk G3 s3=>evt_b (ev_eqN (ev_ixN (ev_var rfl (Stab.st s3 p1)) (ev_var rfl rfl) (by omega)) (ev_var rfl rfl))) fun k hk _ G3 s3=>ev_var rfl rfl).imp fun H v h=>by rw [List.map_id] at h; exact h)
abbrev s_end_leaders:Stmt:=top 63
theorem sc_end_leaders:FnScope ["table","strip"] ["table"] (defScope s_end_leaders):=scm (by decide +kernel)
def sp_end_leaders (C:Addr) :Sp:=spP (ι:=List Nat) (fun x=>[Ls NI x]) (fun x=>x.length <= 10) (fun x=>Ls NI (eled x))
theorem ok_end_leaders {f C:Addr} {fd:FuncData} (X:Txt K C) (M:Mods mg)  (c_is_end:Fn P w K mg base "is_end" 3 ["table","strip"] (sp_is_end C)) (c_part_leaders:Fn P w K mg base "part_leaders" 3 ["table"] (sp_part_leaders C)) (F:Fun K "end_leaders" "end_leaders" s_end_leaders f fd):FnOk P w K mg base CX0 4 f fd ["table"] (sp_end_leaders C ):=by
  have nd:=(sc_end_leaders).nd
  refine pure_fn F sc_end_leaders (fun _=>rfl) fun cdv B outer s H E hr=>⟨_,(pss_one (ps_ret (pe_lc rfl nd (pi_listK (K:=K) rfl (pe_fn c_part_leaders hr (pa1 (pv 0)))) (blkOk_by (N:=["table","strip"]) (sc:=defScope s_end_leaders) (own:=[("strip",1)]) (by decide +kernel)) (fun _ _ _ _ _=>pgn 1 nd) (fun _ _ _ _ _=>(pts_one (pt_val (pe_fn c_is_end hr (pa2 (pv 0) (pv 1)))))) (fun _ _ _ _ _=>(pv 1))))),?_⟩
  rintro tb vs G h2 p
  obtain ⟨v0,rfl,q0⟩:=all1 p
  clear p
  try dsimp only at *
  refine evn_ret ((ev_lcL (P:=NI) (F:=NI) (pled tb) (fun k=>iend tb k) id (ev_call tb (eva_cons (ev_var rfl q0) eva_nil) h2) (by have:=pled_le tb; omega) (fun k hk u G3 s3 pk=>evt_v (ev_call (tb,k) (eva_cons (ev_var rfl (Stab.st s3 q0)) (eva_cons (ev_var rfl pk) eva_nil)) ⟨List.mem_range.mp (List.mem_filter.mp hk).1,h2⟩)) fun k hk _ u G3 s3 pk=>ev_var rfl pk).imp fun H v h=>by rw [List.map_id] at h; exact h)
abbrev s_start_leaders:Stmt:=top 64
theorem sc_start_leaders:FnScope ["table","strip"] ["table"] (defScope s_start_leaders):=scm (by decide +kernel)
def sp_start_leaders (C:Addr) :Sp:=spP (ι:=List Nat) (fun x=>[Ls NI x]) (fun x=>x.length <= 10) (fun x=>Ls NI (sled x))
theorem ok_start_leaders {f C:Addr} {fd:FuncData} (X:Txt K C) (M:Mods mg)  (c_is_start:Fn P w K mg base "is_start" 2 ["table","strip"] (sp_is_start C)) (c_part_leaders:Fn P w K mg base "part_leaders" 3 ["table"] (sp_part_leaders C)) (F:Fun K "start_leaders" "start_leaders" s_start_leaders f fd):FnOk P w K mg base CX0 4 f fd ["table"] (sp_start_leaders C ):=by
  have nd:=(sc_start_leaders).nd
  refine pure_fn F sc_start_leaders (fun _=>rfl) fun cdv B outer s H E hr=>⟨_,(pss_one (ps_ret (pe_lc rfl nd (pi_listK (K:=K) rfl (pe_fn c_part_leaders hr (pa1 (pv 0)))) (blkOk_by (N:=["table","strip"]) (sc:=defScope s_start_leaders) (own:=[("strip",1)]) (by decide +kernel)) (fun _ _ _ _ _=>pgn 1 nd) (fun _ _ _ _ _=>(pts_one (pt_val (pe_fn c_is_start hr (pa2 (pv 0) (pv 1)))))) (fun _ _ _ _ _=>(pv 1))))),?_⟩
  rintro tb vs G h2 p
  obtain ⟨v0,rfl,q0⟩:=all1 p
  clear p
  try dsimp only at *
  refine evn_ret ((ev_lcL (P:=NI) (F:=NI) (pled tb) (fun k=>ista tb k) id (ev_call tb (eva_cons (ev_var rfl q0) eva_nil) h2) (by have:=pled_le tb; omega) (fun k hk u G3 s3 pk=>evt_v (ev_call (tb,k) (eva_cons (ev_var rfl (Stab.st s3 q0)) (eva_cons (ev_var rfl pk) eva_nil)) ⟨List.mem_range.mp (List.mem_filter.mp hk).1,h2⟩)) fun k hk _ u G3 s3 pk=>ev_var rfl pk).imp fun H v h=>by rw [List.map_id] at h; exact h)
end
end L2.FF
end
section
namespace L2.FF
open PySem PySem.Spec PyProof.Rows
section
variable {P:Program} {w:World} {K:PySem.W.Frag} {mg:Str -> Option Value} {base:Heap}
theorem ls_sq2 {xs:List (Nat × Nat)} {H:Hp} {v:V} (h:Ls P2 xs H v):Ls (fun x=>Sq (e2 x)) xs H v:=by
  obtain ⟨a,vs,q,h1,h2⟩:=h
  exact ⟨a,vs,q,h1,Paired.imp' (F:=fun u x=>P2 x H u) (G:=fun u x=>Sq (e2 x) H u) (fun u x q=>.inl q) h2⟩
theorem two_sqs {m n:Nat} {t:Nat × Nat × Nat} (h:t ∈ two (sqs m n)):t.1 < m /\ t.2.1 < n /\ t.2.2 <= 1:=by
  obtain ⟨h1,h2⟩:=two_mem.mp h
  exact ⟨(sqs_mem h1).1,(sqs_mem h1).2,h2⟩
theorem ev_two {σ:St} {Hs:Hp} {C:Addr} {ta:TE} {E:XK} {xs:List (Nat × Nat)} (ha:Ev ta σ Hs (Ls (fun x=>Sq (e2 x)) xs)) (hz:xs.length <= 1000):Ev (tCall (sp_two_ties C) [] E (tCons ta tNil)) σ Hs (Fr (Ls P3 (two xs)) Hs):=ev_callF xs (eva_cons ha eva_nil) hz
theorem ev_two2 {σ:St} {Hs:Hp} {C:Addr} {ta:TE} {E:XK} {xs:List (Nat × Nat)} (ha:Ev ta σ Hs (Ls P2 xs)) (hz:xs.length <= 1000):Ev (tCall (sp_two_ties C) [] E (tCons ta tNil)) σ Hs (Ls P3 (two xs)):=(ev_two (ha.imp fun H v h=>ls_sq2 h) hz).imp fun H v h=>h.1
theorem ev_twosq {σ:St} {Hs:Hp} {C:Addr} {ta:TE} {E E':XK} {W:WD} (ha:Ev ta σ Hs (WA C W)) (h:sizeOk W):Ev (tCall (sp_two_ties C) [] E (tCons (tCall (sp_squares C) [] E' (tCons ta tNil)) tNil)) σ Hs (Ls P3 (two (sqs W.m W.n))):=by
  have q:Ev (tCall (sp_squares C) [] E' (tCons ta tNil)) σ Hs (Ls P2 (sqs W.m W.n)):=ev_call W (eva_cons ha eva_nil) ⟨h.2.1,h.2.2.2⟩
  exact ev_two2 q (by have:=h.sqs; omega)
theorem ev_wo3 {σ:St} {Hs:Hp} {C:Addr} {ta tb:TE} {E:XK} {bs:List (Nat × Nat × Nat)} {b:Nat × Nat × Nat} (ha:Ev ta σ Hs (Ls P3 bs)) (hb:Ev tb σ Hs (P3 b)) (hz:bs.length <= 1000):Ev (tCall (sp_without C) [] E (tCons ta (tCons tb tNil))) σ Hs (Ls P3 (wo3 bs b)):=by
  refine (ev_call (bs.map e3,e3 b) (eva_cons (ha.imp fun H v h=>ls_map h) (eva_cons hb eva_nil)) (by show (bs.map e3).length <= 1000; rw [List.length_map]; exact hz)).imp fun H v h=>?_
  have h':Ls Tp ((bs.map e3).filter fun y=>!decide (y = e3 b)) H v:=h
  rw [filter_e3] at h'
  exact map_ls h'
abbrev s_may_lean:Stmt:=top 65
theorem sc_may_lean:FnScope ["wall","table","tie"] ["wall","table","tie"] (defScope s_may_lean):=scm (by decide +kernel)
def sp_may_lean (C:Addr) :Sp:=spP (ι:=WD × List Nat × (Nat × Nat × Nat)) (fun x=>[WA C x.1,Ls NI x.2.1,Sq (e3 x.2.2)]) (fun x=>x.2.1.length = x.1.m + x.1.n /\ x.2.2.1 < x.1.m /\ x.2.2.2.1 < x.1.n) (fun x=>B (mlean x.1.m x.2.1 x.2.2))
theorem ok_may_lean {f C:Addr} {fd:FuncData} (X:Txt K C) (M:Mods mg)  (c_comes:Fn P w K mg base "comes" 1 ["table","source","target"] (sp_comes C)) (c_from_strip:Fn P w K mg base "from_strip" 2 ["wall","tie"] (sp_from_strip C)) (c_to_strip:Fn P w K mg base "to_strip" 2 ["wall","tie"] (sp_to_strip C)) (F:Fun K "may_lean" "may_lean" s_may_lean f fd):FnOk P w K mg base CX0 3 f fd ["wall","table","tie"] (sp_may_lean C ):=by
  have nd:=(sc_may_lean).nd
  refine pure_fn F sc_may_lean (fun _=>rfl) fun cdv B outer s H E hr=>⟨_,(pss_one (ps_ret (pe_not (pe_fn c_comes hr (pa3 (pv 1) (pe_fn c_from_strip hr (pa2 (pv 0) (pv 2))) (pe_fn c_to_strip hr (pa2 (pv 0) (pv 2)))))))),?_⟩
  rintro ⟨W,tb,t⟩ vs G ⟨h1,h3,h4⟩ p
  obtain ⟨v0,v1,v2,rfl,q0,q1,q2⟩:=all3 p
  clear p
  try dsimp only at *
  exact evn_ret (ev_notV (ev_call (tb,tsrc W.m t,ttgt W.m t) (eva_cons (ev_var rfl q1) (eva_cons (ev_call (W,t) (eva_cons (ev_var rfl q0) (eva_cons (ev_var rfl q2) eva_nil)) trivial) (eva_cons (ev_call (W,t) (eva_cons (ev_var rfl q0) (eva_cons (ev_var rfl q2) eva_nil)) trivial) eva_nil))) (by show tsrc W.m t < tb.length; unfold tsrc; split <;> omega)))
abbrev s_all_leans:Stmt:=top 66
theorem sc_all_leans:FnScope ["wall","table","tie"] ["wall","table"] (defScope s_all_leans):=scm (by decide +kernel)
def sp_all_leans (C:Addr) :Sp:=spP (ι:=WD × List Nat) (fun x=>[WA C x.1,Ls NI x.2]) (fun x=>sizeOk x.1 /\ x.2.length = x.1.m + x.1.n) (fun x=>Ls NI (alean x.1.m x.1.n x.2))
theorem ok_all_leans {f C:Addr} {fd:FuncData} (X:Txt K C) (M:Mods mg)  (c_two_ties:Fn P w K mg base "two_ties" 1 ["places"] (sp_two_ties C)) (c_squares:Fn P w K mg base "squares" 1 ["wall"] (sp_squares C)) (c_may_lean:Fn P w K mg base "may_lean" 3 ["wall","table","tie"] (sp_may_lean C)) (F:Fun K "all_leans" "all_leans" s_all_leans f fd):FnOk P w K mg base CX0 4 f fd ["wall","table"] (sp_all_leans C ):=by
  have nd:=(sc_all_leans).nd
  refine pure_fn F sc_all_leans (fun _=>rfl) fun cdv B outer s H E hr=>⟨_,(pss_one (ps_ret (pe_lc rfl nd (pi_listK (K:=K) rfl (pe_fn c_two_ties hr (pa1 (pe_fn c_squares hr (pa1 (pv 0)))))) (blkOk_by (N:=["wall","table","tie"]) (sc:=defScope s_all_leans) (own:=[("tie",2)]) (by decide +kernel)) (fun _ _ _ _ _=>pgn 2 nd) (fun _ _ _ _ _=>pts_nil) (fun _ _ _ _ _=>(pe_ifExp (pt_val (pe_fn c_may_lean hr (pa3 (pv 0) (pv 1) (pv 2)))) pe_int pe_int))))),?_⟩
  rintro ⟨W,tb⟩ vs G ⟨h1,h2⟩ p
  obtain ⟨v0,v1,rfl,q0,q1⟩:=all2 p
  clear p
  try dsimp only at *
  refine evn_ret (ev_lcLm (P:=P3) (F:=NI) (two (sqs W.m W.n)) (fun t=>if mlean W.m tb t then 1 else 0) (ev_twosq (ev_var rfl q0) h1) (by rw [two_len]; have:=h1.sqs; omega) fun t ht u G5 s5 px=>?_)
  have hx:=two_sqs ht
  exact (ev_bit (evt_v (ev_call (W,tb,t) (eva_cons (ev_var rfl (Stab.st s5 q0)) (eva_cons (ev_var rfl (Stab.st s5 q1)) (eva_cons ((ev_var (P:=P3 t) rfl px).imp fun H v h=>.inl h) eva_nil))) ⟨h2,hx.1,hx.2.1⟩))).int_eq (by cases mlean W.m tb t <;> rfl)
abbrev s_lean_count:Stmt:=top 67
theorem sc_lean_count:FnScope ["wall","ties"] ["wall","ties"] (defScope s_lean_count):=scm (by decide +kernel)
def sp_lean_count (C:Addr) :Sp:=spP (ι:=WD × List (Nat × Nat × Nat)) (fun x=>[WA C x.1,Ls P3 x.2]) (fun x=>sizeOk x.1 /\ inT x.1 x.2) (fun x=>NI (lcnt x.1.m x.1.n x.2))
theorem ok_lean_count {f C:Addr} {fd:FuncData} (X:Txt K C) (M:Mods mg)  (c_all_leans:Fn P w K mg base "all_leans" 4 ["wall","table"] (sp_all_leans C)) (c_tie_table:Fn P w K mg base "tie_table" 4 ["wall","ties"] (sp_tie_table C)) (F:Fun K "lean_count" "lean_count" s_lean_count f fd):FnOk P w K mg base CX0 5 f fd ["wall","ties"] (sp_lean_count C ):=by
  have nd:=(sc_lean_count).nd
  refine pure_fn F sc_lean_count (fun _=>rfl) fun cdv B outer s H E hr=>⟨_,(pss_one (ps_ret (pe_callB (cr_sumK (K:=K) rfl rfl) rfl M.b_sum boot_sum (pa1 (pe_fn c_all_leans hr (pa2 (pv 0) (pe_fn c_tie_table hr (pa2 (pv 0) (pv 1))))))))),?_⟩
  rintro ⟨W,ts⟩ vs G ⟨h1,h2⟩ p
  obtain ⟨v0,v1,rfl,q0,q1⟩:=all2 p
  clear p
  try dsimp only at *
  exact evn_ret (ev_sumN (ev_call (W,tt W.m W.n ts) (eva_cons (ev_var rfl q0) (eva_cons (ev_call (W,ts) (eva_cons (ev_var rfl q0) (eva_cons (ev_var rfl q1) eva_nil)) ⟨h1,h2⟩) eva_nil)) ⟨h1,tt_len _ _ _⟩))
abbrev s_is_spare_tie:Stmt:=top 68
theorem sc_is_spare_tie:FnScope ["wall","tie"] ["wall","tie"] (defScope s_is_spare_tie):=scm (by decide +kernel)
def sp_is_spare_tie (C:Addr) :Sp:=spP (ι:=WD × (Nat × Nat × Nat)) (fun x=>[WA C x.1,P3 x.2]) (fun x=>okW x.1 /\ x.2.1 < x.1.m /\ x.2.2.1 < x.1.n) (fun x=>B (!mlean x.1.m (tt x.1.m x.1.n (wo3 x.1.ties x.2)) x.2))
theorem ok_is_spare_tie {f C:Addr} {fd:FuncData} (X:Txt K C) (M:Mods mg)  (c_may_lean:Fn P w K mg base "may_lean" 3 ["wall","table","tie"] (sp_may_lean C)) (c_tie_table:Fn P w K mg base "tie_table" 4 ["wall","ties"] (sp_tie_table C)) (c_without:Fn P w K mg base "without" 1 ["places","place"] (sp_without C)) (F:Fun K "is_spare_tie" "is_spare_tie" s_is_spare_tie f fd):FnOk P w K mg base CX0 5 f fd ["wall","tie"] (sp_is_spare_tie C ):=by
  have nd:=(sc_is_spare_tie).nd
  refine pure_fn F sc_is_spare_tie (fun _=>rfl) fun cdv B outer s H E hr=>⟨_,(pss_one (ps_ret (pe_not (pe_fn c_may_lean hr (pa3 (pv 0) (pe_fn c_tie_table hr (pa2 (pv 0) (pe_fn c_without hr (pa2 (pfl K (pv 0)) (pv 1))))) (pv 1)))))),?_⟩
  rintro ⟨W,t⟩ vs G ⟨ok,h1,h2⟩ p
  obtain ⟨v0,v1,rfl,q0,q1⟩:=all2 p
  clear p
  try dsimp only at *
  exact evn_ret (ev_notV (ev_call (W,tt W.m W.n (wo3 W.ties t),t) (eva_cons (ev_var rfl q0) (eva_cons (ev_call (W,wo3 W.ties t) (eva_cons (ev_var rfl q0) (eva_cons (ev_wo3 (ev_ties X (ev_var rfl q0)) (ev_var rfl q1) (by have:=ok.2.2.1; omega)) eva_nil)) ⟨ok.1,ok.2.2.wo3⟩) (eva_cons ((ev_var rfl q1).imp fun H v h=>.inl h) eva_nil))) ⟨tt_len _ _ _,h1,h2⟩))
abbrev s_might_do:Stmt:=top 69
theorem sc_might_do:FnScope ["table","more"] ["table","more"] (defScope s_might_do):=scm (by decide +kernel)
def sp_might_do (C:Addr) :Sp:=spP (ι:=List Nat × Nat) (fun x=>[Ls NI x.1,NI x.2]) (fun x=>x.1.length <= 10) (fun x=>B (mdo x.1 x.2))
theorem ok_might_do {f C:Addr} {fd:FuncData} (X:Txt K C) (M:Mods mg)  (c_start_leaders:Fn P w K mg base "start_leaders" 4 ["table"] (sp_start_leaders C)) (c_end_leaders:Fn P w K mg base "end_leaders" 4 ["table"] (sp_end_leaders C)) (F:Fun K "might_do" "might_do" s_might_do f fd):FnOk P w K mg base CX0 5 f fd ["table","more"] (sp_might_do C ):=by
  have nd:=(sc_might_do).nd
  refine pure_fn F sc_might_do (fun _=>rfl) fun cdv B outer s H E hr=>⟨_,(pss_one (ps_ret (pe_and (pe_cmpR op_le (pln K M.b_len (pe_fn c_end_leaders hr (pa1 (pv 0)))) (pv 1) (nomark _)) (pe_one (pe_cmpR op_le (pln K M.b_len (pe_fn c_start_leaders hr (pa1 (pv 0)))) (pv 1) (nomark _)))))),?_⟩
  rintro ⟨tb,k⟩ vs G h2 p
  obtain ⟨v0,v1,rfl,q0,q1⟩:=all2 p
  clear p
  try dsimp only at *
  exact evn_ret (ev_andV (ev_leN (ev_len (ev_call (F:=fun x=>Ls NI (eled x)) tb (eva_cons (ev_var rfl q0) eva_nil) h2)) (ev_var rfl q1)) fun _=>ev_leN (ev_len (ev_call (F:=fun x=>Ls NI (sled x)) tb (eva_cons (ev_var rfl q0) eva_nil) h2)) (ev_var rfl q1))
section
variable {σ:St} {Hs:Hp} {C:Addr} {ta tb:TE} {E:XK} {W:WD} {ts:List (Nat × Nat × Nat)}
theorem ev_tp (ha:Ev ta σ Hs (WA C W)) (hb:Ev tb σ Hs (Ls P3 ts)) (h1:sizeOk W) (h2:inT W ts):Ev (tCall (sp_tie_parts C) [] E (tCons ta (tCons tb tNil))) σ Hs (NI (tp W.m W.n ts)):=ev_call (W,ts) (eva_cons ha (eva_cons hb eva_nil)) ⟨h1,h2⟩
theorem ev_lc (ha:Ev ta σ Hs (WA C W)) (hb:Ev tb σ Hs (Ls P3 ts)) (h1:sizeOk W) (h2:inT W ts):Ev (tCall (sp_lean_count C) [] E (tCons ta (tCons tb tNil))) σ Hs (NI (lcnt W.m W.n ts)):=ev_call (W,ts) (eva_cons ha (eva_cons hb eva_nil)) ⟨h1,h2⟩
theorem ev_bent {l:List Nat} (ha:Ev ta σ Hs (WA C W)) (hb:Ev tb σ Hs (Ls NI l)) (h1:sizeOk W) (h2:l.length = W.m + W.n):Ev (tCall (sp_bent_squares C) [] E (tCons ta (tCons tb tNil))) σ Hs (Ls P2 (bentM W l)):=ev_call (W,l) (eva_cons ha (eva_cons hb eva_nil)) ⟨h1.2.1,h1.2.2.2,h2⟩
end
end
end L2.FF
end
section
namespace L2.FF
open PySem PySem.Spec PyProof.Rows
section
variable {P:Program} {w:World} {K:PySem.W.Frag} {mg:Str -> Option Value} {base:Heap}
abbrev s_call_tfirm:Stmt:=top 73
theorem sc_call_tfirm:FnScope ["wall","handed","parts"] ["wall","handed"] (defScope s_call_tfirm):=scm (by decide +kernel)
def sp_call_tfirm (C:Addr) :Sp:=spP (ι:=WD) (fun x=>[WA C x,Ls NI []]) (fun x=>okW x) (fun x=>Ls I (r_tfirm x))
theorem ok_call_tfirm {f C:Addr} {fd:FuncData} (X:Txt K C) (M:Mods mg)  (c_tie_parts:Fn P w K mg base "tie_parts" 5 ["wall","ties"] (sp_tie_parts C)) (F:Fun K "call_tfirm" "call_tfirm" s_call_tfirm f fd):FnOk P w K mg base CX0 6 f fd ["wall","handed"] (sp_call_tfirm C ):=by
  have nd:=(sc_call_tfirm).nd
  refine pure_fn F sc_call_tfirm (fun _=>rfl) fun cdv B outer s H E hr=>⟨_,(pss_cons (psn 2 nd (pe_fn c_tie_parts hr (pa2 (pv 0) (pfl K (pv 0))))) (pss_one (ps_ret (pe_lst (pa2 (pe_ifExp (pt_cmpR op_eq (pv 2) pe_int (nomark _)) pe_int pe_int) (pv 2)))))),?_⟩
  rintro W vs G ok p
  obtain ⟨v0,v1,rfl,q0,q1⟩:=all2 p
  refine evn_set (P:=NI (tp W.m W.n W.ties)) (ev_call (W,W.ties) (eva_cons (ev_var rfl q0) (eva_cons (ev_ties X (ev_var rfl q0)) eva_nil)) ⟨ok.1,ok.2.2⟩) fun a G1 s1 p1=>evn_ret (ev_lst I (r_tfirm W) (eva_cons (ev_bit (evt_b (ev_eqN (b:=1) (ev_var rfl p1) ev_int))) (eva_cons (ev_var rfl p1) eva_nil)) (by show 2 <= 1000; decide))
abbrev s_call_reach:Stmt:=top 74
theorem sc_call_reach:FnScope ["wall","handed"] ["wall","handed"] (defScope s_call_reach):=scm (by decide +kernel)
def sp_call_reach (C:Addr) :Sp:=spP (ι:=WD × Nat) (fun x=>[WA C x.1,Ls NI [x.2]]) (fun x=>okW x.1 /\ x.2 < x.1.m + x.1.n) (fun x=>Ls I (cnt (rch x.1.tb x.2)))
theorem ok_call_reach {f C:Addr} {fd:FuncData} (X:Txt K C) (M:Mods mg)  (c_counted:Fn P w K mg base "counted" 1 ["numbers"] (sp_counted C)) (c_reached:Fn P w K mg base "reached" 2 ["table","strip"] (sp_reached C)) (c_tie_table:Fn P w K mg base "tie_table" 4 ["wall","ties"] (sp_tie_table C)) (F:Fun K "call_reach" "call_reach" s_call_reach f fd):FnOk P w K mg base CX0 5 f fd ["wall","handed"] (sp_call_reach C ):=by
  have nd:=(sc_call_reach).nd
  refine pure_fn F sc_call_reach (fun _=>rfl) fun cdv B outer s H E hr=>⟨_,(pss_one (ps_ret (pe_fn c_counted hr (pa1 (pe_fn c_reached hr (pa2 (pe_fn c_tie_table hr (pa2 (pv 0) (pfl K (pv 0)))) (ixl K (pv 1) pe_int))))))),?_⟩
  rintro ⟨W,s⟩ vs G ⟨ok,hs⟩ p
  obtain ⟨v0,v1,rfl,q0,q1⟩:=all2 p
  clear p
  dsimp only at *
  have h3:2 <= W.m + W.n /\ W.m + W.n <= 10:=ok.1.sum
  have hl:W.tb.length = W.m + W.n:=tt_len _ _ _
  exact evn_ret (ev_counted (ev_call (W.tb,s) (eva_cons (ev_call (W,W.ties) (eva_cons (ev_var rfl q0) (eva_cons (ev_ties X (ev_var rfl q0)) eva_nil)) ⟨ok.1,ok.2.2⟩) (eva_cons (ev_ixN (n:=0) (ev_var rfl q1) ev_int (by show 0 < 1; decide)) eva_nil)) ⟨by first | omega | (dsimp only; omega),by first | omega | (dsimp only; omega)⟩) (Nat.le_trans (List.length_filter_le _ _) (by rw [List.length_range]; omega)))
abbrev s_call_tpart:Stmt:=top 75
theorem sc_call_tpart:FnScope ["wall","handed"] ["wall","handed"] (defScope s_call_tpart):=scm (by decide +kernel)
def sp_call_tpart (C:Addr) :Sp:=spP (ι:=WD × Nat) (fun x=>[WA C x.1,Ls NI [x.2]]) (fun x=>okW x.1 /\ x.2 < x.1.m + x.1.n) (fun x=>Ls I (cnt (tog x.1.tb x.2)))
theorem ok_call_tpart {f C:Addr} {fd:FuncData} (X:Txt K C) (M:Mods mg)  (c_counted:Fn P w K mg base "counted" 1 ["numbers"] (sp_counted C)) (c_together:Fn P w K mg base "together" 1 ["table","strip"] (sp_together C)) (c_tie_table:Fn P w K mg base "tie_table" 4 ["wall","ties"] (sp_tie_table C)) (F:Fun K "call_tpart" "call_tpart" s_call_tpart f fd):FnOk P w K mg base CX0 5 f fd ["wall","handed"] (sp_call_tpart C ):=by
  have nd:=(sc_call_tpart).nd
  refine pure_fn F sc_call_tpart (fun _=>rfl) fun cdv B outer s H E hr=>⟨_,(pss_one (ps_ret (pe_fn c_counted hr (pa1 (pe_fn c_together hr (pa2 (pe_fn c_tie_table hr (pa2 (pv 0) (pfl K (pv 0)))) (ixl K (pv 1) pe_int))))))),?_⟩
  rintro ⟨W,s⟩ vs G ⟨ok,hs⟩ p
  obtain ⟨v0,v1,rfl,q0,q1⟩:=all2 p
  clear p
  dsimp only at *
  have h3:2 <= W.m + W.n /\ W.m + W.n <= 10:=ok.1.sum
  have hl:W.tb.length = W.m + W.n:=tt_len _ _ _
  exact evn_ret (ev_counted (ev_call (W.tb,s) (eva_cons (ev_call (W,W.ties) (eva_cons (ev_var rfl q0) (eva_cons (ev_ties X (ev_var rfl q0)) eva_nil)) ⟨ok.1,ok.2.2⟩) (eva_cons (ev_ixN (n:=0) (ev_var rfl q1) ev_int (by show 0 < 1; decide)) eva_nil)) ⟨by first | omega | (dsimp only; omega),by first | omega | (dsimp only; omega)⟩) (Nat.le_trans (List.length_filter_le _ _) (by rw [List.length_range]; omega)))
abbrev s_call_tparts:Stmt:=top 76
theorem sc_call_tparts:FnScope ["wall","handed"] ["wall","handed"] (defScope s_call_tparts):=scm (by decide +kernel)
def sp_call_tparts (C:Addr) :Sp:=spP (ι:=WD) (fun x=>[WA C x,Ls NI []]) (fun x=>okW x) (fun x=>Ls I (cnt (tfT x.tb)))
theorem ok_call_tparts {f C:Addr} {fd:FuncData} (X:Txt K C) (M:Mods mg)  (c_counted:Fn P w K mg base "counted" 1 ["numbers"] (sp_counted C)) (c_table_firsts:Fn P w K mg base "table_firsts" 2 ["table"] (sp_table_firsts C)) (c_tie_table:Fn P w K mg base "tie_table" 4 ["wall","ties"] (sp_tie_table C)) (F:Fun K "call_tparts" "call_tparts" s_call_tparts f fd):FnOk P w K mg base CX0 5 f fd ["wall","handed"] (sp_call_tparts C ):=by
  have nd:=(sc_call_tparts).nd
  refine pure_fn F sc_call_tparts (fun _=>rfl) fun cdv B outer s H E hr=>⟨_,(pss_one (ps_ret (pe_fn c_counted hr (pa1 (pe_fn c_table_firsts hr (pa1 (pe_fn c_tie_table hr (pa2 (pv 0) (pfl K (pv 0)))))))))),?_⟩
  rintro W vs G ok p
  obtain ⟨v0,v1,rfl,q0,q1⟩:=all2 p
  have h3:2 <= W.m + W.n /\ W.m + W.n <= 10:=ok.1.sum
  have hl:W.tb.length = W.m + W.n:=tt_len _ _ _
  exact evn_ret (ev_counted (ev_call W.tb (eva_cons (ev_call (W,W.ties) (eva_cons (ev_var rfl q0) (eva_cons (ev_ties X (ev_var rfl q0)) eva_nil)) ⟨ok.1,ok.2.2⟩) eva_nil) (by first | omega | (dsimp only; omega))) (by rw [tfT_len]; omega))
abbrev s_call_ends:Stmt:=top 77
theorem sc_call_ends:FnScope ["wall","handed","table","ends","starts"] ["wall","handed"] (defScope s_call_ends):=scm (by decide +kernel)
def sp_call_ends (C:Addr) :Sp:=spP (ι:=WD) (fun x=>[WA C x,Ls NI []]) (fun x=>okW x) (fun x=>Ls I (r_ends x))
theorem ok_call_ends {f C:Addr} {fd:FuncData} (X:Txt K C) (M:Mods mg)  (c_tie_table:Fn P w K mg base "tie_table" 4 ["wall","ties"] (sp_tie_table C)) (c_end_leaders:Fn P w K mg base "end_leaders" 4 ["table"] (sp_end_leaders C)) (c_start_leaders:Fn P w K mg base "start_leaders" 4 ["table"] (sp_start_leaders C)) (F:Fun K "call_ends" "call_ends" s_call_ends f fd):FnOk P w K mg base CX0 5 f fd ["wall","handed"] (sp_call_ends C ):=by
  have nd:=(sc_call_ends).nd
  refine pure_fn F sc_call_ends (fun _=>rfl) fun cdv B outer s H E hr=>⟨_,(pss_cons (psn 2 nd (pe_fn c_tie_table hr (pa2 (pv 0) (pfl K (pv 0))))) (pss_cons (psn 3 nd (pe_fn c_end_leaders hr (pa1 (pv 2)))) (pss_cons (psn 4 nd (pe_fn c_start_leaders hr (pa1 (pv 2)))) (pss_one (ps_ret (pe_op op_cat (pe_op op_cat (pe_lst (pa2 (pln K M.b_len (pv 3)) (pln K M.b_len (pv 4)))) (pv 3)) (pv 4))))))),?_⟩
  rintro W vs G ok p
  obtain ⟨v0,v1,rfl,q0,q1⟩:=all2 p
  have h3:2 <= W.m + W.n /\ W.m + W.n <= 10:=ok.1.sum
  have hl:W.tb.length = W.m + W.n:=tt_len _ _ _
  refine evn_set (P:=Ls NI W.tb) (ev_call (W,W.ties) (eva_cons (ev_var rfl q0) (eva_cons (ev_ties X (ev_var rfl q0)) eva_nil)) ⟨ok.1,ok.2.2⟩) fun a G1 s1 p1=>?_
  refine evn_set (P:=Ls NI (eled W.tb)) (ev_call W.tb (eva_cons (ev_var rfl p1) eva_nil) (by first | omega | (dsimp only; omega))) fun b G2 s2 p2=>?_
  refine evn_set (P:=Ls NI (sled W.tb)) (ev_call W.tb (eva_cons (ev_var rfl (Stab.st s2 p1)) eva_nil) (by first | omega | (dsimp only; omega))) fun c G3 s3 p3=>?_
  have z1:(eled W.tb).length <= 10:=Nat.le_trans (List.length_filter_le _ _) (by have:=pled_le W.tb; omega)
  have z2:(sled W.tb).length <= 10:=Nat.le_trans (List.length_filter_le _ _) (by have:=pled_le W.tb; omega)
  exact evn_ret (ev_cat (ev_cat (ev_lst I [((eled W.tb).length:Int),((sled W.tb).length:Int)] (eva_cons (ev_len (ev_var rfl (Stab.st s3 p2))) (eva_cons (ev_len (ev_var rfl p3)) eva_nil)) (by show 2 <= 1000; decide)) ((ev_var rfl (Stab.st s3 p2)).imp fun H v h=>ls_nat h) (by simp [ci]; omega)) ((ev_var rfl p3).imp fun H v h=>ls_nat h) (by simp [ci]; omega))
abbrev s_call_leans:Stmt:=top 78
theorem sc_call_leans:FnScope ["wall","handed"] ["wall","handed"] (defScope s_call_leans):=scm (by decide +kernel)
def sp_call_leans (C:Addr) :Sp:=spP (ι:=WD × (Nat × Nat × Nat)) (fun x=>[WA C x.1,Ls NI [x.2.1,x.2.2.1,x.2.2.2]]) (fun x=>okW x.1 /\ x.2.1 < x.1.m /\ x.2.2.1 < x.1.n) (fun x=>Ls I ([bi (mlean x.1.m x.1.tb x.2)]))
theorem ok_call_leans {f C:Addr} {fd:FuncData} (X:Txt K C) (M:Mods mg)  (c_may_lean:Fn P w K mg base "may_lean" 3 ["wall","table","tie"] (sp_may_lean C)) (c_tie_table:Fn P w K mg base "tie_table" 4 ["wall","ties"] (sp_tie_table C)) (F:Fun K "call_leans" "call_leans" s_call_leans f fd):FnOk P w K mg base CX0 5 f fd ["wall","handed"] (sp_call_leans C ):=by
  have nd:=(sc_call_leans).nd
  refine pure_fn F sc_call_leans (fun _=>rfl) fun cdv B outer s H E hr=>⟨_,(pss_one (ps_ret (pe_lst (pa1 (pe_ifExp (pt_val (pe_fn c_may_lean hr (pa3 (pv 0) (pe_fn c_tie_table hr (pa2 (pv 0) (pfl K (pv 0)))) (pv 1)))) pe_int pe_int))))),?_⟩
  rintro ⟨W,t⟩ vs G ⟨ok,h1,h2⟩ p
  obtain ⟨v0,v1,rfl,q0,q1⟩:=all2 p
  clear p
  dsimp only at *
  exact evn_ret (ev_lst I [bi (mlean W.m W.tb t)] (eva_cons (ev_bit (evt_v (ev_call (W,W.tb,t) (eva_cons (ev_var rfl q0) (eva_cons (ev_call (W,W.ties) (eva_cons (ev_var rfl q0) (eva_cons (ev_ties X (ev_var rfl q0)) eva_nil)) ⟨ok.1,ok.2.2⟩) (eva_cons ((ev_var rfl q1).imp fun H v h=>.inr (ls_nat h)) eva_nil))) ⟨tt_len _ _ _,h1,h2⟩))) eva_nil) (by show 1 <= 1000; decide))
abbrev s_call_tall:Stmt:=top 79
theorem sc_call_tall:FnScope ["wall","handed","leaning"] ["wall","handed"] (defScope s_call_tall):=scm (by decide +kernel)
def sp_call_tall (C:Addr) :Sp:=spP (ι:=WD) (fun x=>[WA C x,Ls NI []]) (fun x=>okW x) (fun x=>Ls I (r_tall x))
theorem ok_call_tall {f C:Addr} {fd:FuncData} (X:Txt K C) (M:Mods mg)  (c_all_leans:Fn P w K mg base "all_leans" 4 ["wall","table"] (sp_all_leans C)) (c_tie_table:Fn P w K mg base "tie_table" 4 ["wall","ties"] (sp_tie_table C)) (F:Fun K "call_tall" "call_tall" s_call_tall f fd):FnOk P w K mg base CX0 5 f fd ["wall","handed"] (sp_call_tall C ):=by
  have nd:=(sc_call_tall).nd
  refine pure_fn F sc_call_tall (fun _=>rfl) fun cdv B outer s H E hr=>⟨_,(pss_cons (psn 2 nd (pe_fn c_all_leans hr (pa2 (pv 0) (pe_fn c_tie_table hr (pa2 (pv 0) (pfl K (pv 0))))))) (pss_one (ps_ret (pe_op op_cat (pe_lst (pa1 (pe_callB (cr_sumK (K:=K) rfl rfl) rfl M.b_sum boot_sum (pa1 (pv 2))))) (pv 2))))),?_⟩
  rintro W vs G ok p
  obtain ⟨v0,v1,rfl,q0,q1⟩:=all2 p
  refine evn_set (P:=Ls NI (alean W.m W.n W.tb)) (ev_call (W,W.tb) (eva_cons (ev_var rfl q0) (eva_cons (ev_call (W,W.ties) (eva_cons (ev_var rfl q0) (eva_cons (ev_ties X (ev_var rfl q0)) eva_nil)) ⟨ok.1,ok.2.2⟩) eva_nil)) ⟨ok.1,tt_len _ _ _⟩) fun a G1 s1 p1=>?_
  exact evn_ret (ev_cat (ev_lst I [((alean W.m W.n W.tb).sum:Int)] (eva_cons (ev_sumN (ev_var rfl p1)) eva_nil) (by show 1 <= 1000; decide)) ((ev_var rfl p1).imp fun H v h=>ls_nat h) (by have:=ok.1.sqs; simp [ci,alean,two_len]; omega))
abbrev s_call_lean:Stmt:=top 80
theorem sc_call_lean:FnScope ["wall","handed","table","further","strip"] ["wall","handed"] (defScope s_call_lean):=scm (by decide +kernel)
def sp_call_lean (C:Addr) :Sp:=spP (ι:=WD × (Nat × Nat × Nat)) (fun x=>[WA C x.1,Ls NI [x.2.1,x.2.2.1,x.2.2.2]]) (fun x=>okW x.1 /\ x.2.1 < x.1.m /\ x.2.2.1 < x.1.n) (fun x=>Ls I (r_lean x.1 x.2))
theorem ok_call_lean {f C:Addr} {fd:FuncData} (X:Txt K C) (M:Mods mg)  (c_tie_table:Fn P w K mg base "tie_table" 4 ["wall","ties"] (sp_tie_table C)) (c_may_lean:Fn P w K mg base "may_lean" 3 ["wall","table","tie"] (sp_may_lean C)) (c_from_strip:Fn P w K mg base "from_strip" 2 ["wall","tie"] (sp_from_strip C)) (c_counted:Fn P w K mg base "counted" 1 ["numbers"] (sp_counted C)) (c_comes:Fn P w K mg base "comes" 1 ["table","source","target"] (sp_comes C)) (F:Fun K "call_lean" "call_lean" s_call_lean f fd):FnOk P w K mg base CX0 5 f fd ["wall","handed"] (sp_call_lean C ):=by
  have nd:=(sc_call_lean).nd
  refine pure_fn F sc_call_lean (fun _=>rfl) fun cdv B outer s H E hr=>⟨_,(pss_cons (psn 2 nd (pe_fn c_tie_table hr (pa2 (pv 0) (pfl K (pv 0))))) (pss_cons (ps_if (pt_not (pt_val (pe_fn c_may_lean hr (pa3 (pv 0) (pv 2) (pv 1))))) (pss_one (ps_ret (pe_lst (pa1 (pe_glI rfl M.c_NOT_SO))))) pss_nil) (pss_cons (psn 3 nd (pe_fn c_from_strip hr (pa2 (pv 0) (pv 1)))) (pss_one (ps_ret (pe_fn c_counted hr (pa1 (pe_lc rfl nd (prg M.b_range (pln K M.b_len (pv 2))) (blkOk_by (N:=["wall","handed","table","further","strip"]) (sc:=defScope s_call_lean) (own:=[("strip",4)]) (by decide +kernel)) (fun _ _ _ _ _=>pgn 4 nd) (fun _ _ _ _ _=>pts_nil) (fun _ _ _ _ _=>(pe_ifExp (pt_val (pe_fn c_comes hr (pa3 (pv 2) (pv 3) (pv 4)))) pe_int pe_int)))))))))),?_⟩
  rintro ⟨W,t⟩ vs G ⟨ok,h1,h2⟩ p
  obtain ⟨v0,v1,rfl,q0,q1⟩:=all2 p
  clear p
  dsimp only at *
  have h3:2 <= W.m + W.n /\ W.m + W.n <= 10:=ok.1.sum
  have hl:W.tb.length = W.m + W.n:=tt_len _ _ _
  have hs:tsrc W.m t < W.tb.length:=by unfold tsrc; split <;> omega
  refine evn_set (P:=Ls NI W.tb) (ev_call (W,W.ties) (eva_cons (ev_var rfl q0) (eva_cons (ev_ties X (ev_var rfl q0)) eva_nil)) ⟨ok.1,ok.2.2⟩) fun a G1 s1 p1=>?_
  refine evn_ifret (evt_not (evt_v (ev_call (W,W.tb,t) (eva_cons (ev_var rfl (Stab.st s1 q0)) (eva_cons (ev_var rfl p1) (eva_cons ((ev_var rfl (Stab.st s1 q1)).imp fun H v h=>.inr (ls_nat h)) eva_nil))) ⟨hl,h1,h2⟩))) (fun e=>?_) fun e=>?_
  · unfold r_lean
    rw [if_neg (by simpa using e)]
    exact evn_ret (ev_lst I [-33] (eva_cons ev_int eva_nil))
  · unfold r_lean
    rw [if_pos (by simpa using e)]
    refine evn_set (P:=NI (tsrc W.m t)) (ev_call (W,t) (eva_cons (ev_var rfl (Stab.st s1 q0)) (eva_cons ((ev_var rfl (Stab.st s1 q1)).imp fun H v h=>.inr (ls_nat h)) eva_nil)) trivial) fun b G2 s2 p2=>?_
    exact evn_ret (ev_counted (ev_lcRm (F:=NI) W.tb.length (fun s=>if cm W.tb (tsrc W.m t) s then 1 else 0) (ev_len (ev_var rfl (Stab.st s2 p1))) (by omega) fun x hx G3 s3=>(ev_bit (evt_v (ev_call (W.tb,tsrc W.m t,x) (eva_cons (ev_var rfl (Stab.st (s2.trans s3) p1)) (eva_cons (ev_var rfl (Stab.st s3 p2)) (eva_cons (ev_var rfl rfl) eva_nil))) hs))).int_eq (by cases cm W.tb (tsrc W.m t) x <;> rfl)) (by simp; omega))
abbrev s_call_tturn:Stmt:=top 81
theorem sc_call_tturn:FnScope ["wall","way","broken","tie"] ["wall","way"] (defScope s_call_tturn):=scm (by decide +kernel)
def sp_call_tturn (C:Addr) :Sp:=spP (ι:=WD × List Nat) (fun x=>[WA C x.1,Ls NI x.2]) (fun x=>okW x.1 /\ x.2.length <= 12) (fun x=>Ls I (r_tturn x.1 x.2))
theorem ok_call_tturn {f C:Addr} {fd:FuncData} (X:Txt K C) (M:Mods mg)  (c_strip_count:Fn P w K mg base "strip_count" 1 ["wall"] (sp_strip_count C)) (c_from_strip:Fn P w K mg base "from_strip" 2 ["wall","tie"] (sp_from_strip C)) (c_to_strip:Fn P w K mg base "to_strip" 2 ["wall","tie"] (sp_to_strip C)) (c_bent_squares:Fn P w K mg base "bent_squares" 2 ["wall","way"] (sp_bent_squares C)) (F:Fun K "call_tturn" "call_tturn" s_call_tturn f fd):FnOk P w K mg base CX0 3 f fd ["wall","way"] (sp_call_tturn C ):=by
  have nd:=(sc_call_tturn).nd
  refine pure_fn F sc_call_tturn (fun _=>rfl) fun cdv B outer s H E hr=>⟨_,(pss_cons (ps_if (pt_cmpR op_ne (pln K M.b_len (pv 1)) (pe_fn c_strip_count hr (pa1 (pv 0))) (nomark _)) (pss_one (ps_ret (pe_lst (pa1 (pe_glI rfl M.c_OUT_OF_RANGE))))) pss_nil) (pss_cons (ps_setLc (i:=2) rfl nd rfl rfl (sw_true rfl rfl rfl (by decide +kernel)) (pi_listK (K:=K) rfl (pfl K (pv 0))) (blkOk_by (N:=["wall","way","broken","tie"]) (sc:=defScope s_call_tturn) (own:=[("tie",3)]) (by decide +kernel)) (fun _ _ _ _ _=>pgn 3 nd) (fun _ _ _ _ _=>(pts_one (pt_cmpR op_gt (ixl K (pv 1) (pe_fn c_from_strip hr (pa2 (pv 0) (pv 3)))) (ixl K (pv 1) (pe_fn c_to_strip hr (pa2 (pv 0) (pv 3)))) (nomark _)))) (fun _ _ _ _ _=>(pv 3))) (pss_one (ps_ret (pe_lst (pa2 (pe_ifExp (pt_cmpR op_eq (pln K M.b_len (pv 2)) pe_int (nomark _)) pe_int pe_int) (pln K M.b_len (pe_fn c_bent_squares hr (pa2 (pv 0) (pv 1)))))))))),?_⟩
  rintro ⟨W,l⟩ vs G ⟨ok,hl⟩ p
  obtain ⟨v0,v1,rfl,q0,q1⟩:=all2 p
  clear p
  dsimp only at *
  have hs:2 <= W.m + W.n /\ W.m + W.n <= 10:=ok.1.sum
  unfold r_tturn
  refine evn_ifret (evt_b (ev_neN (ev_len (ev_var rfl q1)) (ev_call W (eva_cons (ev_var rfl q0) eva_nil) trivial))) (fun e=>?_) fun e=>?_
  · rw [if_pos (by simpa using e)]
    exact evn_ret (ev_lst I [-22] (eva_cons ev_int eva_nil))
  · have e':l.length = W.m + W.n:=by simpa using e
    rw [if_neg (by simpa using e')]
    refine evn_set ((ev_lcL (P:=P3) (F:=P3) W.ties (fun t=>decide (l.getD (ttgt W.m t) 0 < l.getD (tsrc W.m t) 0)) id (ev_ties X (ev_var rfl q0)) (by have:=ok.2.2.1; omega) (fun t ht u G2 s2 px=>?_) fun x _ _ u G2 s2 px=>ev_var rfl px).imp (R:=Ls P3 (brokT W l)) fun H v h=>by rw [List.map_id] at h; exact h) fun b G2 s2 p2=>?_
    · have hx:=ok.2.2.2 t ht
      exact evt_b (ev_gtN (ev_ixN (ev_var rfl (Stab.st s2 q1)) (ev_call (W,t) (eva_cons (ev_var rfl (Stab.st s2 q0)) (eva_cons ((ev_var (P:=P3 t) rfl px).imp fun H v h=>.inl h) eva_nil)) trivial) (by unfold tsrc; split <;> omega)) (ev_ixN (ev_var rfl (Stab.st s2 q1)) (ev_call (W,t) (eva_cons (ev_var rfl (Stab.st s2 q0)) (eva_cons ((ev_var (P:=P3 t) rfl px).imp fun H v h=>.inl h) eva_nil)) trivial) (by unfold ttgt; split <;> omega)))
    · exact evn_ret (ev_lst I [bi (decide ((brokT W l).length = 0)),((bentM W l).length:Nat)] (eva_cons (ev_bit (evt_b (ev_eqN (b:=0) (ev_len (ev_var rfl p2)) ev_int))) (eva_cons (ev_len (ev_bent (ev_var rfl (Stab.st s2 q0)) (ev_var rfl (Stab.st s2 q1)) ok.1 e')) eva_nil)) (by show 2 <= 1000; decide))
end
end L2.FF
end
section
namespace L2.FF
open PySem PySem.Spec PyProof.Rows
section
variable {P:Program} {w:World} {K:PySem.W.Frag} {mg:Str -> Option Value} {base:Heap}
abbrev s_call_tspare:Stmt:=top 82
theorem sc_call_tspare:FnScope ["wall","handed","tie"] ["wall","handed"] (defScope s_call_tspare):=scm (by decide +kernel)
def sp_call_tspare (C:Addr) :Sp:=spP (ι:=WD × (Nat × Nat × Nat)) (fun x=>[WA C x.1,Ls NI [x.2.1,x.2.2.1,x.2.2.2]]) (fun x=>okW x.1 /\ x.2.1 < x.1.m /\ x.2.2.1 < x.1.n) (fun x=>Ls I (r_tspare x.1 x.2))
theorem ok_call_tspare {f C:Addr} {fd:FuncData} (X:Txt K C) (M:Mods mg)  (c_is_spare_tie:Fn P w K mg base "is_spare_tie" 5 ["wall","tie"] (sp_is_spare_tie C)) (F:Fun K "call_tspare" "call_tspare" s_call_tspare f fd):FnOk P w K mg base CX0 6 f fd ["wall","handed"] (sp_call_tspare C ):=by
  have nd:=(sc_call_tspare).nd
  refine pure_fn F sc_call_tspare (fun _=>rfl) fun cdv B outer s H E hr=>⟨_,(pss_cons (psn 2 nd (pe_callTy (cr_tupleK (K:=K) rfl) rfl M.b_tuple boot_tuple (pa1 (pv 1)))) (pss_cons (ps_if (pt_cmpR (op_notinT (room65 hr)) (pv 2) (pfl K (pv 0)) (by with_unfolding_all rfl)) (pss_one (ps_ret (pe_lst (pa1 (pe_glI rfl M.c_NOT_THERE))))) pss_nil) (pss_one (ps_ret (pe_lst (pa1 (pe_ifExp (pt_val (pe_fn c_is_spare_tie hr (pa2 (pv 0) (pv 2)))) pe_int pe_int))))))),?_⟩
  rintro ⟨W,t⟩ vs G ⟨ok,h1,h2⟩ p
  obtain ⟨v0,v1,rfl,q0,q1⟩:=all2 p
  clear p
  dsimp only at *
  refine evn_set (ev_tup3 (ev_var rfl q1)) fun a G1 s1 p1=>?_
  unfold r_tspare
  refine evn_ifret (evt_b (ev_notin3 (ev_var rfl p1) (ev_ties X (ev_var rfl (Stab.st s1 q0))))) (fun e=>?_) fun e=>?_
  · rw [if_neg (by simpa using e)]
    exact evn_ret (ev_lst I [-6] (eva_cons ev_int eva_nil))
  · rw [if_pos (by simpa using e)]
    exact evn_ret (ev_lst I [bi (spT W t)] (eva_cons (ev_bit (evt_v (ev_call (W,t) (eva_cons (ev_var rfl (Stab.st s1 q0)) (eva_cons (ev_var rfl p1) eva_nil)) ⟨ok,h1,h2⟩))) eva_nil) (by show 1 <= 1000; decide))
abbrev s_call_tfalls:Stmt:=top 86
theorem sc_call_tfalls:FnScope ["wall","handed","tie","left"] ["wall","handed"] (defScope s_call_tfalls):=scm (by decide +kernel)
def sp_call_tfalls (C:Addr) :Sp:=spP (ι:=WD × (Nat × Nat × Nat)) (fun x=>[WA C x.1,Ls NI [x.2.1,x.2.2.1,x.2.2.2]]) (fun x=>okW x.1 /\ x.2.1 < x.1.m /\ x.2.2.1 < x.1.n) (fun x=>Ls I (r_tfalls x.1 x.2))
theorem ok_call_tfalls {f C:Addr} {fd:FuncData} (X:Txt K C) (M:Mods mg)  (c_without:Fn P w K mg base "without" 1 ["places","place"] (sp_without C)) (c_tie_parts:Fn P w K mg base "tie_parts" 5 ["wall","ties"] (sp_tie_parts C)) (c_lean_count:Fn P w K mg base "lean_count" 5 ["wall","ties"] (sp_lean_count C)) (F:Fun K "call_tfalls" "call_tfalls" s_call_tfalls f fd):FnOk P w K mg base CX0 6 f fd ["wall","handed"] (sp_call_tfalls C ):=by
  have nd:=(sc_call_tfalls).nd
  refine pure_fn F sc_call_tfalls (fun _=>rfl) fun cdv B outer s H E hr=>⟨_,(pss_cons (psn 2 nd (pe_callTy (cr_tupleK (K:=K) rfl) rfl M.b_tuple boot_tuple (pa1 (pv 1)))) (pss_cons (ps_if (pt_cmpR (op_notinT (room65 hr)) (pv 2) (pfl K (pv 0)) (by with_unfolding_all rfl)) (pss_one (ps_ret (pe_lst (pa1 (pe_glI rfl M.c_NOT_THERE))))) pss_nil) (pss_cons (psn 3 nd (pe_fn c_without hr (pa2 (pfl K (pv 0)) (pv 2)))) (pss_one (ps_ret (pe_lst (pa2 (pe_fn c_tie_parts hr (pa2 (pv 0) (pv 3))) (pe_op op_sub (pe_fn c_lean_count hr (pa2 (pv 0) (pv 3))) (pe_fn c_lean_count hr (pa2 (pv 0) (pfl K (pv 0)))))))))))),?_⟩
  rintro ⟨W,t⟩ vs G ⟨ok,h1,h2⟩ p
  obtain ⟨v0,v1,rfl,q0,q1⟩:=all2 p
  clear p
  dsimp only at *
  refine evn_set (ev_tup3 (ev_var rfl q1)) fun a G1 s1 p1=>?_
  unfold r_tfalls
  refine evn_ifret (evt_b (ev_notin3 (ev_var rfl p1) (ev_ties X (ev_var rfl (Stab.st s1 q0))))) (fun e=>?_) fun e=>?_
  · rw [if_neg (by simpa using e)]
    exact evn_ret (ev_lst I [-6] (eva_cons ev_int eva_nil))
  · rw [if_pos (by simpa using e)]
    refine evn_set (P:=Ls P3 (wo3 W.ties t)) (ev_wo3 (ev_ties X (ev_var rfl (Stab.st s1 q0))) (ev_var rfl p1) (by have:=ok.2.2.1; omega)) fun c G2 s2 p2=>?_
    exact evn_ret (ev_lst I [(tp W.m W.n (wo3 W.ties t):Nat),(lcnt W.m W.n (wo3 W.ties t):Nat) - (lcnt W.m W.n W.ties:Nat)] (eva_cons (ev_tp (ev_var rfl (Stab.st (s1.trans s2) q0)) (ev_var rfl p2) ok.1 ok.2.2.wo3) (eva_cons (ev_sub (ev_lc (ev_var rfl (Stab.st (s1.trans s2) q0)) (ev_var rfl p2) ok.1 ok.2.2.wo3) (ev_lc (ev_var rfl (Stab.st (s1.trans s2) q0)) (ev_ties X (ev_var rfl (Stab.st (s1.trans s2) q0))) ok.1 ok.2.2)) eva_nil)) (by show 2 <= 1000; decide))
abbrev s_call_twould:Stmt:=top 85
theorem sc_call_twould:FnScope ["wall","handed","tie","more"] ["wall","handed"] (defScope s_call_twould):=scm (by decide +kernel)
def sp_call_twould (C:Addr) :Sp:=spP (ι:=WD × (Nat × Nat × Nat)) (fun x=>[WA C x.1,Ls NI [x.2.1,x.2.2.1,x.2.2.2]]) (fun x=>okW x.1 /\ x.1.ties.length <= 50 /\ x.2.1 < x.1.m /\ x.2.2.1 < x.1.n /\ x.2.2.2 <= 1) (fun x=>Ls I (r_twould x.1 x.2))
theorem ok_call_twould {f C:Addr} {fd:FuncData} (X:Txt K C) (M:Mods mg)  (c_tie_parts:Fn P w K mg base "tie_parts" 5 ["wall","ties"] (sp_tie_parts C)) (c_lean_count:Fn P w K mg base "lean_count" 5 ["wall","ties"] (sp_lean_count C)) (F:Fun K "call_twould" "call_twould" s_call_twould f fd):FnOk P w K mg base CX0 6 f fd ["wall","handed"] (sp_call_twould C ):=by
  have nd:=(sc_call_twould).nd
  refine pure_fn F sc_call_twould (fun _=>rfl) fun cdv B outer s H E hr=>⟨_,(pss_cons (psn 2 nd (pe_callTy (cr_tupleK (K:=K) rfl) rfl M.b_tuple boot_tuple (pa1 (pv 1)))) (pss_cons (ps_if (pt_cmpR (op_inT (room65 hr)) (pv 2) (pfl K (pv 0)) (by with_unfolding_all rfl)) (pss_one (ps_ret (pe_lst (pa1 (pe_glI rfl M.c_THERE_ALREADY))))) pss_nil) (pss_cons (psn 3 nd (pe_op op_cat (pfl K (pv 0)) (pe_lst (pa1 (pv 2))))) (pss_one (ps_ret (pe_lst (pa2 (pe_fn c_tie_parts hr (pa2 (pv 0) (pv 3))) (pe_op op_sub (pe_fn c_lean_count hr (pa2 (pv 0) (pfl K (pv 0)))) (pe_fn c_lean_count hr (pa2 (pv 0) (pv 3))))))))))),?_⟩
  rintro ⟨W,t⟩ vs G ⟨ok,hz,h1,h2,h4⟩ p
  obtain ⟨v0,v1,rfl,q0,q1⟩:=all2 p
  clear p
  dsimp only at *
  refine evn_set (ev_tup3 (ev_var rfl q1)) fun a G1 s1 p1=>?_
  unfold r_twould
  refine evn_ifret (evt_b (ev_in3 (ev_var rfl p1) (ev_ties X (ev_var rfl (Stab.st s1 q0))))) (fun e=>?_) fun e=>?_
  · rw [if_pos (by simpa using e)]
    exact evn_ret (ev_lst I [-17] (eva_cons ev_int eva_nil))
  · rw [if_neg (by simpa using e)]
    have hin:inT W (W.ties ++ [t]):=ok.2.2.app hz h1 h2 h4
    refine evn_set (P:=Ls P3 (W.ties ++ [t])) (ev_cat (ev_ties X (ev_var rfl (Stab.st s1 q0))) (ev_lst P3 [t] (eva_cons (ev_var rfl p1) eva_nil) (by show 1 <= 1000; decide)) (by simp; omega)) fun c G2 s2 p2=>?_
    exact evn_ret (ev_lst I [(tp W.m W.n (W.ties ++ [t]):Nat),(lcnt W.m W.n W.ties:Nat) - (lcnt W.m W.n (W.ties ++ [t]):Nat)] (eva_cons (ev_tp (ev_var rfl (Stab.st (s1.trans s2) q0)) (ev_var rfl p2) ok.1 hin) (eva_cons (ev_sub (ev_lc (ev_var rfl (Stab.st (s1.trans s2) q0)) (ev_ties X (ev_var rfl (Stab.st (s1.trans s2) q0))) ok.1 ok.2.2) (ev_lc (ev_var rfl (Stab.st (s1.trans s2) q0)) (ev_var rfl p2) ok.1 hin)) eva_nil)) (by show 2 <= 1000; decide))
abbrev s_call_tspares:Stmt:=top 83
theorem sc_call_tspares:FnScope ["wall","handed","tie"] ["wall","handed"] (defScope s_call_tspares):=scm (by decide +kernel)
def sp_call_tspares (C:Addr) :Sp:=spP (ι:=WD) (fun x=>[WA C x,Ls NI []]) (fun x=>okW x) (fun x=>Ls I (flat3 (x.ties.filter fun t=>spT x t)))
theorem ok_call_tspares {f C:Addr} {fd:FuncData} (X:Txt K C) (M:Mods mg)  (c_flattened:Fn P w K mg base "flattened" 1 ["places"] (sp_flattened C)) (c_is_spare_tie:Fn P w K mg base "is_spare_tie" 5 ["wall","tie"] (sp_is_spare_tie C)) (F:Fun K "call_tspares" "call_tspares" s_call_tspares f fd):FnOk P w K mg base CX0 6 f fd ["wall","handed"] (sp_call_tspares C ):=by
  have nd:=(sc_call_tspares).nd
  refine pure_fn F sc_call_tspares (fun _=>rfl) fun cdv B outer s H E hr=>⟨_,(pss_one (ps_ret (pe_fn c_flattened hr (pa1 (pe_lc rfl nd (pi_listK (K:=K) rfl (pfl K (pv 0))) (blkOk_by (N:=["wall","handed","tie"]) (sc:=defScope s_call_tspares) (own:=[("tie",2)]) (by decide +kernel)) (fun _ _ _ _ _=>pgn 2 nd) (fun _ _ _ _ _=>(pts_one (pt_val (pe_fn c_is_spare_tie hr (pa2 (pv 0) (pv 2)))))) (fun _ _ _ _ _=>(pv 2))))))),?_⟩
  rintro W vs G ok p
  obtain ⟨v0,v1,rfl,q0,q1⟩:=all2 p
  refine evn_ret (ev_flat3 ((ev_lcL (P:=P3) (F:=P3) W.ties (fun t=>spT W t) id (ev_ties X (ev_var rfl q0)) (by have:=ok.2.2.1; omega) (fun t ht u G2 s2 px=>evt_v (ev_call (W,t) (eva_cons (ev_var rfl (Stab.st s2 q0)) (eva_cons (ev_var rfl px) eva_nil)) ⟨ok,(ok.2.2.2 t ht).1,(ok.2.2.2 t ht).2.1⟩)) fun x _ _ u G2 s2 px=>ev_var rfl px).imp fun H v h=>by rw [List.map_id] at h; exact h) (Nat.le_trans (List.length_filter_le _ _) ok.2.2.1))
abbrev s_call_stiff:Stmt:=top 87
theorem sc_call_stiff:FnScope ["wall","handed","hanging","there","tie"] ["wall","handed"] (defScope s_call_stiff):=scm (by decide +kernel)
def sp_call_stiff (C:Addr) :Sp:=spP (ι:=WD × (Nat × Nat)) (fun x=>[WA C x.1,Ls NI [x.2.1,x.2.2]]) (fun x=>okW x.1 /\ x.2.1 < x.1.m) (fun x=>Ls I (r_stiff x.1 x.2))
theorem ok_call_stiff {f C:Addr} {fd:FuncData} (X:Txt K C) (M:Mods mg)  (c_together:Fn P w K mg base "together" 1 ["table","strip"] (sp_together C)) (c_tie_table:Fn P w K mg base "tie_table" 4 ["wall","ties"] (sp_tie_table C)) (c_two_ties:Fn P w K mg base "two_ties" 1 ["places"] (sp_two_ties C)) (c_column_strip:Fn P w K mg base "column_strip" 1 ["wall","column"] (sp_column_strip C)) (F:Fun K "call_stiff" "call_stiff" s_call_stiff f fd):FnOk P w K mg base CX0 5 f fd ["wall","handed"] (sp_call_stiff C ):=by
  have nd:=(sc_call_stiff).nd
  refine pure_fn F sc_call_stiff (fun _=>rfl) fun cdv B outer s H E hr=>⟨_,(pss_cons (psn 2 nd (pe_fn c_together hr (pa2 (pe_fn c_tie_table hr (pa2 (pv 0) (pfl K (pv 0)))) (ixl K (pv 1) pe_int)))) (pss_cons (ps_setLc (i:=3) rfl nd rfl rfl (sw_true rfl rfl rfl (by decide +kernel)) (pi_listK (K:=K) rfl (pe_fn c_two_ties hr (pa1 (pe_lst (pa1 (pv 1)))))) (blkOk_by (N:=["wall","handed","hanging","there","tie"]) (sc:=defScope s_call_stiff) (own:=[("tie",4)]) (by decide +kernel)) (fun _ _ _ _ _=>pgn 4 nd) (fun _ _ _ _ _=>(pts_one (pt_cmpR (op_inT (room65 hr)) (pv 4) (pfl K (pv 0)) (by with_unfolding_all rfl)))) (fun _ _ _ _ _=>(pv 4))) (pss_one (ps_ret (pe_lst (pa2 (pe_ifExp (pt_cmpR (op_inK (K:=K) rfl) (pe_fn c_column_strip hr (pa2 (pv 0) (ixl K (pv 1) pe_int))) (pv 2) (by with_unfolding_all rfl)) pe_int pe_int) (pe_ifExp (pt_cmpR op_eq (pln K M.b_len (pv 3)) (pe_glI rfl M.c_KINDS) (nomark _)) pe_int pe_int))))))),?_⟩
  rintro ⟨W,b⟩ vs G ⟨ok,h1⟩ p
  obtain ⟨v0,v1,rfl,q0,q1⟩:=all2 p
  clear p
  dsimp only at *
  have h3:2 <= W.m + W.n /\ W.m + W.n <= 10:=ok.1.sum
  have hl:W.tb.length = W.m + W.n:=tt_len _ _ _
  refine evn_set (P:=Ls NI (tog W.tb b.1)) (ev_call (W.tb,b.1) (eva_cons (ev_call (W,W.ties) (eva_cons (ev_var rfl q0) (eva_cons (ev_ties X (ev_var rfl q0)) eva_nil)) ⟨ok.1,ok.2.2⟩) (eva_cons (ev_ixN (n:=0) (ev_var rfl q1) ev_int (by show 0 < 2; decide)) eva_nil)) ⟨by first | omega | (dsimp only; omega),by first | omega | (dsimp only; omega)⟩) fun a G1 s1 p1=>?_
  refine evn_set ((ev_lcL (P:=P3) (F:=P3) (two [b]) (fun t=>W.ties.contains t) id ((ev_two (ev_lst (fun x=>Sq (e2 x)) [b] (eva_cons ((ev_var rfl (Stab.st s1 q1)).imp fun H v h=>.inr (ls_nat h)) eva_nil) (by show 1 <= 1000; decide)) (by show 1 <= 1000; decide)).imp fun H v h=>h.1) (by show 2 <= 900000; decide) (fun t _ u G2 s2 px=>evt_b (ev_in3 (ev_var rfl px) (ev_ties X (ev_var rfl (Stab.st (s1.trans s2) q0))))) fun x _ _ u G2 s2 px=>ev_var rfl px).imp (R:=Ls P3 ((two [b]).filter fun t=>W.ties.contains t)) fun H v h=>by rw [List.map_id] at h; exact h) fun c G2 s2 p2=>?_
  exact evn_ret (ev_lst I (r_stiff W b) (eva_cons (ev_bit (evt_b (ev_inN (ev_call (W,b.2) (eva_cons (ev_var rfl (Stab.st (s1.trans s2) q0)) (eva_cons (ev_ixN (n:=1) (ev_var rfl (Stab.st (s1.trans s2) q1)) ev_int (by show 1 < 2; decide)) eva_nil)) trivial) (ev_var rfl (Stab.st s2 p1))))) (eva_cons (ev_bit (evt_b (ev_eqN (b:=2) (ev_len (ev_var rfl p2)) ev_int))) eva_nil)) (by show 2 <= 1000; decide))
abbrev s_call_ties:Stmt:=top 89
theorem sc_call_ties:FnScope ["wall","handed"] ["wall","handed"] (defScope s_call_ties):=scm (by decide +kernel)
def sp_call_ties (C:Addr) :Sp:=spP (ι:=WD) (fun x=>[WA C x,Ls NI []]) (fun x=>okW x) (fun x=>Ls I (flat3 x.ties))
theorem ok_call_ties {f C:Addr} {fd:FuncData} (X:Txt K C) (M:Mods mg)  (c_flattened:Fn P w K mg base "flattened" 1 ["places"] (sp_flattened C)) (F:Fun K "call_ties" "call_ties" s_call_ties f fd):FnOk P w K mg base CX0 2 f fd ["wall","handed"] (sp_call_ties C ):=by
  have nd:=(sc_call_ties).nd
  refine pure_fn F sc_call_ties (fun _=>rfl) fun cdv B outer s H E hr=>⟨_,(pss_one (ps_ret (pe_fn c_flattened hr (pa1 (pfl K (pv 0)))))),?_⟩
  rintro W vs G ok p
  obtain ⟨v0,v1,rfl,q0,q1⟩:=all2 p
  exact evn_ret (ev_flat3 (ev_ties X (ev_var rfl q0)) ok.2.2.1)
end
end L2.FF
end
section
namespace L2.FF
open PySem PySem.Spec PyProof.Rows
section
variable {P:Program} {w:World} {K:PySem.W.Frag} {mg:Str -> Option Value} {base:Heap}
abbrev s_first_set:Stmt:=top 70
theorem sc_first_set:FnScope ["wall","table","missing","size","place","tie","behind"] ["wall","table","missing","size"] (defScope s_first_set):=scm (by decide +kernel)
def sp_first_set (C:Addr) (d:Nat):Sp:=spP (ι:=WD × List Nat × List (Nat × Nat × Nat) × Nat) (fun x=>[WA C x.1,Ls NI x.2.1,Ls P3 x.2.2.1,NI x.2.2.2]) (fun x=>x.2.2.2 < d /\ x.2.2.2 <= 1000 /\ sizeOk x.1 /\ x.2.1.length = x.1.m + x.1.n /\ x.2.2.1.length <= 100 /\ ∀ t ∈ x.2.2.1,t.1 < x.1.m /\ t.2.1 < x.1.n) (fun x=>Op (Ls P3) (fset x.1.m x.2.2.2 x.2.1 x.2.2.1))
theorem ok_first_set {f C:Addr} {fd:FuncData} (X:Txt K C) (M:Mods mg) {L d:Nat} (hL:6 <= L) (c_is_firm:Fn P w K mg base "is_firm" 1 ["table"] (sp_is_firm C)) (c_might_do:Fn P w K mg base "might_do" 5 ["table","more"] (sp_might_do C)) (c_stepped:Fn P w K mg base "stepped" 3 ["wall","table","tie"] (sp_stepped C)) (c_first_set:Fn P w K mg base "first_set" (L + d) ["wall","table","missing","size"] (sp_first_set C d)) (F:Fun K "first_set" "first_set" s_first_set f fd):FnOk P w K mg base CX0 (L + d + 1) f fd ["wall","table","missing","size"] (sp_first_set C (d + 1)):=by
  have nd:=(sc_first_set).nd
  refine pure_fn F sc_first_set (fun _=>rfl) fun cdv B outer s H E hr=>⟨_,(pss_cons (ps_if (pt_cmpR op_eq (pv 3) pe_int (nomark _)) (pss_one (ps_ret (pe_ifExp (pt_val (pe_fn c_is_firm hr (pa1 (pv 1)))) (pe_lst pa_nil) pe_non))) pss_nil) (pss_cons (ps_if (pt_not (pt_val (pe_fn c_might_do hr (pa2 (pv 1) (pv 3))))) (pss_one (ps_ret pe_non)) pss_nil) (pss_cons (ps_for PassesOwn.never rfl (prg M.b_range (pln K M.b_len (pv 2))) (pgn 4 nd) (pss_cons (psn 5 nd (ixl K (pv 2) (pv 4))) (pss_cons (psn 6 nd (pe_fn c_first_set hr (pa_cons (pv 0) (pa3 (pe_fn c_stepped hr (pa3 (pv 0) (pv 1) (pv 5))) (pe_slice (sl_listK (K:=K) rfl) (pv 2) (po_some (pe_op op_add (pv 4) pe_int)) po_none) (pe_op op_sub (pv 3) pe_int))))) (pss_one (ps_if (pt_cmpR op_notN' (pv 6) pe_non (nomark _)) (pss_one (ps_ret (pe_op op_cat (pe_lst (pa1 (pv 5))) (pv 6)))) pss_nil))))) (pss_one (ps_ret pe_non))))),?_⟩
  rintro ⟨W,tb,ms,k⟩ vs G ⟨hd,hd2,ok,hl,hz,hm⟩ p
  obtain ⟨v0,v1,v2,v3,rfl,q0,q1,q2,q3⟩:=all4 p
  clear p
  try dsimp only at *
  have hs:=ok.sum
  refine evn_ifret (evt_b (ev_eqN (b:=0) (ev_var rfl q3) ev_int)) (fun e=>?_) fun e=>?_
  · have e:k = 0:=of_decide_eq_true e
    subst e
    show EvN _ _ _ _ (Op (Ls P3) (if fmT tb = true then some [] else none))
    refine evn_ret (ev_if (evt_v (ev_call tb (eva_cons (ev_var rfl q1) eva_nil) ⟨by omega,by omega⟩)) (fun e=>?_) fun e=>?_)
    · rw [if_pos e]; exact ev_lst P3 [] eva_nil
    · rw [if_neg (by rw [e]; decide)]; exact ev_non
  obtain ⟨j,rfl⟩:∃ j,k = j + 1:=⟨k - 1,by have:=of_decide_eq_false e; omega⟩
  show EvN _ _ _ _ (Op (Ls P3) (if mdo tb (j + 1) = true then floop (fset W.m j) W.m tb ms else none))
  refine evn_ifret (evt_not (evt_v (ev_call (tb,j + 1) (eva_cons (ev_var rfl q1) (eva_cons (ev_var rfl q3) eva_nil)) (by show tb.length <= 10; omega)))) (fun e=>?_) fun e=>?_
  · rw [if_neg (by simpa using e)]; exact evn_ret ev_non
  rw [if_pos (by simpa using e)]
  refine evn_seq (evn_forRng (i:=4) ms.length (fun l σ G'=>Same G G' /\ (∃ x y z,σ = [some v0,some v1,some v2,some v3,x,y,z]) /\ floop (fset W.m j) W.m tb ms = floop (fset W.m j) W.m tb (ms.drop l)) (ev_len (ev_var rfl q2)) (by omega) (fun G2 s2=>⟨s2,⟨_,_,_,rfl⟩,rfl⟩) ?_) fun σ' G2 s2 ⟨s3,⟨x,y,z,e2⟩,ef⟩=>?_
  · rintro l σ' G2 hl2 s2 ⟨s3,⟨x,y,z,rfl⟩,ef⟩
    have ht:ms[l]? = some ms[l]:=List.getElem?_eq_getElem hl2
    have htm:=hm ms[l] (List.getElem_mem hl2)
    have ed:ms.drop l = ms[l] :: ms.drop (l + 1):=List.drop_eq_getElem_cons hl2
    refine evn_set (P:=P3 ms[l]) (ev_ixL (ev_var rfl (Stab.st s3 q2)) (ev_var rfl rfl) rfl ht) fun a G3 s4 p4=>?_
    have s5:=s3.trans s4
    refine evn_set (P:=Op (Ls P3) (fset W.m j (stp W.m tb ms[l]) (ms.drop (l + 1)))) (ev_call (W,stp W.m tb ms[l],ms.drop (l + 1),j) (eva_cons (ev_var rfl (Stab.st s5 q0)) (eva_cons (ev_call (W,tb,ms[l]) (eva_cons (ev_var rfl (Stab.st s5 q0)) (eva_cons (ev_var rfl (Stab.st s5 q1)) (eva_cons ((ev_var (P:=P3 ms[l]) rfl p4).imp fun H v h=>.inl h) eva_nil))) ⟨hl,by dsimp only; omega,htm.1,htm.2⟩) (eva_cons (ev_from (ev_var rfl (Stab.st s5 q2)) (ev_addN (b:=1) (ev_var rfl rfl) ev_int)) (eva_cons (ev_subN (b:=1) (ev_var rfl (Stab.st s5 q3)) ev_int (by omega)) eva_nil)))) ⟨by dsimp only; omega,by dsimp only; omega,ok,(stp_len _ _ _).trans hl,by rw [List.length_drop]; omega,fun t h=>hm t (List.mem_of_mem_drop h)⟩) fun b G4 s6 p6=>?_
    have fl:floop (fset W.m j) W.m tb ms = (match fset W.m j (stp W.m tb ms[l]) (ms.drop (l + 1)) with | some s=>some (ms[l] :: s) | none=>floop (fset W.m j) W.m tb (ms.drop (l + 1))):=by rw [ef,ed]; rfl
    refine evn_if (evt_notN (ev_var rfl p6)) (fun e=>?_) fun e=>evn_nil fun G5 s7=>⟨s5.trans (s6.trans s7),⟨_,_,_,rfl⟩,?_⟩
    · cases o:fset W.m j (stp W.m tb ms[l]) (ms.drop (l + 1)) with
      | none=>rw [o] at e; cases e
      | some s =>
        rw [o] at p6 fl
        have zs:s.length <= 1000:=by rw [fset_len o]; omega
        rw [fl]
        exact evn_ret (ev_cat (ev_lst P3 [ms[l]] (eva_cons (ev_var rfl (Stab.st s6 p4)) eva_nil) (by show 1 <= 1000; decide)) (ev_var (P:=Ls P3 s) rfl p6) (by simp; omega))
    · rw [fl]
      cases o:fset W.m j (stp W.m tb ms[l]) (ms.drop (l + 1)) with
      | none=>rfl
      | some s=>rw [o] at e; cases e
  · subst e2
    rw [ef,List.drop_length]
    exact evn_ret ev_non
theorem ok_first_sets {f C:Addr} {fd:FuncData} (X:Txt K C) (M:Mods mg) (hm:mg "first_set" = some (.ref f)) (hk:PySem.W.keepIn K (.ref f) = true) (hb:Binds K fd ["wall","table","missing","size"] []) (c_is_firm:Fn P w K mg base "is_firm" 1 ["table"] (sp_is_firm C)) (c_might_do:Fn P w K mg base "might_do" 5 ["table","more"] (sp_might_do C)) (c_stepped:Fn P w K mg base "stepped" 3 ["wall","table","tie"] (sp_stepped C))
    (F:Fun K "first_set" "first_set" s_first_set f fd):∀ d,FnOk P w K mg base CX0 (6 + d) f fd ["wall","table","missing","size"] (sp_first_set C d)
  | 0=>⟨fun vs H Q E h=>by obtain ⟨y,G,_,c,_⟩:=h; exact absurd c.1 (Nat.not_lt_zero _),fun A outer s H args us vs Q E _ _ _ _ h=>by obtain ⟨y,G,_,c,_⟩:=h; exact absurd c.1 (Nat.not_lt_zero _)⟩
  | d + 1=>ok_first_set X M (Nat.le_refl _) c_is_firm c_might_do c_stepped ⟨f,fd,hm,hk,hb,ok_first_sets X M hm hk hb c_is_firm c_might_do c_stepped F d⟩ F
abbrev s_call_tput:Stmt:=top 84
theorem sc_call_tput:FnScope ["wall","handed","table","missing","tie","size","found"] ["wall","handed"] (defScope s_call_tput):=scm (by decide +kernel)
def sp_call_tput (C:Addr) :Sp:=spP (ι:=WD) (fun x=>[WA C x,Ls NI []]) (fun x=>okW x) (fun x=>Ls I (r_tput x))
theorem ok_call_tput {f C:Addr} {fd:FuncData} (X:Txt K C) (M:Mods mg)  (c_tie_table:Fn P w K mg base "tie_table" 4 ["wall","ties"] (sp_tie_table C)) (c_two_ties:Fn P w K mg base "two_ties" 1 ["places"] (sp_two_ties C)) (c_squares:Fn P w K mg base "squares" 1 ["wall"] (sp_squares C)) (c_first_set:Fn P w K mg base "first_set" 11 ["wall","table","missing","size"] (sp_first_set C 5)) (c_flattened:Fn P w K mg base "flattened" 1 ["places"] (sp_flattened C)) (F:Fun K "call_tput" "call_tput" s_call_tput f fd):FnOk P w K mg base CX0 12 f fd ["wall","handed"] (sp_call_tput C ):=by
  have nd:=(sc_call_tput).nd
  refine pure_fn F sc_call_tput (fun _=>rfl) fun cdv B outer s H E hr=>⟨_,(pss_cons (ps_if (pt_cmpR op_gt (pe_op op_mul (pfl K (pv 0)) (pfl K (pv 0))) (pe_glI rfl M.c_MOST_SQUARES) (nomark _)) (pss_one (ps_ret (pe_lst (pa1 (pe_glI rfl M.c_TOO_MANY))))) pss_nil) (pss_cons (psn 2 nd (pe_fn c_tie_table hr (pa2 (pv 0) (pfl K (pv 0))))) (pss_cons (ps_setLc (i:=3) rfl nd rfl rfl (sw_true rfl rfl rfl (by decide +kernel)) (pi_listK (K:=K) rfl (pe_fn c_two_ties hr (pa1 (pe_fn c_squares hr (pa1 (pv 0)))))) (blkOk_by (N:=["wall","handed","table","missing","tie","size","found"]) (sc:=defScope s_call_tput) (own:=[("tie",4)]) (by decide +kernel)) (fun _ _ _ _ _=>pgn 4 nd) (fun _ _ _ _ _=>(pts_one (pt_cmpR (op_notinT (room65 hr)) (pv 4) (pfl K (pv 0)) (by with_unfolding_all rfl)))) (fun _ _ _ _ _=>(pv 4))) (pss_cons (ps_for PassesOwn.never rfl (prg M.b_range (pe_op op_add (pe_glI rfl M.c_MOST_MORE) pe_int)) (pgn 5 nd) (pss_cons (psn 6 nd (pe_fn c_first_set hr (pa_cons (pv 0) (pa3 (pv 2) (pv 3) (pv 5))))) (pss_one (ps_if (pt_cmpR op_notN' (pv 6) pe_non (nomark _)) (pss_one (ps_ret (pe_fn c_flattened hr (pa1 (pv 6))))) pss_nil)))) (pss_one (ps_ret (pe_lst (pa1 (pe_glI rfl M.c_NOT_SO))))))))),?_⟩
  rintro W vs G ok p
  obtain ⟨v0,v1,rfl,q0,q1⟩:=all2 p
  have h3:2 <= W.m + W.n /\ W.m + W.n <= 10:=ok.1.sum
  have hl:W.tb.length = W.m + W.n:=tt_len _ _ _
  have hm5:=ok.1.2.1
  unfold r_tput
  refine evn_ifret (evt_b (ev_gtN (b:=9) (ev_mulN (ev_rows X (ev_var rfl q0)) (ev_cols X (ev_var rfl q0)) (by omega)) ev_int)) (fun e=>?_) fun e=>?_
  · rw [if_pos (of_decide_eq_true e)]
    exact evn_ret (ev_lst I [-28] (eva_cons ev_int eva_nil))
  rw [if_neg (of_decide_eq_false e)]
  refine evn_set (P:=Ls NI W.tb) (ev_call (W,W.ties) (eva_cons (ev_var rfl q0) (eva_cons (ev_ties X (ev_var rfl q0)) eva_nil)) ⟨ok.1,ok.2.2⟩) fun a G1 s1 p1=>?_
  refine evn_set ((ev_lcL (P:=P3) (F:=P3) (two (sqs W.m W.n)) (fun t=>!W.ties.contains t) id (ev_twosq (ev_var rfl (Stab.st s1 q0)) ok.1) (by rw [two_len]; have:=ok.1.sqs; omega) (fun t _ u G2 s2 px=>evt_b (ev_notin3 (ev_var rfl px) (ev_ties X (ev_var rfl (Stab.st (s1.trans s2) q0))))) fun x _ _ u G2 s2 px=>ev_var rfl px).imp (R:=Ls P3 (missT W)) fun H v h=>by rw [List.map_id] at h; exact h) fun b G2 s2 p2=>?_
  refine evn_seq (evn_forRng (i:=5) 5 (fun l σ G'=>Same G2 G' /\ (∃ x y z,σ = [some v0,some v1,some a,some b,x,y,z]) /\ ∀ i,i < l -> fset W.m i W.tb (missT W) = none) (ev_addN (a:=4) (b:=1) ev_int ev_int) (by omega) (fun G3 s3=>⟨s3,⟨_,_,_,rfl⟩,fun i hi=>by omega⟩) ?_) fun σ' G3 s3 ⟨s4,⟨x,y,z,e2⟩,ef⟩=>?_
  · rintro l σ' G3 hl2 s3 ⟨s4,⟨x,y,z,rfl⟩,ef⟩
    refine evn_set (P:=Op (Ls P3) (fset W.m l W.tb (missT W))) (ev_call (W,W.tb,missT W,l) (eva_cons (ev_var rfl (Stab.st ((s1.trans s2).trans s4) q0)) (eva_cons (ev_var rfl (Stab.st (s2.trans s4) p1)) (eva_cons (ev_var rfl (Stab.st s4 p2)) (eva_cons (ev_var rfl rfl) eva_nil)))) ⟨hl2,by dsimp only; omega,ok.1,hl,by have:=miss_le ok.1; dsimp only; omega,fun t h=>⟨(two_sqs (List.mem_filter.mp h).1).1,(two_sqs (List.mem_filter.mp h).1).2.1⟩⟩) fun c G4 s5 p5=>?_
    refine evn_if (evt_notN (ev_var rfl p5)) (fun e=>?_) fun e=>evn_nil fun G5 s7=>⟨s4.trans (s5.trans s7),⟨_,_,_,rfl⟩,fun i hi=>?_⟩
    · cases o:fset W.m l W.tb (missT W) with
      | none=>rw [o] at e; cases e
      | some s =>
        rw [o] at p5
        rw [show tputO W = some s from findSome_at ef o hl2]
        exact evn_ret (ev_flat3 (ev_var (P:=Ls P3 s) rfl p5) (by rw [fset_len o]; omega))
    · by_cases h:i = l
      · subst h
        cases o:fset W.m i W.tb (missT W) with
        | none=>rfl
        | some s=>rw [o] at e; cases e
      · exact ef i (by omega)
  · subst e2
    rw [show tputO W = none from List.findSome?_eq_none_iff.mpr fun i hi=>ef i (List.mem_range.mp hi)]
    exact evn_ret (ev_lst I [-33] (eva_cons ev_int eva_nil))
end
end L2.FF
end
section
namespace L2.FF
open PySem PySem.Spec PyProof.Rows
section
variable {P:Program} {w:World} {K:PySem.W.Frag} {mg:Str -> Option Value} {base:Heap}
section
variable {σ:St} {Hs:Hp} {C:Addr} {ta tb:TE} {E:XK} {W:WD}
theorem ev_shears {bs:List (Nat × Nat)} (ha:Ev ta σ Hs (WA C W)) (hb:Ev tb σ Hs (Ls P2 bs)) (h1:sizeOk W) (h2:inW W bs):Ev (tCall (sp_shears C) [] E (tCons ta (tCons tb tNil))) σ Hs (NI (sh W.m W.n bs)):=ev_call (W,bs) (eva_cons ha (eva_cons hb eva_nil)) ⟨h1,h2⟩
end
theorem ev_flipT {σ:St} {Hs:Hp} {K:PySem.W.Frag} {ta:TE} {b:Nat × Nat × Nat} (h:Ev ta σ Hs (P3 b)) (hb:b.2.2 <= 1):Ev (tOp (rI0 fun i j=>.int (i - j)) (tC (.int 1)) (tOp (rIxT K) ta (tC (.int 2)))) σ Hs (NI (1 - b.2.2)):=ev_subN (a:=1) ev_int (ev_ixT h ev_int (n:=2) rfl rfl) hb
theorem paired_set {α β:Type} {F:α -> β -> Prop} {x:α} {y:β}:∀ {l:List α} {m:List β} (j:Nat),Paired F l m -> F x y -> Paired F (l.set j x) (m.set j y)
  | _,_,_,.nil,_=>.nil
  | _,_,0,.cons _ t,h=>.cons h t
  | _,_,j + 1,.cons r t,h=>.cons r (paired_set j t h)
theorem paired_erase {α β:Type} {F:α -> β -> Prop}:∀ {l:List α} {m:List β} (j:Nat),Paired F l m -> Paired F (l.eraseIdx j) (m.eraseIdx j)
  | _,_,_,.nil=>.nil
  | _,_,0,.cons _ t=>t
  | _,_,j + 1,.cons r t=>.cons r (paired_erase j t)
abbrev s_call_brace:Stmt:=top 25
theorem sc_call_brace:FnScope ["wall","handed","bar"] ["wall","handed"] (defScope s_call_brace):=scm (by decide +kernel)
def sp_call_brace (C:Addr) :Sp:=spW (ι:=Nat × Nat) C (fun b=>[Ls NI [b.1,b.2]]) (fun b W=>okW W /\ W.bars.length <= 50 /\ b.1 < W.m /\ b.2 < W.n) (fun b W=>if W.bars.contains b then W else { W with bars:=W.bars ++ [b] }) (fun b W=>if W.bars.contains b then [-17] else [(sh W.m W.n (W.bars ++ [b]):Nat)])
theorem ok_call_brace {f C:Addr} {fd:FuncData} (X:Txt K C) (M:Mods mg)  (c_shears:Fn P w K mg base "shears" 4 ["wall","bars"] (sp_shears C)) (F:Fun K "call_brace" "call_brace" s_call_brace f fd):FnOk P w K mg base CX0 5 f fd ["wall","handed"] (sp_call_brace C ):=by
  have nd:=(sc_call_brace).nd
  refine F.ok sc_call_brace (fun vs H Q E h=>?_) (fun cdv B outer s H vs Q E hr h=>?_)
  · exact h.len (n:=1) fun _=>rfl
  · obtain ⟨b,W,G,p,dx,bl,tl,rest,rfl,sG,wa,pr,⟨ok,hz,hb1,hb2⟩,k⟩:=h
    obtain ⟨v1,rfl,q1⟩:=all1 pr
    dsimp only at *
    have q0:WA C W G (.ref p):=⟨p,dx,bl,tl,rfl,wa⟩
    refine ⟨_,(pss_cons (psn 2 nd (pe_callTy (cr_tupleK (K:=K) rfl) rfl M.b_tuple boot_tuple (pa1 (pv 1)))) (pss_cons (ps_if (pt_cmpR (op_inT (room65 hr)) (pv 2) (pfl K (pv 0)) (by with_unfolding_all rfl)) (pss_one (ps_ret (pe_lst (pa1 (pe_glI rfl M.c_THERE_ALREADY))))) pss_nil) (pss_cons (ps_expr (tbm_K (K:=K) rfl (pe_bm PySem.F.plainAttrs_list PySem.F.slot_list_append PySem.F.type_list_append mt_append (pfl K (pv 0)) (pa1 (pv 2))))) (pss_one (ps_ret (pe_lst (pa1 (pe_fn c_shears hr (pa2 (pv 0) (pfl K (pv 0))))))))))),?_⟩
    refine (ev_tup2 (ev_var rfl q1)) G H (same_refl _) sG _ fun a G1 H1 e1 p1=>?_
    refine (evt_b (ev_in2 (ev_var rfl p1) (ev_bars X (ev_var rfl (Stab.st e1.mono q0))))) G1 H1 (same_refl _) e1.sub _ fun G2 H2 x2=>?_
    cases hc:W.bars.contains b with
    | true =>
      rw [if_pos rfl]
      rw [hc,if_pos rfl,if_pos rfl] at k
      exact ev_lst I [-17] (eva_cons ev_int eva_nil) (by decide) G2 H2 (same_refl _) x2.sub _ fun v G3 H3 e3 p3=>k v H3 (.same (e1.trans (x2.trans e3)) wa p3)
    | false =>
      rw [if_neg (by decide)]
      rw [hc,if_neg (by decide),if_neg (by decide)] at k
      have wa2:=wa.same (e1.mono.trans x2.mono)
      obtain ⟨c,ws,ec,hbl,pb⟩:=wa2.br
      cases ec
      have hl:=Paired.length pb
      refine ⟨_,rfl,p,C,dx,_,_,rfl,x2.sub _ _ wa2.ins,X.cl,X.nB,wf_bars,.inl ⟨rfl,_,SqL.of (x2.sub _ _ hbl)⟩,_,rfl,bl,ws,a,rfl,rfl,x2.sub _ _ hbl,(by rw [sizeLine_eq]; omega),?_⟩
      have wa3:WAt C { W with bars:=W.bars ++ [b] } (upd G2 bl (.lst (ws ++ [a]))) p dx bl tl:=wa2.setBars (paired_app pb (.cons (Stab.st x2.mono p1) .nil))
      have q3:WA C { W with bars:=W.bars ++ [b] } (upd G2 bl (.lst (ws ++ [a]))) (.ref p):=⟨p,dx,bl,tl,rfl,wa3⟩
      have hin:inW { W with bars:=W.bars ++ [b] } (W.bars ++ [b]):=ok.2.1.app hz hb1 hb2
      refine ev_lst I [(sh W.m W.n (W.bars ++ [b]):Nat)] (eva_cons (ev_shears (W:={ W with bars:=W.bars ++ [b] }) (ev_var rfl q3) (ev_bars X (ev_var rfl q3)) ok.1 hin) eva_nil) (by show 1 <= 1000; decide) _ _ (same_refl _) (same_upd2 x2.sub) _ fun v G4 H4 e4 p4=>k v H4 ⟨⟨G4,bl,tl,wa3.same e4.mono,e4.sub,.inl rfl,.inl rfl,p4,dom_upd (e1.trans x2) hbl e4⟩,fun y o hy n1 n2 n3=>e4.big _ _ (by rw [upd_ne n2]; exact x2.big _ _ (e1.big _ _ hy))⟩
abbrev s_call_free:Stmt:=top 26
theorem sc_call_free:FnScope ["wall","handed","bar"] ["wall","handed"] (defScope s_call_free):=scm (by decide +kernel)
def sp_call_free (C:Addr) :Sp:=spW (ι:=Nat × Nat) C (fun b=>[Ls NI [b.1,b.2]]) (fun b W=>okW W /\ W.bars.Nodup) (fun b W=>if W.bars.contains b then { W with bars:=wo W.bars b } else W) (fun b W=>if W.bars.contains b then [(sh W.m W.n (wo W.bars b):Nat)] else [-6])
theorem ok_call_free {f C:Addr} {fd:FuncData} (X:Txt K C) (M:Mods mg)  (c_shears:Fn P w K mg base "shears" 4 ["wall","bars"] (sp_shears C)) (F:Fun K "call_free" "call_free" s_call_free f fd):FnOk P w K mg base CX0 5 f fd ["wall","handed"] (sp_call_free C ):=by
  have nd:=(sc_call_free).nd
  refine F.ok sc_call_free (fun vs H Q E h=>?_) (fun cdv B outer s H vs Q E hr h=>?_)
  · exact h.len (n:=1) fun _=>rfl
  · obtain ⟨b,W,G,p,dx,bl,tl,rest,rfl,sG,wa,pr,⟨ok,nd2⟩,k⟩:=h
    obtain ⟨v1,rfl,q1⟩:=all1 pr
    dsimp only at *
    have q0:WA C W G (.ref p):=⟨p,dx,bl,tl,rfl,wa⟩
    refine ⟨_,(pss_cons (psn 2 nd (pe_callTy (cr_tupleK (K:=K) rfl) rfl M.b_tuple boot_tuple (pa1 (pv 1)))) (pss_cons (ps_if (pt_cmpR (op_notinT (room65 hr)) (pv 2) (pfl K (pv 0)) (by with_unfolding_all rfl)) (pss_one (ps_ret (pe_lst (pa1 (pe_glI rfl M.c_NOT_THERE))))) pss_nil) (pss_cons (ps_expr (tbm_K (K:=K) rfl (pe_bm PySem.F.plainAttrs_list PySem.F.slot_list_remove PySem.F.type_list_remove (mt_remove (room65 hr)) (pfl K (pv 0)) (pa1 (pv 2))))) (pss_one (ps_ret (pe_lst (pa1 (pe_fn c_shears hr (pa2 (pv 0) (pfl K (pv 0))))))))))),?_⟩
    refine (ev_tup2 (ev_var rfl q1)) G H (same_refl _) sG _ fun a G1 H1 e1 p1=>?_
    refine (evt_b (ev_notin2 (ev_var rfl p1) (ev_bars X (ev_var rfl (Stab.st e1.mono q0))))) G1 H1 (same_refl _) e1.sub _ fun G2 H2 x2=>?_
    cases hc:W.bars.contains b with
    | false =>
      rw [if_pos (by decide)]
      rw [hc,if_neg (by decide),if_neg (by decide)] at k
      exact ev_lst I [-6] (eva_cons ev_int eva_nil) (by decide) G2 H2 (same_refl _) x2.sub _ fun v G3 H3 e3 p3=>k v H3 (.same (e1.trans (x2.trans e3)) wa p3)
    | true =>
      rw [if_neg (by decide)]
      rw [hc,if_pos rfl,if_pos rfl] at k
      have wa2:=wa.same (e1.mono.trans x2.mono)
      obtain ⟨c,ws,ec,hbl,pb⟩:=wa2.br
      cases ec
      obtain ⟨j,hj,hno⟩:=first_ix (List.contains_iff_mem.mp hc)
      refine ⟨_,rfl,p,C,dx,_,_,rfl,x2.sub _ _ wa2.ins,X.cl,X.nB,wf_bars,.inl ⟨rfl,_,SqL.of (x2.sub _ _ hbl)⟩,_,rfl,bl,ws,W.bars.map e2,a,e2 b,j,rfl,rfl,x2.sub _ _ hbl,paired_map (paired_st x2.sub pb),Stab.st (x2.mono.trans x2.sub) p1,(by rw [List.getElem?_map,hj]; rfl),(fun m hm z=>hno m hm (map_ix e2_inj z)),?_⟩
      have pb':Paired (fun u x=>P2 x G2 u) (ws.eraseIdx j) (wo W.bars b):=by
        rw [<- erase_wo nd2 hj]
        exact paired_erase j pb
      have wa3:WAt C { W with bars:=wo W.bars b } (upd G2 bl (.lst (ws.eraseIdx j))) p dx bl tl:=wa2.setBars pb'
      have q3:WA C { W with bars:=wo W.bars b } (upd G2 bl (.lst (ws.eraseIdx j))) (.ref p):=⟨p,dx,bl,tl,rfl,wa3⟩
      refine ev_lst I [(sh W.m W.n (wo W.bars b):Nat)] (eva_cons (ev_shears (W:={ W with bars:=wo W.bars b }) (ev_var rfl q3) (ev_bars X (ev_var rfl q3)) ok.1 ok.2.1.wo) eva_nil) (by show 1 <= 1000; decide) _ _ (same_refl _) (same_upd2 x2.sub) _ fun v G4 H4 e4 p4=>k v H4 ⟨⟨G4,bl,tl,wa3.same e4.mono,e4.sub,.inl rfl,.inl rfl,p4,dom_upd (e1.trans x2) hbl e4⟩,fun y o hy n1 n2 n3=>e4.big _ _ (by rw [upd_ne n2]; exact x2.big _ _ (e1.big _ _ hy))⟩
abbrev s_call_tie:Stmt:=top 71
theorem sc_call_tie:FnScope ["wall","handed","tie"] ["wall","handed"] (defScope s_call_tie):=scm (by decide +kernel)
def sp_call_tie (C:Addr) :Sp:=spW (ι:=Nat × Nat × Nat) C (fun t=>[Ls NI [t.1,t.2.1,t.2.2]]) (fun t W=>okW W /\ W.ties.length <= 50 /\ t.1 < W.m /\ t.2.1 < W.n /\ t.2.2 <= 1) (fun t W=>if W.ties.contains t then W else { W with ties:=W.ties ++ [t] }) (fun t W=>if W.ties.contains t then [-17] else [(tp W.m W.n (W.ties ++ [t]):Nat)])
theorem ok_call_tie {f C:Addr} {fd:FuncData} (X:Txt K C) (M:Mods mg)  (c_tie_parts:Fn P w K mg base "tie_parts" 5 ["wall","ties"] (sp_tie_parts C)) (F:Fun K "call_tie" "call_tie" s_call_tie f fd):FnOk P w K mg base CX0 6 f fd ["wall","handed"] (sp_call_tie C ):=by
  have nd:=(sc_call_tie).nd
  refine F.ok sc_call_tie (fun vs H Q E h=>?_) (fun cdv B outer s H vs Q E hr h=>?_)
  · exact h.len (n:=1) fun _=>rfl
  · obtain ⟨b,W,G,p,dx,bl,tl,rest,rfl,sG,wa,pr,⟨ok,hz,hb1,hb2,hb3⟩,k⟩:=h
    obtain ⟨v1,rfl,q1⟩:=all1 pr
    dsimp only at *
    have q0:WA C W G (.ref p):=⟨p,dx,bl,tl,rfl,wa⟩
    refine ⟨_,(pss_cons (psn 2 nd (pe_callTy (cr_tupleK (K:=K) rfl) rfl M.b_tuple boot_tuple (pa1 (pv 1)))) (pss_cons (ps_if (pt_cmpR (op_inT (room65 hr)) (pv 2) (pfl K (pv 0)) (by with_unfolding_all rfl)) (pss_one (ps_ret (pe_lst (pa1 (pe_glI rfl M.c_THERE_ALREADY))))) pss_nil) (pss_cons (ps_expr (tbm_K (K:=K) rfl (pe_bm PySem.F.plainAttrs_list PySem.F.slot_list_append PySem.F.type_list_append mt_append (pfl K (pv 0)) (pa1 (pv 2))))) (pss_one (ps_ret (pe_lst (pa1 (pe_fn c_tie_parts hr (pa2 (pv 0) (pfl K (pv 0))))))))))),?_⟩
    refine (ev_tup3 (ev_var rfl q1)) G H (same_refl _) sG _ fun a G1 H1 e1 p1=>?_
    refine (evt_b (ev_in3 (ev_var rfl p1) (ev_ties X (ev_var rfl (Stab.st e1.mono q0))))) G1 H1 (same_refl _) e1.sub _ fun G2 H2 x2=>?_
    cases hc:W.ties.contains b with
    | true =>
      rw [if_pos rfl]
      rw [hc,if_pos rfl,if_pos rfl] at k
      exact ev_lst I [-17] (eva_cons ev_int eva_nil) (by decide) G2 H2 (same_refl _) x2.sub _ fun v G3 H3 e3 p3=>k v H3 (.same (e1.trans (x2.trans e3)) wa p3)
    | false =>
      rw [if_neg (by decide)]
      rw [hc,if_neg (by decide),if_neg (by decide)] at k
      have wa2:=wa.same (e1.mono.trans x2.mono)
      obtain ⟨c,ws,ec,hbl,pb⟩:=wa2.ti
      cases ec
      have hl:=Paired.length pb
      refine ⟨_,rfl,p,C,dx,_,_,rfl,x2.sub _ _ wa2.ins,X.cl,X.nT,wf_ties,.inl ⟨rfl,_,SqL.of (x2.sub _ _ hbl)⟩,_,rfl,tl,ws,a,rfl,rfl,x2.sub _ _ hbl,(by rw [sizeLine_eq]; omega),?_⟩
      have wa3:WAt C { W with ties:=W.ties ++ [b] } (upd G2 tl (.lst (ws ++ [a]))) p dx bl tl:=wa2.setTies (paired_app pb (.cons (Stab.st x2.mono p1) .nil))
      have q3:WA C { W with ties:=W.ties ++ [b] } (upd G2 tl (.lst (ws ++ [a]))) (.ref p):=⟨p,dx,bl,tl,rfl,wa3⟩
      have hin:inT { W with ties:=W.ties ++ [b] } (W.ties ++ [b]):=ok.2.2.app hz hb1 hb2 hb3
      refine ev_lst I [(tp W.m W.n (W.ties ++ [b]):Nat)] (eva_cons (ev_tp (W:={ W with ties:=W.ties ++ [b] }) (ev_var rfl q3) (ev_ties X (ev_var rfl q3)) ok.1 hin) eva_nil) (by show 1 <= 1000; decide) _ _ (same_refl _) (same_upd2 x2.sub) _ fun v G4 H4 e4 p4=>k v H4 ⟨⟨G4,bl,tl,wa3.same e4.mono,e4.sub,.inl rfl,.inl rfl,p4,dom_upd (e1.trans x2) hbl e4⟩,fun y o hy n1 n2 n3=>e4.big _ _ (by rw [upd_ne n3]; exact x2.big _ _ (e1.big _ _ hy))⟩
abbrev s_call_untie:Stmt:=top 72
theorem sc_call_untie:FnScope ["wall","handed","tie"] ["wall","handed"] (defScope s_call_untie):=scm (by decide +kernel)
def sp_call_untie (C:Addr) :Sp:=spW (ι:=Nat × Nat × Nat) C (fun t=>[Ls NI [t.1,t.2.1,t.2.2]]) (fun t W=>okW W /\ W.ties.Nodup) (fun t W=>if W.ties.contains t then { W with ties:=wo3 W.ties t } else W) (fun t W=>if W.ties.contains t then [(tp W.m W.n (wo3 W.ties t):Nat)] else [-6])
theorem ok_call_untie {f C:Addr} {fd:FuncData} (X:Txt K C) (M:Mods mg)  (c_tie_parts:Fn P w K mg base "tie_parts" 5 ["wall","ties"] (sp_tie_parts C)) (F:Fun K "call_untie" "call_untie" s_call_untie f fd):FnOk P w K mg base CX0 6 f fd ["wall","handed"] (sp_call_untie C ):=by
  have nd:=(sc_call_untie).nd
  refine F.ok sc_call_untie (fun vs H Q E h=>?_) (fun cdv B outer s H vs Q E hr h=>?_)
  · exact h.len (n:=1) fun _=>rfl
  · obtain ⟨b,W,G,p,dx,bl,tl,rest,rfl,sG,wa,pr,⟨ok,nd2⟩,k⟩:=h
    obtain ⟨v1,rfl,q1⟩:=all1 pr
    dsimp only at *
    have q0:WA C W G (.ref p):=⟨p,dx,bl,tl,rfl,wa⟩
    refine ⟨_,(pss_cons (psn 2 nd (pe_callTy (cr_tupleK (K:=K) rfl) rfl M.b_tuple boot_tuple (pa1 (pv 1)))) (pss_cons (ps_if (pt_cmpR (op_notinT (room65 hr)) (pv 2) (pfl K (pv 0)) (by with_unfolding_all rfl)) (pss_one (ps_ret (pe_lst (pa1 (pe_glI rfl M.c_NOT_THERE))))) pss_nil) (pss_cons (ps_expr (tbm_K (K:=K) rfl (pe_bm PySem.F.plainAttrs_list PySem.F.slot_list_remove PySem.F.type_list_remove (mt_remove (room65 hr)) (pfl K (pv 0)) (pa1 (pv 2))))) (pss_one (ps_ret (pe_lst (pa1 (pe_fn c_tie_parts hr (pa2 (pv 0) (pfl K (pv 0))))))))))),?_⟩
    refine (ev_tup3 (ev_var rfl q1)) G H (same_refl _) sG _ fun a G1 H1 e1 p1=>?_
    refine (evt_b (ev_notin3 (ev_var rfl p1) (ev_ties X (ev_var rfl (Stab.st e1.mono q0))))) G1 H1 (same_refl _) e1.sub _ fun G2 H2 x2=>?_
    cases hc:W.ties.contains b with
    | false =>
      rw [if_pos (by decide)]
      rw [hc,if_neg (by decide),if_neg (by decide)] at k
      exact ev_lst I [-6] (eva_cons ev_int eva_nil) (by decide) G2 H2 (same_refl _) x2.sub _ fun v G3 H3 e3 p3=>k v H3 (.same (e1.trans (x2.trans e3)) wa p3)
    | true =>
      rw [if_neg (by decide)]
      rw [hc,if_pos rfl,if_pos rfl] at k
      have wa2:=wa.same (e1.mono.trans x2.mono)
      obtain ⟨c,ws,ec,hbl,pb⟩:=wa2.ti
      cases ec
      obtain ⟨j,hj,hno⟩:=first_ix (List.contains_iff_mem.mp hc)
      refine ⟨_,rfl,p,C,dx,_,_,rfl,x2.sub _ _ wa2.ins,X.cl,X.nT,wf_ties,.inl ⟨rfl,_,SqL.of (x2.sub _ _ hbl)⟩,_,rfl,tl,ws,W.ties.map e3,a,e3 b,j,rfl,rfl,x2.sub _ _ hbl,paired_map (paired_st x2.sub pb),Stab.st (x2.mono.trans x2.sub) p1,(by rw [List.getElem?_map,hj]; rfl),(fun m hm z=>hno m hm (map_ix e3_inj z)),?_⟩
      have pb':Paired (fun u x=>P3 x G2 u) (ws.eraseIdx j) (wo3 W.ties b):=by
        rw [<- erase_wo3 nd2 hj]
        exact paired_erase j pb
      have wa3:WAt C { W with ties:=wo3 W.ties b } (upd G2 tl (.lst (ws.eraseIdx j))) p dx bl tl:=wa2.setTies pb'
      have q3:WA C { W with ties:=wo3 W.ties b } (upd G2 tl (.lst (ws.eraseIdx j))) (.ref p):=⟨p,dx,bl,tl,rfl,wa3⟩
      refine ev_lst I [(tp W.m W.n (wo3 W.ties b):Nat)] (eva_cons (ev_tp (W:={ W with ties:=wo3 W.ties b }) (ev_var rfl q3) (ev_ties X (ev_var rfl q3)) ok.1 ok.2.2.wo3) eva_nil) (by show 1 <= 1000; decide) _ _ (same_refl _) (same_upd2 x2.sub) _ fun v G4 H4 e4 p4=>k v H4 ⟨⟨G4,bl,tl,wa3.same e4.mono,e4.sub,.inl rfl,.inl rfl,p4,dom_upd (e1.trans x2) hbl e4⟩,fun y o hy n1 n2 n3=>e4.big _ _ (by rw [upd_ne n3]; exact x2.big _ _ (e1.big _ _ hy))⟩
abbrev s_call_flip:Stmt:=top 88
theorem sc_call_flip:FnScope ["wall","handed","tie","other"] ["wall","handed"] (defScope s_call_flip):=scm (by decide +kernel)
def sp_call_flip (C:Addr) :Sp:=spW (ι:=Nat × Nat × Nat) C (fun t=>[Ls NI [t.1,t.2.1,t.2.2]]) (fun t W=>okW W /\ W.ties.Nodup /\ t.2.2 <= 1) (fun t W=>u_flip W t) (fun t W=>r_flip W t)
theorem ok_call_flip {f C:Addr} {fd:FuncData} (X:Txt K C) (M:Mods mg)  (c_tie_parts:Fn P w K mg base "tie_parts" 5 ["wall","ties"] (sp_tie_parts C)) (F:Fun K "call_flip" "call_flip" s_call_flip f fd):FnOk P w K mg base CX0 6 f fd ["wall","handed"] (sp_call_flip C ):=by
  have nd:=(sc_call_flip).nd
  refine F.ok sc_call_flip (fun vs H Q E h=>?_) (fun cdv B outer s H vs Q E hr h=>?_)
  · exact h.len (n:=1) fun _=>rfl
  · obtain ⟨b,W,G,p,dx,bl,tl,rest,rfl,sG,wa,pr,⟨ok,nd2,hb1⟩,k⟩:=h
    obtain ⟨v1,rfl,q1⟩:=all1 pr
    dsimp only at *
    have q0:WA C W G (.ref p):=⟨p,dx,bl,tl,rfl,wa⟩
    refine ⟨_,(pss_cons (psn 2 nd (pe_callTy (cr_tupleK (K:=K) rfl) rfl M.b_tuple boot_tuple (pa1 (pv 1)))) (pss_cons (ps_if (pt_cmpR (op_notinT (room65 hr)) (pv 2) (pfl K (pv 0)) (by with_unfolding_all rfl)) (pss_one (ps_ret (pe_lst (pa1 (pe_glI rfl M.c_NOT_THERE))))) pss_nil) (pss_cons (psn 3 nd (pe_tup (pa3 (ixt K (pv 2) pe_int) (ixt K (pv 2) pe_int) (pe_op op_sub pe_int (ixt K (pv 2) pe_int))))) (pss_cons (ps_if (pt_cmpR (op_inT (room65 hr)) (pv 3) (pfl K (pv 0)) (by with_unfolding_all rfl)) (pss_one (ps_ret (pe_lst (pa1 (pe_glI rfl M.c_THERE_ALREADY))))) pss_nil) (pss_cons (ps_asg (pv 3) (pg_sub (pfl K (pv 0)) (tbm_K (K:=K) rfl (pe_bm PySem.F.plainAttrs_list PySem.F.slot_list_index PySem.F.type_list_index (mt_indexT (room65 hr)) (pfl K (pv 0)) (pa1 (pv 2)))) set_list)) (pss_one (ps_ret (pe_lst (pa1 (pe_fn c_tie_parts hr (pa2 (pv 0) (pfl K (pv 0))))))))))))),?_⟩
    unfold u_flip r_flip at k
    refine (ev_tup3 (ev_var rfl q1)) G H (same_refl _) sG _ fun a G1 H1 e1 p1=>?_
    refine (evt_b (ev_notin3 (ev_var rfl p1) (ev_ties X (ev_var rfl (Stab.st e1.mono q0))))) G1 H1 (same_refl _) e1.sub _ fun G2 H2 x2=>?_
    cases hc:W.ties.contains b with
    | false =>
      rw [if_pos (by decide)]
      rw [hc,if_neg (by decide),if_neg (by decide)] at k
      exact ev_lst I [-6] (eva_cons ev_int eva_nil) (by decide) G2 H2 (same_refl _) x2.sub _ fun v G3 H3 e3 p3=>k v H3 (.same (e1.trans (x2.trans e3)) wa p3)
    | true =>
      rw [if_neg (by decide)]
      rw [hc,if_pos rfl,if_pos rfl] at k
      have x12:=e1.trans x2
      unfold tNext tSeq tIfS
      dsimp only
      have p2:=Stab.st (P:=P3 b) x2.mono p1
      refine (ev_tup [(b.1:Int),(b.2.1:Int),((1 - b.2.2:Nat):Int)] (eva_cons (ev_ixT (ev_var rfl p2) ev_int (n:=0) rfl rfl) (eva_cons (ev_ixT (ev_var rfl p2) ev_int (n:=1) rfl rfl) (eva_cons (ev_flipT (ev_var rfl p2) hb1) eva_nil))) (by show 3 <= 1000; decide)) G2 H2 (same_refl _) x2.sub _ fun o G3 H3 x3 p3=>?_
      dsimp only [gName]
      refine (evt_b (ev_in3 (x:=oth b) (ev_var rfl p3) (ev_ties X (ev_var rfl (Stab.st (x12.trans x3).mono q0))))) G3 H3 (same_refl _) x3.sub _ fun G4 H4 x4=>?_
      have x14:=(x12.trans x3).trans x4
      cases hc2:W.ties.contains (oth b) with
      | true =>
        rw [if_pos rfl]
        rw [hc2,if_pos rfl,if_pos rfl] at k
        exact ev_lst I [-17] (eva_cons ev_int eva_nil) (by decide) G4 H4 (same_refl _) x4.sub _ fun v G5 H5 e5 p5=>k v H5 (.same (x14.trans e5) wa p5)
      | false =>
        rw [if_neg (by decide)]
        rw [hc2,if_neg (by decide),if_neg (by decide)] at k
        have wa2:=wa.same x14.mono
        obtain ⟨c,ws,ec,hbl,pb⟩:=wa2.ti
        cases ec
        obtain ⟨j,hj,hno⟩:=first_ix (List.contains_iff_mem.mp hc)
        have hl:=Paired.length pb
        have hjl:=(List.getElem?_eq_some_iff.mp hj).1
        refine ⟨_,rfl,_,rfl,p,C,dx,_,_,rfl,x4.sub _ _ wa2.ins,X.cl,X.nT,wf_ties,_,rfl,p,C,dx,_,_,rfl,x4.sub _ _ wa2.ins,X.cl,X.nT,wf_ties,.inl ⟨rfl,_,SqL.of (x4.sub _ _ hbl)⟩,_,rfl,tl,ws,W.ties.map e3,a,e3 b,j,rfl,rfl,x4.sub _ _ hbl,paired_map (paired_st x4.sub pb),Stab.st ((x3.mono.trans x4.mono).trans x4.sub) p2,(by rw [List.getElem?_map,hj]; rfl),(fun m hm z=>hno m hm (map_ix e3_inj z)),tl,ws,j,j,rfl,rfl,x4.sub _ _ hbl,(by unfold ixN; rw [if_pos (by omega),if_pos (by omega)]; rfl),?_⟩
        have pb':Paired (fun u x=>P3 x G4 u) (ws.set j o) (flipL W.ties b):=by
          unfold flipL
          rw [<- set_flip nd2 hj]
          exact paired_set j pb (Stab.st (P:=P3 (oth b)) x4.mono p3)
        have wa3:WAt C { W with ties:=flipL W.ties b } (upd G4 tl (.lst (ws.set j o))) p dx bl tl:=wa2.setTies pb'
        have q3:WA C { W with ties:=flipL W.ties b } (upd G4 tl (.lst (ws.set j o))) (.ref p):=⟨p,dx,bl,tl,rfl,wa3⟩
        refine ev_lst I [(tp W.m W.n (flipL W.ties b):Nat)] (eva_cons (ev_tp (W:={ W with ties:=flipL W.ties b }) (ev_var rfl q3) (ev_ties X (ev_var rfl q3)) ok.1 (flip_in ok.2.2 hc)) eva_nil) (by show 1 <= 1000; decide) _ _ (same_refl _) (same_upd2 x4.sub) _ fun v G5 H5 e5 p5=>k v H5 ⟨⟨G5,bl,tl,wa3.same e5.mono,e5.sub,.inl rfl,.inl rfl,p5,dom_upd x14 hbl e5⟩,fun y o hy n1 n2 n3=>e5.big _ _ (by rw [upd_ne n3]; exact x14.big _ _ hy)⟩
end
end L2.FF
end
section
namespace L2.FF
open PySem PySem.Spec PyProof.Rows
section
variable {P:Program} {w:World} {K:PySem.W.Frag} {mg:Str -> Option Value} {base:Heap}
abbrev s_mixed_ties:Stmt:=top 94
theorem sc_mixed_ties:FnScope ["wall","bars"] ["wall","bars"] (defScope s_mixed_ties):=scm (by decide +kernel)
def sp_mixed_ties (C:Addr) :Sp:=spP (ι:=WD × List (Nat × Nat)) (fun x=>[WA C x.1,Ls P2 x.2]) (fun x=>x.2.length <= 1000 /\ x.1.ties.length <= 1000) (fun x=>Ls P3 (mixL x.1 x.2))
theorem ok_mixed_ties {f C:Addr} {fd:FuncData} (X:Txt K C) (M:Mods mg)  (c_two_ties:Fn P w K mg base "two_ties" 1 ["places"] (sp_two_ties C)) (F:Fun K "mixed_ties" "mixed_ties" s_mixed_ties f fd):FnOk P w K mg base CX0 2 f fd ["wall","bars"] (sp_mixed_ties C ):=by
  have nd:=(sc_mixed_ties).nd
  refine pure_fn F sc_mixed_ties (fun _=>rfl) fun cdv B outer s H E hr=>⟨_,(pss_one (ps_ret (pe_op op_cat (pe_fn c_two_ties hr (pa1 (pv 1))) (pfl K (pv 0))))),?_⟩
  rintro ⟨W,bs⟩ vs G ⟨h1,h2⟩ p
  obtain ⟨v0,v1,rfl,q0,q1⟩:=all2 p
  clear p
  try dsimp only at *
  exact evn_ret (ev_cat (ev_two2 (ev_var rfl q1) h1) (ev_ties X (ev_var rfl q0)) (by rw [two_len]; omega))
theorem ev_mix {σ:St} {Hs:Hp} {C:Addr} {ta tb:TE} {E:XK} {W:WD} {bs:List (Nat × Nat)} (ha:Ev ta σ Hs (WA C W)) (hb:Ev tb σ Hs (Ls P2 bs)) (h1:bs.length <= 1000) (h2:W.ties.length <= 1000):Ev (tCall (sp_mixed_ties C) [] E (tCons ta (tCons tb tNil))) σ Hs (Ls P3 (mixL W bs)):=ev_call (W,bs) (eva_cons ha (eva_cons hb eva_nil)) ⟨h1,h2⟩
abbrev s_mixed_table:Stmt:=top 95
theorem sc_mixed_table:FnScope ["wall"] ["wall"] (defScope s_mixed_table):=scm (by decide +kernel)
def sp_mixed_table (C:Addr) :Sp:=spP (ι:=WD) (fun x=>[WA C x]) (fun x=>okW x /\ x.bars.length <= 25 /\ x.ties.length <= 50) (fun x=>Ls NI (mtb x))
theorem ok_mixed_table {f C:Addr} {fd:FuncData} (X:Txt K C) (M:Mods mg)  (c_tie_table:Fn P w K mg base "tie_table" 4 ["wall","ties"] (sp_tie_table C)) (c_mixed_ties:Fn P w K mg base "mixed_ties" 2 ["wall","bars"] (sp_mixed_ties C)) (F:Fun K "mixed_table" "mixed_table" s_mixed_table f fd):FnOk P w K mg base CX0 5 f fd ["wall"] (sp_mixed_table C ):=by
  have nd:=(sc_mixed_table).nd
  refine pure_fn F sc_mixed_table (fun _=>rfl) fun cdv B outer s H E hr=>⟨_,(pss_one (ps_ret (pe_fn c_tie_table hr (pa2 (pv 0) (pe_fn c_mixed_ties hr (pa2 (pv 0) (pfl K (pv 0)))))))),?_⟩
  rintro W vs G ⟨ok,hz,hz2⟩ p
  obtain ⟨v0,rfl,q0⟩:=all1 p
  clear p
  try dsimp only at *
  exact evn_ret (ev_call (W,mixL W W.bars) (eva_cons (ev_var rfl q0) (eva_cons (ev_mix (ev_var rfl q0) (ev_bars X (ev_var rfl q0)) (by omega) (by omega)) eva_nil)) ⟨ok.1,(inT.mix ok.2.1 (by omega) ok.2.2 hz2)⟩)
abbrev s_mixed_parts:Stmt:=top 96
theorem sc_mixed_parts:FnScope ["wall","bars"] ["wall","bars"] (defScope s_mixed_parts):=scm (by decide +kernel)
def sp_mixed_parts (C:Addr) :Sp:=spP (ι:=WD × List (Nat × Nat)) (fun x=>[WA C x.1,Ls P2 x.2]) (fun x=>okW x.1 /\ inW x.1 x.2 /\ x.2.length <= 25 /\ x.1.ties.length <= 50) (fun x=>NI (mxp x.1 x.2))
theorem ok_mixed_parts {f C:Addr} {fd:FuncData} (X:Txt K C) (M:Mods mg)  (c_tie_parts:Fn P w K mg base "tie_parts" 5 ["wall","ties"] (sp_tie_parts C)) (c_mixed_ties:Fn P w K mg base "mixed_ties" 2 ["wall","bars"] (sp_mixed_ties C)) (F:Fun K "mixed_parts" "mixed_parts" s_mixed_parts f fd):FnOk P w K mg base CX0 6 f fd ["wall","bars"] (sp_mixed_parts C ):=by
  have nd:=(sc_mixed_parts).nd
  refine pure_fn F sc_mixed_parts (fun _=>rfl) fun cdv B outer s H E hr=>⟨_,(pss_one (ps_ret (pe_fn c_tie_parts hr (pa2 (pv 0) (pe_fn c_mixed_ties hr (pa2 (pv 0) (pv 1))))))),?_⟩
  rintro ⟨W,bs⟩ vs G ⟨ok,h1,hz,hz2⟩ p
  obtain ⟨v0,v1,rfl,q0,q1⟩:=all2 p
  clear p
  try dsimp only at *
  exact evn_ret (ev_tp (ev_var rfl q0) (ev_mix (ev_var rfl q0) (ev_var rfl q1) (by omega) (by omega)) ok.1 (inT.mix h1 (by omega) ok.2.2 hz2))
abbrev s_needed_bars:Stmt:=top 97
theorem sc_needed_bars:FnScope ["wall","bar"] ["wall"] (defScope s_needed_bars):=scm (by decide +kernel)
def sp_needed_bars (C:Addr) :Sp:=spP (ι:=WD) (fun x=>[WA C x]) okW (fun x=>Ls P2 (needB x))
theorem ok_needed_bars {f C:Addr} {fd:FuncData} (X:Txt K C) (M:Mods mg)  (c_is_spare:Fn P w K mg base "is_spare" 5 ["wall","bars","bar"] (sp_is_spare C)) (F:Fun K "needed_bars" "needed_bars" s_needed_bars f fd):FnOk P w K mg base CX0 6 f fd ["wall"] (sp_needed_bars C ):=by
  have nd:=(sc_needed_bars).nd
  refine pure_fn F sc_needed_bars (fun _=>rfl) fun cdv B outer s H E hr=>⟨_,(pss_one (ps_ret (pe_lc rfl nd (pi_listK (K:=K) rfl (pfl K (pv 0))) (blkOk_by (N:=["wall","bar"]) (sc:=defScope s_needed_bars) (own:=[("bar",1)]) (by decide +kernel)) (fun _ _ _ _ _=>pgn 1 nd) (fun _ _ _ _ _=>(pts_one (pt_not (pt_val (pe_fn c_is_spare hr (pa3 (pv 0) (pfl K (pv 0)) (pv 1))))))) (fun _ _ _ _ _=>(pv 1))))),?_⟩
  rintro W vs G ok p
  obtain ⟨v0,rfl,q0⟩:=all1 p
  clear p
  try dsimp only at *
  exact evn_ret ((ev_lcL (P:=P2) (F:=P2) W.bars (fun b=>!isp W.m W.n W.bars b) id (ev_bars X (ev_var rfl q0)) (by have:=ok.2.1.1; omega) (fun x _ u G2 s2 px=>evt_not (evt_v (ev_call (W,W.bars,x) (eva_cons (ev_var rfl (Stab.st s2 q0)) (eva_cons (ev_bars X (ev_var rfl (Stab.st s2 q0))) (eva_cons (ev_var rfl px) eva_nil))) ⟨ok.1,ok.2.1⟩))) fun x _ _ u G2 s2 px=>ev_var rfl px).imp fun H v h=>by rw [List.map_id] at h; exact h)
abbrev s_first_kinds:Stmt:=top 98
theorem sc_first_kinds:FnScope ["wall","table","bars","kind","tie","behind"] ["wall","table","bars"] (defScope s_first_kinds):=scm (by decide +kernel)
def sp_first_kinds (C:Addr) (d:Nat):Sp:=spP (ι:=WD × List Nat × List (Nat × Nat)) (fun x=>[WA C x.1,Ls NI x.2.1,Ls P2 x.2.2]) (fun x=>x.2.2.length < d /\ x.2.2.length <= 1000 /\ sizeOk x.1 /\ x.2.1.length = x.1.m + x.1.n /\ ∀ t ∈ x.2.2,t.1 < x.1.m /\ t.2 < x.1.n) (fun x=>Op (Ls NI) (fkin x.1.m x.2.2 x.2.1))
theorem ok_first_kinds {f C:Addr} {fd:FuncData} (X:Txt K C) (M:Mods mg) {L d:Nat} (hL:4 <= L) (c_is_firm:Fn P w K mg base "is_firm" 1 ["table"] (sp_is_firm C)) (c_stepped:Fn P w K mg base "stepped" 3 ["wall","table","tie"] (sp_stepped C)) (c_first_kinds:Fn P w K mg base "first_kinds" (L + d) ["wall","table","bars"] (sp_first_kinds C d)) (F:Fun K "first_kinds" "first_kinds" s_first_kinds f fd):FnOk P w K mg base CX0 (L + d + 1) f fd ["wall","table","bars"] (sp_first_kinds C (d + 1)):=by
  have nd:=(sc_first_kinds).nd
  refine pure_fn F sc_first_kinds (fun _=>rfl) fun cdv B outer s H E hr=>⟨_,(pss_cons (ps_if (pt_cmpR op_eq (pln K M.b_len (pv 2)) pe_int (nomark _)) (pss_one (ps_ret (pe_ifExp (pt_val (pe_fn c_is_firm hr (pa1 (pv 1)))) (pe_lst pa_nil) pe_non))) pss_nil) (pss_cons (ps_for PassesOwn.never rfl (prg M.b_range (pe_glI rfl M.c_KINDS)) (pgn 3 nd) (pss_cons (psn 4 nd (pe_tup (pa3 (ixt K (ixl K (pv 2) pe_int) pe_int) (ixt K (ixl K (pv 2) pe_int) pe_int) (pv 3)))) (pss_cons (psn 5 nd (pe_fn c_first_kinds hr (pa3 (pv 0) (pe_fn c_stepped hr (pa3 (pv 0) (pv 1) (pv 4))) (pe_slice (sl_listK (K:=K) rfl) (pv 2) (po_some pe_int) po_none)))) (pss_one (ps_if (pt_cmpR op_notN' (pv 5) pe_non (nomark _)) (pss_one (ps_ret (pe_op op_cat (pe_lst (pa1 (pv 3))) (pv 5)))) pss_nil))))) (pss_one (ps_ret pe_non)))),?_⟩
  rintro ⟨W,tb,bs⟩ vs G ⟨hd,hd2,ok,hl,hm⟩ p
  obtain ⟨v0,v1,v2,rfl,q0,q1,q2⟩:=all3 p
  clear p
  try dsimp only at *
  have hs:=ok.sum
  refine evn_ifret (evt_b (ev_eqN (b:=0) (ev_len (ev_var rfl q2)) ev_int)) (fun e=>?_) fun e=>?_
  · have e:bs = []:=List.length_eq_zero_iff.mp (of_decide_eq_true e)
    subst e
    show EvN _ _ _ _ (Op (Ls NI) (if fmT tb = true then some [] else none))
    refine evn_ret (ev_if (evt_v (ev_call tb (eva_cons (ev_var rfl q1) eva_nil) ⟨by omega,by omega⟩)) (fun e=>?_) fun e=>?_)
    · rw [if_pos e]; exact ev_lst NI [] eva_nil
    · rw [if_neg (by rw [e]; decide)]; exact ev_non
  obtain ⟨b,r,rfl⟩:∃ b r,bs = b :: r:=by
    cases bs with
    | nil=>cases e
    | cons b r=>exact ⟨b,r,rfl⟩
  have hb:=hm b List.mem_cons_self
  rw [List.length_cons] at hd hd2
  have fl:fkin W.m (b :: r) tb = (match fkin W.m r (stp W.m tb (b.1,b.2,0)) with | some s=>some (0 :: s) | none=>match fkin W.m r (stp W.m tb (b.1,b.2,1)) with | some s=>some (1 :: s) | none=>none):=rfl
  refine evn_seq (evn_forRng (i:=3) 2 (fun l σ G'=>Same G G' /\ (∃ x y z,σ = [some v0,some v1,some v2,x,y,z]) /\ ∀ i,i < l -> fkin W.m r (stp W.m tb (b.1,b.2,i)) = none) ev_int (by omega) (fun G2 s2=>⟨s2,⟨_,_,_,rfl⟩,fun i hi=>by omega⟩) ?_) fun σ' G2 s2 ⟨s3,⟨x,y,z,e2⟩,ef⟩=>?_
  · rintro l σ' G2 hl2 s2 ⟨s3,⟨x,y,z,rfl⟩,ef⟩
    have b0:Ev (tOp (rIxL K) (tVar 2) (tC (.int 0))) [some v0,some v1,some v2,some (.int l),y,z] G2 (P2 b):=ev_ixL (ev_var rfl (Stab.st s3 q2)) ev_int (n:=0) rfl rfl
    refine evn_set (P:=P3 (b.1,b.2,l)) (ev_tup (e3 (b.1,b.2,l)) (eva_cons (ev_ixT b0 ev_int (n:=0) rfl rfl) (eva_cons (ev_ixT b0 ev_int (n:=1) rfl rfl) (eva_cons (ev_var rfl rfl) eva_nil))) (by show 3 <= 1000; decide)) fun a G3 s4 p4=>?_
    have s5:=s3.trans s4
    refine evn_set (P:=Op (Ls NI) (fkin W.m r (stp W.m tb (b.1,b.2,l)))) (ev_call (W,stp W.m tb (b.1,b.2,l),r) (eva_cons (ev_var rfl (Stab.st s5 q0)) (eva_cons (ev_call (W,tb,(b.1,b.2,l)) (eva_cons (ev_var rfl (Stab.st s5 q0)) (eva_cons (ev_var rfl (Stab.st s5 q1)) (eva_cons ((ev_var (P:=P3 (b.1,b.2,l)) rfl p4).imp fun H v h=>.inl h) eva_nil))) ⟨hl,by dsimp only; omega,hb.1,hb.2⟩) (eva_cons (ev_from (xs:=b :: r) (a:=1) (ev_var rfl (Stab.st s5 q2)) ev_int) eva_nil))) ⟨by dsimp only; omega,by dsimp only; omega,ok,(stp_len _ _ _).trans hl,fun t h=>hm t (List.mem_cons_of_mem _ h)⟩) fun c G4 s6 p6=>?_
    refine evn_if (evt_notN (ev_var rfl p6)) (fun e=>?_) fun e=>evn_nil fun G5 s7=>⟨s5.trans (s6.trans s7),⟨_,_,_,rfl⟩,fun i hi=>?_⟩
    · cases o:fkin W.m r (stp W.m tb (b.1,b.2,l)) with
      | none=>rw [o] at e; cases e
      | some s =>
        rw [o] at p6
        have zs:=(fkin_len o).1
        have fl2:fkin W.m (b :: r) tb = some (l :: s):=by
          rw [fl]
          rcases (show l = 0 \/ l = 1 by omega) with z | z
          · subst z; rw [o]
          · subst z; rw [ef 0 (by omega),o]
        rw [fl2]
        exact evn_ret (ev_cat (ev_lst NI [l] (eva_cons (ev_var rfl rfl) eva_nil) (by show 1 <= 1000; decide)) (ev_var (P:=Ls NI s) rfl p6) (by simp; omega))
    · by_cases h:i = l
      · subst h
        cases o:fkin W.m r (stp W.m tb (b.1,b.2,i)) with
        | none=>rfl
        | some s=>rw [o] at e; cases e
      · exact ef i (by omega)
  · subst e2
    rw [fl,ef 0 (by omega),ef 1 (by omega)]
    exact evn_ret ev_non
section
variable {σ:St} {Hs:Hp} {C:Addr} {ta tb tc:TE} {E E':XK} {W:WD}
theorem ev_mxp {bs:List (Nat × Nat)} (ha:Ev ta σ Hs (WA C W)) (hb:Ev tb σ Hs (Ls P2 bs)) (ok:okW W) (h1:inW W bs) (h2:bs.length <= 25) (h3:W.ties.length <= 50):Ev (tCall (sp_mixed_parts C) [] E (tCons ta (tCons tb tNil))) σ Hs (NI (mxp W bs)):=ev_call (W,bs) (eva_cons ha (eva_cons hb eva_nil)) ⟨ok,h1,h2,h3⟩
theorem ev_mtb (ha:Ev ta σ Hs (WA C W)) (ok:okW W) (h2:W.bars.length <= 25) (h3:W.ties.length <= 50):Ev (tCall (sp_mixed_table C) [] E (tCons ta tNil)) σ Hs (Ls NI (mtb W)):=ev_call W (eva_cons ha eva_nil) ⟨ok,h2,h3⟩
theorem ev_need (ha:Ev ta σ Hs (WA C W)) (ok:okW W):Ev (tCall (sp_needed_bars C) [] E (tCons ta tNil)) σ Hs (Ls P2 (needB W)):=ev_call W (eva_cons ha eva_nil) ok
theorem ev_kinds (ha:Ev ta σ Hs (WA C W)) (hb:Ev tb σ Hs (WA C W)) (hc:Ev tc σ Hs (Ls P2 W.bars)) (ok:okW W) (h:W.bars.length <= 9):Ev (tCall (sp_first_kinds C 10) [] E (tCons ta (tCons (tCall (sp_tie_table C) [] E' (tCons tb (tCons (tLst tNil) tNil))) (tCons tc tNil)))) σ Hs (Op (Ls NI) (sglO W)):=by
  have q:Ev (tCall (sp_tie_table C) [] E' (tCons tb (tCons (tLst tNil) tNil))) σ Hs (Ls NI (tt0 (W.m + W.n))):=ev_call (W,[]) (eva_cons hb (eva_cons (ev_lst P3 [] eva_nil) eva_nil)) ⟨ok.1,Nat.zero_le _,fun t h=>by cases h⟩
  exact ev_call (W,tt0 (W.m + W.n),W.bars) (eva_cons ha (eva_cons q (eva_cons hc eva_nil))) ⟨by dsimp only; omega,by dsimp only; omega,ok.1,by show (tt0 (W.m + W.n)).length = _; unfold tt0; rw [List.length_map,List.length_range],ok.2.1.2⟩
end
theorem ok_first_kindss {f C:Addr} {fd:FuncData} (X:Txt K C) (M:Mods mg) (hm:mg "first_kinds" = some (.ref f)) (hk:PySem.W.keepIn K (.ref f) = true) (hb:Binds K fd ["wall","table","bars"] []) (c_is_firm:Fn P w K mg base "is_firm" 1 ["table"] (sp_is_firm C)) (c_stepped:Fn P w K mg base "stepped" 3 ["wall","table","tie"] (sp_stepped C))
    (F:Fun K "first_kinds" "first_kinds" s_first_kinds f fd):∀ d,FnOk P w K mg base CX0 (4 + d) f fd ["wall","table","bars"] (sp_first_kinds C d)
  | 0=>⟨fun vs H Q E h=>by obtain ⟨y,G,_,c,_⟩:=h; exact absurd c.1 (Nat.not_lt_zero _),fun A outer s H args us vs Q E _ _ _ _ h=>by obtain ⟨y,G,_,c,_⟩:=h; exact absurd c.1 (Nat.not_lt_zero _)⟩
  | d + 1=>ok_first_kinds X M (Nat.le_refl _) c_is_firm c_stepped ⟨f,fd,hm,hk,hb,ok_first_kindss X M hm hk hb c_is_firm c_stepped F d⟩ F
end
end L2.FF
end
section
namespace L2.FF
open PySem PySem.Spec PyProof.Rows
section
variable {P:Program} {w:World} {K:PySem.W.Frag} {mg:Str -> Option Value} {base:Heap}
abbrev s_call_can:Stmt:=top 101
theorem sc_call_can:FnScope ["wall","handed","needed"] ["wall","handed"] (defScope s_call_can):=scm (by decide +kernel)
def sp_call_can (C:Addr) :Sp:=spP (ι:=WD) (fun x=>[WA C x,Ls NI []]) (fun x=>okW x) (fun x=>Ls I (r_can x))
theorem ok_call_can {f C:Addr} {fd:FuncData} (X:Txt K C) (M:Mods mg)  (c_needed_bars:Fn P w K mg base "needed_bars" 6 ["wall"] (sp_needed_bars C)) (c_shears:Fn P w K mg base "shears" 4 ["wall","bars"] (sp_shears C)) (F:Fun K "call_can" "call_can" s_call_can f fd):FnOk P w K mg base CX0 7 f fd ["wall","handed"] (sp_call_can C ):=by
  have nd:=(sc_call_can).nd
  refine pure_fn F sc_call_can (fun _=>rfl) fun cdv B outer s H E hr=>⟨_,(pss_cons (psn 2 nd (pln K M.b_len (pe_fn c_needed_bars hr (pa1 (pv 0))))) (pss_one (ps_ret (pe_lst (pa2 (pe_ifExp (PW.pt (pw_and (pt_cmpR op_eq (pe_fn c_shears hr (pa2 (pv 0) (pfl K (pv 0)))) pe_int (nomark _)) (pw_and1 (pt_cmpR op_eq (pv 2) pe_int (nomark _))))) pe_int pe_int) (pv 2)))))),?_⟩
  rintro W vs G ok p
  obtain ⟨v0,v1,rfl,q0,q1⟩:=all2 p
  refine evn_set (P:=NI (needB W).length) (ev_len (ev_need (ev_var rfl q0) ok)) fun a G1 s1 p1=>?_
  exact evn_ret (ev_lst I (r_can W) (eva_cons (ev_bit (evt_and (evt_b (ev_eqN (b:=0) (ev_call (W,W.bars) (eva_cons (ev_var rfl (Stab.st s1 q0)) (eva_cons (ev_bars X (ev_var rfl (Stab.st s1 q0))) eva_nil)) ⟨ok.1,ok.2.1⟩) ev_int)) fun _=>evt_b (ev_eqN (b:=0) (ev_var rfl p1) ev_int))) (eva_cons (ev_var rfl p1) eva_nil)) (by show 2 <= 1000; decide))
abbrev s_call_needed:Stmt:=top 102
theorem sc_call_needed:FnScope ["wall","handed"] ["wall","handed"] (defScope s_call_needed):=scm (by decide +kernel)
def sp_call_needed (C:Addr) :Sp:=spP (ι:=WD) (fun x=>[WA C x,Ls NI []]) (fun x=>okW x) (fun x=>Ls I (flat2 (needB x)))
theorem ok_call_needed {f C:Addr} {fd:FuncData} (X:Txt K C) (M:Mods mg)  (c_flattened:Fn P w K mg base "flattened" 1 ["places"] (sp_flattened C)) (c_needed_bars:Fn P w K mg base "needed_bars" 6 ["wall"] (sp_needed_bars C)) (F:Fun K "call_needed" "call_needed" s_call_needed f fd):FnOk P w K mg base CX0 7 f fd ["wall","handed"] (sp_call_needed C ):=by
  have nd:=(sc_call_needed).nd
  refine pure_fn F sc_call_needed (fun _=>rfl) fun cdv B outer s H E hr=>⟨_,(pss_one (ps_ret (pe_fn c_flattened hr (pa1 (pe_fn c_needed_bars hr (pa1 (pv 0))))))),?_⟩
  rintro W vs G ok p
  obtain ⟨v0,v1,rfl,q0,q1⟩:=all2 p
  exact evn_ret (ev_flat2 (ev_need (ev_var rfl q0) ok) (Nat.le_trans (List.length_filter_le _ _) ok.2.1.1))
abbrev s_call_mixed:Stmt:=top 103
theorem sc_call_mixed:FnScope ["wall","handed","parts"] ["wall","handed"] (defScope s_call_mixed):=scm (by decide +kernel)
def sp_call_mixed (C:Addr) :Sp:=spP (ι:=WD) (fun x=>[WA C x,Ls NI []]) (fun x=>okW x /\ x.bars.length <= 25 /\ x.ties.length <= 50) (fun x=>Ls I (r_mixed x))
theorem ok_call_mixed {f C:Addr} {fd:FuncData} (X:Txt K C) (M:Mods mg)  (c_mixed_parts:Fn P w K mg base "mixed_parts" 6 ["wall","bars"] (sp_mixed_parts C)) (c_lean_count:Fn P w K mg base "lean_count" 5 ["wall","ties"] (sp_lean_count C)) (c_mixed_ties:Fn P w K mg base "mixed_ties" 2 ["wall","bars"] (sp_mixed_ties C)) (F:Fun K "call_mixed" "call_mixed" s_call_mixed f fd):FnOk P w K mg base CX0 7 f fd ["wall","handed"] (sp_call_mixed C ):=by
  have nd:=(sc_call_mixed).nd
  refine pure_fn F sc_call_mixed (fun _=>rfl) fun cdv B outer s H E hr=>⟨_,(pss_cons (psn 2 nd (pe_fn c_mixed_parts hr (pa2 (pv 0) (pfl K (pv 0))))) (pss_one (ps_ret (pe_lst (pa3 (pe_ifExp (pt_cmpR op_eq (pv 2) pe_int (nomark _)) pe_int pe_int) (pv 2) (pe_fn c_lean_count hr (pa2 (pv 0) (pe_fn c_mixed_ties hr (pa2 (pv 0) (pfl K (pv 0))))))))))),?_⟩
  rintro W vs G ⟨ok,hz,hz2⟩ p
  obtain ⟨v0,v1,rfl,q0,q1⟩:=all2 p
  refine evn_set (P:=NI (mxp W W.bars)) (ev_mxp (ev_var rfl q0) (ev_bars X (ev_var rfl q0)) ok ok.2.1 (by omega) hz2) fun a G1 s1 p1=>?_
  have q2:=Stab.st s1 q0
  exact evn_ret (ev_lst I (r_mixed W) (eva_cons (ev_bit (evt_b (ev_eqN (b:=1) (ev_var rfl p1) ev_int))) (eva_cons (ev_var rfl p1) (eva_cons (ev_lc (ev_var rfl q2) (ev_mix (ev_var rfl q2) (ev_bars X (ev_var rfl q2)) (by omega) (by omega)) ok.1 (inT.mix ok.2.1 (by omega) ok.2.2 hz2)) eva_nil))) (by show 3 <= 1000; decide))
abbrev s_call_mleans:Stmt:=top 104
theorem sc_call_mleans:FnScope ["wall","handed"] ["wall","handed"] (defScope s_call_mleans):=scm (by decide +kernel)
def sp_call_mleans (C:Addr) :Sp:=spP (ι:=WD × (Nat × Nat × Nat)) (fun x=>[WA C x.1,Ls NI [x.2.1,x.2.2.1,x.2.2.2]]) (fun x=>okW x.1 /\ x.1.bars.length <= 25 /\ x.1.ties.length <= 50 /\ x.2.1 < x.1.m /\ x.2.2.1 < x.1.n) (fun x=>Ls I ([bi (mlean x.1.m (mtb x.1) x.2)]))
theorem ok_call_mleans {f C:Addr} {fd:FuncData} (X:Txt K C) (M:Mods mg)  (c_may_lean:Fn P w K mg base "may_lean" 3 ["wall","table","tie"] (sp_may_lean C)) (c_mixed_table:Fn P w K mg base "mixed_table" 5 ["wall"] (sp_mixed_table C)) (F:Fun K "call_mleans" "call_mleans" s_call_mleans f fd):FnOk P w K mg base CX0 6 f fd ["wall","handed"] (sp_call_mleans C ):=by
  have nd:=(sc_call_mleans).nd
  refine pure_fn F sc_call_mleans (fun _=>rfl) fun cdv B outer s H E hr=>⟨_,(pss_one (ps_ret (pe_lst (pa1 (pe_ifExp (pt_val (pe_fn c_may_lean hr (pa3 (pv 0) (pe_fn c_mixed_table hr (pa1 (pv 0))) (pv 1)))) pe_int pe_int))))),?_⟩
  rintro ⟨W,t⟩ vs G ⟨ok,hz,hz2,h1,h2⟩ p
  obtain ⟨v0,v1,rfl,q0,q1⟩:=all2 p
  clear p
  dsimp only at *
  exact evn_ret (ev_lst I [bi (mlean W.m (mtb W) t)] (eva_cons (ev_bit (evt_v (ev_call (W,mtb W,t) (eva_cons (ev_var rfl q0) (eva_cons (ev_mtb (ev_var rfl q0) ok hz hz2) (eva_cons ((ev_var rfl q1).imp fun H v h=>.inr (ls_nat h)) eva_nil))) ⟨tt_len _ _ _,h1,h2⟩))) eva_nil) (by show 1 <= 1000; decide))
abbrev s_call_mpart:Stmt:=top 105
theorem sc_call_mpart:FnScope ["wall","handed"] ["wall","handed"] (defScope s_call_mpart):=scm (by decide +kernel)
def sp_call_mpart (C:Addr) :Sp:=spP (ι:=WD × Nat) (fun x=>[WA C x.1,Ls NI [x.2]]) (fun x=>okW x.1 /\ x.1.bars.length <= 25 /\ x.1.ties.length <= 50 /\ x.2 < x.1.m + x.1.n) (fun x=>Ls I (cnt (tog (mtb x.1) x.2)))
theorem ok_call_mpart {f C:Addr} {fd:FuncData} (X:Txt K C) (M:Mods mg)  (c_counted:Fn P w K mg base "counted" 1 ["numbers"] (sp_counted C)) (c_together:Fn P w K mg base "together" 1 ["table","strip"] (sp_together C)) (c_mixed_table:Fn P w K mg base "mixed_table" 5 ["wall"] (sp_mixed_table C)) (F:Fun K "call_mpart" "call_mpart" s_call_mpart f fd):FnOk P w K mg base CX0 6 f fd ["wall","handed"] (sp_call_mpart C ):=by
  have nd:=(sc_call_mpart).nd
  refine pure_fn F sc_call_mpart (fun _=>rfl) fun cdv B outer s H E hr=>⟨_,(pss_one (ps_ret (pe_fn c_counted hr (pa1 (pe_fn c_together hr (pa2 (pe_fn c_mixed_table hr (pa1 (pv 0))) (ixl K (pv 1) pe_int))))))),?_⟩
  rintro ⟨W,s⟩ vs G ⟨ok,hz,hz2,hs⟩ p
  obtain ⟨v0,v1,rfl,q0,q1⟩:=all2 p
  clear p
  dsimp only at *
  have h3:2 <= W.m + W.n /\ W.m + W.n <= 10:=ok.1.sum
  have hl:(mtb W).length = W.m + W.n:=tt_len _ _ _
  exact evn_ret (ev_counted (ev_call (mtb W,s) (eva_cons (ev_mtb (ev_var rfl q0) ok hz hz2) (eva_cons (ev_ixN (n:=0) (ev_var rfl q1) ev_int (by show 0 < 1; decide)) eva_nil)) ⟨by first | omega | (dsimp only; omega),by first | omega | (dsimp only; omega)⟩) (Nat.le_trans (List.length_filter_le _ _) (by rw [List.length_range]; omega)))
abbrev s_call_idle:Stmt:=top 106
theorem sc_call_idle:FnScope ["wall","handed","parts","bar"] ["wall","handed"] (defScope s_call_idle):=scm (by decide +kernel)
def sp_call_idle (C:Addr) :Sp:=spP (ι:=WD) (fun x=>[WA C x,Ls NI []]) (fun x=>okW x /\ x.bars.length <= 25 /\ x.ties.length <= 50) (fun x=>Ls I (flat2 (idlB x)))
theorem ok_call_idle {f C:Addr} {fd:FuncData} (X:Txt K C) (M:Mods mg)  (c_mixed_parts:Fn P w K mg base "mixed_parts" 6 ["wall","bars"] (sp_mixed_parts C)) (c_flattened:Fn P w K mg base "flattened" 1 ["places"] (sp_flattened C)) (c_without:Fn P w K mg base "without" 1 ["places","place"] (sp_without C)) (F:Fun K "call_idle" "call_idle" s_call_idle f fd):FnOk P w K mg base CX0 7 f fd ["wall","handed"] (sp_call_idle C ):=by
  have nd:=(sc_call_idle).nd
  refine pure_fn F sc_call_idle (fun _=>rfl) fun cdv B outer s H E hr=>⟨_,(pss_cons (psn 2 nd (pe_fn c_mixed_parts hr (pa2 (pv 0) (pfl K (pv 0))))) (pss_one (ps_ret (pe_fn c_flattened hr (pa1 (pe_lc rfl nd (pi_listK (K:=K) rfl (pfl K (pv 0))) (blkOk_by (N:=["wall","handed","parts","bar"]) (sc:=defScope s_call_idle) (own:=[("bar",3)]) (by decide +kernel)) (fun _ _ _ _ _=>pgn 3 nd) (fun _ _ _ _ _=>(pts_one (pt_cmpR op_eq (pe_fn c_mixed_parts hr (pa2 (pv 0) (pe_fn c_without hr (pa2 (pfl K (pv 0)) (pv 3))))) (pv 2) (nomark _)))) (fun _ _ _ _ _=>(pv 3)))))))),?_⟩
  rintro W vs G ⟨ok,hz,hz2⟩ p
  obtain ⟨v0,v1,rfl,q0,q1⟩:=all2 p
  refine evn_set (P:=NI (mxp W W.bars)) (ev_mxp (ev_var rfl q0) (ev_bars X (ev_var rfl q0)) ok ok.2.1 (by omega) hz2) fun a G1 s1 p1=>?_
  exact evn_ret (ev_flat2 ((ev_lcL (P:=P2) (F:=P2) W.bars (fun b=>decide (mxp W (wo W.bars b) = mxp W W.bars)) id (ev_bars X (ev_var rfl (Stab.st s1 q0))) (by omega) (fun x _ u G2 s2 px=>evt_b (ev_eqN (ev_mxp (ev_var rfl (Stab.st (s1.trans s2) q0)) (ev_wo2 (ev_bars X (ev_var rfl (Stab.st (s1.trans s2) q0))) (ev_var rfl px) (by omega)) ok ok.2.1.wo (Nat.le_trans (List.length_filter_le _ _) hz) hz2) (ev_var rfl (Stab.st s2 p1)))) fun x _ _ u G2 s2 px=>ev_var rfl px).imp fun H v h=>by rw [List.map_id] at h; exact h) (Nat.le_trans (List.length_filter_le _ _) ok.2.1.1))
abbrev s_call_change:Stmt:=top 108
theorem sc_call_change:FnScope ["wall","handed","by_two"] ["wall","handed"] (defScope s_call_change):=scm (by decide +kernel)
def sp_call_change (C:Addr) :Sp:=spP (ι:=WD) (fun x=>[WA C x,Ls NI []]) (fun x=>okW x /\ x.bars.length <= 25 /\ x.ties.length <= 50) (fun x=>Ls I (r_change x))
theorem ok_call_change {f C:Addr} {fd:FuncData} (X:Txt K C) (M:Mods mg)  (c_tie_parts:Fn P w K mg base "tie_parts" 5 ["wall","ties"] (sp_tie_parts C)) (c_two_ties:Fn P w K mg base "two_ties" 1 ["places"] (sp_two_ties C)) (c_shears:Fn P w K mg base "shears" 4 ["wall","bars"] (sp_shears C)) (c_mixed_parts:Fn P w K mg base "mixed_parts" 6 ["wall","bars"] (sp_mixed_parts C)) (F:Fun K "call_change" "call_change" s_call_change f fd):FnOk P w K mg base CX0 7 f fd ["wall","handed"] (sp_call_change C ):=by
  have nd:=(sc_call_change).nd
  refine pure_fn F sc_call_change (fun _=>rfl) fun cdv B outer s H E hr=>⟨_,(pss_cons (psn 2 nd (pe_fn c_tie_parts hr (pa2 (pv 0) (pe_fn c_two_ties hr (pa1 (pfl K (pv 0))))))) (pss_one (ps_ret (pe_lst (pa_cons (pe_fn c_shears hr (pa2 (pv 0) (pfl K (pv 0)))) (pa3 (pv 2) (pe_fn c_tie_parts hr (pa2 (pv 0) (pfl K (pv 0)))) (pe_fn c_mixed_parts hr (pa2 (pv 0) (pfl K (pv 0)))))))))),?_⟩
  rintro W vs G ⟨ok,hz,hz2⟩ p
  obtain ⟨v0,v1,rfl,q0,q1⟩:=all2 p
  refine evn_set (P:=NI (tp W.m W.n (two W.bars))) (ev_tp (ev_var rfl q0) (ev_two2 (ev_bars X (ev_var rfl q0)) (by omega)) ok.1 (inT.two ok.2.1 (by omega))) fun a G1 s1 p1=>?_
  have q2:=Stab.st s1 q0
  exact evn_ret (ev_lst I (r_change W) (eva_cons (ev_call (W,W.bars) (eva_cons (ev_var rfl q2) (eva_cons (ev_bars X (ev_var rfl q2)) eva_nil)) ⟨ok.1,ok.2.1⟩) (eva_cons (ev_var rfl p1) (eva_cons (ev_tp (ev_var rfl q2) (ev_ties X (ev_var rfl q2)) ok.1 ok.2.2) (eva_cons (ev_mxp (ev_var rfl q2) (ev_bars X (ev_var rfl q2)) ok ok.2.1 (by omega) hz2) eva_nil)))) (by show 4 <= 1000; decide))
abbrev s_call_count:Stmt:=top 109
theorem sc_call_count:FnScope ["wall","handed"] ["wall","handed"] (defScope s_call_count):=scm (by decide +kernel)
def sp_call_count (C:Addr) :Sp:=spP (ι:=WD) (fun x=>[WA C x,Ls NI []]) (fun x=>okW x) (fun x=>Ls I ([(x.bars.length:Int),(x.ties.length:Int),((x.m + x.n:Nat):Int)]))
theorem ok_call_count {f C:Addr} {fd:FuncData} (X:Txt K C) (M:Mods mg)  (c_strip_count:Fn P w K mg base "strip_count" 1 ["wall"] (sp_strip_count C)) (F:Fun K "call_count" "call_count" s_call_count f fd):FnOk P w K mg base CX0 2 f fd ["wall","handed"] (sp_call_count C ):=by
  have nd:=(sc_call_count).nd
  refine pure_fn F sc_call_count (fun _=>rfl) fun cdv B outer s H E hr=>⟨_,(pss_one (ps_ret (pe_lst (pa3 (pln K M.b_len (pfl K (pv 0))) (pln K M.b_len (pfl K (pv 0))) (pe_fn c_strip_count hr (pa1 (pv 0))))))),?_⟩
  rintro W vs G ok p
  obtain ⟨v0,v1,rfl,q0,q1⟩:=all2 p
  exact evn_ret (ev_lst I [(W.bars.length:Int),(W.ties.length:Int),((W.m + W.n:Nat):Int)] (eva_cons (ev_len (ev_bars X (ev_var rfl q0))) (eva_cons (ev_len (ev_ties X (ev_var rfl q0))) (eva_cons (ev_call W (eva_cons (ev_var rfl q0) eva_nil) trivial) eva_nil))) (by show 3 <= 1000; decide))
abbrev s_call_state:Stmt:=top 110
theorem sc_call_state:FnScope ["wall","handed"] ["wall","handed"] (defScope s_call_state):=scm (by decide +kernel)
def sp_call_state (C:Addr) :Sp:=spP (ι:=WD) (fun x=>[WA C x,Ls NI []]) (fun x=>okW x) (fun x=>Ls I ([(x.m:Int),(x.n:Int),(x.bars.length:Int),(x.ties.length:Int)]))
theorem ok_call_state {f C:Addr} {fd:FuncData} (X:Txt K C) (M:Mods mg)   (F:Fun K "call_state" "call_state" s_call_state f fd):FnOk P w K mg base CX0 1 f fd ["wall","handed"] (sp_call_state C ):=by
  have nd:=(sc_call_state).nd
  refine pure_fn F sc_call_state (fun _=>rfl) fun cdv B outer s H E hr=>⟨_,(pss_one (ps_ret (pe_lst (pa_cons (pfl K (pv 0)) (pa3 (pfl K (pv 0)) (pln K M.b_len (pfl K (pv 0))) (pln K M.b_len (pfl K (pv 0)))))))),?_⟩
  rintro W vs G ok p
  obtain ⟨v0,v1,rfl,q0,q1⟩:=all2 p
  exact evn_ret (ev_lst I [(W.m:Int),(W.n:Int),(W.bars.length:Int),(W.ties.length:Int)] (eva_cons (ev_rows X (ev_var rfl q0)) (eva_cons (ev_cols X (ev_var rfl q0)) (eva_cons (ev_len (ev_bars X (ev_var rfl q0))) (eva_cons (ev_len (ev_ties X (ev_var rfl q0))) eva_nil)))) (by show 4 <= 1000; decide))
end
end L2.FF
end
section
namespace L2.FF
open PySem PySem.Spec PyProof.Rows
section
variable {P:Program} {w:World} {K:PySem.W.Frag} {mg:Str -> Option Value} {base:Heap}
theorem WAt.newTies {C:Addr} {W:WD} {ts:List (Nat × Nat × Nat)} {G H G1 H1:Hp} {p dx bl tl c:Addr} (wa:WAt C W G p dx bl tl) (sG:Same G H) (e1:Ext G H G1 H1) (hc:H c = none) (ht:Ls P3 ts G1 (.ref c)):WAt C { W with ties:=ts } (upd G1 p (.ins C dx (wf W.m W.n bl c))) p dx bl c:=by
  refine (wa.same e1.mono).setIns (Stab.st e1.mono wa.br) ht fun z=>?_
  obtain ⟨b,ws,e,hb,_⟩:=wa.br
  cases e
  rw [<- z,sG _ _ hb] at hc; cases hc
theorem Aft.newTies {C:Addr} {W:WD} {ts:List (Nat × Nat × Nat)} {r:List Int} {G H G1 H1 G4 H4:Hp} {p dx bl tl c:Addr} {v:V} (wa:WAt C W G p dx bl tl) (sG:Same G H) (e1:Ext G H G1 H1) (hc:H c = none) (ht:Ls P3 ts G1 (.ref c)) (e4:Ext (upd G1 p (.ins C dx (wf W.m W.n bl c))) (upd H1 p (.ins C dx (wf W.m W.n bl c))) G4 H4) (q:Ls I r G4 v):Aft C { W with ties:=ts } r G H p dx bl tl v H4 :=
  ⟨⟨G4,bl,c,(wa.newTies sG e1 hc ht).same e4.mono,e4.sub,.inl rfl,.inr hc,q,dom_upd e1 (wa.same e1.mono).ins e4⟩,fun b o hy n1 n2 n3=>e4.big _ _ (by rw [upd_ne n1]; exact e1.big _ _ hy)⟩
theorem lsN_upd {xs:List Nat} {G:Hp} {p:Addr} {o u:HO} {v:V} (h:Ls NI xs G v) (hp:G p = some u) (hu:∀ ys,HO.lst ys ≠ u):Ls NI xs (upd G p o) v:=by
  obtain ⟨a,vs,rfl,h1,h2⟩:=h
  exact ⟨a,vs,rfl,by rw [upd_ne (ne_of h1 hp (hu _))]; exact h1,h2⟩
abbrev s_call_both:Stmt:=top 99
theorem sc_call_both:FnScope ["wall","handed"] ["wall","handed"] (defScope s_call_both):=scm (by decide +kernel)
def sp_call_both (C:Addr) :Sp:=spW (ι:=Unit) C (fun _=>[Ls NI []]) (fun _ W=>okW W /\ W.bars.length <= 50) (fun _ W=>{ W with ties:=two W.bars }) (fun _ W=>[((two W.bars).length:Int),(tp W.m W.n (two W.bars):Nat)])
theorem ok_call_both {f C:Addr} {fd:FuncData} (X:Txt K C) (M:Mods mg)  (c_two_ties:Fn P w K mg base "two_ties" 1 ["places"] (sp_two_ties C)) (c_tie_parts:Fn P w K mg base "tie_parts" 5 ["wall","ties"] (sp_tie_parts C)) (F:Fun K "call_both" "call_both" s_call_both f fd):FnOk P w K mg base CX0 6 f fd ["wall","handed"] (sp_call_both C ):=by
  have nd:=(sc_call_both).nd
  refine F.ok sc_call_both (fun vs H Q E h=>?_) (fun cdv B outer s H vs Q E hr h=>?_)
  · exact h.len (n:=1) fun _=>rfl
  · obtain ⟨_,W,G,p,dx,bl,tl,rest,rfl,sG,wa,pr,⟨ok,hz⟩,k⟩:=h
    obtain ⟨v1,rfl,q1⟩:=all1 pr
    dsimp only at *
    have q0:WA C W G (.ref p):=⟨p,dx,bl,tl,rfl,wa⟩
    refine ⟨_,(pss_cons (ps_fld (pv 0) (pe_fn c_two_ties hr (pa1 (pfl K (pv 0)))) rfl) (pss_one (ps_ret (pe_lst (pa2 (pln K M.b_len (pfl K (pv 0))) (pe_fn c_tie_parts hr (pa2 (pv 0) (pfl K (pv 0))))))))),?_⟩
    refine (ev_two ((ev_bars X (ev_var rfl q0)).imp fun H v h=>ls_sq2 h) (by omega)) G H (same_refl _) sG _ fun v G1 H1 e1 p1=>?_
    obtain ⟨c,rfl,hcn,hcl⟩:=p1.new e1
    refine ⟨_,rfl,p,C,dx,_,rfl,e1.sub _ _ (wa.same e1.mono).ins,X.cl,X.nT,wf_len,?_⟩
    rw [wf_pT]
    have wa3:=wa.newTies sG e1 hcn hcl
    have q3:WA C { W with ties:=two W.bars } _ (.ref p):=⟨p,dx,bl,c,rfl,wa3⟩
    exact ev_lst I [((two W.bars).length:Int),(tp W.m W.n (two W.bars):Nat)] (eva_cons (ev_len (ev_ties X (ev_var rfl q3))) (eva_cons (ev_tp (W:={ W with ties:=two W.bars }) (ev_var rfl q3) (ev_ties X (ev_var rfl q3)) ok.1 (inT.two ok.2.1 hz)) eva_nil)) (by show 2 <= 1000; decide) _ _ (same_refl _) (same_upd2 e1.sub) _ fun v G4 H4 e4 p4=>k v H4 (.newTies wa sG e1 hcn hcl e4 p4)
abbrev s_call_clear:Stmt:=top 107
theorem sc_call_clear:FnScope ["wall","handed","there"] ["wall","handed"] (defScope s_call_clear):=scm (by decide +kernel)
def sp_call_clear (C:Addr) :Sp:=spW (ι:=Unit) C (fun _=>[Ls NI []]) (fun _ W=>okW W) (fun _ W=>{ W with ties:=[] }) (fun _ W=>[(W.ties.length:Int)])
theorem ok_call_clear {f C:Addr} {fd:FuncData} (X:Txt K C) (M:Mods mg)   (F:Fun K "call_clear" "call_clear" s_call_clear f fd):FnOk P w K mg base CX0 1 f fd ["wall","handed"] (sp_call_clear C ):=by
  have nd:=(sc_call_clear).nd
  refine F.ok sc_call_clear (fun vs H Q E h=>?_) (fun cdv B outer s H vs Q E hr h=>?_)
  · exact h.len (n:=1) fun _=>rfl
  · obtain ⟨_,W,G,p,dx,bl,tl,rest,rfl,sG,wa,pr,ok,k⟩:=h
    obtain ⟨v1,rfl,q1⟩:=all1 pr
    dsimp only at *
    have q0:WA C W G (.ref p):=⟨p,dx,bl,tl,rfl,wa⟩
    refine ⟨_,(pss_cons (psn 2 nd (pln K M.b_len (pfl K (pv 0)))) (pss_cons (ps_fld (pv 0) (pe_lst pa_nil) rfl) (pss_one (ps_ret (pe_lst (pa1 (pv 2))))))),?_⟩
    refine (ev_len (ev_ties X (ev_var rfl q0))) G H (same_refl _) sG _ fun v G1 H1 e1 p1=>?_
    refine ⟨Nat.zero_le _,fun c hc=>?_⟩
    have e2:Ext G H (upd G1 c (.lst [])) (upd H1 c (.lst [])):=e1.trans (.alloc _ e1.sub hc)
    have hcl:Ls P3 [] (upd G1 c (.lst [])) (.ref c):=⟨c,[],rfl,upd_same,.nil⟩
    have hcn:=e1.big.free hc
    refine ⟨_,rfl,p,C,dx,_,rfl,e2.sub _ _ (wa.same e2.mono).ins,X.cl,X.nT,wf_len,?_⟩
    rw [wf_pT]
    exact ev_lst I [(W.ties.length:Int)] (eva_cons (ev_var (P:=I (W.ties.length:Int)) (Hs:=upd (upd G1 c (.lst [])) p (.ins C dx (wf W.m W.n bl c))) rfl p1) eva_nil) (by show 1 <= 1000; decide) _ _ (same_refl _) (same_upd2 e2.sub) _ fun v G4 H4 e4 p4=>k v H4 (.newTies wa sG e2 hcn hcl e4 p4)
abbrev s_call_single:Stmt:=top 100
theorem sc_call_single:FnScope ["wall","handed","kinds","bar","kind"] ["wall","handed"] (defScope s_call_single):=scm (by decide +kernel)
def sp_call_single (C:Addr) :Sp:=spW (ι:=Unit) C (fun _=>[Ls NI []]) (fun _ W=>okW W) (fun _ W=>u_single W) (fun _ W=>r_single W)
theorem ok_call_single {f C:Addr} {fd:FuncData} (X:Txt K C) (M:Mods mg)  (c_first_kinds:Fn P w K mg base "first_kinds" 14 ["wall","table","bars"] (sp_first_kinds C 10)) (c_tie_table:Fn P w K mg base "tie_table" 4 ["wall","ties"] (sp_tie_table C)) (c_counted:Fn P w K mg base "counted" 1 ["numbers"] (sp_counted C)) (F:Fun K "call_single" "call_single" s_call_single f fd):FnOk P w K mg base CX0 15 f fd ["wall","handed"] (sp_call_single C ):=by
  have nd:=(sc_call_single).nd
  refine F.ok sc_call_single (fun vs H Q E h=>?_) (fun cdv B outer s H vs Q E hr h=>?_)
  · exact h.len (n:=1) fun _=>rfl
  · obtain ⟨_,W,G,p,dx,bl,tl,rest,rfl,sG,wa,pr,ok,k⟩:=h
    obtain ⟨v1,rfl,q1⟩:=all1 pr
    dsimp only at *
    have q0:WA C W G (.ref p):=⟨p,dx,bl,tl,rfl,wa⟩
    refine ⟨_,(pss_cons (ps_if (pt_cmpR op_gt (pln K M.b_len (pfl K (pv 0))) (pe_glI rfl M.c_MOST_BARS) (nomark _)) (pss_one (ps_ret (pe_lst (pa1 (pe_glI rfl M.c_TOO_MANY))))) pss_nil) (pss_cons (psn 2 nd (pe_fn c_first_kinds hr (pa3 (pv 0) (pe_fn c_tie_table hr (pa2 (pv 0) (pe_lst pa_nil))) (pfl K (pv 0))))) (pss_cons (ps_if (pt_cmpR op_isN' (pv 2) pe_non (nomark _)) (pss_one (ps_ret (pe_lst (pa1 (pe_glI rfl M.c_NOT_SO))))) pss_nil) (pss_cons (ps_fld (pv 0) (pe_lc rfl nd (pi_zipK (K:=K) rfl M.b_zip (pa2 (pfl K (pv 0)) (pv 2))) (blkOk_by (N:=["wall","handed","kinds","bar","kind"]) (sc:=defScope s_call_single) (own:=[("bar",3),("kind",4)]) (by decide +kernel)) (fun _ _ _ _ _=>pg_tupK (K:=K) (n:=2) rfl rfl (pgs_cons (pgn 3 nd) (pgs_cons (pgn 4 nd) pgs_nil))) (fun _ _ _ _ _=>pts_nil) (fun _ _ _ _ _=>(pe_tup (pa3 (ixt K (pv 3) pe_int) (ixt K (pv 3) pe_int) (pv 4))))) rfl) (pss_one (ps_ret (pe_fn c_counted hr (pa1 (pv 2))))))))),?_⟩
    unfold u_single r_single at k
    refine evt_b (ev_gtN (b:=9) (ev_len (ev_bars X (ev_var rfl q0))) ev_int) G H (same_refl _) sG _ fun G1 H1 e1=>?_
    by_cases hc:9 < W.bars.length
    · rw [if_pos (decide_eq_true hc)]
      rw [if_pos hc,if_pos hc] at k
      exact ev_lst I [-28] (eva_cons ev_int eva_nil) (by decide) G1 H1 (same_refl _) e1.sub _ fun v G3 H3 x3 p3=>k v H3 (.same (e1.trans x3) wa p3)
    rw [if_neg (by rw [decide_eq_false hc]; decide)]
    rw [if_neg hc,if_neg hc] at k
    unfold tNext tSeq tIfS
    dsimp only
    have q2:=Stab.st e1.mono q0
    refine (ev_kinds (ev_var rfl q2) (ev_var rfl q2) (ev_bars X (ev_var rfl q2)) ok (by omega)) G1 H1 (same_refl _) e1.sub _ fun kv G2 H2 e2 p2=>?_
    dsimp only [gName]
    refine evt_isN (ev_var rfl p2) G2 H2 (same_refl _) e2.sub _ fun G3 H3 x3=>?_
    have E3:=(e1.trans e2).trans x3
    cases ho:sglO W with
    | none =>
      rw [ho] at k
      rw [if_pos (by rfl)]
      exact ev_lst I [-33] (eva_cons ev_int eva_nil) (by decide) G3 H3 (same_refl _) x3.sub _ fun v G4 H4 e4 p4=>k v H4 (.same (E3.trans e4) wa p4)
    | some ks =>
      rw [ho] at k p2
      rw [if_neg (by intro z; cases z)]
      have hz:=(fkin_len ho).1
      refine (ev_lcZZ (P:=P2) (R:=NI) (F:=P3) (i:=3) (j:=4) W.bars ks (fun x d=>(x.1,x.2,d)) (by decide) (ev_bars X (ev_var rfl (Stab.st E3.mono q0))) (ev_var rfl (Stab.st (P:=Ls NI ks) x3.mono p2)) hz.symm (by omega) fun k c n v u hc hn G4 s4 pc pn=>ev_tup (e3 (c.1,c.2,n)) (eva_cons (ev_ixT (ev_var rfl pc) ev_int (n:=0) rfl rfl) (eva_cons (ev_ixT (ev_var rfl pc) ev_int (n:=1) rfl rfl) (eva_cons (ev_var rfl pn) eva_nil))) (by show 3 <= 1000; decide)) G3 H3 (same_refl _) x3.sub _ fun v G4 H4 e4 p4=>?_
      obtain ⟨c,rfl,hcn,hcl⟩:=p4.new e4
      have E4:=E3.trans e4
      have hcn0:=E3.big.free hcn
      have ins4:=(wa.same E4.mono).ins
      refine ⟨_,rfl,p,C,dx,_,rfl,e4.sub _ _ ins4,X.cl,X.nT,wf_len,?_⟩
      rw [wf_pT]
      exact ev_counted (ev_var rfl (lsN_upd (Stab.st (P:=Ls NI ks) (x3.mono.trans e4.mono) p2) ins4 (fun _ z=>by cases z))) (by omega) _ _ (same_refl _) (same_upd2 e4.sub) _ fun v G5 H5 e5 p5=>k v H5 (.newTies wa sG E4 hcn0 hcl e5 p5)
end
end L2.FF
end
section
namespace L2.FF
open PySem PySem.Spec PyProof.Rows
section
variable {P:Program} {w:World} {K:PySem.W.Frag} {mg:Str -> Option Value} {base:Heap}
def there (W:WD) (c v:Nat):Bool:=if (decide (c = 105) || decide (c = 107)) = true then decide (v < W.m) else if (decide (c = 106) || decide (c = 108)) = true then decide (v < W.n) else if decide (c = 115) = true then decide (v < W.m + W.n) else decide (v < 2)
def allThere (W:WD) (x:Str) (ns:List Nat):Bool:=if decide (x = "w") = true then true else ((x.cps.toList.zip ns).map fun p=>there W p.1 p.2).all id
theorem sgn_eq {c:Nat} (k:Nat) (x:Str) (h:x = sgn k):decide (sgn c = x) = decide (c = k):=by
  rw [h,decide_eq_decide]
  constructor
  · intro e
    have:=congrArg (fun s:Str=>s.cps[0]?) e
    exact Option.some.inj this
  · intro e; rw [e]
abbrev s_is_there:Stmt:=top 121
theorem sc_is_there:FnScope ["wall","letter","value"] ["wall","letter","value"] (defScope s_is_there):=scm (by decide +kernel)
def sp_is_there (C:Addr) :Sp:=spP (ι:=WD × Nat × Nat) (fun x=>[WA C x.1,T (sgn x.2.1),NI x.2.2]) (fun _=>True) (fun x=>B (there x.1 x.2.1 x.2.2))
theorem ok_is_there {f C:Addr} {fd:FuncData} (X:Txt K C) (M:Mods mg)  (c_strip_count:Fn P w K mg base "strip_count" 1 ["wall"] (sp_strip_count C)) (F:Fun K "is_there" "is_there" s_is_there f fd):FnOk P w K mg base CX0 2 f fd ["wall","letter","value"] (sp_is_there C ):=by
  have nd:=(sc_is_there).nd
  refine pure_fn F sc_is_there (fun _=>rfl) fun cdv B outer s H E hr=>⟨_,(pss_cons (ps_if (PW.pt (pw_or (pt_cmpR op_eq (pv 1) pe_str (nomark _)) (pw_or1 (pt_cmpR op_eq (pv 1) pe_str (nomark _))))) (pss_one (ps_ret (pe_cmpR op_lt (pv 2) (pfl K (pv 0)) (nomark _)))) pss_nil) (pss_cons (ps_if (PW.pt (pw_or (pt_cmpR op_eq (pv 1) pe_str (nomark _)) (pw_or1 (pt_cmpR op_eq (pv 1) pe_str (nomark _))))) (pss_one (ps_ret (pe_cmpR op_lt (pv 2) (pfl K (pv 0)) (nomark _)))) pss_nil) (pss_cons (ps_if (pt_cmpR op_eq (pv 1) pe_str (nomark _)) (pss_one (ps_ret (pe_cmpR op_lt (pv 2) (pe_fn c_strip_count hr (pa1 (pv 0))) (nomark _)))) pss_nil) (pss_one (ps_ret (pe_cmpR op_lt (pv 2) (pe_glI rfl M.c_KINDS) (nomark _))))))),?_⟩
  rintro ⟨W,c,v⟩ vs G _ p
  obtain ⟨v0,v1,v2,rfl,q0,q1,q2⟩:=all3 p
  clear p
  dsimp only at *
  refine evn_ifret (evt_or (evt_b (ev_eqS (ev_var rfl q1) ev_str)) fun _=>evt_b (ev_eqS (ev_var rfl q1) ev_str)) (fun e=>evn_ret ((ev_ltN (ev_var rfl q2) (ev_rows X (ev_var rfl q0))).imp fun H u h=>?_)) fun e=>?_
  · rw [sgn_eq 105 "i" rfl,sgn_eq 107 "k" rfl] at e
    unfold there; rw [if_pos e]; exact h
  refine evn_ifret (evt_or (evt_b (ev_eqS (ev_var rfl q1) ev_str)) fun _=>evt_b (ev_eqS (ev_var rfl q1) ev_str)) (fun e2=>evn_ret ((ev_ltN (ev_var rfl q2) (ev_cols X (ev_var rfl q0))).imp fun H u h=>?_)) fun e2=>?_
  · rw [sgn_eq 105 "i" rfl,sgn_eq 107 "k" rfl] at e
    rw [sgn_eq 106 "j" rfl,sgn_eq 108 "l" rfl] at e2
    unfold there; rw [if_neg (by rw [e]; decide),if_pos e2]; exact h
  refine evn_ifret (evt_b (ev_eqS (ev_var rfl q1) ev_str)) (fun e3=>evn_ret ((ev_ltN (ev_var rfl q2) (ev_call W (eva_cons (ev_var rfl q0) eva_nil) trivial)).imp fun H u h=>?_)) fun e3=>?_
  · rw [sgn_eq 105 "i" rfl,sgn_eq 107 "k" rfl] at e
    rw [sgn_eq 106 "j" rfl,sgn_eq 108 "l" rfl] at e2
    rw [sgn_eq 115 "s" rfl] at e3
    unfold there; rw [if_neg (by rw [e]; decide),if_neg (by rw [e2]; decide),if_pos e3]; exact h
  · refine evn_ret ((ev_ltN (b:=2) (ev_var rfl q2) ev_int).imp fun H u h=>?_)
    rw [sgn_eq 105 "i" rfl,sgn_eq 107 "k" rfl] at e
    rw [sgn_eq 106 "j" rfl,sgn_eq 108 "l" rfl] at e2
    rw [sgn_eq 115 "s" rfl] at e3
    unfold there; rw [if_neg (by rw [e]; decide),if_neg (by rw [e2]; decide),if_neg (by rw [e3]; decide)]; exact h
abbrev s_all_there:Stmt:=top 122
theorem sc_all_there:FnScope ["wall","letters","handed","letter","value"] ["wall","letters","handed"] (defScope s_all_there):=scm (by decide +kernel)
def sp_all_there (C:Addr) :Sp:=spP (ι:=WD × Str × List Nat) (fun x=>[WA C x.1,T x.2.1,Ls NI x.2.2]) (fun x=>x.2.2.length <= 1000 /\ (x.2.1 = "w" \/ (x.2.1.cps.size = x.2.2.length /\ x.2.1.cps.all (· < 128) = true))) (fun x=>B (allThere x.1 x.2.1 x.2.2))
theorem ok_all_there {f C:Addr} {fd:FuncData} (X:Txt K C) (M:Mods mg)  (c_is_there:Fn P w K mg base "is_there" 2 ["wall","letter","value"] (sp_is_there C)) (F:Fun K "all_there" "all_there" s_all_there f fd):FnOk P w K mg base CX0 3 f fd ["wall","letters","handed"] (sp_all_there C ):=by
  have nd:=(sc_all_there).nd
  refine pure_fn F sc_all_there (fun _=>rfl) fun cdv B outer s H E hr=>⟨_,(pss_cons (ps_if (pt_cmpR op_eq (pv 1) (pe_glS rfl M.c_WAY) (nomark _)) (pss_one (ps_ret pe_bl)) pss_nil) (pss_one (ps_ret (pe_callB (cr_allK (K:=K) rfl rfl) rfl M.b_all boot_all (pa1 (pe_lc rfl nd (pi_zipS (K:=K) rfl M.b_zip (pa2 (pv 1) (pv 2))) (blkOk_by (N:=["wall","letters","handed","letter","value"]) (sc:=defScope s_all_there) (own:=[("letter",3),("value",4)]) (by decide +kernel)) (fun _ _ _ _ _=>pg_tupK (K:=K) (n:=2) rfl rfl (pgs_cons (pgn 3 nd) (pgs_cons (pgn 4 nd) pgs_nil))) (fun _ _ _ _ _=>pts_nil) (fun _ _ _ _ _=>(pe_fn c_is_there hr (pa3 (pv 0) (pv 3) (pv 4)))))))))),?_⟩
  rintro ⟨W,x,ns⟩ vs G ⟨hz,hx⟩ p
  obtain ⟨v0,v1,v2,rfl,q0,q1,q2⟩:=all3 p
  clear p
  dsimp only at *
  refine evn_ifret (evt_b (ev_eqS (ev_var rfl q1) ev_str)) (fun e=>evn_ret (ev_bl.imp fun H u h=>?_)) fun e=>?_
  · unfold allThere; rw [if_pos e]; exact h
  · obtain ⟨h1,h2⟩:=hx.resolve_left (of_decide_eq_false e)
    refine evn_ret ((ev_all (ev_lcZ (F:=L2.FF.B) (i:=3) (j:=4) x ns (there W) (by decide) (ev_var rfl q1) (ev_var rfl q2) h1 h2 hz fun k c n hc hn G2 s2=>?_)).imp fun H u h=>?_)
    · exact ev_call (W,c,n) (eva_cons (ev_var rfl (Stab.st s2 q0)) (eva_cons (ev_var rfl rfl) (eva_cons (ev_var rfl rfl) eva_nil))) trivial
    · unfold allThere; rw [if_neg (by rw [e]; decide)]; exact h
end
end L2.FF
end
section
namespace L2.FF
open PySem PySem.Spec PyProof.Rows
section
variable {P:Program} {w:World} {K:PySem.W.Frag} {mg:Str -> Option Value} {base:Heap}
def beginOk (r c:Nat):Bool:=!(decide (r < 1) || (decide (5 < r) || (decide (c < 1) || decide (5 < c))))
abbrev s_begin:Stmt:=top 123
theorem sc_begin:FnScope ["wall","rows","columns"] ["wall","rows","columns"] (defScope s_begin):=scm (by decide +kernel)
def sp_begin (C:Addr) :Sp:=spW (ι:=Nat × Nat) C (fun x=>[NI x.1,NI x.2]) (fun _ _=>True) (fun x W=>if beginOk x.1 x.2 then ⟨x.1,x.2,[],[]⟩ else W) (fun x W=>if beginOk x.1 x.2 then [0] else [-22])
theorem ok_begin {f C:Addr} {fd:FuncData} (X:Txt K C) (M:Mods mg)   (F:Fun K "begin" "begin" s_begin f fd):FnOk P w K mg base CX0 1 f fd ["wall","rows","columns"] (sp_begin C ):=by
  have nd:=(sc_begin).nd
  refine F.ok sc_begin (fun vs H Q E h=>?_) (fun cdv B outer s H vs Q E hr h=>?_)
  · exact h.len (n:=2) fun _=>rfl
  · obtain ⟨⟨r,c⟩,W,G,p,dx,bl,tl,rest,rfl,sG,wa,pr,_,k⟩:=h
    obtain ⟨v1,v2,rfl,q1,q2⟩:=all2 pr
    dsimp only at *
    refine ⟨_,(pss_cons (ps_if (PW.pt (pw_or (pt_cmpR op_lt (pv 1) pe_int (nomark _)) (pw_or (pt_cmpR op_gt (pv 1) (pe_glI rfl M.c_MOST_ROWS) (nomark _)) (pw_or (pt_cmpR op_lt (pv 2) pe_int (nomark _)) (pw_or1 (pt_cmpR op_gt (pv 2) (pe_glI rfl M.c_MOST_COLUMNS) (nomark _))))))) (pss_one (ps_ret (pe_lst (pa1 (pe_glI rfl M.c_OUT_OF_RANGE))))) pss_nil) (pss_cons (ps_fld (pv 0) (pv 1) rfl) (pss_cons (ps_fld (pv 0) (pv 2) rfl) (pss_cons (ps_fld (pv 0) (pe_lst pa_nil) rfl) (pss_cons (ps_fld (pv 0) (pe_lst pa_nil) rfl) (pss_one (ps_ret (pe_lst (pa1 pe_int))))))))),?_⟩
    refine evt_or (evt_b (ev_ltN (b:=1) (ev_var rfl q1) ev_int)) (fun _=>evt_or (evt_b (ev_gtN (b:=5) (ev_var rfl q1) ev_int)) fun _=>evt_or (evt_b (ev_ltN (b:=1) (ev_var rfl q2) ev_int)) fun _=>evt_b (ev_gtN (b:=5) (ev_var rfl q2) ev_int)) G H (same_refl _) sG _ fun G1 H1 e1=>?_
    cases hc:(decide (r < 1) || (decide (5 < r) || (decide (c < 1) || decide (5 < c)))) with
    | true =>
      rw [if_pos rfl]
      rw [beginOk,hc,Bool.not_true,if_neg (by decide),if_neg (by decide)] at k
      exact ev_lst I [-22] (eva_cons ev_int eva_nil) (by decide) G1 H1 (same_refl _) e1.sub _ fun v G3 H3 e3 p3=>k v H3 (.same (e1.trans e3) wa p3)
    | false =>
      rw [if_neg (by decide)]
      rw [beginOk,hc,Bool.not_false,if_pos rfl,if_pos rfl] at k
      have wa1:=wa.same e1.mono
      have hp:=e1.sub _ _ wa1.ins
      have ev1:v1 = .int (r:Nat):=q1
      have ev2:v2 = .int (c:Nat):=q2
      subst ev1 ev2
      refine ⟨_,rfl,_,rfl,p,C,dx,_,rfl,hp,X.cl,X.nR,wf_len,?_⟩
      rw [wf_pR]
      refine ⟨_,rfl,_,rfl,p,C,dx,_,rfl,upd_same,X.cl,X.nC,wf_len,?_⟩
      rw [wf_pC,upd_upd]
      refine ⟨Nat.zero_le _,fun c1 hc1=>?_⟩
      have n1:c1 ≠ p:=fun z=>by rw [z,upd_same] at hc1; cases hc1
      have f1:H1 c1 = none:=by rw [upd_ne n1] at hc1; exact hc1
      refine ⟨_,rfl,p,C,dx,_,rfl,(by rw [upd_ne n1.symm]; exact upd_same),X.cl,X.nB,wf_len,?_⟩
      rw [wf_pB]
      refine ⟨Nat.zero_le _,fun c2 hc2=>?_⟩
      have n2:c2 ≠ p:=fun z=>by rw [z,upd_same] at hc2; cases hc2
      have n3:c2 ≠ c1:=fun z=>by rw [upd_ne n2,z,upd_same] at hc2; cases hc2
      have f2:H1 c2 = none:=by rw [upd_ne n2,upd_ne n3,upd_ne n2] at hc2; exact hc2
      refine ⟨_,rfl,p,C,dx,_,rfl,(by rw [upd_ne n2.symm]; exact upd_same),X.cl,X.nT,wf_len,?_⟩
      rw [wf_pT]
      have g1:G1 c1 = none:=e1.sub.free f1
      have g2:G1 c2 = none:=e1.sub.free f2
      have sm:Same G1 (upd (upd G1 c1 (.lst [])) c2 (.lst [])):=(same_upd (same_refl _) g1).trans (same_upd (same_refl _) (by rw [upd_ne n3]; exact g2))
      have wa3:WAt C ⟨r,c,[],[]⟩ (upd (upd (upd G1 c1 (.lst [])) c2 (.lst [])) p (.ins C dx (wf r c c1 c2))) p dx c1 c2 :=
        (wa1.same sm).setIns ⟨c1,[],rfl,by rw [upd_ne n3.symm]; exact upd_same,.nil⟩ ⟨c2,[],rfl,upd_same,.nil⟩ n3.symm
      have ss:Same (upd (upd (upd G1 c1 (.lst [])) c2 (.lst [])) p (.ins C dx (wf r c c1 c2))) (upd (upd (upd (upd (upd H1 p (.ins C dx (wf r c bl tl))) c1 (.lst [])) p (.ins C dx (wf r c c1 tl))) c2 (.lst [])) p (.ins C dx (wf r c c1 c2))):=fun y o hy=>by
        by_cases z:y = p
        · subst z; rw [upd_same] at hy ⊢; exact hy
        · rw [upd_ne z] at hy ⊢
          by_cases z2:y = c2
          · subst z2; rw [upd_same] at hy ⊢; exact hy
          · rw [upd_ne z2] at hy ⊢
            rw [upd_ne z]
            by_cases z1:y = c1
            · subst z1; rw [upd_same] at hy ⊢; exact hy
            · rw [upd_ne z1] at hy ⊢; rw [upd_ne z]; exact e1.sub _ _ hy
      refine ev_lst (σ:=[]) I [0] (eva_cons ev_int eva_nil) (by decide) _ _ (same_refl _) ss _ fun v G4 H4 e4 p4=>k v H4 ⟨⟨G4,c1,c2,wa3.same e4.mono,e4.sub,.inr (e1.big.free f1),.inr (e1.big.free f2),p4,?_⟩,fun y o hy m1 m2 m3=>e4.big _ _ ?_⟩
      · intro y o hy
        by_cases z:y = p
        · rw [z]; exact .inl ⟨_,wa.ins⟩
        · by_cases z1:y = c1
          · rw [z1]; exact .inr (e1.big.free f1)
          · by_cases z2:y = c2
            · rw [z2]; exact .inr (e1.big.free f2)
            · rcases e4.fr y o hy with q | q
              · rw [upd_ne z,upd_ne z2,upd_ne z1] at q; exact e1.dom _ _ q
              · rw [upd_ne z,upd_ne z2,upd_ne z,upd_ne z1,upd_ne z] at q; exact .inr (e1.big.free q)
      have hy1:=e1.big _ _ hy
      rw [upd_ne m1,upd_ne (ne_of_none hy1 f2),upd_ne m1,upd_ne (ne_of_none hy1 f1),upd_ne m1]
      exact hy1
end
end L2.FF
end
section
namespace L2.FF
open PySem PySem.Spec PyProof.Rows
section
variable {P:Program} {w:World} {K:PySem.W.Frag} {mg:Str -> Option Value} {base:Heap}
abbrev s_bar_answer:Stmt:=top 45
theorem sc_bar_answer:FnScope ["wall","number","handed"] ["wall","number","handed"] (defScope s_bar_answer):=scm (by decide +kernel)
def sp_bar_answer (C:Addr) (okC:Nat -> List Nat -> WD -> Prop) (upC:Nat -> List Nat -> WD -> WD) (anC:Nat -> List Nat -> WD -> List Int):Sp:=spW (ι:=Nat × List Nat) C (fun x=>[NI x.1,Ls NI x.2]) (fun x W=>1 <= x.1 /\ x.1 < 20 /\ okC x.1 x.2 W) (fun x W=>upC x.1 x.2 W) (fun x W=>anC x.1 x.2 W)
theorem ok_bar_answer {f C:Addr} {fd:FuncData} (X:Txt K C) (M:Mods mg) {da:Addr} {fs:List (Int × Addr)} {okC:Nat -> List Nat -> WD -> Prop} {upC:Nat -> List Nat -> WD -> WD} {anC:Nat -> List Nat -> WD -> List Int} {L:Nat} (KD:KDict K da fs) (hD:mg "BAR_CALLS" = some (.ref da)) (TB:∀ k,1 <= k -> k < 20 -> ∃ f,(((k:Nat):Int),f) ∈ fs /\ DefOk P w K mg base L f (spU C (okC k) (upC k) (anC k)))  (F:Fun K "bar_answer" "bar_answer" s_bar_answer f fd):FnOk P w K mg base CX0 (L + 1) f fd ["wall","number","handed"] (sp_bar_answer C okC upC anC):=by
  have nd:=(sc_bar_answer).nd
  refine F.ok sc_bar_answer (fun vs H Q E h=>?_) (fun cdv B outer s H vs Q E hr h=>?_)
  · exact h.len (n:=2) fun _=>rfl
  · obtain ⟨⟨k,ns⟩,W,G,p,dx,bl,tl,rest,rfl,sG,wa,pr,⟨h1,h2,h3⟩,kk⟩:=h
    obtain ⟨v1,v2,rfl,q1,q2⟩:=all2 pr
    dsimp only at *
    obtain ⟨g,hg,k',fd',ps',hk',FF',kp,bd⟩:=TB k h1 h2
    refine ⟨_,(pss_one (ps_ret (pe_disp KD hD (pv 1) (pa2 (pv 0) (pv 2)) (fun _ _=>rfl)))),?_⟩
    have ev1:v1 = .int (k:Nat):=q1
    subst ev1
    refine ⟨_,rfl,(k:Int),g,_,rfl,hg,⟨k',fd',ps',FF',hr.mono hk',kp,bd⟩,_,rfl,_,rfl,?_⟩
    exact ⟨ns,W,G,p,dx,bl,tl,[v2],rfl,sG,wa,.cons q2 .nil,h3,kk⟩
abbrev s_tie_answer:Stmt:=top 91
theorem sc_tie_answer:FnScope ["wall","number","handed"] ["wall","number","handed"] (defScope s_tie_answer):=scm (by decide +kernel)
def sp_tie_answer (C:Addr) (okC:Nat -> List Nat -> WD -> Prop) (upC:Nat -> List Nat -> WD -> WD) (anC:Nat -> List Nat -> WD -> List Int):Sp:=spW (ι:=Nat × List Nat) C (fun x=>[NI x.1,Ls NI x.2]) (fun x W=>20 <= x.1 /\ x.1 < 39 /\ okC x.1 x.2 W) (fun x W=>upC x.1 x.2 W) (fun x W=>anC x.1 x.2 W)
theorem ok_tie_answer {f C:Addr} {fd:FuncData} (X:Txt K C) (M:Mods mg) {da:Addr} {fs:List (Int × Addr)} {okC:Nat -> List Nat -> WD -> Prop} {upC:Nat -> List Nat -> WD -> WD} {anC:Nat -> List Nat -> WD -> List Int} {L:Nat} (KD:KDict K da fs) (hD:mg "TIE_CALLS" = some (.ref da)) (TB:∀ k,20 <= k -> k < 39 -> ∃ f,(((k:Nat):Int),f) ∈ fs /\ DefOk P w K mg base L f (spU C (okC k) (upC k) (anC k)))  (F:Fun K "tie_answer" "tie_answer" s_tie_answer f fd):FnOk P w K mg base CX0 (L + 1) f fd ["wall","number","handed"] (sp_tie_answer C okC upC anC):=by
  have nd:=(sc_tie_answer).nd
  refine F.ok sc_tie_answer (fun vs H Q E h=>?_) (fun cdv B outer s H vs Q E hr h=>?_)
  · exact h.len (n:=2) fun _=>rfl
  · obtain ⟨⟨k,ns⟩,W,G,p,dx,bl,tl,rest,rfl,sG,wa,pr,⟨h1,h2,h3⟩,kk⟩:=h
    obtain ⟨v1,v2,rfl,q1,q2⟩:=all2 pr
    dsimp only at *
    obtain ⟨g,hg,k',fd',ps',hk',FF',kp,bd⟩:=TB k h1 h2
    refine ⟨_,(pss_one (ps_ret (pe_disp KD hD (pv 1) (pa2 (pv 0) (pv 2)) (fun _ _=>rfl)))),?_⟩
    have ev1:v1 = .int (k:Nat):=q1
    subst ev1
    refine ⟨_,rfl,(k:Int),g,_,rfl,hg,⟨k',fd',ps',FF',hr.mono hk',kp,bd⟩,_,rfl,_,rfl,?_⟩
    exact ⟨ns,W,G,p,dx,bl,tl,[v2],rfl,sG,wa,.cons q2 .nil,h3,kk⟩
abbrev s_both_answer:Stmt:=top 112
theorem sc_both_answer:FnScope ["wall","number","handed"] ["wall","number","handed"] (defScope s_both_answer):=scm (by decide +kernel)
def sp_both_answer (C:Addr) (okC:Nat -> List Nat -> WD -> Prop) (upC:Nat -> List Nat -> WD -> WD) (anC:Nat -> List Nat -> WD -> List Int):Sp:=spW (ι:=Nat × List Nat) C (fun x=>[NI x.1,Ls NI x.2]) (fun x W=>39 <= x.1 /\ x.1 < 51 /\ okC x.1 x.2 W) (fun x W=>upC x.1 x.2 W) (fun x W=>anC x.1 x.2 W)
theorem ok_both_answer {f C:Addr} {fd:FuncData} (X:Txt K C) (M:Mods mg) {da:Addr} {fs:List (Int × Addr)} {okC:Nat -> List Nat -> WD -> Prop} {upC:Nat -> List Nat -> WD -> WD} {anC:Nat -> List Nat -> WD -> List Int} {L:Nat} (KD:KDict K da fs) (hD:mg "BOTH_CALLS" = some (.ref da)) (TB:∀ k,39 <= k -> k < 51 -> ∃ f,(((k:Nat):Int),f) ∈ fs /\ DefOk P w K mg base L f (spU C (okC k) (upC k) (anC k)))  (F:Fun K "both_answer" "both_answer" s_both_answer f fd):FnOk P w K mg base CX0 (L + 1) f fd ["wall","number","handed"] (sp_both_answer C okC upC anC):=by
  have nd:=(sc_both_answer).nd
  refine F.ok sc_both_answer (fun vs H Q E h=>?_) (fun cdv B outer s H vs Q E hr h=>?_)
  · exact h.len (n:=2) fun _=>rfl
  · obtain ⟨⟨k,ns⟩,W,G,p,dx,bl,tl,rest,rfl,sG,wa,pr,⟨h1,h2,h3⟩,kk⟩:=h
    obtain ⟨v1,v2,rfl,q1,q2⟩:=all2 pr
    dsimp only at *
    obtain ⟨g,hg,k',fd',ps',hk',FF',kp,bd⟩:=TB k h1 h2
    refine ⟨_,(pss_one (ps_ret (pe_disp KD hD (pv 1) (pa2 (pv 0) (pv 2)) (fun _ _=>rfl)))),?_⟩
    have ev1:v1 = .int (k:Nat):=q1
    subst ev1
    refine ⟨_,rfl,(k:Int),g,_,rfl,hg,⟨k',fd',ps',FF',hr.mono hk',kp,bd⟩,_,rfl,_,rfl,?_⟩
    exact ⟨ns,W,G,p,dx,bl,tl,[v2],rfl,sG,wa,.cons q2 .nil,h3,kk⟩
end
end L2.FF
end
section
namespace L2.FF
open PySem PySem.Spec PyProof.Rows
section
variable {P:Program} {w:World} {K:PySem.W.Frag} {mg:Str -> Option Value} {base:Heap}
def sp_answer (C:Addr) (MM:Mach):Sp:=spW (ι:=Nat × List Nat) C (fun x=>[NI x.1,Ls NI x.2]) (fun x W=>MM.ok x W) (fun x W=>MM.up x W) (fun x W=>MM.an x W)
def sp_init (C:Addr):Sp:=fun vs H Q _=>∃ (p dx:Addr),vs = [.ref p] /\ H p = some (.ins C dx []) /\ H dx = some (.own p) /\ ∀ (H2 G2:Hp) (bl tl:Addr),WAt C ⟨0,0,[],[]⟩ G2 p dx bl tl -> Same G2 H2 →
  (∀ b o,G2 b = some o -> b = p \/ b = dx \/ H b = none) -> (∀ b o,H b = some o -> b ≠ p -> H2 b = some o) -> Q .non H2
def WX (C:Addr) (W:WD) (p dx bl tl:Addr):Pr:=fun H v=>v = .ref p /\ WAt C W H p dx bl tl
instance {C:Addr} {W:WD} {p dx bl tl:Addr}:Stab (WX C W p dx bl tl):=⟨fun e ⟨q,h⟩=>⟨q,h.same e⟩⟩
theorem ng_of {G H G2 H2:Hp} {g:Addr} {o:HO} (e:Ext G H G2 H2) (ng:G g = none) (hg:H g = some o):G2 g = none:=by
  cases q:G2 g with
  | none=>rfl
  | some u=>exact (e.fr g u q).elim (fun z=>by rw [ng] at z; cases z) fun z=>by rw [hg] at z; cases z
theorem CallsAt.ext {K:PySem.W.Frag} {G H G2 H2:Hp} {a:Addr} {xs:List V} (c:CallsAt K H a xs) (e:Ext G H G2 H2):CallsAt K H2 a xs:=c.imp (fun ⟨o,ho⟩=>⟨o,e.big _ _ ho⟩) id
theorem CallsAt.upd {K:PySem.W.Frag} {H:Hp} {a g:Addr} {xs ys zs:List V} (c:CallsAt K H a xs) (hg:H g = some (.lst ys)):CallsAt K (upd H g (.lst zs)) a xs:=c.imp (fun ⟨o,ho⟩=>⟨o,by rw [upd_ne (ne_of ho hg (by intro z; cases z))]; exact ho⟩) id
theorem tail_ok {K:PySem.W.Frag} {C a p dx bl tl g:Addr} {MM:Mach} {W:WD} {G H:Hp} {full acc:List Int} {c:Nat × List Nat} {ao fst:Nat} {x7:Option V} {D:Ends} (wa:WAt C W G p dx bl tl) (sG:Same G H) (sl:SL K full G (.ref a)) (ng:G g = none) (hg:H g = some (.lst (acc.map V.int)))
    (gb:g ≠ bl) (gt:g ≠ tl) (hc:CallsAt K H a (full.map V.int)) (hf:fst + c.2.length <= full.length) (hcut:(full.drop fst).take c.2.length = c.2.map fun (k:Nat)=>(k:Int)) (hok:MM.ok c W) (hz:(MM.an c W).length <= 1000) (ha:acc.length <= 1000000)
    (fin:∀ (σ':St) (H' G':Hp) (bl' tl':Addr) (y4 y5 y6 y7:Option V),σ' = [some (.ref a),some (.ref p),some (.ref g),some (.int ((fst + c.2.length:Nat):Int)),y4,y5,y6,y7] -> WAt C (MM.up c W) G' p dx bl' tl' -> Same G' H' -> G' g = none →
      H' g = some (.lst ((acc ++ (((MM.an c W).length:Int) :: MM.an c W)).map V.int)) -> g ≠ bl' -> g ≠ tl' -> CallsAt K H' a (full.map V.int) -> D.nx σ' H') :
    tSeq (tAsg (tCall (sp_answer C MM) [] E0 (tCons (tVar 1) (tCons (tVar 4) (tCons (tSl (rSlL K) (tVar 0) (tPart (tVar 5)) (tPart (tOp (rI0 fun i j=>.int (i + j)) (tVar 5) (tVar 6)))) tNil)))) (gName 7))
      (tSeq (tDrop (tBM K "list" rExtend (tVar 2) (tCons (tCall (sp_counted C) [] E0 (tCons (tVar 7) tNil)) tNil))) (tAsg (tOp (rI0 fun i j=>.int (i + j)) (tVar 5) (tVar 6)) (gName 3))) D
      [some (.ref a),some (.ref p),some (.ref g),some (.int (ao:Nat)),some (.int (c.1:Nat)),some (.int (fst:Nat)),some (.int (c.2.length:Nat)),x7] H:=by
  have args:EvA (tCons (tVar 1) (tCons (tVar 4) (tCons (tSl (rSlL K) (tVar 0) (tPart (tVar 5)) (tPart (tOp (rI0 fun i j=>.int (i + j)) (tVar 5) (tVar 6)))) tNil))) [some (.ref a),some (.ref p),some (.ref g),some (.int (ao:Nat)),some (.int (c.1:Nat)),some (.int (fst:Nat)),some (.int (c.2.length:Nat)),x7] G [WX C W p dx bl tl,NI c.1,Ls NI c.2] :=
    eva_cons (ev_var rfl ⟨rfl,wa⟩) (eva_cons (ev_var rfl rfl) (eva_cons ((ev_slice (ev_var rfl sl) (ev_var rfl rfl) (ev_addN (ev_var rfl rfl) (ev_var rfl rfl)) hf).imp fun H v h=>nat_ls (by rw [Nat.add_sub_cancel_left,hcut] at h; exact h)) eva_nil))
  unfold tSeq tAsg
  dsimp only
  rw [tCall]
  refine args G H (same_refl _) sG _ fun vs G1 H1 e1 p1=>?_
  rw [List.append_nil]
  obtain ⟨v,u,w,rfl,q0,q1,q2⟩:=all3 p1
  obtain ⟨rfl,wa1⟩:=q0
  have hg1:=e1.big _ _ hg
  have ng1:=ng_of e1 ng hg
  have hc1:=hc.ext e1
  refine ⟨c,W,G1,p,dx,bl,tl,[u,w],rfl,e1.sub,wa1,.cons q1 (.cons q2 .nil),hok,fun v H2 aft=>?_⟩
  obtain ⟨⟨G2,bl2,tl2,wa2,s2,hb,ht,lr,dom⟩,kp⟩:=aft
  have hg2:H2 g = some (.lst (acc.map V.int)):=kp g _ hg1 (ne_of hg1 (e1.sub _ _ wa1.ins) (by intro z; cases z)) gb gt
  have ng2:G2 g = none:=by
    cases q:G2 g with
    | none=>rfl
    | some o=>exact (dom g o q).elim (fun ⟨o',z⟩=>by rw [ng1] at z; cases z) fun z=>by rw [hg1] at z; cases z
  have gb2:g ≠ bl2:=hb.elim (fun e=>e ▸ gb) fun e=>ne_of_none hg1 e
  have gt2:g ≠ tl2:=ht.elim (fun e=>e ▸ gt) fun e=>ne_of_none hg1 e
  have hc2:CallsAt K H2 a (full.map V.int):=hc1.imp (fun ⟨o,ho⟩=>by
    obtain ⟨b,ws,eb,hbl,_⟩:=wa1.br
    cases eb
    obtain ⟨t,zs,et,htl,_⟩:=wa1.ti
    cases et
    exact ⟨o,kp a _ ho (ne_of ho (e1.sub _ _ wa1.ins) (by intro z; cases z)) (ne_of ho (e1.sub _ _ hbl) (by intro z; cases z)) (ne_of ho (e1.sub _ _ htl) (by intro z; cases z))⟩) id
  refine ⟨_,rfl,.inl ⟨rfl,_,SqL.of hg2⟩,?_⟩
  have cnt1:Ev (tCall (sp_counted C) [] E0 (tCons (tVar 7) tNil)) [some (.ref a),some (.ref p),some (.ref g),some (.int (ao:Nat)),some (.int (c.1:Nat)),some (.int (fst:Nat)),some (.int (c.2.length:Nat)),some v] G2 (Ls I (((MM.an c W).length:Int) :: MM.an c W)) :=
    ev_call (MM.an c W) (eva_cons (ev_var rfl lr) eva_nil) (by show (MM.an c W).length <= 15000000; omega)
  refine cnt1 G2 H2 (same_refl _) s2 _ fun v3 G3 H3 e3 p3=>?_
  obtain ⟨c3,zs,rfl,hc3,pz⟩:=p3
  have hg3:=e3.big _ _ hg2
  have ng3:=ng_of e3 ng2 hg2
  have ez:=ints_vs pz
  subst ez
  refine ⟨g,c3,_,_,rfl,rfl,hg3,e3.sub _ _ hc3,(by rw [sizeLine_eq,List.length_map,List.length_map,List.length_cons]; omega),?_⟩
  have s4:Same G3 (upd H3 g (.lst (acc.map V.int ++ (((MM.an c W).length:Int) :: MM.an c W).map V.int))):=fun b o h=>by rw [upd_ne (fun z=>by rw [z,ng3] at h; cases h)]; exact e3.sub _ _ h
  have sum1:Ev (tOp (rI0 fun i j=>.int (i + j)) (tVar 5) (tVar 6)) [some (.ref a),some (.ref p),some (.ref g),some (.int (ao:Nat)),some (.int (c.1:Nat)),some (.int (fst:Nat)),some (.int (c.2.length:Nat)),some v] G3 (NI (fst + c.2.length)):=ev_addN (ev_var rfl rfl) (ev_var rfl rfl)
  refine sum1 G3 _ (same_refl _) s4 _ fun v5 G5 H5 e5 p5=>?_
  rw [show v5 = _ from p5]
  refine fin _ H5 G5 bl2 tl2 _ _ _ _ rfl (wa2.same (e3.mono.trans e5.mono)) e5.sub (ng_of e5 ng3 upd_same) ?_ gb2 gt2 (((hc2.ext e3).upd hg3).ext e5)
  rw [List.map_append]
  exact e5.big _ _ upd_same
abbrev s_answers:Stmt:=top 125
theorem sc_answers:FnScope ["calls","wall","given","at","number","first","size","numbers"] ["calls"] (defScope s_answers):=scm (by decide +kernel)
def sp_answers (C:Addr) (K:PySem.W.Frag) (MM:Mach) (xs:List Str):Sp:=fun vs H Q _=>∃ (a:Addr) (cs:List (Nat × List Nat)),vs = [.ref a] /\ CallsAt K H a (((cs.map (encC xs)).flatten).map V.int) /\ (∀ c ∈ cs,wfC xs c) /\ cs.length <= 400 /\ MM.okRun ⟨0,0,[],[]⟩ cs ∧
  ∀ (H':Hp) (p:Addr),H' p = some (.lst ((MM.run ⟨0,0,[],[]⟩ cs).map V.int)) -> Q (.ref p) H'
theorem ok_answers {f C:Addr} {fd:FuncData} (X:Txt K C) (M:Mods mg) {MM:Mach} {xs:List Str} {L:Nat} {tA fI:Addr} {fdI:FuncData} (hL:5 <= L) (hA:mg "ARGUMENTS" = some (.ref tA)) (KT:KTexts K tA xs) (MK:Mk K C fI) (GI:FnOk P w K mg base CX0 1 fI fdI ["self"] (sp_init C)) (MC:mg "Wall" = some (.ref C)) (bI:Binds K fdI ["self"] []) (c_answer:Fn P w K mg base "answer" L ["wall","number","handed"] (sp_answer C MM)) (c_counted:Fn P w K mg base "counted" 1 ["numbers"] (sp_counted C)) (F:Fun K "answers" "answers" s_answers f fd):FnOk P w K mg base CX0 (L + 1) f fd ["calls"] (sp_answers C K MM xs):=by
  have nd:=(sc_answers).nd
  refine F.ok sc_answers (fun vs H Q E h=>?_) (fun cdv B outer s H vs Q E hr h=>?_)
  · obtain ⟨a,cs,rfl,_⟩:=h; rfl
  · obtain ⟨a,cs,rfl,hca,hwf,hlen,hok,k⟩:=h
    refine ⟨_,(pss_cons (psn 1 nd (pe_make0 MK GI (hr.mono (by first | decide | omega)) rfl MC bI .nil pass0)) (pss_cons (psn 2 nd (pe_lst pa_nil)) (pss_cons (psn 3 nd pe_int) (pss_cons (ps_while PassesOwn.never (pt_cmpR op_lt (pv 3) (pln K M.b_len (pv 0)) (nomark _)) (pss_cons (psn 4 nd (ixl K (pv 0) (pv 3))) (pss_cons (psn 5 nd (pe_op op_add (pv 3) pe_int)) (pss_cons (psn 6 nd (pe_callB cr_lenS rfl M.b_len PySem.boot_len (pa1 (ixt K (pe_glR rfl hA) (pv 4))))) (pss_cons (ps_if (pt_cmpR op_eq (ixt K (pe_glR rfl hA) (pv 4)) (pe_glS rfl M.c_WAY) (nomark _)) (pss_cons (psn 6 nd (ixl K (pv 0) (pv 5))) (pss_one (psn 5 nd (pe_op op_add (pv 5) pe_int)))) pss_nil) (pss_cons (psn 7 nd (pe_fn c_answer hr (pa3 (pv 1) (pv 4) (pe_slice (sl_listK (K:=K) rfl) (pv 0) (po_some (pv 5)) (po_some (pe_op op_add (pv 5) (pv 6))))))) (pss_cons (ps_expr (tbm_K (K:=K) rfl (pe_bm PySem.F.plainAttrs_list PySem.F.slot_list_extend PySem.F.type_list_extend mt_extend (pv 2) (pa1 (pe_fn c_counted hr (pa1 (pv 7))))))) (pss_one (psn 3 nd (pe_op op_add (pv 5) (pv 6))))))))))) (pss_one (ps_ret (pv 2))))))),?_⟩
    intro p dx np ndx ne
    refine ⟨p,dx,rfl,upd_same,(by rw [upd_ne ne]; exact upd_same),fun H1 G1 bl tl wa1 sG1 dom1 kp1=>⟨rfl,?_⟩⟩
    refine ⟨Nat.zero_le _,fun g hg=>?_⟩
    have hca1:CallsAt K H1 a (((cs.map (encC xs)).flatten).map V.int):=hca.imp (fun ⟨o,ho⟩=>⟨o,kp1 _ _ (by rw [upd_ne (ne_of_none ho np),upd_ne (ne_of_none ho ndx)]; exact ho) (ne_of_none ho np)⟩) id
    have hg1:G1 g = none:=sG1.free hg
    have gb:g ≠ bl:=fun z=>by
      obtain ⟨b,ws,e,hb,_⟩:=wa1.br
      cases e
      rw [z,sG1 _ _ hb] at hg; cases hg
    have gt:g ≠ tl:=fun z=>by
      obtain ⟨b,ws,e,hb,_⟩:=wa1.ti
      cases e
      rw [z,sG1 _ _ hb] at hg; cases hg
    refine while_by (fun σ H=>∃ (i ao:Nat) (W:WD) (G:Hp) (bl tl:Addr) (acc:List Int) (x4 x5 x6 x7:Option V),i <= cs.length /\ ao = ((cs.take i).map (encC xs)).flatten.length /\ σ = [some (.ref a),some (.ref p),some (.ref g),some (.int ao),x4,x5,x6,x7] ∧
        MM.okRun W (cs.drop i) /\ MM.run ⟨0,0,[],[]⟩ cs = acc ++ MM.run W (cs.drop i) /\ acc.length <= 1001 * i /\ WAt C W G p dx bl tl /\ Same G H /\ G g = none /\ H g = some (.lst (acc.map V.int)) /\ g ≠ bl /\ g ≠ tl /\ CallsAt K H a (((cs.map (encC xs)).flatten).map V.int))
      (fun σ _=>mu (cs.map (encC xs)).flatten.length σ)
      ⟨0,0,⟨0,0,[],[]⟩,G1,bl,tl,[],none,none,none,none,Nat.zero_le _,rfl,rfl,hok,rfl,Nat.zero_le _,wa1,same_upd sG1 hg,hg1,upd_same,gb,gt,hca1.imp (fun ⟨o,ho⟩=>⟨o,by rw [upd_ne (ne_of_none ho hg)]; exact ho⟩) id⟩ ?_ ?_
    · rintro σ H2 ⟨i,ao,W,G,bl2,tl2,acc,x4,x5,x6,x7,hi,rfl,rfl,hok2,hrun,hacc,wa,sG,ng,hgl,gb2,gt2,hc2⟩
      obtain ⟨Gp,sp1,sp2,spl,ngp⟩:=calls_plus sG hc2 hgl ng
      have wap:=wa.same sp1
      refine evt_b (ev_ltN (ev_var rfl rfl) (ev_lenSL (ev_var rfl spl))) Gp H2 (same_refl _) sp2 _ fun G3 H3 e3=>?_
      by_cases hlt:((cs.take i).map (encC xs)).flatten.length < (cs.map (encC xs)).flatten.length
      · rw [if_pos (decide_eq_true hlt)]
        have hi':i < cs.length:=Nat.lt_of_le_of_ne hi fun z=>by rw [z,List.take_length] at hlt; omega
        obtain ⟨c,hc⟩:∃ c,cs[i]? = some c:=⟨_,List.getElem?_eq_getElem hi'⟩
        obtain ⟨x,hx,hw,hxl,hcl⟩:=hwf c (List.mem_of_getElem? hc)
        have hfull:=full_split xs hc
        have hoff:=off_succ xs hc
        have hdrop:cs.drop i = c :: cs.drop (i + 1):=by
          obtain ⟨h1,h2⟩:=List.getElem?_eq_some_iff.mp hc
          rw [<- h2]; exact List.drop_eq_getElem_cons hi'
        rw [hdrop] at hok2 hrun
        obtain ⟨ok1,ok2,ok3⟩:=hok2
        have hflen:(cs.map (encC xs)).flatten.length = ((cs.take i).map (encC xs)).flatten.length + ((encC xs c).length + ((cs.drop (i + 1)).map (encC xs)).flatten.length):=by
          have:=congrArg List.length hfull
          rw [List.length_append,List.length_append] at this
          exact this
        have n0:(cs.map (encC xs)).flatten[((cs.take i).map (encC xs)).flatten.length]? = some (c.1:Int):=by
          have q:=at_pre (p:=((cs.take i).map (encC xs)).flatten) (q:=encC xs c ++ ((cs.drop (i + 1)).map (encC xs)).flatten) (k:=0)
          rw [hfull]
          refine (show _ = _ from q).trans ?_
          unfold encC
          split <;> rfl
        have wa3:=wap.same e3.mono
        have fin:∀ (fst:Nat),fst + c.2.length = ((cs.take (i + 1)).map (encC xs)).flatten.length -> ∀ (σ':St) (H' G':Hp) (bl' tl':Addr) (y4 y5 y6 y7:Option V),σ' = [some (.ref a),some (.ref p),some (.ref g),some (.int ((fst + c.2.length:Nat):Int)),y4,y5,y6,y7] -> WAt C (MM.up c W) G' p dx bl' tl' -> Same G' H' -> G' g = none →
            H' g = some (.lst ((acc ++ (((MM.an c W).length:Int) :: MM.an c W)).map V.int)) -> g ≠ bl' -> g ≠ tl' -> CallsAt K H' a (((cs.map (encC xs)).flatten).map V.int) →
            (∃ (i ao:Nat) (W:WD) (G:Hp) (bl tl:Addr) (acc:List Int) (x4 x5 x6 x7:Option V),i <= cs.length /\ ao = ((cs.take i).map (encC xs)).flatten.length /\ σ' = [some (.ref a),some (.ref p),some (.ref g),some (.int ao),x4,x5,x6,x7] ∧
              MM.okRun W (cs.drop i) /\ MM.run ⟨0,0,[],[]⟩ cs = acc ++ MM.run W (cs.drop i) /\ acc.length <= 1001 * i /\ WAt C W G p dx bl tl /\ Same G H' /\ G g = none /\ H' g = some (.lst (acc.map V.int)) /\ g ≠ bl /\ g ≠ tl /\ CallsAt K H' a (((cs.map (encC xs)).flatten).map V.int)) ∧
            mu (cs.map (encC xs)).flatten.length σ' < mu (cs.map (encC xs)).flatten.length [some (.ref a),some (.ref p),some (.ref g),some (.int (((cs.take i).map (encC xs)).flatten.length:Nat)),x4,x5,x6,x7]:=by
          rintro fst hfst σ' H' G' bl' tl' y4 y5 y6 y7 rfl wa' s' ng' hg' gb' gt' hc'
          refine ⟨⟨i + 1,fst + c.2.length,MM.up c W,G',bl',tl',_,y4,y5,y6,y7,hi',hfst,rfl,ok3,?_,?_,wa',s',ng',hg',gb',gt',hc'⟩,?_⟩
          · rw [hrun,List.append_assoc]; rfl
          · rw [List.length_append,List.length_cons]; omega
          · show (cs.map (encC xs)).flatten.length - ((fst + c.2.length:Nat):Int).toNat < (cs.map (encC xs)).flatten.length - (((cs.take i).map (encC xs)).flatten.length:Int).toNat
            rw [Int.toNat_natCast,Int.toNat_natCast]
            have:0 < (encC xs c).length:=by unfold encC; split <;> simp
            omega
        refine ev_ixSL (ev_var rfl (Stab.st e3.mono spl)) (ev_var rfl rfl) rfl n0 G3 H3 (same_refl _) e3.sub _ fun v4 G4 H4 e4 p4=>?_
        refine ev_addN (b:=1) (ev_var rfl rfl) ev_int G4 H4 (same_refl _) e4.sub _ fun v5 G5 H5 e5 p5=>?_
        refine ev_lenS (ev_ixK KT (ev_var rfl (Stab.st (P:=NI c.1) e5.mono p4)) hx) hxl G5 H5 (same_refl _) e5.sub _ fun v6 G6 H6 e6 p6=>?_
        refine evt_b (ev_eqS (ev_ixK KT (ev_var rfl (Stab.st (P:=NI c.1) (e5.mono.trans e6.mono) p4)) hx) ev_str) G6 H6 (same_refl _) e6.sub _ fun G7 H7 e7=>?_
        have E7:Ext Gp H2 G7 H7:=e3.trans (e4.trans (e5.trans (e6.trans e7)))
        have a4:v4 = .int (c.1:Nat):=p4
        have a5:v5 = .int ((((cs.take i).map (encC xs)).flatten.length + 1:Nat):Int):=p5
        have a6:v6 = .int (x.length:Nat):=p6
        subst a4 a5 a6
        by_cases hwy:x = "w"
        · rw [if_pos (decide_eq_true hwy)]
          have henc:encC xs c = (c.1:Int) :: (c.2.length:Int) :: c.2.map fun (k:Nat)=>(k:Int):=by unfold encC; rw [if_pos (by rw [hx,hwy])]
          have n1:(cs.map (encC xs)).flatten[((cs.take i).map (encC xs)).flatten.length + 1]? = some (c.2.length:Int):=by rw [hfull,at_pre,henc]; rfl
          refine ev_ixSL (ev_var rfl (Stab.st E7.mono spl)) (ev_var rfl rfl) rfl n1 G7 H7 (same_refl _) E7.sub _ fun v8 G8 H8 e8 p8=>?_
          refine ev_addN (b:=1) (ev_var rfl rfl) ev_int G8 H8 (same_refl _) e8.sub _ fun v9 G9 H9 e9 p9=>?_
          have E9:Ext Gp H2 G9 H9:=E7.trans (e8.trans e9)
          have a8:v8 = .int (c.2.length:Nat):=p8
          have a9:v9 = .int ((((cs.take i).map (encC xs)).flatten.length + 1 + 1:Nat):Int):=p9
          subst a8 a9
          have hl2:(encC xs c).length = c.2.length + 2:=by rw [henc]; simp
          exact tail_ok (wap.same E9.mono) E9.sub (Stab.st E9.mono spl) (ng_of E9 ngp hgl) (E9.big _ _ hgl) gb2 gt2 (hc2.ext E9) (by omega) (by rw [hfull,Nat.add_assoc,drop_pre,henc]; simp) ok1 ok2 (by omega) (fin _ (by omega))
        · rw [if_neg (by rw [decide_eq_false hwy]; decide)]
          have henc:encC xs c = (c.1:Int) :: c.2.map fun (k:Nat)=>(k:Int):=by unfold encC; rw [if_neg (by rw [hx]; exact fun z=>hwy (Option.some.inj z))]
          have hl2:(encC xs c).length = c.2.length + 1:=by rw [henc]; simp
          have hxc:x.length = c.2.length:=hw.resolve_left hwy
          rw [hxc]
          exact tail_ok (wap.same E7.mono) E7.sub (Stab.st E7.mono spl) (ng_of E7 ngp hgl) (E7.big _ _ hgl) gb2 gt2 (hc2.ext E7) (by omega) (by rw [hfull,drop_pre,henc]; simp) ok1 ok2 (by omega) (fin _ (by omega))
      · rw [if_neg (by rw [decide_eq_false hlt]; decide)]
        have ei:i = cs.length:=by
          refine Classical.byContradiction fun hn=>hlt ?_
          obtain ⟨c,hc⟩:∃ c,cs[i]? = some c:=⟨_,List.getElem?_eq_getElem (by omega)⟩
          rw [full_split xs hc,List.length_append,List.length_append]
          have:0 < (encC xs c).length:=by unfold encC; split <;> simp
          omega
        subst ei
        rw [List.drop_length] at hrun
        refine ⟨_,rfl,k H3 g ?_⟩
        rw [hrun,show MM.run W [] = [] from rfl,List.append_nil]
        exact e3.big _ _ hgl
    · rintro σ H Q Q' hq ⟨v,h1,u,h2,p,ys,e,hs,i,j,e1,e2,kk,e3,q⟩
      exact ⟨v,h1,u,h2,p,ys,e,hs,i,j,e1,e2,kk,e3,hq _ _ q⟩
end
end L2.FF
end
section
namespace L2.FF
open PySem PySem.Spec PyProof.Rows
section
variable {P:Program} {w:World} {K:PySem.W.Frag} {mg:Str -> Option Value} {base:Heap}
theorem Aft.pre {C:Addr} {W2:WD} {r:List Int} {G H G1 H1:Hp} {p dx bl tl:Addr} {v:V} {H2:Hp} (a:Aft C W2 r G1 H1 p dx bl tl v H2) (e:Ext G H G1 H1):Aft C W2 r G H p dx bl tl v H2:=by
  obtain ⟨⟨G2,bl2,tl2,w,s,hb,ht,q,d⟩,kp⟩:=a
  exact ⟨⟨G2,bl2,tl2,w,s,hb.imp id fun z=>e.big.free z,ht.imp id fun z=>e.big.free z,q,fun b o h=>(d b o h).elim (fun ⟨o',z⟩=>e.dom b o' z) fun z=>.inr (e.big.free z)⟩,fun b o h=>kp b o (e.big b o h)⟩
theorem ret_spW {ι:Type} {C:Addr} {A:ι -> List Pr} {Cd:ι -> WD -> Prop} {Fw:ι -> WD -> WD} {F:ι -> WD -> List Int} {E:XK} {W:WD} {p dx bl tl:Addr} {G H:Hp} {σ:St} {t:TA} {Q:VK} (x:ι) (args:EvA t σ G (WX C W p dx bl tl :: A x)) (sG:Same G H) (c:Cd x W)
    (k:∀ v H2,Aft C (Fw x W) (F x W) G H p dx bl tl v H2 -> Q v H2):tCall (spW C A Cd Fw F) [] E t σ H Q:=by
  rw [tCall]
  refine args G H (same_refl _) sG _ fun vs G1 H1 e1 p1=>?_
  rw [List.append_nil]
  cases p1 with
  | cons a r =>
    obtain ⟨rfl,wa⟩:=a
    exact ⟨x,W,G1,p,dx,bl,tl,_,rfl,e1.sub,wa,r,c,fun v H2 af=>k v H2 (af.pre e1)⟩
theorem ev_allThere {σ:St} {Hs:Hp} {C:Addr} {ta tb tc:TE} {E:XK} {W:WD} {x:Str} {ns:List Nat} (ha:Ev ta σ Hs (WA C W)) (hb:Ev tb σ Hs (T x)) (hc:Ev tc σ Hs (Ls NI ns)) (h1:ns.length <= 1000) (h2:x = "w" \/ (x.cps.size = ns.length /\ x.cps.all (· < 128) = true)) :
    Ev (tCall (sp_all_there C) [] E (tCons ta (tCons tb (tCons tc tNil)))) σ Hs (B (allThere W x ns)):=ev_call (W,x,ns) (eva_cons ha (eva_cons hb (eva_cons hc eva_nil))) ⟨h1,h2⟩
def stepA {α:Type} (xs:List Str) (c:Nat × List Nat) (W:WD) (beg:α) (none_:α) (there_:α) (rest:α):α:=if c.1 = 0 then beg else if W.m = 0 then none_ else if (!allThere W (xs.getD c.1 "") c.2) = true then there_ else rest
def stepU (xs:List Str) (upC:Nat -> List Nat -> WD -> WD) (c:Nat × List Nat) (W:WD):WD:=stepA xs c W (if beginOk (c.2.getD 0 0) (c.2.getD 1 0) then ⟨c.2.getD 0 0,c.2.getD 1 0,[],[]⟩ else W) W W (upC c.1 c.2 W)
def M1 (xs:List Str) (okC:Nat -> List Nat -> WD -> Prop) (upC:Nat -> List Nat -> WD -> WD) (anC:Nat -> List Nat -> WD -> List Int):Mach where
  ok:=fun c W=>∃ x,xs[c.1]? = some x /\ (x = "w" \/ (x.cps.size = c.2.length /\ x.cps.all (· < 128) = true)) /\ c.2.length <= 1000 /\ c.1 < 51 /\ (c.1 = 0 -> ∃ i j,c.2 = [i,j]) /\ (¬ c.1 = 0 -> ¬ W.m = 0 -> allThere W x c.2 = true -> okC c.1 c.2 W)
  up:=stepU xs upC
  an:=fun c W=>stepA xs c W (if beginOk (c.2.getD 0 0) (c.2.getD 1 0) then [0] else [-22]) [-11] [-2] (anC c.1 c.2 W)
abbrev s_answer:Stmt:=top 124
theorem sc_answer:FnScope ["wall","number","handed"] ["wall","number","handed"] (defScope s_answer):=scm (by decide +kernel)
theorem ok_answer {f C:Addr} {fd:FuncData} (X:Txt K C) (M:Mods mg) {xs:List Str} {L:Nat} {tA:Addr} {okC:Nat -> List Nat -> WD -> Prop} {upC:Nat -> List Nat -> WD -> WD} {anC:Nat -> List Nat -> WD -> List Int} (hL:3 <= L) (hA:mg "ARGUMENTS" = some (.ref tA)) (KT:KTexts K tA xs) (c_begin:Fn P w K mg base "begin" 1 ["wall","rows","columns"] (sp_begin C)) (c_all_there:Fn P w K mg base "all_there" 3 ["wall","letters","handed"] (sp_all_there C)) (c_bar_answer:Fn P w K mg base "bar_answer" L ["wall","number","handed"] (sp_bar_answer C okC upC anC)) (c_tie_answer:Fn P w K mg base "tie_answer" L ["wall","number","handed"] (sp_tie_answer C okC upC anC)) (c_both_answer:Fn P w K mg base "both_answer" L ["wall","number","handed"] (sp_both_answer C okC upC anC)) (F:Fun K "answer" "answer" s_answer f fd):FnOk P w K mg base CX0 (L + 1) f fd ["wall","number","handed"] (sp_answer C (M1 xs okC upC anC)):=by
  have nd:=(sc_answer).nd
  refine F.ok sc_answer (fun vs H Q E h=>?_) (fun cdv B outer s H vs Q E hr h=>?_)
  · exact h.len (n:=2) fun _=>rfl
  · obtain ⟨⟨k0,ns⟩,W,G,p,dx,bl,tl,rest,rfl,sG,wa,pr,⟨x,hx,hw,hcl,h26,hb,hok⟩,k⟩:=h
    obtain ⟨v1,v2,rfl,q1,q2⟩:=all2 pr
    dsimp only at *
    have q0:WX C W p dx bl tl G (.ref p):=⟨rfl,wa⟩
    have qw:WA C W G (.ref p):=⟨p,dx,bl,tl,rfl,wa⟩
    refine ⟨_,(pss_cons (ps_if (pt_cmpR op_eq (pv 1) (pe_glI rfl M.c_BEGIN) (nomark _)) (pss_one (ps_ret (pe_fn c_begin hr (pa3 (pv 0) (ixl K (pv 2) pe_int) (ixl K (pv 2) pe_int))))) pss_nil) (pss_cons (ps_if (pt_cmpR op_eq (pfl K (pv 0)) pe_int (nomark _)) (pss_one (ps_ret (pe_lst (pa1 (pe_glI rfl M.c_NOT_BEGUN))))) pss_nil) (pss_cons (ps_if (pt_not (pt_val (pe_fn c_all_there hr (pa3 (pv 0) (ixt K (pe_glR rfl hA) (pv 1)) (pv 2))))) (pss_one (ps_ret (pe_lst (pa1 (pe_glI rfl M.c_NONE_SUCH))))) pss_nil) (pss_cons (ps_if (pt_cmpR op_lt (pv 1) (pe_glI rfl M.c_FIRST_TIE_CALL) (nomark _)) (pss_one (ps_ret (pe_fn c_bar_answer hr (pa3 (pv 0) (pv 1) (pv 2))))) pss_nil) (pss_cons (ps_if (pt_cmpR op_lt (pv 1) (pe_glI rfl M.c_FIRST_BOTH_CALL) (nomark _)) (pss_one (ps_ret (pe_fn c_tie_answer hr (pa3 (pv 0) (pv 1) (pv 2))))) pss_nil) (pss_one (ps_ret (pe_fn c_both_answer hr (pa3 (pv 0) (pv 1) (pv 2)))))))))),?_⟩
    unfold M1 stepU stepA at k
    dsimp only at k
    refine evt_b (ev_eqN (b:=0) (ev_var rfl q1) ev_int) G H (same_refl _) sG _ fun G1 H1 e1=>?_
    by_cases h0:k0 = 0
    · rw [if_pos (decide_eq_true h0)]
      rw [if_pos h0,if_pos h0] at k
      obtain ⟨i,j,rfl⟩:=hb h0
      refine ret_spW (i,j) (eva_cons (ev_var rfl (Stab.st e1.mono q0)) (eva_cons (ev_ixN (n:=0) (ev_var rfl (Stab.st e1.mono q2)) ev_int (by show 0 < 2; decide)) (eva_cons (ev_ixN (n:=1) (ev_var rfl (Stab.st e1.mono q2)) ev_int (by show 1 < 2; decide)) eva_nil))) e1.sub trivial fun v H2 af=>k v H2 (af.pre e1)
    rw [if_neg (by rw [decide_eq_false h0]; decide)]
    rw [if_neg h0,if_neg h0] at k
    refine evt_b (ev_eqN (b:=0) (ev_rows X (ev_var rfl (Stab.st e1.mono qw))) ev_int) G1 H1 (same_refl _) e1.sub _ fun G2 H2 e2=>?_
    by_cases h1:W.m = 0
    · rw [if_pos (decide_eq_true h1)]
      rw [if_pos h1,if_pos h1] at k
      exact ev_lst I [-11] (eva_cons ev_int eva_nil) (by decide) G2 H2 (same_refl _) e2.sub _ fun v G3 H3 e3 p3=>k v H3 (.same (e1.trans (e2.trans e3)) wa p3)
    rw [if_neg (by rw [decide_eq_false h1]; decide)]
    rw [if_neg h1,if_neg h1] at k
    have E2:=e1.trans e2
    have tst:EvT (tNot (tB (tCall (sp_all_there C) [] E0 (tCons (tVar 0) (tCons (tOp (rIxT K) (tC (.ref tA)) (tVar 1)) (tCons (tVar 2) tNil)))))) [some (.ref p),some v1,some v2] G2 (!allThere W x ns):=evt_not (evt_v (ev_allThere (ev_var rfl (Stab.st E2.mono qw)) (ev_ixK KT (ev_var rfl (Stab.st E2.mono q1)) hx) (ev_var rfl (Stab.st E2.mono q2)) hcl hw))
    unfold tNext tSeq tIfS
    dsimp only
    refine tst G2 H2 (same_refl _) e2.sub _ fun G3 H3 e3=>?_
    have E3:=E2.trans e3
    have hgx:(xs.getD k0 "") = x:=by rw [List.getD_eq_getElem?_getD,hx]; rfl
    rw [hgx] at k
    cases ha:allThere W x ns with
    | false =>
      rw [if_pos (by rfl)]
      rw [ha,Bool.not_false,if_pos rfl,if_pos rfl] at k
      exact ev_lst I [-2] (eva_cons ev_int eva_nil) (by decide) G3 H3 (same_refl _) e3.sub _ fun v G4 H4 e4 p4=>k v H4 (.same (E3.trans e4) wa p4)
    | true =>
      rw [if_neg (by decide)]
      rw [ha,Bool.not_true,if_neg (by decide),if_neg (by decide)] at k
      have okc:=hok h0 h1 ha
      refine evt_b (ev_ltN (b:=20) (ev_var rfl (Stab.st E3.mono q1)) ev_int) G3 H3 (same_refl _) e3.sub _ fun G4 H4 e4=>?_
      have E4:=E3.trans e4
      have args:EvA (tCons (tVar 0) (tCons (tVar 1) (tCons (tVar 2) tNil))) [some (.ref p),some v1,some v2] G4 [WX C W p dx bl tl,NI k0,Ls NI ns]:=eva_cons (ev_var rfl (Stab.st E4.mono q0)) (eva_cons (ev_var rfl (Stab.st E4.mono q1)) (eva_cons (ev_var rfl (Stab.st E4.mono q2)) eva_nil))
      by_cases h2:k0 < 20
      · rw [if_pos (decide_eq_true h2)]
        exact ret_spW (k0,ns) args e4.sub ⟨by dsimp only; omega,h2,okc⟩ fun v H5 af=>k v H5 (af.pre E4)
      · rw [if_neg (by rw [decide_eq_false h2]; decide)]
        refine evt_b (ev_ltN (b:=39) (ev_var rfl (Stab.st E4.mono q1)) ev_int) G4 H4 (same_refl _) e4.sub _ fun G5 H5 e5=>?_
        have E5:=E4.trans e5
        by_cases h3:k0 < 39
        · rw [if_pos (decide_eq_true h3)]
          exact ret_spW (k0,ns) (args.weak e5.mono) e5.sub ⟨by dsimp only; omega,h3,okc⟩ fun v H6 af=>k v H6 (af.pre E5)
        · rw [if_neg (by rw [decide_eq_false h3]; decide)]
          exact ret_spW (k0,ns) (args.weak e5.mono) e5.sub ⟨by dsimp only; omega,h26,okc⟩ fun v H6 af=>k v H6 (af.pre E5)
end
end L2.FF
end
section
namespace L2.FF
open PySem PySem.Spec PyProof.Rows
abbrev s_init:Stmt:=inClass (top 9) 0
theorem sc_init:FnScope ["self"] ["self"] (defScope s_init):=⟨rfl,rfl,rfl,by decide +kernel,rfl,by decide +kernel,by decide +kernel⟩
section
variable {P:Program} {w:World} {K:PySem.W.Frag} {mg:Str -> Option Value} {base:Heap}
theorem ok_init {f C:Addr} {fd:FuncData} (X:Txt K C) (F:Fun K "__init__" "Wall.__init__" s_init f fd):FnOk P w K mg base CX0 1 f fd ["self"] (sp_init C):=by
  refine F.ok sc_init (fun vs H Q E h=>?_) (fun cdv B outer s H vs Q E hr h=>?_)
  · obtain ⟨p,dx,rfl,_⟩:=h; rfl
  · obtain ⟨p,dx,rfl,hp,hd,k⟩:=h
    refine ⟨_,pss_cons (ps_fld (pv 0) pe_int rfl) (pss_cons (ps_fld (pv 0) pe_int rfl) (pss_cons (ps_fld (pv 0) (pe_lst pa_nil) rfl) (pss_one (ps_fld (pv 0) (pe_lst pa_nil) rfl)))),?_⟩
    refine ⟨_,rfl,p,C,dx,[],rfl,hp,X.cl,X.nR,(by show 0 < 1000; decide),?_⟩
    refine ⟨_,rfl,p,C,dx,_,rfl,upd_same,X.cl,X.nC,(by have:=length_putF "rows" (.int 0) []; exact Nat.lt_of_le_of_lt this (by decide)),?_⟩
    rw [upd_upd]
    refine ⟨Nat.zero_le _,fun c1 hc1=>?_⟩
    have n1:c1 ≠ p:=fun z=>by rw [z,upd_same] at hc1; cases hc1
    have f1:H c1 = none:=by rw [upd_ne n1] at hc1; exact hc1
    refine ⟨_,rfl,p,C,dx,_,rfl,(by rw [upd_ne n1.symm]; exact upd_same),X.cl,X.nB,?_,?_⟩
    · have h1:=length_putF "rows" (.int 0) []
      have h2:=length_putF "columns" (.int 0) (putF "rows" (.int 0) [])
      rw [List.length_nil] at h1
      omega
    refine ⟨Nat.zero_le _,fun c2 hc2=>?_⟩
    have n2:c2 ≠ p:=fun z=>by rw [z,upd_same] at hc2; cases hc2
    have n3:c2 ≠ c1:=fun z=>by rw [upd_ne n2,z,upd_same] at hc2; cases hc2
    have f2:H c2 = none:=by rw [upd_ne n2,upd_ne n3,upd_ne n2] at hc2; exact hc2
    refine ⟨_,rfl,p,C,dx,_,rfl,(by rw [upd_ne n2.symm]; exact upd_same),X.cl,X.nT,?_,?_⟩
    · have h1:=length_putF "rows" (.int 0) []
      have h2:=length_putF "columns" (.int 0) (putF "rows" (.int 0) [])
      have h3:=length_putF "bars" (.ref c1) (putF "columns" (.int 0) (putF "rows" (.int 0) []))
      rw [List.length_nil] at h1
      omega
    rw [wf_new]
    have ndp:dx ≠ p:=ne_of hd hp (by intro z; cases z)
    have nd1:dx ≠ c1:=ne_of_none hd f1
    have nd2:dx ≠ c2:=ne_of_none hd f2
    refine k _ (upd (upd (upd (fun b=>if b = dx then H dx else none) c1 (.lst [])) c2 (.lst [])) p (.ins C dx (wf 0 0 c1 c2))) c1 c2 ⟨upd_same,?_,⟨c1,[],rfl,?_,.nil⟩,⟨c2,[],rfl,?_,.nil⟩,n3.symm⟩ ?_ ?_ ?_
    · rw [upd_ne ndp,upd_ne nd2,upd_ne nd1]
      show (if dx = dx then H dx else none) = _
      rw [if_pos rfl]; exact hd
    · rw [upd_ne n1,upd_ne n3.symm]; exact upd_same
    · rw [upd_ne n2]; exact upd_same
    · intro y o hy
      by_cases z:y = p
      · subst z; rw [upd_same] at hy ⊢; exact hy
      · rw [upd_ne z] at hy ⊢
        by_cases z2:y = c2
        · subst z2; rw [upd_same] at hy ⊢; exact hy
        · rw [upd_ne z2] at hy ⊢
          rw [upd_ne z]
          by_cases z1:y = c1
          · subst z1; rw [upd_same] at hy ⊢; exact hy
          · rw [upd_ne z1] at hy ⊢; rw [upd_ne z]
            have hy:(if y = dx then H dx else none) = some o:=hy
            split at hy
            · rename_i w; rw [w]; exact hy
            · cases hy
    · intro y o hy
      by_cases z:y = p
      · exact .inl z
      · rw [upd_ne z] at hy
        by_cases z2:y = c2
        · rw [z2]; exact .inr (.inr f2)
        · rw [upd_ne z2] at hy
          by_cases z1:y = c1
          · rw [z1]; exact .inr (.inr f1)
          · rw [upd_ne z1] at hy
            have hy:(if y = dx then H dx else none) = some o:=hy
            split at hy
            · rename_i w; exact .inr (.inl w)
            · cases hy
    · intro y o hy m1
      rw [upd_ne m1,upd_ne (ne_of_none hy f2),upd_ne m1,upd_ne (ne_of_none hy f1),upd_ne m1]
      exact hy
end
end L2.FF
end
section
namespace MG
inductive RT (E:Nat -> Nat -> Prop):Nat -> Nat -> Prop where
  | refl (a:Nat):RT E a a
  | tail {a b c:Nat}:RT E a b -> E b c -> RT E a c
namespace RT
variable {E E':Nat -> Nat -> Prop} {a b c u v s t:Nat}
theorem one (h:E a b):RT E a b:=.tail (.refl a) h
theorem trans (h:RT E a b) (g:RT E b c):RT E a c:=by
  induction g with
  | refl=>exact h
  | tail _ e ih=>exact .tail ih e
theorem mono (h:RT E a b) (f:∀ x y,E x y -> E' x y):RT E' a b:=by
  induction h with
  | refl=>exact .refl _
  | tail _ e ih=>exact .tail ih (f _ _ e)
theorem more (h:∀ x y,E' x y ↔ E x y \/ (x = u /\ y = v)):RT E' s t ↔ RT E s t \/ (RT E s u /\ RT E v t):=by
  constructor
  · intro g
    induction g with
    | refl=>exact .inl (.refl _)
    | tail _ e ih =>
      rcases (h _ _).mp e with e | ⟨rfl,rfl⟩
      · rcases ih with ih | ⟨i1,i2⟩
        · exact .inl (.tail ih e)
        · exact .inr ⟨i1,.tail i2 e⟩
      · rcases ih with ih | ⟨i1,_⟩
        · exact .inr ⟨ih,.refl _⟩
        · exact .inr ⟨i1,.refl _⟩
  · have m:∀ x y,E x y -> E' x y:=fun x y e=>(h x y).mpr (.inl e)
    rintro (g | ⟨g1,g2⟩)
    · exact g.mono m
    · exact (RT.tail (g1.mono m) ((h _ _).mpr (.inr ⟨rfl,rfl⟩))).trans (g2.mono m)
theorem none (h:∀ x y,¬ E x y):RT E s t ↔ s = t:=by
  constructor
  · intro g
    cases g with
    | refl=>rfl
    | tail _ e=>exact (h _ _ e).elim
  · rintro rfl; exact .refl _
end RT
def gstep (N:Nat) (r:Nat -> Nat -> Bool) (l:List Nat):List Nat:=(List.range N).filter fun s=>l.contains s || l.any fun t=>r t s
def grow (N:Nat) (r:Nat -> Nat -> Bool):Nat -> List Nat -> List Nat
  | 0,l=>l
  | k + 1,l=>grow N r k (gstep N r l)
section
variable {N:Nat} {r:Nat -> Nat -> Bool} {l:List Nat} {s t:Nat}
theorem mem_gstep:s ∈ gstep N r l ↔ s < N /\ (s ∈ l \/ ∃ t ∈ l,r t s = true):=by
  unfold gstep
  rw [List.mem_filter,List.mem_range,Bool.or_eq_true,List.contains_iff_mem,List.any_eq_true]
theorem grow_succ:∀ (k:Nat) (l:List Nat),grow N r (k + 1) l = gstep N r (grow N r k l)
  | 0,_=>rfl
  | k + 1,l=>by
    show grow N r (k + 1) (gstep N r l) = _
    rw [grow_succ k (gstep N r l)]
    rfl
def lst (N:Nat) (p:Nat -> Bool):List Nat:=(List.range N).filter p
theorem gstep_nodup:(gstep N r l).Nodup:=List.Pairwise.filter _ List.nodup_range
theorem sub_of {A B:List Nat} (h:∀ x,x ∈ A -> x ∈ B) (nd:A.Nodup):A.length <= B.length:=by
  induction A generalizing B with
  | nil=>exact Nat.zero_le _
  | cons a A ih =>
    have n:=List.nodup_cons.mp nd
    have ha:a ∈ B:=h a List.mem_cons_self
    have q:=ih (B:=B.erase a) (fun x hx=>(List.mem_erase_of_ne (fun e=>n.1 (by rw [<- e]; exact hx))).mpr (h x (List.mem_cons_of_mem _ hx))) n.2
    have z:=List.length_erase_of_mem ha
    have z2:0 < B.length:=List.length_pos_of_mem ha
    rw [List.length_cons]
    omega
theorem le_N (nd:l.Nodup) (h:∀ x ∈ l,x < N):l.length <= N:=by
  have:=sub_of (A:=l) (B:=List.range N) (fun x hx=>List.mem_range.mpr (h x hx)) nd
  rw [List.length_range] at this
  exact this
def S (N:Nat) (r:Nat -> Nat -> Bool) (s k:Nat):List Nat:=grow N r k [s]
theorem S_succ (k:Nat):S N r s (k + 1) = gstep N r (S N r s k):=grow_succ k [s]
theorem S_lt (hs:s < N):∀ (k:Nat) (x:Nat),x ∈ S N r s k -> x < N
  | 0,x,h=>by rw [show S N r s 0 = [s] from rfl,List.mem_singleton] at h; omega
  | k + 1,x,h=>by rw [S_succ] at h; exact (mem_gstep.mp h).1
theorem S_nd:∀ k,(S N r s k).Nodup
  | 0=>by show [s].Nodup; simp
  | k + 1=>by rw [S_succ]; exact gstep_nodup
theorem S_sub (hs:s < N) (k:Nat) (x:Nat) (h:x ∈ S N r s k):x ∈ S N r s (k + 1):=by
  rw [S_succ]; exact mem_gstep.mpr ⟨S_lt hs k x h,.inl h⟩
def Closed (N:Nat) (r:Nat -> Nat -> Bool) (l:List Nat):Prop:=∀ x,x ∈ gstep N r l -> x ∈ l
theorem closed_next {k:Nat} (hc:Closed N r (S N r s k)):Closed N r (S N r s (k + 1)):=by
  intro x hx
  rw [S_succ] at hx ⊢
  obtain ⟨h1,h2⟩:=mem_gstep.mp hx
  refine mem_gstep.mpr ⟨h1,?_⟩
  rcases h2 with h2 | ⟨t,ht,e⟩
  · exact .inl (hc x h2)
  · exact .inr ⟨t,hc t ht,e⟩
theorem closed_le {k:Nat} (hc:Closed N r (S N r s k)):∀ j,Closed N r (S N r s (k + j))
  | 0=>hc
  | j + 1=>closed_next (closed_le hc j)
theorem S_closed (hs:s < N):Closed N r (S N r s N):=by
  refine Classical.byContradiction fun hn=>?_
  have no:∀ k,k <= N -> ¬ Closed N r (S N r s k):=fun k hk hc=>hn (by have:=closed_le hc (N - k); rwa [show k + (N - k) = N by omega] at this)
  have big:∀ k,k <= N + 1 -> k + 1 <= (S N r s k).length:=by
    intro k
    induction k with
    | zero=>intro _; exact Nat.le_refl _
    | succ k ih =>
      intro hk
      have h1:=ih (by omega)
      have h2:=no k (by omega)
      unfold Closed at h2
      obtain ⟨x,hx⟩:=Classical.not_forall.mp h2
      obtain ⟨hx1,hx2⟩:=Classical.not_imp.mp hx
      have h3:=sub_of (A:=x :: S N r s k) (B:=S N r s (k + 1)) (fun y hy=>by
        rcases List.mem_cons.1 hy with rfl | hy
        · rw [S_succ]; exact hx1
        · exact S_sub hs k y hy) (List.nodup_cons.mpr ⟨hx2,S_nd k⟩)
      rw [List.length_cons] at h3
      omega
  have h1:=big (N + 1) (Nat.le_refl _)
  have h2:=le_N (S_nd (r:=r) (s:=s) (N + 1)) (S_lt hs (N + 1))
  omega
theorem mem_S (hs:s < N) (hr:∀ x y,r x y = true -> y < N):t ∈ S N r s N ↔ RT (fun x y=>r x y = true) s t:=by
  constructor
  · have:∀ k t,t ∈ S N r s k -> RT (fun x y=>r x y = true) s t:=by
      intro k
      induction k with
      | zero=>intro t h; rw [show S N r s 0 = [s] from rfl,List.mem_singleton] at h; subst h; exact .refl _
      | succ k ih =>
        intro t h
        rw [S_succ] at h
        rcases (mem_gstep.mp h).2 with h2 | ⟨u,hu,e⟩
        · exact ih t h2
        · exact .tail (ih u hu) e
    exact this N t
  · intro h
    induction h with
    | refl =>
      have:∀ k,s ∈ S N r s k:=by
        intro k
        induction k with
        | zero=>exact List.mem_singleton.mpr rfl
        | succ k ih=>exact S_sub hs k s ih
      exact this N
    | tail _ e ih=>exact S_closed hs _ (mem_gstep.mpr ⟨hr _ _ e,.inr ⟨_,ih,e⟩⟩)
theorem gstep_eq:gstep N r l = lst N fun x=>decide (x ∈ gstep N r l):=by
  unfold lst
  unfold gstep
  apply List.filter_congr
  intro x hx
  rw [Bool.eq_iff_iff,decide_eq_true_eq,List.mem_filter]
  exact ⟨fun h=>⟨hx,h⟩,fun h=>h.2⟩
theorem S_eq (h0:0 < N):S N r s N = lst N fun x=>decide (x ∈ S N r s N):=by
  cases N with
  | zero=>omega
  | succ M=>rw [S_succ]; exact gstep_eq
end
theorem lst_congr {N:Nat} {p q:Nat -> Bool} (h:∀ x,x < N -> p x = q x):lst N p = lst N q:=List.filter_congr fun x hx=>h x (List.mem_range.mp hx)
end MG
end
section
namespace L2.FF
open MG
theorem getD_lt {l:List Nat} {k:Nat} (h:k < l.length):l.getD k 0 = l[k]:=by rw [List.getD_eq_getElem?_getD,List.getElem?_eq_getElem h]; rfl
theorem getD_map {l:List Nat} {k:Nat} {f:Nat -> Nat} (h:k < l.length):(l.map f).getD k 0 = f (l.getD k 0):=by
  rw [getD_lt h,getD_lt (by rw [List.length_map]; exact h),List.getElem_map]
theorem getD_range {N s:Nat} (h:s < N):(List.range N).getD s 0 = s:=by rw [getD_lt (by rw [List.length_range]; exact h),List.getElem_range]
theorem snoc_ind {α:Type} {P:List α -> Prop} (h0:P []) (h1:∀ l a,P l -> P (l ++ [a])) (l:List α):P l:=by
  rw [<- List.reverse_reverse l]
  induction l.reverse with
  | nil=>exact h0
  | cons a r ih=>rw [List.reverse_cons]; exact h1 _ _ ih
def Et (m:Nat) (ts:List (Nat × Nat × Nat)) (x y:Nat):Prop:=∃ t ∈ ts,x = tsrc m t /\ y = ttgt m t
theorem Et_snoc {m:Nat} {ts:List (Nat × Nat × Nat)} {t:Nat × Nat × Nat} (x y:Nat):Et m (ts ++ [t]) x y ↔ Et m ts x y \/ (x = tsrc m t /\ y = ttgt m t):=by
  unfold Et
  constructor
  · rintro ⟨u,hu,h⟩
    rcases List.mem_append.mp hu with hu | hu
    · exact .inl ⟨u,hu,h⟩
    · rw [List.mem_singleton] at hu; subst hu; exact .inr h
  · rintro (⟨u,hu,h⟩ | h)
    · exact ⟨u,List.mem_append.mpr (.inl hu),h⟩
    · exact ⟨t,List.mem_append.mpr (.inr (List.mem_singleton.mpr rfl)),h⟩
def inR (m n:Nat) (ts:List (Nat × Nat × Nat)):Prop:=∀ t ∈ ts,t.1 < m /\ t.2.1 < n
theorem src_lt {m n:Nat} {t:Nat × Nat × Nat} (h:t.1 < m /\ t.2.1 < n):tsrc m t < m + n:=by unfold tsrc; split <;> omega
theorem tgt_lt {m n:Nat} {t:Nat × Nat × Nat} (h:t.1 < m /\ t.2.1 < n):ttgt m t < m + n:=by unfold ttgt; split <;> omega
theorem cm_stp {m:Nat} {tb:List Nat} {t:Nat × Nat × Nat} {a b:Nat} (ha:a < tb.length) (hn:cm tb (tsrc m t) (ttgt m t) = false):cm (stp m tb t) a b = (cm tb a b || (cm tb a (tsrc m t) && cm tb (ttgt m t) b)):=by
  unfold stp
  rw [if_neg (by rw [hn]; decide)]
  unfold cm
  rw [getD_map (f:=fun k=>if k.testBit (tsrc m t) then k ||| tb.getD (ttgt m t) 0 else k) ha]
  cases h:(tb.getD a 0).testBit (tsrc m t) with
  | true=>rw [if_pos rfl,Nat.testBit_or,Bool.true_and]
  | false=>rw [if_neg (by decide),Bool.false_and,Bool.or_false]
theorem tt_snoc (m n:Nat) (ts:List (Nat × Nat × Nat)) (t:Nat × Nat × Nat):tt m n (ts ++ [t]) = stp m (tt m n ts) t:=by
  unfold tt; rw [List.foldl_append]; rfl
theorem cm_tt {m n:Nat} (ts:List (Nat × Nat × Nat)):inR m n ts -> ∀ a b,a < m + n -> b < m + n -> (cm (tt m n ts) a b = true ↔ RT (Et m ts) a b):=by
  refine snoc_ind (P:=fun ts=>inR m n ts -> ∀ a b,a < m + n -> b < m + n -> (cm (tt m n ts) a b = true ↔ RT (Et m ts) a b)) ?_ ?_ ts
  · intro _ a b ha hb
    rw [RT.none (by rintro x y ⟨t,ht,_⟩; cases ht)]
    show (((List.range (m + n)).map fun s=>2 ^ s).getD a 0).testBit b = true ↔ a = b
    rw [getD_map (f:=fun s=>2 ^ s) (by rw [List.length_range]; exact ha),getD_range ha,Nat.testBit_two_pow]
    simp
  · intro ts t ih h a b ha hb
    have h':inR m n ts:=fun u hu=>h u (List.mem_append.mpr (.inl hu))
    have ht:=h t (List.mem_append.mpr (.inr (List.mem_singleton.mpr rfl)))
    rw [tt_snoc,RT.more Et_snoc,<- ih h' a b ha hb]
    cases hc:cm (tt m n ts) (tsrc m t) (ttgt m t) with
    | true =>
      rw [show stp m (tt m n ts) t = tt m n ts by unfold stp; rw [if_pos hc]]
      refine ⟨.inl,fun g=>g.elim id fun ⟨g1,g2⟩=>(ih h' a b ha hb).mpr ((g1.trans ((ih h' _ _ (src_lt ht) (tgt_lt ht)).mp hc)).trans g2)⟩
    | false=>rw [cm_stp (by rw [tt_len]; exact ha) hc,Bool.or_eq_true,Bool.and_eq_true,ih h' a _ ha (src_lt ht),ih h' _ b (tgt_lt ht) hb]
theorem tt_lt {m n:Nat} (ts:List (Nat × Nat × Nat)):inR m n ts -> ∀ a,a < m + n -> (tt m n ts).getD a 0 < 2 ^ (m + n):=by
  refine snoc_ind (P:=fun ts=>inR m n ts -> ∀ a,a < m + n -> (tt m n ts).getD a 0 < 2 ^ (m + n)) ?_ ?_ ts
  · intro _ a ha
    show ((List.range (m + n)).map fun s=>2 ^ s).getD a 0 < _
    rw [getD_map (f:=fun s=>2 ^ s) (by rw [List.length_range]; exact ha),getD_range ha]
    exact Nat.pow_lt_pow_right (by decide) ha
  · intro ts t ih h a ha
    have h':inR m n ts:=fun u hu=>h u (List.mem_append.mpr (.inl hu))
    have ht:=h t (List.mem_append.mpr (.inr (List.mem_singleton.mpr rfl)))
    rw [tt_snoc]
    unfold stp
    split
    · exact ih h' a ha
    · rw [getD_map (f:=fun k=>if k.testBit (tsrc m t) then k ||| (tt m n ts).getD (ttgt m t) 0 else k) (by rw [tt_len]; exact ha)]
      split
      · exact Nat.or_lt_two_pow (ih h' a ha) (ih h' _ (tgt_lt ht))
      · exact ih h' a ha
theorem tt_self {m n:Nat} {ts:List (Nat × Nat × Nat)} (h:inR m n ts) {s:Nat} (hs:s < m + n):cm (tt m n ts) s s = true:=(cm_tt ts h s s hs hs).mpr (.refl _)
theorem cm_trans {m n:Nat} {ts:List (Nat × Nat × Nat)} (h:inR m n ts) {a b c:Nat} (ha:a < m + n) (hb:b < m + n) (hc:c < m + n) (h1:cm (tt m n ts) a b = true) (h2:cm (tt m n ts) b c = true):cm (tt m n ts) a c = true :=
  (cm_tt ts h a c ha hc).mpr (((cm_tt ts h a b ha hb).mp h1).trans ((cm_tt ts h b c hb hc).mp h2))
theorem bits_eq {N x y:Nat} (hx:x < 2 ^ N) (hy:y < 2 ^ N) (h:∀ i,i < N -> x.testBit i = y.testBit i):x = y:=Nat.eq_of_testBit_eq fun i=>by
  by_cases z:i < N
  · exact h i z
  · have q:2 ^ N <= 2 ^ i:=Nat.pow_le_pow_right (by decide) (by omega)
    rw [Nat.testBit_lt_two_pow (by omega),Nat.testBit_lt_two_pow (by omega)]
theorem row_eq {m n:Nat} {ts:List (Nat × Nat × Nat)} (h:inR m n ts) {s k:Nat} (hs:s < m + n) (hk:k < m + n):(tt m n ts).getD k 0 = (tt m n ts).getD s 0 ↔ cm (tt m n ts) s k = true /\ cm (tt m n ts) k s = true:=by
  constructor
  · intro e
    refine ⟨?_,?_⟩
    · have:=tt_self h hk
      unfold cm at this ⊢; rw [<- e]; exact this
    · have:=tt_self h hs
      unfold cm at this ⊢; rw [e]; exact this
  · rintro ⟨h1,h2⟩
    refine bits_eq (tt_lt ts h k hk) (tt_lt ts h s hs) fun i hi=>Bool.eq_iff_iff.mpr ⟨fun g=>cm_trans h hs hk hi h1 g,fun g=>cm_trans h hk hs hi h2 g⟩
theorem grow124 (a:Su124.Abs) (e:List (Nat × Nat)):∀ (k:Nat) (l:List Nat),a.grow e k l = MG.grow a.size (fun x y=>e.contains (x,y)) k l
  | 0,_=>rfl
  | k + 1,l=>by
    show a.grow e k _ = MG.grow _ _ k _
    rw [grow124 a e k]
    congr 1
    unfold MG.gstep Su124.Abs.ss
    apply List.filter_congr
    intro s _
    congr 1
    rw [Bool.eq_iff_iff,List.any_eq_true,List.any_eq_true]
    constructor
    · rintro ⟨x,hx,h⟩
      rw [Bool.and_eq_true,List.contains_iff_mem,beq_iff_eq] at h
      exact ⟨x.1,h.1,by rw [List.contains_iff_mem,<- h.2]; exact hx⟩
    · rintro ⟨t,ht,h⟩
      rw [List.contains_iff_mem] at h
      exact ⟨(t,s),h,by rw [Bool.and_eq_true,List.contains_iff_mem,beq_iff_eq]; exact ⟨ht,rfl⟩⟩
def A4 (m n:Nat) (ts:List (Nat × Nat × Nat)):Su124.Abs:=⟨m,n,ts⟩
theorem arrows_iff {m n:Nat} {ts:List (Nat × Nat × Nat)} (x y:Nat):(A4 m n ts).arrows.contains (x,y) = true ↔ Et m ts x y:=by
  rw [List.contains_iff_mem]
  unfold Su124.Abs.arrows Et tsrc ttgt
  rw [List.mem_map]
  constructor
  · rintro ⟨t,ht,e⟩
    refine ⟨t,ht,?_⟩
    by_cases z:t.2.2 = 0
    · rw [if_pos z] at e ⊢; rw [if_pos z]; cases e; exact ⟨rfl,rfl⟩
    · rw [if_neg z] at e ⊢; rw [if_neg z]; cases e; exact ⟨rfl,rfl⟩
  · rintro ⟨t,ht,rfl,rfl⟩
    refine ⟨t,ht,?_⟩
    split <;> rfl
theorem reach124 {m n:Nat} {ts:List (Nat × Nat × Nat)} (h:inR m n ts) {s:Nat} (hs:s < m + n):(A4 m n ts).reach s = lst (m + n) fun t=>cm (tt m n ts) s t:=by
  show (A4 m n ts).grow _ (m + n) [s] = _
  rw [grow124]
  show S (m + n) _ s (m + n) = _
  have hr:∀ x y,(A4 m n ts).arrows.contains (x,y) = true -> y < m + n:=fun x y e=>by
    obtain ⟨t,ht,_,e2⟩:=(arrows_iff x y).mp e
    rw [e2]; exact tgt_lt (h t ht)
  rw [S_eq (by omega)]
  apply lst_congr
  intro x hx
  rw [Bool.eq_iff_iff,decide_eq_true_eq,mem_S hs hr,cm_tt ts h s x hs hx]
  exact ⟨fun g=>g.mono fun a b e=>(arrows_iff a b).mp e,fun g=>g.mono fun a b e=>(arrows_iff a b).mpr e⟩
theorem lst_contains {N:Nat} {p:Nat -> Bool} {t:Nat} (ht:t < N):(lst N p).contains t = p t:=by
  rw [Bool.eq_iff_iff,List.contains_iff_mem]
  unfold lst
  rw [List.mem_filter,List.mem_range]
  exact ⟨fun h=>h.2,fun h=>⟨ht,h⟩⟩
section
variable {m n:Nat} {ts:List (Nat × Nat × Nat)}
theorem back124 (h:inR m n ts) {s t:Nat} (hs:s < m + n) (ht:t < m + n):(A4 m n ts).back s t = decide ((tt m n ts).getD t 0 = (tt m n ts).getD s 0):=by
  unfold Su124.Abs.back
  rw [reach124 h hs,reach124 h ht,lst_contains ht,lst_contains hs,Bool.eq_iff_iff,Bool.and_eq_true,decide_eq_true_eq,row_eq h hs ht]
theorem part124 (h:inR m n ts) {s:Nat} (hs:s < m + n):(A4 m n ts).part s = tog (tt m n ts) s:=by
  unfold Su124.Abs.part tog
  rw [tt_len]
  show List.filter _ (List.range (m + n)) = _
  apply List.filter_congr
  intro t ht
  exact back124 h hs (List.mem_range.mp ht)
def tf (m n:Nat) (ts:List (Nat × Nat × Nat)):List Nat:=tfT (tt m n ts)
theorem tf_len:(tf m n ts).length = m + n:=by unfold tf; rw [tfT_len,tt_len]
theorem tf_at {s:Nat} (hs:s < m + n):(tf m n ts).getD s 0 = (tog (tt m n ts) s).getD 0 0:=by
  unfold tf tfT
  rw [getD_map (f:=fun s=>(tog (tt m n ts) s).getD 0 0) (by rw [List.length_range,tt_len]; exact hs),getD_range (by rw [tt_len]; exact hs)]
theorem first124 (h:inR m n ts) {s:Nat} (hs:s < m + n):(A4 m n ts).first s = (tf m n ts).getD s 0:=by
  unfold Su124.Abs.first
  rw [part124 h hs,tf_at hs]
  have:=tog_pos (tb:=tt m n ts) (s:=s) (by rw [tt_len]; exact hs)
  cases q:tog (tt m n ts) s with
  | nil=>rw [q] at this; exact absurd this (by decide)
  | cons x r=>rfl
theorem leads124 (h:inR m n ts):(A4 m n ts).parts = pled (tt m n ts):=by
  unfold Su124.Abs.parts pled
  rw [tt_len]
  show List.filter _ (List.range (m + n)) = _
  apply List.filter_congr
  intro s hs
  rw [first124 h (List.mem_range.mp hs),Bool.eq_iff_iff,beq_iff_eq,decide_eq_true_eq]; rfl
theorem tp_pled:(pled (tt m n ts)).length = tp m n ts:=by unfold pled tp pcount; rw [tfT_len]
theorem parts124 (h:inR m n ts):(A4 m n ts).parts.length = tp m n ts:=by rw [leads124 h,tp_pled]
theorem firsts124 (h:inR m n ts):(A4 m n ts).ss.map (A4 m n ts).first = tf m n ts:=by
  apply List.ext_getElem
  · rw [List.length_map,tf_len]; exact List.length_range
  · intro i h2 h3
    rw [List.getElem_map]
    have hi:i < m + n:=by rw [tf_len] at h3; exact h3
    rw [show (A4 m n ts).ss[i]'(by rw [List.length_map] at h2; exact h2) = i from List.getElem_range _,first124 h hi,getD_lt h3]
end
end L2.FF
end
section
namespace L2.FF
open MG
def Eb (m:Nat) (bs:List (Nat × Nat)) (x y:Nat):Prop:=∃ b ∈ bs,(x = b.1 /\ y = m + b.2) \/ (x = m + b.2 /\ y = b.1)
def inS (m n:Nat) (bs:List (Nat × Nat)):Prop:=∀ b ∈ bs,b.1 < m /\ b.2 < n
theorem bf_snoc (m n:Nat) (bs:List (Nat × Nat)) (b:Nat × Nat):bf m n (bs ++ [b]) = jn m (bf m n bs) b:=by unfold bf; rw [List.foldl_append]; rfl
theorem jn_at {m:Nat} {fs:List Nat} {b:Nat × Nat} {a:Nat} (ha:a < fs.length):(jn m fs b).getD a 0 = if fs.getD a 0 = max (fs.getD b.1 0) (fs.getD (m + b.2) 0) then min (fs.getD b.1 0) (fs.getD (m + b.2) 0) else fs.getD a 0:=by
  unfold jn
  rw [getD_map ha]
theorem Eb_snoc {m:Nat} {bs:List (Nat × Nat)} {b:Nat × Nat} {s t:Nat}:RT (Eb m (bs ++ [b])) s t ↔ (RT (Eb m bs) s t \/ (RT (Eb m bs) s b.1 /\ RT (Eb m bs) (m + b.2) t)) ∨
    ((RT (Eb m bs) s (m + b.2) \/ (RT (Eb m bs) s b.1 /\ RT (Eb m bs) (m + b.2) (m + b.2))) /\ (RT (Eb m bs) b.1 t \/ (RT (Eb m bs) b.1 b.1 /\ RT (Eb m bs) (m + b.2) t))):=by
  have h1:∀ x y,(Eb m bs x y \/ (x = b.1 /\ y = m + b.2)) ↔ Eb m bs x y \/ (x = b.1 /\ y = m + b.2):=fun _ _=>Iff.rfl
  have h2:∀ x y,Eb m (bs ++ [b]) x y ↔ (Eb m bs x y \/ (x = b.1 /\ y = m + b.2)) \/ (x = m + b.2 /\ y = b.1):=fun x y=>by
    constructor
    · rintro ⟨c,hc,h⟩
      rcases List.mem_append.1 hc with hc | hc
      · exact .inl (.inl ⟨c,hc,h⟩)
      · rw [List.mem_singleton] at hc; subst hc
        exact h.elim (fun h=>.inl (.inr h)) .inr
    · rintro ((⟨c,hc,h⟩ | h) | h)
      · exact ⟨c,List.mem_append.mpr (.inl hc),h⟩
      · exact ⟨b,List.mem_append.mpr (.inr (List.mem_singleton.mpr rfl)),.inl h⟩
      · exact ⟨b,List.mem_append.mpr (.inr (List.mem_singleton.mpr rfl)),.inr h⟩
  rw [RT.more h2,RT.more h1,RT.more h1,RT.more h1]
structure BfOk (m n:Nat) (bs:List (Nat × Nat)):Prop where
  eq:∀ a b,a < m + n -> b < m + n -> ((bf m n bs).getD a 0 = (bf m n bs).getD b 0 ↔ RT (Eb m bs) a b)
  le:∀ a,a < m + n -> (bf m n bs).getD a 0 <= a
  id:∀ a,a < m + n -> (bf m n bs).getD ((bf m n bs).getD a 0) 0 = (bf m n bs).getD a 0
theorem bf_ok {m n:Nat} (bs:List (Nat × Nat)):inS m n bs -> BfOk m n bs:=by
  refine snoc_ind (P:=fun bs=>inS m n bs -> BfOk m n bs) ?_ ?_ bs
  · intro _
    have e:∀ a,a < m + n -> (bf m n []).getD a 0 = a:=fun a ha=>getD_range ha
    refine ⟨fun a b ha hb=>?_,fun a ha=>?_,fun a ha=>?_⟩
    · rw [RT.none (by rintro x y ⟨t,ht,_⟩; cases ht),e a ha,e b hb]
    · rw [e a ha]; exact Nat.le_refl _
    · rw [e a ha,e a ha]
  · intro bs c ih h
    have ok:=ih fun u hu=>h u (List.mem_append.mpr (.inl hu))
    have hc:=h c (List.mem_append.mpr (.inr (List.mem_singleton.mpr rfl)))
    have hl:=bf_len m n bs
    have hu:c.1 < m + n:=by omega
    have hv:m + c.2 < m + n:=by omega
    have at_:∀ a,a < m + n -> (bf m n (bs ++ [c])).getD a 0 = if (bf m n bs).getD a 0 = max ((bf m n bs).getD c.1 0) ((bf m n bs).getD (m + c.2) 0) then min ((bf m n bs).getD c.1 0) ((bf m n bs).getD (m + c.2) 0) else (bf m n bs).getD a 0:=fun a ha=>by
      rw [bf_snoc,jn_at (by rw [hl]; exact ha)]
    have lt:∀ a,a < m + n -> (bf m n bs).getD a 0 < m + n:=fun a ha=>Nat.lt_of_le_of_lt (ok.le a ha) ha
    refine ⟨fun a b ha hb=>?_,fun a ha=>?_,fun a ha=>?_⟩
    · rw [at_ a ha,at_ b hb,Eb_snoc,<- ok.eq a b ha hb,<- ok.eq a _ ha hu,<- ok.eq _ b hv hb,<- ok.eq a _ ha hv,<- ok.eq _ _ hv hv,<- ok.eq _ b hu hb,<- ok.eq _ _ hu hu]
      generalize (bf m n bs).getD a 0 = p
      generalize (bf m n bs).getD b 0 = q
      generalize (bf m n bs).getD c.1 0 = x
      generalize (bf m n bs).getD (m + c.2) 0 = y
      split <;> split <;> omega
    · have:=ok.le a ha
      rw [at_ a ha]
      split <;> omega
    · have ia:=ok.id a ha
      have iu:=ok.id c.1 hu
      have iv:=ok.id (m + c.2) hv
      have la:=lt a ha
      have lu:=lt c.1 hu
      have lv:=lt (m + c.2) hv
      by_cases z:(bf m n bs).getD a 0 = max ((bf m n bs).getD c.1 0) ((bf m n bs).getD (m + c.2) 0)
      · have lm:min ((bf m n bs).getD c.1 0) ((bf m n bs).getD (m + c.2) 0) < m + n:=by omega
        have im:(bf m n bs).getD (min ((bf m n bs).getD c.1 0) ((bf m n bs).getD (m + c.2) 0)) 0 = min ((bf m n bs).getD c.1 0) ((bf m n bs).getD (m + c.2) 0):=by
          by_cases w:(bf m n bs).getD c.1 0 <= (bf m n bs).getD (m + c.2) 0
          · rw [Nat.min_eq_left w]; exact iu
          · rw [Nat.min_eq_right (by omega)]; exact iv
        rw [at_ a ha,if_pos z,at_ _ lm,im]
        split <;> rfl
      · rw [at_ a ha,if_neg z,at_ _ la,ia,if_neg z]
theorem grow123 (a:Su123.Abs):∀ (k:Nat) (l:List Nat),a.grow k l = MG.grow a.size (fun t s=>(a.near s).contains t) k l
  | 0,_=>rfl
  | k + 1,l=>by
    show a.grow k _ = MG.grow _ _ k _
    rw [grow123 a k]
    congr 1
    unfold MG.gstep Su123.Abs.ss
    apply List.filter_congr
    intro s _
    congr 1
    rw [Bool.eq_iff_iff,List.any_eq_true,List.any_eq_true]
    constructor
    · rintro ⟨t,ht,h⟩; exact ⟨t,List.contains_iff_mem.mp h,List.contains_iff_mem.mpr ht⟩
    · rintro ⟨t,ht,h⟩; exact ⟨t,List.contains_iff_mem.mp h,List.contains_iff_mem.mpr ht⟩
def A3 (m n:Nat) (bs:List (Nat × Nat)):Su123.Abs:=⟨m,n,bs⟩
theorem near_iff {m n:Nat} {bs:List (Nat × Nat)} (h:inS m n bs) {s t:Nat} (hs:s < m + n):((A3 m n bs).near s).contains t = true ↔ Eb m bs t s:=by
  rw [List.contains_iff_mem]
  unfold Su123.Abs.near
  by_cases z:s < m
  · rw [if_pos (show s < (A3 m n bs).m from z),List.mem_map]
    constructor
    · rintro ⟨j,hj,rfl⟩
      obtain ⟨_,h2⟩:=List.mem_filter.mp hj
      exact ⟨(s,j),List.contains_iff_mem.mp h2,.inr ⟨rfl,rfl⟩⟩
    · rintro ⟨b,hb,⟨e1,e2⟩ | ⟨e1,e2⟩⟩
      · omega
      · have:=h b hb
        refine ⟨b.2,List.mem_filter.mpr ⟨List.mem_range.mpr this.2,List.contains_iff_mem.mpr ?_⟩,e1.symm⟩
        rw [e2]; exact hb
  · rw [if_neg (show ¬ s < (A3 m n bs).m from z),List.mem_filter,List.mem_range]
    constructor
    · rintro ⟨h1,h2⟩
      exact ⟨(t,s - m),List.contains_iff_mem.mp h2,.inl ⟨rfl,by show s = m + (s - m); omega⟩⟩
    · rintro ⟨b,hb,⟨e1,e2⟩ | ⟨e1,e2⟩⟩
      · have:=h b hb
        refine ⟨by rw [e1]; exact this.1,List.contains_iff_mem.mpr ?_⟩
        show (t,s - m) ∈ bs
        rw [e1,e2,show m + b.2 - m = b.2 by omega]; exact hb
      · have:=h b hb
        omega
section
variable {m n:Nat} {bs:List (Nat × Nat)}
theorem Eb_lt (h:inS m n bs) {x y:Nat} (e:Eb m bs x y):y < m + n:=by
  obtain ⟨b,hb,e⟩:=e
  have:=h b hb
  rcases e with e | e <;> omega
theorem part123 (h:inS m n bs) {s:Nat} (hs:s < m + n):(A3 m n bs).part s = lst (m + n) fun t=>decide ((bf m n bs).getD t 0 = (bf m n bs).getD s 0):=by
  show (A3 m n bs).grow (m + n) [s] = _
  rw [grow123]
  show S (m + n) _ s (m + n) = _
  have hrr:∀ l:List Nat,gstep (m + n) (fun t s=>((A3 m n bs).near s).contains t) l = gstep (m + n) (fun t s=>decide (s < m + n) && ((A3 m n bs).near s).contains t) l:=fun l=>by
    unfold gstep
    apply List.filter_congr
    intro x hx
    simp only [decide_eq_true (List.mem_range.mp hx),Bool.true_and]
  have hg:∀ k l,grow (m + n) (fun t s=>((A3 m n bs).near s).contains t) k l = grow (m + n) (fun t s=>decide (s < m + n) && ((A3 m n bs).near s).contains t) k l:=fun k=>by
    induction k with
    | zero=>intro l; rfl
    | succ k ih=>intro l; show grow _ _ k _ = grow _ _ k _; rw [ih,hrr]
  rw [show S (m + n) (fun t s=>((A3 m n bs).near s).contains t) s (m + n) = S (m + n) (fun t s=>decide (s < m + n) && ((A3 m n bs).near s).contains t) s (m + n) from hg _ _,S_eq (by omega)]
  apply lst_congr
  intro x hx
  have ok:=bf_ok bs h
  rw [Bool.eq_iff_iff,decide_eq_true_eq,decide_eq_true_eq,mem_S hs (fun a b e=>by rw [Bool.and_eq_true,decide_eq_true_eq] at e; exact e.1),eq_comm,ok.eq s x hs hx]
  constructor
  · exact fun g=>g.mono fun a b e=>by rw [Bool.and_eq_true,decide_eq_true_eq] at e; exact (near_iff h e.1).mp e.2
  · exact fun g=>g.mono fun a b e=>by rw [Bool.and_eq_true,decide_eq_true_eq]; exact ⟨Eb_lt h e,(near_iff h (Eb_lt h e)).mpr e⟩
theorem lst_head {N:Nat} {p:Nat -> Bool} {k d:Nat} (hk:k < N) (h:p k = true) (hm:∀ t,t < N -> p t = true -> k <= t):(lst N p).headD d = k:=by
  have pw:(lst N p).Pairwise (· < ·):=List.Pairwise.filter _ List.pairwise_lt_range
  have km:k ∈ lst N p:=List.mem_filter.mpr ⟨List.mem_range.mpr hk,h⟩
  cases q:lst N p with
  | nil=>rw [q] at km; cases km
  | cons x r =>
    rw [q] at pw km
    have xm:x ∈ lst N p:=by rw [q]; exact List.mem_cons_self
    obtain ⟨x1,x2⟩:=List.mem_filter.mp xm
    have h1:=hm x (List.mem_range.mp x1) x2
    show x = k
    rcases List.mem_cons.mp km with e | e
    · exact e.symm
    · have:=(List.pairwise_cons.mp pw).1 k e
      omega
theorem first123 (h:inS m n bs) {s:Nat} (hs:s < m + n):(A3 m n bs).first s = (bf m n bs).getD s 0:=by
  have ok:=bf_ok bs h
  unfold Su123.Abs.first
  rw [part123 h hs]
  refine lst_head (Nat.lt_of_le_of_lt (ok.le s hs) hs) (decide_eq_true (ok.id s hs)) fun t ht e=>?_
  rw [<- of_decide_eq_true e]
  exact ok.le t ht
theorem parts123 (h:inS m n bs):(A3 m n bs).parts.length = pcount (bf m n bs):=by
  unfold Su123.Abs.parts pcount
  rw [bf_len]
  congr 1
  show List.filter _ (List.range (m + n)) = _
  apply List.filter_congr
  intro s hs
  rw [first123 h (List.mem_range.mp hs),Bool.eq_iff_iff,beq_iff_eq,decide_eq_true_eq]
theorem free123 (h:inS m n bs):(A3 m n bs).free = sh m n bs:=by unfold Su123.Abs.free sh; rw [parts123 h]
theorem firm123 (h:inS m n bs) (hp:0 < m + n):(A3 m n bs).firm = decide (sh m n bs = 0):=by
  unfold Su123.Abs.firm sh
  have:=pc_pos (m:=m) (n:=n) (bs:=bs) hp
  rw [parts123 h,Bool.eq_iff_iff,beq_iff_eq,decide_eq_true_eq]
  omega
theorem firsts123 (h:inS m n bs):(A3 m n bs).ss.map (A3 m n bs).first = bf m n bs:=by
  apply List.ext_getElem
  · rw [List.length_map,bf_len]; exact List.length_range
  · intro i h2 h3
    rw [List.getElem_map]
    have hi:i < m + n:=by rw [bf_len] at h3; exact h3
    rw [show (A3 m n bs).ss[i]'(by rw [List.length_map] at h2; exact h2) = i from List.getElem_range _,first123 h hi,getD_lt h3]
theorem still123 (h:inS m n bs) {i j:Nat} (hi:i < m) (hj:j < n):(A3 m n bs).still i j = ka m (bf m n bs) (i,j):=by
  unfold Su123.Abs.still ka
  rw [first123 h (show i < m + n by omega),show (A3 m n bs).col j = m + j from rfl,first123 h (show m + j < m + n by omega),Bool.eq_iff_iff,beq_iff_eq,decide_eq_true_eq]
theorem inS.wo (h:inS m n bs) {b:Nat × Nat}:inS m n (wo bs b):=fun x hx=>h x (List.mem_filter.mp hx).1
theorem inS.app (h:inS m n bs) {b:Nat × Nat} (h1:b.1 < m) (h2:b.2 < n):inS m n (bs ++ [b]):=fun x hx=>by
  rcases List.mem_append.1 hx with hx | hx
  · exact h x hx
  · rw [List.mem_singleton.mp hx]; exact ⟨h1,h2⟩
theorem spare123 (h:inS m n bs) (b:Nat × Nat):(A3 m n bs).spare b.1 b.2 = isp m n bs b:=by
  unfold Su123.Abs.spare isp
  rw [show (A3 m n bs).without b.1 b.2 = A3 m n (wo bs b) from rfl,free123 h,free123 h.wo,Bool.eq_iff_iff,beq_iff_eq,decide_eq_true_eq]
end
end L2.FF
end
section
namespace L2.FF
open MG
def cast (l:List Nat):List Int:=l.map fun (k:Nat)=>(k:Int)
def out3 (a:Su123.Ans):List Int:=a.value :: cast a.out
def out4 (a:Su124.Ans):List Int:=a.value :: cast a.out
theorem pairs_e2:∀ l:List (Nat × Nat),cast (Su123.pairs l) = (l.map e2).flatten
  | []=>rfl
  | x :: r=>by
    have ih:=pairs_e2 r
    unfold cast Su123.pairs at ih ⊢
    rw [List.flatMap_cons,List.map_append,ih]
    rfl
theorem three_e3:∀ l:List (Nat × Nat × Nat),cast (Su124.three l) = (l.map e3).flatten
  | []=>rfl
  | x :: r=>by
    have ih:=three_e3 r
    unfold cast Su124.three at ih ⊢
    rw [List.flatMap_cons,List.map_append,ih]
    rfl
theorem flat2_eq (l:List (Nat × Nat)):out3 (Su123.num l.length (Su123.pairs l)) = flat2 l:=by
  unfold out3 flat2; rw [<- pairs_e2]; rfl
theorem flat3_eq (l:List (Nat × Nat × Nat)):out4 (Su124.num l.length (Su124.three l)) = flat3 l:=by
  unfold out4 flat3; rw [<- three_e3]; rfl
section
variable {m n:Nat} {bs:List (Nat × Nat)} {ts:List (Nat × Nat × Nat)}
theorem isS_of {i j:Nat} (hi:i < m) (hj:j < n):(A3 m n bs).isS i j = true:=by
  unfold Su123.Abs.isS; rw [decide_eq_true (show i < (A3 m n bs).m from hi),decide_eq_true (show j < (A3 m n bs).n from hj)]; rfl
theorem d_brace (h:inS m n bs) {b:Nat × Nat} (hi:b.1 < m) (hj:b.2 < n):Su123.does (A3 m n bs) (.brace b.1 b.2) = if bs.contains b then (A3 m n bs,Su123.no (-17)) else (A3 m n (bs ++ [b]),Su123.num (sh m n (bs ++ [b])) []):=by
  show (if (A3 m n bs).isS b.1 b.2 = false then _ else if bs.contains b = true then _ else _) = _
  rw [if_neg (by rw [isS_of hi hj]; decide)]
  cases hc:bs.contains b with
  | true=>rfl
  | false =>
    rw [if_neg (by decide),if_neg (by decide),show (A3 m n bs).with_ b.1 b.2 = A3 m n (bs ++ [b]) from rfl,free123 (h.app hi hj)]
theorem d_free (h:inS m n bs) {b:Nat × Nat} (hi:b.1 < m) (hj:b.2 < n):Su123.does (A3 m n bs) (.free b.1 b.2) = if bs.contains b then (A3 m n (wo bs b),Su123.num (sh m n (wo bs b)) []) else (A3 m n bs,Su123.no (-6)):=by
  show (if (A3 m n bs).isS b.1 b.2 = false then _ else if bs.contains b = false then _ else _) = _
  rw [if_neg (by rw [isS_of hi hj]; decide)]
  cases hc:bs.contains b with
  | false=>rfl
  | true =>
    rw [if_neg (by decide),if_pos rfl,show (A3 m n bs).without b.1 b.2 = A3 m n (wo bs b) from rfl,free123 h.wo]
theorem d_firm (h:inS m n bs) (hp:0 < m + n):Su123.does (A3 m n bs) .firm = (A3 m n bs,Su123.num (if decide (sh m n bs = 0) then 1 else 0) [sh m n bs]):=by
  show (_,Su123.num (Su123.bit (A3 m n bs).firm) [(A3 m n bs).free]) = _
  rw [firm123 h hp,free123 h]; rfl
theorem d_parts (h:inS m n bs):Su123.does (A3 m n bs) .parts = (A3 m n bs,Su123.list (bf m n bs)):=by
  show (_,Su123.list _) = _
  rw [firsts123 h]
theorem d_part (h:inS m n bs) {s:Nat} (hs:s < m + n):Su123.does (A3 m n bs) (.part s) = (A3 m n bs,Su123.list ((List.range (bf m n bs).length).filter fun k=>decide ((bf m n bs).getD k 0 = (bf m n bs).getD s 0))):=by
  show (if m + n <= s then _ else _) = _
  rw [if_neg (by omega),part123 h hs,bf_len]; rfl
theorem d_still (h:inS m n bs) {b:Nat × Nat} (hi:b.1 < m) (hj:b.2 < n):Su123.does (A3 m n bs) (.still b.1 b.2) = (A3 m n bs,Su123.num (if ka m (bf m n bs) b then 1 else 0) []):=by
  show (if (A3 m n bs).isS b.1 b.2 = false then _ else _) = _
  rw [if_neg (by rw [isS_of hi hj]; decide),still123 h hi hj]; rfl
theorem sqs_is:(A3 m n bs).squares = sqs m n:=rfl
theorem still_sq (h:inS m n bs) {x:Nat × Nat} (hx:x ∈ sqs m n):(A3 m n bs).still x.1 x.2 = ka m (bf m n bs) x:=still123 h (sqs_mem hx).1 (sqs_mem hx).2
theorem ang_sum (h:inS m n bs):(ang m n bs).sum = ((sqs m n).filter fun x=>ka m (bf m n bs) x).length:=by
  unfold ang
  generalize sqs m n = l
  induction l with
  | nil=>rfl
  | cons x r ih =>
    rw [List.map_cons,List.sum_cons,ih,List.filter_cons]
    cases ka m (bf m n bs) x
    · simp
    · rw [if_pos rfl,if_pos rfl,List.length_cons]; omega
theorem d_stills (h:inS m n bs):Su123.does (A3 m n bs) .stills = (A3 m n bs,Su123.num (ang m n bs).sum (ang m n bs)):=by
  have e1:((sqs m n).filter fun x=>(A3 m n bs).still x.1 x.2) = (sqs m n).filter fun x=>ka m (bf m n bs) x:=List.filter_congr fun x hx=>still_sq h hx
  have e2:((sqs m n).map fun x=>Su123.bit ((A3 m n bs).still x.1 x.2)) = ang m n bs:=List.map_congr_left fun x hx=>by rw [still_sq h hx]; rfl
  show (_,Su123.num ((sqs m n).filter fun x=>(A3 m n bs).still x.1 x.2).length ((sqs m n).map fun x=>Su123.bit ((A3 m n bs).still x.1 x.2))) = _
  rw [ang_sum h,e1,e2]
theorem d_alike (h:inS m n bs) {i j k l:Nat} (hi:i < m) (hj:j < n) (hk:k < m) (hl:l < n):Su123.does (A3 m n bs) (.alike i j k l) = (A3 m n bs,Su123.num (if decide ((bf m n bs).getD i 0 = (bf m n bs).getD k 0) && decide ((bf m n bs).getD (m + j) 0 = (bf m n bs).getD (m + l) 0) then 1 else 0) []):=by
  show (if (A3 m n bs).isS i j = false \/ (A3 m n bs).isS k l = false then _ else _) = _
  rw [if_neg (by rw [isS_of hi hj,isS_of hk hl]; decide)]
  show (_,Su123.num (Su123.bit ((A3 m n bs).first i == (A3 m n bs).first k && (A3 m n bs).first (m + j) == (A3 m n bs).first (m + l))) []) = _
  rw [first123 h (by omega),first123 h (by omega),first123 h (by omega),first123 h (by omega)]
  unfold Su123.bit
  congr 3
theorem d_spare (h:inS m n bs) {b:Nat × Nat} (hi:b.1 < m) (hj:b.2 < n):Su123.does (A3 m n bs) (.spare b.1 b.2) = (A3 m n bs,if bs.contains b then Su123.num (if isp m n bs b then 1 else 0) [] else Su123.no (-6)):=by
  show (if (A3 m n bs).isS b.1 b.2 = false then _ else if bs.contains b = false then _ else _) = _
  rw [if_neg (by rw [isS_of hi hj]; decide),spare123 h]
  cases hc:bs.contains b <;> rfl
theorem d_spares (h:inS m n bs):Su123.does (A3 m n bs) .spares = (A3 m n bs,Su123.num (bs.filter fun b=>isp m n bs b).length (Su123.pairs (bs.filter fun b=>isp m n bs b))):=by
  have e:(bs.filter fun x=>(A3 m n bs).spare x.1 x.2) = bs.filter fun b=>isp m n bs b:=List.filter_congr fun x _=>spare123 h x
  show (_,Su123.num (bs.filter fun x=>(A3 m n bs).spare x.1 x.2).length (Su123.pairs (bs.filter fun x=>(A3 m n bs).spare x.1 x.2))) = _
  rw [e]
theorem d_all:Su123.does (A3 m n bs) .all = (A3 m n bs,Su123.num bs.length (Su123.pairs bs)):=rfl
theorem d_row {i:Nat} (hi:i < m):Su123.does (A3 m n bs) (.row i) = (A3 m n bs,Su123.list ((List.range n).filter fun j=>bs.contains (i,j))):=by
  show (if m <= i then _ else _) = _
  rw [if_neg (by omega)]; rfl
theorem d_column {j:Nat} (hj:j < n):Su123.does (A3 m n bs) (.column j) = (A3 m n bs,Su123.list ((List.range m).filter fun i=>bs.contains (i,j))):=by
  show (if n <= j then _ else _) = _
  rw [if_neg (by omega)]; rfl
theorem sqs_in {x:Nat × Nat}:x ∈ sqs m n ↔ x.1 < m /\ x.2 < n:=by
  constructor
  · exact sqs_mem
  · rintro ⟨h1,h2⟩
    unfold sqs
    simp only [List.mem_flatMap,List.mem_range,List.mem_map]
    exact ⟨x.1,h1,x.2,h2,rfl⟩
theorem d_turn (h:inS m n bs) (ts':List (Nat × Nat × Nat)) (l:List Nat):Su123.does (A3 m n bs) (.turn l) = (A3 m n bs,if l.length ≠ m + n then Su123.no (-22) else Su123.num (if decide ((bs.filter fun x=>(bentM ⟨m,n,bs,ts'⟩ l).contains x).length = 0) then 1 else 0) [(bentM ⟨m,n,bs,ts'⟩ l).length]):=by
  show (if l.length ≠ m + n then _ else _) = _
  by_cases e:l.length ≠ m + n
  · rw [if_pos e,if_pos e]
  · rw [if_neg e,if_neg e]
    have e':l.length = m + n:=by omega
    have e1:(A3 m n bs).turns l = decide ((bs.filter fun x=>(bentM ⟨m,n,bs,ts'⟩ l).contains x).length = 0):=by
      rw [Bool.eq_iff_iff]
      unfold Su123.Abs.turns
      rw [Bool.and_eq_true,beq_iff_eq,List.all_eq_true,decide_eq_true_eq,List.length_eq_zero_iff,List.filter_eq_nil_iff]
      constructor
      · rintro ⟨_,h1⟩ x hx
        rw [List.contains_iff_mem]
        intro hb
        obtain ⟨_,h2⟩:=List.mem_filter.mp hb
        have h3:=h1 x hx
        rw [beq_iff_eq] at h3
        rw [Bool.not_eq_true',decide_eq_false_iff_not] at h2
        exact h2 h3
      · intro h1
        refine ⟨e',fun x hx=>?_⟩
        rw [beq_iff_eq]
        refine Classical.byContradiction fun hn=>h1 x hx ?_
        rw [List.contains_iff_mem]
        refine List.mem_filter.mpr ⟨sqs_in.mpr (h x hx),?_⟩
        rw [Bool.not_eq_true',decide_eq_false_iff_not]
        exact hn
    have e2:((sqs m n).filter fun x=>l.getD x.1 0 != l.getD ((A3 m n bs).col x.2) 0) = bentM ⟨m,n,bs,ts'⟩ l:=by
      unfold bentM
      apply List.filter_congr
      intro x _
      rw [Bool.eq_iff_iff,bne_iff_ne,Bool.not_eq_true',decide_eq_false_iff_not]
      exact Iff.rfl
    show (_,Su123.num (Su123.bit ((A3 m n bs).turns l)) [((sqs m n).filter fun x=>l.getD x.1 0 != l.getD ((A3 m n bs).col x.2) 0).length]) = _
    rw [e1,e2]; rfl
theorem thin_fold (l:List (Nat × Nat)):∀ bs:List (Nat × Nat),inS m n bs -> (l.foldl (fun (b:Su123.Abs) x=>if b.spare x.1 x.2 then b.without x.1 x.2 else b) (A3 m n bs)) = A3 m n (l.foldl (thin1 m n) bs):=by
  induction l with
  | nil=>intro bs _; rfl
  | cons x r ih =>
    intro bs h
    rw [List.foldl_cons,List.foldl_cons,spare123 h]
    unfold thin1
    cases hc:isp m n bs x with
    | true=>rw [if_pos rfl,if_pos rfl]; exact ih _ h.wo
    | false=>rw [if_neg (by decide),if_neg (by decide)]; exact ih _ h
theorem d_thin (h:inS m n bs):Su123.does (A3 m n bs) .thin = (A3 m n bs,Su123.num (thinM m n bs).length (Su123.pairs (thinM m n bs))):=by
  have e:(A3 m n bs).thin = thinM m n bs:=by
    unfold Su123.Abs.thin thinM
    rw [show (A3 m n bs).braced = bs from rfl,thin_fold _ _ h]
    rfl
  show (_,Su123.num (A3 m n bs).thin.length (Su123.pairs (A3 m n bs).thin)) = _
  rw [e]
theorem RT_sub {l l':List (Nat × Nat)} (h:∀ x ∈ l,x ∈ l') {a b:Nat} (g:RT (Eb m l) a b):RT (Eb m l') a b:=g.mono fun x y ⟨c,hc,e⟩=>⟨c,h c hc,e⟩
theorem ka_mono {l l':List (Nat × Nat)} (h:inS m n l) (h':inS m n l') (hs:∀ x ∈ l,x ∈ l') {x:Nat × Nat} (hx:x ∈ sqs m n) (e:ka m (bf m n l) x = true):ka m (bf m n l') x = true:=by
  have hx':=sqs_mem hx
  unfold ka at e ⊢
  rw [decide_eq_true_eq] at e ⊢
  rw [(bf_ok l' h').eq _ _ (by omega) (by omega)]
  exact RT_sub hs (((bf_ok l h).eq _ _ (by omega) (by omega)).mp e)
theorem count_diff {α:Type} {p q:α -> Bool}:∀ {l:List α},(∀ x ∈ l,q x = true -> p x = true) -> (l.filter p).length = (l.filter q).length + (l.filter fun x=>p x && !q x).length
  | [],_=>rfl
  | x :: r,h=>by
    have ih:=count_diff (p:=p) (q:=q) (l:=r) fun y hy=>h y (List.mem_cons_of_mem _ hy)
    have h0:=h x List.mem_cons_self
    rw [List.filter_cons,List.filter_cons,List.filter_cons]
    cases hp:p x <;> cases hq:q x
    · simpa using ih
    · rw [hp,hq] at h0; exact absurd (h0 rfl) (by decide)
    · simp; omega
    · simp; omega
theorem d_falls (h:inS m n bs) {b:Nat × Nat} (hi:b.1 < m) (hj:b.2 < n):out3 (Su123.does (A3 m n bs) (.falls b.1 b.2)).2 = r_falls ⟨m,n,bs,[]⟩ b /\ (Su123.does (A3 m n bs) (.falls b.1 b.2)).1 = A3 m n bs:=by
  have e0:Su123.does (A3 m n bs) (.falls b.1 b.2) = if bs.contains b = false then (A3 m n bs,Su123.no (-6)) else (A3 m n bs,Su123.num ((sqs m n).filter fun x=>(A3 m n bs).still x.1 x.2 && !((A3 m n (wo bs b)).still x.1 x.2)).length [(A3 m n (wo bs b)).free]):=by
    show (if (A3 m n bs).isS b.1 b.2 = false then _ else _) = _
    rw [if_neg (by rw [isS_of hi hj]; decide)]
    rfl
  rw [e0]
  unfold r_falls
  cases hc:bs.contains b with
  | false=>exact ⟨rfl,rfl⟩
  | true =>
    rw [if_neg (by decide),if_pos rfl]
    refine ⟨?_,rfl⟩
    have e1:((sqs m n).filter fun x=>(A3 m n bs).still x.1 x.2 && !((A3 m n (wo bs b)).still x.1 x.2)) = (sqs m n).filter fun x=>ka m (bf m n bs) x && !ka m (bf m n (wo bs b)) x :=
      List.filter_congr fun x hx=>by rw [still_sq h hx,still_sq h.wo hx]
    have e2:=count_diff (p:=fun x=>ka m (bf m n bs) x) (q:=fun x=>ka m (bf m n (wo bs b)) x) (l:=sqs m n) fun x hx=>ka_mono h.wo h (fun y hy=>(List.mem_filter.mp hy).1) hx
    rw [e1,free123 h.wo]
    show [(((sqs m n).filter fun x=>ka m (bf m n bs) x && !ka m (bf m n (wo bs b)) x).length:Int),((sh m n (wo bs b):Nat):Int)] = _
    rw [ang_sum h,ang_sum h.wo]
    congr 1
    omega
theorem d_would (h:inS m n bs) {b:Nat × Nat} (hi:b.1 < m) (hj:b.2 < n):out3 (Su123.does (A3 m n bs) (.would b.1 b.2)).2 = r_would ⟨m,n,bs,[]⟩ b /\ (Su123.does (A3 m n bs) (.would b.1 b.2)).1 = A3 m n bs:=by
  have h':=h.app hi hj
  have e0:Su123.does (A3 m n bs) (.would b.1 b.2) = if bs.contains b = true then (A3 m n bs,Su123.no (-17)) else (A3 m n bs,Su123.num (A3 m n (bs ++ [b])).free [((sqs m n).filter fun x=>!((A3 m n bs).still x.1 x.2) && (A3 m n (bs ++ [b])).still x.1 x.2).length]):=by
    show (if (A3 m n bs).isS b.1 b.2 = false then _ else _) = _
    rw [if_neg (by rw [isS_of hi hj]; decide)]
    rfl
  rw [e0]
  unfold r_would
  cases hc:bs.contains b with
  | true=>exact ⟨rfl,rfl⟩
  | false =>
    rw [if_neg (by decide),if_neg (by decide)]
    refine ⟨?_,rfl⟩
    have e1:((sqs m n).filter fun x=>!((A3 m n bs).still x.1 x.2) && (A3 m n (bs ++ [b])).still x.1 x.2) = (sqs m n).filter fun x=>ka m (bf m n (bs ++ [b])) x && !ka m (bf m n bs) x :=
      List.filter_congr fun x hx=>by rw [still_sq h hx,still_sq h' hx,Bool.and_comm]
    have e2:=count_diff (p:=fun x=>ka m (bf m n (bs ++ [b])) x) (q:=fun x=>ka m (bf m n bs) x) (l:=sqs m n) fun x hx=>ka_mono h h' (fun y hy=>List.mem_append.mpr (.inl hy)) hx
    rw [e1,free123 h']
    show [((sh m n (bs ++ [b]):Nat):Int),(((sqs m n).filter fun x=>ka m (bf m n (bs ++ [b])) x && !ka m (bf m n bs) x).length:Int)] = _
    rw [ang_sum h,ang_sum h']
    congr 2
    omega
theorem pc_join (h:inS m n bs) {b:Nat × Nat} (hi:b.1 < m) (hj:b.2 < n):pcount (bf m n (bs ++ [b])) + (if ka m (bf m n bs) b then 0 else 1) = pcount (bf m n bs):=by
  have ok:=bf_ok bs h
  have hl:=bf_len m n bs
  have hu:b.1 < m + n:=by omega
  have hv:m + b.2 < m + n:=by omega
  have at_:∀ a,a < m + n -> (bf m n (bs ++ [b])).getD a 0 = if (bf m n bs).getD a 0 = max ((bf m n bs).getD b.1 0) ((bf m n bs).getD (m + b.2) 0) then min ((bf m n bs).getD b.1 0) ((bf m n bs).getD (m + b.2) 0) else (bf m n bs).getD a 0:=fun a ha=>by
    rw [bf_snoc,jn_at (by rw [hl]; exact ha)]
  unfold pcount
  rw [bf_len,hl]
  unfold ka
  by_cases e:(bf m n bs).getD b.1 0 = (bf m n bs).getD (m + b.2) 0
  · rw [decide_eq_true e,if_pos rfl,Nat.add_zero]
    congr 1
    apply List.filter_congr
    intro a ha
    rw [at_ a (List.mem_range.mp ha),e,Nat.max_self,Nat.min_self]
    congr 1
    split
    · rename_i z; rw [z]
    · rfl
  · rw [decide_eq_false e,if_neg (by decide)]
    have iu:=ok.id b.1 hu
    have iv:=ok.id (m + b.2) hv
    have lu:=Nat.lt_of_le_of_lt (ok.le b.1 hu) hu
    have lv:=Nat.lt_of_le_of_lt (ok.le (m + b.2) hv) hv
    generalize hx:(bf m n bs).getD b.1 0 = x at *
    generalize hy:(bf m n bs).getD (m + b.2) 0 = y at *
    have him:(bf m n bs).getD (max x y) 0 = max x y:=by
      by_cases w:x <= y
      · rw [Nat.max_eq_right w]; exact iv
      · rw [Nat.max_eq_left (by omega)]; exact iu
    have lom:(bf m n bs).getD (min x y) 0 = min x y:=by
      by_cases w:x <= y
      · rw [Nat.min_eq_left w]; exact iu
      · rw [Nat.min_eq_right (by omega)]; exact iv
    have e1:((List.range (m + n)).filter fun k=>decide ((bf m n (bs ++ [b])).getD k 0 = k)) = ((List.range (m + n)).filter fun k=>decide ((bf m n bs).getD k 0 = k)).filter fun k=>decide (k ≠ max x y):=by
      rw [List.filter_filter]
      apply List.filter_congr
      intro a ha
      rw [at_ a (List.mem_range.mp ha),Bool.eq_iff_iff,Bool.and_eq_true,decide_eq_true_eq,decide_eq_true_eq,decide_eq_true_eq]
      by_cases z:(bf m n bs).getD a 0 = max x y
      · rw [if_pos z]
        constructor
        · intro q; rw [<- q,lom] at z; omega
        · rintro ⟨q1,q2⟩; omega
      · rw [if_neg z]
        constructor
        · intro q; exact ⟨fun w=>z (by rw [w]; exact him),q⟩
        · rintro ⟨_,q⟩; exact q
    rw [e1]
    have km:max x y ∈ (List.range (m + n)).filter fun k=>decide ((bf m n bs).getD k 0 = k):=List.mem_filter.mpr ⟨List.mem_range.mpr (by omega),decide_eq_true him⟩
    have nd:((List.range (m + n)).filter fun k=>decide ((bf m n bs).getD k 0 = k)).Nodup:=List.Pairwise.filter _ List.nodup_range
    generalize ((List.range (m + n)).filter fun k=>decide ((bf m n bs).getD k 0 = k)) = l at *
    clear e1
    induction l with
    | nil=>cases km
    | cons a r ih =>
      have n2:=List.nodup_cons.mp nd
      rw [List.filter_cons]
      by_cases z:a = max x y
      · subst z
        rw [if_neg (by simp),show r.filter (fun k=>decide (k ≠ max x y)) = r from List.filter_eq_self.mpr fun k hk=>decide_eq_true (show k ≠ max x y from fun w=>n2.1 (by rw [<- w]; exact hk))]
        rfl
      · rw [if_pos (decide_eq_true z),List.length_cons,List.length_cons,<- ih ((List.mem_cons.mp km).resolve_left fun w=>z w.symm) n2.2]
theorem pc_nil (m n:Nat):pcount (bf m n []) = m + n:=by
  unfold pcount
  rw [bf_len,List.filter_eq_self.mpr,List.length_range]
  intro a ha
  exact decide_eq_true (getD_range (List.mem_range.mp ha))
theorem rank (bs:List (Nat × Nat)):inS m n bs -> pcount (bf m n bs) <= m + n /\ m + n <= pcount (bf m n bs) + bs.length:=by
  refine snoc_ind (P:=fun bs=>inS m n bs -> pcount (bf m n bs) <= m + n /\ m + n <= pcount (bf m n bs) + bs.length) ?_ ?_ bs
  · intro _; rw [pc_nil]; exact ⟨Nat.le_refl _,Nat.le_refl _⟩
  · intro bs b ih h
    have hb:=h b (List.mem_append.mpr (.inr (List.mem_singleton.mpr rfl)))
    have h':inS m n bs:=fun u hu=>h u (List.mem_append.mpr (.inl hu))
    have i1:=ih h'
    have j:=pc_join h' hb.1 hb.2
    rw [List.length_append,List.length_singleton]
    split at j <;> omega
theorem d_least (h:inS m n bs):out3 (Su123.does (A3 m n bs) .least).2 = [((m + n - 1:Nat):Int),(bs.length:Int) - (((m + n:Nat):Int) - (pcount (bf m n bs):Nat))]:=by
  show [((m + n - 1:Nat):Int),((bs.length - (m + n - (A3 m n bs).parts.length):Nat):Int)] = _
  have r:=rank bs h
  rw [parts123 h]
  congr 2
  omega
theorem put_run:∀ (r p:List (Nat × Nat)) (bs:List (Nat × Nat)) (A:List (Nat × Nat)) (fuel:Nat),inS m n bs -> sqs m n = p ++ r -> (∀ x ∈ p,ka m (bf m n bs) x = true) -> pcount (bf m n bs) <= fuel →
    A ++ (A3 m n bs).putFrom fuel = (putS m r (bf m n bs,A)).2
  | [],p,bs,A,fuel,h,e,hp,hf=>by
    rw [List.append_nil] at e
    cases fuel with
    | zero=>exact List.append_nil _
    | succ f =>
      have q:(A3 m n bs).squares.find? (fun x=>!((A3 m n bs).still x.1 x.2)) = none:=List.find?_eq_none.mpr fun x hx=>by
        rw [sqs_is] at hx
        rw [still_sq h hx,hp x (by rw [<- e]; exact hx)]; decide
      show A ++ (match (A3 m n bs).squares.find? (fun x=>!((A3 m n bs).still x.1 x.2)) with | none=>[] | some x=>_) = A
      rw [q]
      exact List.append_nil _
  | b :: r,p,bs,A,fuel,h,e,hp,hf=>by
    have hbm:b ∈ sqs m n:=by rw [e]; exact List.mem_append.mpr (.inr List.mem_cons_self)
    have hb:=sqs_mem hbm
    show A ++ (A3 m n bs).putFrom fuel = (putS m r (put1 m (bf m n bs,A) b)).2
    cases hk:ka m (bf m n bs) b with
    | true =>
      rw [show put1 m (bf m n bs,A) b = (bf m n bs,A) by unfold put1; rw [if_pos hk]]
      refine put_run r (p ++ [b]) bs A fuel h (by rw [e]; simp) (fun x hx=>?_) hf
      rcases List.mem_append.1 hx with hx | hx
      · exact hp x hx
      · rw [List.mem_singleton.mp hx]; exact hk
    | false =>
      rw [show put1 m (bf m n bs,A) b = (bf m n (bs ++ [b]),A ++ [b]) by unfold put1; rw [if_neg (by rw [hk]; decide),bf_snoc]]
      have h':=h.app hb.1 hb.2
      have j:=pc_join h hb.1 hb.2
      rw [hk,if_neg (by decide)] at j
      have hp0:=pc_pos (m:=m) (n:=n) (bs:=bs ++ [b]) (by omega)
      cases fuel with
      | zero=>omega
      | succ f =>
        have q:(A3 m n bs).squares.find? (fun x=>!((A3 m n bs).still x.1 x.2)) = some b:=by
          rw [sqs_is,e,List.find?_append,List.find?_eq_none.mpr,Option.none_or,List.find?_cons_of_pos]
          · rw [still_sq h hbm,hk]; rfl
          · intro x hx
            rw [still_sq h (by rw [e]; exact List.mem_append.mpr (.inl hx)),hp x hx]; decide
        have e3:(A3 m n bs).putFrom (f + 1) = b :: (A3 m n (bs ++ [b])).putFrom f:=by
          show (match (A3 m n bs).squares.find? (fun x=>!((A3 m n bs).still x.1 x.2)) with | none=>[] | some x=>_) = _
          rw [q]; rfl
        rw [e3,<- put_run r (p ++ [b]) (bs ++ [b]) (A ++ [b]) f h' (by rw [e]; simp) (fun x hx=>?_) (by omega)]
        · simp
        · rcases List.mem_append.mp hx with hx' | hx'
          · exact ka_mono h h' (fun y hy=>List.mem_append.mpr (.inl hy)) (by rw [e]; exact List.mem_append.mpr (.inl hx')) (hp x hx')
          · rw [List.mem_singleton.mp hx']
            unfold ka
            rw [decide_eq_true_eq,(bf_ok _ h').eq _ _ (by omega) (by omega)]
            exact RT.one ⟨b,List.mem_append.mpr (.inr (List.mem_singleton.mpr rfl)),.inl ⟨rfl,rfl⟩⟩
theorem d_put (h:inS m n bs):Su123.does (A3 m n bs) .put = (A3 m n bs,Su123.num (putM m n bs).length (Su123.pairs (putM m n bs))):=by
  have e:(A3 m n bs).put = putM m n bs:=put_run (sqs m n) [] bs [] (m + n) h rfl (fun x hx=>by cases hx) (rank bs h).1
  show (_,Su123.num (A3 m n bs).put.length (Su123.pairs (A3 m n bs).put)) = _
  rw [e]
end
end L2.FF
end
section
namespace L2.FF
open MG
section
variable {m n:Nat} {ts:List (Nat × Nat × Nat)}
theorem mem_tog (h:inR m n ts) {s t:Nat} (hs:s < m + n):t ∈ tog (tt m n ts) s ↔ t < m + n /\ cm (tt m n ts) s t = true /\ cm (tt m n ts) t s = true:=by
  unfold tog
  rw [List.mem_filter,List.mem_range,tt_len,decide_eq_true_eq]
  exact ⟨fun ⟨a,b⟩=>⟨a,(row_eq h hs a).mp b⟩,fun ⟨a,b⟩=>⟨a,(row_eq h hs a).mpr b⟩⟩
theorem tog_eq {s t:Nat} (ht:t ∈ tog (tt m n ts) s):tog (tt m n ts) t = tog (tt m n ts) s:=by
  unfold tog at ht ⊢
  rw [of_decide_eq_true (List.mem_filter.mp ht).2]
theorem tf_mem {s:Nat} (hs:s < m + n):(tf m n ts).getD s 0 ∈ tog (tt m n ts) s:=by
  rw [tf_at hs,getD_lt (tog_pos (by rw [tt_len]; exact hs))]
  exact List.getElem_mem _
theorem tf_idem (h:inR m n ts) {s:Nat} (hs:s < m + n):(tf m n ts).getD ((tf m n ts).getD s 0) 0 = (tf m n ts).getD s 0:=by
  have hm:=tf_mem (ts:=ts) hs
  rw [tf_at ((mem_tog h hs).mp hm).1,tog_eq hm,<- tf_at hs]
theorem tf_zero (h:inR m n ts) (hp:0 < m + n):(tf m n ts).getD 0 0 = 0:=by
  have hm:(0:Nat) ∈ tog (tt m n ts) 0:=(mem_tog h hp).mpr ⟨hp,tt_self h hp,tt_self h hp⟩
  rw [tf_at hp]
  have pw:(tog (tt m n ts) 0).Pairwise (· < ·):=List.Pairwise.filter _ List.pairwise_lt_range
  cases q:tog (tt m n ts) 0 with
  | nil=>rw [q] at hm; cases hm
  | cons x r =>
    rw [q] at hm pw
    show x = 0
    rcases List.mem_cons.mp hm with e | e
    · exact e.symm
    · have:=(List.pairwise_cons.mp pw).1 0 e
      omega
theorem tp_one (h:inR m n ts) (hp:0 < m + n):tp m n ts = 1 ↔ ∀ s,s < m + n -> ∀ t,t < m + n -> cm (tt m n ts) s t = true:=by
  have z:=tf_zero h hp
  have zr:(0:Nat) ∈ roots (tf m n ts):=List.mem_filter.mpr ⟨List.mem_range.mpr (by rw [tf_len]; exact hp),decide_eq_true z⟩
  have nd:(roots (tf m n ts)).Nodup:=List.Pairwise.filter _ List.nodup_range
  have e:tp m n ts = (roots (tf m n ts)).length:=rfl
  constructor
  · intro h1 s hs t ht
    rw [e] at h1
    obtain ⟨x,hx⟩:=List.length_eq_one_iff.mp h1
    have r0:∀ s,s < m + n -> (tf m n ts).getD s 0 = 0:=fun s hs=>by
      have:(tf m n ts).getD s 0 ∈ roots (tf m n ts):=List.mem_filter.mpr ⟨List.mem_range.mpr (by rw [tf_len]; exact ((mem_tog h hs).mp (tf_mem hs)).1),decide_eq_true (tf_idem h hs)⟩
      rw [hx] at this zr
      rw [List.mem_singleton.mp this,List.mem_singleton.mp zr]
    have a:=(mem_tog h hs).mp (tf_mem hs)
    have b:=(mem_tog h ht).mp (tf_mem ht)
    rw [r0 s hs] at a
    rw [r0 t ht] at b
    exact cm_trans h hs hp ht a.2.1 b.2.2
  · intro hall
    rw [e]
    have r0:roots (tf m n ts) = [0]:=by
      have r1:∀ k ∈ roots (tf m n ts),k = 0:=fun k hk=>by
        obtain ⟨k1,k2⟩:=List.mem_filter.mp hk
        have k1:k < m + n:=by rw [tf_len] at k1; exact List.mem_range.mp k1
        have k2:=of_decide_eq_true k2
        have hm:(0:Nat) ∈ tog (tt m n ts) k:=(mem_tog h k1).mpr ⟨hp,hall k k1 0 hp,hall 0 hp k k1⟩
        rw [<- k2,tf_at k1,<- tog_eq hm,<- tf_at hp,z]
      cases q:roots (tf m n ts) with
      | nil=>rw [q] at zr; cases zr
      | cons x r =>
        rw [q] at r1 nd
        have x0:=r1 x List.mem_cons_self
        cases r with
        | nil=>rw [x0]
        | cons y r' =>
          have y0:=r1 y (List.mem_cons_of_mem _ List.mem_cons_self)
          have:=(List.nodup_cons.mp nd).1
          rw [x0,y0] at this
          exact absurd List.mem_cons_self this
    rw [r0]; rfl
def inR1 (ts:List (Nat × Nat × Nat)):Prop:=∀ t ∈ ts,t.2.2 <= 1
theorem lst_len {N:Nat} {p:Nat -> Bool}:(lst N p).length = N ↔ ∀ t,t < N -> p t = true:=by
  unfold lst
  constructor
  · intro h t ht
    have:=List.length_filter_eq_length_iff.mp (show ((List.range N).filter p).length = (List.range N).length by rw [List.length_range]; exact h)
    exact this t (List.mem_range.mpr ht)
  · intro h
    rw [List.filter_eq_self.mpr fun t ht=>h t (List.mem_range.mp ht),List.length_range]
theorem firm124 (h:inR m n ts) (hp:0 < m + n):(A4 m n ts).firm = decide (tp m n ts = 1):=by
  unfold Su124.Abs.firm
  rw [Bool.eq_iff_iff,List.all_eq_true,decide_eq_true_eq,tp_one h hp]
  constructor
  · intro g s hs t ht
    have q:=g s (List.mem_range.mpr hs)
    rw [reach124 h hs,beq_iff_eq] at q
    exact lst_len.mp q t ht
  · intro g s hs
    have hs:s < m + n:=List.mem_range.mp hs
    rw [reach124 h hs,beq_iff_eq]
    exact lst_len.mpr fun t ht=>g s hs t ht
theorem isS4_of {i j d:Nat} (hi:i < m) (hj:j < n) (hd:d <= 1):(A4 m n ts).isS i j d = true:=by
  unfold Su124.Abs.isS; rw [decide_eq_true (show i < (A4 m n ts).m from hi),decide_eq_true (show j < (A4 m n ts).n from hj),decide_eq_true hd]; rfl
theorem inR.app (h:inR m n ts) {t:Nat × Nat × Nat} (h1:t.1 < m) (h2:t.2.1 < n):inR m n (ts ++ [t]):=fun x hx=>by
  rcases List.mem_append.1 hx with hx | hx
  · exact h x hx
  · rw [List.mem_singleton.mp hx]; exact ⟨h1,h2⟩
theorem inR1.app (h:inR1 ts) {t:Nat × Nat × Nat} (h1:t.2.2 <= 1):inR1 (ts ++ [t]):=fun x hx=>by
  rcases List.mem_append.1 hx with hx | hx
  · exact h x hx
  · rw [List.mem_singleton.mp hx]; exact h1
theorem inR.wo3 (h:inR m n ts) {t:Nat × Nat × Nat}:inR m n (wo3 ts t):=fun x hx=>h x (List.mem_filter.mp hx).1
theorem inR1.wo3 (h:inR1 ts) {t:Nat × Nat × Nat}:inR1 (wo3 ts t):=fun x hx=>h x (List.mem_filter.mp hx).1
theorem d_tie (h:inR m n ts) {t:Nat × Nat × Nat} (hi:t.1 < m) (hj:t.2.1 < n) (hd:t.2.2 <= 1):Su124.does (A4 m n ts) (.tie t.1 t.2.1 t.2.2) = if ts.contains t then (A4 m n ts,Su124.no (-17)) else (A4 m n (ts ++ [t]),Su124.num (tp m n (ts ++ [t])) []):=by
  show (if (A4 m n ts).isS t.1 t.2.1 t.2.2 = false then _ else if ts.contains t = true then _ else _) = _
  rw [if_neg (by rw [isS4_of hi hj hd]; decide)]
  cases hc:ts.contains t with
  | true=>rfl
  | false =>
    rw [if_neg (by decide),if_neg (by decide),show (A4 m n ts).with_ t.1 t.2.1 t.2.2 = A4 m n (ts ++ [t]) from rfl,parts124 (h.app hi hj)]
theorem d_untie (h:inR m n ts) {t:Nat × Nat × Nat} (hi:t.1 < m) (hj:t.2.1 < n) (hd:t.2.2 <= 1):Su124.does (A4 m n ts) (.free t.1 t.2.1 t.2.2) = if ts.contains t then (A4 m n (wo3 ts t),Su124.num (tp m n (wo3 ts t)) []) else (A4 m n ts,Su124.no (-6)):=by
  show (if (A4 m n ts).isS t.1 t.2.1 t.2.2 = false then _ else if ts.contains t = false then _ else _) = _
  rw [if_neg (by rw [isS4_of hi hj hd]; decide)]
  cases hc:ts.contains t with
  | false=>rfl
  | true =>
    rw [if_neg (by decide),if_pos rfl,show (A4 m n ts).without t.1 t.2.1 t.2.2 = A4 m n (wo3 ts t) from rfl,parts124 h.wo3]
theorem d_tfirm (h:inR m n ts) (hp:0 < m + n):Su124.does (A4 m n ts) .firm = (A4 m n ts,Su124.num (if decide (tp m n ts = 1) then 1 else 0) [tp m n ts]):=by
  show (_,Su124.num (Su124.bit (A4 m n ts).firm) [(A4 m n ts).parts.length]) = _
  rw [firm124 h hp,parts124 h]; rfl
theorem d_reach (h:inR m n ts) {s:Nat} (hs:s < m + n):Su124.does (A4 m n ts) (.reach s) = (A4 m n ts,Su124.list (rch (tt m n ts) s)):=by
  show (if m + n <= s then _ else _) = _
  rw [if_neg (by omega),reach124 h hs]; unfold rch; rw [tt_len]; rfl
theorem d_tpart (h:inR m n ts) {s:Nat} (hs:s < m + n):Su124.does (A4 m n ts) (.part s) = (A4 m n ts,Su124.list (tog (tt m n ts) s)):=by
  show (if m + n <= s then _ else _) = _
  rw [if_neg (by omega),part124 h hs]
theorem d_tparts (h:inR m n ts):Su124.does (A4 m n ts) .parts = (A4 m n ts,Su124.list (tf m n ts)):=by
  show (_,Su124.list _) = _
  rw [firsts124 h]
theorem leans124 (h:inR m n ts) {t:Nat × Nat × Nat} (hi:t.1 < m) (hj:t.2.1 < n):(A4 m n ts).leans t.1 t.2.1 t.2.2 = mlean m (tt m n ts) t:=by
  unfold Su124.Abs.leans mlean tsrc ttgt
  rw [show (A4 m n ts).col t.2.1 = m + t.2.1 from rfl,reach124 h (show t.1 < m + n by omega),reach124 h (show m + t.2.1 < m + n by omega),lst_contains (by omega),lst_contains (by omega)]
  split <;> rfl
theorem all3_eq:(A4 m n ts).all3 = two (sqs m n):=by
  unfold Su124.Abs.all3 two sqs
  rw [List.flatMap_assoc]
  show List.flatMap _ (List.range m) = _
  congr 1
  funext i
  rw [List.flatMap_map]
  rfl
theorem sq3_in {t:Nat × Nat × Nat} (h:t ∈ two (sqs m n)):t.1 < m /\ t.2.1 < n /\ t.2.2 <= 1:=by
  obtain ⟨h1,h2⟩:=two_mem.mp h
  exact ⟨(sqs_mem h1).1,(sqs_mem h1).2,h2⟩
theorem sum_bits {α:Type} (p:α -> Bool):∀ l:List α,(l.map fun t=>if p t then 1 else 0).sum = (l.filter p).length
  | []=>rfl
  | x :: r=>by
    rw [List.map_cons,List.sum_cons,sum_bits p r,List.filter_cons]
    cases p x
    · simp
    · rw [if_pos rfl,if_pos rfl,List.length_cons]; omega
theorem count124 (h:inR m n ts):(A4 m n ts).count = lcnt m n ts:=by
  unfold Su124.Abs.count lcnt alean
  rw [sum_bits,all3_eq]
  congr 1
  exact List.filter_congr fun t ht=>leans124 h (sq3_in ht).1 (sq3_in ht).2.1
theorem spare124 (h:inR m n ts) {t:Nat × Nat × Nat} (ht:t.1 < m /\ t.2.1 < n):(A4 m n ts).spare t.1 t.2.1 t.2.2 = !(mlean m (tt m n (wo3 ts t)) t):=by
  unfold Su124.Abs.spare
  rw [show (A4 m n ts).without t.1 t.2.1 t.2.2 = A4 m n (wo3 ts t) from rfl,leans124 h.wo3 ht.1 ht.2]
theorem cm_mono {us:List (Nat × Nat × Nat)} (h:inR m n ts) (h':inR m n us) (hs:∀ x ∈ ts,x ∈ us) {a b:Nat} (ha:a < m + n) (hb:b < m + n) (q:cm (tt m n ts) a b = true):cm (tt m n us) a b = true :=
  (cm_tt us h' a b ha hb).mpr (((cm_tt ts h a b ha hb).mp q).mono fun x y ⟨c,hc,g⟩=>⟨c,hs c hc,g⟩)
theorem lcnt_mono {us:List (Nat × Nat × Nat)} (h:inR m n ts) (h':inR m n us) (hs:∀ x ∈ ts,x ∈ us):lcnt m n us <= lcnt m n ts:=by
  unfold lcnt alean
  rw [sum_bits,sum_bits]
  have:=count_diff (p:=mlean m (tt m n ts)) (q:=mlean m (tt m n us)) (l:=two (sqs m n)) fun t ht e=>by
    have hx:=sq3_in ht
    unfold mlean at e ⊢
    rw [Bool.not_eq_true'] at e ⊢
    cases q:cm (tt m n ts) (tsrc m t) (ttgt m t) with
    | false=>rfl
    | true=>rw [cm_mono h h' hs (src_lt ⟨hx.1,hx.2.1⟩) (tgt_lt ⟨hx.1,hx.2.1⟩) q] at e; cases e
  omega
theorem tt_same {us:List (Nat × Nat × Nat)} (h:inR m n ts) (h':inR m n us) (hs:∀ x,x ∈ ts ↔ x ∈ us):tt m n ts = tt m n us:=by
  apply List.ext_getElem
  · rw [tt_len,tt_len]
  · intro i h1 h2
    have hi:i < m + n:=by rw [tt_len] at h1; exact h1
    rw [<- getD_lt h1,<- getD_lt h2]
    exact bits_eq (tt_lt ts h i hi) (tt_lt us h' i hi) fun j hj=>Bool.eq_iff_iff.mpr ⟨cm_mono h h' (fun x hx=>(hs x).mp hx) hi hj,cm_mono h' h (fun x hx=>(hs x).mpr hx) hi hj⟩
theorem fmT_iff (h:inR m n ts) (hp:0 < m + n):fmT (tt m n ts) = true ↔ ∀ s,s < m + n -> ∀ t,t < m + n -> cm (tt m n ts) s t = true:=by
  have hl:=tt_len m n ts
  have one:∀ x,x < 2 ^ (m + n) -> (2 ^ (m + n) - 1 <= x ↔ ∀ t,t < m + n -> x.testBit t = true):=fun x hx=>by
    constructor
    · intro e t ht
      rw [show x = 2 ^ (m + n) - 1 by omega,Nat.testBit_two_pow_sub_one]; exact decide_eq_true ht
    · intro g
      have:0 < 2 ^ (m + n):=Nat.pow_pos (by decide)
      rw [bits_eq hx (show 2 ^ (m + n) - 1 < 2 ^ (m + n) by omega) fun i hi=>by rw [g i hi,Nat.testBit_two_pow_sub_one,decide_eq_true hi]]
      exact Nat.le_refl _
  have mem:∀ x,x ∈ tt m n ts ↔ ∃ s,s < m + n /\ (tt m n ts).getD s 0 = x:=fun x=>by
    rw [List.mem_iff_getElem]
    exact ⟨fun ⟨i,hi,e⟩=>⟨i,by omega,by rw [getD_lt hi]; exact e⟩,fun ⟨i,hi,e⟩=>⟨i,by omega,by rw [<- getD_lt (by omega)]; exact e⟩⟩
  unfold fmT
  rw [decide_eq_true_eq,hl]
  cases q:(tt m n ts).min? with
  | none=>rw [List.min?_eq_none_iff] at q; rw [q] at hl; rw [List.length_nil] at hl; omega
  | some v =>
    obtain ⟨v1,v2⟩:=List.min?_eq_some_iff.mp q
    obtain ⟨s0,hs0,e0⟩:=(mem v).mp v1
    have lv:=tt_lt ts h s0 hs0
    rw [e0] at lv
    show v = _ ↔ _
    constructor
    · intro e s hs
      refine (one _ (tt_lt ts h s hs)).mp ?_
      rw [<- e]
      exact v2 _ ((mem _).mpr ⟨s,hs,rfl⟩)
    · intro g
      have:=(one v lv).mpr (by rw [<- e0]; exact g s0 hs0)
      omega
theorem firmT (h:inR m n ts) (hp:0 < m + n):(A4 m n ts).firm = fmT (tt m n ts):=by
  rw [firm124 h hp,Bool.eq_iff_iff,decide_eq_true_eq,tp_one h hp,fmT_iff h hp]
end
end L2.FF
end
section
namespace L2.FF
open MG
section
variable {m n:Nat} {ts:List (Nat × Nat × Nat)}
theorem iend_iff {tb:List Nat} {s:Nat}:iend tb s = true ↔ ∀ o,o < tb.length -> cm tb s o = true -> tb.getD o 0 = tb.getD s 0:=by
  unfold iend rch
  rw [List.all_map,List.all_eq_true]
  exact ⟨fun g o h1 h2=>of_decide_eq_true (g o (List.mem_filter.mpr ⟨List.mem_range.mpr h1,h2⟩)),fun g o ho=>decide_eq_true (g o (List.mem_range.mp (List.mem_filter.mp ho).1) (List.mem_filter.mp ho).2)⟩
theorem ista_iff {tb:List Nat} {s:Nat}:ista tb s = true ↔ ∀ o,o < tb.length -> cm tb o s = true -> tb.getD o 0 = tb.getD s 0:=by
  unfold ista
  rw [List.all_map,List.all_eq_true]
  exact ⟨fun g o h1 h2=>of_decide_eq_true (g o (List.mem_filter.mpr ⟨List.mem_range.mpr h1,h2⟩)),fun g o ho=>decide_eq_true (g o (List.mem_range.mp (List.mem_filter.mp ho).1) (List.mem_filter.mp ho).2)⟩
theorem pled_lt {s:Nat} (h:s ∈ pled (tt m n ts)):s < m + n:=by
  have:=List.mem_range.mp (List.mem_filter.mp h).1
  rw [tt_len] at this; exact this
theorem ends124 (h:inR m n ts):(A4 m n ts).ends = eled (tt m n ts):=by
  unfold Su124.Abs.ends eled
  rw [leads124 h]
  apply List.filter_congr
  intro s hs
  have hs:=pled_lt hs
  rw [Bool.eq_iff_iff,iend_iff,List.all_eq_true,reach124 h hs,tt_len]
  constructor
  · intro g o h1 h2
    have:=g o (List.mem_filter.mpr ⟨List.mem_range.mpr h1,h2⟩)
    rw [back124 h hs h1] at this
    exact of_decide_eq_true this
  · intro g o ho
    obtain ⟨h1,h2⟩:=List.mem_filter.mp ho
    have h1:=List.mem_range.mp h1
    rw [back124 h hs h1]
    exact decide_eq_true (g o h1 h2)
theorem starts124 (h:inR m n ts):(A4 m n ts).starts = sled (tt m n ts):=by
  unfold Su124.Abs.starts sled
  rw [leads124 h]
  apply List.filter_congr
  intro s hs
  have hs:=pled_lt hs
  rw [Bool.eq_iff_iff,ista_iff,List.all_eq_true,tt_len]
  show (∀ o ∈ List.range (m + n),_) ↔ _
  constructor
  · intro g o h1 h2
    have:=g o (List.mem_range.mpr h1)
    rw [back124 h hs h1,reach124 h h1,lst_contains hs,h2] at this
    exact of_decide_eq_true (by simpa using this)
  · intro g o ho
    have h1:=List.mem_range.mp ho
    rw [back124 h hs h1,reach124 h h1,lst_contains hs]
    cases q:cm (tt m n ts) o s with
    | false=>rfl
    | true=>rw [decide_eq_true (g o h1 q)]; rfl
theorem out_of {E:Nat -> Nat -> Prop} {R:Nat -> Prop} {a b:Nat} (g:RT E a b) (ha:R a) (hb:¬ R b):∃ x y,R x /\ ¬ R y /\ E x y:=by
  induction g with
  | refl=>exact absurd ha hb
  | tail g' e ih =>
    rename_i c d
    by_cases z:R c
    · exact ⟨c,d,z,hb,e⟩
    · exact ih z
theorem into_of {E:Nat -> Nat -> Prop} {R:Nat -> Prop} {a b:Nat} (g:RT E a b) (ha:¬ R a) (hb:R b):∃ x y,¬ R x /\ R y /\ E x y:=by
  obtain ⟨x,y,h1,h2,h3⟩:=out_of (R:=fun x=>¬ R x) g ha fun z=>z hb
  exact ⟨x,y,h1,Classical.not_not.mp h2,h3⟩
theorem choose_inj {α β:Type} (P:α -> β -> Prop) (l:List α) (s:List β) (nd:l.Nodup) (hx:∀ a ∈ l,∃ b ∈ s,P a b) (inj:∀ a ∈ l,∀ a' ∈ l,∀ b,P a b -> P a' b -> a = a'):l.length <= s.length:=by
  classical
  have key:∀ (l:List α),l.Nodup -> ∀ s:List β,(∀ a ∈ l,∃ b ∈ s,P a b) -> (∀ a ∈ l,∀ a' ∈ l,∀ b,P a b -> P a' b -> a = a') -> l.length <= s.length:=by
    intro l
    induction l with
    | nil=>intro _ s _ _; exact Nat.zero_le _
    | cons a r ih =>
      intro nd s hx inj
      have nd':=List.nodup_cons.mp nd
      obtain ⟨b,hb,pb⟩:=hx a List.mem_cons_self
      have q:=ih nd'.2 (s.erase b) (fun a' ha'=>by
        obtain ⟨b',hb',pb'⟩:=hx a' (List.mem_cons_of_mem _ ha')
        refine ⟨b',(List.mem_erase_of_ne ?_).mpr hb',pb'⟩
        intro e; subst e
        have:=inj a List.mem_cons_self a' (List.mem_cons_of_mem _ ha') b' pb pb'
        subst this; exact nd'.1 ha') fun x hx' y hy=>inj x (List.mem_cons_of_mem _ hx') y (List.mem_cons_of_mem _ hy)
      have z:=List.length_erase_of_mem hb
      have z2:0 < s.length:=List.length_pos_of_mem hb
      rw [List.length_cons]
      omega
  exact key l nd s hx inj
theorem pled_nd (tb:List Nat):(pled tb).Nodup:=List.Pairwise.filter _ List.nodup_range
theorem pled_id {s k:Nat} (hs:s ∈ pled (tt m n ts)) (hk:k ∈ pled (tt m n ts)) (e:(tt m n ts).getD k 0 = (tt m n ts).getD s 0):s = k:=by
  have a:=of_decide_eq_true (List.mem_filter.mp hs).2
  have b:=of_decide_eq_true (List.mem_filter.mp hk).2
  have hs:=pled_lt hs
  have hk:=pled_lt hk
  rw [<- a,<- b]
  show (tf m n ts).getD s 0 = (tf m n ts).getD k 0
  rw [tf_at hs,tf_at hk,tog_eq (t:=k) (s:=s) (List.mem_filter.mpr ⟨List.mem_range.mpr (by rw [tt_len]; exact hk),decide_eq_true e⟩)]
theorem Et_app {us:List (Nat × Nat × Nat)} {x y:Nat} (h:Et m (ts ++ us) x y):Et m ts x y \/ ∃ t ∈ us,x = tsrc m t /\ y = ttgt m t:=by
  obtain ⟨t,ht,e⟩:=h
  exact (List.mem_append.mp ht).elim (fun z=>.inl ⟨t,z,e⟩) fun z=>.inr ⟨t,z,e⟩
theorem firm_few {us:List (Nat × Nat × Nat)} (h:inR m n ts) (hu:inR m n us) (hp:0 < m + n) (hf:fmT (tt m n (ts ++ us)) = true) (h1:1 <= us.length):(eled (tt m n ts)).length <= us.length /\ (sled (tt m n ts)).length <= us.length:=by
  have ha:inR m n (ts ++ us):=fun x hx=>(List.mem_append.mp hx).elim (h x) (hu x)
  have all:=(fmT_iff ha hp).mp hf
  refine ⟨?_,?_⟩
  · by_cases big:(eled (tt m n ts)).length <= 1
    · omega
    refine choose_inj (fun e t=>cm (tt m n ts) e (tsrc m t) = true /\ tsrc m t < m + n) _ us (List.Pairwise.filter _ (pled_nd _)) (fun e he=>?_) fun e he e' he' t ⟨p,q⟩ ⟨p',_⟩=>?_
    · obtain ⟨he1,he2⟩:=List.mem_filter.mp he
      have el:=pled_lt he1
      have:∃ e' ∈ eled (tt m n ts),e' ≠ e:=by
        refine Classical.byContradiction fun no=>big ?_
        have:∀ x ∈ eled (tt m n ts),x ∈ [e]:=fun x hx=>List.mem_singleton.mpr (Classical.byContradiction fun z=>no ⟨x,hx,z⟩)
        exact MG.sub_of this (List.Pairwise.filter _ (pled_nd _))
      obtain ⟨e',he',ne⟩:=this
      obtain ⟨he1',_⟩:=List.mem_filter.mp he'
      have el':=pled_lt he1'
      obtain ⟨x,y,rx,ry,ex⟩:=out_of (R:=fun x=>x < m + n /\ cm (tt m n ts) e x = true) ((cm_tt _ ha e e' el el').mp (all e el e' el')) ⟨el,tt_self h el⟩ (fun z=>ne (pled_id he1 he1' (iend_iff.mp he2 e' (by rw [tt_len]; exact el') z.2)).symm)
      rcases Et_app ex with ex | ⟨t,ht,rfl,rfl⟩
      · obtain ⟨t,ht,rfl,rfl⟩:=ex
        have tl:=tgt_lt (h t ht)
        exact absurd ⟨tl,cm_trans h el rx.1 tl rx.2 ((cm_tt ts h _ _ rx.1 tl).mpr (RT.one ⟨t,ht,rfl,rfl⟩))⟩ ry
      · exact ⟨t,ht,rx.2,rx.1⟩
    · obtain ⟨he1,he2⟩:=List.mem_filter.mp he
      obtain ⟨he1',he2'⟩:=List.mem_filter.mp he'
      have a:=iend_iff.mp he2 _ (by rw [tt_len]; exact q) p
      have b:=iend_iff.mp he2' _ (by rw [tt_len]; exact q) p'
      exact pled_id he1 he1' (b.symm.trans a)
  · by_cases big:(sled (tt m n ts)).length <= 1
    · omega
    refine choose_inj (fun e t=>cm (tt m n ts) (ttgt m t) e = true /\ ttgt m t < m + n) _ us (List.Pairwise.filter _ (pled_nd _)) (fun e he=>?_) fun e he e' he' t ⟨p,q⟩ ⟨p',_⟩=>?_
    · obtain ⟨he1,he2⟩:=List.mem_filter.mp he
      have el:=pled_lt he1
      have:∃ e' ∈ sled (tt m n ts),e' ≠ e:=by
        refine Classical.byContradiction fun no=>big ?_
        have:∀ x ∈ sled (tt m n ts),x ∈ [e]:=fun x hx=>List.mem_singleton.mpr (Classical.byContradiction fun z=>no ⟨x,hx,z⟩)
        exact MG.sub_of this (List.Pairwise.filter _ (pled_nd _))
      obtain ⟨e',he',ne⟩:=this
      obtain ⟨he1',_⟩:=List.mem_filter.mp he'
      have el':=pled_lt he1'
      have lt_of:∀ {x y},Et m (ts ++ us) x y -> x < m + n:=fun ⟨t,ht,e1,_⟩=>by rw [e1]; exact src_lt (ha t ht)
      obtain ⟨x,y,rx,ry,ex⟩:=into_of (R:=fun x=>x < m + n /\ cm (tt m n ts) x e = true) ((cm_tt _ ha e' e el' el).mp (all e' el' e el)) (fun z=>ne (pled_id he1 he1' (ista_iff.mp he2 e' (by rw [tt_len]; exact el') z.2)).symm) ⟨el,tt_self h el⟩
      rcases Et_app ex with ex' | ⟨t,ht,rfl,rfl⟩
      · have xl:=lt_of ex
        exact absurd ⟨xl,cm_trans h xl ry.1 el ((cm_tt ts h _ _ xl ry.1).mpr (RT.one ex')) ry.2⟩ rx
      · exact ⟨t,ht,ry.2,ry.1⟩
    · obtain ⟨he1,he2⟩:=List.mem_filter.mp he
      obtain ⟨he1',he2'⟩:=List.mem_filter.mp he'
      have a:=ista_iff.mp he2 _ (by rw [tt_len]; exact q) p
      have b:=ista_iff.mp he2' _ (by rw [tt_len]; exact q) p'
      exact pled_id he1 he1' (b.symm.trans a)
theorem sets0 {α:Type} (l:List α):Su124.sets 0 l = [[]]:=by cases l <;> rfl
theorem sets_mem {α:Type}:∀ {k:Nat} {l s:List α},s ∈ Su124.sets k l -> s.length = k /\ ∀ x ∈ s,x ∈ l
  | 0,_,s,h=>by
    rw [sets0] at h
    rw [List.mem_singleton.mp h]; exact ⟨rfl,fun x hx=>by cases hx⟩
  | k + 1,[],s,h=>by cases (show s ∈ ([]:List (List α)) from h)
  | k + 1,x :: l,s,h=>by
    rcases List.mem_append.mp (show s ∈ (Su124.sets k l).map (fun s=>x :: s) ++ Su124.sets (k + 1) l from h) with h | h
    · obtain ⟨s',hs',rfl⟩:=List.mem_map.mp h
      obtain ⟨a,b⟩:=sets_mem hs'
      exact ⟨by rw [List.length_cons,a],fun y hy=>(List.mem_cons.mp hy).elim (fun e=>e ▸ List.mem_cons_self) fun e=>List.mem_cons_of_mem _ (b y e)⟩
    · obtain ⟨a,b⟩:=sets_mem h
      exact ⟨a,fun y hy=>List.mem_cons_of_mem _ (b y hy)⟩
theorem fset_eq (hp:0 < m + n):∀ (k:Nat) (ts ms:List (Nat × Nat × Nat)),inR m n ts -> inR m n ms -> fset m k (tt m n ts) ms = (Su124.sets k ms).find? fun s=>fmT (tt m n (ts ++ s))
  | 0,ts,ms,h,hm=>by
    rw [sets0,List.find?_cons,List.append_nil]
    show (if fmT (tt m n ts) = true then some [] else none) = _
    cases fmT (tt m n ts) <;> rfl
  | k + 1,ts,ms,h,hm=>by
    show (if mdo (tt m n ts) (k + 1) = true then floop (fset m k) m (tt m n ts) ms else none) = _
    cases hd:mdo (tt m n ts) (k + 1) with
    | true =>
      rw [if_pos rfl]
      clear hd
      induction ms with
      | nil=>rfl
      | cons t r ih =>
        have ht:=hm t List.mem_cons_self
        have hr:inR m n r:=fun x hx=>hm x (List.mem_cons_of_mem _ hx)
        show (match fset m k (stp m (tt m n ts) t) r with | some s=>some (t :: s) | none=>floop (fset m k) m (tt m n ts) r) = ((Su124.sets k r).map (fun s=>t :: s) ++ Su124.sets (k + 1) r).find? _
        rw [<- tt_snoc,fset_eq hp k (ts ++ [t]) r (h.app ht.1 ht.2) hr,List.find?_append,List.find?_map,ih hr]
        have e:((fun s=>fmT (tt m n (ts ++ s))) ∘ fun s=>t :: s) = fun s=>fmT (tt m n (ts ++ [t] ++ s)):=funext fun s=>by
          show fmT (tt m n (ts ++ t :: s)) = _
          rw [List.append_assoc]; rfl
        rw [e]
        cases (Su124.sets k r).find? fun s=>fmT (tt m n (ts ++ [t] ++ s)) <;> rfl
    | false =>
      rw [if_neg (by decide)]
      symm
      rw [List.find?_eq_none]
      intro s hs hf
      obtain ⟨hl,hsub⟩:=sets_mem hs
      obtain ⟨a,b⟩:=firm_few h (fun x hx=>hm x (hsub x hx)) hp hf (by omega)
      unfold mdo at hd
      rw [hl] at a b
      rw [decide_eq_true a,decide_eq_true b] at hd
      cases hd
theorem fkin_eq (hp:0 < m + n):∀ (bs:List (Nat × Nat)) (ts:List (Nat × Nat × Nat)),fkin m bs (tt m n ts) = (Su125.kinds bs.length).find? fun k=>fmT (tt m n (ts ++ List.zipWith (fun (x:Nat × Nat) d=>(x.1,x.2,d)) bs k))
  | [],ts=>by
    show (if fmT (tt m n ts) = true then some [] else none) = ([[]]:List (List Nat)).find? _
    rw [List.find?_cons]
    show _ = match fmT (tt m n (ts ++ [])) with | true=>some [] | false=>_
    rw [List.append_nil]
    cases fmT (tt m n ts) <;> rfl
  | b :: r,ts=>by
    have e:∀ d:Nat,((fun k=>fmT (tt m n (ts ++ List.zipWith (fun (x:Nat × Nat) d=>(x.1,x.2,d)) (b :: r) k))) ∘ fun l=>d :: l) = fun k=>fmT (tt m n (ts ++ [(b.1,b.2,d)] ++ List.zipWith (fun (x:Nat × Nat) d=>(x.1,x.2,d)) r k)):=fun d=>funext fun k=>by
      show fmT (tt m n (ts ++ (b.1,b.2,d) :: List.zipWith _ r k)) = _
      rw [List.append_assoc]; rfl
    show (match fkin m r (stp m (tt m n ts) (b.1,b.2,0)) with | some s=>some (0 :: s) | none=>match fkin m r (stp m (tt m n ts) (b.1,b.2,1)) with | some s=>some (1 :: s) | none=>none) =
      ((Su125.kinds r.length).map (fun l=>0 :: l) ++ (Su125.kinds r.length).map fun l=>1 :: l).find? _
    rw [<- tt_snoc,<- tt_snoc,fkin_eq hp r,fkin_eq hp r,List.find?_append,List.find?_map,List.find?_map,e 0,e 1]
    cases (Su125.kinds r.length).find? fun k=>fmT (tt m n (ts ++ [(b.1,b.2,0)] ++ List.zipWith (fun (x:Nat × Nat) d=>(x.1,x.2,d)) r k)) with
    | some s=>rfl
    | none=>cases (Su125.kinds r.length).find? fun k=>fmT (tt m n (ts ++ [(b.1,b.2,1)] ++ List.zipWith (fun (x:Nat × Nat) d=>(x.1,x.2,d)) r k)) <;> rfl
end
end L2.FF
end
section
namespace L2.FF
open PySu125
def shp:List (Nat × Nat):=[(2,0),(2,0),(2,0),(0,0),(0,0),(1,0),(2,0),(0,0),(4,0),(2,0),(0,0),(0,0),(0,0),(0,1),(2,0),(2,0),(0,0),(0,0),(1,0),(1,0),(3,0),(3,0),(0,0),(1,0),(1,0),(0,0),(0,0),(3,0),(0,0),(3,0),(0,1),(3,0),(0,0),(0,0),(3,0),(3,0),(2,0),(3,0),(0,0),(0,0),(0,0),(0,0),(0,0),(0,0),(3,0),(1,0),(0,0),(0,0),(0,0),(0,0),(0,0)]
theorem shape_at:∀ j,j < 51 -> shape ((j:Nat):Int) = shp[j]?:=by decide +kernel
theorem shape_some {p:Int} {q:Nat × Nat} (h:shape p = some q):∃ j:Nat,p = (j:Int) /\ shp[j]? = some q:=by
  by_cases hp:0 <= p /\ p < 51
  · refine ⟨p.toNat,by omega,?_⟩
    rw [<- shape_at _ (by omega),show ((p.toNat:Nat):Int) = p by omega]; exact h
  · exfalso
    unfold shape at h
    iterate 51 rw [if_neg (by omega)] at h
    cases h
theorem l1 {α:Type} {xs:List α} (h:xs.length = 1):∃ i,xs = [i]:=by match xs,h with | [i],_=>exact ⟨i,rfl⟩
theorem l2 {α:Type} {xs:List α} (h:xs.length = 2):∃ i j,xs = [i,j]:=by match xs,h with | [i,j],_=>exact ⟨i,j,rfl⟩
theorem l3 {α:Type} {xs:List α} (h:xs.length = 3):∃ i j k,xs = [i,j,k]:=by match xs,h with | [i,j,k],_=>exact ⟨i,j,k,rfl⟩
theorem l4 {α:Type} {xs:List α} (h:xs.length = 4):∃ i j k l,xs = [i,j,k,l]:=by match xs,h with | [i,j,k,l],_=>exact ⟨i,j,k,l,rfl⟩
theorem whole_row {j:Nat} {n:Nat} {xs:List Int} (h:shp[j]? = some (n,0)) (hl:xs.length = n):whole [(j:Int) :: xs] = [(j:Int) :: xs]:=by
  iterate 51
    cases j with
    | zero=>first | (cases h; done) | (cases h; first | (obtain rfl:=List.length_eq_zero_iff.mp hl; rfl) | (obtain ⟨_,rfl⟩:=l1 hl; rfl) | (obtain ⟨_,_,rfl⟩:=l2 hl; rfl) | (obtain ⟨_,_,_,rfl⟩:=l3 hl; rfl) | (obtain ⟨_,_,_,_,rfl⟩:=l4 hl; rfl))
    | succ j=>?_
  simp [shp] at h
theorem shp_lt {j:Nat} {q:Nat × Nat} (h:shp[j]? = some q):j < 51:=(List.getElem?_eq_some_iff.mp h).1
theorem shp_cases {j:Nat} {q:Nat × Nat} (h:shp[j]? = some q):q.2 = 0 \/ q = (0,1):=by
  have:∀ q ∈ shp,q.2 = 0 \/ q = (0,1):=by decide
  exact this q (List.mem_of_getElem? h)
theorem way_ix:∀ j,j < 51 -> shp[j]? = some (0,1) -> j = 13 \/ j = 30:=by decide +kernel
theorem way_is {j n:Nat} (h:shp[j]? = some (n,1)):n = 0 /\ (j = 13 \/ j = 30):=by
  rcases shp_cases h with z | z
  · cases z
  · cases z; exact ⟨rfl,way_ix j (shp_lt h) h⟩
theorem whole_way {j:Nat} {n:Nat} {r:List Int} (h:shp[j]? = some (n,1)):whole [[(j:Int)],r] = [(j:Int) :: r] /\ n = 0:=by
  obtain ⟨rfl,rfl | rfl⟩:=way_is h <;> exact ⟨rfl,rfl⟩
theorem bound_at:∀ j,j < 51 -> (shp.getD j (0,0)).2 = 0 -> (bound ((j:Nat):Int)).1 = List.replicate (shp.getD j (0,0)).1 (0,4294967295):=by decide +kernel
theorem bound_row {j n:Nat} (h:shp[j]? = some (n,0)):(bound (j:Int)).1 = List.replicate n (0,4294967295):=by
  have e:shp.getD j (0,0) = (n,0):=by rw [List.getD_eq_getElem?_getD,h]; rfl
  have q:=bound_at j (shp_lt h)
  rw [e] at q
  exact q rfl
theorem bound_way {j n:Nat} (h:shp[j]? = some (n,1)):(bound (j:Int)).2 = [(0,4294967295,0,12)]:=by
  obtain ⟨_,rfl | rfl⟩:=way_is h <;> rfl
theorem within_iff {lo hi z:Int}:PyInside.within lo hi z = true ↔ lo <= z /\ z <= hi:=by unfold PyInside.within; rw [Bool.and_eq_true,decide_eq_true_eq,decide_eq_true_eq]
theorem each_rep {lo hi:Int}:∀ {n:Nat} {xs:List Int},xs.length = n -> PyInside.each (List.replicate n (lo,hi)) xs = true -> ∀ x ∈ xs,lo <= x /\ x <= hi
  | _,[],_,_,x,hx=>by cases hx
  | 0,_ :: _,h,_,_,_=>by cases h
  | n + 1,y :: r,h,e,x,hx=>by
    have e:(PyInside.within lo hi y && PyInside.each (List.replicate n (lo,hi)) r) = true:=e
    rw [Bool.and_eq_true] at e
    rcases List.mem_cons.mp hx with z | z
    · rw [z]; exact within_iff.mp e.1
    · exact each_rep (Nat.succ.inj h) e.2 x z
def natsOf (xs:List Int):List Nat:=xs.map Int.toNat
theorem cast_nats:∀ {xs:List Int},(∀ x ∈ xs,0 <= x) -> (natsOf xs).map (fun (k:Nat)=>(k:Int)) = xs
  | [],_=>rfl
  | x :: r,h=>by
    have h0:=h x List.mem_cons_self
    show ((x.toNat:Nat):Int) :: (natsOf r).map (fun (k:Nat)=>(k:Int)) = _
    rw [cast_nats fun y hy=>h y (List.mem_cons_of_mem _ hy),Int.toNat_of_nonneg h0]
def encS (c:Nat × List Nat):List Int:=if shp[c.1]? = some (0,1) then (c.1:Int) :: (c.2.length:Int) :: c.2.map fun (k:Nat)=>(k:Int) else (c.1:Int) :: c.2.map fun (k:Nat)=>(k:Int)
def wfS (c:Nat × List Nat):Prop:=∃ q,shp[c.1]? = some q /\ ((q = (0,1) /\ c.2.length <= 12) \/ (q.2 = 0 /\ c.2.length = q.1)) /\ ∀ x ∈ c.2,x <= 4294967295
theorem nats_le {xs:List Int} (h:∀ x ∈ xs,(0:Int) <= x /\ x <= 4294967295):∀ x ∈ natsOf xs,x <= 4294967295:=fun x hx=>by
  obtain ⟨y,hy,rfl⟩:=List.mem_map.mp hx
  have:=h y hy
  omega
theorem parse_one {p:Int} {r t:List Int} {c:List (List Int)} (h:PyFlat.call shape (p :: r) = some (c,t)) (hb:PyInside.call bound c = true) :
    ∃ d:Nat × List Nat,p :: r = encS d ++ t /\ (whole c).headD [] = (d.1:Int) :: d.2.map (fun (k:Nat)=>(k:Int)) /\ wfS d:=by
  unfold PyFlat.call at h
  dsimp only at h
  cases hs:shape p with
  | none=>rw [hs] at h; cases h
  | some q =>
    obtain ⟨n,k⟩:=q
    rw [hs] at h
    dsimp only at h
    obtain ⟨j,rfl,hj⟩:=shape_some hs
    by_cases hl:r.length < n
    · rw [if_pos hl] at h; cases h
    · rw [if_neg hl] at h
      rcases shp_cases hj with hk | hk
      · have hk:k = 0:=hk
        subst hk
        have h:some (((j:Int) :: r.take n) :: [],r.drop n) = some (c,t):=h
        cases h
        have hlen:(r.take n).length = n:=by rw [List.length_take]; omega
        have hb:(PyInside.each (bound (j:Int)).1 (r.take n) && PyInside.lists (bound (j:Int)).2 []) = true:=hb
        rw [Bool.and_eq_true,bound_row hj] at hb
        have hr:=each_rep hlen hb.1
        have hc:=cast_nats fun x hx=>(hr x hx).1
        refine ⟨(j,natsOf (r.take n)),?_,?_,(n,0),hj,.inr ⟨rfl,by unfold natsOf; rw [List.length_map]; exact hlen⟩,nats_le hr⟩
        · unfold encS
          rw [if_neg (by rw [hj]; intro z; cases z)]
          show (j:Int) :: r = (j:Int) :: ((natsOf (r.take n)).map _ ++ r.drop n)
          rw [hc,List.take_append_drop]
        · rw [whole_row hj hlen]
          show (j:Int) :: r.take n = _
          rw [hc]
      · cases hk
        have h:(match PyFlat.rows 1 (r.drop 0) with | none=>none | some (xs,t)=>some (((j:Int) :: r.take 0) :: xs,t)) = some (c,t):=h
        rw [List.drop_zero,List.take_zero] at h
        cases r with
        | nil=>cases h
        | cons m r =>
          have e1:PyFlat.rows 1 (m :: r) = if 0 <= m /\ m.toNat <= r.length then some ([r.take m.toNat],r.drop m.toNat) else none:=by
            show (match (if 0 <= m /\ m.toNat <= r.length then some (r.take m.toNat,r.drop m.toNat) else none) with | none=>none | some (x,s)=>_) = _
            split <;> rename_i z
            · split at z
              · cases z
              · rename_i w; rw [if_neg w]
            · split at z
              · rename_i w; cases z; rw [if_pos w]; rfl
              · cases z
          rw [e1] at h
          by_cases hm:0 <= m /\ m.toNat <= r.length
          · rw [if_pos hm] at h
            cases h
            have hlen:(r.take m.toNat).length = m.toNat:=by rw [List.length_take]; omega
            have hb:(PyInside.each (bound (j:Int)).1 [] && PyInside.lists (bound (j:Int)).2 [r.take m.toNat]) = true:=hb
            rw [Bool.and_eq_true,bound_way hj] at hb
            have hb2:(decide (0 <= (r.take m.toNat).length) && decide ((r.take m.toNat).length <= 12) && (r.take m.toNat).all (PyInside.within 0 4294967295) && true) = true:=hb.2
            rw [Bool.and_true,Bool.and_eq_true,Bool.and_eq_true,decide_eq_true_eq,decide_eq_true_eq,List.all_eq_true] at hb2
            have hr:∀ x ∈ r.take m.toNat,(0:Int) <= x /\ x <= 4294967295:=fun x hx=>within_iff.mp (hb2.2 x hx)
            have hc:=cast_nats fun x hx=>(hr x hx).1
            have hnl:(natsOf (r.take m.toNat)).length = m.toNat:=by unfold natsOf; rw [List.length_map]; exact hlen
            refine ⟨(j,natsOf (r.take m.toNat)),?_,?_,(0,1),hj,.inl ⟨rfl,by rw [hnl,<- hlen]; exact hb2.1.2⟩,nats_le hr⟩
            · unfold encS
              rw [if_pos hj]
              show (j:Int) :: m :: r = (j:Int) :: (((natsOf (r.take m.toNat)).length:Nat):Int) :: ((natsOf (r.take m.toNat)).map _ ++ r.drop m.toNat)
              rw [hc,hnl,List.take_append_drop,Int.toNat_of_nonneg hm.1]
            · rw [(whole_way hj).1]
              show (j:Int) :: r.take m.toNat = _
              rw [hc]
          · rw [if_neg hm] at h; cases h
theorem parse_all:∀ (f:Nat) (l:List Int) (raw:List (List (List Int))),PyFlat.calls shape f l = some raw -> PyInside.calls bound raw = true →
    ∃ cs:List (Nat × List Nat),l = (cs.map encS).flatten /\ raw.map (fun c=>(whole c).headD []) = cs.map (fun c=>(c.1:Int) :: c.2.map fun (k:Nat)=>(k:Int)) /\ ∀ c ∈ cs,wfS c
  | f,[],raw,h,_=>by
    have h:some [] = some raw:=by cases f <;> exact h
    cases h
    exact ⟨[],rfl,rfl,fun c hc=>by cases hc⟩
  | 0,p :: r,raw,h,_=>by cases h
  | f + 1,p :: r,raw,h,hb=>by
    have h:(match PyFlat.call shape (p :: r) with | none=>none | some (c,t)=>match PyFlat.calls shape f t with | none=>none | some cs=>some (c :: cs)) = some raw:=h
    cases h1:PyFlat.call shape (p :: r) with
    | none=>rw [h1] at h; cases h
    | some ct =>
      obtain ⟨c,t⟩:=ct
      rw [h1] at h
      dsimp only at h
      cases h2:PyFlat.calls shape f t with
      | none=>rw [h2] at h; cases h
      | some rs =>
        rw [h2] at h
        cases h
        have hb:(PyInside.call bound c && PyInside.calls bound rs) = true:=hb
        rw [Bool.and_eq_true] at hb
        obtain ⟨d,e1,e2,w⟩:=parse_one h1 hb.1
        obtain ⟨ds,e3,e4,w2⟩:=parse_all f t rs h2 hb.2
        refine ⟨d :: ds,?_,?_,fun c hc=>?_⟩
        · rw [e1,e3,List.map_cons,List.flatten_cons]
        · rw [List.map_cons,List.map_cons,e2,e4]
        · rcases List.mem_cons.mp hc with z | z
          · rw [z]; exact w
          · exact w2 c z
def rowC (c:Nat × List Nat):List Int:=(c.1:Int) :: c.2.map fun (k:Nat)=>(k:Int)
def specRun:Su125Neutral.S -> List (Nat × List Nat) -> List Int
  | _,[]=>[]
  | s,c :: r=>(((Su125Neutral.step s (rowC c)).2.length:Int) :: (Su125Neutral.step s (rowC c)).2) ++ specRun (Su125Neutral.step s (rowC c)).1 r
theorem told_played:∀ (raw:List (List (List Int))) (cs:List (Nat × List Nat)) (s:Su125Neutral.S),raw.map (fun c=>(whole c).headD []) = cs.map rowC →
    PyFlat.told (PyFlat.played (fun s c=>Su125Neutral.step s (c.headD [])) s (raw.map whole)) = specRun s cs
  | [],cs,s,h=>by
    cases cs with
    | nil=>rfl
    | cons c r=>cases h
  | x :: raw,cs,s,h=>by
    cases cs with
    | nil=>cases h
    | cons c r =>
      rw [List.map_cons,List.map_cons] at h
      have h1:=(List.cons.inj h).1
      have h2:=(List.cons.inj h).2
      show PyFlat.told ((Su125Neutral.step s ((whole x).headD [])).2 :: PyFlat.played _ (Su125Neutral.step s ((whole x).headD [])).1 (raw.map whole)) = _
      rw [h1]
      show (((Su125Neutral.step s (rowC c)).2.length:Int) :: (Su125Neutral.step s (rowC c)).2) ++ PyFlat.told _ = _
      rw [told_played raw r _ h2]
      rfl
theorem asked_calls {l:List Int} (h:answers_asked l = true):∃ cs:List (Nat × List Nat),l = (cs.map encS).flatten /\ (∀ c ∈ cs,wfS c) /\ cs.length <= 400 /\ answers l = specRun Su125Neutral.start cs:=by
  unfold answers_asked at h
  cases hr:PyFlat.calls shape l.length l with
  | none=>rw [hr] at h; cases h
  | some raw =>
    rw [hr] at h
    dsimp only at h
    simp only [Bool.and_eq_true] at h; obtain ⟨⟨⟨⟨_,h1⟩,h2⟩,_⟩,_⟩:=h
    obtain ⟨cs,e1,e2,w⟩:=parse_all _ _ _ hr h2
    refine ⟨cs,e1,w,?_,?_⟩
    · have:=congrArg List.length e2
      rw [List.length_map,List.length_map] at this
      unfold PyFlat.atMost at h1
      rw [decide_eq_true_eq] at h1
      omega
    · unfold answers PySu125.calls
      rw [hr]
      exact told_played raw cs _ e2
end L2.FF
end
section
namespace L2.FF
open PySem
def argX:List Str:=(["mn","ij","ij","","","s","ij","","ijkl","ij","","","","w","ij","ij","","","i","j","ijd","ijd","","s","s","","","ijd","","ijd","w","ijd","","","ijd","ijd","ij","ijd","","","","","","","ijd","s","","","","",""]:List String).map Str.ofString
def shpOf (x:Str):Nat × Nat:=if decide (x = Str.ofString "w") = true then (0,1) else (x.cps.toList.length,0)
theorem argX_shp:argX.map shpOf = shp:=by decide +kernel
theorem argX_at {j:Nat} {q:Nat × Nat} (h:shp[j]? = some q):∃ x,argX[j]? = some x /\ ((x = Str.ofString "w" /\ q = (0,1)) \/ (¬ x = Str.ofString "w" /\ q = (x.cps.size,0))):=by
  rw [<- argX_shp,List.getElem?_map] at h
  cases e:argX[j]? with
  | none=>rw [e] at h; cases h
  | some x =>
    rw [e] at h
    have h:shpOf x = q:=Option.some.inj h
    unfold shpOf at h
    refine ⟨x,rfl,?_⟩
    by_cases z:x = Str.ofString "w"
    · rw [if_pos (decide_eq_true z)] at h; exact .inl ⟨z,h.symm⟩
    · rw [if_neg (by rw [decide_eq_false z]; decide)] at h; exact .inr ⟨z,h.symm⟩
theorem argX_len0:∀ x ∈ argX,x.cps.toList.length <= 4 /\ x.cps.toList.all (· < 128) = true:=by decide +kernel
theorem argX_len:∀ x ∈ argX,x.length <= 4 /\ x.cps.all (· < 128) = true:=fun x hx=>⟨(argX_len0 x hx).1,by rw [<- Array.all_toList]; exact (argX_len0 x hx).2⟩
theorem wfS_C {c:Nat × List Nat} (h:wfS c):wfC argX c /\ encS c = encC argX c:=by
  obtain ⟨q,hq,hc,_⟩:=h
  obtain ⟨x,hx,hx2⟩:=argX_at hq
  have hl:=argX_len x (List.mem_of_getElem? hx)
  rcases hx2 with ⟨e1,e2⟩ | ⟨e1,e2⟩
  · subst e2
    rcases hc with ⟨_,h2⟩ | ⟨h1,_⟩
    · refine ⟨⟨x,hx,.inl e1,by omega,by omega⟩,?_⟩
      unfold encS encC
      rw [if_pos hq,if_pos (by rw [hx,e1])]
    · cases h1
  · subst e2
    rcases hc with ⟨h1,_⟩ | ⟨_,h2⟩
    · exact absurd (show (0:Nat) = 1 from congrArg Prod.snd h1) (by decide)
    · have h2:c.2.length = x.length:=h2
      refine ⟨⟨x,hx,.inr h2.symm,by omega,by omega⟩,?_⟩
      unfold encS encC
      rw [if_neg (by rw [hq]; intro z; exact absurd (show (0:Nat) = 1 from congrArg Prod.snd (Option.some.inj z)) (by decide)),if_neg (by rw [hx]; exact fun z=>e1 (Option.some.inj z))]
theorem enc_all {cs:List (Nat × List Nat)} (h:∀ c ∈ cs,wfS c):cs.map encS = cs.map (encC argX):=List.map_congr_left fun c hc=>(wfS_C (h c hc)).2
theorem sim_run {MM:Mach} {Rel:WD -> Su125Neutral.S -> Prop} (h:∀ c W s,Rel W s -> wfS c -> MM.ok c W /\ (MM.an c W).length <= 1000 /\ MM.an c W = (Su125Neutral.step s (rowC c)).2 /\ Rel (MM.up c W) (Su125Neutral.step s (rowC c)).1) :
    ∀ (cs:List (Nat × List Nat)) (W:WD) (s:Su125Neutral.S),Rel W s -> (∀ c ∈ cs,wfS c) -> MM.okRun W cs /\ MM.run W cs = specRun s cs
  | [],W,s,_,_=>⟨trivial,rfl⟩
  | c :: r,W,s,hr,hw=>by
    obtain ⟨h1,h2,h3,h4⟩:=h c W s hr (hw c List.mem_cons_self)
    obtain ⟨i1,i2⟩:=sim_run h r _ _ h4 fun c' hc'=>hw c' (List.mem_cons_of_mem _ hc')
    refine ⟨⟨h1,h2,i1⟩,?_⟩
    show (((MM.an c W).length:Int) :: MM.an c W) ++ MM.run (MM.up c W) r = _
    rw [h3,i2]
    rfl
end L2.FF
end
section
namespace L2.FF
open PySem PySem.Spec PyProof.Rows
open PySem.W (WData Codec)
theorem callsAt_of {K:PySem.W.Frag} {H:Hp} {b:Addr} {xs:List V} (hO:OnlyF H) (h:SqL K H b xs):CallsAt K H b xs:=by
  rcases h with (h | ⟨o,h⟩) | h
  · rcases hO b with z | ⟨o,u,z⟩
    · rw [h] at z; cases z
    · rw [h] at z; cases z
  · exact .inl ⟨o,h⟩
  · exact .inr h
theorem req_ok {K:PySem.W.Frag} {C:Addr} {H:Hp} {MM:Mach} {Rel:WD -> Su125Neutral.S -> Prop} {b:Addr} {l:List Int} (h:∀ c W s,Rel W s -> wfS c -> MM.ok c W /\ (MM.an c W).length <= 1000 /\ MM.an c W = (Su125Neutral.step s (rowC c)).2 /\ Rel (MM.up c W) (Su125Neutral.step s (rowC c)).1)
    (h0:Rel ⟨0,0,[],[]⟩ Su125Neutral.start) (hO:OnlyF H) (hs:SqL K H b (l.map V.int)) (ha:PySu125.answers_asked l = true) :
    sp_answers C K MM argX [.ref b] H (fun v H'=>Dw K H' v (.list ((PySu125.answers l).map WData.int))) (fun _ _ _=>False):=by
  obtain ⟨cs,e1,w,hl,e2⟩:=asked_calls ha
  obtain ⟨r1,r2⟩:=sim_run h cs _ _ h0 w
  refine ⟨b,cs,rfl,?_,fun c hc=>(wfS_C (w c hc)).1,hl,r1,fun H' p hp=>?_⟩
  · rw [<- enc_all w,<- e1]
    exact callsAt_of hO hs
  · rw [e2,<- r2]
    exact .lst (SqL.of hp) (dw_ints _)
end L2.FF
end
section
namespace L2.FF
open Su125Neutral
theorem toNat_map (l:List Nat):(l.map fun (k:Nat)=>(k:Int)).map Int.toNat = l:=by
  rw [List.map_map]
  conv=>rhs; rw [<- List.map_id l]
  exact List.map_congr_left fun x _=>Int.toNat_natCast x
theorem call_0 {a b:Nat}:callOf (rowC (0,[a,b])) = some (.begin_ a b):=rfl
theorem call_1 {a b:Nat}:callOf (rowC (1,[a,b])) = some (.bar (.brace a b)):=rfl
theorem call_2 {a b:Nat}:callOf (rowC (2,[a,b])) = some (.bar (.free a b)):=rfl
theorem call_3 :callOf (rowC (3,[])) = some (.bar .firm):=rfl
theorem call_4 :callOf (rowC (4,[])) = some (.bar .parts):=rfl
theorem call_5 {a:Nat}:callOf (rowC (5,[a])) = some (.bar (.part a)):=rfl
theorem call_6 {a b:Nat}:callOf (rowC (6,[a,b])) = some (.bar (.still a b)):=rfl
theorem call_7 :callOf (rowC (7,[])) = some (.bar .stills):=rfl
theorem call_8 {a b c d:Nat}:callOf (rowC (8,[a,b,c,d])) = some (.bar (.alike a b c d)):=rfl
theorem call_9 {a b:Nat}:callOf (rowC (9,[a,b])) = some (.bar (.spare a b)):=rfl
theorem call_10 :callOf (rowC (10,[])) = some (.bar .spares):=rfl
theorem call_11 :callOf (rowC (11,[])) = some (.bar .put):=rfl
theorem call_12 :callOf (rowC (12,[])) = some (.bar .thin):=rfl
theorem call_13 (l:List Nat):callOf (rowC (13,l)) = some (.bar (.turn l)):=by
  show some (Su125.Call.bar (.turn ((l.map fun (k:Nat)=>(k:Int)).map Int.toNat))) = _
  rw [toNat_map]
theorem call_14 {a b:Nat}:callOf (rowC (14,[a,b])) = some (.bar (.falls a b)):=rfl
theorem call_15 {a b:Nat}:callOf (rowC (15,[a,b])) = some (.bar (.would a b)):=rfl
theorem call_16 :callOf (rowC (16,[])) = some (.bar .least):=rfl
theorem call_17 :callOf (rowC (17,[])) = some (.bar .all):=rfl
theorem call_18 {a:Nat}:callOf (rowC (18,[a])) = some (.bar (.row a)):=rfl
theorem call_19 {a:Nat}:callOf (rowC (19,[a])) = some (.bar (.column a)):=rfl
theorem call_20 {a b c:Nat}:callOf (rowC (20,[a,b,c])) = some (.tie (.tie a b c)):=rfl
theorem call_21 {a b c:Nat}:callOf (rowC (21,[a,b,c])) = some (.tie (.free a b c)):=rfl
theorem call_22 :callOf (rowC (22,[])) = some (.tie .firm):=rfl
theorem call_23 {a:Nat}:callOf (rowC (23,[a])) = some (.tie (.reach a)):=rfl
theorem call_24 {a:Nat}:callOf (rowC (24,[a])) = some (.tie (.part a)):=rfl
theorem call_25 :callOf (rowC (25,[])) = some (.tie .parts):=rfl
theorem call_26 :callOf (rowC (26,[])) = some (.tie .ends):=rfl
theorem call_27 {a b c:Nat}:callOf (rowC (27,[a,b,c])) = some (.tie (.leans a b c)):=rfl
theorem call_28 :callOf (rowC (28,[])) = some (.tie .all):=rfl
theorem call_29 {a b c:Nat}:callOf (rowC (29,[a,b,c])) = some (.tie (.lean a b c)):=rfl
theorem call_30 (l:List Nat):callOf (rowC (30,l)) = some (.tie (.turn l)):=by
  show some (Su125.Call.tie (.turn ((l.map fun (k:Nat)=>(k:Int)).map Int.toNat))) = _
  rw [toNat_map]
theorem call_31 {a b c:Nat}:callOf (rowC (31,[a,b,c])) = some (.tie (.spare a b c)):=rfl
theorem call_32 :callOf (rowC (32,[])) = some (.tie .spares):=rfl
theorem call_33 :callOf (rowC (33,[])) = some (.tie .put):=rfl
theorem call_34 {a b c:Nat}:callOf (rowC (34,[a,b,c])) = some (.tie (.would a b c)):=rfl
theorem call_35 {a b c:Nat}:callOf (rowC (35,[a,b,c])) = some (.tie (.falls a b c)):=rfl
theorem call_36 {a b:Nat}:callOf (rowC (36,[a,b])) = some (.tie (.stiff a b)):=rfl
theorem call_37 {a b c:Nat}:callOf (rowC (37,[a,b,c])) = some (.tie (.flip a b c)):=rfl
theorem call_38 :callOf (rowC (38,[])) = some (.tie .ties):=rfl
theorem call_39 :callOf (rowC (39,[])) = some (.both):=rfl
theorem call_40 :callOf (rowC (40,[])) = some (.robbins):=rfl
theorem call_41 :callOf (rowC (41,[])) = some (.can):=rfl
theorem call_42 :callOf (rowC (42,[])) = some (.needed):=rfl
theorem call_43 :callOf (rowC (43,[])) = some (.mixed):=rfl
theorem call_44 {a b c:Nat}:callOf (rowC (44,[a,b,c])) = some (.mixedLeans a b c):=rfl
theorem call_45 {a:Nat}:callOf (rowC (45,[a])) = some (.mixedPart a):=rfl
theorem call_46 :callOf (rowC (46,[])) = some (.idle):=rfl
theorem call_47 :callOf (rowC (47,[])) = some (.clear):=rfl
theorem call_48 :callOf (rowC (48,[])) = some (.change):=rfl
theorem call_49 :callOf (rowC (49,[])) = some (.count):=rfl
theorem call_50 :callOf (rowC (50,[])) = some (.state):=rfl
theorem step_bar {row:List Int} {c:Su123.Call} (hc:callOf row = some (.bar c)) (hk:Su125.ok123 c = true) (a:Su125.Abs):step (some a) row = (some { a with bars:=(Su123.does a.bars c).1 },out3 (Su123.does a.bars c).2):=by
  unfold step
  rw [hc]
  show (some (Su125.does a (.bar c)).1,(Su125.does a (.bar c)).2.value :: outs (Su125.does a (.bar c)).2.out) = _
  have e:Su125.does a (.bar c) = ({ a with bars:=(Su123.does a.bars c).1 },Su125.of123 (Su123.does a.bars c).2):=by
    show (if Su125.ok123 c = false then _ else _) = _
    rw [if_neg (by rw [hk]; decide)]
  rw [e]
  rfl
theorem step_tie {row:List Int} {c:Su124.Call} (hc:callOf row = some (.tie c)) (hk:Su125.ok124 c = true) (a:Su125.Abs):step (some a) row = (some { a with ties:=(Su124.does a.ties c).1 },out4 (Su124.does a.ties c).2):=by
  unfold step
  rw [hc]
  show (some (Su125.does a (.tie c)).1,(Su125.does a (.tie c)).2.value :: outs (Su125.does a (.tie c)).2.out) = _
  have e:Su125.does a (.tie c) = ({ a with ties:=(Su124.does a.ties c).1 },Su125.of124 (Su124.does a.ties c).2):=by
    show (if Su125.ok124 c = false then _ else _) = _
    rw [if_neg (by rw [hk]; decide)]
  rw [e]
  rfl
theorem step_other {row:List Int} {c:Su125.Call} (hc:callOf row = some c) (a:Su125.Abs):step (some a) row = (some (Su125.does a c).1,(Su125.does a c).2.value :: cast (Su125.does a c).2.out):=by
  unfold step
  rw [hc]
  rfl
theorem step_none {row:List Int} {c:Su125.Call} (hc:callOf row = some c) (hb:∀ m n,c ≠ .begin_ m n):step none row = (none,[-11]):=by
  unfold step
  rw [hc]
  cases c with
  | begin_ m n=>exact absurd rfl (hb m n)
  | _=>rfl
structure okN (W:WD):Prop where
  m1:1 <= W.m
  m5:W.m <= 5
  n1:1 <= W.n
  n5:W.n <= 5
  bi:inS W.m W.n W.bars
  bn:W.bars.Nodup
  ti:inR W.m W.n W.ties
  t1:inR1 W.ties
  tn:W.ties.Nodup
def absW (W:WD):Su125.Abs:=⟨A3 W.m W.n W.bars,A4 W.m W.n W.ties⟩
def Rel (W:WD) (s:S):Prop:=(W.m = 0 /\ s = none) \/ (okN W /\ s = some (absW W))
theorem okN.bl {W:WD} (h:okN W):W.bars.length <= 25:=by
  have:=MG.sub_of (A:=W.bars.map fun x=>x.1 * 5 + x.2) (B:=List.range 25) (fun x hx=>by
    obtain ⟨b,hb,rfl⟩:=List.mem_map.mp hx
    have:=h.bi b hb
    have:=h.m5
    have:=h.n5
    rw [List.mem_range]
    omega) (by
    refine List.Pairwise.map _ (R:=fun a b=>a ≠ b /\ a.2 < 5 /\ b.2 < 5) (fun a b ⟨h1,h2,h3⟩ e=>h1 (Prod.ext (by omega) (by omega))) ?_
    refine List.Pairwise.imp_of_mem (fun {a b} ha hb hab=>⟨hab,?_,?_⟩) h.bn
    · have:=h.bi a ha; have:=h.n5; omega
    · have:=h.bi b hb; have:=h.n5; omega)
  rw [List.length_map,List.length_range] at this
  exact this
theorem okN.tl {W:WD} (h:okN W):W.ties.length <= 50:=by
  have:=MG.sub_of (A:=W.ties.map fun x=>(x.1 * 5 + x.2.1) * 2 + x.2.2) (B:=List.range 50) (fun x hx=>by
    obtain ⟨b,hb,rfl⟩:=List.mem_map.mp hx
    have:=h.ti b hb
    have:=h.t1 b hb
    have:=h.m5
    have:=h.n5
    rw [List.mem_range]
    omega) (by
    refine List.Pairwise.map _ (R:=fun a b=>a ≠ b /\ (a.2.1 < 5 /\ a.2.2 <= 1) /\ b.2.1 < 5 /\ b.2.2 <= 1) (fun a b ⟨h1,h2,h3⟩ e=>h1 (Prod.ext (by omega) (Prod.ext (by omega) (by omega)))) ?_
    refine List.Pairwise.imp_of_mem (fun {a b} ha hb hab=>⟨hab,?_,?_⟩) h.tn
    · have:=h.ti a ha; have:=h.n5; exact ⟨by omega,h.t1 a ha⟩
    · have:=h.ti b hb; have:=h.n5; exact ⟨by omega,h.t1 b hb⟩)
  rw [List.length_map,List.length_range] at this
  exact this
end L2.FF
end
section
namespace L2.FF
open Su125Neutral
section
variable {W:WD} {i j k l s d:Nat}
theorem okN.pos (h:okN W):0 < W.m + W.n:=by have:=h.m1; omega
theorem barsW:(absW W).bars = A3 W.m W.n W.bars:=rfl
theorem tiesW:(absW W).ties = A4 W.m W.n W.ties:=rfl
theorem s1 (h:okN W) (hi:i < W.m) (hj:j < W.n):step (some (absW W)) (rowC (1,[i,j])) = (some (absW (if W.bars.contains (i,j) then W else { W with bars:=W.bars ++ [(i,j)] })),if W.bars.contains (i,j) then [(-17:Int)] else [((sh W.m W.n (W.bars ++ [(i,j)]):Nat):Int)]):=by
  rw [step_bar call_1 rfl,barsW,d_brace (b:=(i,j)) h.bi hi hj]
  cases W.bars.contains (i,j) <;> rfl
theorem s2 (h:okN W) (hi:i < W.m) (hj:j < W.n):step (some (absW W)) (rowC (2,[i,j])) = (some (absW (if W.bars.contains (i,j) then { W with bars:=wo W.bars (i,j) } else W)),if W.bars.contains (i,j) then [((sh W.m W.n (wo W.bars (i,j)):Nat):Int)] else [-6]):=by
  rw [step_bar call_2 rfl,barsW,d_free (b:=(i,j)) h.bi hi hj]
  cases W.bars.contains (i,j) <;> rfl
theorem s3 (h:okN W):step (some (absW W)) (rowC (3,[])) = (some (absW W),r_firm W):=by
  rw [step_bar call_3 rfl,barsW,d_firm h.bi h.pos]
  unfold r_firm
  cases decide (sh W.m W.n W.bars = 0) <;> rfl
theorem s4 (h:okN W):step (some (absW W)) (rowC (4,[])) = (some (absW W),cnt (bf W.m W.n W.bars)):=by
  rw [step_bar call_4 rfl,barsW,d_parts h.bi]; rfl
theorem s5 (h:okN W) (hs:s < W.m + W.n):step (some (absW W)) (rowC (5,[s])) = (some (absW W),cnt (r_part W s)):=by
  rw [step_bar call_5 rfl,barsW,d_part h.bi hs]; rfl
theorem s6 (h:okN W) (hi:i < W.m) (hj:j < W.n):step (some (absW W)) (rowC (6,[i,j])) = (some (absW W),[if ka W.m (bf W.m W.n W.bars) (i,j) then 1 else 0]):=by
  rw [step_bar call_6 rfl,barsW,d_still (b:=(i,j)) h.bi hi hj]
  cases ka W.m (bf W.m W.n W.bars) (i,j) <;> rfl
theorem s7 (h:okN W):step (some (absW W)) (rowC (7,[])) = (some (absW W),r_stills W):=by
  rw [step_bar call_7 rfl,barsW,d_stills h.bi]; rfl
theorem s8 (h:okN W) (hi:i < W.m) (hj:j < W.n) (hk:k < W.m) (hl:l < W.n):step (some (absW W)) (rowC (8,[i,j,k,l])) = (some (absW W),[r_alike W i j k l]):=by
  rw [step_bar call_8 rfl,barsW,d_alike h.bi hi hj hk hl]
  unfold r_alike
  cases (decide ((bf W.m W.n W.bars).getD i 0 = (bf W.m W.n W.bars).getD k 0) && decide ((bf W.m W.n W.bars).getD (W.m + j) 0 = (bf W.m W.n W.bars).getD (W.m + l) 0)) <;> rfl
theorem s9 (h:okN W) (hi:i < W.m) (hj:j < W.n):step (some (absW W)) (rowC (9,[i,j])) = (some (absW W),r_spare W (i,j)):=by
  rw [step_bar call_9 rfl,barsW,d_spare (b:=(i,j)) h.bi hi hj]
  unfold r_spare
  cases W.bars.contains (i,j)
  · rfl
  · cases isp W.m W.n W.bars (i,j) <;> rfl
theorem s10 (h:okN W):step (some (absW W)) (rowC (10,[])) = (some (absW W),flat2 (W.bars.filter fun b=>isp W.m W.n W.bars b)):=by
  rw [step_bar call_10 rfl,barsW,d_spares h.bi,flat2_eq]; rfl
theorem s11 (h:okN W):step (some (absW W)) (rowC (11,[])) = (some (absW W),flat2 (putM W.m W.n W.bars)):=by
  rw [step_bar call_11 rfl,barsW,d_put h.bi,flat2_eq]; rfl
theorem s12 (h:okN W):step (some (absW W)) (rowC (12,[])) = (some (absW W),flat2 (thinM W.m W.n W.bars)):=by
  rw [step_bar call_12 rfl,barsW,d_thin h.bi,flat2_eq]; rfl
theorem s13 (h:okN W) (way:List Nat):step (some (absW W)) (rowC (13,way)) = (some (absW W),r_turn W way):=by
  rw [step_bar (call_13 way) rfl,barsW,d_turn h.bi W.ties way]
  unfold r_turn
  by_cases e:way.length ≠ W.m + W.n
  · rw [if_pos e,if_pos e]; rfl
  · rw [if_neg e,if_neg e]
    have:(⟨W.m,W.n,W.bars,W.ties⟩:WD) = W:=rfl
    rw [this]
    cases decide ((W.bars.filter fun x=>(bentM W way).contains x).length = 0) <;> rfl
theorem s14 (h:okN W) (hi:i < W.m) (hj:j < W.n):step (some (absW W)) (rowC (14,[i,j])) = (some (absW W),r_falls W (i,j)):=by
  have q:=d_falls (b:=(i,j)) h.bi hi hj
  rw [step_bar call_14 rfl,barsW,q.1,q.2]; rfl
theorem s15 (h:okN W) (hi:i < W.m) (hj:j < W.n):step (some (absW W)) (rowC (15,[i,j])) = (some (absW W),r_would W (i,j)):=by
  have q:=d_would (b:=(i,j)) h.bi hi hj
  rw [step_bar call_15 rfl,barsW,q.1,q.2]; rfl
theorem s16 (h:okN W):step (some (absW W)) (rowC (16,[])) = (some (absW W),[((W.m + W.n - 1:Nat):Int),(W.bars.length:Int) - (((W.m + W.n:Nat):Int) - (pcount (bf W.m W.n W.bars):Nat))]):=by
  rw [step_bar call_16 rfl,barsW,d_least h.bi]; rfl
theorem s17:step (some (absW W)) (rowC (17,[])) = (some (absW W),flat2 W.bars):=by
  rw [step_bar call_17 rfl,barsW,d_all,flat2_eq]; rfl
theorem s18 (hi:i < W.m):step (some (absW W)) (rowC (18,[i])) = (some (absW W),cnt ((List.range W.n).filter fun j=>W.bars.contains (i,j))):=by
  rw [step_bar call_18 rfl,barsW,d_row hi]; rfl
theorem s19 (hj:j < W.n):step (some (absW W)) (rowC (19,[j])) = (some (absW W),cnt ((List.range W.m).filter fun i=>W.bars.contains (i,j))):=by
  rw [step_bar call_19 rfl,barsW,d_column hj]; rfl
theorem s20 (h:okN W) (hi:i < W.m) (hj:j < W.n) (hd:d <= 1):step (some (absW W)) (rowC (20,[i,j,d])) = (some (absW (if W.ties.contains (i,j,d) then W else { W with ties:=W.ties ++ [(i,j,d)] })),if W.ties.contains (i,j,d) then [(-17:Int)] else [((tp W.m W.n (W.ties ++ [(i,j,d)]):Nat):Int)]):=by
  rw [step_tie call_20 rfl,tiesW,d_tie (t:=(i,j,d)) h.ti hi hj hd]
  cases W.ties.contains (i,j,d) <;> rfl
theorem s21 (h:okN W) (hi:i < W.m) (hj:j < W.n) (hd:d <= 1):step (some (absW W)) (rowC (21,[i,j,d])) = (some (absW (if W.ties.contains (i,j,d) then { W with ties:=wo3 W.ties (i,j,d) } else W)),if W.ties.contains (i,j,d) then [((tp W.m W.n (wo3 W.ties (i,j,d)):Nat):Int)] else [-6]):=by
  rw [step_tie call_21 rfl,tiesW,d_untie (t:=(i,j,d)) h.ti hi hj hd]
  cases W.ties.contains (i,j,d) <;> rfl
theorem s22 (h:okN W):step (some (absW W)) (rowC (22,[])) = (some (absW W),r_tfirm W):=by
  rw [step_tie call_22 rfl,tiesW,d_tfirm h.ti h.pos]
  unfold r_tfirm
  cases decide (tp W.m W.n W.ties = 1) <;> rfl
theorem s23 (h:okN W) (hs:s < W.m + W.n):step (some (absW W)) (rowC (23,[s])) = (some (absW W),cnt (rch W.tb s)):=by
  rw [step_tie call_23 rfl,tiesW,d_reach h.ti hs]; rfl
theorem s24 (h:okN W) (hs:s < W.m + W.n):step (some (absW W)) (rowC (24,[s])) = (some (absW W),cnt (tog W.tb s)):=by
  rw [step_tie call_24 rfl,tiesW,d_tpart h.ti hs]; rfl
theorem s25 (h:okN W):step (some (absW W)) (rowC (25,[])) = (some (absW W),cnt (tfT W.tb)):=by
  rw [step_tie call_25 rfl,tiesW,d_tparts h.ti]; rfl
theorem okN.brace (h:okN W) (hi:i < W.m) (hj:j < W.n) (hc:W.bars.contains (i,j) = false):okN { W with bars:=W.bars ++ [(i,j)] } :=
  ⟨h.m1,h.m5,h.n1,h.n5,h.bi.app hi hj,List.nodup_append.mpr ⟨h.bn,by simp,fun x hx y hy e=>by
    rw [List.mem_singleton] at hy; subst hy; subst e
    rw [List.contains_iff_mem.mpr hx] at hc; cases hc⟩,h.ti,h.t1,h.tn⟩
theorem okN.free (h:okN W) {b:Nat × Nat}:okN { W with bars:=wo W.bars b }:=⟨h.m1,h.m5,h.n1,h.n5,h.bi.wo,List.Pairwise.filter _ h.bn,h.ti,h.t1,h.tn⟩
theorem okN.tie (h:okN W) (hi:i < W.m) (hj:j < W.n) (hd:d <= 1) (hc:W.ties.contains (i,j,d) = false):okN { W with ties:=W.ties ++ [(i,j,d)] } :=
  ⟨h.m1,h.m5,h.n1,h.n5,h.bi,h.bn,h.ti.app hi hj,h.t1.app hd,List.nodup_append.mpr ⟨h.tn,by simp,fun x hx y hy e=>by
    rw [List.mem_singleton] at hy; subst hy; subst e
    rw [List.contains_iff_mem.mpr hx] at hc; cases hc⟩⟩
theorem okN.untie (h:okN W) {t:Nat × Nat × Nat}:okN { W with ties:=wo3 W.ties t }:=⟨h.m1,h.m5,h.n1,h.n5,h.bi,h.bn,h.ti.wo3,h.t1.wo3,List.Pairwise.filter _ h.tn⟩
end
end L2.FF
end
section
namespace L2.FF
open Su125Neutral
theorem find_congr {α:Type} {p q:α -> Bool}:∀ {l:List α},(∀ x ∈ l,p x = q x) -> l.find? p = l.find? q
  | [],_=>rfl
  | x :: r,h=>by rw [List.find?_cons,List.find?_cons,h x List.mem_cons_self,find_congr fun y hy=>h y (List.mem_cons_of_mem _ hy)]
theorem bit_bi (b:Bool):((Su124.bit b:Nat):Int) = bi b:=by cases b <;> rfl
theorem bit_bi5 (b:Bool):((Su125.bit b:Nat):Int) = bi b:=by cases b <;> rfl
section
variable {W:WD} {i j k l s d:Nat}
theorem s26 (h:okN W):step (some (absW W)) (rowC (26,[])) = (some (absW W),r_ends W):=by
  rw [step_tie call_26 rfl,tiesW]
  show (some (absW W),((A4 W.m W.n W.ties).ends.length:Int) :: cast ((A4 W.m W.n W.ties).starts.length :: ((A4 W.m W.n W.ties).ends ++ (A4 W.m W.n W.ties).starts))) = _
  rw [ends124 h.ti,starts124 h.ti]
  unfold r_ends cast ci
  rw [List.map_cons,List.map_append,List.append_assoc]
  rfl
theorem s27 (h:okN W) (hi:i < W.m) (hj:j < W.n) (hd:d <= 1):step (some (absW W)) (rowC (27,[i,j,d])) = (some (absW W),[bi (mlean W.m W.tb (i,j,d))]):=by
  rw [step_tie call_27 rfl,tiesW,show Su124.does (A4 W.m W.n W.ties) (.leans i j d) = _ from if_neg (by rw [isS4_of hi hj hd]; decide)]
  show (some (absW W),[((Su124.bit ((A4 W.m W.n W.ties).leans i j d):Nat):Int)]) = _
  rw [leans124 (t:=(i,j,d)) h.ti hi hj,bit_bi]
theorem s28 (h:okN W):step (some (absW W)) (rowC (28,[])) = (some (absW W),r_tall W):=by
  rw [step_tie call_28 rfl,tiesW]
  have e:((A4 W.m W.n W.ties).all3.map fun x=>Su124.bit ((A4 W.m W.n W.ties).leans x.1 x.2.1 x.2.2)) = alean W.m W.n W.tb:=by
    rw [all3_eq]
    exact List.map_congr_left fun t ht=>by rw [leans124 h.ti (sq3_in ht).1 (sq3_in ht).2.1]; rfl
  show (some (absW W),((A4 W.m W.n W.ties).count:Int) :: cast ((A4 W.m W.n W.ties).all3.map fun x=>Su124.bit ((A4 W.m W.n W.ties).leans x.1 x.2.1 x.2.2))) = _
  rw [e,count124 h.ti]
  rfl
theorem s29 (h:okN W) (hi:i < W.m) (hj:j < W.n) (hd:d <= 1):step (some (absW W)) (rowC (29,[i,j,d])) = (some (absW W),r_lean W (i,j,d)):=by
  have hs:tsrc W.m (i,j,d) < W.m + W.n:=src_lt ⟨hi,hj⟩
  have e:(A4 W.m W.n W.ties).lean i j d = (List.range W.tb.length).map fun s=>if cm W.tb (tsrc W.m (i,j,d)) s then 1 else 0:=by
    rw [tt_len]
    refine List.map_congr_left fun x hx=>?_
    show (if ((A4 W.m W.n W.ties).reach (tsrc W.m (i,j,d))).contains x = true then 1 else 0) = _
    rw [reach124 h.ti hs,lst_contains (show x < W.m + W.n from List.mem_range.mp hx)]
  rw [step_tie call_29 rfl,tiesW,show Su124.does (A4 W.m W.n W.ties) (.lean i j d) = _ from if_neg (by rw [isS4_of hi hj hd]; decide)]
  rw [leans124 (t:=(i,j,d)) h.ti hi hj,e]
  unfold r_lean
  cases mlean W.m W.tb (i,j,d) <;> rfl
theorem bent_len {p:Nat × Nat -> Bool} (cs:List Nat):∀ rs:List Nat,((rs.flatMap fun i=>cs.map fun j=>(i,j)).filter p).length = (rs.flatMap fun i=>cs.filter fun j=>p (i,j)).length
  | []=>rfl
  | r :: rs=>by
    rw [List.flatMap_cons,List.filter_append,List.length_append,bent_len cs rs,List.flatMap_cons,List.length_append,List.filter_map,List.length_map]
    rfl
theorem s30 (h:okN W) (way:List Nat):step (some (absW W)) (rowC (30,way)) = (some (absW W),r_tturn W way):=by
  have e0:Su124.does (A4 W.m W.n W.ties) (.turn way) = if way.length ≠ W.m + W.n then (A4 W.m W.n W.ties,Su124.no (-22)) else (A4 W.m W.n W.ties,Su124.num (Su124.bit ((A4 W.m W.n W.ties).turns way)) [((List.range W.m).flatMap fun i=>(List.range W.n).filter fun j=>way.getD i 0 != way.getD (W.m + j) 0).length]):=rfl
  rw [step_tie (call_30 way) rfl,tiesW,e0]
  unfold r_tturn
  by_cases e:way.length ≠ W.m + W.n
  · rw [if_pos e,if_pos e]; rfl
  · rw [if_neg e,if_neg e]
    have e1:(A4 W.m W.n W.ties).turns way = decide ((brokT W way).length = 0):=by
      unfold Su124.Abs.turns Su124.Abs.arrows brokT
      rw [show (way.length == (A4 W.m W.n W.ties).size) = true from beq_iff_eq.mpr (Classical.not_not.mp e),Bool.true_and,Bool.eq_iff_iff,decide_eq_true_eq,List.length_eq_zero_iff,List.filter_eq_nil_iff,List.all_map,List.all_eq_true]
      have key:∀ t:Nat × Nat × Nat,((fun x:Nat × Nat=>decide (way.getD x.1 0 <= way.getD x.2 0)) ∘ fun x:Nat × Nat × Nat=>if x.2.2 = 0 then (x.1,(A4 W.m W.n W.ties).col x.2.1) else ((A4 W.m W.n W.ties).col x.2.1,x.1)) t = decide (way.getD (tsrc W.m t) 0 <= way.getD (ttgt W.m t) 0):=fun t=>by
        unfold tsrc ttgt
        show decide (way.getD (if t.2.2 = 0 then (t.1,W.m + t.2.1) else (W.m + t.2.1,t.1)).1 0 <= way.getD (if t.2.2 = 0 then (t.1,W.m + t.2.1) else (W.m + t.2.1,t.1)).2 0) = _
        by_cases z:t.2.2 = 0
        · rw [if_pos z,if_pos z,if_pos z]
        · rw [if_neg z,if_neg z,if_neg z]
      refine forall_congr' fun t=>?_
      show (t ∈ W.ties -> _) ↔ _
      rw [key]
      simp only [decide_eq_true_eq,Nat.not_lt]
    have e2:((List.range W.m).flatMap fun i=>(List.range W.n).filter fun j=>way.getD i 0 != way.getD (W.m + j) 0).length = (bentM W way).length:=by
      unfold bentM sqs
      rw [bent_len]
      congr 2
    rw [e1,e2]
    show (some (absW W),[((Su124.bit (decide ((brokT W way).length = 0)):Nat):Int),((bentM W way).length:Int)]) = _
    rw [bit_bi]
theorem s31 (h:okN W) (hi:i < W.m) (hj:j < W.n) (hd:d <= 1):step (some (absW W)) (rowC (31,[i,j,d])) = (some (absW W),r_tspare W (i,j,d)):=by
  rw [step_tie call_31 rfl,tiesW,show Su124.does (A4 W.m W.n W.ties) (.spare i j d) = if W.ties.contains (i,j,d) = false then (A4 W.m W.n W.ties,Su124.no (-6)) else (A4 W.m W.n W.ties,Su124.num (Su124.bit ((A4 W.m W.n W.ties).spare i j d)) []) from if_neg (by rw [isS4_of hi hj hd]; decide),spare124 (t:=(i,j,d)) h.ti ⟨hi,hj⟩]
  unfold r_tspare spT
  cases W.ties.contains (i,j,d)
  · rfl
  · cases mlean W.m (tt W.m W.n (wo3 W.ties (i,j,d))) (i,j,d) <;> rfl
theorem s32 (h:okN W):step (some (absW W)) (rowC (32,[])) = (some (absW W),flat3 (W.ties.filter fun t=>spT W t)):=by
  have e:(W.ties.filter fun x=>(A4 W.m W.n W.ties).spare x.1 x.2.1 x.2.2) = W.ties.filter fun t=>spT W t:=List.filter_congr fun x hx=>spare124 h.ti (h.ti x hx)
  rw [step_tie call_32 rfl,tiesW,<- flat3_eq,<- e]
  rfl
theorem s33 (h:okN W):step (some (absW W)) (rowC (33,[])) = (some (absW W),r_tput W):=by
  have e0:Su124.does (A4 W.m W.n W.ties) .put = if 9 < W.m * W.n then (A4 W.m W.n W.ties,Su124.no (-28)) else (match (A4 W.m W.n W.ties).put with
    | none=>(A4 W.m W.n W.ties,Su124.no (-33))
    | some s=>(A4 W.m W.n W.ties,Su124.num s.length (Su124.three s))):=rfl
  have em:((A4 W.m W.n W.ties).all3.filter fun x=>!((A4 W.m W.n W.ties).has x.1 x.2.1 x.2.2)) = missT W:=by rw [all3_eq]; rfl
  have hm:inR W.m W.n (missT W):=fun t ht=>⟨(sq3_in (List.mem_filter.mp ht).1).1,(sq3_in (List.mem_filter.mp ht).1).2.1⟩
  have e1:(A4 W.m W.n W.ties).put = tputO W:=by
    unfold Su124.Abs.put tputO
    rw [em]
    show (List.range 5).findSome? _ = _
    congr 1
    funext k
    rw [fset_eq h.pos k W.ties (missT W) h.ti hm]
    refine find_congr fun s hs=>?_
    have hsub:=(sets_mem hs).2
    exact firmT (fun x hx=>(List.mem_append.mp hx).elim (h.ti x) fun z=>hm x (hsub x z)) h.pos
  rw [step_tie call_33 rfl,tiesW,e0,e1]
  unfold r_tput
  by_cases z:9 < W.m * W.n
  · rw [if_pos z,if_pos z]; rfl
  · rw [if_neg z,if_neg z]
    cases tputO W with
    | none=>rfl
    | some s=>dsimp only; rw [flat3_eq]; rfl
theorem s34 (h:okN W) (hi:i < W.m) (hj:j < W.n) (hd:d <= 1):step (some (absW W)) (rowC (34,[i,j,d])) = (some (absW W),r_twould W (i,j,d)):=by
  have h':inR W.m W.n (W.ties ++ [(i,j,d)]):=h.ti.app hi hj
  rw [step_tie call_34 rfl,tiesW,show Su124.does (A4 W.m W.n W.ties) (.would i j d) = if W.ties.contains (i,j,d) = true then (A4 W.m W.n W.ties,Su124.no (-17)) else (A4 W.m W.n W.ties,Su124.num (A4 W.m W.n (W.ties ++ [(i,j,d)])).parts.length [(A4 W.m W.n W.ties).count - (A4 W.m W.n (W.ties ++ [(i,j,d)])).count]) from if_neg (by rw [isS4_of hi hj hd]; decide),parts124 h',count124 h.ti,count124 h']
  unfold r_twould
  cases W.ties.contains (i,j,d)
  · have:=lcnt_mono h.ti h' fun x hx=>List.mem_append.mpr (.inl hx)
    show (some (absW W),[((tp W.m W.n (W.ties ++ [(i,j,d)]):Nat):Int),((lcnt W.m W.n W.ties - lcnt W.m W.n (W.ties ++ [(i,j,d)]):Nat):Int)]) = _
    rw [Int.ofNat_sub this]; rfl
  · rfl
theorem s35 (h:okN W) (hi:i < W.m) (hj:j < W.n) (hd:d <= 1):step (some (absW W)) (rowC (35,[i,j,d])) = (some (absW W),r_tfalls W (i,j,d)):=by
  have h':inR W.m W.n (wo3 W.ties (i,j,d)):=h.ti.wo3
  rw [step_tie call_35 rfl,tiesW,show Su124.does (A4 W.m W.n W.ties) (.falls i j d) = if W.ties.contains (i,j,d) = false then (A4 W.m W.n W.ties,Su124.no (-6)) else (A4 W.m W.n W.ties,Su124.num (A4 W.m W.n (wo3 W.ties (i,j,d))).parts.length [(A4 W.m W.n (wo3 W.ties (i,j,d))).count - (A4 W.m W.n W.ties).count]) from if_neg (by rw [isS4_of hi hj hd]; decide),parts124 h',count124 h.ti,count124 h']
  unfold r_tfalls
  cases W.ties.contains (i,j,d)
  · rfl
  · have:=lcnt_mono h' h.ti fun x hx=>(List.mem_filter.mp hx).1
    show (some (absW W),[((tp W.m W.n (wo3 W.ties (i,j,d)):Nat):Int),((lcnt W.m W.n (wo3 W.ties (i,j,d)) - lcnt W.m W.n W.ties:Nat):Int)]) = _
    rw [Int.ofNat_sub this]; rfl
theorem s36 (h:okN W) (hi:i < W.m) (hj:j < W.n):step (some (absW W)) (rowC (36,[i,j])) = (some (absW W),r_stiff W (i,j)):=by
  rw [step_tie call_36 rfl,tiesW,show Su124.does (A4 W.m W.n W.ties) (.stiff i j) = (A4 W.m W.n W.ties,Su124.num (Su124.bit ((A4 W.m W.n W.ties).back i (W.m + j))) [Su124.bit (W.ties.contains (i,j,0) && W.ties.contains (i,j,1))]) from if_neg (by rw [isS4_of hi hj (Nat.zero_le _)]; decide),back124 h.ti (by omega) (by omega)]
  show (some (absW W),[((Su124.bit (decide (W.tb.getD (W.m + j) 0 = W.tb.getD i 0)):Nat):Int),((Su124.bit (W.ties.contains (i,j,0) && W.ties.contains (i,j,1)):Nat):Int)]) = _
  unfold r_stiff
  rw [show (tog W.tb (i,j).1).contains (W.m + (i,j).2) = decide (W.tb.getD (W.m + j) 0 = W.tb.getD i 0) from lst_contains (N:=W.tb.length) (by rw [tt_len]; omega),bit_bi,bit_bi,
    show (decide (((two [(i,j)]).filter fun t=>W.ties.contains t).length = 2)) = (W.ties.contains (i,j,0) && W.ties.contains (i,j,1)) from by
      show decide (([(i,j,0),(i,j,1)].filter fun t=>W.ties.contains t).length = 2) = _
      rw [List.filter_cons,List.filter_cons]
      cases W.ties.contains (i,j,0) <;> cases W.ties.contains (i,j,1) <;> rfl]
theorem s37 (h:okN W) (hi:i < W.m) (hj:j < W.n) (hd:d <= 1):step (some (absW W)) (rowC (37,[i,j,d])) = (some (absW (u_flip W (i,j,d))),r_flip W (i,j,d)):=by
  rw [step_tie call_37 rfl,tiesW,show Su124.does (A4 W.m W.n W.ties) (.flip i j d) = if W.ties.contains (i,j,d) = false then (A4 W.m W.n W.ties,Su124.no (-6)) else if W.ties.contains (oth (i,j,d)) = true then (A4 W.m W.n W.ties,Su124.no (-17)) else (A4 W.m W.n (flipL W.ties (i,j,d)),Su124.num (A4 W.m W.n (flipL W.ties (i,j,d))).parts.length []) from if_neg (by rw [isS4_of hi hj hd]; decide)]
  unfold u_flip r_flip
  cases hc:W.ties.contains (i,j,d)
  · rfl
  · rw [if_neg (by decide),if_pos rfl,if_pos rfl]
    cases hc2:W.ties.contains (oth (i,j,d))
    · rw [if_neg (by decide),if_neg (by decide),if_neg (by decide),parts124 (fun x hx=>?_)]
      · rfl
      · obtain ⟨y,hy,rfl⟩:=List.mem_map.mp hx
        split
        · exact ⟨hi,hj⟩
        · exact h.ti y hy
    · rfl
theorem s38:step (some (absW W)) (rowC (38,[])) = (some (absW W),flat3 W.ties):=by
  rw [step_tie call_38 rfl,tiesW,<- flat3_eq]; rfl
theorem inR_two {m n:Nat} {bs:List (Nat × Nat)} (h:inS m n bs):inR m n (two bs):=fun t ht=>h _ (two_mem.mp ht).1
def mxA (W:WD) (bs:List (Nat × Nat)):List (Nat × Nat × Nat):=two bs ++ W.ties.filter fun x=>!((two bs).contains x)
theorem mx_in (h:okN W) {bs:List (Nat × Nat)} (hb:inS W.m W.n bs):inR W.m W.n (mxA W bs) /\ inR W.m W.n (mixL W bs):=⟨fun t ht=>(List.mem_append.mp ht).elim (inR_two hb t) fun z=>h.ti t (List.mem_filter.mp z).1,fun t ht=>(List.mem_append.mp ht).elim (inR_two hb t) (h.ti t)⟩
theorem mx_tt (h:okN W) {bs:List (Nat × Nat)} (hb:inS W.m W.n bs):tt W.m W.n (mxA W bs) = tt W.m W.n (mixL W bs):=by
  refine tt_same (mx_in h hb).1 (mx_in h hb).2 fun x=>?_
  unfold mxA mixL
  rw [List.mem_append,List.mem_append,List.mem_filter]
  constructor
  · rintro (z | z)
    · exact .inl z
    · exact .inr z.1
  · rintro (z | z)
    · exact .inl z
    · by_cases w:x ∈ two bs
      · exact .inl w
      · refine .inr ⟨z,?_⟩
        rw [Bool.not_eq_true']
        cases q:(two bs).contains x with
        | false=>rfl
        | true=>exact absurd (List.contains_iff_mem.mp q) w
theorem mx_parts (h:okN W) {bs:List (Nat × Nat)} (hb:inS W.m W.n bs):(A4 W.m W.n (mxA W bs)).parts.length = mxp W bs:=by
  rw [parts124 (mx_in h hb).1]; unfold mxp tp; rw [mx_tt h hb]
theorem s39 (h:okN W):step (some (absW W)) (rowC (39,[])) = (some (absW { W with ties:=two W.bars }),[((two W.bars).length:Int),((tp W.m W.n (two W.bars):Nat):Int)]):=by
  rw [step_other call_39]
  show (some (absW { W with ties:=two W.bars }),((two W.bars).length:Int) :: cast [(A4 W.m W.n (two W.bars)).parts.length]) = _
  rw [parts124 (inR_two h.bi)]; rfl
theorem inR_zip (h:okN W) (ks:List Nat):inR W.m W.n (zipT W.bars ks):=fun t ht=>by
  unfold zipT at ht
  rw [<- List.map_uncurry_zip_eq_zipWith] at ht
  obtain ⟨⟨b,d⟩,hx,rfl⟩:=List.mem_map.mp ht
  exact h.bi b (List.of_mem_zip hx).1
theorem s40 (h:okN W):step (some (absW W)) (rowC (40,[])) = (some (absW (u_single W)),r_single W):=by
  have e1:(absW W).robbins = sglO W:=by
    unfold Su125.Abs.robbins sglO
    rw [show tt0 (W.m + W.n) = tt W.m W.n [] from rfl,fkin_eq h.pos]
    exact find_congr fun k _=>firmT (inR_zip h k) h.pos
  have e0:Su125.does (absW W) .robbins = if 9 < W.bars.length then (absW W,Su125.no (-28)) else (match (absW W).robbins with
    | none=>(absW W,Su125.no (-33))
    | some k=>(absW { W with ties:=zipT W.bars k },Su125.list k)):=rfl
  rw [step_other call_40,e0,e1]
  unfold u_single r_single
  by_cases z:9 < W.bars.length
  · rw [if_pos z,if_pos z,if_pos z]; rfl
  · rw [if_neg z,if_neg z,if_neg z]
    cases sglO W <;> rfl
theorem needW (h:okN W):(absW W).needed = needB W:=List.filter_congr fun x _=>congrArg (fun z=>!z) (spare123 h.bi x)
theorem s41 (h:okN W):step (some (absW W)) (rowC (41,[])) = (some (absW W),r_can W):=by
  rw [step_other call_41]
  show (some (absW W),((Su125.bit ((A3 W.m W.n W.bars).firm && (absW W).needed.isEmpty):Nat):Int) :: cast [(absW W).needed.length]) = _
  rw [needW h,firm123 h.bi h.pos,bit_bi5,show (needB W).isEmpty = decide ((needB W).length = 0) by cases needB W <;> rfl]
  rfl
theorem s42 (h:okN W):step (some (absW W)) (rowC (42,[])) = (some (absW W),flat2 (needB W)):=by
  rw [step_other call_42,<- flat2_eq,<- needW h]; rfl
theorem s43 (h:okN W):step (some (absW W)) (rowC (43,[])) = (some (absW W),r_mixed W):=by
  rw [step_other call_43]
  show (some (absW W),((Su125.bit (A4 W.m W.n (mxA W W.bars)).firm:Nat):Int) :: cast [(A4 W.m W.n (mxA W W.bars)).parts.length,(A4 W.m W.n (mxA W W.bars)).count]) = _
  have q:=(mx_in h h.bi).1
  rw [firm124 q h.pos,mx_parts h h.bi,count124 q,bit_bi5,show tp W.m W.n (mxA W W.bars) = mxp W W.bars by unfold mxp tp; rw [mx_tt h h.bi],show lcnt W.m W.n (mxA W W.bars) = lcnt W.m W.n (mixL W W.bars) by unfold lcnt; rw [mx_tt h h.bi]]
  rfl
theorem s44 (h:okN W) (hi:i < W.m) (hj:j < W.n) (hd:d <= 1):step (some (absW W)) (rowC (44,[i,j,d])) = (some (absW W),[bi (mlean W.m (mtb W) (i,j,d))]):=by
  rw [step_other call_44,show Su125.does (absW W) (.mixedLeans i j d) = (absW W,Su125.num (Su125.bit ((A4 W.m W.n (mxA W W.bars)).leans i j d)) []) from if_neg (by rw [tiesW,isS4_of hi hj hd]; decide),leans124 (t:=(i,j,d)) (mx_in h h.bi).1 hi hj,mx_tt h h.bi]
  show (some (absW W),[((Su125.bit (mlean W.m (mtb W) (i,j,d)):Nat):Int)]) = _
  rw [bit_bi5]
theorem s45 (h:okN W) (hs:s < W.m + W.n):step (some (absW W)) (rowC (45,[s])) = (some (absW W),cnt (tog (mtb W) s)):=by
  rw [step_other call_45,show Su125.does (absW W) (.mixedPart s) = (absW W,Su125.list ((A4 W.m W.n (mxA W W.bars)).part s)) from if_neg (Nat.not_le_of_lt hs),part124 (mx_in h h.bi).1 hs,mx_tt h h.bi]
  rfl
theorem s46 (h:okN W):step (some (absW W)) (rowC (46,[])) = (some (absW W),flat2 (idlB W)):=by
  have e:(absW W).idle = idlB W:=List.filter_congr fun x _=>by
    show ((A4 W.m W.n (mxA W (wo W.bars x))).parts.length == (A4 W.m W.n (mxA W W.bars)).parts.length) = _
    rw [mx_parts h h.bi.wo,mx_parts h h.bi,Bool.eq_iff_iff,beq_iff_eq,decide_eq_true_eq]
  rw [step_other call_46,<- flat2_eq,<- e]; rfl
theorem s47:step (some (absW W)) (rowC (47,[])) = (some (absW { W with ties:=[] }),[(W.ties.length:Int)]):=by
  rw [step_other call_47]; rfl
theorem s48 (h:okN W):step (some (absW W)) (rowC (48,[])) = (some (absW W),r_change W):=by
  rw [step_other call_48]
  show (some (absW W),((A3 W.m W.n W.bars).free:Int) :: cast [(A4 W.m W.n (two W.bars)).parts.length,(A4 W.m W.n W.ties).parts.length,(A4 W.m W.n (mxA W W.bars)).parts.length]) = _
  rw [free123 h.bi,parts124 (inR_two h.bi),parts124 h.ti,mx_parts h h.bi]; rfl
theorem s49:step (some (absW W)) (rowC (49,[])) = (some (absW W),[(W.bars.length:Int),(W.ties.length:Int),((W.m + W.n:Nat):Int)]):=by
  rw [step_other call_49]; rfl
theorem s50:step (some (absW W)) (rowC (50,[])) = (some (absW W),[(W.m:Int),(W.n:Int),(W.bars.length:Int),(W.ties.length:Int)]):=by
  rw [step_other call_50]; rfl
theorem two_nd:∀ {bs:List (Nat × Nat)},bs.Nodup -> (two bs).Nodup
  | [],_=>List.nodup_nil
  | x :: r,h=>by
    have n:=List.nodup_cons.mp h
    show ([(x.1,x.2,0),(x.1,x.2,1)] ++ two r).Nodup
    refine List.nodup_append.mpr ⟨by simp,two_nd n.2,fun a ha b hb e=>n.1 ?_⟩
    subst e
    have q:=(two_mem.mp hb).1
    rcases List.mem_cons.mp ha with z | z
    · rw [z] at q; exact q
    · rw [List.mem_singleton.mp z] at q; exact q
theorem okN.both (h:okN W):okN { W with ties:=two W.bars }:=⟨h.m1,h.m5,h.n1,h.n5,h.bi,h.bn,inR_two h.bi,fun t ht=>(two_mem.mp ht).2,two_nd h.bn⟩
theorem okN.clear (h:okN W):okN { W with ties:=[] }:=⟨h.m1,h.m5,h.n1,h.n5,h.bi,h.bn,fun t ht=>by (cases ht),fun t ht=>by (cases ht),List.nodup_nil⟩
theorem zip_nd:∀ {bs:List (Nat × Nat)} {ks:List Nat},bs.Nodup -> (zipT bs ks).Nodup
  | [],ks,_=>by unfold zipT; rw [List.zipWith_nil_left]; exact List.nodup_nil
  | x :: r,[],_=>List.nodup_nil
  | x :: r,k :: ks,h=>by
    have n:=List.nodup_cons.mp h
    show ((x.1,x.2,k) :: zipT r ks).Nodup
    refine List.nodup_cons.mpr ⟨fun hm=>n.1 ?_,zip_nd n.2⟩
    unfold zipT at hm
    rw [<- List.map_uncurry_zip_eq_zipWith] at hm
    obtain ⟨⟨b,d⟩,hx,e⟩:=List.mem_map.mp hm
    replace e:(b.1,b.2,d) = (x.1,x.2,k):=e
    have e1:b.1 = x.1:=congrArg (fun z:Nat × Nat × Nat=>z.1) e
    have e2:b.2 = x.2:=congrArg (fun z:Nat × Nat × Nat=>z.2.1) e
    have:=(List.of_mem_zip hx).1
    rwa [show b = x from Prod.ext e1 e2] at this
theorem okN.single (h:okN W):okN (u_single W):=by
  unfold u_single
  split
  · exact h
  · split
    · rename_i k e
      have hk:=(fkin_len (m:=W.m) (bs:=W.bars) (tb:=tt0 (W.m + W.n)) e).2
      refine ⟨h.m1,h.m5,h.n1,h.n5,h.bi,h.bn,inR_zip h k,fun t ht=>?_,zip_nd h.bn⟩
      have ht:t ∈ zipT W.bars k:=ht
      unfold zipT at ht
      rw [<- List.map_uncurry_zip_eq_zipWith] at ht
      obtain ⟨⟨b,d⟩,hx,rfl⟩:=List.mem_map.mp ht
      exact hk d (List.of_mem_zip hx).2
    · exact h
theorem okN.flip (h:okN W) {t:Nat × Nat × Nat}:okN (u_flip W t):=by
  unfold u_flip
  split
  · rename_i hc
    have hm:=List.contains_iff_mem.mp hc
    split
    · exact h
    · rename_i hc2
      have ho:¬ oth t ∈ W.ties:=fun z=>hc2 (List.contains_iff_mem.mpr z)
      refine ⟨h.m1,h.m5,h.n1,h.n5,h.bi,h.bn,fun x hx=>?_,fun x hx=>?_,?_⟩
      · obtain ⟨y,hy,rfl⟩:=List.mem_map.mp hx
        split
        · exact h.ti t hm
        · exact h.ti y hy
      · obtain ⟨y,hy,rfl⟩:=List.mem_map.mp hx
        split
        · show 1 - t.2.2 <= 1; omega
        · exact h.t1 y hy
      · refine List.Pairwise.map _ (R:=fun a b=>a ≠ b /\ a ∈ W.ties /\ b ∈ W.ties) (fun a b ⟨h1,h2,h3⟩ e=>?_) (List.Pairwise.imp_of_mem (fun {a b} ha hb hab=>⟨hab,ha,hb⟩) h.tn)
        split at e <;> split at e
        · rename_i z1 z2; exact h1 (z1.trans z2.symm)
        · exact ho (e ▸ h3)
        · exact ho (e ▸ h2)
        · exact h1 e
  · exact h
end
end L2.FF
end
section
namespace L2.FF
open PySem Su125Neutral
section
variable {W:WD} {i j k l s d:Nat}
theorem all_of (cs ns:List Nat) (h:¬ (⟨cs.toArray⟩:Str) = Str.ofString "w"):allThere W ⟨cs.toArray⟩ ns = ((cs.zip ns).map fun p=>there W p.1 p.2).all id:=by
  unfold allThere
  rw [if_neg (by rw [decide_eq_false h]; decide)]
theorem all_ij:allThere W (Str.ofString "ij") [i,j] = (decide (i < W.m) && decide (j < W.n)):=by
  rw [show Str.ofString "ij" = ⟨[105,106].toArray⟩ from rfl,all_of _ _ (by decide +kernel)]
  show (decide (i < W.m) && (decide (j < W.n) && true)) = _
  rw [Bool.and_true]
theorem all_ijkl:allThere W (Str.ofString "ijkl") [i,j,k,l] = (decide (i < W.m) && decide (j < W.n) && (decide (k < W.m) && decide (l < W.n))):=by
  rw [show Str.ofString "ijkl" = ⟨[105,106,107,108].toArray⟩ from rfl,all_of _ _ (by decide +kernel)]
  show (decide (i < W.m) && (decide (j < W.n) && (decide (k < W.m) && (decide (l < W.n) && true)))) = _
  rw [Bool.and_true,Bool.and_assoc]
theorem all_ijd:allThere W (Str.ofString "ijd") [i,j,d] = (decide (i < W.m) && (decide (j < W.n) && decide (d < 2))):=by
  rw [show Str.ofString "ijd" = ⟨[105,106,100].toArray⟩ from rfl,all_of _ _ (by decide +kernel)]
  show (decide (i < W.m) && (decide (j < W.n) && (decide (d < 2) && true))) = _
  rw [Bool.and_true]
theorem all_s:allThere W (Str.ofString "s") [s] = decide (s < W.m + W.n):=by
  rw [show Str.ofString "s" = ⟨[115].toArray⟩ from rfl,all_of _ _ (by decide +kernel)]
  show (decide (s < W.m + W.n) && true) = _
  rw [Bool.and_true]
theorem all_i:allThere W (Str.ofString "i") [i] = decide (i < W.m):=by
  rw [show Str.ofString "i" = ⟨[105].toArray⟩ from rfl,all_of _ _ (by decide +kernel)]
  show (decide (i < W.m) && true) = _
  rw [Bool.and_true]
theorem all_j:allThere W (Str.ofString "j") [j] = decide (j < W.n):=by
  rw [show Str.ofString "j" = ⟨[106].toArray⟩ from rfl,all_of _ _ (by decide +kernel)]
  show (decide (j < W.n) && true) = _
  rw [Bool.and_true]
theorem all_none:allThere W (Str.ofString "") [] = true:=by
  rw [show Str.ofString "" = ⟨([]:List Nat).toArray⟩ from rfl,all_of _ _ (by decide +kernel)]
  rfl
theorem all_w {way:List Nat}:allThere W (Str.ofString "w") way = true:=by
  unfold allThere; rw [if_pos (by decide +kernel)]
theorem isS3:(A3 W.m W.n W.bars).isS i j = (decide (i < W.m) && decide (j < W.n)):=rfl
theorem isS4:(A4 W.m W.n W.ties).isS i j d = (decide (i < W.m) && (decide (j < W.n) && decide (d < 2))):=by
  show (decide (i < W.m) && (decide (j < W.n) && decide (d <= 1))) = _
  congr 2
  exact decide_eq_decide.mpr (by omega)
theorem n1 (h:allThere W (Str.ofString "ij") [i,j] = false):step (some (absW W)) (rowC (1,[i,j])) = (some (absW W),[-2]):=by
  rw [step_bar call_1 rfl,barsW,show Su123.does (A3 W.m W.n W.bars) (.brace i j) = (A3 W.m W.n W.bars,Su123.no (-2)) from if_pos (by rw [isS3,<- all_ij]; exact h)]; rfl
theorem n2 (h:allThere W (Str.ofString "ij") [i,j] = false):step (some (absW W)) (rowC (2,[i,j])) = (some (absW W),[-2]):=by
  rw [step_bar call_2 rfl,barsW,show Su123.does (A3 W.m W.n W.bars) (.free i j) = (A3 W.m W.n W.bars,Su123.no (-2)) from if_pos (by rw [isS3,<- all_ij]; exact h)]; rfl
theorem n6 (h:allThere W (Str.ofString "ij") [i,j] = false):step (some (absW W)) (rowC (6,[i,j])) = (some (absW W),[-2]):=by
  rw [step_bar call_6 rfl,barsW,show Su123.does (A3 W.m W.n W.bars) (.still i j) = (A3 W.m W.n W.bars,Su123.no (-2)) from if_pos (by rw [isS3,<- all_ij]; exact h)]; rfl
theorem n9 (h:allThere W (Str.ofString "ij") [i,j] = false):step (some (absW W)) (rowC (9,[i,j])) = (some (absW W),[-2]):=by
  rw [step_bar call_9 rfl,barsW,show Su123.does (A3 W.m W.n W.bars) (.spare i j) = (A3 W.m W.n W.bars,Su123.no (-2)) from if_pos (by rw [isS3,<- all_ij]; exact h)]; rfl
theorem n14 (h:allThere W (Str.ofString "ij") [i,j] = false):step (some (absW W)) (rowC (14,[i,j])) = (some (absW W),[-2]):=by
  rw [step_bar call_14 rfl,barsW,show Su123.does (A3 W.m W.n W.bars) (.falls i j) = (A3 W.m W.n W.bars,Su123.no (-2)) from if_pos (by rw [isS3,<- all_ij]; exact h)]; rfl
theorem n15 (h:allThere W (Str.ofString "ij") [i,j] = false):step (some (absW W)) (rowC (15,[i,j])) = (some (absW W),[-2]):=by
  rw [step_bar call_15 rfl,barsW,show Su123.does (A3 W.m W.n W.bars) (.would i j) = (A3 W.m W.n W.bars,Su123.no (-2)) from if_pos (by rw [isS3,<- all_ij]; exact h)]; rfl
theorem n8 (h:allThere W (Str.ofString "ijkl") [i,j,k,l] = false):step (some (absW W)) (rowC (8,[i,j,k,l])) = (some (absW W),[-2]):=by
  rw [step_bar call_8 rfl,barsW,show Su123.does (A3 W.m W.n W.bars) (.alike i j k l) = (A3 W.m W.n W.bars,Su123.no (-2)) from if_pos (by rw [isS3,isS3]; rw [all_ijkl,Bool.and_eq_false_iff] at h; exact h)]; rfl
theorem n5 (h:allThere W (Str.ofString "s") [s] = false):step (some (absW W)) (rowC (5,[s])) = (some (absW W),[-2]):=by
  rw [step_bar call_5 rfl,barsW,show Su123.does (A3 W.m W.n W.bars) (.part s) = (A3 W.m W.n W.bars,Su123.no (-2)) from if_pos (by rw [all_s,decide_eq_false_iff_not] at h; exact Nat.le_of_not_lt h)]; rfl
theorem n18 (h:allThere W (Str.ofString "i") [i] = false):step (some (absW W)) (rowC (18,[i])) = (some (absW W),[-2]):=by
  rw [step_bar call_18 rfl,barsW,show Su123.does (A3 W.m W.n W.bars) (.row i) = (A3 W.m W.n W.bars,Su123.no (-2)) from if_pos (by rw [all_i,decide_eq_false_iff_not] at h; exact Nat.le_of_not_lt h)]; rfl
theorem n19 (h:allThere W (Str.ofString "j") [j] = false):step (some (absW W)) (rowC (19,[j])) = (some (absW W),[-2]):=by
  rw [step_bar call_19 rfl,barsW,show Su123.does (A3 W.m W.n W.bars) (.column j) = (A3 W.m W.n W.bars,Su123.no (-2)) from if_pos (by rw [all_j,decide_eq_false_iff_not] at h; exact Nat.le_of_not_lt h)]; rfl
theorem n20 (h:allThere W (Str.ofString "ijd") [i,j,d] = false):step (some (absW W)) (rowC (20,[i,j,d])) = (some (absW W),[-2]):=by
  rw [step_tie call_20 rfl,tiesW,show Su124.does (A4 W.m W.n W.ties) (.tie i j d) = (A4 W.m W.n W.ties,Su124.no (-2)) from if_pos (by rw [isS4,<- all_ijd]; exact h)]; rfl
theorem n21 (h:allThere W (Str.ofString "ijd") [i,j,d] = false):step (some (absW W)) (rowC (21,[i,j,d])) = (some (absW W),[-2]):=by
  rw [step_tie call_21 rfl,tiesW,show Su124.does (A4 W.m W.n W.ties) (.free i j d) = (A4 W.m W.n W.ties,Su124.no (-2)) from if_pos (by rw [isS4,<- all_ijd]; exact h)]; rfl
theorem n27 (h:allThere W (Str.ofString "ijd") [i,j,d] = false):step (some (absW W)) (rowC (27,[i,j,d])) = (some (absW W),[-2]):=by
  rw [step_tie call_27 rfl,tiesW,show Su124.does (A4 W.m W.n W.ties) (.leans i j d) = (A4 W.m W.n W.ties,Su124.no (-2)) from if_pos (by rw [isS4,<- all_ijd]; exact h)]; rfl
theorem n29 (h:allThere W (Str.ofString "ijd") [i,j,d] = false):step (some (absW W)) (rowC (29,[i,j,d])) = (some (absW W),[-2]):=by
  rw [step_tie call_29 rfl,tiesW,show Su124.does (A4 W.m W.n W.ties) (.lean i j d) = (A4 W.m W.n W.ties,Su124.no (-2)) from if_pos (by rw [isS4,<- all_ijd]; exact h)]; rfl
theorem n31 (h:allThere W (Str.ofString "ijd") [i,j,d] = false):step (some (absW W)) (rowC (31,[i,j,d])) = (some (absW W),[-2]):=by
  rw [step_tie call_31 rfl,tiesW,show Su124.does (A4 W.m W.n W.ties) (.spare i j d) = (A4 W.m W.n W.ties,Su124.no (-2)) from if_pos (by rw [isS4,<- all_ijd]; exact h)]; rfl
theorem n34 (h:allThere W (Str.ofString "ijd") [i,j,d] = false):step (some (absW W)) (rowC (34,[i,j,d])) = (some (absW W),[-2]):=by
  rw [step_tie call_34 rfl,tiesW,show Su124.does (A4 W.m W.n W.ties) (.would i j d) = (A4 W.m W.n W.ties,Su124.no (-2)) from if_pos (by rw [isS4,<- all_ijd]; exact h)]; rfl
theorem n35 (h:allThere W (Str.ofString "ijd") [i,j,d] = false):step (some (absW W)) (rowC (35,[i,j,d])) = (some (absW W),[-2]):=by
  rw [step_tie call_35 rfl,tiesW,show Su124.does (A4 W.m W.n W.ties) (.falls i j d) = (A4 W.m W.n W.ties,Su124.no (-2)) from if_pos (by rw [isS4,<- all_ijd]; exact h)]; rfl
theorem n37 (h:allThere W (Str.ofString "ijd") [i,j,d] = false):step (some (absW W)) (rowC (37,[i,j,d])) = (some (absW W),[-2]):=by
  rw [step_tie call_37 rfl,tiesW,show Su124.does (A4 W.m W.n W.ties) (.flip i j d) = (A4 W.m W.n W.ties,Su124.no (-2)) from if_pos (by rw [isS4,<- all_ijd]; exact h)]; rfl
theorem n23 (h:allThere W (Str.ofString "s") [s] = false):step (some (absW W)) (rowC (23,[s])) = (some (absW W),[-2]):=by
  rw [step_tie call_23 rfl,tiesW,show Su124.does (A4 W.m W.n W.ties) (.reach s) = (A4 W.m W.n W.ties,Su124.no (-2)) from if_pos (by rw [all_s,decide_eq_false_iff_not] at h; exact Nat.le_of_not_lt h)]; rfl
theorem n24 (h:allThere W (Str.ofString "s") [s] = false):step (some (absW W)) (rowC (24,[s])) = (some (absW W),[-2]):=by
  rw [step_tie call_24 rfl,tiesW,show Su124.does (A4 W.m W.n W.ties) (.part s) = (A4 W.m W.n W.ties,Su124.no (-2)) from if_pos (by rw [all_s,decide_eq_false_iff_not] at h; exact Nat.le_of_not_lt h)]; rfl
theorem n36 (h:allThere W (Str.ofString "ij") [i,j] = false):step (some (absW W)) (rowC (36,[i,j])) = (some (absW W),[-2]):=by
  rw [step_tie call_36 rfl,tiesW,show Su124.does (A4 W.m W.n W.ties) (.stiff i j) = (A4 W.m W.n W.ties,Su124.no (-2)) from if_pos (by rw [isS4,decide_eq_true (show 0 < 2 by decide),Bool.and_true,<- all_ij]; exact h)]; rfl
theorem n44 (h:allThere W (Str.ofString "ijd") [i,j,d] = false):step (some (absW W)) (rowC (44,[i,j,d])) = (some (absW W),[-2]):=by
  rw [step_other call_44,show Su125.does (absW W) (.mixedLeans i j d) = (absW W,Su125.no (-2)) from if_pos (by rw [tiesW,isS4,<- all_ijd]; exact h)]; rfl
theorem n45 (h:allThere W (Str.ofString "s") [s] = false):step (some (absW W)) (rowC (45,[s])) = (some (absW W),[-2]):=by
  rw [step_other call_45,show Su125.does (absW W) (.mixedPart s) = (absW W,Su125.no (-2)) from if_pos (by rw [all_s,decide_eq_false_iff_not] at h; exact Nat.le_of_not_lt h)]; rfl
end
end L2.FF
end
section
namespace L2.FF
open PySem Su125Neutral
def r_brace (W:WD) (b:Nat × Nat):List Int:=if W.bars.contains b then [-17] else [(sh W.m W.n (W.bars ++ [b]):Nat)]
def u_brace (W:WD) (b:Nat × Nat):WD:=if W.bars.contains b then W else { W with bars:=W.bars ++ [b] }
def r_free (W:WD) (b:Nat × Nat):List Int:=if W.bars.contains b then [(sh W.m W.n (wo W.bars b):Nat)] else [-6]
def u_free (W:WD) (b:Nat × Nat):WD:=if W.bars.contains b then { W with bars:=wo W.bars b } else W
def r_tie (W:WD) (t:Nat × Nat × Nat):List Int:=if W.ties.contains t then [-17] else [(tp W.m W.n (W.ties ++ [t]):Nat)]
def u_tie (W:WD) (t:Nat × Nat × Nat):WD:=if W.ties.contains t then W else { W with ties:=W.ties ++ [t] }
def r_untie (W:WD) (t:Nat × Nat × Nat):List Int:=if W.ties.contains t then [(tp W.m W.n (wo3 W.ties t):Nat)] else [-6]
def u_untie (W:WD) (t:Nat × Nat × Nat):WD:=if W.ties.contains t then { W with ties:=wo3 W.ties t } else W
def anC (k:Nat) (ns:List Nat) (W:WD):List Int:=match k with
  | 1=>r_brace W (ns.getD 0 0,ns.getD 1 0)
  | 2=>r_free W (ns.getD 0 0,ns.getD 1 0)
  | 3=>r_firm W
  | 4=>cnt (bf W.m W.n W.bars)
  | 5=>cnt (r_part W (ns.getD 0 0))
  | 6=>[if ka W.m (bf W.m W.n W.bars) (ns.getD 0 0,ns.getD 1 0) then 1 else 0]
  | 7=>r_stills W
  | 8=>[r_alike W (ns.getD 0 0) (ns.getD 1 0) (ns.getD 2 0) (ns.getD 3 0)]
  | 9=>r_spare W (ns.getD 0 0,ns.getD 1 0)
  | 10=>flat2 (W.bars.filter fun b=>isp W.m W.n W.bars b)
  | 11=>flat2 (putM W.m W.n W.bars)
  | 12=>flat2 (thinM W.m W.n W.bars)
  | 13=>r_turn W ns
  | 14=>r_falls W (ns.getD 0 0,ns.getD 1 0)
  | 15=>r_would W (ns.getD 0 0,ns.getD 1 0)
  | 16=>[((W.m + W.n - 1:Nat):Int),(W.bars.length:Int) - (((W.m + W.n:Nat):Int) - (pcount (bf W.m W.n W.bars):Nat))]
  | 17=>flat2 W.bars
  | 18=>cnt ((List.range W.n).filter fun j=>W.bars.contains (ns.getD 0 0,j))
  | 19=>cnt ((List.range W.m).filter fun i=>W.bars.contains (i,ns.getD 0 0))
  | 20=>r_tie W (ns.getD 0 0,ns.getD 1 0,ns.getD 2 0)
  | 21=>r_untie W (ns.getD 0 0,ns.getD 1 0,ns.getD 2 0)
  | 22=>r_tfirm W
  | 23=>cnt (rch W.tb (ns.getD 0 0))
  | 24=>cnt (tog W.tb (ns.getD 0 0))
  | 25=>cnt (tfT W.tb)
  | 26=>r_ends W
  | 27=>[bi (mlean W.m W.tb (ns.getD 0 0,ns.getD 1 0,ns.getD 2 0))]
  | 28=>r_tall W
  | 29=>r_lean W (ns.getD 0 0,ns.getD 1 0,ns.getD 2 0)
  | 30=>r_tturn W ns
  | 31=>r_tspare W (ns.getD 0 0,ns.getD 1 0,ns.getD 2 0)
  | 32=>flat3 (W.ties.filter fun t=>spT W t)
  | 33=>r_tput W
  | 34=>r_twould W (ns.getD 0 0,ns.getD 1 0,ns.getD 2 0)
  | 35=>r_tfalls W (ns.getD 0 0,ns.getD 1 0,ns.getD 2 0)
  | 36=>r_stiff W (ns.getD 0 0,ns.getD 1 0)
  | 37=>r_flip W (ns.getD 0 0,ns.getD 1 0,ns.getD 2 0)
  | 38=>flat3 W.ties
  | 39=>[((two W.bars).length:Int),(tp W.m W.n (two W.bars):Nat)]
  | 40=>r_single W
  | 41=>r_can W
  | 42=>flat2 (needB W)
  | 43=>r_mixed W
  | 44=>[bi (mlean W.m (mtb W) (ns.getD 0 0,ns.getD 1 0,ns.getD 2 0))]
  | 45=>cnt (tog (mtb W) (ns.getD 0 0))
  | 46=>flat2 (idlB W)
  | 47=>[(W.ties.length:Int)]
  | 48=>r_change W
  | 49=>[(W.bars.length:Int),(W.ties.length:Int),((W.m + W.n:Nat):Int)]
  | 50=>[(W.m:Int),(W.n:Int),(W.bars.length:Int),(W.ties.length:Int)]
  | _=>[]
def upC (k:Nat) (ns:List Nat) (W:WD):WD:=match k with
  | 1=>u_brace W (ns.getD 0 0,ns.getD 1 0)
  | 2=>u_free W (ns.getD 0 0,ns.getD 1 0)
  | 20=>u_tie W (ns.getD 0 0,ns.getD 1 0,ns.getD 2 0)
  | 21=>u_untie W (ns.getD 0 0,ns.getD 1 0,ns.getD 2 0)
  | 37=>u_flip W (ns.getD 0 0,ns.getD 1 0,ns.getD 2 0)
  | 39=>{ W with ties:=two W.bars }
  | 40=>u_single W
  | 47=>{ W with ties:=[] }
  | _=>W
theorem okN.okW {W:WD} (h:okN W):okW W:=⟨⟨h.m1,h.m5,h.n1,h.n5⟩,⟨by have:=h.bl; omega,h.bi⟩,⟨by have:=h.tl; omega,fun t ht=>⟨(h.ti t ht).1,(h.ti t ht).2,h.t1 t ht⟩⟩⟩
structure okC (k:Nat) (ns:List Nat) (W:WD):Prop where
  n:okN W
  wf:wfS (k,ns)
  all:allThere W (argX.getD k "") ns = true
section
variable {k:Nat} {ns:List Nat} {W:WD}
theorem okC.w (h:okC k ns W):okW W:=h.n.okW
theorem okC.sum (h:okC k ns W):2 <= W.m + W.n /\ W.m + W.n <= 10:=h.w.1.sum
theorem wf_len' {n:Nat} (h:wfS (k,ns)) (hs:shp[k]? = some (n,0)):ns.length = n:=by
  obtain ⟨q,hq,hc,_⟩:=h
  cases hq.symm.trans hs
  rcases hc with ⟨z,_⟩ | ⟨_,z⟩
  · cases z
  · exact z
theorem wf0 (h:wfS (k,ns)) (hs:shp[k]? = some (0,0)):ns = []:=List.length_eq_zero_iff.mp (wf_len' h hs)
theorem wf1 (h:wfS (k,ns)) (hs:shp[k]? = some (1,0)):∃ i,ns = [i]:=l1 (wf_len' h hs)
theorem wf2 (h:wfS (k,ns)) (hs:shp[k]? = some (2,0)):∃ i j,ns = [i,j]:=l2 (wf_len' h hs)
theorem wf3 (h:wfS (k,ns)) (hs:shp[k]? = some (3,0)):∃ i j d,ns = [i,j,d]:=l3 (wf_len' h hs)
theorem wf4 (h:wfS (k,ns)) (hs:shp[k]? = some (4,0)):∃ i j k l,ns = [i,j,k,l]:=l4 (wf_len' h hs)
theorem wfW (h:wfS (k,ns)) (hs:shp[k]? = some (0,1)):ns.length <= 12:=by
  obtain ⟨q,hq,hc,_⟩:=h
  cases hq.symm.trans hs
  rcases hc with ⟨_,z⟩ | ⟨z,_⟩
  · exact z
  · cases z
theorem ok0 (h:okC k ns W) (hs:shp[k]? = some (0,0)):ns = []:=wf0 h.wf hs
theorem oks (h:okC k ns W) (hs:shp[k]? = some (1,0)) (hx:argX.getD k "" = Str.ofString "s"):∃ s,ns = [s] /\ s < W.m + W.n:=by
  obtain ⟨s,rfl⟩:=wf1 h.wf hs
  have:=h.all
  rw [hx,all_s] at this
  exact ⟨s,rfl,of_decide_eq_true this⟩
theorem oki (h:okC k ns W) (hs:shp[k]? = some (1,0)) (hx:argX.getD k "" = Str.ofString "i"):∃ s,ns = [s] /\ s < W.m:=by
  obtain ⟨s,rfl⟩:=wf1 h.wf hs
  have:=h.all
  rw [hx,all_i] at this
  exact ⟨s,rfl,of_decide_eq_true this⟩
theorem okj (h:okC k ns W) (hs:shp[k]? = some (1,0)) (hx:argX.getD k "" = Str.ofString "j"):∃ s,ns = [s] /\ s < W.n:=by
  obtain ⟨s,rfl⟩:=wf1 h.wf hs
  have:=h.all
  rw [hx,all_j] at this
  exact ⟨s,rfl,of_decide_eq_true this⟩
theorem okij (h:okC k ns W) (hs:shp[k]? = some (2,0)) (hx:argX.getD k "" = Str.ofString "ij"):∃ i j,ns = [i,j] /\ i < W.m /\ j < W.n:=by
  obtain ⟨i,j,rfl⟩:=wf2 h.wf hs
  have:=h.all
  rw [hx,all_ij,Bool.and_eq_true,decide_eq_true_eq,decide_eq_true_eq] at this
  exact ⟨i,j,rfl,this⟩
theorem okijd (h:okC k ns W) (hs:shp[k]? = some (3,0)) (hx:argX.getD k "" = Str.ofString "ijd"):∃ i j d,ns = [i,j,d] /\ i < W.m /\ j < W.n /\ d <= 1:=by
  obtain ⟨i,j,d,rfl⟩:=wf3 h.wf hs
  have:=h.all
  rw [hx,all_ijd,Bool.and_eq_true,Bool.and_eq_true,decide_eq_true_eq,decide_eq_true_eq,decide_eq_true_eq] at this
  exact ⟨i,j,d,rfl,this.1,this.2.1,by omega⟩
theorem okijkl (h:okC k ns W) (hs:shp[k]? = some (4,0)) (hx:argX.getD k "" = Str.ofString "ijkl"):∃ i j k l,ns = [i,j,k,l] /\ i < W.m /\ j < W.n /\ k < W.m /\ l < W.n:=by
  obtain ⟨i,j,k,l,rfl⟩:=wf4 h.wf hs
  have:=h.all
  rw [hx,all_ijkl,Bool.and_eq_true,Bool.and_eq_true,Bool.and_eq_true,decide_eq_true_eq,decide_eq_true_eq,decide_eq_true_eq,decide_eq_true_eq] at this
  exact ⟨i,j,k,l,rfl,this.1.1,this.1.2,this.2.1,this.2.2⟩
end
theorem cnt_len (xs:List Nat):(cnt xs).length = xs.length + 1:=by unfold cnt; rw [List.length_cons,List.length_map]
theorem flat2_len:∀ xs:List (Nat × Nat),(flat2 xs).length = 2 * xs.length + 1
  | []=>rfl
  | x :: r=>by
    have:=flat2_len r
    unfold flat2 at this ⊢
    rw [List.length_cons] at this ⊢
    rw [List.map_cons,List.flatten_cons,List.length_append,List.length_cons (as:=r),show (e2 x).length = 2 from rfl]
    omega
theorem flat3_len:∀ xs:List (Nat × Nat × Nat),(flat3 xs).length = 3 * xs.length + 1
  | []=>rfl
  | x :: r=>by
    have:=flat3_len r
    unfold flat3 at this ⊢
    rw [List.length_cons] at this ⊢
    rw [List.map_cons,List.flatten_cons,List.length_append,List.length_cons (as:=r),show (e3 x).length = 3 from rfl]
    omega
theorem cn {xs:List Nat} (h:xs.length <= 100):(cnt xs).length <= 1000:=by rw [cnt_len]; omega
theorem fl2 {xs:List (Nat × Nat)} (h:xs.length <= 100):(flat2 xs).length <= 1000:=by rw [flat2_len]; omega
theorem fl3 {xs:List (Nat × Nat × Nat)} (h:xs.length <= 100):(flat3 xs).length <= 1000:=by rw [flat3_len]; omega
theorem tb_len {W:WD}:W.tb.length = W.m + W.n:=tt_len _ _ _
theorem putM_le {W:WD} (h:sizeOk W):(putM W.m W.n W.bars).length <= 25:=by
  have h3:=putS_len2 W.m (sqs W.m W.n) (bf W.m W.n W.bars,[])
  have h4:=h.sqs
  simp at h3
  exact Nat.le_trans h3 h4
theorem led_le {k:Nat} {ns:List Nat} {W:WD} (h:okC k ns W):(eled W.tb).length <= 10 /\ (sled W.tb).length <= 10:=by
  have a:=pled_le W.tb
  have b:=tb_len (W:=W)
  have c:=h.sum
  exact ⟨Nat.le_trans (List.length_filter_le _ _) (by omega),Nat.le_trans (List.length_filter_le _ _) (by omega)⟩
theorem tput_le {W:WD} {s:List (Nat × Nat × Nat)} (h:tputO W = some s):s.length <= 5:=by
  obtain ⟨l1,a,l2,e,h2,_⟩:=List.findSome?_eq_some_iff.mp h
  have:a ∈ List.range 5:=by rw [e]; exact List.mem_append.mpr (.inr List.mem_cons_self)
  have:=List.mem_range.mp this
  rw [fset_len h2]; omega
def PosF (k:Nat) (ns:List Nat) (W:WD):Prop:=step (some (absW W)) (rowC (k,ns)) = (some (absW (upC k ns W)),anC k ns W) /\ okN (upC k ns W) /\ (anC k ns W).length <= 1000
def NegF (k:Nat) (ns:List Nat) (W:WD):Prop:=step (some (absW W)) (rowC (k,ns)) = (some (absW W),[-2])
structure CallFact (k:Nat):Prop where
  call:∀ ns,wfS (k,ns) -> ∃ c,callOf (rowC (k,ns)) = some c /\ ∀ m n,c ≠ .begin_ m n
  neg:∀ ns W,wfS (k,ns) -> allThere W (argX.getD k "") ns = false -> NegF k ns W
  pos:∀ ns W,okC k ns W -> PosF k ns W
section
variable {k:Nat}
def nb (c:Su125.Call):Prop:=match c with
  | .begin_ _ _=>False
  | _=>True
theorem nb_ne {c:Su125.Call} (h:nb c) (m n:Nat):c ≠ .begin_ m n:=fun z=>by rw [z] at h; exact h
theorem cf0 {c:Su125.Call} (hs:shp[k]? = some (0,0)) (hx:argX.getD k "" = Str.ofString "") (hc:callOf (rowC (k,[])) = some c) (hb:nb c) (hp:∀ W,okC k [] W -> PosF k [] W):CallFact k where
  call:=fun ns h=>by obtain rfl:=wf0 h hs; exact ⟨c,hc,nb_ne hb⟩
  neg:=fun ns W h a=>by obtain rfl:=wf0 h hs; rw [hx,all_none] at a; cases a
  pos:=fun ns W h=>by obtain rfl:=wf0 h.wf hs; exact hp W h
theorem cfw {c:List Nat -> Su125.Call} (hs:shp[k]? = some (0,1)) (hx:argX.getD k "" = Str.ofString "w") (hc:∀ ns,callOf (rowC (k,ns)) = some (c ns)) (hb:∀ ns,nb (c ns)) (hp:∀ ns W,okC k ns W -> PosF k ns W):CallFact k where
  call:=fun ns h=>⟨c ns,hc ns,nb_ne (hb ns)⟩
  neg:=fun ns W h a=>by rw [hx,all_w] at a; cases a
  pos:=hp
theorem cf1 {c:Nat -> Su125.Call} (hs:shp[k]? = some (1,0)) (hc:∀ i,callOf (rowC (k,[i])) = some (c i)) (hb:∀ i,nb (c i)) (hn:∀ i W,allThere W (argX.getD k "") [i] = false -> NegF k [i] W) (hp:∀ i W,okC k [i] W -> PosF k [i] W):CallFact k where
  call:=fun ns h=>by obtain ⟨i,rfl⟩:=wf1 h hs; exact ⟨c i,hc i,nb_ne (hb i)⟩
  neg:=fun ns W h a=>by obtain ⟨i,rfl⟩:=wf1 h hs; exact hn i W a
  pos:=fun ns W h=>by obtain ⟨i,rfl⟩:=wf1 h.wf hs; exact hp i W h
theorem cf2 {c:Nat -> Nat -> Su125.Call} (hs:shp[k]? = some (2,0)) (hx:argX.getD k "" = Str.ofString "ij") (hc:∀ i j,callOf (rowC (k,[i,j])) = some (c i j)) (hb:∀ i j,nb (c i j)) (hn:∀ i j W,allThere W (argX.getD k "") [i,j] = false -> NegF k [i,j] W) (hp:∀ i j W,okC k [i,j] W -> i < W.m -> j < W.n -> PosF k [i,j] W):CallFact k where
  call:=fun ns h=>by obtain ⟨i,j,rfl⟩:=wf2 h hs; exact ⟨c i j,hc i j,nb_ne (hb i j)⟩
  neg:=fun ns W h a=>by obtain ⟨i,j,rfl⟩:=wf2 h hs; exact hn i j W a
  pos:=fun ns W h=>by obtain ⟨i,j,rfl,h1,h2⟩:=okij h hs hx; exact hp i j W h h1 h2
theorem cf3 {c:Nat -> Nat -> Nat -> Su125.Call} (hs:shp[k]? = some (3,0)) (hx:argX.getD k "" = Str.ofString "ijd") (hc:∀ i j d,callOf (rowC (k,[i,j,d])) = some (c i j d)) (hb:∀ i j d,nb (c i j d)) (hn:∀ i j d W,allThere W (argX.getD k "") [i,j,d] = false -> NegF k [i,j,d] W) (hp:∀ i j d W,okC k [i,j,d] W -> i < W.m -> j < W.n -> d <= 1 -> PosF k [i,j,d] W):CallFact k where
  call:=fun ns h=>by obtain ⟨i,j,d,rfl⟩:=wf3 h hs; exact ⟨c i j d,hc i j d,nb_ne (hb i j d)⟩
  neg:=fun ns W h a=>by obtain ⟨i,j,d,rfl⟩:=wf3 h hs; exact hn i j d W a
  pos:=fun ns W h=>by obtain ⟨i,j,d,rfl,h1,h2,h3⟩:=okijd h hs hx; exact hp i j d W h h1 h2 h3
end
theorem fact8:CallFact 8 where
  call:=fun ns h=>by
    obtain ⟨i,j,k,l,rfl⟩:=wf4 h rfl
    exact ⟨_,call_8,fun _ _ z=>by cases z⟩
  neg:=fun ns W h a=>by
    obtain ⟨i,j,k,l,rfl⟩:=wf4 h rfl
    exact n8 a
  pos:=fun ns W h=>by
    obtain ⟨i,j,k,l,rfl,h1,h2,h3,h4⟩:=okijkl h rfl rfl
    exact ⟨s8 h.n h1 h2 h3 h4,h.n,by show 1 <= 1000; decide⟩
theorem fact1:CallFact 1:=cf2 rfl rfl (fun _ _=>call_1) (fun _ _=>trivial) (fun _ _ _=>n1) fun i j W h h1 h2=>by
    refine ⟨s1 h.n h1 h2,?_,?_⟩
    · show okN (u_brace W _); unfold u_brace; split
      · exact h.n
      · rename_i q; exact h.n.brace h1 h2 (by simpa using q)
    · show (r_brace W _).length <= 1000; unfold r_brace; split <;> exact Nat.le_of_ble_eq_true rfl
theorem fact2:CallFact 2:=cf2 rfl rfl (fun _ _=>call_2) (fun _ _=>trivial) (fun _ _ _=>n2) fun i j W h h1 h2=>by
    refine ⟨s2 h.n h1 h2,?_,?_⟩
    · show okN (u_free W _); unfold u_free; split
      · exact h.n.free
      · exact h.n
    · show (r_free W _).length <= 1000; unfold r_free; split <;> exact Nat.le_of_ble_eq_true rfl
theorem fact3:CallFact 3:=cf0 rfl rfl call_3 trivial fun W h=>⟨s3 h.n ,h.n,by show 2 <= 1000; decide⟩
theorem fact4:CallFact 4:=cf0 rfl rfl call_4 trivial fun W h=>⟨s4 h.n ,h.n,by exact cn (by have:=bf_len W.m W.n W.bars; have:=h.sum; omega)⟩
theorem fact5:CallFact 5:=cf1 rfl (fun _=>call_5) (fun _=>trivial) (fun _ _=>n5) fun s W h=>by
    obtain ⟨_,e,h1⟩:=oks h rfl rfl
    cases e
    exact ⟨s5 h.n h1,h.n,by exact cn (Nat.le_trans (List.length_filter_le _ _) (by rw [List.length_range]; have:=h.sum; have:=bf_len W.m W.n W.bars; omega))⟩
theorem fact6:CallFact 6:=cf2 rfl rfl (fun _ _=>call_6) (fun _ _=>trivial) (fun _ _ _=>n6) fun i j W h h1 h2=>⟨s6 h.n h1 h2,h.n,by show 1 <= 1000; decide⟩
theorem fact7:CallFact 7:=cf0 rfl rfl call_7 trivial fun W h=>⟨s7 h.n ,h.n,by have:=h.w.1.sqs; show (r_stills W).length <= 1000; simp [r_stills,ang]; omega⟩
theorem fact9:CallFact 9:=cf2 rfl rfl (fun _ _=>call_9) (fun _ _=>trivial) (fun _ _ _=>n9) fun i j W h h1 h2=>⟨s9 h.n h1 h2,h.n,by show (r_spare W _).length <= 1000; unfold r_spare; split <;> exact Nat.le_of_ble_eq_true rfl⟩
theorem fact10:CallFact 10:=cf0 rfl rfl call_10 trivial fun W h=>⟨s10 h.n ,h.n,by exact fl2 (Nat.le_trans (List.length_filter_le _ _) (by have:=h.n.bl; omega))⟩
theorem fact11:CallFact 11:=cf0 rfl rfl call_11 trivial fun W h=>⟨s11 h.n ,h.n,by exact fl2 (by have:=putM_le h.w.1; omega)⟩
theorem fact12:CallFact 12:=cf0 rfl rfl call_12 trivial fun W h=>⟨s12 h.n ,h.n,by exact fl2 (thin_in (W:=W) (m:=W.m) (n:=W.n) W.bars.reverse h.w.2.1).1⟩
theorem fact13:CallFact 13:=cfw rfl rfl call_13 (fun _=>trivial) fun ns W h=>⟨s13 h.n ns,h.n,by show (r_turn W _).length <= 1000; unfold r_turn; split <;> exact Nat.le_of_ble_eq_true rfl⟩
theorem fact14:CallFact 14:=cf2 rfl rfl (fun _ _=>call_14) (fun _ _=>trivial) (fun _ _ _=>n14) fun i j W h h1 h2=>⟨s14 h.n h1 h2,h.n,by show (r_falls W _).length <= 1000; unfold r_falls; split <;> exact Nat.le_of_ble_eq_true rfl⟩
theorem fact15:CallFact 15:=cf2 rfl rfl (fun _ _=>call_15) (fun _ _=>trivial) (fun _ _ _=>n15) fun i j W h h1 h2=>⟨s15 h.n h1 h2,h.n,by show (r_would W _).length <= 1000; unfold r_would; split <;> exact Nat.le_of_ble_eq_true rfl⟩
theorem fact16:CallFact 16:=cf0 rfl rfl call_16 trivial fun W h=>⟨s16 h.n ,h.n,by show 2 <= 1000; decide⟩
theorem fact17:CallFact 17:=cf0 rfl rfl call_17 trivial fun W h=>⟨s17 ,h.n,by exact fl2 (by have:=h.n.bl; omega)⟩
theorem fact18:CallFact 18:=cf1 rfl (fun _=>call_18) (fun _=>trivial) (fun _ _=>n18) fun s W h=>by
    obtain ⟨_,e,h1⟩:=oki h rfl rfl
    cases e
    exact ⟨s18 h1,h.n,by exact cn (Nat.le_trans (List.length_filter_le _ _) (by rw [List.length_range]; have:=h.sum; omega))⟩
theorem fact19:CallFact 19:=cf1 rfl (fun _=>call_19) (fun _=>trivial) (fun _ _=>n19) fun s W h=>by
    obtain ⟨_,e,h1⟩:=okj h rfl rfl
    cases e
    exact ⟨s19 h1,h.n,by exact cn (Nat.le_trans (List.length_filter_le _ _) (by rw [List.length_range]; have:=h.sum; omega))⟩
theorem fact20:CallFact 20:=cf3 rfl rfl (fun _ _ _=>call_20) (fun _ _ _=>trivial) (fun _ _ _ _=>n20) fun i j d W h h1 h2 h3=>by
    refine ⟨s20 h.n h1 h2 h3,?_,?_⟩
    · show okN (u_tie W _); unfold u_tie; split
      · exact h.n
      · rename_i q; exact h.n.tie h1 h2 h3 (by simpa using q)
    · show (r_tie W _).length <= 1000; unfold r_tie; split <;> exact Nat.le_of_ble_eq_true rfl
theorem fact21:CallFact 21:=cf3 rfl rfl (fun _ _ _=>call_21) (fun _ _ _=>trivial) (fun _ _ _ _=>n21) fun i j d W h h1 h2 h3=>by
    refine ⟨s21 h.n h1 h2 h3,?_,?_⟩
    · show okN (u_untie W _); unfold u_untie; split
      · exact h.n.untie
      · exact h.n
    · show (r_untie W _).length <= 1000; unfold r_untie; split <;> exact Nat.le_of_ble_eq_true rfl
theorem fact22:CallFact 22:=cf0 rfl rfl call_22 trivial fun W h=>⟨s22 h.n ,h.n,by show 2 <= 1000; decide⟩
theorem fact23:CallFact 23:=cf1 rfl (fun _=>call_23) (fun _=>trivial) (fun _ _=>n23) fun s W h=>by
    obtain ⟨_,e,h1⟩:=oks h rfl rfl
    cases e
    exact ⟨s23 h.n h1,h.n,by exact cn (Nat.le_trans (List.length_filter_le _ _) (by rw [List.length_range]; have:=h.sum; have:=tb_len (W:=W); omega))⟩
theorem fact24:CallFact 24:=cf1 rfl (fun _=>call_24) (fun _=>trivial) (fun _ _=>n24) fun s W h=>by
    obtain ⟨_,e,h1⟩:=oks h rfl rfl
    cases e
    exact ⟨s24 h.n h1,h.n,by exact cn (Nat.le_trans (List.length_filter_le _ _) (by rw [List.length_range]; have:=h.sum; have:=tb_len (W:=W); omega))⟩
theorem fact25:CallFact 25:=cf0 rfl rfl call_25 trivial fun W h=>⟨s25 h.n ,h.n,by exact cn (by have:=tfT_len W.tb; have:=tb_len (W:=W); have:=h.sum; omega)⟩
theorem fact26:CallFact 26:=cf0 rfl rfl call_26 trivial fun W h=>⟨s26 h.n ,h.n,by show (r_ends W).length <= 1000; have:=led_le h; simp [r_ends,ci]; omega⟩
theorem fact27:CallFact 27:=cf3 rfl rfl (fun _ _ _=>call_27) (fun _ _ _=>trivial) (fun _ _ _ _=>n27) fun i j d W h h1 h2 h3=>⟨s27 h.n h1 h2 h3,h.n,by show 1 <= 1000; decide⟩
theorem fact28:CallFact 28:=cf0 rfl rfl call_28 trivial fun W h=>⟨s28 h.n ,h.n,by have:=h.w.1.sqs; show (r_tall W).length <= 1000; simp [r_tall,ci,alean,two_len]; omega⟩
theorem fact29:CallFact 29:=cf3 rfl rfl (fun _ _ _=>call_29) (fun _ _ _=>trivial) (fun _ _ _ _=>n29) fun i j d W h h1 h2 h3=>by
    refine ⟨s29 h.n h1 h2 h3,?_,?_⟩
    · exact h.n
    · show (r_lean W _).length <= 1000; unfold r_lean; split
      · exact cn (by rw [List.length_map,List.length_range]; have:=h.sum; have:=tb_len (W:=W); omega)
      · exact Nat.le_of_ble_eq_true rfl
theorem fact30:CallFact 30:=cfw rfl rfl call_30 (fun _=>trivial) fun ns W h=>⟨s30 h.n ns,h.n,by show (r_tturn W _).length <= 1000; unfold r_tturn; split <;> exact Nat.le_of_ble_eq_true rfl⟩
theorem fact31:CallFact 31:=cf3 rfl rfl (fun _ _ _=>call_31) (fun _ _ _=>trivial) (fun _ _ _ _=>n31) fun i j d W h h1 h2 h3=>⟨s31 h.n h1 h2 h3,h.n,by show (r_tspare W _).length <= 1000; unfold r_tspare; split <;> exact Nat.le_of_ble_eq_true rfl⟩
theorem fact32:CallFact 32:=cf0 rfl rfl call_32 trivial fun W h=>⟨s32 h.n ,h.n,by exact fl3 (Nat.le_trans (List.length_filter_le _ _) (by have:=h.n.tl; omega))⟩
theorem fact33:CallFact 33:=cf0 rfl rfl call_33 trivial fun W h=>by
    refine ⟨s33 h.n ,?_,?_⟩
    · exact h.n
    · show (r_tput W).length <= 1000; unfold r_tput; split
      · exact Nat.le_of_ble_eq_true rfl
      · split
        · rename_i s e; exact fl3 (by have:=tput_le e; omega)
        · exact Nat.le_of_ble_eq_true rfl
theorem fact34:CallFact 34:=cf3 rfl rfl (fun _ _ _=>call_34) (fun _ _ _=>trivial) (fun _ _ _ _=>n34) fun i j d W h h1 h2 h3=>⟨s34 h.n h1 h2 h3,h.n,by show (r_twould W _).length <= 1000; unfold r_twould; split <;> exact Nat.le_of_ble_eq_true rfl⟩
theorem fact35:CallFact 35:=cf3 rfl rfl (fun _ _ _=>call_35) (fun _ _ _=>trivial) (fun _ _ _ _=>n35) fun i j d W h h1 h2 h3=>⟨s35 h.n h1 h2 h3,h.n,by show (r_tfalls W _).length <= 1000; unfold r_tfalls; split <;> exact Nat.le_of_ble_eq_true rfl⟩
theorem fact36:CallFact 36:=cf2 rfl rfl (fun _ _=>call_36) (fun _ _=>trivial) (fun _ _ _=>n36) fun i j W h h1 h2=>⟨s36 h.n h1 h2,h.n,by show 2 <= 1000; decide⟩
theorem fact37:CallFact 37:=cf3 rfl rfl (fun _ _ _=>call_37) (fun _ _ _=>trivial) (fun _ _ _ _=>n37) fun i j d W h h1 h2 h3=>by
    refine ⟨s37 h.n h1 h2 h3,?_,?_⟩
    · exact h.n.flip
    · show (r_flip W _).length <= 1000; unfold r_flip; split
      · split <;> exact Nat.le_of_ble_eq_true rfl
      · exact Nat.le_of_ble_eq_true rfl
theorem fact38:CallFact 38:=cf0 rfl rfl call_38 trivial fun W h=>⟨s38 ,h.n,by exact fl3 (by have:=h.n.tl; omega)⟩
theorem fact39:CallFact 39:=cf0 rfl rfl call_39 trivial fun W h=>⟨s39 h.n ,h.n.both,by show 2 <= 1000; decide⟩
theorem fact40:CallFact 40:=cf0 rfl rfl call_40 trivial fun W h=>by
    refine ⟨s40 h.n ,?_,?_⟩
    · exact h.n.single
    · show (r_single W).length <= 1000; unfold r_single; split
      · exact Nat.le_of_ble_eq_true rfl
      · split
        · rename_i e; exact cn (by rw [(fkin_len (m:=W.m) (bs:=W.bars) (tb:=tt0 (W.m + W.n)) e).1]; have:=h.n.bl; omega)
        · exact Nat.le_of_ble_eq_true rfl
theorem fact41:CallFact 41:=cf0 rfl rfl call_41 trivial fun W h=>⟨s41 h.n ,h.n,by show 2 <= 1000; decide⟩
theorem fact42:CallFact 42:=cf0 rfl rfl call_42 trivial fun W h=>⟨s42 h.n ,h.n,by exact fl2 (Nat.le_trans (List.length_filter_le _ _) (by have:=h.n.bl; omega))⟩
theorem fact43:CallFact 43:=cf0 rfl rfl call_43 trivial fun W h=>⟨s43 h.n ,h.n,by show 3 <= 1000; decide⟩
theorem fact44:CallFact 44:=cf3 rfl rfl (fun _ _ _=>call_44) (fun _ _ _=>trivial) (fun _ _ _ _=>n44) fun i j d W h h1 h2 h3=>⟨s44 h.n h1 h2 h3,h.n,by show 1 <= 1000; decide⟩
theorem fact45:CallFact 45:=cf1 rfl (fun _=>call_45) (fun _=>trivial) (fun _ _=>n45) fun s W h=>by
    obtain ⟨_,e,h1⟩:=oks h rfl rfl
    cases e
    exact ⟨s45 h.n h1,h.n,by exact cn (Nat.le_trans (List.length_filter_le _ _) (by rw [List.length_range]; have:=h.sum; have:(mtb W).length = W.m + W.n:=tt_len _ _ _; omega))⟩
theorem fact46:CallFact 46:=cf0 rfl rfl call_46 trivial fun W h=>⟨s46 h.n ,h.n,by exact fl2 (Nat.le_trans (List.length_filter_le _ _) (by have:=h.n.bl; omega))⟩
theorem fact47:CallFact 47:=cf0 rfl rfl call_47 trivial fun W h=>⟨s47 ,h.n.clear,by show 1 <= 1000; decide⟩
theorem fact48:CallFact 48:=cf0 rfl rfl call_48 trivial fun W h=>⟨s48 h.n ,h.n,by show 4 <= 1000; decide⟩
theorem fact49:CallFact 49:=cf0 rfl rfl call_49 trivial fun W h=>⟨s49 ,h.n,by show 3 <= 1000; decide⟩
theorem fact50:CallFact 50:=cf0 rfl rfl call_50 trivial fun W h=>⟨s50 ,h.n,by show 4 <= 1000; decide⟩
theorem facts:∀ k,1 <= k -> k < 51 -> CallFact k
  | 1,_,_=>fact1
  | 2,_,_=>fact2
  | 3,_,_=>fact3
  | 4,_,_=>fact4
  | 5,_,_=>fact5
  | 6,_,_=>fact6
  | 7,_,_=>fact7
  | 8,_,_=>fact8
  | 9,_,_=>fact9
  | 10,_,_=>fact10
  | 11,_,_=>fact11
  | 12,_,_=>fact12
  | 13,_,_=>fact13
  | 14,_,_=>fact14
  | 15,_,_=>fact15
  | 16,_,_=>fact16
  | 17,_,_=>fact17
  | 18,_,_=>fact18
  | 19,_,_=>fact19
  | 20,_,_=>fact20
  | 21,_,_=>fact21
  | 22,_,_=>fact22
  | 23,_,_=>fact23
  | 24,_,_=>fact24
  | 25,_,_=>fact25
  | 26,_,_=>fact26
  | 27,_,_=>fact27
  | 28,_,_=>fact28
  | 29,_,_=>fact29
  | 30,_,_=>fact30
  | 31,_,_=>fact31
  | 32,_,_=>fact32
  | 33,_,_=>fact33
  | 34,_,_=>fact34
  | 35,_,_=>fact35
  | 36,_,_=>fact36
  | 37,_,_=>fact37
  | 38,_,_=>fact38
  | 39,_,_=>fact39
  | 40,_,_=>fact40
  | 41,_,_=>fact41
  | 42,_,_=>fact42
  | 43,_,_=>fact43
  | 44,_,_=>fact44
  | 45,_,_=>fact45
  | 46,_,_=>fact46
  | 47,_,_=>fact47
  | 48,_,_=>fact48
  | 49,_,_=>fact49
  | 50,_,_=>fact50
  | 0,h,_=>absurd h (by decide)
  | k + 51,_,h=>absurd h (by omega)
end L2.FF
end
section
namespace L2.FF
open PySem Su125Neutral
abbrev MM:Mach:=M1 argX okC upC anC
theorem okB_eq (i j:Nat):Su124.okB i j = beginOk i j:=by
  unfold Su124.okB beginOk
  rw [Bool.eq_iff_iff,Bool.and_eq_true,Bool.and_eq_true,Bool.and_eq_true,Bool.not_eq_true',Bool.or_eq_false_iff,Bool.or_eq_false_iff,Bool.or_eq_false_iff,decide_eq_true_eq,decide_eq_true_eq,decide_eq_true_eq,decide_eq_true_eq,decide_eq_false_iff_not,decide_eq_false_iff_not,decide_eq_false_iff_not,decide_eq_false_iff_not,show Su124.SIDE = 5 from rfl]
  omega
theorem begin_some (W:WD) (i j:Nat):step (some (absW W)) (rowC (0,[i,j])) = (some (absW (if beginOk i j then ⟨i,j,[],[]⟩ else W)),if beginOk i j then [0] else [-22]):=by
  rw [step_other call_0,show Su125.does (absW W) (.begin_ i j) = if Su124.okB i j = false then (absW W,Su125.no (-22)) else (Su125.new i j,Su125.no 0) from rfl,okB_eq]
  cases beginOk i j <;> rfl
theorem begin_none (i j:Nat):step none (rowC (0,[i,j])) = (if beginOk i j then some (absW ⟨i,j,[],[]⟩) else none,if beginOk i j then [0] else [-22]):=by
  have e:step none (rowC (0,[i,j])) = (if (Su125.does (Su125.new 1 1) (.begin_ i j)).2.value < 0 then none else some (Su125.does (Su125.new 1 1) (.begin_ i j)).1,(Su125.does (Su125.new 1 1) (.begin_ i j)).2.value :: outs (Su125.does (Su125.new 1 1) (.begin_ i j)).2.out):=rfl
  rw [e,show Su125.does (Su125.new 1 1) (.begin_ i j) = if Su124.okB i j = false then (Su125.new 1 1,Su125.no (-22)) else (Su125.new i j,Su125.no 0) from rfl,okB_eq]
  cases beginOk i j <;> rfl
theorem okN_new {i j:Nat} (h:beginOk i j = true):okN ⟨i,j,[],[]⟩:=by
  rw [<- okB_eq] at h
  unfold Su124.okB at h
  rw [Bool.and_eq_true,Bool.and_eq_true,Bool.and_eq_true,decide_eq_true_eq,decide_eq_true_eq,decide_eq_true_eq,decide_eq_true_eq] at h
  exact ⟨h.1,h.2.1,h.2.2.1,h.2.2.2,(fun _ z=>by cases z),List.nodup_nil,(fun _ z=>by cases z),(fun _ z=>by cases z),List.nodup_nil⟩
theorem sim_one (c:Nat × List Nat) (W:WD) (s:S) (hr:Rel W s) (hw:wfS c):MM.ok c W /\ (MM.an c W).length <= 1000 /\ MM.an c W = (step s (rowC c)).2 /\ Rel (MM.up c W) (step s (rowC c)).1:=by
  obtain ⟨k,ns⟩:=c
  obtain ⟨⟨x,hx,hxw,hxl,hnl⟩,_⟩:=wfS_C hw
  dsimp only at hx hxw hnl
  have hk:k < 51:=(List.getElem?_eq_some_iff.mp hx).1
  have hxd:argX.getD k "" = x:=by rw [List.getD_eq_getElem?_getD,hx]; rfl
  have hasc:=argX_len x (List.mem_of_getElem? hx)
  have hb:k = 0 -> ∃ i j,ns = [i,j]:=fun z=>by subst z; exact wf2 hw rfl
  have hok:MM.ok (k,ns) W:=⟨x,hx,hxw.imp id fun z=>⟨z,hasc.2⟩,hnl,hk,hb,fun h0 h1 ha=>by
    rcases hr with ⟨z,_⟩ | ⟨z,_⟩
    · exact absurd z h1
    · exact ⟨z,hw,by rw [hxd]; exact ha⟩⟩
  refine ⟨hok,?_⟩
  by_cases h0:k = 0
  · subst h0
    obtain ⟨i,j,rfl⟩:=hb rfl
    show (if beginOk i j = true then [(0:Int)] else [-22]).length <= 1000 /\ (if beginOk i j = true then [(0:Int)] else [-22]) = _ /\ Rel (if beginOk i j = true then ⟨i,j,[],[]⟩ else W) _
    rcases hr with ⟨z,rfl⟩ | ⟨z,rfl⟩
    · rw [begin_none]
      cases q:beginOk i j with
      | true=>exact ⟨by decide,rfl,.inr ⟨okN_new q,rfl⟩⟩
      | false=>exact ⟨by decide,rfl,.inl ⟨z,rfl⟩⟩
    · rw [begin_some]
      cases q:beginOk i j with
      | true=>exact ⟨by decide,rfl,.inr ⟨okN_new q,rfl⟩⟩
      | false=>exact ⟨by decide,rfl,.inr ⟨z,rfl⟩⟩
  · have F:=facts k (by omega) hk
    have ea:MM.an (k,ns) W = if W.m = 0 then [-11] else if (!allThere W (argX.getD k "") ns) = true then [-2] else anC k ns W:=if_neg h0
    have eu:MM.up (k,ns) W = if W.m = 0 then W else if (!allThere W (argX.getD k "") ns) = true then W else upC k ns W:=if_neg h0
    rw [ea,eu]
    rcases hr with ⟨z,rfl⟩ | ⟨z,rfl⟩
    · obtain ⟨c,hc,hn⟩:=F.call ns hw
      rw [if_pos z,if_pos z,step_none hc hn]
      exact ⟨by decide,rfl,.inl ⟨z,rfl⟩⟩
    · have hm:¬ W.m = 0:=by have:=z.m1; omega
      rw [if_neg hm,if_neg hm]
      cases ha:allThere W (argX.getD k "") ns with
      | false =>
        rw [Bool.not_false,if_pos rfl,if_pos rfl,F.neg ns W hw ha]
        exact ⟨by decide,rfl,.inr ⟨z,rfl⟩⟩
      | true =>
        obtain ⟨p1,p2,p3⟩:=F.pos ns W ⟨z,hw,ha⟩
        rw [Bool.not_true,if_neg (by decide),if_neg (by decide),p1]
        exact ⟨p3,rfl,.inr ⟨p2,rfl⟩⟩
end L2.FF
end
section
namespace L2.FF
open PySem PySem.Spec PyProof.Rows
section
variable {P:Program} {w:World} {K:PySem.W.Frag} {mg:Str -> Option Value} {base:Heap} {n:Nat} {f C:Addr} {fd:FuncData} {ps:List Str}
theorem t1 (F:FnOk P w K mg base CX0 n f fd ps (sp_call_brace C)):FnOk P w K mg base CX0 n f fd ps (spU C (okC 1) (upC 1) (anC 1)):=wall_toU F fun ns W h=>by obtain ⟨i,j,rfl,h1,h2⟩:=okij h rfl rfl; exact ⟨(i,j),rfl,⟨h.w,Nat.le_trans h.n.bl (by decide),h1,h2⟩,rfl,rfl⟩
theorem t2 (F:FnOk P w K mg base CX0 n f fd ps (sp_call_free C)):FnOk P w K mg base CX0 n f fd ps (spU C (okC 2) (upC 2) (anC 2)):=wall_toU F fun ns W h=>by obtain ⟨i,j,rfl,h1,h2⟩:=okij h rfl rfl; exact ⟨(i,j),rfl,⟨h.w,h.n.bn⟩,rfl,rfl⟩
theorem t3 (F:FnOk P w K mg base CX0 n f fd ps (sp_call_firm C)):FnOk P w K mg base CX0 n f fd ps (spU C (okC 3) (upC 3) (anC 3)):=pure_toU F fun ns W h=>by obtain rfl:=ok0 h rfl; exact ⟨W,rfl,h.w,rfl⟩
theorem t4 (F:FnOk P w K mg base CX0 n f fd ps (sp_call_parts C)):FnOk P w K mg base CX0 n f fd ps (spU C (okC 4) (upC 4) (anC 4)):=pure_toU F fun ns W h=>by obtain rfl:=ok0 h rfl; exact ⟨W,rfl,h.w,rfl⟩
theorem t5 (F:FnOk P w K mg base CX0 n f fd ps (sp_call_part C)):FnOk P w K mg base CX0 n f fd ps (spU C (okC 5) (upC 5) (anC 5)):=pure_toU F fun ns W h=>by obtain ⟨s,rfl,h1⟩:=oks h rfl rfl; exact ⟨(W,s),rfl,⟨h.w,h1⟩,rfl⟩
theorem t6 (F:FnOk P w K mg base CX0 n f fd ps (sp_call_still C)):FnOk P w K mg base CX0 n f fd ps (spU C (okC 6) (upC 6) (anC 6)):=pure_toU F fun ns W h=>by obtain ⟨i,j,rfl,h1,h2⟩:=okij h rfl rfl; exact ⟨(W,(i,j)),rfl,⟨h.w,h1,h2⟩,rfl⟩
theorem t7 (F:FnOk P w K mg base CX0 n f fd ps (sp_call_stills C)):FnOk P w K mg base CX0 n f fd ps (spU C (okC 7) (upC 7) (anC 7)):=pure_toU F fun ns W h=>by obtain rfl:=ok0 h rfl; exact ⟨W,rfl,h.w,rfl⟩
theorem t8 (F:FnOk P w K mg base CX0 n f fd ps (sp_call_alike C)):FnOk P w K mg base CX0 n f fd ps (spU C (okC 8) (upC 8) (anC 8)):=pure_toU F fun ns W h=>by obtain ⟨i,j,k,l,rfl,h1,h2,h3,h4⟩:=okijkl h rfl rfl; exact ⟨(W,i,j,k,l),rfl,⟨h.w,h1,h2,h3,h4⟩,rfl⟩
theorem t9 (F:FnOk P w K mg base CX0 n f fd ps (sp_call_spare C)):FnOk P w K mg base CX0 n f fd ps (spU C (okC 9) (upC 9) (anC 9)):=pure_toU F fun ns W h=>by obtain ⟨i,j,rfl,h1,h2⟩:=okij h rfl rfl; exact ⟨(W,(i,j)),rfl,h.w,rfl⟩
theorem t10 (F:FnOk P w K mg base CX0 n f fd ps (sp_call_spares C)):FnOk P w K mg base CX0 n f fd ps (spU C (okC 10) (upC 10) (anC 10)):=pure_toU F fun ns W h=>by obtain rfl:=ok0 h rfl; exact ⟨W,rfl,h.w,rfl⟩
theorem t11 (F:FnOk P w K mg base CX0 n f fd ps (sp_call_put C)):FnOk P w K mg base CX0 n f fd ps (spU C (okC 11) (upC 11) (anC 11)):=pure_toU F fun ns W h=>by obtain rfl:=ok0 h rfl; exact ⟨W,rfl,h.w,rfl⟩
theorem t12 (F:FnOk P w K mg base CX0 n f fd ps (sp_call_thin C)):FnOk P w K mg base CX0 n f fd ps (spU C (okC 12) (upC 12) (anC 12)):=pure_toU F fun ns W h=>by obtain rfl:=ok0 h rfl; exact ⟨W,rfl,h.w,rfl⟩
theorem t13 (F:FnOk P w K mg base CX0 n f fd ps (sp_call_turn C)):FnOk P w K mg base CX0 n f fd ps (spU C (okC 13) (upC 13) (anC 13)):=pure_toU F fun ns W h=>by exact ⟨(W,ns),rfl,⟨h.w,wfW h.wf rfl⟩,rfl⟩
theorem t14 (F:FnOk P w K mg base CX0 n f fd ps (sp_call_falls C)):FnOk P w K mg base CX0 n f fd ps (spU C (okC 14) (upC 14) (anC 14)):=pure_toU F fun ns W h=>by obtain ⟨i,j,rfl,h1,h2⟩:=okij h rfl rfl; exact ⟨(W,(i,j)),rfl,h.w,rfl⟩
theorem t15 (F:FnOk P w K mg base CX0 n f fd ps (sp_call_would C)):FnOk P w K mg base CX0 n f fd ps (spU C (okC 15) (upC 15) (anC 15)):=pure_toU F fun ns W h=>by obtain ⟨i,j,rfl,h1,h2⟩:=okij h rfl rfl; exact ⟨(W,(i,j)),rfl,⟨h.w,Nat.le_trans h.n.bl (by decide),h1,h2⟩,rfl⟩
theorem t16 (F:FnOk P w K mg base CX0 n f fd ps (sp_call_least C)):FnOk P w K mg base CX0 n f fd ps (spU C (okC 16) (upC 16) (anC 16)):=pure_toU F fun ns W h=>by obtain rfl:=ok0 h rfl; exact ⟨W,rfl,h.w,rfl⟩
theorem t17 (F:FnOk P w K mg base CX0 n f fd ps (sp_call_all C)):FnOk P w K mg base CX0 n f fd ps (spU C (okC 17) (upC 17) (anC 17)):=pure_toU F fun ns W h=>by obtain rfl:=ok0 h rfl; exact ⟨W,rfl,h.w,rfl⟩
theorem t18 (F:FnOk P w K mg base CX0 n f fd ps (sp_call_row C)):FnOk P w K mg base CX0 n f fd ps (spU C (okC 18) (upC 18) (anC 18)):=pure_toU F fun ns W h=>by obtain ⟨i,rfl,h1⟩:=oki h rfl rfl; exact ⟨(W,i),rfl,h.w,rfl⟩
theorem t19 (F:FnOk P w K mg base CX0 n f fd ps (sp_call_column C)):FnOk P w K mg base CX0 n f fd ps (spU C (okC 19) (upC 19) (anC 19)):=pure_toU F fun ns W h=>by obtain ⟨j,rfl,h1⟩:=okj h rfl rfl; exact ⟨(W,j),rfl,h.w,rfl⟩
theorem t20 (F:FnOk P w K mg base CX0 n f fd ps (sp_call_tie C)):FnOk P w K mg base CX0 n f fd ps (spU C (okC 20) (upC 20) (anC 20)):=wall_toU F fun ns W h=>by obtain ⟨i,j,d,rfl,h1,h2,h3⟩:=okijd h rfl rfl; exact ⟨(i,j,d),rfl,⟨h.w,h.n.tl,h1,h2,h3⟩,rfl,rfl⟩
theorem t21 (F:FnOk P w K mg base CX0 n f fd ps (sp_call_untie C)):FnOk P w K mg base CX0 n f fd ps (spU C (okC 21) (upC 21) (anC 21)):=wall_toU F fun ns W h=>by obtain ⟨i,j,d,rfl,h1,h2,h3⟩:=okijd h rfl rfl; exact ⟨(i,j,d),rfl,⟨h.w,h.n.tn⟩,rfl,rfl⟩
theorem t22 (F:FnOk P w K mg base CX0 n f fd ps (sp_call_tfirm C)):FnOk P w K mg base CX0 n f fd ps (spU C (okC 22) (upC 22) (anC 22)):=pure_toU F fun ns W h=>by obtain rfl:=ok0 h rfl; exact ⟨W,rfl,h.w,rfl⟩
theorem t23 (F:FnOk P w K mg base CX0 n f fd ps (sp_call_reach C)):FnOk P w K mg base CX0 n f fd ps (spU C (okC 23) (upC 23) (anC 23)):=pure_toU F fun ns W h=>by obtain ⟨s,rfl,h1⟩:=oks h rfl rfl; exact ⟨(W,s),rfl,⟨h.w,h1⟩,rfl⟩
theorem t24 (F:FnOk P w K mg base CX0 n f fd ps (sp_call_tpart C)):FnOk P w K mg base CX0 n f fd ps (spU C (okC 24) (upC 24) (anC 24)):=pure_toU F fun ns W h=>by obtain ⟨s,rfl,h1⟩:=oks h rfl rfl; exact ⟨(W,s),rfl,⟨h.w,h1⟩,rfl⟩
theorem t25 (F:FnOk P w K mg base CX0 n f fd ps (sp_call_tparts C)):FnOk P w K mg base CX0 n f fd ps (spU C (okC 25) (upC 25) (anC 25)):=pure_toU F fun ns W h=>by obtain rfl:=ok0 h rfl; exact ⟨W,rfl,h.w,rfl⟩
theorem t26 (F:FnOk P w K mg base CX0 n f fd ps (sp_call_ends C)):FnOk P w K mg base CX0 n f fd ps (spU C (okC 26) (upC 26) (anC 26)):=pure_toU F fun ns W h=>by obtain rfl:=ok0 h rfl; exact ⟨W,rfl,h.w,rfl⟩
theorem t27 (F:FnOk P w K mg base CX0 n f fd ps (sp_call_leans C)):FnOk P w K mg base CX0 n f fd ps (spU C (okC 27) (upC 27) (anC 27)):=pure_toU F fun ns W h=>by obtain ⟨i,j,d,rfl,h1,h2,h3⟩:=okijd h rfl rfl; exact ⟨(W,(i,j,d)),rfl,⟨h.w,h1,h2⟩,rfl⟩
theorem t28 (F:FnOk P w K mg base CX0 n f fd ps (sp_call_tall C)):FnOk P w K mg base CX0 n f fd ps (spU C (okC 28) (upC 28) (anC 28)):=pure_toU F fun ns W h=>by obtain rfl:=ok0 h rfl; exact ⟨W,rfl,h.w,rfl⟩
theorem t29 (F:FnOk P w K mg base CX0 n f fd ps (sp_call_lean C)):FnOk P w K mg base CX0 n f fd ps (spU C (okC 29) (upC 29) (anC 29)):=pure_toU F fun ns W h=>by obtain ⟨i,j,d,rfl,h1,h2,h3⟩:=okijd h rfl rfl; exact ⟨(W,(i,j,d)),rfl,⟨h.w,h1,h2⟩,rfl⟩
theorem t30 (F:FnOk P w K mg base CX0 n f fd ps (sp_call_tturn C)):FnOk P w K mg base CX0 n f fd ps (spU C (okC 30) (upC 30) (anC 30)):=pure_toU F fun ns W h=>by exact ⟨(W,ns),rfl,⟨h.w,wfW h.wf rfl⟩,rfl⟩
theorem t31 (F:FnOk P w K mg base CX0 n f fd ps (sp_call_tspare C)):FnOk P w K mg base CX0 n f fd ps (spU C (okC 31) (upC 31) (anC 31)):=pure_toU F fun ns W h=>by obtain ⟨i,j,d,rfl,h1,h2,h3⟩:=okijd h rfl rfl; exact ⟨(W,(i,j,d)),rfl,⟨h.w,h1,h2⟩,rfl⟩
theorem t32 (F:FnOk P w K mg base CX0 n f fd ps (sp_call_tspares C)):FnOk P w K mg base CX0 n f fd ps (spU C (okC 32) (upC 32) (anC 32)):=pure_toU F fun ns W h=>by obtain rfl:=ok0 h rfl; exact ⟨W,rfl,h.w,rfl⟩
theorem t33 (F:FnOk P w K mg base CX0 n f fd ps (sp_call_tput C)):FnOk P w K mg base CX0 n f fd ps (spU C (okC 33) (upC 33) (anC 33)):=pure_toU F fun ns W h=>by obtain rfl:=ok0 h rfl; exact ⟨W,rfl,h.w,rfl⟩
theorem t34 (F:FnOk P w K mg base CX0 n f fd ps (sp_call_twould C)):FnOk P w K mg base CX0 n f fd ps (spU C (okC 34) (upC 34) (anC 34)):=pure_toU F fun ns W h=>by obtain ⟨i,j,d,rfl,h1,h2,h3⟩:=okijd h rfl rfl; exact ⟨(W,(i,j,d)),rfl,⟨h.w,h.n.tl,h1,h2,h3⟩,rfl⟩
theorem t35 (F:FnOk P w K mg base CX0 n f fd ps (sp_call_tfalls C)):FnOk P w K mg base CX0 n f fd ps (spU C (okC 35) (upC 35) (anC 35)):=pure_toU F fun ns W h=>by obtain ⟨i,j,d,rfl,h1,h2,h3⟩:=okijd h rfl rfl; exact ⟨(W,(i,j,d)),rfl,⟨h.w,h1,h2⟩,rfl⟩
theorem t36 (F:FnOk P w K mg base CX0 n f fd ps (sp_call_stiff C)):FnOk P w K mg base CX0 n f fd ps (spU C (okC 36) (upC 36) (anC 36)):=pure_toU F fun ns W h=>by obtain ⟨i,j,rfl,h1,h2⟩:=okij h rfl rfl; exact ⟨(W,(i,j)),rfl,⟨h.w,h1⟩,rfl⟩
theorem t37 (F:FnOk P w K mg base CX0 n f fd ps (sp_call_flip C)):FnOk P w K mg base CX0 n f fd ps (spU C (okC 37) (upC 37) (anC 37)):=wall_toU F fun ns W h=>by obtain ⟨i,j,d,rfl,h1,h2,h3⟩:=okijd h rfl rfl; exact ⟨(i,j,d),rfl,⟨h.w,h.n.tn,h3⟩,rfl,rfl⟩
theorem t38 (F:FnOk P w K mg base CX0 n f fd ps (sp_call_ties C)):FnOk P w K mg base CX0 n f fd ps (spU C (okC 38) (upC 38) (anC 38)):=pure_toU F fun ns W h=>by obtain rfl:=ok0 h rfl; exact ⟨W,rfl,h.w,rfl⟩
theorem t39 (F:FnOk P w K mg base CX0 n f fd ps (sp_call_both C)):FnOk P w K mg base CX0 n f fd ps (spU C (okC 39) (upC 39) (anC 39)):=wall_toU F fun ns W h=>by obtain rfl:=ok0 h rfl; exact ⟨(),rfl,⟨h.w,Nat.le_trans h.n.bl (by decide)⟩,rfl,rfl⟩
theorem t40 (F:FnOk P w K mg base CX0 n f fd ps (sp_call_single C)):FnOk P w K mg base CX0 n f fd ps (spU C (okC 40) (upC 40) (anC 40)):=wall_toU F fun ns W h=>by obtain rfl:=ok0 h rfl; exact ⟨(),rfl,h.w,rfl,rfl⟩
theorem t41 (F:FnOk P w K mg base CX0 n f fd ps (sp_call_can C)):FnOk P w K mg base CX0 n f fd ps (spU C (okC 41) (upC 41) (anC 41)):=pure_toU F fun ns W h=>by obtain rfl:=ok0 h rfl; exact ⟨W,rfl,h.w,rfl⟩
theorem t42 (F:FnOk P w K mg base CX0 n f fd ps (sp_call_needed C)):FnOk P w K mg base CX0 n f fd ps (spU C (okC 42) (upC 42) (anC 42)):=pure_toU F fun ns W h=>by obtain rfl:=ok0 h rfl; exact ⟨W,rfl,h.w,rfl⟩
theorem t43 (F:FnOk P w K mg base CX0 n f fd ps (sp_call_mixed C)):FnOk P w K mg base CX0 n f fd ps (spU C (okC 43) (upC 43) (anC 43)):=pure_toU F fun ns W h=>by obtain rfl:=ok0 h rfl; exact ⟨W,rfl,⟨h.w,h.n.bl,h.n.tl⟩,rfl⟩
theorem t44 (F:FnOk P w K mg base CX0 n f fd ps (sp_call_mleans C)):FnOk P w K mg base CX0 n f fd ps (spU C (okC 44) (upC 44) (anC 44)):=pure_toU F fun ns W h=>by obtain ⟨i,j,d,rfl,h1,h2,h3⟩:=okijd h rfl rfl; exact ⟨(W,(i,j,d)),rfl,⟨h.w,h.n.bl,h.n.tl,h1,h2⟩,rfl⟩
theorem t45 (F:FnOk P w K mg base CX0 n f fd ps (sp_call_mpart C)):FnOk P w K mg base CX0 n f fd ps (spU C (okC 45) (upC 45) (anC 45)):=pure_toU F fun ns W h=>by obtain ⟨s,rfl,h1⟩:=oks h rfl rfl; exact ⟨(W,s),rfl,⟨h.w,h.n.bl,h.n.tl,h1⟩,rfl⟩
theorem t46 (F:FnOk P w K mg base CX0 n f fd ps (sp_call_idle C)):FnOk P w K mg base CX0 n f fd ps (spU C (okC 46) (upC 46) (anC 46)):=pure_toU F fun ns W h=>by obtain rfl:=ok0 h rfl; exact ⟨W,rfl,⟨h.w,h.n.bl,h.n.tl⟩,rfl⟩
theorem t47 (F:FnOk P w K mg base CX0 n f fd ps (sp_call_clear C)):FnOk P w K mg base CX0 n f fd ps (spU C (okC 47) (upC 47) (anC 47)):=wall_toU F fun ns W h=>by obtain rfl:=ok0 h rfl; exact ⟨(),rfl,h.w,rfl,rfl⟩
theorem t48 (F:FnOk P w K mg base CX0 n f fd ps (sp_call_change C)):FnOk P w K mg base CX0 n f fd ps (spU C (okC 48) (upC 48) (anC 48)):=pure_toU F fun ns W h=>by obtain rfl:=ok0 h rfl; exact ⟨W,rfl,⟨h.w,h.n.bl,h.n.tl⟩,rfl⟩
theorem t49 (F:FnOk P w K mg base CX0 n f fd ps (sp_call_count C)):FnOk P w K mg base CX0 n f fd ps (spU C (okC 49) (upC 49) (anC 49)):=pure_toU F fun ns W h=>by obtain rfl:=ok0 h rfl; exact ⟨W,rfl,h.w,rfl⟩
theorem t50 (F:FnOk P w K mg base CX0 n f fd ps (sp_call_state C)):FnOk P w K mg base CX0 n f fd ps (spU C (okC 50) (upC 50) (anC 50)):=pure_toU F fun ns W h=>by obtain rfl:=ok0 h rfl; exact ⟨W,rfl,h.w,rfl⟩
end
end L2.FF
end
section
namespace L2.FF
open PySem PySem.Spec PyProof.Rows
structure FnAt (K:PySem.W.Frag) (x:Str) (st:Stmt) (f:Addr):Prop where
  a:PySem.W.nsIn K mainGlobals x = some (some (.ref f))
  ex:∃ fd,Fun K x x st f fd
theorem fnAt {K:PySem.W.Frag} {x:Str} {st:Stmt} {f:Addr} {oc:Value} {od an:Option Addr} {sl:Array (Option Value)} {kV dc pm cd ct:Value} (a:PySem.W.nsIn K mainGlobals x = some (some (.ref f)))
   (l:K.lookup f = some ⟨oc,od,.func (PySem.W.fnOf x x (defArgs st) (defBody st) (defScope st) .none kV dc pm an cd ct),sl⟩) (c:PySem.W.codeIn K cd x = true) (k:PySem.W.keepIn K (.ref f) = true):FnAt K x st f:=⟨a,_,fun_mk l c k⟩
def GlI (K:PySem.W.Frag) (x:Str) (i:Int):Prop:=∃ t,PySem.W.nsIn K mainGlobals x = some (some (.int i t))
theorem glI {K:PySem.W.Frag} {x:Str} {i:Int} {t:Tok} (h:PySem.W.nsIn K mainGlobals x = some (some (.int i t))):GlI K x i:=⟨t,h⟩
def GlS (K:PySem.W.Frag) (x:Str) (y:Str):Prop:=∃ t,PySem.W.nsIn K mainGlobals x = some (some (.str y t))
theorem glS {K:PySem.W.Frag} {x y:Str} {t:Tok} (h:PySem.W.nsIn K mainGlobals x = some (some (.str y t))):GlS K x y:=⟨t,h⟩
theorem fnI {K:PySem.W.Frag} {f:Addr} {oc:Value} {od an:Option Addr} {sl:Array (Option Value)} {kV dc pm cd ct:Value} (l:K.lookup f = some ⟨oc,od,.func (PySem.W.fnOf "__init__" "Wall.__init__" (defArgs s_init) (defBody s_init) (defScope s_init) .none kV dc pm an cd ct),sl⟩) (c:PySem.W.codeIn K cd "Wall.__init__" = true) (k:PySem.W.keepIn K (.ref f) = true):∃ fd,Fun K "__init__" "Wall.__init__" s_init f fd:=⟨_,fun_mk l c k⟩
theorem kt_mk {K:PySem.W.Frag} {a:Addr} {xs:List Str} {od:Option Addr} {its:Array Value} {n:Nat} {sl:Array (Option Value)} (h:K.lookup a = some ⟨.type "tuple",od,.seq its n,sl⟩) (hz:its.size <= sizeLine) (hv:Vals (xs.map V.str) its.toList):KTexts K a xs:=⟨_,its,n,h,rfl,rfl,hz,hv⟩
theorem kd_mk {K:PySem.W.Frag} {a:Addr} {fs:List (Int × Addr)} {es:List DictEntry} {ep:Nat} (h:K.lookup a = some { cls:=.type "dict",data:=.dict es.toArray ep }) (p:Paired EntOk es fs) (nd:(fs.map (·.1)).Nodup):KDict K a fs:=⟨⟨ep,es,h,p⟩,nd⟩
section
variable {P:Program} {w:World} {K:PySem.W.Frag} {mg:Str -> Option Value} {base:Heap}
theorem Fn.mk' {x:Str} {k:Nat} {ps:List Str} {sp:Sp} {st:Stmt} {f:Addr} {fd:FuncData} (F:Fun K x x st f fd) (hm:mg x = some (.ref f)) (hb:Binds K fd ps []) (G:FnOk P w K mg base CX0 k f fd ps sp):Fn P w K mg base x k ps sp:=⟨f,fd,hm,F.kp,hb,G⟩
theorem DefOk.mk' {x:Str} {k L:Nat} {ps:List Str} {sp:Sp} {st:Stmt} {f:Addr} {fd:FuncData} (F:Fun K x x st f fd) (hb:Binds K fd ps []) (G:FnOk P w K mg base CX0 k f fd ps sp) (h:k <= L):DefOk P w K mg base L f sp:=⟨k,fd,ps,h,G,F.kp,hb⟩
end
theorem bd0 {K:PySem.W.Frag} {x:Str} {st:Stmt} {p0:Pos} {f:Addr} {fd:FuncData} (F:Fun K x x st f fd) (h:defArgs st = ⟨[],[⟨"wall",none,p0⟩],none,[],[],none,[]⟩):Binds K fd ["wall"] []:=F.binds fun _ _ _ _ _ _ us hl=>match us,hl with | [_],_=>by rw [h]; rfl
theorem bd1 {K:PySem.W.Frag} {x:Str} {st:Stmt} {p0 p1:Pos} {f:Addr} {fd:FuncData} (F:Fun K x x st f fd) (h:defArgs st = ⟨[],[⟨"wall",none,p0⟩,⟨"column",none,p1⟩],none,[],[],none,[]⟩):Binds K fd ["wall","column"] []:=F.binds fun _ _ _ _ _ _ us hl=>match us,hl with | [_,_],_=>by rw [h]; rfl
theorem bd2 {K:PySem.W.Frag} {x:Str} {st:Stmt} {p0 p1:Pos} {f:Addr} {fd:FuncData} (F:Fun K x x st f fd) (h:defArgs st = ⟨[],[⟨"wall",none,p0⟩,⟨"way",none,p1⟩],none,[],[],none,[]⟩):Binds K fd ["wall","way"] []:=F.binds fun _ _ _ _ _ _ us hl=>match us,hl with | [_,_],_=>by rw [h]; rfl
theorem bd3 {K:PySem.W.Frag} {x:Str} {st:Stmt} {p0:Pos} {f:Addr} {fd:FuncData} (F:Fun K x x st f fd) (h:defArgs st = ⟨[],[⟨"firsts",none,p0⟩],none,[],[],none,[]⟩):Binds K fd ["firsts"] []:=F.binds fun _ _ _ _ _ _ us hl=>match us,hl with | [_],_=>by rw [h]; rfl
theorem bd4 {K:PySem.W.Frag} {x:Str} {st:Stmt} {p0:Pos} {f:Addr} {fd:FuncData} (F:Fun K x x st f fd) (h:defArgs st = ⟨[],[⟨"numbers",none,p0⟩],none,[],[],none,[]⟩):Binds K fd ["numbers"] []:=F.binds fun _ _ _ _ _ _ us hl=>match us,hl with | [_],_=>by rw [h]; rfl
theorem bd5 {K:PySem.W.Frag} {x:Str} {st:Stmt} {p0:Pos} {f:Addr} {fd:FuncData} (F:Fun K x x st f fd) (h:defArgs st = ⟨[],[⟨"places",none,p0⟩],none,[],[],none,[]⟩):Binds K fd ["places"] []:=F.binds fun _ _ _ _ _ _ us hl=>match us,hl with | [_],_=>by rw [h]; rfl
theorem bd6 {K:PySem.W.Frag} {x:Str} {st:Stmt} {p0 p1:Pos} {f:Addr} {fd:FuncData} (F:Fun K x x st f fd) (h:defArgs st = ⟨[],[⟨"places",none,p0⟩,⟨"place",none,p1⟩],none,[],[],none,[]⟩):Binds K fd ["places","place"] []:=F.binds fun _ _ _ _ _ _ us hl=>match us,hl with | [_,_],_=>by rw [h]; rfl
theorem bd7 {K:PySem.W.Frag} {x:Str} {st:Stmt} {p0 p1 p2:Pos} {f:Addr} {fd:FuncData} (F:Fun K x x st f fd) (h:defArgs st = ⟨[],[⟨"wall",none,p0⟩,⟨"firsts",none,p1⟩,⟨"bar",none,p2⟩],none,[],[],none,[]⟩):Binds K fd ["wall","firsts","bar"] []:=F.binds fun _ _ _ _ _ _ us hl=>match us,hl with | [_,_,_],_=>by rw [h]; rfl
theorem bd8 {K:PySem.W.Frag} {x:Str} {st:Stmt} {p0 p1:Pos} {f:Addr} {fd:FuncData} (F:Fun K x x st f fd) (h:defArgs st = ⟨[],[⟨"wall",none,p0⟩,⟨"bars",none,p1⟩],none,[],[],none,[]⟩):Binds K fd ["wall","bars"] []:=F.binds fun _ _ _ _ _ _ us hl=>match us,hl with | [_,_],_=>by rw [h]; rfl
theorem bd9 {K:PySem.W.Frag} {x:Str} {st:Stmt} {p0 p1 p2:Pos} {f:Addr} {fd:FuncData} (F:Fun K x x st f fd) (h:defArgs st = ⟨[],[⟨"wall",none,p0⟩,⟨"firsts",none,p1⟩,⟨"square",none,p2⟩],none,[],[],none,[]⟩):Binds K fd ["wall","firsts","square"] []:=F.binds fun _ _ _ _ _ _ us hl=>match us,hl with | [_,_,_],_=>by rw [h]; rfl
theorem bd10 {K:PySem.W.Frag} {x:Str} {st:Stmt} {p0 p1 p2:Pos} {f:Addr} {fd:FuncData} (F:Fun K x x st f fd) (h:defArgs st = ⟨[],[⟨"wall",none,p0⟩,⟨"bars",none,p1⟩,⟨"bar",none,p2⟩],none,[],[],none,[]⟩):Binds K fd ["wall","bars","bar"] []:=F.binds fun _ _ _ _ _ _ us hl=>match us,hl with | [_,_,_],_=>by rw [h]; rfl
theorem bd11 {K:PySem.W.Frag} {x:Str} {st:Stmt} {p0 p1:Pos} {f:Addr} {fd:FuncData} (F:Fun K x x st f fd) (h:defArgs st = ⟨[],[⟨"wall",none,p0⟩,⟨"handed",none,p1⟩],none,[],[],none,[]⟩):Binds K fd ["wall","handed"] []:=F.binds fun _ _ _ _ _ _ us hl=>match us,hl with | [_,_],_=>by rw [h]; rfl
theorem bd12 {K:PySem.W.Frag} {x:Str} {st:Stmt} {p0 p1 p2:Pos} {f:Addr} {fd:FuncData} (F:Fun K x x st f fd) (h:defArgs st = ⟨[],[⟨"wall",none,p0⟩,⟨"number",none,p1⟩,⟨"handed",none,p2⟩],none,[],[],none,[]⟩):Binds K fd ["wall","number","handed"] []:=F.binds fun _ _ _ _ _ _ us hl=>match us,hl with | [_,_,_],_=>by rw [h]; rfl
theorem bd13 {K:PySem.W.Frag} {x:Str} {st:Stmt} {p0 p1:Pos} {f:Addr} {fd:FuncData} (F:Fun K x x st f fd) (h:defArgs st = ⟨[],[⟨"wall",none,p0⟩,⟨"tie",none,p1⟩],none,[],[],none,[]⟩):Binds K fd ["wall","tie"] []:=F.binds fun _ _ _ _ _ _ us hl=>match us,hl with | [_,_],_=>by rw [h]; rfl
theorem bd14 {K:PySem.W.Frag} {x:Str} {st:Stmt} {p0 p1 p2:Pos} {f:Addr} {fd:FuncData} (F:Fun K x x st f fd) (h:defArgs st = ⟨[],[⟨"table",none,p0⟩,⟨"source",none,p1⟩,⟨"target",none,p2⟩],none,[],[],none,[]⟩):Binds K fd ["table","source","target"] []:=F.binds fun _ _ _ _ _ _ us hl=>match us,hl with | [_,_,_],_=>by rw [h]; rfl
theorem bd15 {K:PySem.W.Frag} {x:Str} {st:Stmt} {p0 p1 p2:Pos} {f:Addr} {fd:FuncData} (F:Fun K x x st f fd) (h:defArgs st = ⟨[],[⟨"wall",none,p0⟩,⟨"table",none,p1⟩,⟨"tie",none,p2⟩],none,[],[],none,[]⟩):Binds K fd ["wall","table","tie"] []:=F.binds fun _ _ _ _ _ _ us hl=>match us,hl with | [_,_,_],_=>by rw [h]; rfl
theorem bd16 {K:PySem.W.Frag} {x:Str} {st:Stmt} {p0 p1:Pos} {f:Addr} {fd:FuncData} (F:Fun K x x st f fd) (h:defArgs st = ⟨[],[⟨"wall",none,p0⟩,⟨"ties",none,p1⟩],none,[],[],none,[]⟩):Binds K fd ["wall","ties"] []:=F.binds fun _ _ _ _ _ _ us hl=>match us,hl with | [_,_],_=>by rw [h]; rfl
theorem bd17 {K:PySem.W.Frag} {x:Str} {st:Stmt} {p0 p1:Pos} {f:Addr} {fd:FuncData} (F:Fun K x x st f fd) (h:defArgs st = ⟨[],[⟨"table",none,p0⟩,⟨"strip",none,p1⟩],none,[],[],none,[]⟩):Binds K fd ["table","strip"] []:=F.binds fun _ _ _ _ _ _ us hl=>match us,hl with | [_,_],_=>by rw [h]; rfl
theorem bd18 {K:PySem.W.Frag} {x:Str} {st:Stmt} {p0:Pos} {f:Addr} {fd:FuncData} (F:Fun K x x st f fd) (h:defArgs st = ⟨[],[⟨"table",none,p0⟩],none,[],[],none,[]⟩):Binds K fd ["table"] []:=F.binds fun _ _ _ _ _ _ us hl=>match us,hl with | [_],_=>by rw [h]; rfl
theorem bd19 {K:PySem.W.Frag} {x:Str} {st:Stmt} {p0 p1:Pos} {f:Addr} {fd:FuncData} (F:Fun K x x st f fd) (h:defArgs st = ⟨[],[⟨"wall",none,p0⟩,⟨"table",none,p1⟩],none,[],[],none,[]⟩):Binds K fd ["wall","table"] []:=F.binds fun _ _ _ _ _ _ us hl=>match us,hl with | [_,_],_=>by rw [h]; rfl
theorem bd20 {K:PySem.W.Frag} {x:Str} {st:Stmt} {p0 p1:Pos} {f:Addr} {fd:FuncData} (F:Fun K x x st f fd) (h:defArgs st = ⟨[],[⟨"table",none,p0⟩,⟨"more",none,p1⟩],none,[],[],none,[]⟩):Binds K fd ["table","more"] []:=F.binds fun _ _ _ _ _ _ us hl=>match us,hl with | [_,_],_=>by rw [h]; rfl
theorem bd21 {K:PySem.W.Frag} {x:Str} {st:Stmt} {p0 p1 p2 p3:Pos} {f:Addr} {fd:FuncData} (F:Fun K x x st f fd) (h:defArgs st = ⟨[],[⟨"wall",none,p0⟩,⟨"table",none,p1⟩,⟨"missing",none,p2⟩,⟨"size",none,p3⟩],none,[],[],none,[]⟩):Binds K fd ["wall","table","missing","size"] []:=F.binds fun _ _ _ _ _ _ us hl=>match us,hl with | [_,_,_,_],_=>by rw [h]; rfl
theorem bd22 {K:PySem.W.Frag} {x:Str} {st:Stmt} {p0 p1 p2:Pos} {f:Addr} {fd:FuncData} (F:Fun K x x st f fd) (h:defArgs st = ⟨[],[⟨"wall",none,p0⟩,⟨"table",none,p1⟩,⟨"bars",none,p2⟩],none,[],[],none,[]⟩):Binds K fd ["wall","table","bars"] []:=F.binds fun _ _ _ _ _ _ us hl=>match us,hl with | [_,_,_],_=>by rw [h]; rfl
theorem bd23 {K:PySem.W.Frag} {x:Str} {st:Stmt} {p0 p1 p2:Pos} {f:Addr} {fd:FuncData} (F:Fun K x x st f fd) (h:defArgs st = ⟨[],[⟨"wall",none,p0⟩,⟨"letter",none,p1⟩,⟨"value",none,p2⟩],none,[],[],none,[]⟩):Binds K fd ["wall","letter","value"] []:=F.binds fun _ _ _ _ _ _ us hl=>match us,hl with | [_,_,_],_=>by rw [h]; rfl
theorem bd24 {K:PySem.W.Frag} {x:Str} {st:Stmt} {p0 p1 p2:Pos} {f:Addr} {fd:FuncData} (F:Fun K x x st f fd) (h:defArgs st = ⟨[],[⟨"wall",none,p0⟩,⟨"letters",none,p1⟩,⟨"handed",none,p2⟩],none,[],[],none,[]⟩):Binds K fd ["wall","letters","handed"] []:=F.binds fun _ _ _ _ _ _ us hl=>match us,hl with | [_,_,_],_=>by rw [h]; rfl
theorem bd25 {K:PySem.W.Frag} {x:Str} {st:Stmt} {p0 p1 p2:Pos} {f:Addr} {fd:FuncData} (F:Fun K x x st f fd) (h:defArgs st = ⟨[],[⟨"wall",none,p0⟩,⟨"rows",none,p1⟩,⟨"columns",none,p2⟩],none,[],[],none,[]⟩):Binds K fd ["wall","rows","columns"] []:=F.binds fun _ _ _ _ _ _ us hl=>match us,hl with | [_,_,_],_=>by rw [h]; rfl
end L2.FF
end
section
namespace L2.FF
open PySem PySem.Spec PyProof.Rows
structure TopK (K:PySem.W.Frag) (C fI dB dT dO tA f0 f1 f2 f3 f4 f5 f6 f7 f8 f9 f10 f11 f12 f13 f14 f15 f16 f17 f18 f19 f20 f21 f22 f23 f24 f25 f26 f27 f28 f29 f30 f31 f32 f33 f34 f35 f36 f37 f38 f39 f40 f41 f42 f43 f44 f45 f46 f47 f48 f49 f50 f51 f52 f53 f54 f55 f56 f57 f58 f59 f60 f61 f62 f63 f64 f65 f66 f67 f68 f69 f70 f71 f72 f73 f74 f75 f76 f77 f78 f79 f80 f81 f82 f83 f84 f85 f86 f87 f88 f89 f90 f91 f92 f93 f94 f95 f96 f97 f98:Addr):Prop where
  a0:FnAt K "strip_count" s_strip_count f0
  a1:FnAt K "column_strip" s_column_strip f1
  a2:FnAt K "squares" s_squares f2
  a3:FnAt K "bent_squares" s_bent_squares f3
  a4:FnAt K "part_count" s_part_count f4
  a5:FnAt K "counted" s_counted f5
  a6:FnAt K "flattened" s_flattened f6
  a7:FnAt K "without" s_without f7
  a8:FnAt K "joined" s_joined f8
  a9:FnAt K "bar_firsts" s_bar_firsts f9
  a10:FnAt K "shears" s_shears f10
  a11:FnAt K "keeps_angle" s_keeps_angle f11
  a12:FnAt K "angles" s_angles f12
  a13:FnAt K "is_spare" s_is_spare f13
  a14:FnAt K "call_brace" s_call_brace f14
  a15:FnAt K "call_free" s_call_free f15
  a16:FnAt K "call_firm" s_call_firm f16
  a17:FnAt K "call_parts" s_call_parts f17
  a18:FnAt K "call_part" s_call_part f18
  a19:FnAt K "call_still" s_call_still f19
  a20:FnAt K "call_stills" s_call_stills f20
  a21:FnAt K "call_alike" s_call_alike f21
  a22:FnAt K "call_spare" s_call_spare f22
  a23:FnAt K "call_spares" s_call_spares f23
  a24:FnAt K "call_put" s_call_put f24
  a25:FnAt K "call_thin" s_call_thin f25
  a26:FnAt K "call_turn" s_call_turn f26
  a27:FnAt K "call_falls" s_call_falls f27
  a28:FnAt K "call_would" s_call_would f28
  a29:FnAt K "call_least" s_call_least f29
  a30:FnAt K "call_all" s_call_all f30
  a31:FnAt K "call_row" s_call_row f31
  a32:FnAt K "call_column" s_call_column f32
  a33:FnAt K "bar_answer" s_bar_answer f33
  a34:FnAt K "two_ties" s_two_ties f34
  a35:FnAt K "from_strip" s_from_strip f35
  a36:FnAt K "to_strip" s_to_strip f36
  a37:FnAt K "comes" s_comes f37
  a38:FnAt K "stepped" s_stepped f38
  a39:FnAt K "tie_table" s_tie_table f39
  a40:FnAt K "reached" s_reached f40
  a41:FnAt K "together" s_together f41
  a42:FnAt K "table_firsts" s_table_firsts f42
  a43:FnAt K "tie_parts" s_tie_parts f43
  a44:FnAt K "is_firm" s_is_firm f44
  a45:FnAt K "is_end" s_is_end f45
  a46:FnAt K "is_start" s_is_start f46
  a47:FnAt K "part_leaders" s_part_leaders f47
  a48:FnAt K "end_leaders" s_end_leaders f48
  a49:FnAt K "start_leaders" s_start_leaders f49
  a50:FnAt K "may_lean" s_may_lean f50
  a51:FnAt K "all_leans" s_all_leans f51
  a52:FnAt K "lean_count" s_lean_count f52
  a53:FnAt K "is_spare_tie" s_is_spare_tie f53
  a54:FnAt K "might_do" s_might_do f54
  a55:FnAt K "first_set" s_first_set f55
  a56:FnAt K "call_tie" s_call_tie f56
  a57:FnAt K "call_untie" s_call_untie f57
  a58:FnAt K "call_tfirm" s_call_tfirm f58
  a59:FnAt K "call_reach" s_call_reach f59
  a60:FnAt K "call_tpart" s_call_tpart f60
  a61:FnAt K "call_tparts" s_call_tparts f61
  a62:FnAt K "call_ends" s_call_ends f62
  a63:FnAt K "call_leans" s_call_leans f63
  a64:FnAt K "call_tall" s_call_tall f64
  a65:FnAt K "call_lean" s_call_lean f65
  a66:FnAt K "call_tturn" s_call_tturn f66
  a67:FnAt K "call_tspare" s_call_tspare f67
  a68:FnAt K "call_tspares" s_call_tspares f68
  a69:FnAt K "call_tput" s_call_tput f69
  a70:FnAt K "call_twould" s_call_twould f70
  a71:FnAt K "call_tfalls" s_call_tfalls f71
  a72:FnAt K "call_stiff" s_call_stiff f72
  a73:FnAt K "call_flip" s_call_flip f73
  a74:FnAt K "call_ties" s_call_ties f74
  a75:FnAt K "tie_answer" s_tie_answer f75
  a76:FnAt K "mixed_ties" s_mixed_ties f76
  a77:FnAt K "mixed_table" s_mixed_table f77
  a78:FnAt K "mixed_parts" s_mixed_parts f78
  a79:FnAt K "needed_bars" s_needed_bars f79
  a80:FnAt K "first_kinds" s_first_kinds f80
  a81:FnAt K "call_both" s_call_both f81
  a82:FnAt K "call_single" s_call_single f82
  a83:FnAt K "call_can" s_call_can f83
  a84:FnAt K "call_needed" s_call_needed f84
  a85:FnAt K "call_mixed" s_call_mixed f85
  a86:FnAt K "call_mleans" s_call_mleans f86
  a87:FnAt K "call_mpart" s_call_mpart f87
  a88:FnAt K "call_idle" s_call_idle f88
  a89:FnAt K "call_clear" s_call_clear f89
  a90:FnAt K "call_change" s_call_change f90
  a91:FnAt K "call_count" s_call_count f91
  a92:FnAt K "call_state" s_call_state f92
  a93:FnAt K "both_answer" s_both_answer f93
  a94:FnAt K "is_there" s_is_there f94
  a95:FnAt K "all_there" s_all_there f95
  a96:FnAt K "begin" s_begin f96
  a97:FnAt K "answer" s_answer f97
  a98:FnAt K "answers" s_answers f98
  c_NONE_SUCH:GlI K "NONE_SUCH" (-2)
  c_NOT_THERE:GlI K "NOT_THERE" (-6)
  c_NOT_BEGUN:GlI K "NOT_BEGUN" (-11)
  c_THERE_ALREADY:GlI K "THERE_ALREADY" (-17)
  c_OUT_OF_RANGE:GlI K "OUT_OF_RANGE" (-22)
  c_TOO_MANY:GlI K "TOO_MANY" (-28)
  c_NOT_SO:GlI K "NOT_SO" (-33)
  c_KINDS:GlI K "KINDS" (2)
  c_MOST_SQUARES:GlI K "MOST_SQUARES" (9)
  c_MOST_MORE:GlI K "MOST_MORE" (4)
  c_MOST_BARS:GlI K "MOST_BARS" (9)
  c_MOST_ROWS:GlI K "MOST_ROWS" (5)
  c_MOST_COLUMNS:GlI K "MOST_COLUMNS" (5)
  c_BEGIN:GlI K "BEGIN" (0)
  c_FIRST_TIE_CALL:GlI K "FIRST_TIE_CALL" (20)
  c_FIRST_BOTH_CALL:GlI K "FIRST_BOTH_CALL" (39)
  c_WAY:GlS K "WAY" "w"
  n_len:PySem.W.nsIn K mainGlobals "len" = some none
  n_range:PySem.W.nsIn K mainGlobals "range" = some none
  n_list:PySem.W.nsIn K mainGlobals "list" = some none
  n_tuple:PySem.W.nsIn K mainGlobals "tuple" = some none
  n_sum:PySem.W.nsIn K mainGlobals "sum" = some none
  n_min:PySem.W.nsIn K mainGlobals "min" = some none
  n_max:PySem.W.nsIn K mainGlobals "max" = some none
  n_all:PySem.W.nsIn K mainGlobals "all" = some none
  n_zip:PySem.W.nsIn K mainGlobals "zip" = some none
  n_reversed:PySem.W.nsIn K mainGlobals "reversed" = some none
  cC:PySem.W.nsIn K mainGlobals "Wall" = some (some (.ref C))
  cl:Cls K C
  mkk:Mk K C fI
  fI:∃ fd,Fun K "__init__" "Wall.__init__" s_init fI fd
  nR:PySem.W.findIn K (.ref C) "rows" = some none
  nC:PySem.W.findIn K (.ref C) "columns" = some none
  nB:PySem.W.findIn K (.ref C) "bars" = some none
  nT:PySem.W.findIn K (.ref C) "ties" = some none
  gB:PySem.W.nsIn K mainGlobals "BAR_CALLS" = some (some (.ref dB))
  gT:PySem.W.nsIn K mainGlobals "TIE_CALLS" = some (some (.ref dT))
  gO:PySem.W.nsIn K mainGlobals "BOTH_CALLS" = some (some (.ref dO))
  gA:PySem.W.nsIn K mainGlobals "ARGUMENTS" = some (some (.ref tA))
  kB:KDict K dB [(1,f14),(2,f15),(3,f16),(4,f17),(5,f18),(6,f19),(7,f20),(8,f21),(9,f22),(10,f23),(11,f24),(12,f25),(13,f26),(14,f27),(15,f28),(16,f29),(17,f30),(18,f31),(19,f32)]
  kT:KDict K dT [(20,f56),(21,f57),(22,f58),(23,f59),(24,f60),(25,f61),(26,f62),(27,f63),(28,f64),(29,f65),(30,f66),(31,f67),(32,f68),(33,f69),(34,f70),(35,f71),(36,f72),(37,f73),(38,f74)]
  kO:KDict K dO [(39,f81),(40,f82),(41,f83),(42,f84),(43,f85),(44,f86),(45,f87),(46,f88),(47,f89),(48,f90),(49,f91),(50,f92)]
  kA:KTexts K tA argX
theorem all_mk {P:Program} {w:World} {K:PySem.W.Frag} {h:Heap} {mg:Str -> Option Value} {fa C fI dB dT dO tA f0 f1 f2 f3 f4 f5 f6 f7 f8 f9 f10 f11 f12 f13 f14 f15 f16 f17 f18 f19 f20 f21 f22 f23 f24 f25 f26 f27 f28 f29 f30 f31 f32 f33 f34 f35 f36 f37 f38 f39 f40 f41 f42 f43 f44 f45 f46 f47 f48 f49 f50 f51 f52 f53 f54 f55 f56 f57 f58 f59 f60 f61 f62 f63 f64 f65 f66 f67 f68 f69 f70 f71 f72 f73 f74 f75 f76 f77 f78 f79 f80 f81 f82 f83 f84 f85 f86 f87 f88 f89 f90 f91 f92 f93 f94 f95 f96 f97 f98:Addr} (X0:K.In h) (G0:h.Ns mainGlobals mg) (hfa:mg "answers" = some (.ref fa)) (Q:TopK K C fI dB dT dO tA f0 f1 f2 f3 f4 f5 f6 f7 f8 f9 f10 f11 f12 f13 f14 f15 f16 f17 f18 f19 f20 f21 f22 f23 f24 f25 f26 f27 f28 f29 f30 f31 f32 f33 f34 f35 f36 f37 f38 f39 f40 f41 f42 f43 f44 f45 f46 f47 f48 f49 f50 f51 f52 f53 f54 f55 f56 f57 f58 f59 f60 f61 f62 f63 f64 f65 f66 f67 f68 f69 f70 f71 f72 f73 f74 f75 f76 f77 f78 f79 f80 f81 f82 f83 f84 f85 f86 f87 f88 f89 f90 f91 f92 f93 f94 f95 f96 f97 f98) :
    ∃ fd:FuncData,(∀ (s:Shared) (us:List Value),us.length = (["calls"]:List Str).length -> BindsTo s fd ⟨us,[]⟩ ((["calls"]:List Str).zip us)) /\ ∀ base:Heap,K.In base -> base.Ns mainGlobals mg -> FnOk P w K mg base CX0 18 fa fd ["calls"] (sp_answers 0 K MM argX):=by
  have g:=fun {x:Str} {u:Value} (e:PySem.W.nsIn K mainGlobals x = some (some u))=>PySem.W.mg_of X0 G0 e
  have g0:=fun {x:Str} (e:PySem.W.nsIn K mainGlobals x = some none)=>PySem.W.mg_none_of X0 G0 e
  have M:Mods mg:=⟨g0 Q.n_len,g0 Q.n_range,g0 Q.n_list,g0 Q.n_tuple,g0 Q.n_sum,g0 Q.n_min,g0 Q.n_max,g0 Q.n_all,g0 Q.n_zip,g0 Q.n_reversed,Q.c_NONE_SUCH.imp fun _ e=>g e,Q.c_NOT_THERE.imp fun _ e=>g e,Q.c_NOT_BEGUN.imp fun _ e=>g e,Q.c_THERE_ALREADY.imp fun _ e=>g e,Q.c_OUT_OF_RANGE.imp fun _ e=>g e,Q.c_MOST_ROWS.imp fun _ e=>g e,Q.c_MOST_COLUMNS.imp fun _ e=>g e,Q.c_KINDS.imp fun _ e=>g e,Q.c_BEGIN.imp fun _ e=>g e,Q.c_WAY.imp fun _ e=>g e,Q.c_TOO_MANY.imp fun _ e=>g e,Q.c_NOT_SO.imp fun _ e=>g e,Q.c_MOST_SQUARES.imp fun _ e=>g e,Q.c_MOST_MORE.imp fun _ e=>g e,Q.c_MOST_BARS.imp fun _ e=>g e,Q.c_FIRST_BOTH_CALL.imp fun _ e=>g e,Q.c_FIRST_TIE_CALL.imp fun _ e=>g e⟩
  have X:Txt K C:=⟨Q.cl,Q.nR,Q.nC,Q.nB,Q.nT⟩
  have MK:=Q.mkk
  obtain ⟨fdI,FI⟩:=Q.fI
  have bI:Binds K fdI ["self"] []:=FI.binds fun _ _ _ _ _ _ us hl=>match us,hl with | [_],_=>rfl
  obtain ⟨d0,F0⟩:=Q.a0.ex
  obtain ⟨d1,F1⟩:=Q.a1.ex
  obtain ⟨d2,F2⟩:=Q.a2.ex
  obtain ⟨d3,F3⟩:=Q.a3.ex
  obtain ⟨d4,F4⟩:=Q.a4.ex
  obtain ⟨d5,F5⟩:=Q.a5.ex
  obtain ⟨d6,F6⟩:=Q.a6.ex
  obtain ⟨d7,F7⟩:=Q.a7.ex
  obtain ⟨d8,F8⟩:=Q.a8.ex
  obtain ⟨d9,F9⟩:=Q.a9.ex
  obtain ⟨d10,F10⟩:=Q.a10.ex
  obtain ⟨d11,F11⟩:=Q.a11.ex
  obtain ⟨d12,F12⟩:=Q.a12.ex
  obtain ⟨d13,F13⟩:=Q.a13.ex
  obtain ⟨d14,F14⟩:=Q.a14.ex
  obtain ⟨d15,F15⟩:=Q.a15.ex
  obtain ⟨d16,F16⟩:=Q.a16.ex
  obtain ⟨d17,F17⟩:=Q.a17.ex
  obtain ⟨d18,F18⟩:=Q.a18.ex
  obtain ⟨d19,F19⟩:=Q.a19.ex
  obtain ⟨d20,F20⟩:=Q.a20.ex
  obtain ⟨d21,F21⟩:=Q.a21.ex
  obtain ⟨d22,F22⟩:=Q.a22.ex
  obtain ⟨d23,F23⟩:=Q.a23.ex
  obtain ⟨d24,F24⟩:=Q.a24.ex
  obtain ⟨d25,F25⟩:=Q.a25.ex
  obtain ⟨d26,F26⟩:=Q.a26.ex
  obtain ⟨d27,F27⟩:=Q.a27.ex
  obtain ⟨d28,F28⟩:=Q.a28.ex
  obtain ⟨d29,F29⟩:=Q.a29.ex
  obtain ⟨d30,F30⟩:=Q.a30.ex
  obtain ⟨d31,F31⟩:=Q.a31.ex
  obtain ⟨d32,F32⟩:=Q.a32.ex
  obtain ⟨d33,F33⟩:=Q.a33.ex
  obtain ⟨d34,F34⟩:=Q.a34.ex
  obtain ⟨d35,F35⟩:=Q.a35.ex
  obtain ⟨d36,F36⟩:=Q.a36.ex
  obtain ⟨d37,F37⟩:=Q.a37.ex
  obtain ⟨d38,F38⟩:=Q.a38.ex
  obtain ⟨d39,F39⟩:=Q.a39.ex
  obtain ⟨d40,F40⟩:=Q.a40.ex
  obtain ⟨d41,F41⟩:=Q.a41.ex
  obtain ⟨d42,F42⟩:=Q.a42.ex
  obtain ⟨d43,F43⟩:=Q.a43.ex
  obtain ⟨d44,F44⟩:=Q.a44.ex
  obtain ⟨d45,F45⟩:=Q.a45.ex
  obtain ⟨d46,F46⟩:=Q.a46.ex
  obtain ⟨d47,F47⟩:=Q.a47.ex
  obtain ⟨d48,F48⟩:=Q.a48.ex
  obtain ⟨d49,F49⟩:=Q.a49.ex
  obtain ⟨d50,F50⟩:=Q.a50.ex
  obtain ⟨d51,F51⟩:=Q.a51.ex
  obtain ⟨d52,F52⟩:=Q.a52.ex
  obtain ⟨d53,F53⟩:=Q.a53.ex
  obtain ⟨d54,F54⟩:=Q.a54.ex
  obtain ⟨d55,F55⟩:=Q.a55.ex
  obtain ⟨d56,F56⟩:=Q.a56.ex
  obtain ⟨d57,F57⟩:=Q.a57.ex
  obtain ⟨d58,F58⟩:=Q.a58.ex
  obtain ⟨d59,F59⟩:=Q.a59.ex
  obtain ⟨d60,F60⟩:=Q.a60.ex
  obtain ⟨d61,F61⟩:=Q.a61.ex
  obtain ⟨d62,F62⟩:=Q.a62.ex
  obtain ⟨d63,F63⟩:=Q.a63.ex
  obtain ⟨d64,F64⟩:=Q.a64.ex
  obtain ⟨d65,F65⟩:=Q.a65.ex
  obtain ⟨d66,F66⟩:=Q.a66.ex
  obtain ⟨d67,F67⟩:=Q.a67.ex
  obtain ⟨d68,F68⟩:=Q.a68.ex
  obtain ⟨d69,F69⟩:=Q.a69.ex
  obtain ⟨d70,F70⟩:=Q.a70.ex
  obtain ⟨d71,F71⟩:=Q.a71.ex
  obtain ⟨d72,F72⟩:=Q.a72.ex
  obtain ⟨d73,F73⟩:=Q.a73.ex
  obtain ⟨d74,F74⟩:=Q.a74.ex
  obtain ⟨d75,F75⟩:=Q.a75.ex
  obtain ⟨d76,F76⟩:=Q.a76.ex
  obtain ⟨d77,F77⟩:=Q.a77.ex
  obtain ⟨d78,F78⟩:=Q.a78.ex
  obtain ⟨d79,F79⟩:=Q.a79.ex
  obtain ⟨d80,F80⟩:=Q.a80.ex
  obtain ⟨d81,F81⟩:=Q.a81.ex
  obtain ⟨d82,F82⟩:=Q.a82.ex
  obtain ⟨d83,F83⟩:=Q.a83.ex
  obtain ⟨d84,F84⟩:=Q.a84.ex
  obtain ⟨d85,F85⟩:=Q.a85.ex
  obtain ⟨d86,F86⟩:=Q.a86.ex
  obtain ⟨d87,F87⟩:=Q.a87.ex
  obtain ⟨d88,F88⟩:=Q.a88.ex
  obtain ⟨d89,F89⟩:=Q.a89.ex
  obtain ⟨d90,F90⟩:=Q.a90.ex
  obtain ⟨d91,F91⟩:=Q.a91.ex
  obtain ⟨d92,F92⟩:=Q.a92.ex
  obtain ⟨d93,F93⟩:=Q.a93.ex
  obtain ⟨d94,F94⟩:=Q.a94.ex
  obtain ⟨d95,F95⟩:=Q.a95.ex
  obtain ⟨d96,F96⟩:=Q.a96.ex
  obtain ⟨d97,F97⟩:=Q.a97.ex
  obtain ⟨d98,F98⟩:=Q.a98.ex
  have e:=hfa.symm.trans (g Q.a98.a)
  cases e
  refine ⟨d98,fun s us hu=>?_,fun base _ _=>?_⟩
  · obtain ⟨oc,od,kV,doc,pm,an,cdv,ct,osl,rfl,lk,hcd⟩:=F98.ex
    exact match us,hu with | [_],_=>.of_eq rfl
  have c0:=Fn.mk' F0 (g Q.a0.a) (bd0 F0 rfl) (ok_strip_count (mg:=mg) (P:=P) (w:=w) (base:=base) X M  F0)
  have c1:=Fn.mk' F1 (g Q.a1.a) (bd1 F1 rfl) (ok_column_strip (mg:=mg) (P:=P) (w:=w) (base:=base) X M  F1)
  have c2:=Fn.mk' F2 (g Q.a2.a) (bd0 F2 rfl) (ok_squares (mg:=mg) (P:=P) (w:=w) (base:=base) X M  F2)
  have c3:=Fn.mk' F3 (g Q.a3.a) (bd2 F3 rfl) (ok_bent_squares X M c1 c2 F3)
  have c4:=Fn.mk' F4 (g Q.a4.a) (bd3 F4 rfl) (ok_part_count (mg:=mg) (P:=P) (w:=w) (base:=base) X M  F4)
  have c5:=Fn.mk' F5 (g Q.a5.a) (bd4 F5 rfl) (ok_counted (mg:=mg) (P:=P) (w:=w) (base:=base) X M  F5)
  have c6:=Fn.mk' F6 (g Q.a6.a) (bd5 F6 rfl) (ok_flattened (mg:=mg) (P:=P) (w:=w) (base:=base) X M  F6)
  have c7:=Fn.mk' F7 (g Q.a7.a) (bd6 F7 rfl) (ok_without (mg:=mg) (P:=P) (w:=w) (base:=base) X M  F7)
  have c8:=Fn.mk' F8 (g Q.a8.a) (bd7 F8 rfl) (ok_joined X M c1 F8)
  have c9:=Fn.mk' F9 (g Q.a9.a) (bd8 F9 rfl) (ok_bar_firsts X M c0 c8 F9)
  have c10:=Fn.mk' F10 (g Q.a10.a) (bd8 F10 rfl) (ok_shears X M c4 c9 F10)
  have c11:=Fn.mk' F11 (g Q.a11.a) (bd9 F11 rfl) (ok_keeps_angle X M c1 F11)
  have c12:=Fn.mk' F12 (g Q.a12.a) (bd8 F12 rfl) (ok_angles X M c9 c2 c11 F12)
  have c13:=Fn.mk' F13 (g Q.a13.a) (bd10 F13 rfl) (ok_is_spare X M c10 c7 F13)
  have o14:=ok_call_brace X M c10 F14
  have o15:=ok_call_free X M c10 F15
  have o16:=ok_call_firm X M c10 F16
  have o17:=ok_call_parts X M c5 c9 F17
  have o18:=ok_call_part X M c9 c5 F18
  have o19:=ok_call_still X M c11 c9 F19
  have o20:=ok_call_stills X M c12 F20
  have o21:=ok_call_alike X M c9 c1 F21
  have o22:=ok_call_spare X M c13 F22
  have o23:=ok_call_spares X M c6 c13 F23
  have o24:=ok_call_put X M c9 c2 c11 c8 c6 F24
  have o25:=ok_call_thin X M c13 c7 c6 F25
  have o26:=ok_call_turn X M c0 c3 F26
  have o27:=ok_call_falls X M c7 c12 c10 F27
  have o28:=ok_call_would X M c10 c12 F28
  have o29:=ok_call_least X M c0 c4 c9 F29
  have o30:=ok_call_all X M c6 F30
  have o31:=ok_call_row X M c5 F31
  have o32:=ok_call_column X M c5 F32
  have c34:=Fn.mk' F34 (g Q.a34.a) (bd5 F34 rfl) (ok_two_ties (mg:=mg) (P:=P) (w:=w) (base:=base) X M  F34)
  have c35:=Fn.mk' F35 (g Q.a35.a) (bd13 F35 rfl) (ok_from_strip X M c1 F35)
  have c36:=Fn.mk' F36 (g Q.a36.a) (bd13 F36 rfl) (ok_to_strip X M c1 F36)
  have c37:=Fn.mk' F37 (g Q.a37.a) (bd14 F37 rfl) (ok_comes (mg:=mg) (P:=P) (w:=w) (base:=base) X M  F37)
  have c38:=Fn.mk' F38 (g Q.a38.a) (bd15 F38 rfl) (ok_stepped X M c35 c36 c37 F38)
  have c39:=Fn.mk' F39 (g Q.a39.a) (bd16 F39 rfl) (ok_tie_table X M c0 c38 F39)
  have c40:=Fn.mk' F40 (g Q.a40.a) (bd17 F40 rfl) (ok_reached X M c37 F40)
  have c41:=Fn.mk' F41 (g Q.a41.a) (bd17 F41 rfl) (ok_together (mg:=mg) (P:=P) (w:=w) (base:=base) X M  F41)
  have c42:=Fn.mk' F42 (g Q.a42.a) (bd18 F42 rfl) (ok_table_firsts X M c41 F42)
  have c43:=Fn.mk' F43 (g Q.a43.a) (bd16 F43 rfl) (ok_tie_parts X M c4 c42 c39 F43)
  have c44:=Fn.mk' F44 (g Q.a44.a) (bd18 F44 rfl) (ok_is_firm (mg:=mg) (P:=P) (w:=w) (base:=base) X M  F44)
  have c45:=Fn.mk' F45 (g Q.a45.a) (bd17 F45 rfl) (ok_is_end X M c40 F45)
  have c46:=Fn.mk' F46 (g Q.a46.a) (bd17 F46 rfl) (ok_is_start X M c37 F46)
  have c47:=Fn.mk' F47 (g Q.a47.a) (bd18 F47 rfl) (ok_part_leaders X M c42 F47)
  have c48:=Fn.mk' F48 (g Q.a48.a) (bd18 F48 rfl) (ok_end_leaders X M c45 c47 F48)
  have c49:=Fn.mk' F49 (g Q.a49.a) (bd18 F49 rfl) (ok_start_leaders X M c46 c47 F49)
  have c50:=Fn.mk' F50 (g Q.a50.a) (bd15 F50 rfl) (ok_may_lean X M c37 c35 c36 F50)
  have c51:=Fn.mk' F51 (g Q.a51.a) (bd19 F51 rfl) (ok_all_leans X M c34 c2 c50 F51)
  have c52:=Fn.mk' F52 (g Q.a52.a) (bd16 F52 rfl) (ok_lean_count X M c51 c39 F52)
  have c53:=Fn.mk' F53 (g Q.a53.a) (bd13 F53 rfl) (ok_is_spare_tie X M c50 c39 c7 F53)
  have c54:=Fn.mk' F54 (g Q.a54.a) (bd20 F54 rfl) (ok_might_do X M c49 c48 F54)
  have c55:=Fn.mk' F55 (g Q.a55.a) (bd21 F55 rfl) (ok_first_sets X M (g Q.a55.a) F55.kp (bd21 F55 rfl) c44 c54 c38 F55 5)
  have o56:=ok_call_tie X M c43 F56
  have o57:=ok_call_untie X M c43 F57
  have o58:=ok_call_tfirm X M c43 F58
  have o59:=ok_call_reach X M c5 c40 c39 F59
  have o60:=ok_call_tpart X M c5 c41 c39 F60
  have o61:=ok_call_tparts X M c5 c42 c39 F61
  have o62:=ok_call_ends X M c39 c48 c49 F62
  have o63:=ok_call_leans X M c50 c39 F63
  have o64:=ok_call_tall X M c51 c39 F64
  have o65:=ok_call_lean X M c39 c50 c35 c5 c37 F65
  have o66:=ok_call_tturn X M c0 c35 c36 c3 F66
  have o67:=ok_call_tspare X M c53 F67
  have o68:=ok_call_tspares X M c6 c53 F68
  have o69:=ok_call_tput X M c39 c34 c2 c55 c6 F69
  have o70:=ok_call_twould X M c43 c52 F70
  have o71:=ok_call_tfalls X M c7 c43 c52 F71
  have o72:=ok_call_stiff X M c41 c39 c34 c1 F72
  have o73:=ok_call_flip X M c43 F73
  have o74:=ok_call_ties X M c6 F74
  have c76:=Fn.mk' F76 (g Q.a76.a) (bd8 F76 rfl) (ok_mixed_ties X M c34 F76)
  have c77:=Fn.mk' F77 (g Q.a77.a) (bd0 F77 rfl) (ok_mixed_table X M c39 c76 F77)
  have c78:=Fn.mk' F78 (g Q.a78.a) (bd8 F78 rfl) (ok_mixed_parts X M c43 c76 F78)
  have c79:=Fn.mk' F79 (g Q.a79.a) (bd0 F79 rfl) (ok_needed_bars X M c13 F79)
  have c80:=Fn.mk' F80 (g Q.a80.a) (bd22 F80 rfl) (ok_first_kindss X M (g Q.a80.a) F80.kp (bd22 F80 rfl) c44 c38 F80 10)
  have o81:=ok_call_both X M c34 c43 F81
  have o82:=ok_call_single X M c80 c39 c5 F82
  have o83:=ok_call_can X M c79 c10 F83
  have o84:=ok_call_needed X M c6 c79 F84
  have o85:=ok_call_mixed X M c78 c52 c76 F85
  have o86:=ok_call_mleans X M c50 c77 F86
  have o87:=ok_call_mpart X M c5 c41 c77 F87
  have o88:=ok_call_idle X M c78 c6 c7 F88
  have o89:=ok_call_clear (mg:=mg) (P:=P) (w:=w) (base:=base) X M  F89
  have o90:=ok_call_change X M c43 c34 c10 c78 F90
  have o91:=ok_call_count X M c0 F91
  have o92:=ok_call_state (mg:=mg) (P:=P) (w:=w) (base:=base) X M  F92
  have c94:=Fn.mk' F94 (g Q.a94.a) (bd23 F94 rfl) (ok_is_there X M c0 F94)
  have c95:=Fn.mk' F95 (g Q.a95.a) (bd24 F95 rfl) (ok_all_there X M c94 F95)
  have c96:=Fn.mk' F96 (g Q.a96.a) (bd25 F96 rfl) (ok_begin (mg:=mg) (P:=P) (w:=w) (base:=base) X M  F96)
  have TB:∀ k,1 <= k -> k < 20 -> ∃ f,(((k:Nat):Int),f) ∈ [((1:Int),f14),((2:Int),f15),((3:Int),f16),((4:Int),f17),((5:Int),f18),((6:Int),f19),((7:Int),f20),((8:Int),f21),((9:Int),f22),((10:Int),f23),((11:Int),f24),((12:Int),f25),((13:Int),f26),((14:Int),f27),((15:Int),f28),((16:Int),f29),((17:Int),f30),((18:Int),f31),((19:Int),f32)] /\ DefOk P w K mg base 15 f (spU C (okC k) (upC k) (anC k))
    | 1,_,_=>⟨_,List.mem_of_getElem? (i:=0) rfl,.mk' F14 (bd11 F14 rfl) (t1 o14) (by decide)⟩
    | 2,_,_=>⟨_,List.mem_of_getElem? (i:=1) rfl,.mk' F15 (bd11 F15 rfl) (t2 o15) (by decide)⟩
    | 3,_,_=>⟨_,List.mem_of_getElem? (i:=2) rfl,.mk' F16 (bd11 F16 rfl) (t3 o16) (by decide)⟩
    | 4,_,_=>⟨_,List.mem_of_getElem? (i:=3) rfl,.mk' F17 (bd11 F17 rfl) (t4 o17) (by decide)⟩
    | 5,_,_=>⟨_,List.mem_of_getElem? (i:=4) rfl,.mk' F18 (bd11 F18 rfl) (t5 o18) (by decide)⟩
    | 6,_,_=>⟨_,List.mem_of_getElem? (i:=5) rfl,.mk' F19 (bd11 F19 rfl) (t6 o19) (by decide)⟩
    | 7,_,_=>⟨_,List.mem_of_getElem? (i:=6) rfl,.mk' F20 (bd11 F20 rfl) (t7 o20) (by decide)⟩
    | 8,_,_=>⟨_,List.mem_of_getElem? (i:=7) rfl,.mk' F21 (bd11 F21 rfl) (t8 o21) (by decide)⟩
    | 9,_,_=>⟨_,List.mem_of_getElem? (i:=8) rfl,.mk' F22 (bd11 F22 rfl) (t9 o22) (by decide)⟩
    | 10,_,_=>⟨_,List.mem_of_getElem? (i:=9) rfl,.mk' F23 (bd11 F23 rfl) (t10 o23) (by decide)⟩
    | 11,_,_=>⟨_,List.mem_of_getElem? (i:=10) rfl,.mk' F24 (bd11 F24 rfl) (t11 o24) (by decide)⟩
    | 12,_,_=>⟨_,List.mem_of_getElem? (i:=11) rfl,.mk' F25 (bd11 F25 rfl) (t12 o25) (by decide)⟩
    | 13,_,_=>⟨_,List.mem_of_getElem? (i:=12) rfl,.mk' F26 (bd2 F26 rfl) (t13 o26) (by decide)⟩
    | 14,_,_=>⟨_,List.mem_of_getElem? (i:=13) rfl,.mk' F27 (bd11 F27 rfl) (t14 o27) (by decide)⟩
    | 15,_,_=>⟨_,List.mem_of_getElem? (i:=14) rfl,.mk' F28 (bd11 F28 rfl) (t15 o28) (by decide)⟩
    | 16,_,_=>⟨_,List.mem_of_getElem? (i:=15) rfl,.mk' F29 (bd11 F29 rfl) (t16 o29) (by decide)⟩
    | 17,_,_=>⟨_,List.mem_of_getElem? (i:=16) rfl,.mk' F30 (bd11 F30 rfl) (t17 o30) (by decide)⟩
    | 18,_,_=>⟨_,List.mem_of_getElem? (i:=17) rfl,.mk' F31 (bd11 F31 rfl) (t18 o31) (by decide)⟩
    | 19,_,_=>⟨_,List.mem_of_getElem? (i:=18) rfl,.mk' F32 (bd11 F32 rfl) (t19 o32) (by decide)⟩
    | 0,h,_=>absurd h (by decide)
    | k + 20,_,h=>absurd h (by omega)
  have c33:=Fn.mk' F33 (g Q.a33.a) (bd12 F33 rfl) (ok_bar_answer X M Q.kB (g Q.gB) TB F33)
  have TT:∀ k,20 <= k -> k < 39 -> ∃ f,(((k:Nat):Int),f) ∈ [((20:Int),f56),((21:Int),f57),((22:Int),f58),((23:Int),f59),((24:Int),f60),((25:Int),f61),((26:Int),f62),((27:Int),f63),((28:Int),f64),((29:Int),f65),((30:Int),f66),((31:Int),f67),((32:Int),f68),((33:Int),f69),((34:Int),f70),((35:Int),f71),((36:Int),f72),((37:Int),f73),((38:Int),f74)] /\ DefOk P w K mg base 15 f (spU C (okC k) (upC k) (anC k))
    | 20,_,_=>⟨_,List.mem_of_getElem? (i:=0) rfl,.mk' F56 (bd11 F56 rfl) (t20 o56) (by decide)⟩
    | 21,_,_=>⟨_,List.mem_of_getElem? (i:=1) rfl,.mk' F57 (bd11 F57 rfl) (t21 o57) (by decide)⟩
    | 22,_,_=>⟨_,List.mem_of_getElem? (i:=2) rfl,.mk' F58 (bd11 F58 rfl) (t22 o58) (by decide)⟩
    | 23,_,_=>⟨_,List.mem_of_getElem? (i:=3) rfl,.mk' F59 (bd11 F59 rfl) (t23 o59) (by decide)⟩
    | 24,_,_=>⟨_,List.mem_of_getElem? (i:=4) rfl,.mk' F60 (bd11 F60 rfl) (t24 o60) (by decide)⟩
    | 25,_,_=>⟨_,List.mem_of_getElem? (i:=5) rfl,.mk' F61 (bd11 F61 rfl) (t25 o61) (by decide)⟩
    | 26,_,_=>⟨_,List.mem_of_getElem? (i:=6) rfl,.mk' F62 (bd11 F62 rfl) (t26 o62) (by decide)⟩
    | 27,_,_=>⟨_,List.mem_of_getElem? (i:=7) rfl,.mk' F63 (bd11 F63 rfl) (t27 o63) (by decide)⟩
    | 28,_,_=>⟨_,List.mem_of_getElem? (i:=8) rfl,.mk' F64 (bd11 F64 rfl) (t28 o64) (by decide)⟩
    | 29,_,_=>⟨_,List.mem_of_getElem? (i:=9) rfl,.mk' F65 (bd11 F65 rfl) (t29 o65) (by decide)⟩
    | 30,_,_=>⟨_,List.mem_of_getElem? (i:=10) rfl,.mk' F66 (bd2 F66 rfl) (t30 o66) (by decide)⟩
    | 31,_,_=>⟨_,List.mem_of_getElem? (i:=11) rfl,.mk' F67 (bd11 F67 rfl) (t31 o67) (by decide)⟩
    | 32,_,_=>⟨_,List.mem_of_getElem? (i:=12) rfl,.mk' F68 (bd11 F68 rfl) (t32 o68) (by decide)⟩
    | 33,_,_=>⟨_,List.mem_of_getElem? (i:=13) rfl,.mk' F69 (bd11 F69 rfl) (t33 o69) (by decide)⟩
    | 34,_,_=>⟨_,List.mem_of_getElem? (i:=14) rfl,.mk' F70 (bd11 F70 rfl) (t34 o70) (by decide)⟩
    | 35,_,_=>⟨_,List.mem_of_getElem? (i:=15) rfl,.mk' F71 (bd11 F71 rfl) (t35 o71) (by decide)⟩
    | 36,_,_=>⟨_,List.mem_of_getElem? (i:=16) rfl,.mk' F72 (bd11 F72 rfl) (t36 o72) (by decide)⟩
    | 37,_,_=>⟨_,List.mem_of_getElem? (i:=17) rfl,.mk' F73 (bd11 F73 rfl) (t37 o73) (by decide)⟩
    | 38,_,_=>⟨_,List.mem_of_getElem? (i:=18) rfl,.mk' F74 (bd11 F74 rfl) (t38 o74) (by decide)⟩
    | 0,h,_=>absurd h (by decide)
    | 1,h,_=>absurd h (by decide)
    | 2,h,_=>absurd h (by decide)
    | 3,h,_=>absurd h (by decide)
    | 4,h,_=>absurd h (by decide)
    | 5,h,_=>absurd h (by decide)
    | 6,h,_=>absurd h (by decide)
    | 7,h,_=>absurd h (by decide)
    | 8,h,_=>absurd h (by decide)
    | 9,h,_=>absurd h (by decide)
    | 10,h,_=>absurd h (by decide)
    | 11,h,_=>absurd h (by decide)
    | 12,h,_=>absurd h (by decide)
    | 13,h,_=>absurd h (by decide)
    | 14,h,_=>absurd h (by decide)
    | 15,h,_=>absurd h (by decide)
    | 16,h,_=>absurd h (by decide)
    | 17,h,_=>absurd h (by decide)
    | 18,h,_=>absurd h (by decide)
    | 19,h,_=>absurd h (by decide)
    | k + 39,_,h=>absurd h (by omega)
  have c75:=Fn.mk' F75 (g Q.a75.a) (bd12 F75 rfl) (ok_tie_answer X M Q.kT (g Q.gT) TT F75)
  have TO:∀ k,39 <= k -> k < 51 -> ∃ f,(((k:Nat):Int),f) ∈ [((39:Int),f81),((40:Int),f82),((41:Int),f83),((42:Int),f84),((43:Int),f85),((44:Int),f86),((45:Int),f87),((46:Int),f88),((47:Int),f89),((48:Int),f90),((49:Int),f91),((50:Int),f92)] /\ DefOk P w K mg base 15 f (spU C (okC k) (upC k) (anC k))
    | 39,_,_=>⟨_,List.mem_of_getElem? (i:=0) rfl,.mk' F81 (bd11 F81 rfl) (t39 o81) (by decide)⟩
    | 40,_,_=>⟨_,List.mem_of_getElem? (i:=1) rfl,.mk' F82 (bd11 F82 rfl) (t40 o82) (by decide)⟩
    | 41,_,_=>⟨_,List.mem_of_getElem? (i:=2) rfl,.mk' F83 (bd11 F83 rfl) (t41 o83) (by decide)⟩
    | 42,_,_=>⟨_,List.mem_of_getElem? (i:=3) rfl,.mk' F84 (bd11 F84 rfl) (t42 o84) (by decide)⟩
    | 43,_,_=>⟨_,List.mem_of_getElem? (i:=4) rfl,.mk' F85 (bd11 F85 rfl) (t43 o85) (by decide)⟩
    | 44,_,_=>⟨_,List.mem_of_getElem? (i:=5) rfl,.mk' F86 (bd11 F86 rfl) (t44 o86) (by decide)⟩
    | 45,_,_=>⟨_,List.mem_of_getElem? (i:=6) rfl,.mk' F87 (bd11 F87 rfl) (t45 o87) (by decide)⟩
    | 46,_,_=>⟨_,List.mem_of_getElem? (i:=7) rfl,.mk' F88 (bd11 F88 rfl) (t46 o88) (by decide)⟩
    | 47,_,_=>⟨_,List.mem_of_getElem? (i:=8) rfl,.mk' F89 (bd11 F89 rfl) (t47 o89) (by decide)⟩
    | 48,_,_=>⟨_,List.mem_of_getElem? (i:=9) rfl,.mk' F90 (bd11 F90 rfl) (t48 o90) (by decide)⟩
    | 49,_,_=>⟨_,List.mem_of_getElem? (i:=10) rfl,.mk' F91 (bd11 F91 rfl) (t49 o91) (by decide)⟩
    | 50,_,_=>⟨_,List.mem_of_getElem? (i:=11) rfl,.mk' F92 (bd11 F92 rfl) (t50 o92) (by decide)⟩
    | 0,h,_=>absurd h (by decide)
    | 1,h,_=>absurd h (by decide)
    | 2,h,_=>absurd h (by decide)
    | 3,h,_=>absurd h (by decide)
    | 4,h,_=>absurd h (by decide)
    | 5,h,_=>absurd h (by decide)
    | 6,h,_=>absurd h (by decide)
    | 7,h,_=>absurd h (by decide)
    | 8,h,_=>absurd h (by decide)
    | 9,h,_=>absurd h (by decide)
    | 10,h,_=>absurd h (by decide)
    | 11,h,_=>absurd h (by decide)
    | 12,h,_=>absurd h (by decide)
    | 13,h,_=>absurd h (by decide)
    | 14,h,_=>absurd h (by decide)
    | 15,h,_=>absurd h (by decide)
    | 16,h,_=>absurd h (by decide)
    | 17,h,_=>absurd h (by decide)
    | 18,h,_=>absurd h (by decide)
    | 19,h,_=>absurd h (by decide)
    | 20,h,_=>absurd h (by decide)
    | 21,h,_=>absurd h (by decide)
    | 22,h,_=>absurd h (by decide)
    | 23,h,_=>absurd h (by decide)
    | 24,h,_=>absurd h (by decide)
    | 25,h,_=>absurd h (by decide)
    | 26,h,_=>absurd h (by decide)
    | 27,h,_=>absurd h (by decide)
    | 28,h,_=>absurd h (by decide)
    | 29,h,_=>absurd h (by decide)
    | 30,h,_=>absurd h (by decide)
    | 31,h,_=>absurd h (by decide)
    | 32,h,_=>absurd h (by decide)
    | 33,h,_=>absurd h (by decide)
    | 34,h,_=>absurd h (by decide)
    | 35,h,_=>absurd h (by decide)
    | 36,h,_=>absurd h (by decide)
    | 37,h,_=>absurd h (by decide)
    | 38,h,_=>absurd h (by decide)
    | k + 51,_,h=>absurd h (by omega)
  have c93:=Fn.mk' F93 (g Q.a93.a) (bd12 F93 rfl) (ok_both_answer X M Q.kO (g Q.gO) TO F93)
  have c97:Fn P w K mg base "answer" 17 ["wall","number","handed"] (sp_answer C MM):=.mk' F97 (g Q.a97.a) (bd12 F97 rfl) (ok_answer X M (by decide) (g Q.gA) Q.kA c96 c95 c33 c75 c93 F97)
  exact ok_answers X M (by decide) (g Q.gA) Q.kA MK (ok_init X FI) (g Q.cC) bI c97 c5 F98
end L2.FF
end
open PySem PySem.W PyProof.Rows
set_option Elab.async false
namespace PySem.W.Fast
def tw1470908765437897487:=()
def tw7491274766739434751:=()
def tw10710278209684343517:=()
def tw17964819515767100915:=()
def tw8296994955510457557:=()
def tw9331495317103248785:=()
def tw4728064074840245020:=()
def tw4257416129203013549:=()
def tw8518903258014120895:=()
def tw16485462153529775499:=()
def tw5925323152803496909:=()
def tw10960932499732447097:=()
def tw18440046346754961511:=()
def tw6576238025831189171:=()
def tw3947379114065007763:=()
def tw8512582940632411181:=()
def tw14276610583553642590:=()
def tw1051133029562636896:=()
def tw9151973989657049700:=()
def tw15885853564999784754:=()
def tw366474341315771795:=()
def tw10664487450557789492:=()
def tw5018683195078888436:=()
def tw6803482042803919396:=()
def tw3539939861727720313:=()
def tw12354540019367934921:=()
def tw8983706147001547071:=()
def tw12645495720225772355:=()
def tw7888184131448589096:=()
def tw6108599549139119856:=()
def tw15381111349847648425:=()
def tw340667424983395659:=()
def tw9532316670149056134:=()
def tw907821572854218115:=()
def tw4820752216874262788:=()
def tw4630575053477821993:=()
def tw35350823941230692:=()
def tw13634320791089410817:=()
def tw1793714675985409515:=()
def tw3424629029490802318:=()
def tw1297398753223309449:=()
def tw7259183656604594013:=()
def tw3331834474245340225:=()
def tw14424091053073262412:=()
def tw8071852701440393332:=()
def tw15511220651908172262:=()
def tw11550829038338730841:=()
def tw6518528808830134071:=()
def tw13417370073200791730:=()
def tw15620728276391102912:=()
def tw3878583533837760233:=()
def tw17516425367552703977:=()
def tw7792917756342255376:=()
def tw1683386820232276063:=()
def tw17162283634121155904:=()
def tw189198355263887640:=()
def tw3421724899926552412:=()
def tw182155049805863094:=()
def tw13918441073175349273:=()
def tw18136499136079308974:=()
def tw8963432216345716818:=()
def tw13982142757691478023:=()
def tw712350120643697750:=()
def tw18341960589672225:=()
def tw2960640704736706391:=()
def tw4191726287892160743:=()
def tw17397432620413036362:=()
def tw9505662036670721706:=()
def tw9740807080062012819:=()
def tw5205731419588711439:=()
def tw4266697194120974077:=()
def tw13196879190700468599:=()
def tw4972012537742815814:=()
def tw8809351512343653521:=()
def tw6939260008123926293:=()
def tw9448247657141157317:=()
def tw1328473719805222437:=()
def tw15557913555473993482:=()
def tw7183591318272833205:=()
def tw13973453130869412624:=()
def tw13376042542455779476:=()
def tw3404420325677915287:=()
def tw13647947728510209210:=()
def tw1254127766093816870:=()
def tw8910307580819081635:=()
def tw13143515359448852809:=()
def tw10527125734010344133:=()
def tw17281558130163608227:=()
def tw15605009679621030523:=()
def tw4952012205605778553:=()
def tw11333742736077086843:=()
def tw13951977713936276873:=()
def tw7495476450336129928:=()
def tw1386819234248707699:=()
def tw1664520577464459730:=()
def tw2154054422599465118:=()
def tw10877393025329818707:=()
def tw3172540793295045046:=()
def tw8439171481771535333:=()
def tw2877826841411192645:=()
def tw3799121449690439354:=()
def tw10477550199044736217:=()
def tw17104278851892692178:=()
def tw18028429016085799973:=()
def tw3271968562332519124:=()
def tw14688413679462456832:=()
def tw11141213968860399217:=()
def tw15948028930610318109:=()
def tw1499754778363367995:=()
def tw12746435208896040129:=()
def tw13655153949096098664:=()
def tw13185779963615974187:=()
def tw4907769861605706821:=()
def tw2891040518455065849:=()
def tw12839644605827428210:=()
def tw14727803205764256831:=()
def tw18385068143030209055:=()
def tw16734011121073084535:=()
def tw8776503119748282207:=()
def tw1108510184859883610:=()
def tw16160570671307182852:=()
def tw3322630798702517430:=()
def tw257062961113393846:=()
def tw12571201884706045777:=()
def tw6079712784145776775:=()
def tw7170695336819518810:=()
def tw10898444111761752497:=()
def tw12468634568021365565:=()
def tw2822400077812361764:=()
def tw3755940834697674174:=()
def tw13662200362552289847:=()
def tw11119507895911531054:=()
def tw1792588635792048458:=()
def tw14428505634031958849:=()
def tw14305076529308192664:=()
def tw10976651695245174198:=()
def tw8537925099440151547:=()
def tw2581948988695498138:=()
def tw1243422616192210885:=()
def tw12976601158108452892:=()
def tw8745921253902345391:=()
def tw9186351251728102543:=()
def tw15950967920452963193:=()
def tw434991552816584194:=()
def tw13769635636590580602:=()
def tw1371864773127438394:=()
def tw566010415254321642:=()
def tw1000466274043153897:=()
def tw17560752968234575981:=()
def tw2142468707188010483:=()
def tw6998712051212798469:=()
def tw2322098287649579843:=()
def tw1243730241505118857:=()
def tw6871820660300136114:=()
def tw1980009749566161143:=()
def tw15267025170701407772:=()
def tw13435735296158186171:=()
def tw11996913986134550541:=()
def tw17535824924310290700:=()
def tw10059569484903045462:=()
def tw4083911155225964111:=()
def tw455460772970700539:=()
def tw12079201992585236396:=()
def tw12709628451165394557:=()
def tw14586086412718114969:=()
def tw9350781616027445213:=()
def tw12038390047445111839:=()
def tw9982613340875464488:=()
def tw9787377577104024770:=()
def tw4696112534915911222:=()
def tw11007683075083561382:=()
def tw14217438230207960958:=()
def tw7339788180924366590:=()
def tw9114041627945659167:=()
def tw5675318403051580217:=()
def tw7750948388354430599:=()
def tw10035752775300680610:=()
def tw6675162730437045302:=()
def tw7115098186839301976:=()
def tw3240834944011797437:=()
def tw11841900228198114442:=()
def tw14649945545690851032:=()
def tw16556472327986145763:=()
def tw12850736129279642967:=()
def tw1644515136207456592:=()
def tw6275252271032128550:=()
def tw15780541836954487349:=()
def tw16826724898842125913:=()
def tw8726744609701137217:=()
def tw8526337521403525061:=()
def tw18075841425031054994:=()
def tw2769667599277318944:=()
def tw9710831115410326458:=()
def tw15254463541960798848:=()
def tw14521587345822519468:=()
def tw3607928944763696613:=()
def tw12904650972852101370:=()
def tw13029402627322980468:=()
def tw9680201648573247172:=()
def tw6678043019488581350:=()
def tw41236861833808362:=()
def tw6339307173661811632:=()
def tw5775526936992706636:=()
def tw7018531162379219238:=()
def tw9485051026718215955:=()
def tw15239209771585553337:=()
def tw9457954056203297952:=()
def tw582887234026569330:=()
def tw190112832144108891:=()
def tw9113041175065179881:=()
def tw906273409387811857:=()
def tw5124058668817206870:=()
def tw4986800198616051717:=()
def tw4232598466960905444:=()
def tw1308951253022068829:=()
def tw2199482625214670631:=()
def tw756656433800831030:=()
def tw17970238923326413027:=()
def tw980394316337662072:=()
def tw17346073573945812632:=()
def tw13398083008239634798:=()
def tw3528735617791525035:=()
def tw8962534711996131280:=()
def tw11077138772982621896:=()
def tw13088747327501253414:=()
def tw11504167729045726463:=()
def tw12480110861427444510:=()
def tw3740515757129652257:=()
def tw5571580255858947229:=()
def tw7786896572423291196:=()
def tw18261353446202271350:=()
def tw6448054993421444267:=()
def tw2952027972465703513:=()
def tw15112726009544719429:=()
def tw13431555276353052896:=()
def tw367040160235278615:=()
def tw1453704907825858053:=()
def tw1394807353348595534:=()
def tw6167637580984352637:=()
def tw3571903874918665012:=()
def tw6938716727953075125:=()
def tw5490476278083262521:=()
def tw33619959470206628:=()
def tw14259422220249022011:=()
def tw9568567564901997654:=()
def tw6829540647934705769:=()
def tw12635836146812278705:=()
def tw16036376124860980441:=()
def tw2699471132450312428:=()
def tw16162440010001792161:=()
def tw13471575844738168026:=()
def tw7279443454219325888:=()
def tw10817776407503974349:=()
def tw13504067052814007167:=()
def tw4733885337476754605:=()
def tw3778795642810801300:=()
def tw15354583775940504332:=()
def tw12602035701577650942:=()
def tw16815306821146920798:=()
def tw16425906392670082863:=()
def tw7201900326804229172:=()
def tw12756817975457917668:=()
def tw6587902547789444212:=()
def tw8015780165854510091:=()
def tw15566737560818632038:=()
def tw13301980182196767090:=()
def tw15209515766916891441:=()
def tw9978816309402705092:=()
def tw18166514929970550928:=()
def tw5749877008373155081:=()
def tw1548780998807159056:=()
def tw1270892794907762568:=()
def tw5918606804504043854:=()
def tw3572129014892487292:=()
def tw4336953076110495734:=()
def tw11064417155050974883:=()
def tw1829818765503003563:=()
def tw8248565215734202436:=()
def tw1250549590452478820:=()
def tw7566085302880977115:=()
def tw12969065126651142471:=()
def tw15715965433343406054:=()
def tw16108049061197416589:=()
def tw5671625346591236583:=()
def tw7692760005714472666:=()
def tw12353271714986952529:=()
def tw17476881966156233949:=()
def tw15346757463214924115:=()
def tw9247906402035973831:=()
def tw17194416966893473022:=()
def tw17445926747944185569:=()
def tw18096166258870842374:=()
def tw1353687010385041205:=()
def tw1887036516988405919:=()
def tw2171613418038737444:=()
def tw17931004865379250710:=()
def tw12527464460400663705:=()
def tw9630615828491117069:=()
def tw8234361371584984409:=()
def tw8148143921587366041:=()
end PySem.W.Fast
set_option maxRecDepth 100000 in
set_option maxHeartbeats 0 in
theorem PySem.Challenge.cw_firmframe_s01_answers_holds : PySem.Challenge.rw_firmframe_s01_answers.Holds := by
  w_on; k_headS; (case hw => exact ⟨[.list [.int 3]], by decide +kernel, by decide +kernel⟩)
  k_fillS
  refine L2.walk_specK (r := PySem.Challenge.rw_firmframe_s01_answers) (k := 18) (CX := L2.CX0) (ps := ["calls"]) (sp := fun K => L2.FF.sp_answers 0 K L2.FF.MM L2.FF.argX) (by decide +kernel) rfl rfl ⟨rfl, by decide, by decide⟩ (fun w h Y => PySem.W.kIn_of Y) ?F ?S (fun _ _ _ _ z => z)
  case F =>
    intro w mg fa h Y KX G hmg
    refine' L2.FF.all_mk KX G hmg ⟨L2.FF.fnAt ?_ ?_ ?_ ?_, L2.FF.fnAt ?_ ?_ ?_ ?_, L2.FF.fnAt ?_ ?_ ?_ ?_, L2.FF.fnAt ?_ ?_ ?_ ?_, L2.FF.fnAt ?_ ?_ ?_ ?_, L2.FF.fnAt ?_ ?_ ?_ ?_, L2.FF.fnAt ?_ ?_ ?_ ?_, L2.FF.fnAt ?_ ?_ ?_ ?_, L2.FF.fnAt ?_ ?_ ?_ ?_, L2.FF.fnAt ?_ ?_ ?_ ?_, L2.FF.fnAt ?_ ?_ ?_ ?_, L2.FF.fnAt ?_ ?_ ?_ ?_, L2.FF.fnAt ?_ ?_ ?_ ?_, L2.FF.fnAt ?_ ?_ ?_ ?_, L2.FF.fnAt ?_ ?_ ?_ ?_, L2.FF.fnAt ?_ ?_ ?_ ?_, L2.FF.fnAt ?_ ?_ ?_ ?_, L2.FF.fnAt ?_ ?_ ?_ ?_, L2.FF.fnAt ?_ ?_ ?_ ?_, L2.FF.fnAt ?_ ?_ ?_ ?_, L2.FF.fnAt ?_ ?_ ?_ ?_, L2.FF.fnAt ?_ ?_ ?_ ?_, L2.FF.fnAt ?_ ?_ ?_ ?_, L2.FF.fnAt ?_ ?_ ?_ ?_, L2.FF.fnAt ?_ ?_ ?_ ?_, L2.FF.fnAt ?_ ?_ ?_ ?_, L2.FF.fnAt ?_ ?_ ?_ ?_, L2.FF.fnAt ?_ ?_ ?_ ?_, L2.FF.fnAt ?_ ?_ ?_ ?_, L2.FF.fnAt ?_ ?_ ?_ ?_, L2.FF.fnAt ?_ ?_ ?_ ?_, L2.FF.fnAt ?_ ?_ ?_ ?_, L2.FF.fnAt ?_ ?_ ?_ ?_, L2.FF.fnAt ?_ ?_ ?_ ?_, L2.FF.fnAt ?_ ?_ ?_ ?_, L2.FF.fnAt ?_ ?_ ?_ ?_, L2.FF.fnAt ?_ ?_ ?_ ?_, L2.FF.fnAt ?_ ?_ ?_ ?_, L2.FF.fnAt ?_ ?_ ?_ ?_, L2.FF.fnAt ?_ ?_ ?_ ?_, L2.FF.fnAt ?_ ?_ ?_ ?_, L2.FF.fnAt ?_ ?_ ?_ ?_, L2.FF.fnAt ?_ ?_ ?_ ?_, L2.FF.fnAt ?_ ?_ ?_ ?_, L2.FF.fnAt ?_ ?_ ?_ ?_, L2.FF.fnAt ?_ ?_ ?_ ?_, L2.FF.fnAt ?_ ?_ ?_ ?_, L2.FF.fnAt ?_ ?_ ?_ ?_, L2.FF.fnAt ?_ ?_ ?_ ?_, L2.FF.fnAt ?_ ?_ ?_ ?_, L2.FF.fnAt ?_ ?_ ?_ ?_, L2.FF.fnAt ?_ ?_ ?_ ?_, L2.FF.fnAt ?_ ?_ ?_ ?_, L2.FF.fnAt ?_ ?_ ?_ ?_, L2.FF.fnAt ?_ ?_ ?_ ?_, L2.FF.fnAt ?_ ?_ ?_ ?_, L2.FF.fnAt ?_ ?_ ?_ ?_, L2.FF.fnAt ?_ ?_ ?_ ?_, L2.FF.fnAt ?_ ?_ ?_ ?_, L2.FF.fnAt ?_ ?_ ?_ ?_, L2.FF.fnAt ?_ ?_ ?_ ?_, L2.FF.fnAt ?_ ?_ ?_ ?_, L2.FF.fnAt ?_ ?_ ?_ ?_, L2.FF.fnAt ?_ ?_ ?_ ?_, L2.FF.fnAt ?_ ?_ ?_ ?_, L2.FF.fnAt ?_ ?_ ?_ ?_, L2.FF.fnAt ?_ ?_ ?_ ?_, L2.FF.fnAt ?_ ?_ ?_ ?_, L2.FF.fnAt ?_ ?_ ?_ ?_, L2.FF.fnAt ?_ ?_ ?_ ?_, L2.FF.fnAt ?_ ?_ ?_ ?_, L2.FF.fnAt ?_ ?_ ?_ ?_, L2.FF.fnAt ?_ ?_ ?_ ?_, L2.FF.fnAt ?_ ?_ ?_ ?_, L2.FF.fnAt ?_ ?_ ?_ ?_, L2.FF.fnAt ?_ ?_ ?_ ?_, L2.FF.fnAt ?_ ?_ ?_ ?_, L2.FF.fnAt ?_ ?_ ?_ ?_, L2.FF.fnAt ?_ ?_ ?_ ?_, L2.FF.fnAt ?_ ?_ ?_ ?_, L2.FF.fnAt ?_ ?_ ?_ ?_, L2.FF.fnAt ?_ ?_ ?_ ?_, L2.FF.fnAt ?_ ?_ ?_ ?_, L2.FF.fnAt ?_ ?_ ?_ ?_, L2.FF.fnAt ?_ ?_ ?_ ?_, L2.FF.fnAt ?_ ?_ ?_ ?_, L2.FF.fnAt ?_ ?_ ?_ ?_, L2.FF.fnAt ?_ ?_ ?_ ?_, L2.FF.fnAt ?_ ?_ ?_ ?_, L2.FF.fnAt ?_ ?_ ?_ ?_, L2.FF.fnAt ?_ ?_ ?_ ?_, L2.FF.fnAt ?_ ?_ ?_ ?_, L2.FF.fnAt ?_ ?_ ?_ ?_, L2.FF.fnAt ?_ ?_ ?_ ?_, L2.FF.fnAt ?_ ?_ ?_ ?_, L2.FF.fnAt ?_ ?_ ?_ ?_, L2.FF.fnAt ?_ ?_ ?_ ?_, L2.FF.fnAt ?_ ?_ ?_ ?_, L2.FF.fnAt ?_ ?_ ?_ ?_, L2.FF.glI ?_, L2.FF.glI ?_, L2.FF.glI ?_, L2.FF.glI ?_, L2.FF.glI ?_, L2.FF.glI ?_, L2.FF.glI ?_, L2.FF.glI ?_, L2.FF.glI ?_, L2.FF.glI ?_, L2.FF.glI ?_, L2.FF.glI ?_, L2.FF.glI ?_, L2.FF.glI ?_, L2.FF.glI ?_, L2.FF.glI ?_, L2.FF.glS ?_, ?_, ?_, ?_, ?_, ?_, ?_, ?_, ?_, ?_, ?_, ?_, ⟨?_, ?_, ?_, ?_⟩, ⟨?_, ?_, ?_, ?_⟩, L2.FF.fnI ?_ ?_ ?_, ?_, ?_, ?_, ?_, ?_, ?_, ?_, ?_, L2.FF.kd_mk ?_ ?kB1 ?kB2, L2.FF.kd_mk ?_ ?kT1 ?kT2, L2.FF.kd_mk ?_ ?kO1 ?kO2, L2.FF.kt_mk ?_ ?kA1 ?kA2⟩
    any_goals (try k_is)
    case kA1 => decide
    case kA2 => repeat first | exact .nil | refine .cons ⟨_, rfl⟩ ?_
    case kB1 => repeat first | exact .nil | refine .cons ⟨⟨_, rfl⟩, rfl, rfl⟩ ?_
    case kB2 => decide
    case kT1 => repeat first | exact .nil | refine .cons ⟨⟨_, rfl⟩, rfl, rfl⟩ ?_
    case kT2 => decide
    case kO1 => repeat first | exact .nil | refine .cons ⟨⟨_, rfl⟩, rfl, rfl⟩ ?_
    case kO2 => decide
  case S =>
    intro K H xs a hO hwi hask hx
    cases hx with
    | cons h1 h2 =>
      cases h2
      cases h1 with
      | lst hs ha =>
        have e := L2.ints_dw a.1 _ ha
        subst e
        exact L2.FF.req_ok (C := 0) (Rel := L2.FF.Rel) L2.FF.sim_one (.inl ⟨rfl, rfl⟩) hO hs hask
#print axioms PySem.Challenge.cw_firmframe_s01_answers_holds
