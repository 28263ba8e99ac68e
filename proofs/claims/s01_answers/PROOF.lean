import PyProof.Rows.All
import Wide.All
import OpenK.AllK
import Wide.FinOn
import PyProof.EqAt
import PyProof.EqKinds
import PyProof.TupleCall
import KE.BitLaws
import Open.SpecLaws
import KE.OsHead
import KE.OsGo
import PySem.Challenge.RW_streamside_s01_answers
set_option Elab.async false
set_option linter.all false
set_option maxRecDepth 100000
set_option Elab.async false
set_option linter.all false
set_option maxRecDepth 100000
namespace L2
open PySem PySem.Spec PyProof.Rows
noncomputable abbrev Key:=Sum Int Str
noncomputable def xq:Key→Value→Bool
 | .inl k,v=>Value.isInt k v
 | .inr x,v=>Value.isStrOf x v
noncomputable def LB (w:World):Key→Int
 | .inl k=>hashInt k
 | .inr x=>hashStr w x
theorem dA:∀{k:Key} {v:Value},xq k v=true→(∃i t,k=Sum.inl i∧v=Value.int i t)∨(∃x t,k=Sum.inr x∧v=Value.str x t)
 | .inl i,v,h=>by
  obtain ⟨t,e⟩:=Value.isInt_shape (k:=i) (v:=v) h;exact .inl ⟨i,t,rfl,e⟩
 | .inr x,v,h=>by
  obtain ⟨t,e⟩:=Value.isStrOf_shape (x:=x) (v:=v) h;exact .inr ⟨x,t,rfl,e⟩
theorem bf (i:Int) (t:Tok):xq (.inl i) (.int i t)=true:=by simp [xq,Value.isInt]
theorem Dz (x:Str) (t:Tok):xq (.inr x) (.str x t)=true:=by simp [xq,Value.isStrOf]
theorem JJ (a b:Int):decide ((Sum.inl a:Key)=Sum.inl b)=(a == b):=by
 by_cases e:a=b
 ·subst e;simp
 ·have h:¬(Sum.inl a:Key)=Sum.inl b:=fun q=>e (Sum.inl.inj q)
  rw [decide_eq_false h];exact (beq_eq_false_iff_ne.mpr e).symm
theorem JG (a b:Str):decide ((Sum.inr a:Key)=Sum.inr b)=decide (a=b):=by
 by_cases e:a=b
 ·subst e;simp
 ·have h:¬(Sum.inr a:Key)=Sum.inr b:=fun q=>e (Sum.inr.inj q)
  rw [decide_eq_false h,decide_eq_false e]
theorem JI (a:Int) (b:Str):decide ((Sum.inl a:Key)=Sum.inr b)=false:=decide_eq_false (fun q=>nomatch q)
theorem JH (a:Str) (b:Int):decide ((Sum.inr a:Key)=Sum.inl b)=false:=decide_eq_false (fun q=>nomatch q)
noncomputable def kD (prog:Program) (w:World):PySem.KeyKind prog w Key where
 is:=xq
 hash:=LB w
 inj:=fun v a b ha hb=>by
  rcases dA ha with ⟨i,t,rfl,rfl⟩ | ⟨x,t,rfl,rfl⟩
  ·rcases dA hb with ⟨j,u,rfl,e⟩ | ⟨y,u,rfl,e⟩
   ·injection e with e1 _;rw [e1]
   ·exact nomatch e
  ·rcases dA hb with ⟨j,u,rfl,e⟩ | ⟨y,u,rfl,e⟩
   ·exact nomatch e
   ·injection e with e1 _;rw [e1]
 byValue:=fun k v h=>by
  rcases dA h with ⟨i,t,rfl,rfl⟩ | ⟨x,t,rfl,rfl⟩ <;> rfl
 pyHash:=fun hv h=>by
  rcases dA hv with ⟨i,t,rfl,rfl⟩ | ⟨x,t,rfl,rfl⟩
  ·exact wpAny_pyHash_int h
  ·exact wpAny_pyHash_str h
 eqBool:=fun hu hv h=>by
  rcases dA hu with ⟨i,t,rfl,rfl⟩ | ⟨x,t,rfl,rfl⟩
  ·rcases dA hv with ⟨j,u,rfl,rfl⟩ | ⟨y,u,rfl,rfl⟩
   ·rw [JJ] at h;exact wpAny_eqBool_int h
   ·rw [JI] at h;exact SeqAt.EqAt.int_str i t y u _ _ _ _ h
  ·rcases dA hv with ⟨j,u,rfl,rfl⟩ | ⟨y,u,rfl,rfl⟩
   ·rw [JH] at h;exact SeqAt.EqAt.str_int x t j u _ _ _ _ h
   ·rw [JG] at h;exact wpAny_eqBool_str h
 «strs»:=fun k x t v h=>by
  rcases dA h with ⟨i,u,rfl,e⟩ | ⟨y,u,rfl,e⟩
  ·exact nomatch e
  ·injection e with e1 _
   subst e1
   cases v <;> rfl
theorem zS (prog:Program) (w:World) (i:Int) (t:Tok):(kD prog w).is (.inl i) (.int i t)=true:=bf i t
theorem zR (prog:Program) (w:World) (x:Str) (t:Tok):(kD prog w).is (.inr x) (.str x t)=true:=Dz x t
end L2
namespace L2
open PySem PySem.Spec PyProof.Rows
inductive V where
 | non | bl (b:Bool) | int (i:Int) | str (x:Str) | byt (b:Array UInt8) | flt (b:UInt64) | ref (a:Addr) | ty (n:String)
 deriving DecidableEq
noncomputable def RelV:V→Value→Prop
 | .non,u=>u=Value.none
 | .bl b,u=>u=Value.bool b
 | .int i,u=>∃t,u=Value.int i t
 | .str x,u=>∃t,u=Value.str x t
 | .byt b,u=>∃t,u=Value.bytes b t
 | .flt b,u=>∃t,u=Value.float b t
 | .ref a,u=>u=Value.ref a
 | .ty n,u=>u=Value.type n
noncomputable abbrev bK:List V→List Value→Prop:=Paired RelV
theorem bK.length {xs:List V} {us:List Value} (r:bK xs us):xs.length=us.length:=Paired.length r
theorem bK.get:∀{xs:List V} {us:List Value} {i:Nat} {x:V},bK xs us→xs[i]? = some x→∃u,us[i]? = some u∧RelV x u
 | _,_,_,_,.nil,e=>by simp at e
 | _,_,0,_,.cons r _,e=>by simp at e;subst e;exact ⟨_,rfl,r⟩
 | _,_,i+1,x,.cons _ t,e=>by
  obtain ⟨u,h1,h2⟩:=bK.get (i:=i) (x:=x) t (by simpa using e);exact ⟨u,by simpa using h1,h2⟩
theorem bK.append:∀{xs ys:List V} {us ws:List Value},bK xs us→bK ys ws→bK (xs++ys) (us++ws)
 | _,_,_,_,.nil,s=>s
 | _,_,_,_,.cons r t,s=>.cons r (bK.append t s)
theorem bK.take:∀{xs:List V} {us:List Value} (n:Nat),bK xs us→bK (xs.take n) (us.take n)
 | _,_,0,_=>.nil
 | _,_,_+1,.nil=>.nil
 | _,_,n+1,.cons r t=>.cons r (bK.take n t)
theorem bK.drop:∀{xs:List V} {us:List Value} (n:Nat),bK xs us→bK (xs.drop n) (us.drop n)
 | _,_,0,r=>r
 | _,_,_+1,.nil=>.nil
 | _,_,n+1,.cons _ t=>bK.drop n t
noncomputable def wZ:Option V→Option Value→Prop
 | some v,some u=>RelV v u
 | none,none=>True
 | _,_=>False
noncomputable def KV {κ:Type}:List (κ×V)→List (κ×Value)→Prop:=Paired fun (p:κ×V) (q:κ×Value)=>p.1=q.1∧RelV p.2 q.2
noncomputable def kV:Key→V
 | .inl i=>.int i
 | .inr x=>.str x
inductive HO where
 /-- a list -/
 | lst (xs:List V)
 /-- a tuple (never changes) -/
 | tup (xs:List V)
 /-- a dict whose keys are ints and texts;one whose keys are tuples of ints and texts (the empty one is both) -/
 | dK (kvs:List (Key×V)) | dT (kvs:List (List Key×V))
 /-- a set of ints: its members,its size -/
 | set (S:Int→Bool) (n:Nat)
 /-- an instance of the class at C,its dict at dx,its attributes -/
 | ins (C dx:Addr) (fs:List (Str×V))
 /-- the dict of the instance at x -/
 | own (x:Addr)
 /-- the dict of an exception -/
 | xd (fs:List (Str×V))
 /-- a bound method,f of x -/
 | met (f x:Addr)
 /-- a range object lo,lo+1,.. below hi -/
 | rng (lo hi:Int)
 /-- a thing that is known to the object (the script;a dict while a loop walks it): read,never written while it is so -/
 | frz (o:Obj) (u:HO)
 /-- a code object's table -/
 | tbl (ps:Array Value)
 /-- any other thing,by what is true of its one object (a def of one's own: SetO a S n:=HO.ext fun h=>..) -/
 | ext (φ:Heap→Prop)
noncomputable abbrev Hp:=Addr→Option HO
noncomputable def upd (H:Hp) (a:Addr) (o:HO):Hp:=fun b=>if b=a then some o else H b
theorem aG {H:Hp} {a:Addr} {o:HO}:upd H a o a=some o:=by unfold upd;rw [if_pos rfl]
theorem aD {H:Hp} {a b:Addr} {o:HO} (h:b≠a):upd H a o b=H b:=by unfold upd;rw [if_neg h]
theorem iw {H:Hp} {a b:Addr} {o u:HO} (h:H a=some o) (h':H b=some u) (d:o≠u):a≠b:=by
 intro e;subst e;rw [h] at h';exact d (Option.some.inj h')
theorem ai {H:Hp} {a b:Addr} {o:HO} (h:H a=some o) (h':H b=none):a≠b:=by
 intro e;subst e;rw [h] at h';cases h'
section
variable (P:Program) (w:World)
noncomputable def jn (H:Hp) (h:Heap) (a:Addr):HO→Prop
 | .lst xs=>xs.length≤sizeLine∧∃(its:List Value) (n:Nat),bK xs its∧h.get? a=some { cls:=.type "list",data:=.seq its.toArray n }
 | .tup xs=>xs.length≤sizeLine∧∃its:List Value,bK xs its∧IsTup h a its.toArray
 | .dK kvs=>kvs.length≤sizeLine∧(a == sysModules)=false∧∃vs,KV kvs vs∧h.DictOf (kD P w) a vs
 | .dT kvs=>kvs.length≤sizeLine∧(a == sysModules)=false∧∃xs:List (List Key×Addr×Value),
   Paired (fun (p:List Key×V) (q:List Key×Addr×Value)=>p.1=q.1∧H q.2.1=some (.tup (p.1.map kV))∧RelV p.2 q.2.2) kvs xs∧
   ∃o es ep,h.get? a=some o∧o.ExactDict∧o.data = .dict es ep∧es.toList=xs.map (entryOfKey (tupleKind (kD P w)))∧(xs.map (·.1)).Nodup
 | .set S n=>h.SetOf (intKind P w) a S n
 | .ins C dx fs=>H dx=some (.own a)∧fs.length≤1000∧dx≠a∧h.get? a=some (PySem.W.instObj C dx)∧
   ∃mA,h.Ns1 dx mA∧(∀f,wZ (fs.lookup f) (mA f))∧PySem.Within mA (fs.map (·.1))
 | .own _=>∃o,h.get? a=some o
 | .xd fs=>∃mA,h.Ns1 a mA∧∀f,wZ (fs.lookup f) (mA f)
 | .rng lo hi=>∃t u v,h.get? a=some { cls:=.type "range",data:=.fields #[.int lo t,.int hi u,.int 1 v] }
 | .frz o u=>h.get? a=some o∧jn H h a u
 | .tbl ps=>h.get? a=some { cls:=.none,data:=.fields ps }
 | .met f x=>h.get? a=some (PySem.W.methodObj (.ref f) (.ref x))
 | .ext φ=>φ h∧(∃o,h.get? a=some o)∧∀h1 h2:Heap,φ h1→(∀o,h1.get? a=some o→h2.get? a=some o)→φ h2
noncomputable def HOk (H:Hp) (h:Heap):Prop:=∀a o,H a=some o→jn P w H h a o
end
section
variable {P:Program} {w:World} {H H':Hp} {h h':Heap} {a:Addr} {o:HO}
theorem jn.lt (x:jn P w H h a o):a<h.objs.size:=by
 cases o with
 | lst xs=>obtain ⟨_,_,_,_,e⟩:=x;exact Heap.lt_size e
 | tup xs=>obtain ⟨_,_,_,p⟩:=x;exact p.lt
 | dK kvs=>obtain ⟨_,_,_,_,o,_,_,e,_⟩:=x;exact Heap.lt_size e
 | dT kvs=>obtain ⟨_,_,_,_,o,_,_,e,_⟩:=x;exact Heap.lt_size e
 | set S n=>obtain ⟨o,_,_,_,e,_⟩:=x;exact Heap.lt_size e
 | ins C dx fs=>obtain ⟨_,_,_,e,_⟩:=x;exact Heap.lt_size e
 | own y=>obtain ⟨_,e⟩:=x;exact Heap.lt_size e
 | xd fs=>obtain ⟨_,⟨_,_,_,e,_⟩,_⟩:=x;exact Heap.lt_size e
 | rng lo hi=>obtain ⟨_,_,_,e⟩:=x;exact Heap.lt_size e
 | frz ob u=>obtain ⟨e,_⟩:=x;exact Heap.lt_size e
 | tbl ps=>exact Heap.lt_size (show h.get? a=some _ from x)
 | met f y=>exact Heap.lt_size (show h.get? a=some _ from x)
 | ext φ=>obtain ⟨_,⟨_,e⟩,_⟩:=x;exact Heap.lt_size e
theorem Paired.KL {α β:Type} {F G:α→β→Prop}:∀{l₁:List α} {l₂:List β},Paired F l₁ l₂→(∀a b,F a b→G a b)→Paired G l₁ l₂
 | _,_,.nil,_=>.nil
 | _,_,.cons r t,f=>.cons (f _ _ r) (Paired.KL t f)
theorem jn.qI (x:jn P w H h a o) (k:∀b u,(b=a∨H b=some (.own a))→h.get? b=some u→h'.get? b=some u)
  (ho:∀b,H b=some (.own a)→H' b=some (.own a)) (ht:∀b xs,H b=some (.tup xs)→H' b=some (.tup xs)):jn P w H' h' a o:=by
 induction o with
 | lst xs=>obtain ⟨z,its,n,r,e⟩:=x;exact ⟨z,its,n,r,k _ _ (.inl rfl) e⟩
 | tup xs=>obtain ⟨z,its,r,ob,e,c⟩:=x;exact ⟨z,its,r,ob,k _ _ (.inl rfl) e,c⟩
 | dK kvs=>obtain ⟨z,y,vs,r,ob,es,ep,e,c⟩:=x;exact ⟨z,y,vs,r,ob,es,ep,k _ _ (.inl rfl) e,c⟩
 | dT kvs =>
  obtain ⟨z,y,xs,r,ob,es,ep,e,c⟩:=x;exact ⟨z,y,xs,Paired.KL r fun p q z=>⟨z.1,ht _ _ z.2.1,z.2.2⟩,ob,es,ep,k _ _ (.inl rfl) e,c⟩
 | set S n=>obtain ⟨ob,es,ep,t,e,c⟩:=x;exact ⟨ob,es,ep,t,k _ _ (.inl rfl) e,c⟩
 | ins C dx fs =>
  obtain ⟨d,z,ne,e,mA,⟨od,es,ep,e2,c⟩,r⟩:=x;exact ⟨ho _ d,z,ne,k _ _ (.inl rfl) e,mA,⟨od,es,ep,k _ _ (.inr d) e2,c⟩,r⟩
 | own y=>obtain ⟨ob,e⟩:=x;exact ⟨ob,k _ _ (.inl rfl) e⟩
 | xd fs=>obtain ⟨mA,⟨od,es,ep,e,c⟩,r⟩:=x;exact ⟨mA,⟨od,es,ep,k _ _ (.inl rfl) e,c⟩,r⟩
 | rng lo hi=>obtain ⟨t,u,v,e⟩:=x;exact ⟨t,u,v,k _ _ (.inl rfl) e⟩
 | frz ob u ih=>obtain ⟨e,q⟩:=x;exact ⟨k _ _ (.inl rfl) e,ih q⟩
 | tbl ps =>
  have e:h.get? a=some { cls:=.none,data:=.fields ps }:=x;show h'.get? a=some { cls:=.none,data:=.fields ps };exact k a _ (.inl rfl) e
 | met f y =>
  have e:h.get? a=some (PySem.W.methodObj (.ref f) (.ref y)):=x;show h'.get? a=some (PySem.W.methodObj (.ref f) (.ref y));exact k a _ (.inl rfl) e
 | ext φ=>obtain ⟨p,⟨o,e⟩,st⟩:=x;exact ⟨st _ _ p fun o q=>k _ _ (.inl rfl) q,⟨o,k _ _ (.inl rfl) e⟩,st⟩
theorem HOk.lt (x:HOk P w H h) (e:H a=some o):a<h.objs.size:=(x a o e).lt
theorem HOk.fresh (x:HOk P w H h) (e:h.objs.size≤a):H a=none:=by
 cases q:H a with
 | none=>rfl
 | some u=>exact absurd (Nat.lt_of_lt_of_le (x.lt q) e) (Nat.lt_irrefl _)
theorem HOk.kept (x:HOk P w H h) (k:∀b u,h.get? b=some u→h'.get? b=some u):HOk P w H h':=fun a o e =>
 (x a o e).qI (fun b u _ q=>k b u q) (fun _ q=>q) fun _ _ q=>q
theorem HOk.laid (x:HOk P w H h) (k:∀b u,h.get? b=some u→h'.get? b=some u) (hp:h.objs.size≤a) (new:jn P w (upd H a o) h' a o):HOk P w (upd H a o) h':=fun b u e=>by
 have hn:=x.fresh hp;by_cases hb:b=a
 ·subst hb;rw [aG] at e;cases e;exact new
 ·rw [aD hb] at e
  exact (x b u e).qI (fun c v _ q=>k c v q) (fun c q=>by rw [aD (ai q hn)];exact q) fun c xs q=>by rw [aD (ai q hn)];exact q
end
noncomputable def Rd (H:Hp) (a:Addr) (u:HO):Prop:=H a=some u∨∃o,H a=some (.frz o u)
theorem Rd.ok {P:Program} {w:World} {H:Hp} {h:Heap} {a:Addr} {u:HO} (r:Rd H a u) (x:HOk P w H h):jn P w H h a u:=by
 rcases r with r | ⟨o,r⟩
 ·exact x a u r
 ·obtain ⟨_,q⟩:=x a _ r
  exact q
noncomputable def Mut:Option HO→Prop
 | some (.lst _)=>True
 | some (.dK _)=>True
 | some (.dT _)=>True
 | some (.set _ _)=>True
 | some (.ins _ _ _)=>True
 | some (.ext _)=>True
 | _=>False
section
variable {P:Program} {w:World} {H:Hp} {h h':Heap} {x e:Addr} {o':HO}
theorem HOk.write (ok:HOk P w H h) (mu:Mut (H x)) (he:e=x∨H e=some (.own x)) (k:∀b u,b≠e→h.get? b=some u→h'.get? b=some u) (heo:∃u,h'.get? e=some u)
  (new:jn P w (upd H x o') h' x o'):HOk P w (upd H x o') h':=fun b u q=>by
 have nown:∀c y,H c=some (.own y)→c≠x:=fun c y r z=>by subst z;rw [r] at mu;exact mu
 have ntup:∀c xs,H c=some (.tup xs)→c≠x:=fun c xs r z=>by subst z;rw [r] at mu;exact mu
 by_cases hb:b=x
 ·subst hb;rw [aG] at q;cases q;exact new
 ·rw [aD hb] at q
  by_cases hbe:b=e
  ·have q':H b=some (.own x):=by
    rcases he with z | z
    ·exact absurd (hbe.trans z) hb
    ·rw [hbe];exact z
   rw [q] at q';cases q';obtain ⟨v,hv⟩:=heo;exact ⟨v,by rw [hbe];exact hv⟩
  ·refine (ok b u q).qI (fun c v hc r=>k c v ?_ r) (fun c r=>by rw [aD (nown c b r)];exact r) fun c xs r=>by rw [aD (ntup c xs r)];exact r
   rcases hc with rfl | hc
   ·exact hbe
   ·rintro rfl
    rcases he with z | z
    ·exact nown c b hc z
    ·rw [hc] at z;cases z;exact hb rfl
end
structure Un (fs ex:List Addr) (H H':Hp) (h h':Heap):Prop where
 keep:∀b o,h.get? b=some o→H b=none→b ∉ fs→b ∉ ex→h'.get? b=some o
 slot:∀b o,h.get? b=some o→H b=none→b∈fs→b ∉ ex→∃sl,h'.get? b=some { o with slots:=sl }
 free:∀b o,h.get? b=some o→H b=none→b ∉ ex→H' b=none
 there:∀b o,h.get? b=some o→b ∉ ex→∃o',h'.get? b=some o'
 tO:∀b xs,H b=some (.tup xs)→H' b=some (.tup xs)
 rj:∀b o u,H b=some (.frz o u)→H' b=some (.frz o u)
 tP:∀b ps,H b=some (.tbl ps)→∃more,H' b=some (.tbl (ps++more))
section
variable {fs fs' ex ex':List Addr} {H H1 H2:Hp} {h h1 h2 h':Heap} {a x e:Addr} {o:HO}
theorem Un.any (u:Un fs ex H H1 h h1) {b:Addr} {ob:Obj} (q:h.get? b=some ob) (n:H b=none) (hx:b ∉ ex):∃sl,h1.get? b=some { ob with slots:=sl }:=by
 by_cases hb:b∈fs
 ·exact u.slot b ob q n hb hx
 ·exact ⟨ob.slots,u.keep b ob q n hb hx⟩
theorem Un.trans (a:Un fs ex H H1 h h1) (b:Un fs ex H1 H2 h1 h2):Un fs ex H H2 h h2 where
 keep:=fun c ob q n hc hx=>b.keep c ob (a.keep c ob q n hc hx) (a.free c ob q n hx) hc hx
 slot:=fun c ob q n hc hx=>by
  obtain ⟨sl,e1⟩:=a.slot c ob q n hc hx;obtain ⟨sl',e2⟩:=b.slot c _ e1 (a.free c ob q n hx) hc hx;exact ⟨sl',e2⟩
 free:=fun c ob q n hx=>by
  obtain ⟨o',e1⟩:=a.there c ob q hx;exact b.free c o' e1 (a.free c ob q n hx) hx
 there:=fun c ob q hx=>by
  obtain ⟨o',e1⟩:=a.there c ob q hx;exact b.there c o' e1 hx
 tO:=fun c xs q=>b.tO c xs (a.tO c xs q)
 rj:=fun c ob xs q=>b.rj c ob xs (a.rj c ob xs q)
 tP:=fun c ps q=>by
  obtain ⟨m1,e1⟩:=a.tP c ps q;obtain ⟨m2,e2⟩:=b.tP c _ e1;exact ⟨m1++m2,by rw [e2,Array.append_assoc]⟩
theorem Un.kept (k:∀b u,h.get? b=some u→h'.get? b=some u):Un fs ex H H h h':=
 ⟨fun b ob q _ _ _=>k b ob q,fun b ob q _ _ _=>⟨ob.slots,k b ob q⟩,fun _ _ _ n _=>n,fun b ob q _=>⟨ob,k b ob q⟩,fun _ _ q=>q,fun _ _ _ q=>q,fun _ ps q=>⟨#[],by rw [q];simp⟩⟩
theorem Un.refl:Un fs ex H H h h:=Un.kept fun _ _ q=>q
theorem Un.laid (k:∀b u,h.get? b=some u→h'.get? b=some u) (hp:h.objs.size≤a) (hn:H a=none):Un fs ex H (upd H a o) h h' where
 keep:=fun b u q _ _ _=>k b u q
 slot:=fun b u q _ _ _=>⟨u.slots,k b u q⟩
 free:=fun b u q n _=>by rw [aD (Nat.ne_of_lt (Nat.lt_of_lt_of_le (Heap.lt_size q) hp))];exact n
 there:=fun b u q _=>⟨u,k b u q⟩
 tO:=fun b xs q=>by rw [aD (ai q hn)];exact q
 rj:=fun b u xs q=>by rw [aD (ai q hn)];exact q
 tP:=fun b ps q=>⟨#[],by rw [aD (ai q hn),q];simp⟩
theorem Un.write (mu:Mut (H x)) (he:e=x∨H e=some (.own x)) (k:∀b u,b≠e→h.get? b=some u→h'.get? b=some u) (heo:∃u,h'.get? e=some u):Un fs ex H (upd H x o) h h':=by
 have hx:∀b,H b=none→b≠x:=fun b n z=>by subst z;rw [n] at mu;exact mu
 have hb:∀b,H b=none→b≠e:=fun b n z=>by
  subst z;rcases he with r | r
  ·exact hx b n r
  ·rw [n] at r;cases r
 have hm:∀b u,H b=some u→¬Mut (some u)→b≠x:=fun b u q nm z=>by subst z;rw [q] at mu;exact nm mu
 refine ⟨fun b u q n _ _=>k b u (hb b n) q,fun b u q n _ _=>⟨u.slots,k b u (hb b n) q⟩,fun b u q n _=>by rw [aD (hx b n)];exact n,fun b u q _=>?_,
  fun b xs q=>by rw [aD (hm b _ q fun z=>z)];exact q,fun b u xs q=>by rw [aD (hm b _ q fun z=>z)];exact q,fun b ps q=>⟨#[],by rw [aD (hm b _ q fun z=>z),q];simp⟩⟩
 by_cases hbe:b=e
 ·subst hbe;exact heo
 ·exact ⟨u,k b u hbe q⟩
end
noncomputable def trk (h:Heap) (H:Hp):List Addr:=(List.range h.objs.size).filter fun a=>(H a).isSome
noncomputable def yx (h:Heap) (H:Hp):Heap:=PySem.W.hideAll h (trk h H)
theorem DB (h:Heap) (H:Hp):(yx h H).objs.size=h.objs.size:=PySem.W.hideAll_size _ _
theorem Fm {h:Heap} {H:Hp} {b:Addr} {o:Obj} (e:h.get? b=some o) (n:H b=none):(yx h H).get? b=some o:=
 PySem.W.hideAll_get _ e fun hm=>by
  have q:(H b).isSome=true:=(List.mem_filter.mp hm).2;rw [n] at q;simp at q
theorem HF {h:Heap} {H:Hp} {b:Addr} {o:Obj} (e:(yx h H).get? b=some o):h.get? b=some o∧H b=none:=by
 have e':h.get? b=some o:=PySem.W.of_hideAll (trk h H) e;refine ⟨e',?_⟩
 cases q:H b with
 | none=>rfl
 | some x =>
  have hm:b∈trk h H:=List.mem_filter.mpr ⟨List.mem_range.mpr (Heap.lt_size e'),by simp [q]⟩;have z:(yx h H).get? b=none:=PySem.W.hideAll_none (trk h H) hm;rw [z] at e;cases e
noncomputable def Iq (g h:Heap) (L:Addr):List (Addr×Obj):=(List.range h.objs.size).filterMap fun a=>if a=L∨(g.get? a).isSome=true then none else (h.get? a).map fun o=>(a,o)
noncomputable def rest (g h:Heap) (L d:Addr):List (Addr×Obj):=(Iq g h L).filter fun p=>decide (p.1≠d)
end L2
namespace L2
open PySem PySem.Spec PyProof.Rows
structure Mod (K:PySem.W.Frag) (mg:Str→Option Value) (base:Heap):Prop where
 kin:K.In base
 glob:base.Ns mainGlobals mg
 blt:∃mb,base.Ns builtinsNs mb∧∀x:Str,x ≠ "__name__" → mb x=bootBuiltins x
 nolimit:base.NoLimit
set_option genInjectivity false in
set_option genSizeOf false in
structure Cx where
 prog:Program
 w:World
 K:PySem.W.Frag
 mg:Str→Option Value
 base:Heap
 A:Around
 N:List Str
 s_0:Shared
 H_0:Hp
 env:Env
 outer:List Env
 stack:List Env
 ex:List Addr
 fn:Str→Bool
 calm:Bool
 pn:List (Addr×Obj)
 xe:Value→Shared→Prop
noncomputable def frs (l:List Env):List Addr:=l.filterMap (·.frame)
noncomputable abbrev Cx.fs (X:Cx):List Addr:=frs X.outer
noncomputable def Vis (sc:Scope) (x:Str):Prop:=sc.names.lookup x=some .local∨sc.names.lookup x=some .cell∨sc.names.lookup x=some .free
noncomputable def Loc (sc:Scope) (x:Str):Prop:=sc.names.lookup x=some .local∨sc.names.lookup x=some .cell
noncomputable def Look (env:Env) (h:Heap) (m:Str→Option Value) (x:Str) (u:Value):Prop:=
 (env.kindOf x=some .local∧m x=some u)∨((env.kindOf x=some .cell∨env.kindOf x=some .free)∧∃c,env.cells.lookup x=some c∧h.IsCell c (some u))
set_option genInjectivity false in
set_option genSizeOf false in
structure Cx.Ok (X:Cx):Prop where
 mod:Mod X.K X.mg X.base
 kind:X.env.scope.kind = .function
 glob:X.env.globals=mainGlobals
 blt:X.env.builtins=builtinsNs
 above:X.s_0.heap.objs.size≤X.env.locals
 inj:∀x y c,X.env.cells.lookup x=some c→X.env.cells.lookup y=some c→x=y
 has:∀x,(X.env.kindOf x=some .cell∨X.env.kindOf x=some .free)→∃c,X.env.cells.lookup x=some c
 cab:∀x c,X.fn x=true→X.env.cells.lookup x=some c→X.s_0.heap.objs.size≤c
 hd:X.calm=true→X.A.handled=none
 frames:X.A.frames=some X.stack
 stk:X.stack=X.outer∨(X.stack=X.env::X.outer∧X.env.frame=some X.env.locals)
 exf:∀b∈X.ex,b≠X.env.locals∧∀x c,X.env.cells.lookup x=some c→c≠b
 bs:∀b o,X.base.get? b=some o→X.s_0.heap.get? b=some o∧X.H_0 b=none
 bsz:X.base.objs.size≤X.s_0.heap.objs.size
 E6:∀b o,X.base.get? b=some o→b ∉ X.ex
 Fz:∀b∈X.ex,b ∉ X.fs
 uh:X.s_0.heap.FunFrames X.base X.outer
 frf:∀b∈X.fs,X.H_0 b=none
structure Inv (X:Cx) (pins:List (Addr×Obj)) (σ:List (Option V)) (H:Hp) (s:Shared):Prop where
 ok:X.Ok
 os:s.os=X.s_0.os
 bare:AllBare s.gens
 base:Un X.fs X.ex X.H_0 H X.s_0.heap s.heap
 loc:∃m,s.heap.Ns X.env.locals m∧∀(i:Nat) (x:Str) (v:V),X.N[i]? = some x→σ[i]? = some (some v)→Vis X.env.scope x→∃u,RelV v u∧Look X.env s.heap m x u
 cell:∀x c,X.env.cells.lookup x=some c→∃v,s.heap.IsCell c v
 free:H X.env.locals=none
 lP:∀x c,X.env.cells.lookup x=some c→H c=none
 pin:∀p∈X.pn++pins,s.heap.get? p.1=some p.2∧H p.1=none∧p.1≠X.env.locals∧p.1 ∉ X.fs∧∀v,p.2.data≠.cell v
 hok:HOk X.prog X.w H s.heap
 len:σ.length=X.N.length
section
variable {X:Cx} {pins:List (Addr×Obj)} {σ:List (Option V)} {H H':Hp} {s:Shared} {h':Heap}
theorem Cx.Ok.Ly (ok:X.Ok) {b:Addr} {o:Obj} (e:X.base.get? b=some o):b ∉ X.fs:=fun hb=>by
 have:=(ok.uh.mem hb).1;rw [e] at this;cases this
theorem Inv.bs (I:Inv X pins σ H s):∀b o,X.base.get? b=some o→s.heap.get? b=some o∧H b=none:=fun b o e =>
 ⟨I.base.keep b o (I.ok.bs b o e).1 (I.ok.bs b o e).2 (I.ok.Ly e) (I.ok.E6 b o e),I.base.free b o (I.ok.bs b o e).1 (I.ok.bs b o e).2 (I.ok.E6 b o e)⟩
theorem Inv.bk (I:Inv X pins σ H s):∀b o,X.base.get? b=some o→s.heap.get? b=some o:=fun b o e=>(I.bs b o e).1
theorem Inv.mod (I:Inv X pins σ H s):Mod X.K X.mg X.base:=I.ok.mod
theorem Inv.kIn (I:Inv X pins σ H s):X.K.In s.heap:=I.ok.mod.kin.keeps I.bk
theorem Inv.fr (I:Inv X pins σ H s):∃m,Fr X.base X.env.locals s.heap m:=
 let ⟨m,hn,_⟩:=I.loc
 ⟨m,hn,I.bk,Nat.le_trans I.ok.bsz I.ok.above⟩
theorem Inv.lt (I:Inv X pins σ H s):X.env.locals<s.heap.objs.size:=let ⟨_,hn,_⟩:=I.loc;hn.lt
theorem Inv.sz (I:Inv X pins σ H s):X.s_0.heap.objs.size≤s.heap.objs.size:=Nat.le_trans I.ok.above (Nat.le_of_lt I.lt)
theorem Inv.Lx (I:Inv X pins σ H s) {a:Addr} (h:s.heap.objs.size≤a):a ∉ X.fs:=fun hb=>by
 obtain ⟨_,o,ho,_⟩:=I.ok.uh.mem hb;exact absurd (Nat.lt_of_lt_of_le (Heap.lt_size ho) (Nat.le_trans I.sz h)) (Nat.lt_irrefl _)
theorem Inv.cne (I:Inv X pins σ H s):∀x c,X.env.cells.lookup x=some c→c≠X.env.locals:=fun x c e z=>by
 obtain ⟨v,o,ho,hd⟩:=I.cell x c e;obtain ⟨m,⟨o',es,ep,ho',hd',_⟩,_⟩:=I.loc;rw [z,ho'] at ho;cases ho;rw [hd'] at hd;cases hd
theorem Inv.uh (I:Inv X pins σ H s):s.heap.FunFrames X.base X.outer:=by
 have all:∀(l:List Env),(∀b∈frs l,b∈X.fs)→X.s_0.heap.FunFrames X.base l→s.heap.FunFrames X.base l:=by
  intro l
  induction l with
  | nil=>intro _ _;trivial
  | cons env r ih =>
   intro hs hl;obtain ⟨hk,⟨L,o,hf,hn,ho,hd⟩,hr⟩:=hl;have hL:L∈X.fs:=hs L (by unfold frs;rw [List.filterMap_cons,hf];exact List.mem_cons_self);obtain ⟨sl,e⟩:=I.base.slot L o ho (I.ok.frf L hL) hL fun z=>I.ok.Fz L z hL;exact ⟨hk,⟨L,_,hf,hn,e,hd⟩,ih (fun b hb=>hs b (by unfold frs;rw [List.filterMap_cons,hf];exact List.mem_cons_of_mem _ hb)) hr⟩
 exact all X.outer (fun _ hb=>hb) I.ok.uh
theorem Inv.stack (I:Inv X pins σ H s):s.heap.FunFrames X.base X.stack:=by
 rcases I.ok.stk with e | ⟨e,hf⟩
 ·rw [e];exact I.uh
 ·rw [e]
  obtain ⟨m,hn,_⟩:=I.loc;refine .cons (by rw [I.ok.kind];decide) hf hn ?_ I.uh;exact Heap.get?_none_of_le (Nat.le_trans I.ok.bsz I.ok.above)
theorem Inv.AM (I:Inv X pins σ H s):∀b∈frs X.stack,b∈X.env.locals::X.fs:=fun b hb=>by
 rcases I.ok.stk with e | ⟨e,hf⟩
 ·rw [e] at hb;exact List.mem_cons_of_mem _ hb
 ·rw [e] at hb
  unfold frs at hb;rw [List.filterMap_cons,hf] at hb;exact hb
theorem Inv.BU (I:Inv X pins σ H s):∀b∈frs X.stack,H b=none:=fun b hb=>by
 rcases List.mem_cons.mp (I.AM b hb) with e | hb
 ·rw [e];exact I.free
 ·obtain ⟨_,o,ho,_⟩:=I.ok.uh.mem hb
  exact I.base.free b o ho (I.ok.frf b hb) fun z=>I.ok.Fz b z hb
theorem Inv.step {g':Array GenState} {t':Nat} {d':Drawn} {ch:List Addr} (I:Inv X pins σ H s)
  (hch:∀b∈ch,(b∈X.ex∨X.s_0.heap.objs.size≤b)∧b≠X.env.locals∧(∀x c,X.env.cells.lookup x=some c→c≠b)∧∀p∈X.pn++pins,p.1≠b)
  (keep:∀b o,b≠X.env.locals→b ∉ X.fs→b ∉ ch→s.heap.get? b=some o→H b=none→h'.get? b=some o)
  (slot:∀b o,b≠X.env.locals→b∈X.fs→b ∉ ch→s.heap.get? b=some o→H b=none→∃sl,h'.get? b=some { o with slots:=sl }) (free:∀b o,b ∉ ch→s.heap.get? b=some o→H b=none→H' b=none)
  (there:∀b o,b ∉ ch→s.heap.get? b=some o→∃o',h'.get? b=some o')
  (tO:∀b xs,H b=some (.tup xs)→H' b=some (.tup xs)) (rj:∀b o u,H b=some (.frz o u)→H' b=some (.frz o u)) (tP:∀b ps,H b=some (.tbl ps)→∃more,H' b=some (.tbl (ps++more)))
  (ns:∀m,s.heap.Ns X.env.locals m→h'.Ns X.env.locals m) (hok:HOk X.prog X.w H' h') (hg:AllBare g') :
  Inv X pins σ H' { s with heap:=h',gens:=g',drawn:=d',toks:=t' }:=by
 have neL:∀b o,X.s_0.heap.get? b=some o→b≠X.env.locals:=fun b o e=>Nat.ne_of_lt (Nat.lt_of_lt_of_le (Heap.lt_size e) I.ok.above);have neC:∀b o,X.s_0.heap.get? b=some o→b ∉ X.ex→b ∉ ch:=fun b o e hx hb=>by
  rcases (hch b hb).1 with z | z
  ·exact hx z
  ·exact absurd (Nat.lt_of_lt_of_le (Heap.lt_size e) z) (Nat.lt_irrefl _)
 have cellK:∀x c,X.env.cells.lookup x=some c→∀v,s.heap.IsCell c v→h'.IsCell c v:=fun x c e v ⟨o,ho,hd⟩=>by
  have nch:c ∉ ch:=fun z=>(hch c z).2.2.1 x c e rfl;by_cases hc:c∈X.fs
  ·obtain ⟨sl,q⟩:=slot c o (I.cne x c e) hc nch ho (I.lP x c e)
   exact ⟨_,q,hd⟩
  ·exact ⟨o,keep c o (I.cne x c e) hc nch ho (I.lP x c e),hd⟩
 refine ⟨I.ok,I.os,hg,⟨fun b o e n hb hx=>?_,fun b o e n hb hx=>?_,fun b o e n hx=>?_,fun b o e hx=>?_,fun b xs e=>tO b xs (I.base.tO b xs e),fun b o xs e=>rj b o xs (I.base.rj b o xs e),fun b ps e=>?_⟩,?_,fun x c e=>?_,?_,fun x c e=>?_,fun p hp=>?_,hok,I.len⟩
 ·exact keep b o (neL b o e) hb (neC b o e hx) (I.base.keep b o e n hb hx) (I.base.free b o e n hx)
 ·obtain ⟨sl,e1⟩:=I.base.slot b o e n hb hx
  obtain ⟨sl',e2⟩:=slot b _ (neL b o e) hb (neC b o e hx) e1 (I.base.free b o e n hx);exact ⟨sl',e2⟩
 ·obtain ⟨o',e1⟩:=I.base.there b o e hx
  exact free b o' (neC b o e hx) e1 (I.base.free b o e n hx)
 ·obtain ⟨o',e1⟩:=I.base.there b o e hx
  exact there b o' (neC b o e hx) e1
 ·obtain ⟨m1,e1⟩:=I.base.tP b ps e
  obtain ⟨m2,e2⟩:=tP b _ e1;exact ⟨m1++m2,by rw [e2,Array.append_assoc]⟩
 ·obtain ⟨m,hn,hl⟩:=I.loc
  refine ⟨m,ns m hn,fun i x v e1 e2 e3=>?_⟩;obtain ⟨u,r,l⟩:=hl i x v e1 e2 e3;refine ⟨u,r,?_⟩;rcases l with l | ⟨k,c,e,z⟩
  ·exact .inl l
  ·exact .inr ⟨k,c,e,cellK x c e _ z⟩
 ·obtain ⟨v,z⟩:=I.cell x c e
  exact ⟨v,cellK x c e v z⟩
 ·obtain ⟨m,⟨o,_,_,ho,_⟩,_⟩:=I.loc
  exact free _ o (fun z=>(hch _ z).2.1 rfl) ho I.free
 ·obtain ⟨v,o,ho,hd⟩:=I.cell x c e
  exact free c o (fun z=>(hch c z).2.2.1 x c e rfl) ho (I.lP x c e)
 ·obtain ⟨e,n,ne,nf,d⟩:=I.pin p hp
  have nch:p.1 ∉ ch:=fun z=>(hch p.1 z).2.2.2 p hp rfl;exact ⟨keep p.1 p.2 ne nf nch e n,free p.1 p.2 nch e n,ne,nf,d⟩
theorem Inv.un {t':Nat} (I:Inv X pins σ H s) (u:Un X.fs [] H H' s.heap h') (hok:HOk X.prog X.w H' h'):Inv X pins σ H' { s with heap:=h',toks:=t' }:=by
 obtain ⟨m,⟨o,es,ep,ho,r⟩,_⟩:=id I.loc;obtain ⟨sl,hL⟩:=u.any ho I.free (by simp);exact I.step (g':=s.gens) (d':=s.drawn) (ch:=[]) (fun _ z=>nomatch z) (fun b o _ hb _ e n=>u.keep b o e n hb (by simp)) (fun b o _ hb _ e n=>u.slot b o e n hb (by simp)) (fun b o _ e n=>u.free b o e n (by simp)) (fun b o _ e=>u.there b o e (by simp)) u.tO u.rj u.tP (fun m' hm=>by
  obtain ⟨o',es',ep',ho',r'⟩:=hm;rw [ho] at ho';cases ho';exact ⟨_,es',ep',hL,r'⟩) hok I.bare
theorem Inv.call {g':Array GenState} {t':Nat} {d':Drawn} {ch:List Addr} (I:Inv X pins σ H s) (u:Un (frs X.stack) ch H H' s.heap h') (hok:HOk X.prog X.w H' h') (hg:AllBare g')
  (hch:∀b∈ch,(b∈X.ex∨X.s_0.heap.objs.size≤b)∧b≠X.env.locals∧(∀x c,X.env.cells.lookup x=some c→c≠b)∧∀p∈X.pn++pins,p.1≠b) :
  Inv X pins σ H' { s with heap:=h',gens:=g',drawn:=d',toks:=t' }:=by
 obtain ⟨m,⟨o,es,ep,ho,r⟩,_⟩:=id I.loc;obtain ⟨sl,hL⟩:=u.any ho I.free fun z=>(hch _ z).2.1 rfl;exact I.step (ch:=ch) hch (fun b o hL hb hc e n=>u.keep b o e n (fun z=>(List.mem_cons.mp (I.AM b z)).elim hL hb) hc) (fun b o _ _ hc e n=>u.any e n hc) (fun b o hc e n=>u.free b o e n hc) (fun b o hc e=>u.there b o e hc) u.tO u.rj u.tP (fun m' hm=>by
  obtain ⟨o',es',ep',ho',r'⟩:=hm;rw [ho] at ho';cases ho';exact ⟨_,es',ep',hL,r'⟩) hok hg
theorem Inv.turned {t':Nat} {it:Addr} (I:Inv X pins σ H s) (k:∀b o,b≠it→s.heap.get? b=some o→h'.get? b=some o) (hn:H it=none) (hL:it≠X.env.locals)
  (h1:it∈X.ex∨X.s_0.heap.objs.size≤it) (h2:∀x c,X.env.cells.lookup x=some c→c≠it) (h3:∀p∈X.pn++pins,p.1≠it):Inv X pins σ H { s with heap:=h',toks:=t' }:=by
 have nit:∀b u,H b=some u→b≠it:=fun b u e z=>by rw [z,hn] at e;cases e
 refine I.step (g':=s.gens) (d':=s.drawn) (ch:=[it]) (fun b hb=>?_) (fun b o _ _ hc e _=>k b o (fun z=>hc (by simp [z])) e) (fun b o _ _ hc e _=>⟨o.slots,k b o (fun z=>hc (by simp [z])) e⟩) (fun _ _ _ _ n=>n)
  (fun b o hc e=>⟨o,k b o (fun z=>hc (by simp [z])) e⟩) (fun _ _ e=>e) (fun _ _ _ e=>e) (fun b ps e=>⟨#[],by rw [e];simp⟩) (fun m hm=>?_) (fun b u e=>?_) I.bare
 ·have e:b=it:=by simpa using hb
  subst e;exact ⟨h1,hL,h2,h3⟩
 ·obtain ⟨o,es,ep,ho,r⟩:=hm
  exact ⟨o,es,ep,k _ o (Ne.symm hL) ho,r⟩
 ·refine (I.hok b u e).qI (fun c v hc q=>k c v ?_ q) (fun _ q=>q) fun _ _ q=>q
  rcases hc with z | z
  ·rw [z];exact nit b u e
  ·exact nit c _ z
theorem Inv.tok (I:Inv X pins σ H s) (t:Nat):Inv X pins σ H { s with toks:=t }:=I.un (h':=s.heap) (t':=t) Un.refl I.hok
theorem Inv.kept {t':Nat} (I:Inv X pins σ H s) (k:∀b u,s.heap.get? b=some u→h'.get? b=some u):Inv X pins σ H { s with heap:=h',toks:=t' }:=I.un (Un.kept k) (I.hok.kept k)
theorem Inv.laid {a:Addr} {o:HO} {t':Nat} (I:Inv X pins σ H s) (k:∀b u,s.heap.get? b=some u→h'.get? b=some u) (hp:s.heap.objs.size≤a) (new:jn X.prog X.w (upd H a o) h' a o) :
  Inv X pins σ (upd H a o) { s with heap:=h',toks:=t' }:=I.un (Un.laid k hp (I.hok.fresh hp)) (I.hok.laid k hp new)
theorem Inv.write {x e:Addr} {o:HO} {t':Nat} (I:Inv X pins σ H s) (mu:Mut (H x)) (he:e=x∨H e=some (.own x)) (k:∀b u,b≠e→s.heap.get? b=some u→h'.get? b=some u) (heo:∃u,h'.get? e=some u)
  (new:jn X.prog X.w (upd H x o) h' x o):Inv X pins σ (upd H x o) { s with heap:=h',toks:=t' }:=I.un (Un.write mu he k heo) (I.hok.write mu he k heo new)
theorem Inv.weak {σ':List (Option V)} (I:Inv X pins σ H s) (hl:σ'.length=σ.length) (w:∀(i:Nat) v,σ'[i]? = some (some v)→σ[i]? = some (some v)):Inv X pins σ' H s:=
 ⟨I.ok,I.os,I.bare,I.base,let ⟨m,hn,hl'⟩:=I.loc;⟨m,hn,fun i x v e1 e2 e3=>hl' i x v e1 (w i v e2) e3⟩,I.cell,I.free,I.lP,I.pin,I.hok,hl.trans I.len⟩
theorem Inv.B7 {pins':List (Addr×Obj)} (I:Inv X pins σ H s) (h:∀p∈pins',s.heap.get? p.1=some p.2∧H p.1=none∧p.1≠X.env.locals∧p.1 ∉ X.fs∧∀v,p.2.data≠.cell v):Inv X pins' σ H s:=
 ⟨I.ok,I.os,I.bare,I.base,I.loc,I.cell,I.free,I.lP,fun p hp=>(List.mem_append.mp hp).elim (fun z=>I.pin p (List.mem_append_left _ z)) (h p),I.hok,I.len⟩
theorem vv {N:List Str} (hN:N.Nodup) {i j:Nat} {x:Str} (a:N[i]? = some x) (b:N[j]? = some x):i=j:=by
 obtain ⟨h1,e1⟩:=List.getElem?_eq_some_iff.mp a;obtain ⟨h2,e2⟩:=List.getElem?_eq_some_iff.mp b;exact (List.getElem_inj hN).mp (e1.trans e2.symm)
theorem xc {M:Model} {A:Around} {E:Value→Shared→Prop} {i:Nat} {x:Str} {v:V} {u:Value} {Q:Unit→Shared→Prop} (I:Inv X pins σ H s) (hN:X.N.Nodup) (hi:X.N[i]? = some x) (hx:Loc X.env.scope x) (r:RelV v u)
  (h:∀s',Inv X pins (σ.set i (some v)) H s'→(∃a,Heap.SameBut a s.heap s'.heap∧(a=X.env.locals∨X.env.cells.lookup x=some a))→Q () s') (hf:X.fn x=true∨X.env.scope.names.lookup x=some .local:=by first | exact .inl rfl | exact .inr rfl | assumption):wpAny M A (storeName X.env x u) Q E s:=by
 obtain ⟨m,hn,hl⟩:=id I.loc;have hcls:(X.env.scope.kind == .class || (X.env.scope.kind == .module && X.env.locals != X.env.globals))=false:=by rw [I.ok.kind];rfl
 have hiσ:i<σ.length:=by rw [I.len];exact (List.getElem?_eq_some_iff.mp hi).1
 have cne:=I.cne;have tracked:∀{a:Addr} {h':Heap},(∃o,s.heap.get? a=some o∧H a=none)→Heap.SameBut a s.heap h'→HOk X.prog X.w H h':=fun {a h'} ha hs b ob e=>by
  obtain ⟨_,_,hfree⟩:=ha;refine (I.hok b ob e).qI (fun c w' hc q=>(hs.2 c ?_).trans q) (fun _ q=>q) fun _ _ q=>q;rintro rfl;rcases hc with rfl | hc
  ·rw [hfree] at e;cases e
  ·rw [hfree] at hc;cases hc
 rcases hx with hk | hk
 ·refine wpAny_storeName_local hk hn (fun h' hn' hs=>?_) hcls
  obtain ⟨oL,_,_,hoL,_⟩:=id hn;refine h _ ⟨I.ok,I.os,I.bare,⟨fun b o e n hb hx=>?_,fun b o e n hb hx=>?_,I.base.free,fun b o e hx=>?_,I.base.tO,I.base.rj,I.base.tP⟩,⟨_,hn',fun j y v' e1 e2 e3=>?_⟩,fun y c e=>?_,I.free,I.lP,fun p hp=>?_,tracked ⟨oL,hoL,I.free⟩ hs,by simpa using I.len⟩ ⟨_,hs,.inl rfl⟩
  ·exact (hs.2 b (Nat.ne_of_lt (Nat.lt_of_lt_of_le (Heap.lt_size e) I.ok.above))).trans (I.base.keep b o e n hb hx)
  ·obtain ⟨sl,e1⟩:=I.base.slot b o e n hb hx
   exact ⟨sl,(hs.2 b (Nat.ne_of_lt (Nat.lt_of_lt_of_le (Heap.lt_size e) I.ok.above))).trans e1⟩
  ·obtain ⟨o',e1⟩:=I.base.there b o e hx
   exact ⟨o',(hs.2 b (Nat.ne_of_lt (Nat.lt_of_lt_of_le (Heap.lt_size e) I.ok.above))).trans e1⟩
  ·by_cases hj:j=i
   ·subst hj
    rw [hi] at e1;cases e1;rw [List.getElem?_set_self hiσ] at e2
    cases e2
    exact ⟨u,r,.inl ⟨hk,by simp⟩⟩
   ·rw [List.getElem?_set_ne (Ne.symm hj)] at e2
    obtain ⟨u',r',q⟩:=hl j y v' e1 e2 e3;refine ⟨u',r',?_⟩;rcases q with ⟨k,e⟩ | ⟨k,c,e,z⟩
    ·refine .inl ⟨k,?_⟩
     have:y≠x:=fun e=>hj (vv hN e1 (e▸hi));simp [this,e]
    ·exact .inr ⟨k,c,e,z.sameBut hs (cne y c e)⟩
  ·obtain ⟨w',z⟩:=I.cell y c e
   exact ⟨w',z.sameBut hs (cne y c e)⟩
  ·obtain ⟨e,n,ne,nf,d⟩:=I.pin p hp
   exact ⟨(hs.2 p.1 ne).trans e,n,ne,nf,d⟩
 ·have hfn:X.fn x=true:=by
   rcases hf with z | z
   ·exact z
   ·rw [z] at hk;cases hk
  obtain ⟨c,hc⟩:=I.ok.has x (.inl hk);obtain ⟨w',z⟩:=I.cell x c hc;refine wpAny_storeName_cell I.ok.kind hk hc z (fun h' hc' hs=>?_);obtain ⟨oc,hoc,hocd⟩:=id z;refine h { s with heap:=h' } ⟨I.ok,I.os,I.bare,⟨fun b o e n hb hx=>?_,fun b o e n hb hx=>?_,I.base.free,fun b o e hx=>?_,I.base.tO,I.base.rj,I.base.tP⟩,⟨m,hn.sameBut hs (Ne.symm (cne x c hc)),fun j y v' e1 e2 e3=>?_⟩,fun y c' e=>?_,I.free,I.lP,fun p hp=>?_,tracked ⟨oc,hoc,I.lP x c hc⟩ hs,by simpa using I.len⟩ ⟨c,hs,.inr hc⟩
  ·exact (hs.2 b (Nat.ne_of_lt (Nat.lt_of_lt_of_le (Heap.lt_size e) (I.ok.cab x c hfn hc)))).trans (I.base.keep b o e n hb hx)
  ·obtain ⟨sl,e1⟩:=I.base.slot b o e n hb hx
   exact ⟨sl,(hs.2 b (Nat.ne_of_lt (Nat.lt_of_lt_of_le (Heap.lt_size e) (I.ok.cab x c hfn hc)))).trans e1⟩
  ·obtain ⟨o',e1⟩:=I.base.there b o e hx
   exact ⟨o',(hs.2 b (Nat.ne_of_lt (Nat.lt_of_lt_of_le (Heap.lt_size e) (I.ok.cab x c hfn hc)))).trans e1⟩
  ·by_cases hj:j=i
   ·subst hj
    rw [hi] at e1;cases e1;rw [List.getElem?_set_self hiσ] at e2
    cases e2
    exact ⟨u,r,.inr ⟨.inl hk,c,hc,hc'⟩⟩
   ·rw [List.getElem?_set_ne (Ne.symm hj)] at e2
    obtain ⟨u',r',q⟩:=hl j y v' e1 e2 e3;refine ⟨u',r',?_⟩;rcases q with q | ⟨k,c',e,z'⟩
    ·exact .inl q
    ·refine .inr ⟨k,c',e,z'.sameBut hs ?_⟩
     rintro rfl;exact hj (vv hN e1 (I.ok.inj _ _ _ e hc▸hi))
  ·by_cases hcc:c'=c
   ·subst hcc;exact ⟨_,hc'⟩
   ·obtain ⟨w2,z2⟩:=I.cell y c' e
    exact ⟨w2,z2.sameBut hs hcc⟩
  ·obtain ⟨e,n,ne,nf,d⟩:=I.pin p hp
   refine ⟨(hs.2 p.1 ?_).trans e,n,ne,nf,d⟩;intro q;rw [q,hoc] at e;have q':oc=p.2:=Option.some.inj e;exact d w' (by rw [←q'];exact hocd)
theorem uK {M:Model} {A:Around} {E:Value→Shared→Prop} {i:Nat} {x:Str} {v:V} {u:Value} {Q:Unit→Shared→Prop} (I:Inv X pins σ H s) (hN:X.N.Nodup) (hi:X.N[i]? = some x) (hx:Loc X.env.scope x) (r:RelV v u)
  (h:∀s',Inv X pins (σ.set i (some v)) H s'→Q () s') (hf:X.fn x=true∨X.env.scope.names.lookup x=some .local:=by first | exact .inl rfl | exact .inr rfl | assumption):wpAny M A (storeName X.env x u) Q E s:=
 xc I hN hi hx r (fun s' I' _=>h s' I') hf
theorem Inv.K0 {s':Shared} {ch:List Addr} (I:Inv X pins σ H s) (ho:s'.os=s.os) (u:Un (frs X.stack) ch H H' s.heap s'.heap) (hok:HOk X.prog X.w H' s'.heap) (hg:AllBare s'.gens)
  (hch:∀b∈ch,(b∈X.ex∨X.s_0.heap.objs.size≤b)∧b≠X.env.locals∧(∀x c,X.env.cells.lookup x=some c→c≠b)∧∀p∈X.pn++pins,p.1≠b):Inv X pins σ H' s':=by
 obtain ⟨h',g',d',t',o'⟩:=s';have e:o'=s.os:=ho;subst e;exact I.call (g':=g') (t':=t') (d':=d') u hok hg hch
end
noncomputable abbrev XK:=Value→Option Addr→Hp→Prop
noncomputable abbrev St:=List (Option V)
noncomputable abbrev VK:=V→Hp→Prop
noncomputable abbrev TE:=St→Hp→VK→Prop
noncomputable abbrev TT:=St→Hp→(Bool→Hp→Prop)→Prop
noncomputable abbrev TA:=St→Hp→(List V→Hp→Prop)→Prop
structure Ends where
 nx:St→Hp→Prop
 rt:VK
 bk:St→Hp→Prop:=fun _ _=>False
 ct:St→Hp→Prop:=fun _ _=>False
noncomputable abbrev TS:=Ends→St→Hp→Prop
noncomputable def EP (X:Cx) (pins:List (Addr×Obj)) (σ:St) (Q:VK) (u:Value) (s':Shared):Prop:=∃v H',Inv X pins σ H' s'∧RelV v u∧Q v H'
noncomputable def TP (X:Cx) (pins:List (Addr×Obj)) (σ:St) (Q:Bool→Hp→Prop) (b:Bool) (s':Shared):Prop:=∃H',Inv X pins σ H' s'∧Q b H'
noncomputable def AP (X:Cx) (pins:List (Addr×Obj)) (σ:St) (Q:List V→Hp→Prop) (us:List Value) (s':Shared):Prop:=∃vs H',Inv X pins σ H' s'∧bK vs us∧Q vs H'
noncomputable def SP (X:Cx) (pins:List (Addr×Obj)) (D:Ends) (f:Flow) (s':Shared):Prop:=
 match f with
 | .next=>∃σ' H',Inv X pins σ' H' s'∧D.nx σ' H'
 | .brk=>∃σ' H',Inv X pins σ' H' s'∧D.bk σ' H'
 | .cont=>∃σ' H',Inv X pins σ' H' s'∧D.ct σ' H'
 | .ret u=>∃v σ' H',Inv X pins σ' H' s'∧RelV v u∧D.rt v H'
noncomputable def PE (X:Cx) (e:Expr) (t:TE):Prop:=
 ∀(pins:List (Addr×Obj)) (s:Shared) (σ:St) (H:Hp) (Q:VK),Inv X pins σ H s→t σ H Q→wpAny (model X.prog X.w) X.A (eval e X.env) (EP X pins σ Q) X.xe s
noncomputable def PT (X:Cx) (e:Expr) (t:TT):Prop:=
 ∀(pins:List (Addr×Obj)) (s:Shared) (σ:St) (H:Hp) (Q:Bool→Hp→Prop),Inv X pins σ H s→t σ H Q→wpAny (model X.prog X.w) X.A (isTrue e X.env (eval e X.env)) (TP X pins σ Q) X.xe s
noncomputable def PW (X:Cx) (e:Expr) (t:TT):Prop:=
 ∀(whole:Sem Value) (pins:List (Addr×Obj)) (s:Shared) (σ:St) (H:Hp) (Q:Bool→Hp→Prop),Inv X pins σ H s→t σ H Q→wpAny (model X.prog X.w) X.A (isTrue e X.env whole) (TP X pins σ Q) X.xe s
theorem PW.pt {X:Cx} {e:Expr} {t:TT} (h:PW X e t):PT X e t:=h _
noncomputable def PA (X:Cx) (es:List Expr) (t:TA):Prop:=
 ∀(pos:Pos) (pins:List (Addr×Obj)) (s:Shared) (σ:St) (H:Hp) (Q:List V→Hp→Prop),Inv X pins σ H s→t σ H Q→wpAny (model X.prog X.w) X.A (spliced (backTo pos (starEach es X.env))) (AP X pins σ Q) X.xe s
noncomputable def PS (X:Cx) (st:Stmt) (t:TS):Prop:=
 ∀(pins:List (Addr×Obj)) (s:Shared) (σ:St) (H:Hp) (D:Ends),Inv X pins σ H s→t D σ H→wpAny (model X.prog X.w) X.A (exec st X.env) (SP X pins D) X.xe s
noncomputable def PSs (X:Cx) (st:List Stmt) (t:TS):Prop:=
 ∀(pins:List (Addr×Obj)) (s:Shared) (σ:St) (H:Hp) (D:Ends),Inv X pins σ H s→t D σ H→wpAny (model X.prog X.w) X.A (execs st X.env) (SP X pins D) X.xe s
theorem thn {α:Type} {t:Sem α} {Q Q':α→Shared→Prop} {M:Model} {A:Around} {E:Value→Shared→Prop} {s:Shared} (h:wpAny M A t Q E s) (hQ:∀a s,Q a s→Q' a s):wpAny M A t Q' E s:=wpAny_mono h hQ fun _ _ x=>x
end L2
namespace L2
open PySem PySem.Spec PyProof.Rows
section
variable {X:Cx}
theorem bin {a b:Expr} {ta tb:TE} (ha:PE X a ta) (hb:PE X b tb) {pins:List (Addr×Obj)} {s:Shared} {σ:St} {H:Hp} {R:V→V→Hp→Prop} (I:Inv X pins σ H s) (h:ta σ H fun x H1=>tb σ H1 fun y H2=>R x y H2)
  {α:Type} {Q:α→Shared→Prop} {f:Value→Value→Sem α}
  (hf:∀v u s2 x y H2,Inv X pins σ H2 s2→RelV x v→RelV y u→R x y H2→wpAny (model X.prog X.w) X.A (f v u) Q X.xe s2) :
  wpAny (model X.prog X.w) X.A (eval a X.env) (fun v s₁=>wpAny (model X.prog X.w) X.A (eval b X.env) (fun u s₂=>wpAny (model X.prog X.w) X.A (f v u) Q X.xe s₂) X.xe s₁) X.xe s:=by
 refine thn (ha pins s σ H _ I h) fun v s1 ⟨x,H1,I1,r1,q1⟩=>?_;refine thn (hb pins s1 σ H1 _ I1 q1) fun u s2 ⟨y,H2,I2,r2,q2⟩=>?_;exact hf v u s2 x y H2 I2 r1 r2 q2
noncomputable def aR (i:Nat):TE:=fun σ H Q=>∃v,σ[i]? = some (some v)∧Q v H
noncomputable def tC (v:V):TE:=fun _ H Q=>Q v H
theorem AZ {i:Nat} {x:Str} {pos:Pos} (hN:X.N[i]? = some x) (hv:Vis X.env.scope x) (hd:(x == ("__debug__" : Str))=false:=by decide) (hcd:(x == ("__classdict__" : Str))=false:=by decide):PE X (.Name x pos) (aR i):=by
 intro pins s σ H Q I h;obtain ⟨v,e,h⟩:=h;obtain ⟨m,hn,hl⟩:=I.loc;obtain ⟨u,r,l⟩:=hl i x v hN e hv;have fin:EP X pins σ Q u s:=⟨v,H,I,r,h⟩;rcases l with ⟨hk,hm⟩ | ⟨hk,c,hc,hcell⟩
 ·exact wpAny_Name (wpAny_loadName_local I.ok.kind hk hn hm fin) hd
 ·rcases hk with hk | hk
  ·exact wpAny_Name (wpAny_loadName_cell I.ok.kind hk hc hcell fin) hd
  ·exact wpAny_Name (wpAny_loadName_free I.ok.kind hk hc hcell fin hcd) hd
theorem ag {i j pos}:PE X (.Constant (.int i) j pos) (tC (.int i)):=fun _ _ _ H _ I h=>wpAny_Constant_int ⟨.int i,H,I.tok _,⟨_,rfl⟩,h⟩
theorem iq {b j pos}:PE X (.Constant (.bool b) j pos) (tC (.bl b)):=fun _ _ _ H _ I h=>Constant_bool ⟨.bl b,H,I,rfl,h⟩
theorem iF {j pos}:PE X (.Constant .none j pos) (tC .non):=fun _ _ _ H _ I h=>Constant_none ⟨.non,H,I,rfl,h⟩
noncomputable def Gl (X:Cx) (x:Str):Prop:=X.env.kindOf x=some .globalImplicit
theorem uu {E:Value→Shared→Prop} {pins:List (Addr×Obj)} {s:Shared} {σ:St} {H:Hp} {x:Str} {u:Value} {pos:Pos} {Q:Value→Shared→Prop} (I:Inv X pins σ H s) (hg:Gl X x) (hm:X.mg x=some u) (h:Q u s)
  (hd:(x == ("__debug__" : Str))=false:=by decide):wpAny (model X.prog X.w) X.A (eval (.Name x pos) X.env) Q E s:=
 Calls.Name_function_global I.ok.kind hg (Calls.loadGlobal_global (by rw [I.ok.glob];exact I.mod.glob.keeps I.bk) hm h) hd
theorem Bg {E:Value→Shared→Prop} {pins:List (Addr×Obj)} {s:Shared} {σ:St} {H:Hp} {x:Str} {u:Value} {pos:Pos} {Q:Value→Shared→Prop} (I:Inv X pins σ H s) (hg:Gl X x) (hm:X.mg x=none) (hv:bootBuiltins x=some u) (h:Q u s)
  (hn:x ≠ "__name__" := by decide) (hd:(x == ("__debug__" : Str))=false:=by decide):wpAny (model X.prog X.w) X.A (eval (.Name x pos) X.env) Q E s:=by
 obtain ⟨mb,h1,h2⟩:=I.mod.blt;exact Calls.Name_function_global I.ok.kind hg (Calls.loadGlobal_builtin (by rw [I.ok.glob];exact I.mod.glob.keeps I.bk) hm (by rw [I.ok.blt];exact h1.keeps I.bk) ((h2 x hn).trans hv) h) hd
theorem B9 {x:Str} {v:V} {u:Value} {pos:Pos} (hg:Gl X x) (hm:X.mg x=some u) (r:RelV v u) (hd:(x == ("__debug__" : Str))=false:=by decide):PE X (.Name x pos) (tC v):=
 fun _ _ _ H _ I h=>uu I hg hm ⟨v,H,I,r,h⟩ hd
variable {a b:Expr} {ta tb:TE} {pos:Pos}
noncomputable def PC (X:Cx) (op:CmpOp) (a b:Expr) (t:TE):Prop:=
 ∀(pins:List (Addr×Obj)) (s:Shared) (σ:St) (H:Hp) (Q:VK),Inv X pins σ H s→t σ H Q→
  wpAny (model X.prog X.w) X.A (eval a X.env) (fun v s₁=>wpAny (model X.prog X.w) X.A (eval b X.env) (fun u s₂=>wpAny (model X.prog X.w) X.A (compareOp op v u) (EP X pins σ Q) X.xe s₂) X.xe s₁) X.xe s
theorem zN (b:Expr) {op:CmpOp} (h:op≠.In) (h2:op≠.NotIn):behindInMarks op b=false:=by
 have e1:(op == CmpOp.In)=false:=by cases op <;> first | rfl | exact absurd rfl h
 have e2:(op == CmpOp.NotIn)=false:=by cases op <;> first | rfl | exact absurd rfl h2
 cases b <;> simp [behindInMarks,e1,e2]
noncomputable def Jd (ta:TE):TE:=fun σ H Q=>ta σ H fun x H1=>Q (.bl (decide (x = .non))) H1
noncomputable def BR (ta:TE):TE:=fun σ H Q=>ta σ H fun x H1=>Q (.bl (!decide (x = .non))) H1
theorem RelV.zL {x:V} {v:Value} (r:RelV x v):(v == Value.none)=decide (x = .non):=by
 cases x with
 | non=>cases r;rfl
 | bl _=>cases r;rfl
 | int _=>obtain ⟨t,rfl⟩:=r;rfl
 | str _=>obtain ⟨t,rfl⟩:=r;rfl
 | byt _=>obtain ⟨t,rfl⟩:=r;rfl
 | flt _=>obtain ⟨t,rfl⟩:=r;rfl
 | ref _=>cases r;rfl
 | ty _=>cases r;rfl
theorem nT {j pos'} (ha:PE X a ta):PC X .Is a (.Constant .none j pos') (Jd ta):=by
 intro pins s σ H Q I h;refine thn (ha pins s σ H _ I h) fun v s1 ⟨x,H1,I1,r1,q1⟩=>?_;exact Constant_none (is_none_gen ⟨.bl _,H1,I1,by rw [r1.zL];rfl,q1⟩)
theorem ya {j pos'} (ha:PE X a ta):PC X .IsNot a (.Constant .none j pos') (BR ta):=by
 intro pins s σ H Q I h;refine thn (ha pins s σ H _ I h) fun v s1 ⟨x,H1,I1,r1,q1⟩=>?_;exact Constant_none (isnot_none_gen ⟨.bl _,H1,I1,by rw [r1.zL];rfl,q1⟩)
noncomputable def tB (t:TE):TT:=fun σ H Q=>t σ H fun x H1=>∃c,x = .bl c∧Q c H1
theorem Jx {op:CmpOp} {t:TE} (h:PC X op a b t) (h1:behindInMarks op b=false:=by first | exact zN _ (by decide) (by decide) | rfl):PE X (.Compare a [op] [b] pos) t:=fun pins s σ H Q I hw=>wpAny_Compare1 (h pins s σ H Q I hw) h1
theorem kM {op:CmpOp} {t:TE} (h:PC X op a b t) (h1:behindInMarks op b=false:=by first | exact zN _ (by decide) (by decide) | rfl):PT X (.Compare a [op] [b] pos) (tB t):=by
 intro pins s σ H Q I hw;refine wpAny_isTrue_Compare1 (thn (h pins s σ H _ I hw) fun v s1 h1=>thn h1 fun u s2 h2=>thn h2 fun c s3 ⟨x,H1,I1,r1,q1⟩=>?_) h1;obtain ⟨d,rfl,q⟩:=q1
 cases r1
 exact wpAny_truthy_bool ⟨H1,I1,q⟩
theorem aJ {e:Expr} {t:TE} (h:PE X e t) (he:∀whole,isTrue e X.env whole=(do let v ←whole;standAt e.pos;holding [v] (truthy v)):=by intro _;rfl):PT X e (tB t):=by
 intro pins s σ H Q I hw;refine isTrue_plain (thn (h pins s σ H _ I hw) fun v s1 ⟨x,H1,I1,r1,q1⟩=>?_) (he _);obtain ⟨d,rfl,q⟩:=q1
 cases r1
 exact wpAny_truthy_bool ⟨H1,I1,q⟩
variable {tA tB':TT} {rest:List Expr}
noncomputable def xK (t u:TT):TT:=fun σ H Q=>t σ H fun c H1=>if c=true then u σ H1 Q else Q false H1
noncomputable def tOr (t u:TT):TT:=fun σ H Q=>t σ H fun c H1=>if c=true then Q true H1 else u σ H1 Q
noncomputable def CO (t:TT):TT:=fun σ H Q=>t σ H fun c H1=>Q (!c) H1
theorem bS (ha:PT X a tA):PW X (.BoolOp .And [a] pos) tA:=by
 intro wh pins s σ H Q I h;refine isTrue_and (thn (ha pins s σ H Q I h) fun c s1 e=>?_)
 cases c with
 | true=>exact isTrue_and_nil e
 | false=>exact e
theorem gK (ha:PT X a tA):PW X (.BoolOp .Or [a] pos) tA:=by
 intro wh pins s σ H Q I h;refine isTrue_or (thn (ha pins s σ H Q I h) fun c s1 e=>?_)
 cases c with
 | false=>exact isTrue_or_nil e
 | true=>exact e
theorem bQ (ha:PT X a tA) (hb:PW X (.BoolOp .And (b::rest) pos) tB'):PW X (.BoolOp .And (a::b::rest) pos) (xK tA tB'):=by
 intro wh pins s σ H Q I h;refine isTrue_and (thn (ha pins s σ H _ I h) fun c s1 ⟨H1,I1,q1⟩=>?_)
 cases c with
 | true=>exact hb wh pins s1 σ H1 Q I1 q1
 | false=>exact ⟨H1,I1,q1⟩
theorem gL (ha:PT X a tA) (hb:PW X (.BoolOp .Or (b::rest) pos) tB'):PW X (.BoolOp .Or (a::b::rest) pos) (tOr tA tB'):=by
 intro wh pins s σ H Q I h;refine isTrue_or (thn (ha pins s σ H _ I h) fun c s1 ⟨H1,I1,q1⟩=>?_)
 cases c with
 | true=>exact ⟨H1,I1,q1⟩
 | false=>exact hb wh pins s1 σ H1 Q I1 q1
theorem cF (ha:PT X a tA):PT X (.UnaryOp .Not a pos) (CO tA):=by
 intro pins s σ H Q I h;exact isTrue_not (ha pins s σ H (fun c H1=>Q (!c) H1) I h)
noncomputable def qG (ta tb:TE):TE:=fun σ H Q=>ta σ H fun x H1=>∃c,x = .bl c∧if c=true then tb σ H1 Q else Q (.bl false) H1
noncomputable def Jb (ta tb:TE):TE:=fun σ H Q=>ta σ H fun x H1=>∃c,x = .bl c∧if c=true then Q (.bl true) H1 else tb σ H1 Q
theorem iE {op} {t:TE} (h:PE X a t):PE X (.BoolOp op [a] pos) t:=fun pins s σ H Q I hw=>BoolOp_one (h pins s σ H Q I hw)
theorem fL (ha:PE X a ta) (hb:PE X (.BoolOp .And (b::rest) pos) tb):PE X (.BoolOp .And (a::b::rest) pos) (qG ta tb):=by
 intro pins s σ H Q I h;refine BoolOp_and (thn (ha pins s σ H _ I h) fun v s1 ⟨x,H1,I1,r1,q1⟩=>?_);obtain ⟨c,rfl,q1⟩:=q1
 cases r1
 refine wpAny_truthy_bool ?_
 cases c with
 | true=>exact hb pins s1 σ H1 Q I1 q1
 | false=>exact ⟨.bl false,H1,I1,rfl,q1⟩
theorem IL (ha:PE X a ta) (hb:PE X (.BoolOp .Or (b::rest) pos) tb):PE X (.BoolOp .Or (a::b::rest) pos) (Jb ta tb):=by
 intro pins s σ H Q I h;refine BoolOp_or (thn (ha pins s σ H _ I h) fun v s1 ⟨x,H1,I1,r1,q1⟩=>?_);obtain ⟨c,rfl,q1⟩:=q1
 cases r1
 refine wpAny_truthy_bool ?_
 cases c with
 | false=>exact hb pins s1 σ H1 Q I1 q1
 | true=>exact ⟨.bl true,H1,I1,rfl,q1⟩
noncomputable def tIf (t:TT) (ta tb:TE):TE:=fun σ H Q=>t σ H fun c H1=>if c=true then ta σ H1 Q else tb σ H1 Q
theorem zA {c:Expr} (hc:PT X c tA) (ha:PE X a ta) (hb:PE X b tb):PE X (.IfExp c a b pos) (tIf tA ta tb):=by
 intro pins s σ H Q I h;refine wpAny_IfExp (thn (hc pins s σ H _ I h) fun d s1 ⟨H1,I1,q1⟩=>?_)
 cases d with
 | true=>exact ha pins s1 σ H1 Q I1 q1
 | false=>exact hb pins s1 σ H1 Q I1 q1
end
end L2
namespace L2
open PySem PySem.Spec PyProof.Rows
noncomputable def SqL (K:PySem.W.Frag) (H:Hp) (a:Addr) (xs:List V):Prop:=
 Rd H a (.lst xs)∨
  ∃(o:Obj) (its:Array Value) (n:Nat),K.lookup a=some o∧o.cls = .type "list" ∧ o.dict=none∧o.data = .seq its n∧its.size≤sizeLine∧bK xs its.toList
noncomputable def SqT (K:PySem.W.Frag) (H:Hp) (a:Addr) (xs:List V):Prop:=
 Rd H a (.tup xs)∨
  ∃(o:Obj) (its:Array Value) (n:Nat),K.lookup a=some o∧o.cls = .type "tuple" ∧ o.data = .seq its n∧its.size≤sizeLine∧bK xs its.toList
noncomputable def LP:Value→Option V
 | .none=>some .non
 | .bool b=>some (.bl b)
 | .int i _=>some (.int i)
 | .str x _=>some (.str x)
 | .bytes b _=>some (.byt b)
 | .float b _=>some (.flt b)
 | .ref a=>some (.ref a)
 | .type n=>some (.ty n)
 | _=>none
theorem RelV.abs {x:V} {u:Value} (r:RelV x u):LP u=some x:=by
 cases x with
 | non=>cases r;rfl
 | bl _=>cases r;rfl
 | int _=>obtain ⟨t,rfl⟩:=r;rfl
 | str _=>obtain ⟨t,rfl⟩:=r;rfl
 | byt _=>obtain ⟨t,rfl⟩:=r;rfl
 | flt _=>obtain ⟨t,rfl⟩:=r;rfl
 | ref _=>cases r;rfl
 | ty _=>cases r;rfl
theorem RelV.inj {x y:V} {u:Value} (r:RelV x u) (q:RelV y u):x=y:=Option.some.inj (r.abs.symm.trans q.abs)
theorem bK.inj:∀{xs ys:List V} {us:List Value},bK xs us→bK ys us→xs=ys
 | _,_,_,.nil,.nil=>rfl
 | _,_,_,.cons r t,.cons r' t'=>by rw [r.inj r',bK.inj t t']
section
variable {X:Cx} {pins:List (Addr×Obj)} {σ:St} {H:Hp} {s:Shared} {a:Addr} {xs ys:List V}
theorem SqL.of {K:PySem.W.Frag} (h:H a=some (.lst xs)):SqL K H a xs:=.inl (.inl h)
theorem SqT.of {K:PySem.W.Frag} (h:H a=some (.tup xs)):SqT K H a xs:=.inl (.inl h)
theorem Inv.list (I:Inv X pins σ H s) (h:SqL X.K H a xs):∃its:List Value,bK xs its∧PlainL s.heap a its.toArray∧xs.length≤sizeLine:=by
 rcases h with h | ⟨o,its,n,hk,hc,hd,hs,hz,r⟩
 ·obtain ⟨z,its,n,r,e⟩:=h.ok I.hok
  exact ⟨its,r,⟨_,n,e,rfl,rfl,rfl⟩,z⟩
 ·refine ⟨its.toList,r,⟨o,n,I.kIn a o hk,hc,hd,by simpa using hs⟩,?_⟩
  have e:=r.length;simp only [Array.length_toList] at e;omega
theorem Inv.tuple (I:Inv X pins σ H s) (h:SqT X.K H a xs):∃its:List Value,bK xs its∧IsTup s.heap a its.toArray∧xs.length≤sizeLine:=by
 rcases h with h | ⟨o,its,n,hk,hc,hs,hz,r⟩
 ·obtain ⟨z,its,r,p⟩:=h.ok I.hok
  exact ⟨its,r,p,z⟩
 ·refine ⟨its.toList,r,⟨o,I.kIn a o hk,hc,n,by simpa using hs⟩,?_⟩
  have e:=r.length;simp only [Array.length_toList] at e;omega
theorem Inv.Ff (I:Inv X pins σ H s) (h:SqL X.K H a xs) (h':SqL X.K H a ys):xs=ys:=by
 obtain ⟨its,r,⟨o,n,e,_,_,d⟩,_⟩:=I.list h;obtain ⟨its',r',⟨o',n',e',_,_,d'⟩,_⟩:=I.list h';rw [e] at e';cases e';rw [d] at d';injection d' with d1 _;have:its=its':=by simpa using congrArg Array.toList d1
 subst this;exact r.inj r'
theorem Inv.CI (I:Inv X pins σ H s) (h:SqT X.K H a xs) (h':SqT X.K H a ys):xs=ys:=by
 obtain ⟨its,r,⟨o,e,_,n,d⟩,_⟩:=I.tuple h;obtain ⟨its',r',⟨o',e',_,n',d'⟩,_⟩:=I.tuple h';rw [e] at e';cases e';rw [d] at d';injection d' with d1 _;have:its=its':=by simpa using congrArg Array.toList d1
 subst this;exact r.inj r'
end
noncomputable abbrev Cx.wk (X:Cx) (E:Value→Shared→Prop):Cx:={ X with xe:=E }
noncomputable abbrev Cx.nox (X:Cx):Cx:=X.wk fun _ _=>False
theorem Cx.Ok.wk {X:Cx} (ok:X.Ok) (E:Value→Shared→Prop):(X.wk E).Ok:=
 ⟨ok.mod,ok.kind,ok.glob,ok.blt,ok.above,ok.inj,ok.has,ok.cab,ok.hd,ok.frames,ok.stk,ok.exf,ok.bs,ok.bsz,ok.E6,ok.Fz,ok.uh,ok.frf⟩
theorem Cx.Ok.nB {X:Cx} {E:Value→Shared→Prop} (ok:(X.wk E).Ok):X.Ok:=
 ⟨ok.mod,ok.kind,ok.glob,ok.blt,ok.above,ok.inj,ok.has,ok.cab,ok.hd,ok.frames,ok.stk,ok.exf,ok.bs,ok.bsz,ok.E6,ok.Fz,ok.uh,ok.frf⟩
section
variable {X:Cx} {pins:List (Addr×Obj)} {σ:St} {H:Hp} {s:Shared} {E:Value→Shared→Prop}
theorem Inv.wk (I:Inv X pins σ H s) (E:Value→Shared→Prop):Inv (X.wk E) pins σ H s:=⟨I.ok.wk E,I.os,I.bare,I.base,I.loc,I.cell,I.free,I.lP,I.pin,I.hok,I.len⟩
theorem Inv.nB (I:Inv (X.wk E) pins σ H s):Inv X pins σ H s:=⟨I.ok.nB,I.os,I.bare,I.base,I.loc,I.cell,I.free,I.lP,I.pin,I.hok,I.len⟩
theorem SP.nB {D:Ends} {f:Flow} {s':Shared} (h:SP (X.wk E) pins D f s'):SP X pins D f s':=by
 cases f with
 | next=>obtain ⟨σ',H',I,q⟩:=h;exact ⟨σ',H',I.nB,q⟩
 | brk=>obtain ⟨σ',H',I,q⟩:=h;exact ⟨σ',H',I.nB,q⟩
 | cont=>obtain ⟨σ',H',I,q⟩:=h;exact ⟨σ',H',I.nB,q⟩
 | ret u=>obtain ⟨v,σ',H',I,r,q⟩:=h;exact ⟨v,σ',H',I.nB,r,q⟩
theorem PSs.nox {st:List Stmt} {t:TS} (h:PSs X.nox st t):PSs X st t:=fun pins s σ H D I hw =>
 wpAny_mono (h pins s σ H D (I.wk _) hw) (fun _ _ q=>q.nB) fun _ _ z=>False.elim z
end
section
variable {X:Cx} {st:Stmt} {rest:List Stmt} {t u:TS} {e:Expr} {te:TE} {pos:Pos}
noncomputable def qF:TS:=fun D σ H=>D.nx σ H
noncomputable def aP (t u:TS):TS:=fun D σ H=>t { D with nx:=u D } σ H
theorem Hr:PSs X [] qF:=fun _ _ σ H _ I h=>wpAny_execs_nil ⟨σ,H,I,h⟩
theorem aa (h1:PS X st t) (h2:PSs X rest u):PSs X (st::rest) (aP t u):=by
 intro pins s σ H D I h;refine wpAny_execs_cons (thn (h1 pins s σ H { D with nx:=u D } I h) fun f s1 q=>?_)
 cases f with
 | next =>
  obtain ⟨σ',H',I',q⟩:=q;exact h2 pins s1 σ' H' D I' q
 | ret v=>exact q
 | brk=>exact q
 | cont=>exact q
theorem ae (h1:PS X st t):PSs X [st] t:=by
 intro pins s σ H D I h;refine wpAny_execs_cons (thn (h1 pins s σ H D I h) fun f s1 q=>?_)
 cases f with
 | next=>exact wpAny_execs_nil q
 | ret v=>exact q
 | brk=>exact q
 | cont=>exact q
noncomputable def Ku:TS:=fun D σ H=>D.ct σ H
theorem zy:PS X (.Continue pos) Ku:=fun _ _ σ H _ I h=>wpAny_Continue ⟨σ,H,I,h⟩
theorem Inv.quiet {pins:List (Addr×Obj)} {σ:St} {H:Hp} {s:Shared} (I:Inv X pins σ H s):interactive X.env=false:=by simp [interactive,I.ok.kind]
noncomputable def fJ (te:TE):TS:=fun D σ H=>te σ H fun _ H1=>D.nx σ H1
theorem aj (he:PE X e te) (hs:swapsWith e none pos.line X.env=pure false:=by rfl):PS X (.Expr e pos) (fJ te):=by
 intro pins s σ H D I h;exact wpAny_Expr_any (thn (he pins s σ H _ I h) fun v s1 ⟨x,H1,I1,r1,q1⟩=>⟨σ,H1,I1,q1⟩) I.quiet hs
noncomputable def pG (te:TE):TS:=fun D σ H=>te σ H D.rt
theorem aw (he:PE X e te):PS X (.Return (some e) pos) (pG te):=by
 intro pins s σ H D I h;exact wpAny_Return_some (thn (he pins s σ H _ I h) fun v s1 ⟨x,H1,I1,r1,q1⟩=>⟨x,σ,H1,I1,r1,q1⟩)
noncomputable def IF:TS:=fun D _ H=>D.rt .non H
theorem gh:PS X (.Return none pos) IF:=fun _ _ σ H _ I h=>wpAny_Return_none ⟨.non,σ,H,I,rfl,h⟩
noncomputable def nE (c:TT) (t u:TS):TS:=fun D σ H=>c σ H fun b H1=>if b=true then t D σ H1 else u D σ H1
theorem eU {c:Expr} {a b:List Stmt} {tc:TT} (hc:PT X c tc) (ha:PSs X a t) (hb:PSs X b u):PS X (.If c a b pos) (nE tc t u):=by
 intro pins s σ H D I h;refine wpAny_If (thn (hc pins s σ H _ I h) fun d s1 ⟨H1,I1,q1⟩=>?_)
 cases d with
 | true=>exact ha pins s1 σ H1 D I1 q1
 | false=>exact hb pins s1 σ H1 D I1 q1
end
noncomputable abbrev TG:=V→St→Hp→(St→Hp→Prop)→Prop
noncomputable def PG (X:Cx) (target:Expr) (t:TG):Prop:=
 ∀(pins:List (Addr×Obj)) (s:Shared) (σ:St) (H:Hp) (v:V) (u:Value) (Q:St→Hp→Prop),Inv X pins σ H s→RelV v u→t v σ H Q→
  wpAny (model X.prog X.w) X.A (assign target X.env u) (fun _ s'=>∃σ' H',Inv X pins σ' H' s'∧Q σ' H') X.xe s
noncomputable abbrev TIp:=V→V→Hp→VK→Prop
noncomputable def PIp (X:Cx) (op:Operator) (t:TIp):Prop:=
 ∀(pins:List (Addr×Obj)) (s:Shared) (σ:St) (H:Hp) (x y:V) (v u:Value) (Q:VK),Inv X pins σ H s→RelV x v→RelV y u→t x y H Q→
  wpAny (model X.prog X.w) X.A (inplaceOp op v u) (EP X pins σ Q) X.xe s
section
variable {X:Cx} {pos:Pos}
noncomputable def da (i:Nat):TG:=fun v σ H Q=>Q (σ.set i (some v)) H
theorem d8 {i:Nat} {x:Str} (hN:X.N.Nodup) (hi:X.N[i]? = some x) (hx:Loc X.env.scope x) (hf:X.fn x=true∨X.env.scope.names.lookup x=some .local:=by first | exact .inl rfl | exact .inr rfl | assumption):PG X (.Name x pos) (da i):=by
 intro pins s σ H v u Q I r h;exact wpAny_assign_Name (uK I hN hi hx r (fun s' I'=>⟨_,H,I',h⟩) hf)
noncomputable def uJ (te:TE) (g:TG):TS:=fun D σ H=>te σ H fun x H1=>g x σ H1 D.nx
theorem Js {i:Nat} {x:Str} {e:Expr} {te:TE} {pos':Pos} (hN:X.N.Nodup) (hi:X.N[i]? = some x) (hx:Loc X.env.scope x) (he:PE X e te) (hs:swapsWith e (some (.Name x pos')) pos.line X.env=pure false:=by rfl) (hf:X.fn x=true∨X.env.scope.names.lookup x=some .local:=by first | exact .inl rfl | exact .inr rfl | assumption) :
  PS X (.Assign [.Name x pos'] e pos) (uJ te (da i)):=by
 intro pins s σ H D I h;refine wpAny_Assign_Name (thn (he pins s σ H _ I h) fun v s1 ⟨y,H1,I1,r1,q1⟩=>?_) hs;exact uK I1 hN hi hx r1 (fun s2 I2=>⟨_,H1,I2,q1⟩) hf
noncomputable def nk (i:Nat) (te:TE) (ti:TIp):TS:=fun D σ H=>∃x,σ[i]? = some (some x)∧te σ H fun y H1=>ti x y H1 fun z H2=>D.nx (σ.set i (some z)) H2
theorem Ju {i:Nat} {x:Str} {e:Expr} {te:TE} {op:Operator} {ti:TIp} {pos':Pos} (hN:X.N.Nodup) (hi:X.N[i]? = some x) (hx:Loc X.env.scope x) (he:PE X e te) (ho:PIp X op ti) (hf:X.fn x=true∨X.env.scope.names.lookup x=some .local:=by first | exact .inl rfl | exact .inr rfl | assumption) :
  PS X (.AugAssign (.Name x pos') op e pos) (nk i te ti):=by
 intro pins s σ H D I h;obtain ⟨v,e1,h⟩:=h;obtain ⟨m,hn,hl⟩:=I.loc;have vis:Vis X.env.scope x:=by rcases hx with k | k;exact .inl k;exact .inr (.inl k)
 obtain ⟨u,r,l⟩:=hl i x v hi e1 vis;refine wpAny_AugAssign_Name ?_;have go:wpAny (model X.prog X.w) X.A (eval e X.env) (fun w s₂=>wpAny (model X.prog X.w) X.A (inplaceOp op u w) (fun r s₃=>wpAny (model X.prog X.w) X.A (storeName X.env x r) (fun _=>SP X pins D .next) X.xe s₃) X.xe s₂) X.xe s:=by
  refine thn (he pins s σ H _ I h) fun w s1 ⟨y,H1,I1,r1,q1⟩=>?_;refine thn (ho pins s1 σ H1 v y u w _ I1 r r1 q1) fun z s2 ⟨zv,H2,I2,r2,q2⟩=>?_;exact uK I2 hN hi hx r2 (fun s3 I3=>⟨_,H2,I3,q2⟩) hf
 rcases l with ⟨hk,hm⟩ | ⟨hk,c,hc,hcell⟩
 ·exact wpAny_loadName_local I.ok.kind hk hn hm go
 ·rcases hk with hk | hk
  ·exact wpAny_loadName_cell I.ok.kind hk hc hcell go
  ·rcases hx with k | k
   ·have:X.env.scope.names.lookup x=some .free:=hk
    rw [k] at this;cases this
   ·have:X.env.scope.names.lookup x=some .free:=hk
    rw [k] at this;cases this
noncomputable def ipI (f:Int→Int→Int):TIp:=fun x y H Q=>∃i j,x = .int i∧y = .int j∧Q (.int (f i j)) H
theorem Bj:PIp X .Add (ipI fun i j=>i+j):=by
 intro pins s σ H x y v u Q I r1 r2 h;obtain ⟨i,j,e1,e2,q⟩:=h;subst e1;subst e2;obtain ⟨t,rfl⟩:=r1;obtain ⟨t',rfl⟩:=r2;exact iadd_int ⟨.int _,H,I.tok _,⟨_,rfl⟩,q⟩
theorem JK:PIp X .Sub (ipI fun i j=>i - j):=by
 intro pins s σ H x y v u Q I r1 r2 h;obtain ⟨i,j,e1,e2,q⟩:=h;subst e1;subst e2;obtain ⟨t,rfl⟩:=r1;obtain ⟨t',rfl⟩:=r2;exact isub_int ⟨.int _,H,I.tok _,⟨_,rfl⟩,q⟩
end
section
variable {X:Cx} {pos:Pos}
noncomputable def I0 (c:TT) (tb:TS):TS:=fun D σ H=>∃W:Nat→St→Hp→Prop,(∃m,W m σ H)∧∀m σ H,W m σ H→
 c σ H fun b H1=>if b=true then ∃N:St→Hp→Prop,(∀σ' H',N σ' H'→∃m',m'<m∧W m' σ' H')∧tb { D with nx:=N,ct:=N,bk:=D.nx } σ H1 else D.nx σ H1
theorem uZ {c:Expr} {body:List Stmt} {tc:TT} {tb:TS} (hp:PassesOwn (model X.prog X.w) X.A X.env X.xe) (hc:PT X c tc) (hb:PSs X body tb):PS X (.While c body [] pos) (I0 tc tb):=by
 intro pins s σ H D I h;obtain ⟨W,⟨m0,w0⟩,turn⟩:=h;refine wpAny_While (codeAny_whileLoop (fun n s'=>∃σ' H',Inv X pins σ' H' s'∧W n σ' H') ?_ m0 ⟨σ,H,I,w0⟩);rintro n s1 ⟨σ1,H1,I1,w1⟩;refine wpAny_passesOwn hp (thn (hc pins s1 σ1 H1 _ I1 (turn n σ1 H1 w1)) fun b s2 ⟨H2,I2,q2⟩=>?_)
 cases b with
 | true =>
  obtain ⟨N,hN,q2⟩:=q2;rw [if_pos rfl];refine wpAny_passesOwn hp (thn (hb pins s2 σ1 H2 _ I2 q2) fun f s3 q3=>?_)
  cases f with
  | next =>
   obtain ⟨σ3,H3,I3,n3⟩:=q3;obtain ⟨m',hm,w3⟩:=hN σ3 H3 n3;exact ⟨m',hm,σ3,H3,I3,w3⟩
  | cont =>
   obtain ⟨σ3,H3,I3,n3⟩:=q3;obtain ⟨m',hm,w3⟩:=hN σ3 H3 n3;exact ⟨m',hm,σ3,H3,I3,w3⟩
  | brk=>exact q3
  | ret v=>exact q3
 | false =>
  rw [if_neg Bool.false_ne_true];exact wpAny_execs_nil ⟨σ1,H2,I2,q2⟩
end
structure It where
 go:Nat→Hp→Prop
 yld:Nat→Hp→V→Hp→Prop
 stop:Nat→Hp→Prop
noncomputable def w6 (X:Cx) (pins:List (Addr×Obj)) (H:Hp) (b:Addr):Prop:=
 H b=none∧b≠X.env.locals∧b ∉ X.fs∧(b∈X.ex∨X.s_0.heap.objs.size≤b)∧(∀x c,X.env.cells.lookup x=some c→c≠b)∧∀p∈X.pn++pins,p.1≠b
theorem Inv.Fq {X:Cx} {pins:List (Addr×Obj)} {σ:St} {H H':Hp} {s:Shared} {b:Addr} (I:Inv X pins σ H s) (hb:s.heap.objs.size≤b) (hn:H' b=none):w6 X pins H' b:=by
 refine ⟨hn,Nat.ne_of_gt (Nat.lt_of_lt_of_le I.lt hb),I.Lx hb,.inr (Nat.le_trans I.sz hb),fun x c e z=>?_,fun p hp z=>?_⟩
 ·obtain ⟨v,q⟩:=I.cell x c e
  exact absurd (Nat.lt_of_lt_of_le q.lt (by rw [z];exact hb)) (Nat.lt_irrefl _)
 ·exact absurd (Nat.lt_of_lt_of_le (Heap.lt_size (I.pin p hp).1) (by rw [z];exact hb)) (Nat.lt_irrefl _)
structure Turn (P:Program) (w:World) (K:PySem.W.Frag) (tg:Expr) (J:It) (fp:List Addr) (it:Addr) (tn:Nat→Heap→Prop):Prop where
 mem:it∈fp
 obj:∀i h,tn i h→∀b∈fp,∃o,h.get? b=some o∧∀v,o.data≠.cell v
 keep:∀i h h',tn i h→(∀b∈fp,∀o,h.get? b=some o→h'.get? b=some o)→tn i h'
 item:∀(X:Cx),X.prog=P→X.w=w→X.K=K→X.calm=true→∀(i:Nat) (pins:List (Addr×Obj)) (s:Shared) (σ:St) (H:Hp) (E:Value→Shared→Prop),Inv X pins σ H s→(∀b∈fp,w6 X pins H b)→tn i s.heap→J.go i H→
  wpAny (model P w) X.A (pyNext (.ref it)) (fun r s1=>∃u,r=some u∧
   wpAny (model P w) X.A (letOwnedTupleGo tg (.ref it) u) (fun _ s2=>∃x H',Inv X pins σ H' s2∧RelV x u∧J.yld i H x H'∧tn (i+1) s2.heap∧∀b∈fp,H' b=none) E s1) E s
 done:∀(X:Cx),X.prog=P→X.w=w→X.K=K→X.calm=true→∀(i:Nat) (pins:List (Addr×Obj)) (s:Shared) (σ:St) (H:Hp) (E:Value→Shared→Prop),Inv X pins σ H s→(∀b∈fp,w6 X pins H b)→tn i s.heap→J.stop i H→
  wpAny (model P w) X.A (pyNext (.ref it)) (fun r s1=>r=none∧Inv X pins σ H s1) E s
 self:∀(A:Around) (i:Nat) (s:Shared) (Q:Value→Shared→Prop) (E:Value→Shared→Prop),tn i s.heap→Q (.ref it) s→wpAny (model P w) A (pyIter (.ref it)) Q E s
noncomputable abbrev TI:=St→Hp→(It→Hp→Prop)→Prop
noncomputable def PIE (X:Cx) (pins:List (Addr×Obj)) (σ:St) (tg:Expr) (R:It→Hp→Prop) (itv:Value) (s2:Shared):Prop:=
 ∃(it:Addr) (fp:List Addr) (tn:Nat→Heap→Prop) (J:It) (H':Hp),itv = .ref it∧Inv X pins σ H' s2∧Turn X.prog X.w X.K tg J fp it tn∧tn 0 s2.heap∧(∀b∈fp,w6 X pins H' b)∧R J H'
noncomputable def PI (X:Cx) (tg iter:Expr) (wi:TI):Prop:=
 ∀(pins:List (Addr×Obj)) (s:Shared) (σ:St) (H:Hp) (R:It→Hp→Prop),Inv X pins σ H s→wi σ H R→
  wpAny (model X.prog X.w) X.A (eval iter X.env) (fun v s1=>wpAny (model X.prog X.w) X.A (pyIter v) (PIE X pins σ tg R) X.xe s1) X.xe s
theorem Cj {M : Model} {A : Around} {E : Value → Shared → Prop} {s : Shared} {tg : Expr} {it : Addr} {u : Value} {o : Obj} {n : String} {vs : Array Value} {Q : Unit → Shared → Prop} (ho : s.heap.get? it = some o) (hc : o.cls = .type n) (hd : o.data = .fields vs)
    (hn : ["enumerate", "zip", "dict_itemiterator", "dict_reverseitemiterator", "odict_iterator", "itertools.zip_longest", "itertools.pairwise"].contains n = false) (hQ : Q () s) : wpAny M A (letOwnedTupleGo tg (.ref it) u) Q E s := by
  unfold letOwnedTupleGo
  cases tg <;> first
    | exact wpAny_pure hQ
    | (cases u <;> first
        | exact wpAny_pure hQ
        | (refine wpAny_bind (wpAny_load ho ?_)
           rw [hc, hd]
           show wpAny M A (if (["enumerate", "zip", "dict_itemiterator", "dict_reverseitemiterator", "odict_iterator", "itertools.zip_longest", "itertools.pairwise"].contains n && vs[0]? == some (rawInt _)) = true then _ else _) Q E s
           rw [if_neg (by intro h; rw [hn, Bool.false_and] at h; cases h)]
           exact wpAny_pure hQ))
noncomputable def Itl (K:PySem.W.Frag) (a:Addr):It:=
 ⟨fun i H=>∃xs x,SqL K H a xs∧xs[i]? = some x,fun i H x H'=>H'=H∧∀xs,SqL K H a xs→xs[i]? = some x,fun i H=>∃xs,SqL K H a xs∧xs.length≤i⟩
noncomputable def Itt (K:PySem.W.Frag) (a:Addr):It:=
 ⟨fun i H=>∃xs x,SqT K H a xs∧xs[i]? = some x,fun i H x H'=>H'=H∧∀xs,SqT K H a xs→xs[i]? = some x,fun i H=>∃xs,SqT K H a xs∧xs.length≤i⟩
noncomputable def Itr (lo:Int) (n:Nat):It:=⟨fun i _=>i<n,fun i H x H'=>H'=H∧x = .int (lo+i),fun i _=>n≤i⟩
theorem CH {P:Program} {w:World} {K:PySem.W.Frag} {tg:Expr} (a it:Addr):Turn P w K tg (Itl K a) [it] it (fun i h=>h.IsListIter it a i) where
 mem:=by simp
 obj:=fun i h st b hb=>by
  have e:b=it:=by simpa using hb
  subst e;obtain ⟨o,e,c,d⟩:=st;exact ⟨o,e,fun v z=>by rw [d] at z;cases z⟩
 keep:=fun i h h' st k=>st.at fun o e=>k it (by simp) o e
 item:=by
  intro X hP hw hK hc i pins s σ H E I hf st hg;subst hP hw hK;obtain ⟨xs,x,hq,hx⟩:=hg;obtain ⟨its,rv,p,hz⟩:=I.list hq;obtain ⟨u,hu,ru⟩:=rv.get hx;obtain ⟨f0,f1,f2,f3,f4,f5⟩:=hf it (by simp);refine wpAny_pyNext_list_item st p.isList (x:=u) (by simpa using hu) fun h' st' sb=>?_;have I1:Inv X pins σ H { s with heap:=h' }:=I.turned (t':=s.toks) (fun b o hb e=>(sb.2 b hb).trans e) f0 f1 f3 f4 f5;obtain ⟨o,e,c,d⟩:=id st';exact ⟨u,rfl,Cj (s:={ s with heap:=h' }) e c d (by decide) ⟨x,H,I1,ru,⟨rfl,fun ys hy=>by rw [I.Ff hy hq];exact hx⟩,st',fun b hb=>(hf b hb).1⟩⟩
 done:=by
  intro X hP hw hK hc i pins s σ H E I hf st hg;subst hP hw hK;obtain ⟨xs,hq,hx⟩:=hg;obtain ⟨its,rv,p,hz⟩:=I.list hq;obtain ⟨f0,f1,f2,f3,f4,f5⟩:=hf it (by simp);have hl:=rv.length;exact wpAny_pyNext_list_end (I.ok.hd hc) st p.isList (by simp;omega) fun h' eb=>⟨rfl,I.turned (t':=s.toks) (fun b o hb e=>eb b o hb e) f0 f1 f3 f4 f5⟩
 self:=fun _ _ _ _ _ st h=>wpAny_pyIter_listiter st h
theorem AJ {P:Program} {w:World} {K:PySem.W.Frag} {tg:Expr} (a it:Addr):Turn P w K tg (Itt K a) [it] it (fun i h=>h.IsTupleIter it a i) where
 mem:=by simp
 obj:=fun i h st b hb=>by
  have e:b=it:=by simpa using hb
  subst e;obtain ⟨o,e,c,d⟩:=st;exact ⟨o,e,fun v z=>by rw [d] at z;cases z⟩
 keep:=fun i h h' st k=>st.at fun o e=>k it (by simp) o e
 item:=by
  intro X hP hw hK hc i pins s σ H E I hf st hg;subst hP hw hK;obtain ⟨xs,x,hq,hx⟩:=hg;obtain ⟨its,rv,p,hz⟩:=I.tuple hq;obtain ⟨u,hu,ru⟩:=rv.get hx;obtain ⟨f0,f1,f2,f3,f4,f5⟩:=hf it (by simp);refine wpAny_pyNext_tuple_item st (show s.heap.IsTuple a its.toArray from p) (x:=u) (by simpa using hu) fun h' st' sb=>?_;have I1:Inv X pins σ H { s with heap:=h' }:=I.turned (t':=s.toks) (fun b o hb e=>(sb.2 b hb).trans e) f0 f1 f3 f4 f5;obtain ⟨o,e,c,d⟩:=id st';exact ⟨u,rfl,Cj (s:={ s with heap:=h' }) e c d (by decide) ⟨x,H,I1,ru,⟨rfl,fun ys hy=>by rw [I.CI hy hq];exact hx⟩,st',fun b hb=>(hf b hb).1⟩⟩
 done:=by
  intro X hP hw hK hc i pins s σ H E I hf st hg;subst hP hw hK;obtain ⟨xs,hq,hx⟩:=hg;obtain ⟨its,rv,p,hz⟩:=I.tuple hq;obtain ⟨f0,f1,f2,f3,f4,f5⟩:=hf it (by simp);have hl:=rv.length;exact wpAny_pyNext_tuple_end (I.ok.hd hc) st (show s.heap.IsTuple a its.toArray from p) (by simp;omega) fun h' eb=>⟨rfl,I.turned (t':=s.toks) (fun b o hb e=>eb b o hb e) f0 f1 f3 f4 f5⟩
 self:=fun _ _ _ _ _ st h=>wpAny_pyIter_tupleiter st h
theorem AK {P:Program} {w:World} {K:PySem.W.Frag} {tg:Expr} (it:Addr) (lo:Int) (n:Nat):Turn P w K tg (Itr lo n) [it] it (fun i h=>IsRangeIter h it (lo+(i:Nat)*1) ((n:Int) - (i:Nat)) 1) where
 mem:=by simp
 obj:=fun i h st b hb=>by
  have e:b=it:=by simpa using hb
  subst e;exact ⟨_,st,fun v z=>by
   have z':Data.fields _=Data.cell v:=z
   cases z'⟩
 keep:=fun i h h' st k=>k it (by simp) _ st
 item:=by
  intro X hP hw hK hc i pins s σ H E I hf st hg;subst hP hw hK;obtain ⟨f0,f1,f2,f3,f4,f5⟩:=hf it (by simp);have W:=Walks.range (prog:=X.prog) (w:=X.w) (I.ok.hd hc) it lo 1 n;refine W.item i s _ _ hg st fun v h' tk hv st' kk=>?_;obtain ⟨t,rfl⟩:=hv;have I1:Inv X pins σ H { s with heap:=h',toks:=tk }:=I.turned (fun b o hb e=>kk b o (by simpa using hb) e) f0 f1 f3 f4 f5;refine ⟨_,rfl,Cj (s:={ s with heap:=h',toks:=tk }) (n := "range_iterator") st' rfl rfl (by decide) ⟨.int (lo+i),H,I1,⟨t,?_⟩,⟨rfl,rfl⟩,st',fun b hb=>(hf b hb).1⟩⟩;rw [Int.mul_one]
 done:=by
  intro X hP hw hK hc i pins s σ H E I hf st hg;subst hP hw hK;obtain ⟨f0,f1,f2,f3,f4,f5⟩:=hf it (by simp);exact wpAny_pyNext_range_end (I.ok.hd hc) st (by have:n≤i:=hg;omega) fun h' eb=>⟨rfl,I.turned (t':=s.toks) (fun b o hb e=>eb b o hb e) f0 f1 f3 f4 f5⟩
 self:=fun _ _ _ _ _ st h=>wpAny_pyIter_rangeiter st h
end L2
namespace L2
open PySem PySem.Spec PyProof.Rows
section
variable {X:Cx} {tg:Expr}
noncomputable def Ac (K:PySem.W.Frag) (tl:TE):TI:=fun σ H R=>tl σ H fun x H1=>∃a,x = .ref a∧(∃xs,SqL K H1 a xs)∧R (Itl K a) H1
noncomputable def JL (K:PySem.W.Frag) (tl:TE):TI:=fun σ H R=>tl σ H fun x H1=>∃a,x = .ref a∧(∃xs,SqT K H1 a xs)∧R (Itt K a) H1
theorem gM {l:Expr} {tl:TE} (hl:PE X l tl):PI X tg l (Ac X.K tl):=by
 intro pins s σ H R I h;refine thn (hl pins s σ H _ I h) fun v s1 ⟨x,H1,I1,r1,q1⟩=>?_;obtain ⟨a,e,⟨xs,hq⟩,q⟩:=q1;subst e
 cases r1
 obtain ⟨its,rv,p,hz⟩:=I1.list hq;refine wpAny_pyIter_list p.isList ?_;refine ⟨s1.heap.objs.size,[s1.heap.objs.size],_,_,H1,rfl,I1.kept (t':=s1.toks) fun b o e=>Heap.get?_push_of_some _ e,CH a _,⟨_,Heap.get?_push_size _ rfl,rfl,rfl⟩,fun b hb=>?_,q⟩;have e:b=s1.heap.objs.size:=by simpa using hb
 subst e;exact I1.Fq (Nat.le_refl _) (I1.hok.fresh (Nat.le_refl _))
theorem EF {l:Expr} {tl:TE} (hl:PE X l tl):PI X tg l (JL X.K tl):=by
 intro pins s σ H R I h;refine thn (hl pins s σ H _ I h) fun v s1 ⟨x,H1,I1,r1,q1⟩=>?_;obtain ⟨a,e,⟨xs,hq⟩,q⟩:=q1;subst e
 cases r1
 obtain ⟨its,rv,p,hz⟩:=I1.tuple hq;refine wpAny_pyIter_tuple (show s1.heap.IsTuple a its.toArray from p) ?_;refine ⟨s1.heap.objs.size,[s1.heap.objs.size],_,_,H1,rfl,I1.kept (t':=s1.toks) fun b o e=>Heap.get?_push_of_some _ e,AJ a _,⟨_,Heap.get?_push_size _ rfl,rfl,rfl⟩,fun b hb=>?_,q⟩;have e:b=s1.heap.objs.size:=by simpa using hb
 subst e;exact I1.Fq (Nat.le_refl _) (I1.hok.fresh (Nat.le_refl _))
theorem EC {pins:List (Addr×Obj)} {σ:St} {H:Hp} {s:Shared} {R:It→Hp→Prop} {E:Value→Shared→Prop} {lo hi:Int} {t u v:Tok} {tk:Nat} (I:Inv X pins σ H s) (h1:-(2 ^ 62)≤lo) (h2:lo<2 ^ 62) (h3:-(2 ^ 62)≤hi) (h4:hi<2 ^ 62)
  (q:R (Itr lo (hi - lo).toNat) H):wpAny (model X.prog X.w) X.A (pyIter (.ref s.heap.objs.size)) (PIE X pins σ tg R) E { s with heap:=s.heap.push { cls:=.type "range",data:=.fields #[.int lo t,.int hi u,.int 1 v] },toks:=tk }:=by
 refine wpAny_pyIter_range (IsRange.new ..) (small_one h1 h2 h3 h4) ?_;have I1:Inv X pins σ H { s with heap:=s.heap.push { cls:=.type "range",data:=.fields #[.int lo t,.int hi u,.int 1 v] },toks:=tk }:=I.kept fun b o e=>Heap.get?_push_of_some _ e;refine ⟨(s.heap.push { cls:=.type "range",data:=.fields #[.int lo t,.int hi u,.int 1 v] }).objs.size,[(s.heap.push { cls:=.type "range",data:=.fields #[.int lo t,.int hi u,.int 1 v] }).objs.size],_,_,H,rfl,
  I1.kept (t':=tk) fun b o e=>Heap.get?_push_of_some _ e,AK _ lo (hi - lo).toNat,?_,fun b hb=>?_,q⟩
 ·have e1:lo+((0:Nat):Int)*1=lo:=by simp
  have e2:(((hi - lo).toNat:Nat):Int) - ((0:Nat):Int)=Builtin.Range.rangeSize lo hi 1:=by rw [rangeSize_one];split <;> omega
  show IsRangeIter _ _ (lo+((0:Nat):Int)*1) ((((hi - lo).toNat:Nat):Int) - ((0:Nat):Int)) 1;rw [e1,e2];exact Heap.get?_push_size _ rfl
 ·have e:b=(s.heap.push { cls:=.type "range",data:=.fields #[.int lo t,.int hi u,.int 1 v] }).objs.size:=by simpa using hb
  subst e;exact I1.Fq (Nat.le_refl _) (I1.hok.fresh (Nat.le_refl _))
noncomputable def KR (ta:TA):TI:=fun σ H R=>ta σ H fun vs H1=>∃j:Int,vs=[.int j]∧-(2 ^ 62)≤j∧j<2 ^ 62∧R (Itr 0 j.toNat) H1
theorem Dg {a:Expr} {ta:TA} {p pos:Pos} (hg:Gl X "range") (hm:X.mg "range" = none) (ha:PA X [a] ta) (hs:starEach [a] X.env=[(false,eval a X.env)]:=by rfl):PI X tg (.Call (.Name "range" p) [a] [] pos) (KR ta):=by
 intro pins s σ H R I h;refine Call_ (Bg I hg hm boot_range (PyProof.Rows.callWith_type1 (thn (ha pos pins s σ H _ I h) fun us s1 ⟨vs,H1,I1,r1,q1⟩=>?_) hs rfl));obtain ⟨j,e,q1,q2,q⟩:=q1;subst e
 cases r1 with
 | cons r rr =>
  cases rr
  obtain ⟨t,rfl⟩:=r;exact call_range_1 (EC I1 (by omega) (by omega) q1 q2 (by simpa using q))
noncomputable def zc (wi:TI) (g:TG) (tb:TS):TS:=fun D σ H=>wi σ H fun J H1=>∃W:Nat→Nat→St→Hp→Prop,(∃m,W 0 m σ H1)∧∀i m σ H,W i m σ H→
 (J.stop i H∧D.nx σ H)∨(J.go i H∧∃N:St→Hp→Prop,(∀σ' H',N σ' H'→∃m',m'<m∧W (i+1) m' σ' H')∧∀x H',J.yld i H x H'→g x σ H' fun σ2 H2=>tb { D with nx:=N,ct:=N,bk:=D.nx } σ2 H2)
noncomputable def vc (fp:List Addr) (h:Heap):List (Addr×Obj):=fp.filterMap fun b=>(h.get? b).map fun o=>(b,o)
theorem qf {fp:List Addr} {h:Heap} {b:Addr} {o:Obj} (hb:b∈fp) (e:h.get? b=some o):(b,o)∈vc fp h:=List.mem_filterMap.mpr ⟨b,hb,by rw [e];rfl⟩
theorem Dr {fp:List Addr} {h:Heap} {p:Addr×Obj} (hp:p∈vc fp h):p.1∈fp∧h.get? p.1=some p.2:=by
 obtain ⟨b,hb,e⟩:=List.mem_filterMap.mp hp
 cases q:h.get? b with
 | none=>rw [q] at e;cases e
 | some o =>
  rw [q] at e;have e':(b,o)=p:=Option.some.inj e;subst e';exact ⟨hb,q⟩
theorem Inv.pinned {pins:List (Addr×Obj)} {σ:St} {H:Hp} {s:Shared} {fp:List Addr} (I:Inv X pins σ H s) (hf:∀b∈fp,w6 X pins H b) (ho:∀b∈fp,∃o,s.heap.get? b=some o∧∀v,o.data≠.cell v):Inv X (pins++vc fp s.heap) σ H s:=
 I.B7 fun p hp=>(List.mem_append.mp hp).elim (fun z=>I.pin p (List.mem_append_right _ z)) fun z=>by
  obtain ⟨hb,e⟩:=Dr z;obtain ⟨f0,f1,f2,_⟩:=hf p.1 hb;obtain ⟨o,e',d⟩:=ho p.1 hb;rw [e] at e';cases e';exact ⟨e,f0,f1,f2,d⟩
theorem Inv.qC {pins pl:List (Addr×Obj)} {σ:St} {H:Hp} {s:Shared} (I:Inv X (pins++pl) σ H s):Inv X pins σ H s:=I.B7 fun p hp=>I.pin p (List.mem_append_right _ (List.mem_append_left _ hp))
theorem jY {iter:Expr} {body:List Stmt} {wi:TI} {g:TG} {tb:TS} {pos:Pos} (hp:PassesOwn (model X.prog X.w) X.A X.env X.xe) (hc:X.calm=true) (hi:PI X tg iter wi) (hg:PG X tg g) (hb:PSs X body tb)
  (hs:∀x,foldedSetIterable iter X.env x=pure x:=by intro _;rfl):PS X (.For tg iter body [] pos) (zc wi g tb):=by
 intro pins s σ H D I h;refine wpAny_For (thn (hi pins s σ H _ I h) fun v s1 h1=>thn h1 fun itv s2 h2=>?_) hs;obtain ⟨it,fp,tn,J,H2,e,I2,T,st2,f2,W,⟨m0,w0⟩,turn⟩:=h2;subst e
 -- what stays true of the iterator's objects through the loop
 have stat:∀{H':Hp},(∀b∈fp,H' b=none)→∀b∈fp,w6 X pins H' b:=fun hn b hb=>⟨hn b hb,(f2 b hb).2⟩;refine codeAny_forLoop_any (fun n s'=>∃i σ' H',Inv X pins σ' H' s'∧tn i s'.heap∧(∀b∈fp,H' b=none)∧W i n σ' H') ?_ m0 ⟨0,σ,H2,I2,st2,fun b hb=>(f2 b hb).1,w0⟩;rintro n s3 ⟨i,σ3,H3,I3,st3,fr3,w3⟩;rcases turn i n σ3 H3 w3 with ⟨stop,qn⟩ | ⟨go,N,hN,step⟩
 ·refine wpAny_passesOwn hp (thn (T.done X rfl rfl rfl hc i pins s3 σ3 H3 X.xe I3 (stat fr3) st3 stop) fun r s4 ⟨hr,I4⟩=>?_)
  subst hr;exact wpAny_execs_nil ⟨σ3,H3,I4,qn⟩
 ·refine wpAny_passesOwn hp (thn (T.item X rfl rfl rfl hc i pins s3 σ3 H3 X.xe I3 (stat fr3) st3 go) fun r s4 ⟨u,hr,h4⟩=>?_)
  subst hr;refine wpAny_passesOwn hp (thn h4 fun _ s5 ⟨x,H5,I5,r5,y5,st5,fr5⟩=>?_);have I5':=I5.pinned (stat fr5) (T.obj _ _ st5);refine wpAny_passesOwn hp (thn (hg _ s5 σ3 H5 x u _ I5' r5 (step x H5 y5)) fun _ s6 ⟨σ6,H6,I6,q6⟩=>?_);refine wpAny_passesOwn hp (thn (hb _ s6 σ6 H6 _ I6 q6) fun f s7 q7=>?_);have again:∀{σ7:St} {H7:Hp},Inv X (pins++vc fp s5.heap) σ7 H7 s7→N σ7 H7→∃m,m<n∧∃i σ' H',Inv X pins σ' H' s7∧tn i s7.heap∧(∀b∈fp,H' b=none)∧W i m σ' H':=fun {σ7 H7} I7 n7=>by
   obtain ⟨m',hm,w7⟩:=hN σ7 H7 n7;refine ⟨m',hm,i+1,σ7,H7,I7.qC,T.keep _ _ _ st5 fun b hb o e=>(I7.pin (b,o) (List.mem_append_right _ (List.mem_append_right _ (qf hb e)))).1,fun b hb=>?_,w7⟩;obtain ⟨o,e,d⟩:=T.obj _ _ st5 b hb;exact (I7.pin (b,o) (List.mem_append_right _ (List.mem_append_right _ (qf hb e)))).2.1
  cases f with
  | next=>obtain ⟨σ7,H7,I7,n7⟩:=q7;exact again I7 n7
  | cont=>obtain ⟨σ7,H7,I7,n7⟩:=q7;exact again I7 n7
  | brk=>obtain ⟨σ7,H7,I7,q7⟩:=q7;exact ⟨σ7,H7,I7.qC,q7⟩
  | ret v=>obtain ⟨x7,σ7,H7,I7,r7,q7⟩:=q7;exact ⟨x7,σ7,H7,I7.qC,r7,q7⟩
end
theorem Fs {K:PySem.W.Frag} {a:Addr} {xs:List V} {g:TG} {tb:TS} {D:Ends} {σ:St} {H:Hp} (Pv:Nat→St→Hp→Prop) (h0:Pv 0 σ H) (hl:∀i σ H,i≤xs.length→Pv i σ H→SqL K H a xs)
  (hs:∀i x σ H,xs[i]? = some x→Pv i σ H→g x σ H fun σ2 H2=>tb { D with nx:=Pv (i+1),ct:=Pv (i+1),bk:=D.nx } σ2 H2) (hd:∀σ H,Pv xs.length σ H→D.nx σ H) :
  ∃W:Nat→Nat→St→Hp→Prop,(∃m,W 0 m σ H)∧∀i m σ H,W i m σ H→
   ((Itl K a).stop i H∧D.nx σ H)∨((Itl K a).go i H∧∃N:St→Hp→Prop,(∀σ' H',N σ' H'→∃m',m'<m∧W (i+1) m' σ' H')∧∀x H',(Itl K a).yld i H x H'→g x σ H' fun σ2 H2=>tb { D with nx:=N,ct:=N,bk:=D.nx } σ2 H2):=by
 refine ⟨fun i m σ H=>m=xs.length - i∧i≤xs.length∧Pv i σ H,⟨xs.length,by simp,Nat.zero_le _,h0⟩,?_⟩;rintro i m σ H ⟨rfl,hi,p⟩;have q:=hl i σ H hi p;by_cases hlt:i<xs.length
 ·refine .inr ⟨⟨xs,xs[i],q,by simp [hlt]⟩,Pv (i+1),fun σ' H' p'=>⟨xs.length - (i+1),by omega,rfl,hlt,p'⟩,fun x H' y=>?_⟩
  obtain ⟨e,y⟩:=y;subst e;exact hs i x σ _ (y xs q) p
 ·have e:i=xs.length:=by omega
  subst e;exact .inl ⟨⟨xs,q,Nat.le_refl _⟩,hd σ H p⟩
theorem HV {K:PySem.W.Frag} {a:Addr} {xs:List V} {g:TG} {tb:TS} {D:Ends} {σ:St} {H:Hp} (Pv:Nat→St→Hp→Prop) (h0:Pv 0 σ H) (hl:∀i σ H,i≤xs.length→Pv i σ H→SqT K H a xs)
  (hs:∀i x σ H,xs[i]? = some x→Pv i σ H→g x σ H fun σ2 H2=>tb { D with nx:=Pv (i+1),ct:=Pv (i+1),bk:=D.nx } σ2 H2) (hd:∀σ H,Pv xs.length σ H→D.nx σ H) :
  ∃W:Nat→Nat→St→Hp→Prop,(∃m,W 0 m σ H)∧∀i m σ H,W i m σ H→
   ((Itt K a).stop i H∧D.nx σ H)∨((Itt K a).go i H∧∃N:St→Hp→Prop,(∀σ' H',N σ' H'→∃m',m'<m∧W (i+1) m' σ' H')∧∀x H',(Itt K a).yld i H x H'→g x σ H' fun σ2 H2=>tb { D with nx:=N,ct:=N,bk:=D.nx } σ2 H2):=by
 refine ⟨fun i m σ H=>m=xs.length - i∧i≤xs.length∧Pv i σ H,⟨xs.length,by simp,Nat.zero_le _,h0⟩,?_⟩;rintro i m σ H ⟨rfl,hi,p⟩;have q:=hl i σ H hi p;by_cases hlt:i<xs.length
 ·refine .inr ⟨⟨xs,xs[i],q,by simp [hlt]⟩,Pv (i+1),fun σ' H' p'=>⟨xs.length - (i+1),by omega,rfl,hlt,p'⟩,fun x H' y=>?_⟩
  obtain ⟨e,y⟩:=y;subst e;exact hs i x σ _ (y xs q) p
 ·have e:i=xs.length:=by omega
  subst e;exact .inl ⟨⟨xs,q,Nat.le_refl _⟩,hd σ H p⟩
theorem Kq {lo:Int} {n:Nat} {g:TG} {tb:TS} {D:Ends} {σ:St} {H:Hp} (Pv:Nat→St→Hp→Prop) (h0:Pv 0 σ H)
  (hs:∀i σ H,i<n→Pv i σ H→g (.int (lo+i)) σ H fun σ2 H2=>tb { D with nx:=Pv (i+1),ct:=Pv (i+1),bk:=D.nx } σ2 H2) (hd:∀σ H,Pv n σ H→D.nx σ H) :
  ∃W:Nat→Nat→St→Hp→Prop,(∃m,W 0 m σ H)∧∀i m σ H,W i m σ H→
   ((Itr lo n).stop i H∧D.nx σ H)∨((Itr lo n).go i H∧∃N:St→Hp→Prop,(∀σ' H',N σ' H'→∃m',m'<m∧W (i+1) m' σ' H')∧∀x H',(Itr lo n).yld i H x H'→g x σ H' fun σ2 H2=>tb { D with nx:=N,ct:=N,bk:=D.nx } σ2 H2):=by
 refine ⟨fun i m σ H=>m=n - i∧i≤n∧Pv i σ H,⟨n,by simp,Nat.zero_le _,h0⟩,?_⟩;rintro i m σ H ⟨rfl,hi,p⟩;by_cases hlt:i<n
 ·refine .inr ⟨hlt,Pv (i+1),fun σ' H' p'=>⟨n - (i+1),by omega,rfl,hlt,p'⟩,fun x H' y=>?_⟩
  obtain ⟨e,y⟩:=y;subst e y;exact hs i σ _ hlt p
 ·have e:i=n:=by omega
  subst e;exact .inl ⟨Nat.le_refl _,hd σ H p⟩
end L2
namespace L2
open PySem PySem.Spec PyProof.Rows
noncomputable abbrev R2:=V→V→Hp→VK→Prop
noncomputable def OpR (X:Cx) (f:Value→Value→Sem Value) (r:R2):Prop:=
 ∀(pins:List (Addr×Obj)) (s:Shared) (σ:St) (H:Hp) (x y:V) (v u:Value) (Q:VK),Inv X pins σ H s→RelV x v→RelV y u→r x y H Q→
  wpAny (model X.prog X.w) X.A (f v u) (EP X pins σ Q) X.xe s
noncomputable def UnR (X:Cx) (f:Value→Sem Value) (r:V→Hp→VK→Prop):Prop:=
 ∀(pins:List (Addr×Obj)) (s:Shared) (σ:St) (H:Hp) (x:V) (v:Value) (Q:VK),Inv X pins σ H s→RelV x v→r x H Q→
  wpAny (model X.prog X.w) X.A (f v) (EP X pins σ Q) X.xe s
noncomputable def kJ (X:Cx) (f:Value) (r:List V→Hp→VK→Prop):Prop:=
 ∀(pins:List (Addr×Obj)) (s:Shared) (σ:St) (H:Hp) (xs:List V) (us:List Value) (Q:VK),Inv X pins σ H s→bK xs us→r xs H Q→
  wpAny (model X.prog X.w) X.A (call f us) (EP X pins σ Q) X.xe s
noncomputable def LQ (X:Cx) (r:V→Hp→(Bool→Hp→Prop)→Prop):Prop:=
 ∀(pins:List (Addr×Obj)) (s:Shared) (σ:St) (H:Hp) (x:V) (v:Value) (Q:Bool→Hp→Prop),Inv X pins σ H s→RelV x v→r x H Q→
  wpAny (model X.prog X.w) X.A (truthy v) (TP X pins σ Q) X.xe s
noncomputable def tOp (r:R2) (ta tb:TE):TE:=fun σ H Q=>ta σ H fun x H1=>tb σ H1 fun y H2=>r x y H2 Q
noncomputable def tUn (r:V→Hp→VK→Prop) (ta:TE):TE:=fun σ H Q=>ta σ H fun x H1=>r x H1 Q
noncomputable def rI (C:Int→Int→Prop) (g:Int→Int→V):R2:=fun x y H Q=>∃i j,x = .int i∧y = .int j∧C i j∧Q (g i j) H
noncomputable def rI0 (g:Int→Int→V):R2:=fun x y H Q=>∃i j,x = .int i∧y = .int j∧Q (g i j) H
noncomputable def rU (g:Int→V):V→Hp→VK→Prop:=fun x H Q=>∃i,x = .int i∧Q (g i) H
section
variable {X:Cx} {a b c:Expr} {ta tb tc:TE} {pos:Pos}
theorem JV (ha:PE X a ta) (hb:PE X b tb) {pins:List (Addr×Obj)} {s:Shared} {σ:St} {H:Hp} {R:V→V→Hp→Prop} (I:Inv X pins σ H s)
  (h:ta σ H fun x H1=>tb σ H1 fun y H2=>R x y H2) {Q:Value→Shared→Prop} {f:Value→Value→Sem Value}
  (hf:∀v u s2 x y H2,Inv X pins σ H2 s2→RelV x v→RelV y u→R x y H2→wpAny (model X.prog X.w) X.A (f v u) Q X.xe s2) :
  wpAny (model X.prog X.w) X.A (eval a X.env) (fun v s₁=>wpAny (model X.prog X.w) X.A (eval b X.env) (fun u s₂=>wpAny (model X.prog X.w) X.A (f v u) Q X.xe s₂) X.xe s₁) X.xe s:=by
 refine thn (ha pins s σ H _ I h) fun v s1 ⟨x,H1,I1,r1,q1⟩=>?_;refine thn (hb pins s1 σ H1 _ I1 q1) fun u s2 ⟨y,H2,I2,r2,q2⟩=>?_;exact hf v u s2 x y H2 I2 r1 r2 q2
theorem ay {op:Operator} {r:R2} (ho:OpR X (binaryOp op) r) (ha:PE X a ta) (hb:PE X b tb):PE X (.BinOp a op b pos) (tOp r ta tb):=by
 intro pins s σ H Q I h;exact wpAny_BinOp (JV ha hb I h fun v u s2 x y H2 I2 rx ry q=>ho pins s2 σ H2 x y v u Q I2 rx ry q)
theorem IK {op:UnaryOp} {r:V→Hp→VK→Prop} (ho:UnR X (unaryOp op) r) (ha:PE X a ta):PE X (.UnaryOp op a pos) (tUn r ta):=by
 intro pins s σ H Q I h;exact UnaryOp_ (thn (ha pins s σ H _ I h) fun v s1 ⟨x,H1,I1,r1,q1⟩=>ho pins s1 σ H1 x v Q I1 r1 q1)
theorem opI {f:Value→Value→Sem Value} {C:Int→Int→Prop} {g:Int→Int→Int}
  (rule:∀(i j:Int) (t u:Tok) (s:Shared) (Q:Value→Shared→Prop) (E:Value→Shared→Prop),C i j→Q (.int (g i j) s.toks) { s with toks:=s.toks+1 }→wpAny (model X.prog X.w) X.A (f (.int i t) (.int j u)) Q E s) :
  OpR X f (rI C fun i j=>.int (g i j)):=by
 intro pins s σ H x y v u Q I rx ry h;obtain ⟨i,j,rfl,rfl,hc,q⟩:=h;obtain ⟨t,rfl⟩:=rx;obtain ⟨t',rfl⟩:=ry;exact rule i j t t' s _ _ hc ⟨.int (g i j),H,I.tok _,⟨_,rfl⟩,q⟩
theorem Hy {f:Value→Value→Sem Value} {g:Int→Int→Int}
  (rule:∀(i j:Int) (t u:Tok) (s:Shared) (Q:Value→Shared→Prop) (E:Value→Shared→Prop),Q (.int (g i j) s.toks) { s with toks:=s.toks+1 }→wpAny (model X.prog X.w) X.A (f (.int i t) (.int j u)) Q E s) :
  OpR X f (rI0 fun i j=>.int (g i j)):=by
 intro pins s σ H x y v u Q I rx ry h;obtain ⟨i,j,rfl,rfl,q⟩:=h;obtain ⟨t,rfl⟩:=rx;obtain ⟨t',rfl⟩:=ry;exact rule i j t t' s _ _ ⟨.int (g i j),H,I.tok _,⟨_,rfl⟩,q⟩
theorem Hz {f:Value→Value→Sem Value} {g:Int→Int→Bool}
  (rule:∀(i j:Int) (t u:Tok) (s:Shared) (Q:Value→Shared→Prop) (E:Value→Shared→Prop),Q (.bool (g i j)) s→wpAny (model X.prog X.w) X.A (f (.int i t) (.int j u)) Q E s) :
  OpR X f (rI0 fun i j=>.bl (g i j)):=by
 intro pins s σ H x y v u Q I rx ry h;obtain ⟨i,j,rfl,rfl,q⟩:=h;obtain ⟨t,rfl⟩:=rx;obtain ⟨t',rfl⟩:=ry;exact rule i j t t' s _ _ ⟨.bl (g i j),H,I,rfl,q⟩
noncomputable def Ls (i j:Int):Prop:=0<j∧j<1073741824
noncomputable def DY (i j:Int):Prop:=(-(2 ^ 64)<i∧i<2 ^ 64)∨(-(2 ^ 64)<j∧j<2 ^ 64)
theorem DY.ok {i j:Int} (h:DY i j):IntMulOk i j:=by
 rcases h with ⟨h1,h2⟩ | ⟨h1,h2⟩
 ·exact .of_left (intBits_le_64 h1 h2)
 ·exact .of_right (intBits_le_64 h1 h2)
theorem AI (k:Nat):(0:Int)≤2 ^ k:=by
 rw [two_pow_cast];exact Int.natCast_nonneg _
theorem bt:OpR X (binaryOp .Add) (rI0 fun i j=>.int (i+j)):=Hy fun _ _ _ _ _ _ _ q=>add_int q
theorem bC:OpR X (binaryOp .Sub) (rI0 fun i j=>.int (i - j)):=Hy fun _ _ _ _ _ _ _ q=>sub_int q
theorem gP:OpR X (binaryOp .Mult) (rI DY fun i j=>.int (i*j)):=opI fun _ _ _ _ _ _ _ hc q=>mul_int q hc.ok
theorem jG:OpR X (binaryOp .FloorDiv) (rI Ls fun i j=>.int (i / j)):=opI fun i j _ _ _ _ _ hc q=>by
 have h1:(0:Int)<j:=hc.1;have h2:j<1073741824:=hc.2;exact floordiv_int (by omega) (by rw [Int.fdiv_eq_ediv_of_nonneg i (by omega)];exact q) (.inl (PyProof.noPylong_small (by omega)))
theorem A4:OpR X (binaryOp .Mod) (rI (fun _ j=>0<j) fun i j=>.int (i % j)):=opI fun i j _ _ _ _ _ hc q=>by
 have h1:(0:Int)<j:=hc;exact mod_int' (by omega) (by rw [Int.fmod_eq_emod_of_nonneg i (by omega)];exact q)
theorem Jy:OpR X (binaryOp .RShift) (rI (fun _ j=>0≤j) fun i j=>.int (i / 2 ^ j.toNat)):=opI fun i j _ _ _ _ _ hc q =>
 rshift_int hc (by rw [Int.fdiv_eq_ediv_of_nonneg i (AI _)];exact q)
theorem EN:OpR X (binaryOp .BitAnd) (rI0 fun i j=>.int (Builtin.bitAnd i j)):=Hy fun _ _ _ _ _ _ _ q=>and_int q
theorem KC:OpR X (binaryOp .BitOr) (rI0 fun i j=>.int (Builtin.bitOr i j)):=Hy fun _ _ _ _ _ _ _ q=>or_int q
theorem unI {f:Value→Sem Value} {g:Int→Int}
  (rule:∀(i:Int) (t:Tok) (s:Shared) (Q:Value→Shared→Prop) (E:Value→Shared→Prop),Q (.int (g i) s.toks) { s with toks:=s.toks+1 }→wpAny (model X.prog X.w) X.A (f (.int i t)) Q E s) :
  UnR X f (rU fun i=>.int (g i)):=by
 intro pins s σ H x v Q I rx h;obtain ⟨i,rfl,q⟩:=h;obtain ⟨t,rfl⟩:=rx;exact rule i t s _ _ ⟨.int (g i),H,I.tok _,⟨_,rfl⟩,q⟩
theorem D7:UnR X (unaryOp .USub) (rU fun i=>.int (-i)):=unI fun _ _ _ _ _ q=>neg_int q
end
noncomputable def Et:V→V→Bool
 | .non,.non=>true | .non,.int _=>true | .int _,.non=>true | .non,.bl _=>true | .bl _,.non=>true | .non,.str _=>true | .str _,.non=>true
 | .int _,.int _=>true | .bl _,.bl _=>true | .str _,.str _=>true | .byt _,.byt _=>true
 | .int _,.str _=>true | .str _,.int _=>true | .bl _,.str _=>true | .str _,.bl _=>true
 | _,_=>false
noncomputable def rEq:R2:=fun x y H Q=>Et x y=true∧Q (.bl (decide (x=y))) H
noncomputable def rNe:R2:=fun x y H Q=>Et x y=true∧Q (.bl (!decide (x=y))) H
theorem Cn {i j:Int}:decide (V.int i=V.int j)=(i == j):=by
 rw [Bool.eq_iff_iff];simp
theorem FG {i j:Bool}:decide (V.bl i=V.bl j)=(i == j):=by
 rw [Bool.eq_iff_iff];simp
theorem Cm {i j:Str}:decide (V.str i=V.str j)=(i == j):=by
 rw [Bool.eq_iff_iff];simp
theorem Co {i j:Array UInt8}:decide (V.byt i=V.byt j)=(i.toList == j.toList):=by
 rw [Bool.eq_iff_iff]
 cases i
 cases j
 simp
section
variable {X:Cx} {a b c:Expr} {ta tb tc:TE} {pos:Pos}
theorem bV {pins:List (Addr×Obj)} {σ:St} {H:Hp} {s:Shared} {Q:VK} {k k':Bool} (I:Inv X pins σ H s) (q:Q (.bl k) H) (e:k=k'):EP X pins σ Q (.bool k') s:=by
 subst e;exact ⟨.bl k,H,I,rfl,q⟩
theorem bb:OpR X (compareOp .Eq) rEq:=by
 intro pins s σ H x y v u Q I rx ry h;obtain ⟨hs,q⟩:=h
 cases x with
 | non =>
  cases rx
  cases y with
  | non=>cases ry;exact PySem.EqNone.eq_none_none (bV I q (by simp))
  | bl j=>cases ry;exact PySem.EqNone.eq_none_bool (bV I q (by simp))
  | int j=>obtain ⟨t',rfl⟩:=ry;exact PySem.EqNone.eq_none_int (bV I q (by simp))
  | str j=>obtain ⟨t',rfl⟩:=ry;exact PySem.EqNone.eq_none_str (bV I q (by simp))
  | _=>exact absurd (show false=true from hs) Bool.false_ne_true
 | bl i =>
  cases rx
  cases y with
  | non=>cases ry;exact PySem.EqNone.eq_bool_none (bV I q (by simp))
  | bl j=>cases ry;exact eq_bool (bV I q FG)
  | str j=>obtain ⟨t',rfl⟩:=ry;exact PySem.EqMixed.eq_bool_str (bV I q (by simp))
  | _=>exact absurd (show false=true from hs) Bool.false_ne_true
 | int i =>
  obtain ⟨t,rfl⟩:=rx
  cases y with
  | non=>cases ry;exact PySem.EqNone.eq_int_none (bV I q (by simp))
  | int j=>obtain ⟨t',rfl⟩:=ry;exact eq_int (bV I q Cn)
  | str j=>obtain ⟨t',rfl⟩:=ry;exact PySem.EqMixed.eq_int_str (bV I q (by simp))
  | _=>exact absurd (show false=true from hs) Bool.false_ne_true
 | str i =>
  obtain ⟨t,rfl⟩:=rx
  cases y with
  | non=>cases ry;exact PySem.EqNone.eq_str_none (bV I q (by simp))
  | bl j=>cases ry;exact PySem.EqMixed.eq_str_bool (bV I q (by simp))
  | int j=>obtain ⟨t',rfl⟩:=ry;exact PySem.EqMixed.eq_str_int (bV I q (by simp))
  | str j=>obtain ⟨t',rfl⟩:=ry;exact eq_str (bV I q Cm)
  | _=>exact absurd (show false=true from hs) Bool.false_ne_true
 | byt i =>
  obtain ⟨t,rfl⟩:=rx
  cases y with
  | byt j=>obtain ⟨t',rfl⟩:=ry;exact PySem.W.eq_bytes (bV I q Co)
  | _=>exact absurd (show false=true from hs) Bool.false_ne_true
 | _=>cases y <;> exact absurd (show false=true from hs) Bool.false_ne_true
theorem vg:OpR X (compareOp .NotEq) rNe:=by
 intro pins s σ H x y v u Q I rx ry h;obtain ⟨hs,q⟩:=h
 cases x with
 | non =>
  cases rx
  cases y with
  | non=>cases ry;exact PySem.EqNone.ne_none_none (bV I q (by simp))
  | bl j=>cases ry;exact PySem.EqNone.ne_none_bool (bV I q (by simp))
  | int j=>obtain ⟨t',rfl⟩:=ry;exact PySem.EqNone.ne_none_int (bV I q (by simp))
  | str j=>obtain ⟨t',rfl⟩:=ry;exact PySem.EqNone.ne_none_str (bV I q (by simp))
  | _=>exact absurd (show false=true from hs) Bool.false_ne_true
 | bl i =>
  cases rx
  cases y with
  | non=>cases ry;exact PySem.EqNone.ne_bool_none (bV I q (by simp))
  | bl j=>cases ry;exact ne_bool (bV I q (congrArg not FG))
  | str j=>obtain ⟨t',rfl⟩:=ry;exact PySem.EqMixed.ne_bool_str (bV I q (by simp))
  | _=>exact absurd (show false=true from hs) Bool.false_ne_true
 | int i =>
  obtain ⟨t,rfl⟩:=rx
  cases y with
  | non=>cases ry;exact PySem.EqNone.ne_int_none (bV I q (by simp))
  | int j=>obtain ⟨t',rfl⟩:=ry;exact ne_int (bV I q (congrArg not Cn))
  | str j=>obtain ⟨t',rfl⟩:=ry;exact PySem.EqMixed.ne_int_str (bV I q (by simp))
  | _=>exact absurd (show false=true from hs) Bool.false_ne_true
 | str i =>
  obtain ⟨t,rfl⟩:=rx
  cases y with
  | non=>cases ry;exact PySem.EqNone.ne_str_none (bV I q (by simp))
  | bl j=>cases ry;exact PySem.EqMixed.ne_str_bool (bV I q (by simp))
  | int j=>obtain ⟨t',rfl⟩:=ry;exact PySem.EqMixed.ne_str_int (bV I q (by simp))
  | str j=>obtain ⟨t',rfl⟩:=ry;exact ne_str (bV I q (congrArg not Cm))
  | _=>exact absurd (show false=true from hs) Bool.false_ne_true
 | byt i =>
  obtain ⟨t,rfl⟩:=rx
  cases y with
  | byt j=>obtain ⟨t',rfl⟩:=ry;exact PySem.W.ne_bytes (bV I q (congrArg not Co))
  | _=>exact absurd (show false=true from hs) Bool.false_ne_true
 | _=>cases y <;> exact absurd (show false=true from hs) Bool.false_ne_true
theorem eV:OpR X (compareOp .Lt) (rI0 fun i j=>.bl (decide (i<j))):=Hz fun _ _ _ _ _ _ _ q=>lt_int q
theorem eW:OpR X (compareOp .LtE) (rI0 fun i j=>.bl (decide (i≤j))):=Hz fun _ _ _ _ _ _ _ q=>le_int q
theorem jB:OpR X (compareOp .Gt) (rI0 fun i j=>.bl (decide (j<i))):=Hz fun _ _ _ _ _ _ _ q=>gt_int q
theorem lI:OpR X (compareOp .GtE) (rI0 fun i j=>.bl (decide (j≤i))):=Hz fun _ _ _ _ _ _ _ q=>ge_int q
theorem E5 (b:Expr) {op:CmpOp} (h:op≠.In:=by decide) (h2:op≠.NotIn:=by decide):behindInMarks op b=false:=by
 have e1:(op == CmpOp.In)=false:=by cases op <;> first | rfl | exact absurd rfl h
 have e2:(op == CmpOp.NotIn)=false:=by cases op <;> first | rfl | exact absurd rfl h2
 cases b <;> simp [behindInMarks,e1,e2]
theorem Hu {op:CmpOp} {r:R2} (ho:OpR X (compareOp op) r) (ha:PE X a ta) (hb:PE X b tb) (hm:behindInMarks op b=false):PE X (.Compare a [op] [b] pos) (tOp r ta tb):=by
 intro pins s σ H Q I h;exact wpAny_Compare1 (JV ha hb I h fun v u s2 x y H2 I2 rx ry q=>ho pins s2 σ H2 x y v u Q I2 rx ry q) hm
noncomputable def ly (t:TE):TT:=fun σ H Q=>t σ H fun x H'=>∃k,x = .bl k∧Q k H'
theorem B6 {op:CmpOp} {r:R2} (ho:OpR X (compareOp op) r) (ha:PE X a ta) (hb:PE X b tb) (hm:behindInMarks op b=false):PT X (.Compare a [op] [b] pos) (ly (tOp r ta tb)):=by
 intro pins s σ H Q I h;refine wpAny_isTrue_Compare1 (thn (ha pins s σ H _ I h) fun v s1 ⟨x,H1,I1,r1,q1⟩=>thn (hb pins s1 σ H1 _ I1 q1) fun u s2 ⟨y,H2,I2,r2,q2⟩ =>
  thn (ho pins s2 σ H2 x y v u _ I2 r1 r2 q2) fun c s3 ⟨z,H3,I3,r3,k,e,q3⟩=>?_) hm
 subst e
 cases r3
 exact wpAny_truthy_bool ⟨H3,I3,q3⟩
noncomputable def xJ (r r':R2) (ta tb tc:TE):TE:=fun σ H Q=>ta σ H fun x H1=>tb σ H1 fun y H2=>r x y H2 fun z H3=>∃k,z = .bl k∧
 (if k=true then tc σ H3 fun w' H4=>r' y w' H4 Q else Q (.bl false) H3)
theorem j0 {op op':CmpOp} {r r':R2} (ho:OpR X (compareOp op) r) (ho':OpR X (compareOp op') r') (ha:PE X a ta) (hb:PE X b tb) (hc:PE X c tc)
  (hm:lastMarks [op,op'] [b,c]=false:=by with_unfolding_all rfl):PE X (.Compare a [op,op'] [b,c] pos) (xJ r r' ta tb tc):=by
 intro pins s σ H Q I h;refine Compare_chain (thn (ha pins s σ H _ I h) fun v s1 ⟨x,H1,I1,r1,q1⟩=>chain_link (thn (hb pins s1 σ H1 _ I1 q1) fun u s2 ⟨y,H2,I2,r2,q2⟩ =>
  thn (ho pins s2 σ H2 x y v u _ I2 r1 r2 q2) fun d s3 ⟨z,H3,I3,r3,k,e,q3⟩=>?_)) hm
 subst e
 cases r3
 refine wpAny_truthy_bool ?_
 cases k with
 | false=>exact ite_ff ⟨.bl false,H3,I3,rfl,q3⟩
 | true=>exact ite_tt (chain_last (thn (hc pins s3 σ H3 _ I3 q3) fun w' s4 ⟨z',H4,I4,r4,q4⟩=>ho' pins s4 σ H4 y z' u w' Q I4 r2 r4 q4))
theorem qT {op op':CmpOp} {r r':R2} (ho:OpR X (compareOp op) r) (ho':OpR X (compareOp op') r') (ha:PE X a ta) (hb:PE X b tb) (hc:PE X c tc)
  (hm:lastMarks [op,op'] [b,c]=false:=by with_unfolding_all rfl):PT X (.Compare a [op,op'] [b,c] pos) (ly (xJ r r' ta tb tc)):=by
 intro pins s σ H Q I h;refine isTrue_chain (thn (ha pins s σ H _ I h) fun v s1 ⟨x,H1,I1,r1,q1⟩=>test_link (thn (hb pins s1 σ H1 _ I1 q1) fun u s2 ⟨y,H2,I2,r2,q2⟩ =>
  thn (ho pins s2 σ H2 x y v u _ I2 r1 r2 q2) fun d s3 ⟨z,H3,I3,r3,k,e,q3⟩=>?_)) hm
 subst e
 cases r3
 refine wpAny_truthy_bool ?_
 cases k with
 | false =>
  obtain ⟨k',e',q'⟩:=q3
  cases e'
  exact ite_ff ⟨H3,I3,q'⟩
 | true =>
  refine ite_tt (test_last (thn (hc pins s3 σ H3 _ I3 q3) fun w' s4 ⟨z',H4,I4,r4,q4⟩=>thn (ho' pins s4 σ H4 y z' u w' _ I4 r2 r4 q4) fun d' s5 ⟨z2,H5,I5,r5,k2,e2,q5⟩=>?_));subst e2
  cases r5
  exact wpAny_truthy_bool ⟨H5,I5,q5⟩
noncomputable def Iy (K:PySem.W.Frag) (x:V) (H:Hp) (k:Bool):Prop:=
 match x with
 | .non=>k=false
 | .bl b=>k=b
 | .int i=>k=(i != 0)
 | .str y=>y.length≤sizeLine∧k=((y.length:Int) != 0)
 | .byt y=>y.size≤sizeLine∧k=((y.size:Int) != 0)
 | .ref p=>(∃xs,SqL K H p xs∧k = !xs.isEmpty)∨(∃xs,SqT K H p xs∧k = !xs.isEmpty)∨∃kvs,H p=some (.dK kvs)∧k = !kvs.isEmpty
 | _=>False
theorem Bi {κ:Type} {kvs:List (κ×V)} {vs:List (κ×Value)} (r:KV kvs vs):(!vs.isEmpty) = !kvs.isEmpty:=by
 cases r <;> rfl
theorem vB {xs:List V} {its:List Value} (r:bK xs its):(!its.toArray.isEmpty) = !xs.isEmpty:=by
 cases r <;> simp
theorem yp:(sizeLine:Nat)<2 ^ 63:=by rw [sizeLine_eq];decide
theorem D9:LQ X (fun x H Q=>∃k,Iy X.K x H k∧Q k H):=by
 intro pins s σ H x v Q I rx h;obtain ⟨k,e,q⟩:=h;have hl:=yp;have hs:sizeLine=16777216:=sizeLine_eq
 cases x with
 | non =>
  cases rx
  have e':k=false:=e;subst e';exact truthy_none ⟨H,I,q⟩
 | bl b =>
  cases rx
  have e':k=b:=e;subst e';exact wpAny_truthy_bool ⟨H,I,q⟩
 | int i =>
  obtain ⟨t,rfl⟩:=rx;have e':k=(i != 0):=e;subst e';exact PySem.P.truthy_int ⟨H,I,q⟩
 | str y =>
  obtain ⟨t,rfl⟩:=rx;obtain ⟨hy,e'⟩:y.length≤sizeLine∧k=((y.length:Int) != 0):=e;subst e';exact PySem.P.truthy_str (by omega) ⟨H,I.tok _,q⟩
 | byt y =>
  obtain ⟨t,rfl⟩:=rx;obtain ⟨hy,e'⟩:y.size≤sizeLine∧k=((y.size:Int) != 0):=e;subst e';exact PySem.W.truthy_bytes (by omega) ⟨H,I.tok _,q⟩
 | ref p =>
  cases rx
  have e':(∃xs,SqL X.K H p xs∧k = !xs.isEmpty)∨(∃xs,SqT X.K H p xs∧k = !xs.isEmpty)∨∃kvs,H p=some (.dK kvs)∧k = !kvs.isEmpty:=e;rcases e' with ⟨xs,hx,e'⟩ | ⟨xs,hx,e'⟩ | ⟨kvs,hx,e'⟩
  ·subst e'
   obtain ⟨its,r,pl,hz⟩:=I.list hx;have hlen:=r.length;exact wpAny_truthy_list pl.isList (by simp only [List.size_toArray];omega) ⟨H,I.tok _,by rw [vB r];exact q⟩
  ·subst e'
   obtain ⟨its,r,pl,hz⟩:=I.tuple hx;have hlen:=r.length;exact truthy_tuple pl (by simp only [List.size_toArray];omega) ⟨H,I.tok _,by rw [vB r];exact q⟩
  ·subst e'
   obtain ⟨hz,hS,vs,r,m⟩:kvs.length≤sizeLine∧(p == sysModules)=false∧∃vs,KV kvs vs∧s.heap.DictOf (kD X.prog X.w) p vs:=I.hok p _ hx;have hlen:kvs.length=vs.length:=Paired.length r;exact wpAny_truthy_dict hS m (by omega) ⟨H,I.tok _,by rw [Bi r];exact q⟩
 | _=>exact (show False from e).elim
theorem lH (ha:PE X a ta) (he:∀whole,isTrue a X.env whole=(do let v ←whole;standAt a.pos;holding [v] (truthy v))) :
  PT X a (fun σ H Q=>ta σ H fun x H'=>∃k,Iy X.K x H' k∧Q k H'):=by
 intro pins s σ H Q I h;exact isTrue_plain (thn (ha pins s σ H _ I h) fun v s1 ⟨x,H1,I1,r1,q1⟩=>D9 pins s1 σ H1 x v Q I1 r1 q1) (he _)
theorem vals1 {x:V} {us:List Value} (r:bK [x] us):∃u,us=[u]∧RelV x u:=by
 cases r with
 | cons r1 r2=>cases r2;exact ⟨_,rfl,r1⟩
theorem vals2 {x y:V} {us:List Value} (r:bK [x,y] us):∃u w',us=[u,w']∧RelV x u∧RelV y w':=by
 cases r with
 | cons r1 r2 =>
  cases r2 with
  | cons r3 r4=>cases r4;exact ⟨_,_,rfl,r1,r3⟩
theorem FT:kJ X (.builtin "abs") (fun xs H Q=>∃i,xs=[.int i]∧Q (.int (if i<0 then -i else i)) H):=by
 intro pins s σ H xs us Q I r h;obtain ⟨i,rfl,q⟩:=h;obtain ⟨u,rfl,t,rfl⟩:=vals1 r;exact call_abs_int fun u tk=>⟨.int (if i<0 then -i else i),H,I.tok _,⟨_,rfl⟩,q⟩
theorem DK (hc:X.calm=true):kJ X (.builtin "max") (fun xs H Q=>∃i j,xs=[.int i,.int j]∧Q (.int (if j > i then j else i)) H):=by
 intro pins s σ H xs us Q I r h;obtain ⟨i,j,rfl,q⟩:=h;obtain ⟨u,w',rfl,⟨t,rfl⟩,⟨t',rfl⟩⟩:=vals2 r;refine max_two_ints (I.ok.hd hc) fun h' tk k=>⟨_,H,I.kept k,?_,q⟩;by_cases hj:j > i
 ·rw [if_pos hj,if_pos hj];exact ⟨_,rfl⟩
 ·rw [if_neg hj,if_neg hj];exact ⟨_,rfl⟩
theorem DJ (hc:X.calm=true):kJ X (.builtin "min") (fun xs H Q=>∃i j,xs=[.int i,.int j]∧Q (.int (if j<i then j else i)) H):=by
 intro pins s σ H xs us Q I r h;obtain ⟨i,j,rfl,q⟩:=h;obtain ⟨u,w',rfl,⟨t,rfl⟩,⟨t',rfl⟩⟩:=vals2 r;refine min_two_ints (I.ok.hd hc) fun h' tk k=>⟨_,H,I.kept k,?_,q⟩;by_cases hj:j<i
 ·rw [if_pos hj,if_pos hj];exact ⟨_,rfl⟩
 ·rw [if_neg hj,if_neg hj];exact ⟨_,rfl⟩
end
end L2
namespace L2
open PySem PySem.Spec PyProof.Rows
structure BJ (h:Heap) (x dx C:Addr) (mA:Str→Option Value):Prop where
 obj:h.get? x=some (PySem.W.instObj C dx)
 ns:h.Ns1 dx mA
 ne:dx≠x
theorem Du {h:Heap} {dx:Addr} {mA:Str→Option Value} (n:h.Ns1 dx mA):∃od,h.get? dx=some od∧∀name,PySem.W.lookIn name od=some (mA name):=by
 obtain ⟨o,es,ep,ho,hd,hk,_,hm⟩:=n;refine ⟨o,ho,fun name=>?_⟩;have e:=hm name;unfold nsFind findBy at e;rw [←Array.find?_toList] at e;unfold PySem.W.lookIn;rw [hd];dsimp only;split
 ·rename_i y q
  rw [q] at e;exact congrArg some e
 ·rename_i q
  rw [q] at e;have a:es.toList.any (·.refKey)=false:=by
   rw [List.any_eq_false];intro y hy;obtain ⟨z,t,hkey⟩:=hk y (Array.mem_toList_iff.mp hy);simp [DictEntry.refKey,hkey]
  have a':¬es.toList.any (·.refKey)=true:=by rw [a];exact Bool.false_ne_true
  rw [if_neg a'];exact congrArg some e
theorem BJ.look {h:Heap} {x dx C:Addr} {mA:Str→Option Value} (I:BJ h x dx C mA):∃od,PySem.W.InstAt h x (PySem.W.instObj C dx) C (some od)∧∀name,PySem.W.lookIn name od=some (mA name):=
 let ⟨od,ho,hl⟩:=Du I.ns
 ⟨od,⟨I.obj,rfl,rfl,ho⟩,hl⟩
section
variable {prog:Program} {w:World} {A:Around} {E:Value→Shared→Prop} {s:Shared} {K:PySem.W.Frag} {x dx C f:Addr} {mA:Str→Option Value} {name:Str} {v:Value}
theorem get_map {expr:Bool} {Q:Value→Shared→Prop} (X:K.In s.heap) (I:BJ s.heap x dx C mA) (hg:PySem.W.plainGet K C name=true) (hh:PySem.W.hasDictIn K C=true)
  (ha:PySem.W.findIn K (.ref C) name=some none) (hv:mA name=some v) (hv':PySem.W.handedIn v=true) (h:Q v { s with toks:=s.toks+1 }) :
  wpAny (model prog w) A (getAttr (.ref x) name expr) Q E s:=by
 obtain ⟨od,J,hl⟩:=I.look;exact PySem.W.get_value X J (PySem.W.plainGet_of hg).1 (PySem.W.findObj_own hh ha rfl (by rw [hl,hv])) hv' h
theorem Fo {pl:Sem Bool} {Q:Value×List Value→Shared→Prop} (X:K.In s.heap) (I:BJ s.heap x dx C mA) (hg:PySem.W.plainGet K C name=true)
  (hf:PySem.W.findIn K (.ref C) name=some (some (.ref f))) (ht:PySem.W.isFn K (.ref f)=true) (hv:mA name=none) (h:Q (.ref f,[.ref x]) s) :
  wpAny (model prog w) A (getMethod (.ref x) name pl) Q E s:=by
 obtain ⟨od,J,hl⟩:=I.look;exact PySem.W.method_fn X J (PySem.W.plainGet_of hg).1 (PySem.W.plainGet_of hg).2 hf (beq_iff_eq.mp ht) (by show (PySem.W.lookIn name od).map (·.isSome)=some false;rw [hl,hv];rfl) h
theorem GQ {ns:List Str} {Q:Unit→Shared→Prop} (X:K.In s.heap) (I:BJ s.heap x dx C mA)
  (hs:PySem.W.findIn K (.ref C) "__setattr__" = some (some (.builtin "object.__setattr__"))) (hp:PySem.W.plainOver K C=true) (ht:PySem.W.takerIn K C name=some none) (hh:PySem.W.hasDictIn K C=true)
  (hw:PySem.Within mA ns) (hsz:ns.length≤sizeLine)
  (h:∀h',BJ h' x dx C (fun y=>if y=name then some v else mA y)→Heap.SameBut dx s.heap h'→Q () { s with heap:=h',toks:=s.toks+2 }) :
  wpAny (model prog w) A (setAttr (.ref x) name v) Q E s:=by
 obtain ⟨od,J,hl⟩:=I.look;refine PySem.W.set_plain X J hs (PySem.W.osa_open (s:={ s with toks:=s.toks+1 }) (r:=none) X J hp ht fun b=>?_);obtain ⟨cd,hc,hd'⟩:=PySem.W.any_some hh;have hx:s.heap.get? x=some ⟨.ref C,some dx,.plain,#[]⟩:=I.obj;refine wpAny_bind (wpAny_pure (wpAny_bind (wpAny_bind (wpAny_loadPart hx (wpAny_bind (PySem.W.Looks.here (s:={ s with toks:=s.toks+1 }) (PySem.W.looks_clsIn X hc) ?_))))));rw [hd'];refine wpAny_pure (a:=some dx) (wpAny_bind (wpAny_pure (wpAny_bind ?_)));refine wpAny_nsSet1 (s:={ s with toks:=s.toks+1 }) I.ns fun h' hn2 hs2=>?_;obtain ⟨oD,esD,epD,hoD,hdD,hcD⟩:=hn2.count (PySem.Within.cons name v hw);refine wpAny_bind (wpAny_lookBehind hoD (by rw [hdD];exact pastItsLine_dict (Nat.le_trans hcD (by rw [List.length_cons];omega))) ?_);exact wpAny_pure (h _ ⟨(hs2.2 _ (Ne.symm I.ne)).trans I.obj,hn2,I.ne⟩ hs2)
theorem Fd {R:Result→Shared→Prop} {vs:List Value} {kw:List (Str×Value)} (X:K.In s.heap) (hm:PySem.W.makesIn K C=true)
  (hi:PySem.W.findIn K (.ref C) "__init__" = some (some (.ref f))) (hf:PySem.W.typeIn K (.ref f)=some (.type "function"))
  (h:codeAny (model prog w) (A.under (.builtin "type.__call__" ⟨.ref C::vs,kw⟩)) (.call (.ref f) ⟨.ref (s.heap.objs.size+1)::vs,kw⟩) (PySem.W.InitBack (s.heap.objs.size+1) R)
   { s with heap:=(s.heap.push PySem.W.emptyDict).push (PySem.W.instObj C s.heap.objs.size) }) :
  codeAny (model prog w) A (.call (.ref C) ⟨vs,kw⟩) R s:=by
 obtain ⟨hh,g,d,t,os⟩:=s;exact PySem.W.make_core (PySem.W.makes_of X hm) (PySem.W.looks_findIn X hi) (fun self=>PySem.W.bind_fn X self hf) (.inl rfl) h
end
noncomputable def bU (f:Str) (v:V):List (Str×V)→List (Str×V)
 | []=>[(f,v)]
 | (g,x)::r=>if g=f then (g,v)::r else (g,x)::bU f v r
theorem og (f g:Str) (v:V):∀fs:List (Str×V),(bU f v fs).lookup g=if g=f then some v else fs.lookup g
 | []=>by
  show List.lookup g [(f,v)]=_;by_cases h:g=f
  ·have hb:(g == f)=true:=beq_iff_eq.mpr h
   simp only [List.lookup,hb,if_pos h]
  ·have hb:(g == f)=false:=beq_eq_false_iff_ne.mpr h
   simp only [List.lookup,hb,if_neg h]
 | (k,x)::r=>by
  have ih:=og f g v r;rw [show bU f v ((k,x)::r)=(if k=f then (k,v)::r else (k,x)::bU f v r) from rfl];by_cases hk:k=f
  ·rw [if_pos hk]
   by_cases h:g=k
   ·have hb:(g == k)=true:=beq_iff_eq.mpr h
    simp only [List.lookup,hb,if_pos (h.trans hk)]
   ·have hb:(g == k)=false:=beq_eq_false_iff_ne.mpr h
    simp only [List.lookup,hb,if_neg (fun e:g=f=>h (e.trans hk.symm))]
  ·rw [if_neg hk]
   by_cases h:g=k
   ·have hb:(g == k)=true:=beq_iff_eq.mpr h
    simp only [List.lookup,hb,if_neg (fun e:g=f=>hk (h.symm.trans e))]
   ·have hb:(g == k)=false:=beq_eq_false_iff_ne.mpr h
    simp only [List.lookup,hb];exact ih
theorem sr (f:Str) (v:V):∀fs:List (Str×V),f∈(bU f v fs).map (·.1)∧∀g,g∈fs.map (·.1)→g∈(bU f v fs).map (·.1)
 | []=>⟨by simp [bU],fun g h=>by simp at h⟩
 | (k,x)::r=>by
  obtain ⟨i1,i2⟩:=sr f v r;rw [show bU f v ((k,x)::r)=(if k=f then (k,v)::r else (k,x)::bU f v r) from rfl];by_cases hk:k=f
  ·rw [if_pos hk]
   subst hk;exact ⟨by simp,fun g h=>by simpa using h⟩
  ·rw [if_neg hk]
   refine ⟨?_,fun g h=>?_⟩
   ·rw [List.map_cons]
    exact List.mem_cons_of_mem _ i1
   ·rw [List.map_cons] at h ⊢
    rcases List.mem_cons.mp h with e | e
    ·exact List.mem_cons.mpr (.inl e)
    ·exact List.mem_cons_of_mem _ (i2 g e)
theorem kE (f:Str) (v:V):∀fs:List (Str×V),(bU f v fs).length≤fs.length+1
 | []=>by simp [bU]
 | (k,x)::r=>by
  have ih:=kE f v r;rw [show bU f v ((k,x)::r)=(if k=f then (k,v)::r else (k,x)::bU f v r) from rfl];by_cases hk:k=f
  ·rw [if_pos hk,List.length_cons,List.length_cons];omega
  ·rw [if_neg hk,List.length_cons,List.length_cons];omega
theorem wZ.some_of {v:V} {o:Option Value} (r:wZ (some v) o):∃u,o=some u∧RelV v u:=by
 cases o with
 | none=>exact (show False from r).elim
 | some u=>exact ⟨u,rfl,r⟩
theorem wZ.none_of {o:Option Value} (r:wZ none o):o=none:=by
 cases o with
 | none=>rfl
 | some u=>exact (show False from r).elim
theorem DC {v:V} {u:Value} (r:RelV v u):PySem.W.handedIn u=true:=by
 cases v with
 | non=>cases (show u=Value.none from r);rfl
 | bl b=>cases (show u=Value.bool b from r);rfl
 | int i=>obtain ⟨t,e⟩:=(show ∃t,u=Value.int i t from r);cases e;rfl
 | str x=>obtain ⟨t,e⟩:=(show ∃t,u=Value.str x t from r);cases e;rfl
 | byt b=>obtain ⟨t,e⟩:=(show ∃t,u=Value.bytes b t from r);cases e;rfl
 | flt b=>obtain ⟨t,e⟩:=(show ∃t,u=Value.float b t from r);cases e;rfl
 | ref a=>cases (show u=Value.ref a from r);rfl
 | ty n=>cases (show u=Value.type n from r);rfl
section
variable {P:Program} {w:World} {H H':Hp} {h h':Heap} {a C dx:Addr} {fs fs':List (Str×V)}
theorem yw (hok:HOk P w H h) (e:H a=some (.ins C dx fs)):∃mA,BJ h a dx C mA∧(∀f,wZ (fs.lookup f) (mA f))∧PySem.Within mA (fs.map (·.1))∧fs.length≤1000∧H dx=some (.own a):=by
 obtain ⟨d,z,ne,ob,mA,n,r,q⟩:=(show jn P w H h a (.ins C dx fs) from hok a _ e);exact ⟨mA,⟨ob,n,ne⟩,r,q,z,d⟩
end
structure Cls (K:PySem.W.Frag) (C:Addr):Prop where
 pg:PySem.W.plainGet K C Str.empty=true
 hd:PySem.W.hasDictIn K C=true
 po:PySem.W.plainOver K C=true
 sa:PySem.W.findIn K (.ref C) "__setattr__" = some (some (.builtin "object.__setattr__"))
theorem Cls.get {K:PySem.W.Frag} {C:Addr} (c:Cls K C) (f:Str):PySem.W.plainGet K C f=true:=c.pg
noncomputable def iV (K:PySem.W.Frag) (C:Addr) (f:Str):Prop:=PySem.W.findIn K (.ref C) f=some none
theorem iV.Ks {K:PySem.W.Frag} {C:Addr} {f:Str} (n:iV K C f):PySem.W.takerIn K C f=some none:=by
 unfold PySem.W.takerIn;rw [show PySem.W.findIn K (.ref C) f=some none from n];rfl
structure BK (K:PySem.W.Frag) (C:Addr) (m:Str) (f:Addr):Prop where
 at_:PySem.W.findIn K (.ref C) m=some (some (.ref f))
 fn:PySem.W.isFn K (.ref f)=true
 kp:PySem.W.keepIn K (.ref f)=true
section
variable {X:Cx} {pins:List (Addr×Obj)} {σ:St} {H:Hp} {s:Shared} {a C dx:Addr} {fs:List (Str×V)} {f:Str} {v:V} {A:Around} {E:Value→Shared→Prop}
theorem vC {b:Bool} {Q:Value→Shared→Prop} (I:Inv X pins σ H s) (e:H a=some (.ins C dx fs)) (c:Cls X.K C) (n:iV X.K C f) (l:fs.lookup f=some v)
  (h:∀u s',Inv X pins σ H s'→RelV v u→Q u s'):wpAny (model X.prog X.w) A (getAttr (.ref a) f b) Q E s:=by
 obtain ⟨mA,O,r,_,_,_⟩:=yw I.hok e;obtain ⟨u,hu,ru⟩:=wZ.some_of (v:=v) (o:=mA f) (by rw [←l];exact r f);exact get_map I.kIn O (c.get f) c.hd n hu (DC ru) (h u _ (I.tok _) ru)
theorem qk {m:Str} {g:Addr} {pl:Sem Bool} {Q:Value×List Value→Shared→Prop} (I:Inv X pins σ H s) (e:H a=some (.ins C dx fs)) (c:Cls X.K C) (k:BK X.K C m g) (l:fs.lookup m=none)
  (h:Q (.ref g,[.ref a]) s):wpAny (model X.prog X.w) A (getMethod (.ref a) m pl) Q E s:=by
 obtain ⟨mA,O,r,_,_,_⟩:=yw I.hok e;have hn:mA m=none:=wZ.none_of (by rw [←l];exact r m);exact Fo I.kIn O (c.get m) k.at_ k.fn hn h
theorem uQ {y:V} {u:Value} {Q:Unit→Shared→Prop} (I:Inv X pins σ H s) (e:H a=some (.ins C dx fs)) (c:Cls X.K C) (n:iV X.K C f) (hl:fs.length<1000) (ry:RelV y u)
  (h:∀s',Inv X pins σ (upd H a (.ins C dx (bU f y fs))) s'→Q () s'):wpAny (model X.prog X.w) A (setAttr (.ref a) f u) Q E s:=by
 obtain ⟨mA,O,r,wi,_,ho⟩:=yw I.hok e;have hz:(fs.map (·.1)).length≤sizeLine:=by rw [List.length_map,sizeLine_eq];omega
 refine GQ I.kIn O c.sa c.po n.Ks c.hd wi hz fun h' O' sb=>h _ ?_;have hd:∃o,h'.get? dx=some o:=let ⟨o,_,_,e',_⟩:=O'.ns;⟨o,e'⟩;refine I.write (x:=a) (e:=dx) (by rw [e];exact True.intro) (.inr ho) (fun b q hb z=>(sb.2 b hb).trans z) hd ?_;refine ⟨by rw [aD O.ne];exact ho,?_,O.ne,O'.obj,_,O'.ns,fun g=>?_,fun g hg=>?_⟩
 ·have:=kE f y fs;omega
 ·show wZ ((bU f y fs).lookup g) (if g=f then some u else mA g)
  rw [og];by_cases q:g=f
  ·rw [if_pos q,if_pos q];exact ry
  ·rw [if_neg q,if_neg q];exact r g
 ·by_cases q:g=f
  ·rw [q];exact (sr f y fs).1
  ·refine (sr f y fs).2 g (wi g fun z=>hg ?_)
   show (if g=f then some u else mA g)=none;rw [if_neg q];exact z
theorem Inv.made (I:Inv X pins σ H s):Inv X pins σ (upd (upd H s.heap.objs.size (.own (s.heap.objs.size+1))) (s.heap.objs.size+1) (.ins C s.heap.objs.size []))
  { s with heap:=(s.heap.push PySem.W.emptyDict).push (PySem.W.instObj C s.heap.objs.size) }:=by
 have e1:(s.heap.push PySem.W.emptyDict).get? s.heap.objs.size=some PySem.W.emptyDict:=Heap.get?_push_size s.heap rfl;have e2:((s.heap.push PySem.W.emptyDict).push (PySem.W.instObj C s.heap.objs.size)).get? (s.heap.objs.size+1)=some (PySem.W.instObj C s.heap.objs.size):=by
  have:=Heap.get?_push_size (s.heap.push PySem.W.emptyDict) (o:=PySem.W.instObj C s.heap.objs.size) rfl
  rwa [Heap.size_push] at this
 have e3:(s.heap.push PySem.W.emptyDict).Ns s.heap.objs.size (fun _=>none):=⟨PySem.W.emptyDict,#[],_,e1,rfl,(fun e he=>absurd he (by simp)),fun _=>rfl⟩;have I1:=I.laid (a:=s.heap.objs.size) (o:=.own (s.heap.objs.size+1)) (h':=s.heap.push PySem.W.emptyDict) (t':=s.toks) (fun b u q=>Heap.get?_push_of_some _ q) (Nat.le_refl _) ⟨_,e1⟩;refine I1.laid (a:=s.heap.objs.size+1) (o:=.ins C s.heap.objs.size []) (t':=s.toks) (fun b u q=>Heap.get?_push_of_some _ q) (Nat.le_of_eq (Heap.size_push _ _)) ?_;have ne:s.heap.objs.size≠s.heap.objs.size+1:=Nat.ne_of_lt (Nat.lt_succ_self _);refine ⟨by rw [aD ne,aG],Nat.zero_le _,ne,e2,fun _=>none,(Heap.Ns1.of_empty e3).at fun o q=>Heap.get?_push_of_some _ q,fun _=>True.intro,fun y hy=>absurd rfl hy⟩
theorem Ik {prog:Program} {w:World} {env:Env} {e:Expr} {f:Str} {pos:Pos} {s:Shared} {Q:Value→Shared→Prop} (hb:attributeBase e f env (eval e env)=eval e env)
  (h:wpAny (model prog w) A (eval e env) (fun o s₁=>wpAny (model prog w) A (getAttr o f true) Q E s₁) E s):wpAny (model prog w) A (eval (.Attribute e f pos) env) Q E s:=
 Attribute_any_ h (by rw [arm_eval_Attribute,hb])
end
noncomputable def jg (K:PySem.W.Frag) (ta:TE) (f:Str):TE:=fun σ H Q=>ta σ H fun x H1=>∃a C dx fs v,x = .ref a∧H1 a=some (.ins C dx fs)∧Cls K C∧iV K C f∧fs.lookup f=some v∧Q v H1
noncomputable def lE (K:PySem.W.Frag) (ta tv:TE) (f:Str):TS:=fun D σ H=>tv σ H fun y H1=>ta σ H1 fun x H2=>∃a C dx fs,x = .ref a∧H2 a=some (.ins C dx fs)∧Cls K C∧iV K C f∧fs.length<1000∧
 D.nx σ (upd H2 a (.ins C dx (bU f y fs)))
noncomputable def Lr (X:Cx) (op:Operator) (rd:V→V→Hp→VK→Prop):Prop:=
 ∀(pins:List (Addr×Obj)) (s:Shared) (σ:St) (H:Hp) (x y:V) (u v:Value) (Q:VK),Inv X pins σ H s→RelV x u→RelV y v→rd x y H Q→wpAny (model X.prog X.w) X.A (inplaceOp op u v) (EP X pins σ Q) X.xe s
noncomputable def xX (K:PySem.W.Frag) (ta tv:TE) (rd:V→V→Hp→VK→Prop) (f:Str):TS:=fun D σ H=>ta σ H fun x H1=>∃a C dx fs v,x = .ref a∧H1 a=some (.ins C dx fs)∧Cls K C∧iV K C f∧fs.lookup f=some v∧
 tv σ H1 fun y H2=>rd v y H2 fun z H3=>∃dx' fs',H3 a=some (.ins C dx' fs')∧fs'.length<1000∧D.nx σ (upd H3 a (.ins C dx' (bU f z fs')))
section
variable {X:Cx} {o e value:Expr} {f:Str} {pos pos' tpos:Pos} {ta tv:TE}
theorem Jw (he:PE X e ta) (hb:attributeBase e f X.env (eval e X.env)=eval e X.env):PE X (.Attribute e f pos) (jg X.K ta f):=by
 intro pins s σ H Q I h;refine Ik hb (thn (he pins s σ H _ I h) fun u s1 ⟨x,H1,I1,rx,a,C,dx,fs,v,ex,ea,c,n,l,q⟩=>?_);subst ex;obtain rfl:u=Value.ref a:=rx;exact vC I1 ea c n l fun u' s2 I2 ru=>⟨v,H1,I2,ru,q⟩
theorem Jt (ha:PE X o ta) (hv:PE X value tv) (hs:swapsWith value (some (.Attribute o f pos')) pos.line X.env=pure false):PS X (.Assign [.Attribute o f pos'] value pos) (lE X.K ta tv f):=by
 intro pins s σ H D I h;refine plainObj_wpAny_Assign_Attribute (thn (hv pins s σ H _ I h) fun u s1 ⟨y,H1,I1,ry,q⟩=>thn (ha pins s1 σ H1 _ I1 q) fun ov s2 ⟨x,H2,I2,rx,a,C,dx,fs,ex,ea,c,n,l,q2⟩=>?_) hs;subst ex;obtain rfl:ov=Value.ref a:=rx;exact uQ I2 ea c n l ry fun s3 I3=>⟨σ,_,I3,q2⟩
theorem fB {op:Operator} {rd:V→V→Hp→VK→Prop} (ha:PE X o ta) (hv:PE X value tv) (hop:Lr X op rd):PS X (.AugAssign (.Attribute o f tpos) op value pos) (xX X.K ta tv rd f):=by
 intro pins s σ H D I h;refine wpAny_AugAssign_AttributeAny (thn (ha pins s σ H _ I h) fun ov s1 ⟨x,H1,I1,rx,a,C,dx,fs,v,ex,ea,c,n,l,q⟩=>?_);subst ex;obtain rfl:ov=Value.ref a:=rx;refine vC I1 ea c n l fun u s2 I2 ru=>thn (hv pins s2 σ H1 _ I2 q) fun w3 s3 ⟨y,H2,I3,ry,q3⟩=>thn (hop pins s3 σ H2 v y u w3 _ I3 ru ry q3) fun w4 s4 ⟨z,H3,I4,rz,dx',fs',ea',l',q4⟩=>?_;exact uQ I4 ea' c n l' rz fun s5 I5=>⟨σ,_,I5,q4⟩
noncomputable def Jp:V→V→Hp→VK→Prop:=fun x y H Q=>∃i j,x = .int i∧y = .int j∧Q (.int (i+j)) H
theorem mD:Lr X .Add Jp:=by
 rintro pins s σ H x y u v Q I rx ry ⟨i,j,rfl,rfl,q⟩;obtain ⟨t,rfl⟩:=(show ∃t,u=Value.int i t from rx);obtain ⟨t',rfl⟩:=(show ∃t',v=Value.int j t' from ry);exact PyProof.Rows.iadd_int ⟨.int (i+j),H,I.tok _,⟨_,rfl⟩,q⟩
theorem IQ {pl:Sem Bool} {m:Str} {apos:Pos} {args:List Expr} {pins:List (Addr×Obj)} {s:Shared} {σ:St} {H:Hp} {Q:Value→Shared→Prop} {te:TE} (he:PE X e te) (I:Inv X pins σ H s)
  (h:te σ H fun x H1=>∃a C dx fs g,x = .ref a∧H1 a=some (.ins C dx fs)∧Cls X.K C∧BK X.K C m g∧fs.lookup m=none∧
   ∀s1,Inv X pins σ H1 s1→wpAny (model X.prog X.w) X.A (callWith pos (.ref g) [.ref a] (backTo pos (starEach args X.env)) (backToKw pos (keywordEach [] X.env))) Q X.xe s1)
  (ht:eval (.Call (.Attribute e m apos) args [] pos) X.env=(do
   let ov ←eval e X.env
   standAt apos.atName
   let (f,first) ←holding [ov] (getMethod ov m pl)
   callWith pos f first (backTo pos (starEach args X.env)) (backToKw pos (keywordEach [] X.env)))) :
  wpAny (model X.prog X.w) X.A (eval (.Call (.Attribute e m apos) args [] pos) X.env) Q X.xe s:=by
 refine PySem.W.methodCall_KW (pl:=pl) (thn (he pins s σ H _ I h) fun u s1 ⟨x,H1,I1,rx,a,C,dx,fs,g,ex,ea,c,k,l,q⟩=>?_) ht;subst ex;obtain rfl:u=Value.ref a:=rx;exact qk I1 ea c k l (q s1 I1)
end
section
variable {X:Cx} {pins:List (Addr×Obj)} {σ:St} {H:Hp} {s:Shared} {A:Around} {E:Value→Shared→Prop} {Q:Value→Shared→Prop} {c:Value} {b:Bool}
end
end L2
namespace L2
open PySem PySem.Spec PyProof.Rows
structure ij (k:Nat) (A:Around):Prop where
 hd:A.handled=none
 dp:A.depth+3*k+5<recursionLimit
 un:A.units+16*k+200<cLine
theorem ij.mono {j k:Nat} {A:Around} (r:ij k A) (h:j≤k):ij j A:=⟨r.hd,by have:=r.dp;omega,by have:=r.un;omega⟩
theorem ij.deeper {k:Nat} {A:Around} (r:ij (k+1) A) (env:Env):ij k (A.deeper env):=
 ⟨r.hd,by have:=r.dp;show A.depth+1+3*k+5<_;omega,by have:=r.un;show A.units+3+16*k+200<_;omega⟩
theorem Ba {A:Around} {C:Addr} {us:List Value} {kw:List (Str×Value)}:(A.under (.builtin "type.__call__" ⟨.ref C::us,kw⟩)).depth=A.depth+1:=by
 first | rfl | simp [Around.under,Code.weight,Code.isCreation,Code.isGuard,Code.isCaller,Code.frames,Code.isFrame,guardIds]
theorem A9 {A:Around} {C:Addr} {us:List Value} {kw:List (Str×Value)}:(A.under (.builtin "type.__call__" ⟨.ref C::us,kw⟩)).units=A.units+1:=by
 first | rfl | simp [Around.under,Code.cUnits,Code.frames,Code.isFrame]
theorem ij.make {k:Nat} {A:Around} (r:ij (k+1) A) (C:Addr) (us:List Value) (kw:List (Str×Value)):ij k (A.under (.builtin "type.__call__" ⟨.ref C::us,kw⟩)):=
 ⟨r.hd,by have:=r.dp;rw [Ba];omega,by have:=r.un;rw [A9];omega⟩
theorem ij.depth {k:Nat} {A:Around} (r:ij k A):A.depth<recursionLimit:=by have:=r.dp;omega
noncomputable def fR:TA:=fun _ H Q=>Q [] H
noncomputable def bM (ta:TE) (tr:TA):TA:=fun σ H Q=>ta σ H fun x H1=>tr σ H1 fun xs H2=>Q (x::xs) H2
section
variable {X:Cx} {e:Expr} {es:List Expr} {te:TE} {t:TA} {pos:Pos}
theorem d9:PA X [] fR:=fun _ _ _ _ H Q I h=>Calls.spliced_nil ⟨[],H,I,.nil,h⟩
theorem af (ha:PE X e te) (hr:PA X es t) (hs:starEach (e::es) X.env=(false,eval e X.env)::starEach es X.env:=by rfl):PA X (e::es) (bM te t):=by
 intro pos pins s σ H Q I h;rw [hs];show wpAny _ _ (spliced ((false,eval e X.env)::backTo pos (starEach es X.env))) _ _ s;refine Calls.spliced_cons (thn (ha pins s σ H _ I h) fun u s1 ⟨x,H1,I1,r1,q1⟩=>?_);exact thn (hr pos pins s1 σ H1 _ I1 q1) fun us s2 ⟨xs,H2,I2,r2,q2⟩=>⟨x::xs,H2,I2,.cons r1 r2,q2⟩
noncomputable def GG (t:TA):TE:=fun σ H Q=>t σ H fun xs H1=>xs.length≤sizeLine∧∀p,H1 p=none→Q (.ref p) (upd H1 p (.tup xs))
noncomputable def GH (t:TA):TE:=fun σ H Q=>t σ H fun xs H1=>xs.length≤sizeLine∧∀p,H1 p=none→Q (.ref p) (upd H1 p (.lst xs))
theorem pW {x1} (h:PA X es t):PE X (.Tuple es x1 pos) (GG t):=by
 intro pins s σ H Q I hq;refine wpAny_Tuple_spliced (thn (h pos pins s σ H _ I hq) fun us s1 ⟨xs,H1,I1,r,z,q⟩=>⟨by rw [←r.length];exact z,?_⟩);have hf:H1 s1.heap.objs.size=none:=I1.hok.fresh (Nat.le_refl _);refine ⟨.ref s1.heap.objs.size,upd H1 s1.heap.objs.size (.tup xs),I1.laid (t':=s1.toks) (fun b u e=>Heap.get?_push_of_some _ e) (Nat.le_refl _) ?_,rfl,q _ hf⟩;exact ⟨z,us,r,⟨_,Heap.get?_push_size _ rfl,rfl,_,rfl⟩⟩
theorem aL (h:PA X es t):PE X (.List es pos) (GH t):=by
 intro pins s σ H Q I hq;refine wpAny_List_spliced (thn (h pos pins s σ H _ I hq) fun us s1 ⟨xs,H1,I1,r,z,q⟩=>⟨by rw [←r.length];exact z,?_⟩);have hf:H1 s1.heap.objs.size=none:=I1.hok.fresh (Nat.le_refl _);refine ⟨.ref s1.heap.objs.size,upd H1 s1.heap.objs.size (.lst xs),I1.laid (t':=s1.toks) (fun b u e=>Heap.get?_push_of_some _ e) (Nat.le_refl _) ?_,rfl,q _ hf⟩;exact ⟨z,us,0,r,Heap.get?_push_size _ rfl⟩
end
noncomputable abbrev Sp:=List V→Hp→VK→XK→Prop
noncomputable abbrev CXT:=List Env→Hp→Shared→XK→Value→Shared→Prop
structure BM (P:Program) (w:World) (K:PySem.W.Frag) (mg:Str→Option Value) (base:Heap) (A:Around) (outer:List Env) (s:Shared) (H:Hp):Prop where
 frames:A.frames=some outer
 mod:Mod K mg base
 bs:∀b o,base.get? b=some o→s.heap.get? b=some o∧H b=none
 bsz:base.objs.size≤s.heap.objs.size
 uh:s.heap.FunFrames base outer
 frf:∀b∈frs outer,H b=none
 hok:HOk P w H s.heap
 bare:AllBare s.gens
noncomputable def CE (outer:List Env) (P:Program) (w:World) (H:Hp) (s:Shared) (Q:VK) (u:Value) (s':Shared):Prop:=
 ∃v H',s'.os=s.os∧AllBare s'.gens∧Un (frs outer) [] H H' s.heap s'.heap∧HOk P w H' s'.heap∧RelV v u∧Q v H'
noncomputable def CR (CX:CXT) (outer:List Env) (P:Program) (w:World) (H:Hp) (s:Shared) (Q:VK) (E:XK) (r:Result) (s':Shared):Prop:=
 match r with
 | .ok (.ret u)=>CE outer P w H s Q u s'
 | .ok _=>False
 | .error e=>CX outer H s E e s'
structure oS (P:Program) (w:World) (K:PySem.W.Frag) (mg:Str→Option Value) (base:Heap) (CX:CXT) (k:Nat) (f:Addr) (fd:FuncData) (ps:List Str) (sp:Sp):Prop where
 len:∀vs H Q E,sp vs H Q E→vs.length=ps.length
 run:∀(A:Around) (outer:List Env) (s:Shared) (H:Hp) (args:Args) (us:List Value) (vs:List V) (Q:VK) (E:XK),ij k A→BM P w K mg base A outer s H→BindsTo s fd args (ps.zip us)→bK vs us→sp vs H Q E→
  codeAny (model P w) A (.call (.ref f) args) (CR CX outer P w H s Q E) s
theorem oS.imp {P:Program} {w:World} {K:PySem.W.Frag} {mg:Str→Option Value} {base:Heap} {CX:CXT} {k:Nat} {f:Addr} {fd:FuncData} {ps:List Str} {sp sp':Sp} (F:oS P w K mg base CX k f fd ps sp)
  (h:∀vs H Q E,sp' vs H Q E→sp vs H Q E):oS P w K mg base CX k f fd ps sp':=
 ⟨fun vs H Q E q=>F.len vs H Q E (h _ _ _ _ q),fun A outer s H args us vs Q E hr he hb hv hs=>F.run A outer s H args us vs Q E hr he hb hv (h _ _ _ _ hs)⟩
theorem BM.make {P:Program} {w:World} {K:PySem.W.Frag} {mg:Str→Option Value} {base:Heap} {A:Around} {outer:List Env} {s:Shared} {H:Hp} (e:BM P w K mg base A outer s H) (C:Addr) (us:List Value) (kw:List (Str×Value)) :
  BM P w K mg base (A.under (.builtin "type.__call__" ⟨.ref C::us,kw⟩)) outer s H:=⟨by first | exact e.frames | (simpa [Around.under,Code.envs,Code.isFrame,pushEnvs] using e.frames),e.mod,e.bs,e.bsz,e.uh,e.frf,e.hok,e.bare⟩
section
variable {X:Cx} {pins:List (Addr×Obj)} {σ:St} {H:Hp} {s s':Shared}
theorem Inv.KY (I:Inv X pins σ H s):BM X.prog X.w X.K X.mg X.base X.A X.stack s H:=
 ⟨I.ok.frames,I.ok.mod,I.bs,Nat.le_trans I.ok.bsz I.sz,I.stack,I.BU,I.hok,I.bare⟩
theorem Inv.after {Q:VK} {u:Value} (I:Inv X pins σ H s) (h:CE X.stack X.prog X.w H s Q u s'):EP X pins σ Q u s':=by
 obtain ⟨v,H',os,bare,un,hok,r,q⟩:=h;obtain ⟨hh,g,d,t,os'⟩:=s';obtain rfl:os'=s.os:=os;exact ⟨v,H',I.call (h':=hh) (g':=g) (d':=d) (t':=t) (ch:=[]) un hok bare (fun b z=>absurd z (by simp)),r,q⟩
end
noncomputable def il (sp:Sp) (dvs:List V) (E:XK) (t:TA):TE:=fun σ H Q=>t σ H fun vs H1=>sp (vs++dvs) H1 Q E
noncomputable def mX (C:Addr) (m:Str) (sp:Sp) (dvs:List V) (E:XK) (ta:TE) (t:TA):TE:=fun σ H Q=>ta σ H fun x H1=>∃a dx fs,x = .ref a∧H1 a=some (.ins C dx fs)∧fs.lookup m=none∧
 t σ H1 fun vs H2=>sp (x::(vs++dvs)) H2 Q E
noncomputable def BS (C:Addr) (sp:Sp) (dvs:List V) (E:XK) (t:TA):TE:=fun σ H Q=>t σ H fun vs H1=>∀x dx,H1 x=none→H1 dx=none→dx≠x→
 sp (.ref x::(vs++dvs)) (upd (upd H1 dx (.own x)) x (.ins C dx [])) (fun v H2=>v = .non∧Q (.ref x) H2) E
noncomputable def Binds (K:PySem.W.Frag) (fd:FuncData) (ps:List Str) (ds:List Value):Prop:=
 ∀(s:Shared) (us:List Value),K.In s.heap→(us++ds).length=ps.length→BindsTo s fd ⟨us,[]⟩ (ps.zip (us++ds))
theorem Binds.all {K:PySem.W.Frag} {fd:FuncData} {ps:List Str} (h:∀us:List Value,us.length=ps.length→bindArgs fd ⟨us,[]⟩=pure (ps.zip us)):Binds K fd ps []:=fun s us _ hl=>by
 rw [List.append_nil] at hl ⊢;exact .of_eq (h us hl)
noncomputable def oR (CX:CXT) (X:Cx) (E:XK):Prop:=∀(pins:List (Addr×Obj)) (σ:St) (H:Hp) (s:Shared) (e:Value) (s':Shared),Inv X pins σ H s→CX X.stack H s E e s'→X.xe e s'
section
variable {X:Cx} {CX:CXT} {k:Nat} {f C:Addr} {fd:FuncData} {ps:List Str} {sp:Sp} {dvs:List V} {ds:List Value} {E:XK} {x m:Str} {p pos apos:Pos} {e o:Expr} {es:List Expr} {ta:TE} {t:TA}
theorem AS {pins:List (Addr×Obj)} {σ:St} {H:Hp} {s:Shared} {Q:VK} {us:List Value} {vs:List V} (F:oS X.prog X.w X.K X.mg X.base CX k f fd ps sp) (hr:ij k X.A) (hb:Binds X.K fd ps ds) (hd:bK dvs ds) (hx:oR CX X E)
  (I:Inv X pins σ H s) (r:bK vs us) (h:sp (vs++dvs) H Q E):wpAny (model X.prog X.w) X.A (call (.ref f) us) (EP X pins σ Q) X.xe s:=by
 have r2:bK (vs++dvs) (us++ds):=r.append hd;have hl:(us++ds).length=ps.length:=by rw [←r2.length];exact F.len _ _ _ _ h
 refine wpAny_call (codeAny_mono (F.run X.A X.stack s H ⟨us,[]⟩ (us++ds) (vs++dvs) Q E hr I.KY (hb s us I.kIn hl) r2 h) fun r s' hq=>?_)
 cases r with
 | error e=>exact hx pins σ H s e s' I hq
 | ok fl =>
  cases fl with
  | ret u=>exact I.after hq
  | next=>exact False.elim hq
  | brk=>exact False.elim hq
  | cont=>exact False.elim hq
theorem Hv (F:oS X.prog X.w X.K X.mg X.base CX k f fd ps sp) (hr:ij k X.A) (hg:Gl X x) (hm:X.mg x=some (.ref f)) (hk:PySem.W.keepIn X.K (.ref f)=true) (hb:Binds X.K fd ps ds) (hd:bK dvs ds) (hx:oR CX X E)
  (ha:PA X (e::es) t) (hdb:(x == ("__debug__" : Str))=false:=by decide) (he:starEach (e::es) X.env=(false,eval e X.env)::starEach es X.env:=by rfl) (hpl:(backTo pos (starEach es X.env)).any (·.1)=false:=by rfl) :
  PE X (.Call (.Name x p) (e::es) [] pos) (il sp dvs E t):=by
 intro pins s σ H Q I h;refine wpAny_Call_Name_kw (uu I hg hm ?_ hdb);refine PySem.W.callWith_K (h₀:=X.base) I.ok.mod.kin hk (thn (ha pos pins s σ H _ I h) fun us s1 ⟨vs,H1,I1,r,q⟩=>⟨I1.kIn,?_⟩) he hpl;exact AS F hr hb hd hx I1 r q
theorem B8 {pl:Sem Bool} (he:PE X o ta) (c:Cls X.K C) (hm:BK X.K C m f) (F:oS X.prog X.w X.K X.mg X.base CX k f fd ps sp) (hr:ij k X.A) (hb:Binds X.K fd ps ds) (hd:bK dvs ds) (hx:oR CX X E) (ha:PA X (e::es) t)
  (hst:starEach (e::es) X.env=(false,eval e X.env)::starEach es X.env:=by rfl) (hpl:(backTo pos (starEach es X.env)).any (·.1)=false:=by rfl)
  (ht:eval (.Call (.Attribute o m apos) (e::es) [] pos) X.env=(do
   let ov ←eval o X.env
   standAt apos.atName
   let (f,first) ←holding [ov] (getMethod ov m pl)
   callWith pos f first (backTo pos (starEach (e::es) X.env)) (backToKw pos (keywordEach [] X.env))):=by rfl) :
  PE X (.Call (.Attribute o m apos) (e::es) [] pos) (mX C m sp dvs E ta t):=by
 intro pins s σ H Q I h;refine PySem.W.methodCall_KW (pl:=pl) (thn (he pins s σ H _ I h) fun u s1 ⟨x,H1,I1,rx,a,dx,fs,ex,ea,l,q⟩=>?_) ht;subst ex;obtain rfl:u=Value.ref a:=rx;refine qk I1 ea c hm l ?_;refine PySem.W.callWith_K (first:=[.ref a]) (h₀:=X.base) I.ok.mod.kin hm.kp (thn (ha pos pins s1 σ H1 _ I1 q) fun us s2 ⟨vs,H2,I2,r,q2⟩=>⟨I2.kIn,?_⟩) hst hpl;exact AS (us:=.ref a::us) (vs:=.ref a::vs) F hr hb hd hx I2 (.cons rfl r) q2
theorem EG {pl:Sem Bool} (he:PE X o ta) (c:Cls X.K C) (hm:BK X.K C m f) (F:oS X.prog X.w X.K X.mg X.base CX k f fd ps sp) (hr:ij k X.A) (hb:Binds X.K fd ps ds) (hd:bK dvs ds) (hx:oR CX X E)
  (ht:eval (.Call (.Attribute o m apos) [] [] pos) X.env=(do
   let ov ←eval o X.env
   standAt apos.atName
   let (f,first) ←holding [ov] (getMethod ov m pl)
   callWith pos f first (backTo pos (starEach [] X.env)) (backToKw pos (keywordEach [] X.env))):=by rfl) :
  PE X (.Call (.Attribute o m apos) [] [] pos) (mX C m sp dvs E ta fR):=by
 intro pins s σ H Q I h;refine PySem.W.methodCall_KW (pl:=pl) (thn (he pins s σ H _ I h) fun u s1 ⟨x,H1,I1,rx,a,dx,fs,ex,ea,l,q⟩=>?_) ht;subst ex;obtain rfl:u=Value.ref a:=rx;refine qk I1 ea c hm l ?_;exact PySem.W.callWith_K0 (first:=[.ref a]) I1.kIn hm.kp (AS (us:=[.ref a]) (vs:=[.ref a]) F hr hb hd hx I1 (.cons rfl .nil) q)
structure Mk (K:PySem.W.Frag) (C f:Addr):Prop where
 makes:PySem.W.makesIn K C=true
 init:PySem.W.findIn K (.ref C) "__init__" = some (some (.ref f))
 fn:PySem.W.isFn K (.ref f)=true
 kp:PySem.W.keepIn K (.ref C)=true
theorem zq {pins:List (Addr×Obj)} {σ:St} {H:Hp} {s:Shared} {Q:VK} {us:List Value} {vs:List V} (M:Mk X.K C f) (F:oS X.prog X.w X.K X.mg X.base CX k f fd ps sp) (hr:ij (k+1) X.A) (hb:Binds X.K fd ps ds) (hd:bK dvs ds)
  (hx:oR CX X E) (I:Inv X pins σ H s) (r:bK vs us)
  (h:∀x dx,H x=none→H dx=none→dx≠x→sp (.ref x::(vs++dvs)) (upd (upd H dx (.own x)) x (.ins C dx [])) (fun v H2=>v = .non∧Q (.ref x) H2) E) :
  wpAny (model X.prog X.w) X.A (call (.ref C) us) (EP X pins σ Q) X.xe s:=by
 have hq:=h (s.heap.objs.size+1) s.heap.objs.size (I.hok.fresh (Nat.le_succ _)) (I.hok.fresh (Nat.le_refl _)) (Nat.ne_of_lt (Nat.lt_succ_self _));have I2:=Inv.made (C:=C) I;have r2:bK (V.ref (s.heap.objs.size+1)::(vs++dvs)) (Value.ref (s.heap.objs.size+1)::(us++ds)):=.cons rfl (r.append hd);have hl:(Value.ref (s.heap.objs.size+1)::us++ds).length=ps.length:=by
  have e:=r2.length;rw [F.len _ _ _ _ hq] at e;exact e.symm
 refine wpAny_call (Fd (f:=f) I.kIn M.makes M.init (beq_iff_eq.mp M.fn) (codeAny_mono (F.run _ X.stack _ _ ⟨Value.ref (s.heap.objs.size+1)::us,[]⟩ (Value.ref (s.heap.objs.size+1)::(us++ds)) _ _ E (hr.make C us [])
  (I2.KY.make C us []) (hb _ (Value.ref (s.heap.objs.size+1)::us) I2.kIn hl) r2 hq) fun r s' hq'=>?_))
 cases r with
 | error e=>exact hx pins σ _ _ e s' I2 hq'
 | ok fl =>
  cases fl with
  | ret u =>
   obtain ⟨v,H',I3,rv,ev,q3⟩:=I2.after hq';subst ev;exact ⟨rv,⟨V.ref (s.heap.objs.size+1),H',I3,rfl,q3⟩⟩
  | next=>exact False.elim hq'
  | brk=>exact False.elim hq'
  | cont=>exact False.elim hq'
theorem x9 (M:Mk X.K C f) (F:oS X.prog X.w X.K X.mg X.base CX k f fd ps sp) (hr:ij (k+1) X.A) (hg:Gl X x) (hm:X.mg x=some (.ref C)) (hb:Binds X.K fd ps ds) (hd:bK dvs ds) (hx:oR CX X E)
  (ha:PA X (e::es) t) (hdb:(x == ("__debug__" : Str))=false:=by decide) (he:starEach (e::es) X.env=(false,eval e X.env)::starEach es X.env:=by rfl) (hpl:(backTo pos (starEach es X.env)).any (·.1)=false:=by rfl) :
  PE X (.Call (.Name x p) (e::es) [] pos) (BS C sp dvs E t):=by
 intro pins s σ H Q I h;refine wpAny_Call_Name_kw (uu I hg hm ?_ hdb);refine PySem.W.callWith_K (h₀:=X.base) I.ok.mod.kin M.kp (thn (ha pos pins s σ H _ I h) fun us s1 ⟨vs,H1,I1,r,q⟩=>⟨I1.kIn,?_⟩) he hpl;exact zq M F hr hb hd hx I1 r q
theorem EI (M:Mk X.K C f) (F:oS X.prog X.w X.K X.mg X.base CX k f fd ps sp) (hr:ij (k+1) X.A) (hg:Gl X x) (hm:X.mg x=some (.ref C)) (hb:Binds X.K fd ps ds) (hd:bK dvs ds) (hx:oR CX X E)
  (hdb:(x == ("__debug__" : Str))=false:=by decide):PE X (.Call (.Name x p) [] [] pos) (BS C sp dvs E fR):=by
 intro pins s σ H Q I h;refine wpAny_Call_Name_kw (uu I hg hm ?_ hdb);exact PySem.W.callWith_K0 I.kIn M.kp (zq (us:=[]) M F hr hb hd hx I .nil h)
end
section
variable {X:Cx} {CX:CXT} {k:Nat} {f C:Addr} {fd:FuncData} {ps ks:List Str} {sp:Sp} {E:XK} {x m:Str} {p pos apos kpos:Pos} {e o:Expr} {es:List Expr} {kws:List Keyword} {te ta:TE} {t tk:TA} {nm:Option Str}
variable {g:List Value→List Value→List Value} {gV:List V→List V→List V}
end
structure mV (N P:List Str) (sc:Scope):Prop where
 kind:sc.kind = .function
 co:sc.isCoroutine=false
 gen:sc.isGenerator=false
 nd:N.Nodup
 pre:N.take P.length=P
 par:∀x∈P,sc.names.lookup x=some .local∨sc.names.lookup x=some .cell
 JA:∀y∈sc.names,y.2≠.free
theorem xx {kindOf:Str→Option NameKind} {x:Str}:∀{binds:List (Str×Value)} {m:Str→Option Value},(∀v,(x,v) ∉ binds)→bindL kindOf binds m x=m x
 | [],_,_=>rfl
 | (n,v)::r,m,h=>by
  unfold bindL;rw [xx fun w hw=>h w (List.mem_cons_of_mem _ hw)];split
  ·have:x≠n:=by rintro rfl;exact h v List.mem_cons_self
   simp [this]
  ·rfl
theorem xA {kindOf:Str→Option NameKind} {x:Str}:∀{binds:List (Str×Value)} {m:Str→Option Value},(∀v,(x,v) ∉ binds)→bindC kindOf binds m x=m x
 | [],_,_=>rfl
 | (n,v)::r,m,h=>by
  unfold bindC;rw [xA fun w hw=>h w (List.mem_cons_of_mem _ hw)];split
  ·rfl
  ·have:x≠n:=by rintro rfl;exact h v List.mem_cons_self
   simp [this]
theorem xy {kindOf:Str→Option NameKind} {x:Str} {v:Value}:∀{P:List Str} {vs:List Value} {i:Nat} {m:Str→Option Value},P.Nodup→P[i]? = some x→vs[i]? = some v→kindOf x=some .local→
  bindL kindOf (P.zip vs) m x=some v
 | [],_,_,_,_,h,_,_=>by simp at h
 | _::_,[],_,_,_,_,h,_=>by simp at h
 | p::P,w::vs,0,m,nd,h1,h2,hk=>by
  simp at h1 h2;subst h1;subst h2;show bindL kindOf ((p,w)::P.zip vs) m p=_;unfold bindL;rw [xx fun v hv=>(List.nodup_cons.mp nd).1 (List.of_mem_zip hv).1,if_pos hk];simp
 | p::P,w::vs,i+1,m,nd,h1,h2,hk=>by
  show bindL kindOf ((p,w)::P.zip vs) m x=_;unfold bindL;exact xy (i:=i) (List.nodup_cons.mp nd).2 (by simpa using h1) (by simpa using h2) hk
theorem xB {kindOf:Str→Option NameKind} {x:Str} {v:Value}:∀{P:List Str} {vs:List Value} {i:Nat} {m:Str→Option Value},P.Nodup→P[i]? = some x→vs[i]? = some v→kindOf x≠some .local→
  bindC kindOf (P.zip vs) m x=some v
 | [],_,_,_,_,h,_,_=>by simp at h
 | _::_,[],_,_,_,_,h,_=>by simp at h
 | p::P,w::vs,0,m,nd,h1,h2,hk=>by
  simp at h1 h2;subst h1;subst h2;show bindC kindOf ((p,w)::P.zip vs) m p=_;unfold bindC;rw [xA fun v hv=>(List.nodup_cons.mp nd).1 (List.of_mem_zip hv).1,if_neg hk];simp
 | p::P,w::vs,i+1,m,nd,h1,h2,hk=>by
  show bindC kindOf ((p,w)::P.zip vs) m x=_;unfold bindC;exact xB (i:=i) (List.nodup_cons.mp nd).2 (by simpa using h1) (by simpa using h2) hk
noncomputable def start (N:List Str) (vs:List V):St:=vs.map some++List.replicate (N.length - vs.length) none
noncomputable def Aj (CX:CXT) (P:Program) (w:World) (K:PySem.W.Frag) (mg:Str→Option Value) (base:Heap) (N:List Str) (qual:Str) (scope:Scope) (f:Addr) (cd:Value) (A:Around) (outer:List Env) (s:Shared) (H:Hp) (E:XK):Cx where
 prog:=P
 w:=w
 K:=K
 mg:=mg
 base:=base
 A:=A.deeper (envOfC qual scope s.heap.objs.size f cd)
 N:=N
 s_0:=s
 H_0:=H
 env:=envOfC qual scope s.heap.objs.size f cd
 outer:=outer
 stack:=envOfC qual scope s.heap.objs.size f cd::outer
 ex:=[]
 calm:=true
 fn:=fun _=>true
 pn:=[]
 xe:=fun e s'=>wpAny (model P w) (A.deeper (envOfC qual scope s.heap.objs.size f cd)) (leaving (envOfC qual scope s.heap.objs.size f cd) e) (fun _ s''=>CX outer H s E e s'') (fun e' s''=>CX outer H s E e' s'') s'
theorem Ao {sc:Scope} {n:Nat} {x:Str} (h:sc.names.lookup x=some .cell):∃c,(cellsFrom n sc.names []).lookup x=some c:=by
 have q:=PySem.W.cellsFrom_some sc.names n [] (.inl h);exact Option.isSome_iff_exists.mp q
theorem sx {CX:CXT} {P:Program} {w:World} {K:PySem.W.Frag} {mg:Str→Option Value} {base:Heap} {N ps:List Str} {qual:Str} {scope:Scope} {f:Addr} {cd:Value} {A:Around} {outer:List Env} {s s1:Shared} {H:Hp} {E:XK} {us:List Value} {vs:List V}
  (S:mV N ps scope) (hd:A.handled=none) (e0:BM P w K mg base A outer s H) (hl:vs.length=ps.length) (r:bK vs us)
  (x:InCallC s s.heap.objs.size (bindL (envOfC qual scope s.heap.objs.size f cd).kindOf (ps.zip us) fun _=>none) (cellsFrom (s.heap.objs.size+1) scope.names []) (bindC (envOfC qual scope s.heap.objs.size f cd).kindOf (ps.zip us) fun _=>none) s1) :
  Inv (Aj CX P w K mg base N qual scope f cd A outer s H E) [] (start N vs) H s1:=by
 have hpl:ps.length≤N.length:=by have:=congrArg List.length S.pre;rw [List.length_take] at this;omega
 obtain ⟨h1,tk,rfl,hk⟩:=x.done;have noA:∀b:Addr,b ∉ (Aj CX P w K mg base N qual scope f cd A outer s H E).ex:=fun b z=>absurd (show b∈([]:List Addr) from z) (by simp);refine ⟨⟨e0.mod,S.kind,rfl,rfl,Nat.le_refl _,fun y z c h1 h2=>?_,fun y hy=>?_,fun y c _ h=>?_,fun _=>hd,Around.frames_deeper e0.frames,.inr ⟨rfl,rfl⟩,fun b z=>absurd z (noA b),e0.bs,e0.bsz,fun b _ _=>noA b,fun b z=>absurd z (noA b),e0.uh,e0.frf⟩,
  rfl,e0.bare,Un.kept hk,⟨_,x.toInCall.ns,fun i y v h1 h2 h3=>?_⟩,fun y c h=>⟨_,x.cell y c h⟩,e0.hok.fresh (Nat.le_refl _),fun y c h=>?_,fun p hp=>absurd (show p∈([]:List (Addr×Obj)) from hp) (by simp),e0.hok.kept hk,?_⟩
 ·exact name_of_addr x.apart (PySem.mem_of_lookup h1) (PySem.mem_of_lookup h2)
 ·have hy:scope.names.lookup y=some .cell∨scope.names.lookup y=some .free:=hy
  rcases hy with hy | hy
  ·exact Ao hy
  ·exact absurd rfl (S.JA _ (PySem.mem_of_lookup hy))
 ·exact Nat.le_of_lt (x.above y c (PySem.mem_of_lookup h))
 ·have hi:i<vs.length:=by
   unfold start at h2;by_cases hi:i<vs.length
   ·exact hi
   ·rw [List.getElem?_append_right (by simpa using hi)] at h2
    rw [List.getElem?_replicate] at h2;split at h2 <;> cases h2
  have ha:vs[i]? = some v:=by
   unfold start at h2;rw [List.getElem?_append_left (by simpa using hi),List.getElem?_map] at h2
   cases e:vs[i]? with
   | none=>rw [e] at h2;cases h2
   | some a=>rw [e] at h2;cases h2;rfl
  obtain ⟨u,hu,rv⟩:=r.get ha;have hp:ps[i]? = some y:=by
   rw [←S.pre,List.getElem?_take_of_lt (by omega)];exact h1
  have ndP:ps.Nodup:=by rw [←S.pre];exact S.nd.sublist (List.take_sublist _ _)
  refine ⟨u,rv,?_⟩;rcases S.par y (List.mem_of_getElem? hp) with k | k
  ·exact .inl ⟨k,xy ndP hp hu k⟩
  ·obtain ⟨c,e⟩:=Ao (n:=s.heap.objs.size+1) k
   refine .inr ⟨.inl k,c,e,?_⟩;have q:=x.cell y c e;rw [xB ndP hp hu (by show scope.names.lookup y≠_;rw [k];decide)] at q;exact q
 ·exact e0.hok.fresh (Nat.le_of_lt (x.above y c (PySem.mem_of_lookup h)))
 ·unfold start
  show _=N.length;rw [List.length_append,List.length_map,List.length_replicate];omega
theorem Fu {CX:CXT} {P:Program} {w:World} {K:PySem.W.Frag} {mg:Str→Option Value} {base:Heap} {k:Nat} {f:Addr} {name qual:Str} {params:Arguments} {body:List Stmt} {scope:Scope} {dV kV doc pm cdv ct oc:Value} {an od:Option Addr}
  {osl:Array (Option Value)} {N ps:List Str} {sp:Sp} (lk:K.lookup f=some ⟨oc,od,.func (PySem.W.fnOf name qual params body scope dV kV doc pm an cdv ct),osl⟩) (hcd:PySem.W.codeIn K cdv qual=true) (S:mV N ps scope)
  (len:∀vs H Q E,sp vs H Q E→vs.length=ps.length)
  (hbody:∀(A:Around) (outer:List Env) (s:Shared) (H:Hp) (vs:List V) (Q:VK) (E:XK),ij k (A.deeper (envOfC qual scope s.heap.objs.size f cdv))→sp vs H Q E→
   ∃t,PSs (Aj CX P w K mg base N qual scope f cdv A outer s H E) body t∧t { nx:=fun _ H'=>Q .non H',rt:=Q } (start N vs) H) :
  oS P w K mg base CX (k+1) f (PySem.W.fnOf name qual params body scope dV kV doc pm an cdv ct) ps sp:=by
 refine ⟨len,fun A outer s H args us vs Q E hr e0 hb r hsp=>?_⟩;have hl:=len _ _ _ _ hsp;have KX:K.In s.heap:=e0.mod.kin.keeps fun b o e=>(e0.bs b o e).1;have lim:s.heap.NoLimit:=e0.mod.nolimit.keeps fun b o e=>(e0.bs b o e).1;have hkind:∀y∈ps.zip us,scope.names.lookup y.1=some .local∨(scope.names.lookup y.1=some .cell∧((cellsFrom (s.heap.objs.size+1) scope.names []).lookup y.1).isSome=true):=fun ⟨n,v⟩ hy=>by
  rcases S.par n (List.of_mem_zip hy).1 with q | q
  ·exact .inl q
  ·exact .inr ⟨q,PySem.W.cellsFrom_some _ _ _ (.inl q)⟩
 refine codeAny_call_function hr.depth (KX _ _ lk) rfl S.co S.gen rfl (PySem.W.codeRec_of KX hcd) (hb _ _ _ _ ?_);refine wpAny_newFunctionEnv_cells S.kind hkind fun env he s1 x=>?_;subst he;refine ⟨lim.keeps x.toInCall.keep,codeAny_func ?_⟩;obtain ⟨t,ht,hq⟩:=hbody A outer s H vs Q E (hr.deeper _) hsp;have I:Inv (Aj CX P w K mg base N qual scope f cdv A outer s H E) [] (start N vs) H s1:=sx S hr.hd e0 hl r x;refine wpAny_mono (ht [] s1 (start N vs) H _ I hq) (fun fl s' hs=>?_) fun e s' hs=>hs;have fin:∀{σ':St} {H':Hp} {v:V} {u:Value},Inv (Aj CX P w K mg base N qual scope f cdv A outer s H E) [] σ' H' s'→RelV v u→Q v H'→CE outer P w H s Q u s':=
  fun {σ' H' v u} J rv q=>⟨v,H',J.os,J.bare,J.base,J.hok,rv,q⟩
 cases fl with
 | ret u =>
  obtain ⟨v,σ',H',J,rv,q⟩:=hs;exact fin J rv q
 | next =>
  obtain ⟨σ',H',J,q⟩:=hs;exact fin (v:=V.non) (u:=Value.none) J rfl q
 | brk =>
  obtain ⟨_,_,_,q⟩:=hs;exact False.elim q
 | cont =>
  obtain ⟨_,_,_,q⟩:=hs;exact False.elim q
end L2
namespace L2
open PySem PySem.Spec PyProof.Rows
section
variable {X:Cx} {x:Str} {p pos:Pos} {e:Expr} {es:List Expr} {t:TA} {id T:String} {r:List V→Hp→VK→Prop}
noncomputable def tCB (r:List V→Hp→VK→Prop) (t:TA):TE:=fun σ H Q=>t σ H fun vs H1=>r vs H1 Q
theorem az (hc:kJ X (.builtin id) r) (hg:Gl X x) (hm:X.mg x=none) (hv:bootBuiltins x=some (.builtin id)) (ha:PA X (e::es) t) (hn:x ≠ "__name__" := by decide) (hdb:(x == ("__debug__" : Str))=false:=by decide)
  (he:starEach (e::es) X.env=(false,eval e X.env)::starEach es X.env:=by rfl) (hpl:(backTo pos (starEach es X.env)).any (·.1)=false:=by rfl):PE X (.Call (.Name x p) (e::es) [] pos) (tCB r t):=by
 intro pins s σ H Q I h;refine wpAny_Call_Name_kw (Bg I hg hm hv ?_ hn hdb);exact PyProof.Rows.callWith_builtin1 (thn (ha pos pins s σ H _ I h) fun us s1 ⟨vs,H1,I1,r1,q1⟩=>hc pins s1 σ H1 vs us Q I1 r1 q1) he hpl
end
end L2
namespace HT
open PySem PyProof.Rows
section
open PySem.SeqAt
open PySem.AutoSeq1 (wpAny_loadPart')
open PySem.MeetsSeq PySem.MeetsSeq2 PySem.MeetsSeq3
end
section
variable {prog:Program} {w:World} {A:Around} {E:Value→Shared→Prop} {s:Shared}
noncomputable def sIx (n d:Nat):Option Int→Nat
 | none=>d
 | some v=>if v<0 then (v+(n:Int)).toNat else min v.toNat n
end
end HT
namespace L2
open PySem PySem.Spec PyProof.Rows
noncomputable abbrev TO:=St→Hp→(Option Int→Hp→Prop)→Prop
noncomputable def PO (X:Cx) (e:Option Expr) (t:TO):Prop:=
 ∀(pins:List (Addr×Obj)) (s:Shared) (σ:St) (H:Hp) (Q:Option Int→Hp→Prop),Inv X pins σ H s→t σ H Q→
  wpAny (model X.prog X.w) X.A (evalPart e X.env) (fun u s'=>∃o H',Inv X pins σ H' s'∧IsPart u o∧Q o H') X.xe s
noncomputable def uk:TO:=fun _ H Q=>Q none H
noncomputable def Ee (t:TE):TO:=fun σ H Q=>t σ H fun x H1=>∃i,x = .int i∧Q (some i) H1
section
variable {X:Cx} {e:Expr} {te:TE} {lo hi:Option Expr} {tl th:TO} {pos p2:Pos}
theorem fC:PO X none uk:=by
 intro pins s σ H Q I h;rw [evalPart_none];exact wpAny_pure ⟨none,H,I,.none,h⟩
theorem bN (h:PE X e te):PO X (some e) (Ee te):=by
 intro pins s σ H Q I hw;rw [evalPart_some];refine thn (h pins s σ H _ I hw) fun u s1 ⟨x,H1,I1,r1,q1⟩=>?_;obtain ⟨i,rfl,q⟩:=q1;obtain ⟨t,rfl⟩:=r1;exact ⟨some i,H1,I1,.int i t,q⟩
noncomputable def SlR (X:Cx) (r:V→Option Int→Option Int→Hp→VK→Prop):Prop:=
 ∀(pins:List (Addr×Obj)) (s:Shared) (σ:St) (H:Hp) (x:V) (v vl vu:Value) (lo hi:Option Int) (sl:Addr) (Q:VK),Inv X pins σ H s→RelV x v→s.heap.IsSliceOf sl vl vu .none→IsPart vl lo→IsPart vu hi→r x lo hi H Q→
  ∃T id,typeLookup (.type T) "__getitem__" = pure (some (.builtin id))∧s.TypeIs v T∧wpAny (model X.prog X.w) X.A (getItem v (.ref sl)) (EP X pins σ Q) X.xe s
noncomputable def tSl (r:V→Option Int→Option Int→Hp→VK→Prop) (te:TE) (tl th:TO):TE:=fun σ H Q=>te σ H fun x H1=>tl σ H1 fun l H2=>th σ H2 fun u H3=>r x l u H3 Q
theorem cG {r:V→Option Int→Option Int→Hp→VK→Prop} (hr:SlR X r) (he:PE X e te) (hl:PO X lo tl) (hu:PO X hi th):PE X (.Subscript e (.Slice lo hi none p2) pos) (tSl r te tl th):=by
 intro pins s σ H Q I h;refine Subscript_ (thn (he pins s σ H _ I h) fun v s1 ⟨x,H1,I1,r1,q1⟩=>?_);refine wpAny_Slice (thn (hl pins s1 σ H1 _ I1 q1) fun vl s2 ⟨l,H2,I2,pl,q2⟩=>thn (hu pins s2 σ H2 _ I2 q2) fun vu s3 ⟨u,H3,I3,pu,q3⟩=>?_);rw [evalPart_none];refine wpAny_pure ?_;have I4:Inv X pins σ H3 { s3 with heap:=s3.heap.push { cls:=.type "slice",data:=.fields #[vl,vu,.none] } }:=I3.kept (t':=s3.toks) fun b ob q=>Heap.get?_push_of_some _ q;obtain ⟨T,id,hT,ht,hg⟩:=hr pins { s3 with heap:=s3.heap.push { cls:=.type "slice",data:=.fields #[vl,vu,.none] } } σ H3 x v vl vu l u s3.heap.objs.size Q I4 r1 (Heap.IsSliceOf.new ..) pl pu q3;show wpAny (model X.prog X.w) X.A (subscriptTail e (.Slice lo hi none p2) v (.ref s3.heap.objs.size)) (EP X pins σ Q) X.xe { s3 with heap:=s3.heap.push { cls:=.type "slice",data:=.fields #[vl,vu,.none] } };exact tail_any (ops:=[.ref s3.heap.objs.size,v]) ht hT hg (by with_unfolding_all rfl)
noncomputable def FK (xs:List V) (lo hi:Option Int):List V:=(xs.drop (HT.sIx xs.length 0 lo)).take (HT.sIx xs.length xs.length hi - HT.sIx xs.length 0 lo)
theorem Al (xs:List V) (lo hi:Option Int):(FK xs lo hi).length≤xs.length:=by
 unfold FK;rw [List.length_take,List.length_drop];omega
end
end L2
namespace L2
open PySem PySem.Spec PyProof.Rows
noncomputable def ixN (n:Nat) (i:Int):Option Nat:=if 0≤i then (if i<n then some i.toNat else none) else if -(n:Int)≤i then some (i+n).toNat else none
noncomputable def atI {α:Type} (xs:List α) (i:Int):Option α:=(ixN xs.length i).bind fun j=>xs[j]?
theorem HM {n:Nat} {i:Int} {j:Nat} (h:ixN n i=some j):seqIndex? i n=some j∧j<n∧-(n:Int)≤i∧i<n:=by
 unfold ixN at h;by_cases h0:0≤i
 ·rw [if_pos h0] at h
  by_cases h1:i<n
  ·rw [if_pos h1] at h
   have e:i.toNat=j:=Option.some.inj h;exact ⟨by rw [seqIndex_of h0 h1,e],by omega,by omega,h1⟩
  ·rw [if_neg h1] at h;cases h
 ·rw [if_neg h0] at h
  by_cases h1:-(n:Int)≤i
  ·rw [if_pos h1] at h
   have e:(i+n).toNat=j:=Option.some.inj h;exact ⟨by rw [seqIndex_neg (by omega) h1,e],by omega,h1,by omega⟩
  ·rw [if_neg h1] at h;cases h
theorem Cs {α:Type} {xs:List α} {i:Int} {v:α} (h:atI xs i=some v):∃j,seqIndex? i xs.length=some j∧xs[j]? = some v∧j<xs.length∧-(xs.length:Int)≤i∧i<xs.length:=by
 unfold atI at h
 cases e:ixN xs.length i with
 | none=>rw [e] at h;cases h
 | some j =>
  rw [e] at h;obtain ⟨h1,h2,h3,h4⟩:=HM e;exact ⟨j,h1,h,h2,h3,h4⟩
theorem Il {α:Type} {xs:List α} {j:Nat} {v:α} (h:xs[j]? = some v):atI xs (j:Int)=some v:=by
 have hj:j<xs.length:=(List.getElem?_eq_some_iff.mp h).1;have e:ixN xs.length (j:Int)=some j:=by
  unfold ixN;rw [if_pos (by omega),if_pos (by omega)];simp
 unfold atI;rw [e];exact h
theorem Az {α:Type} (xs:List α) (v:α):atI (xs++[v]) (-1)=some v:=by
 have hl:(xs++[v]).length=xs.length+1:=by simp
 have e:ixN (xs++[v]).length (-1)=some xs.length:=by
  unfold ixN;rw [hl,if_neg (by decide),if_pos (by omega)];congr 1;omega
 unfold atI;rw [e];show (xs++[v])[xs.length]? = some v;simp
noncomputable def Iz (b:Expr):Prop:=∀o i,subscripted b false o i=operate [o,i] (getItem o i)
noncomputable def IxR (X:Cx) (r:R2):Prop:=
 ∀(value slice:Expr) (pins:List (Addr×Obj)) (s:Shared) (σ:St) (H:Hp) (x y:V) (v u:Value) (Q:VK),Inv X pins σ H s→RelV x v→RelV y u→r x y H Q→
  subscripted slice false v u=operate [v,u] (getItem v u)→wpAny (model X.prog X.w) X.A (subscriptTail value slice v u) (EP X pins σ Q) X.xe s
noncomputable def MtR (X:Cx) (id:String) (r:V→List V→Hp→VK→Prop):Prop:=
 ∀(pins:List (Addr×Obj)) (s:Shared) (σ:St) (H:Hp) (x:V) (xs:List V) (v:Value) (us:List Value) (Q:VK),Inv X pins σ H s→RelV x v→bK xs us→r x xs H Q→
  wpAny (model X.prog X.w) X.A (call (.builtin id) (v::us)) (EP X pins σ Q) X.xe s
section
variable {X:Cx} {a b:Expr} {ta tb:TE} {pos:Pos}
theorem aY {r:R2} (hr:IxR X r) (ha:PE X a ta) (hb:PE X b tb) (hs:Iz b):PE X (.Subscript a b pos) (tOp r ta tb):=by
 intro pins s σ H Q I h;exact Subscript_ (JV ha hb I h fun v u s2 x y H2 I2 rx ry q=>hr a b pins s2 σ H2 x y v u Q I2 rx ry q (hs _ _))
noncomputable def Hk (K:PySem.W.Frag):R2:=fun x y H Q=>∃p xs i v,x = .ref p∧y = .int i∧SqL K H p xs∧atI xs i=some v∧Q v H
noncomputable def Hj (K:PySem.W.Frag):R2:=fun x y H Q=>∃p xs i v,x = .ref p∧y = .int i∧SqT K H p xs∧atI xs i=some v∧Q v H
theorem bc:IxR X (Hk X.K):=by
 intro value slice pins s σ H x y v u Q I rx ry h hs;obtain ⟨p,xs,i,z,rfl,rfl,hq,he,q⟩:=h
 cases rx
 obtain ⟨t,rfl⟩:=ry;obtain ⟨its,r,pl,hz⟩:=I.list hq;obtain ⟨j,h1,h2,h3,h4,h5⟩:=Cs he;obtain ⟨w,ew,rw'⟩:=r.get h2;have hl:=r.length;have hn:=yp;have fin:EP X pins σ Q w s:=⟨z,H,I,rw',q⟩;by_cases h0:0≤i
 ·have hj:i.toNat=j:=by
   rw [seqIndex_of h0 h5] at h1;exact Option.some.inj h1
  exact item_listR pl.isList h0 (by omega) (by rw [hj];simpa using ew) fin hs
 ·have hj:(i+(its.toArray.size:Int)).toNat=j:=by
   rw [seqIndex_neg (by omega) h4] at h1;rw [List.size_toArray,←hl];exact Option.some.inj h1
  exact subscriptTail_builtinR (x:=w) pl.isList.typeIs slot_list_getitem.lookup
   (wpAny_getItem_list_neg (Q:=fun r s'=>r=w∧EP X pins σ Q r s') pl.isList (by omega) (by rw [List.size_toArray] <;> omega) (by omega) (by rw [hj];simpa using ew) ⟨rfl,fin⟩) hs
theorem cz:IxR X (Hj X.K):=by
 intro value slice pins s σ H x y v u Q I rx ry h hs;obtain ⟨p,xs,i,z,rfl,rfl,hq,he,q⟩:=h
 cases rx
 obtain ⟨t,rfl⟩:=ry;obtain ⟨its,r,pl,hz⟩:=I.tuple hq;obtain ⟨j,h1,h2,h3,h4,h5⟩:=Cs he;obtain ⟨w,ew,rw'⟩:=r.get h2;have hl:=r.length;have hn:=yp;have fin:EP X pins σ Q w s:=⟨z,H,I,rw',q⟩;exact subscriptTail_builtinR (x:=w) pl.typeIs slot_tuple_getitem.lookup
  (getItem_tuple (j:=j) (Q:=fun r s'=>r=w∧EP X pins σ Q r s') pl (by omega) (by omega) (by rw [List.size_toArray,←hl];exact h1) (by simpa using ew) ⟨rfl,fin⟩) hs
theorem xV (lo hi:Option Int) (n:Nat):(sliceBounds lo hi none n).1=((HT.sIx n 0 lo:Nat):Int)∧(sliceBounds lo hi none n).2.1=((HT.sIx n n hi:Nat):Int)∧(sliceBounds lo hi none n).2.2=1:=by
 refine ⟨?_,?_,rfl⟩
 ·cases lo with
  | none=>simp [sliceBounds,HT.sIx]
  | some i =>
   simp only [sliceBounds,HT.sIx,Option.getD_none,show (1:Int) > 0 by decide,if_true];by_cases h:i<0
   ·simp only [h,if_true] <;> omega
   ·simp only [h,if_false] <;> omega
 ·cases hi with
  | none=>simp [sliceBounds,HT.sIx]
  | some i =>
   simp only [sliceBounds,HT.sIx,Option.getD_none,show (1:Int) > 0 by decide,if_true];by_cases h:i<0
   ·simp only [h,if_true] <;> omega
   ·simp only [h,if_false] <;> omega
theorem wC (its:List Value) (lo hi:Option Int):slicePick its.toArray lo hi none=((its.drop (HT.sIx its.length 0 lo)).take (HT.sIx its.length its.length hi - HT.sIx its.length 0 lo)).toArray:=by
 obtain ⟨h1,h2,h3⟩:=xV lo hi its.toArray.size;unfold slicePick;rw [h1,h2,h3];simp only [sliceRange_one,pick_run,List.size_toArray] <;> rfl
noncomputable def Hi (K:PySem.W.Frag):V→Option Int→Option Int→Hp→VK→Prop:=fun x lo hi H Q=>∃a xs,x = .ref a∧SqL K H a xs∧∀p,H p=none→Q (.ref p) (upd H p (.lst (FK xs lo hi)))
theorem dm:SlR X (Hi X.K):=by
 intro pins s σ H x v vl vu lo hi sl Q I rx hs pl pu h;obtain ⟨a,xs,rfl,hx,q⟩:=h
 cases rx
 obtain ⟨its,r,ht,hz⟩:=I.list hx;have hlen:=r.length;refine ⟨"list",_,slot_list_getitem.lookup,ht.isList.typeIs,?_⟩;refine wpAny_getItem_list_slice ht.isList hs pl pu .none (by simp) ?_ (by rw [List.size_toArray] <;> omega);rw [wC,←hlen];refine ⟨.ref s.heap.objs.size,_,I.laid (t':=s.toks) (o:=.lst (FK xs lo hi)) (fun b ob q=>Heap.get?_push_of_some _ q) (Nat.le_refl _) ?_,rfl,q _ (I.hok.fresh (Nat.le_refl _))⟩;exact ⟨Nat.le_trans (Al xs lo hi) hz,_,0,(r.drop (HT.sIx xs.length 0 lo)).take (HT.sIx xs.length xs.length hi - HT.sIx xs.length 0 lo),Heap.get?_push_size _ rfl⟩
noncomputable def tK:V→Bool
 | .non=>true
 | .bl _=>true
 | .int _=>true
 | .str _=>true
 | _=>false
noncomputable def eqV:V→V→Bool
 | .non,.non=>true
 | .bl a,.bl b=>a == b
 | .bl a,.int b=>(if a then 1 else 0) == b
 | .int a,.bl b=>a == (if b then 1 else 0)
 | .int a,.int b=>a == b
 | .str a,.str b=>a == b
 | _,_=>false
theorem JO {A:Around} {s:Shared} {y x:V} {u v:Value} (ry:RelV y u) (rx:RelV x v) (fy:tK y=true) (fx:tK x=true):SeqAt.EqAt A s u v (eqV y x):=by
 cases y with
 | non =>
  cases ry
  cases x with
  | non=>cases rx;exact SeqAt.EqAt.same _
  | bl b=>cases rx;exact SeqAt.EqAt.none_bool b
  | int b=>obtain ⟨t,rfl⟩:=rx;exact SeqAt.EqAt.none_int b t
  | str b=>obtain ⟨t,rfl⟩:=rx;exact SeqAt.EqAt.none_str b t
  | _=>exact absurd (show false=true from fx) Bool.false_ne_true
 | bl a =>
  cases ry
  cases x with
  | non=>cases rx;exact SeqAt.EqAt.bool_none a
  | bl b=>cases rx;exact SeqAt.EqAt.bool_bool a b
  | int b=>obtain ⟨t,rfl⟩:=rx;exact SeqAt.EqAt.bool_int a b t
  | str b=>obtain ⟨t,rfl⟩:=rx;exact SeqAt.EqAt.bool_str a b t
  | _=>exact absurd (show false=true from fx) Bool.false_ne_true
 | int a =>
  obtain ⟨t',rfl⟩:=ry
  cases x with
  | non=>cases rx;exact SeqAt.EqAt.int_none a t'
  | bl b=>cases rx;exact SeqAt.EqAt.int_bool a t' b
  | int b=>obtain ⟨t,rfl⟩:=rx;exact SeqAt.EqAt.int_int a t' b t
  | str b=>obtain ⟨t,rfl⟩:=rx;exact SeqAt.EqAt.int_str a t' b t
  | _=>exact absurd (show false=true from fx) Bool.false_ne_true
 | str a =>
  obtain ⟨t',rfl⟩:=ry
  cases x with
  | non=>cases rx;exact SeqAt.EqAt.str_none a t'
  | bl b=>cases rx;exact SeqAt.EqAt.str_bool a t' b
  | int b=>obtain ⟨t,rfl⟩:=rx;exact SeqAt.EqAt.str_int a t' b t
  | str b=>obtain ⟨t,rfl⟩:=rx;exact SeqAt.EqAt.str_str a t' b t
  | _=>exact absurd (show false=true from fx) Bool.false_ne_true
 | _=>exact absurd (show false=true from fy) Bool.false_ne_true
noncomputable def eqU (x:V) (u:Value):Bool:=match u with
 | .none=>eqV .non x
 | .bool b=>eqV (.bl b) x
 | .int i _=>eqV (.int i) x
 | .str z _=>eqV (.str z) x
 | _=>false
theorem FA {x y:V} {u:Value} (r:RelV y u) (f:tK y=true):eqU x u=eqV y x:=by
 cases y with
 | non=>cases r;rfl
 | bl b=>cases r;rfl
 | int i=>obtain ⟨t,rfl⟩:=r;rfl
 | str z=>obtain ⟨t,rfl⟩:=r;rfl
 | _=>exact absurd (show false=true from f) Bool.false_ne_true
theorem yM {x:V}:∀{xs:List V} {us:List Value},bK xs us→xs.all tK=true→us.any (eqU x)=xs.any fun y=>eqV y x
 | _,_,.nil,_=>rfl
 | y::xs,u::us,.cons r t,f=>by
  rw [List.all_cons,Bool.and_eq_true] at f;rw [List.any_cons,List.any_cons,FA r f.1,yM t f.2]
theorem vx {A:Around} {s:Shared} {x:V} {v:Value} (rx:RelV x v) (fx:tK x=true):∀{xs:List V} {us:List Value},bK xs us→xs.all tK=true→∀u∈us,SeqAt.EqAt A s u v (eqU x u)
 | _,_,.nil,_=>fun u hu=>by cases hu
 | y::xs,u::us,.cons r t,f=>fun u' hu=>by
  rw [List.all_cons,Bool.and_eq_true] at f;rcases List.mem_cons.mp hu with rfl | hu
  ·rw [FA r f.1];exact JO r rx f.1 fx
  ·exact vx rx fx t f.2 u' hu
noncomputable def inV (x:V) (xs:List V):Bool:=xs.any fun y=>eqV y x
noncomputable def rIn (K:PySem.W.Frag) (neg:Bool):R2:=fun x y H Q=>∃p xs,y = .ref p∧(SqL K H p xs∨SqT K H p xs)∧tK x=true∧xs.all tK=true∧Q (.bl (if neg then !inV x xs else inV x xs)) H
theorem Dp:OpR X (compareOp .In) (rIn X.K false):=by
 intro pins s σ H x y v u Q I rx ry h;obtain ⟨p,xs,rfl,hq,fx,fs,q⟩:=h
 cases ry
 rcases hq with hq | hq
 ·obtain ⟨its,r,pl,hz⟩:=I.list hq
  refine SeqAt.in_listAt (eqU x) pl.isList (fun w hw=>vx rx fx r fs w (by simpa using hw)) ⟨.bl _,H,I,rfl,?_⟩;rw [show its.toArray.any (eqU x)=its.any (eqU x) by simp,yM r fs];exact q
 ·obtain ⟨its,r,pl,hz⟩:=I.tuple hq
  refine SeqAt.in_tupleAt (eqU x) pl (fun w hw=>vx rx fx r fs w (by simpa using hw)) ⟨.bl _,H,I,rfl,?_⟩;rw [show its.toArray.any (eqU x)=its.any (eqU x) by simp,yM r fs];exact q
theorem yG:kJ X (.builtin "len") (fun xs H Q=>∃p ys,xs=[.ref p]∧(SqL X.K H p ys∨SqT X.K H p ys)∧Q (.int ys.length) H):=by
 intro pins s σ H xs us Q I r h;obtain ⟨p,ys,rfl,hq,q⟩:=h;obtain ⟨u,rfl,rx⟩:=vals1 r
 cases rx
 have hn:=yp;rcases hq with hq | hq
 ·obtain ⟨its,r',pl,hz⟩:=I.list hq
  have hlen:=r'.length;exact Calls.call_len_list pl.isList (by simp only [List.size_toArray] <;> omega) ⟨.int ys.length,H,I.tok _,⟨s.toks+1,by rw [List.size_toArray,hlen]⟩,q⟩
 ·obtain ⟨its,r',pl,hz⟩:=I.tuple hq
  have hlen:=r'.length;exact len_tuple pl (by simp only [List.size_toArray] <;> omega) ⟨.int ys.length,H,I.tok _,⟨s.toks+1,by rw [List.size_toArray,hlen]⟩,q⟩
noncomputable def tyV (K:PySem.W.Frag) (T:String) (x:V) (H:Hp):Prop:=match x with
 | .str _=>T = "str"
 | .int _=>T = "int"
 | .ref p=>(T = "list" ∧ ∃xs,SqL K H p xs)∨(T = "tuple" ∧ ∃o,K.lookup p=some o∧o.cls = .type "tuple" ∧ o.dict=none)∨
   (T = "dict" ∧ ((∃kvs,H p=some (.dK kvs))∨∃kvs,H p=some (.dT kvs)))∨(T = "set" ∧ ∃S n,H p=some (.set S n))
 | _=>False
theorem IY {pins:List (Addr×Obj)} {σ:St} {H:Hp} {s:Shared} {T:String} {x:V} {v:Value} (I:Inv X pins σ H s) (r:RelV x v) (ty:tyV X.K T x H) :
  s.TypeIs v T∧∀a,v = .ref a→∃ob,s.heap.get? a=some ob∧ob.dict=none:=by
 cases x with
 | str z =>
  obtain ⟨t,rfl⟩:=r
  cases (show T = "str" from ty)
  exact ⟨typeIs_str s z t,fun _ e=>nomatch e⟩
 | int i =>
  obtain ⟨t,rfl⟩:=r
  cases (show T = "int" from ty)
  exact ⟨typeIs_int s i t,fun _ e=>nomatch e⟩
 | ref p =>
  cases r
  rcases ty with ⟨rfl,xs,hq⟩ | ⟨rfl,o,hk,hc,hd⟩ | ⟨rfl,hk⟩ | ⟨rfl,S,n,hk⟩
  ·obtain ⟨its,_,pl,_⟩:=I.list hq
   refine ⟨pl.isList.typeIs,fun a e=>?_⟩
   cases e
   obtain ⟨o,n,e,c,hd,_⟩:=pl;exact ⟨o,e,hd⟩
  ·refine ⟨⟨o,I.kIn p o hk,hc⟩,fun a e=>?_⟩
   cases e
   exact ⟨o,I.kIn _ o hk,hd⟩
  ·have z:∃o,s.heap.get? p=some o∧o.ExactDict:=by
    rcases hk with ⟨kvs,hk⟩ | ⟨kvs,hk⟩
    ·obtain ⟨_,_,_,_,o,_,_,e,ex,_⟩:=I.hok p _ hk
     exact ⟨o,e,ex⟩
    ·obtain ⟨_,_,_,_,o,_,_,e,ex,_⟩:=I.hok p _ hk
     exact ⟨o,e,ex⟩
   obtain ⟨o,e,ex⟩:=z;refine ⟨⟨o,e,ex.1⟩,fun a e2=>?_⟩
   cases e2
   exact ⟨o,e,ex.2.1⟩
  ·obtain ⟨o,_,_,_,e,ex,_⟩:=I.hok p _ hk
   refine ⟨⟨o,e,ex.1⟩,fun a e2=>?_⟩
   cases e2
   exact ⟨o,e,ex.2.1⟩
 | _=>exact False.elim ty
noncomputable def tBM (K:PySem.W.Frag) (T:String) (r:V→List V→Hp→VK→Prop) (to:TE) (t:TA):TE:=fun σ H Q=>to σ H fun x H1=>tyV K T x H1∧t σ H1 fun xs H2=>r x xs H2 Q
variable {o e:Expr} {es:List Expr} {to:TE} {t:TA} {name:Str} {apos cpos:Pos} {T id:String} {r:V→List V→Hp→VK→Prop}
theorem jl (pa:PlainAttrs T) (slot:Slot T name id) (hty:typeOf (.builtin id)=pure (.type "method_descriptor")) (hm:MtR X id r) (ho:PE X o to) (ha:PA X (e::es) t)
  (hbase:attributeBase o name X.env (eval o X.env)=eval o X.env:=by rfl)
  (hfew:((backTo cpos (starEach (e::es) X.env)).all (fun x=>!x.1) && (backToKw cpos (keywordEach [] X.env)).all (fun x=>x.1.isSome)
   && decide ((e::es).length+([]:List Keyword).length+(if ([]:List Keyword).isEmpty then 0 else 1)<30))=true:=by rfl)
  (hline:(apos.endLine == cpos.line)=true:=by rfl) (hs:starEach (e::es) X.env=(false,eval e X.env)::starEach es X.env:=by rfl) (hplain:(backTo cpos (starEach es X.env)).any (·.1)=false:=by rfl) :
  PE X (.Call (.Attribute o name apos) (e::es) [] cpos) (tBM X.K T r to t):=by
 intro pins s σ H Q I h;refine wpAny_Call_method_late hbase hfew hline rfl (thn (ho pins s σ H _ I h) fun v s1 ⟨x,H1,I1,r1,ty,q1⟩=>?_);obtain ⟨h1,h2⟩:=IY I1 r1 ty;refine ⟨T,id,pa,slot,hty,h1,h2,?_⟩;have hA:=ha cpos pins s1 σ H1 _ I1 q1;rw [hs] at hA ⊢;refine Calls.callWith_builtin (by show (false || (backTo cpos (starEach es X.env)).any (·.1))=false;rw [hplain] <;> rfl) (Calls.evalArgs_plain ?_);exact thn hA fun us s2 ⟨vs,H2,I2,r2,q2⟩=>hm pins s2 σ H2 x vs v us Q I2 r1 r2 q2
end
end L2
namespace L2
open PySem PySem.Spec PyProof.Rows
noncomputable def MtM (X:Cx) (id:String) (r:V→List V→Hp→VK→Prop):Prop:=
 ∀(pins:List (Addr×Obj)) (s:Shared) (σ:St) (H:Hp) (x:V) (xs:List V) (v:Value) (us:List Value) (Q:VK),Inv X pins σ H s→RelV x v→bK xs us→r x xs H Q→
  wpAny (model X.prog X.w) X.A (call (.builtin id) (v::us)) (EP X pins σ Q) X.xe s
theorem bK.one:∀{x:V} {us:List Value},bK [x] us→∃u,us=[u]∧RelV x u
 | _,_,.cons r .nil=>⟨_,rfl,r⟩
section
variable {X:Cx} {pins:List (Addr×Obj)} {σ:St} {H:Hp} {s:Shared} {l b:Addr} {xs ys zs:List V}
theorem Inv.KN {its its':List Value} {n:Nat} {f:Array Value→Array Value} {t':Nat} (I:Inv X pins σ H s) (hH:H l=some (.lst xs))
  (e:s.heap.get? l=some { cls:=.type "list",data:=.seq its.toArray n }) (hf:f its.toArray=its'.toArray) (hv:bK ys its') (hz:ys.length≤sizeLine) :
  Inv X pins σ (upd H l (.lst ys)) { s with heap:=s.heap.update l (Obj.mapSeq f),toks:=t' }:=by
 have q:=PySem.IsL.update e f;rw [hf] at q;refine I.write (x:=l) (e:=l) (by rw [hH];exact trivial) (.inl rfl) (fun b' u hb hu=>(Heap.get?_update_other s.heap (Obj.mapSeq f) (Ne.symm hb)).trans hu) ⟨_,q⟩ ?_;exact ⟨hz,its',_,hv,q⟩
theorem Inv.Lz {its:List Value} {t':Nat} (I:Inv X pins σ H s) (hv:bK ys its) (hz:ys.length≤sizeLine) :
  Inv X pins σ (upd H s.heap.objs.size (.lst ys)) { s with heap:=s.heap.push { cls:=.type "list",data:=.seq its.toArray },toks:=t' }:=
 I.laid (fun _ _ q=>Heap.get?_push_of_some _ q) (Nat.le_refl _) ⟨hz,its,0,hv,Heap.get?_push_size _ rfl⟩
theorem Inv.fresh (I:Inv X pins σ H s):H s.heap.objs.size=none:=I.hok.fresh (Nat.le_refl _)
theorem Inv.Fe (I:Inv X pins σ H s) (hH:H l=some (.lst xs)):xs.length≤sizeLine∧∃(its:List Value) (n:Nat),bK xs its∧xs.length=its.length∧s.heap.get? l=some { cls:=.type "list",data:=.seq its.toArray n }:=by
 obtain ⟨z,its,n,r,e⟩:=I.hok l _ hH;exact ⟨z,its,n,r,r.length,e⟩
theorem EZ {n:Nat} (h:n≤sizeLine):Builtin.List.listTooLong n=false:=by
 unfold Builtin.List.listTooLong;exact decide_eq_false (by omega)
end
section
variable {X:Cx}
noncomputable def qR:V→List V→Hp→VK→Prop:=fun x vs H Q=>∃l xs y,x = .ref l∧vs=[y]∧H l=some (.lst xs)∧xs.length<sizeLine∧Q .non (upd H l (.lst (xs++[y])))
theorem dM:MtM X "list.append" qR:=by
 intro pins s σ H x vs v us Q I rx rv h;obtain ⟨l,xs,y,rfl,rfl,hH,hz,q⟩:=h
 cases rx
 obtain ⟨u,rfl,ru⟩:=rv.one;obtain ⟨z,its,n,r,hl,e⟩:=I.Fe hH;refine call_meets F.slot_list_append ⟨_,e,rfl⟩ F.entry_list_append (F.args_list_append_2 _ _) (PySem.list_append l its.toArray n u (by rw [List.size_toArray];omega)) ⟨e,?_⟩;refine ⟨.non,_,I.KN (its':=its++[u]) hH e (by simp) (r.append (.cons ru .nil)) ?_,rfl,q⟩;rw [List.length_append,List.length_singleton];omega
noncomputable def B3:V→List V→Hp→VK→Prop:=fun x vs H Q=>∃l b xs zs,x = .ref l∧vs=[.ref b]∧H l=some (.lst xs)∧H b=some (.lst zs)∧xs.length+zs.length≤sizeLine∧Q .non (upd H l (.lst (xs++zs)))
theorem jQ:MtM X "list.extend" B3:=by
 intro pins s σ H x vs v us Q I rx rv h;obtain ⟨l,b,xs,zs,rfl,rfl,hH,hB,hz,q⟩:=h
 cases rx
 obtain ⟨u,rfl,ru⟩:=rv.one
 cases ru
 obtain ⟨z,its,n,r,hl,e⟩:=I.Fe hH;obtain ⟨z2,its2,n2,r2,hl2,e2⟩:=I.Fe hB;have hsz:its.toArray.size+its2.toArray.size≤sizeLine:=by rw [List.size_toArray,List.size_toArray];omega
 have hlong:¬(!its.toArray.isEmpty && Builtin.List.listTooLong (its.toArray.size+its2.toArray.size))=true:=by
  rw [EZ hsz,Bool.and_false];exact Bool.false_ne_true
 refine call_meets F.slot_list_extend ⟨_,e,rfl⟩ F.entry_list_extend (F.args_list_extend_2 _ _)
  (AutoSeq1.list_extend_list_list_0 l its.toArray n b its2.toArray n2 hlong (by rw [List.size_toArray];omega) (by omega)) ⟨e,e2,?_⟩
 refine ⟨.non,_,I.KN (its':=its++its2) hH e (by simp) (r.append r2) ?_,rfl,q⟩;rw [List.length_append];omega
noncomputable def EE:R2:=fun x y H Q=>∃l b xs zs,x = .ref l∧y = .ref b∧H l=some (.lst xs)∧H b=some (.lst zs)∧xs.length+zs.length≤sizeLine∧∀p,H p=none→Q (.ref p) (upd H p (.lst (xs++zs)))
theorem cv:OpR X (binaryOp .Add) EE:=by
 intro pins s σ H x y v u Q I rx ry h;obtain ⟨l,b,xs,zs,rfl,rfl,hH,hB,hz,q⟩:=h
 cases rx
 cases ry
 obtain ⟨z,its,n,r,hl,e⟩:=I.Fe hH;obtain ⟨z2,its2,n2,r2,hl2,e2⟩:=I.Fe hB;refine PySem.P.add_list e e2 ?_ (by rw [List.size_toArray,List.size_toArray];omega);have ea:its.toArray++its2.toArray=(its++its2).toArray:=by simp
 rw [ea];exact ⟨.ref _,_,I.Lz (t':=s.toks) (r.append r2) (by rw [List.length_append];omega),rfl,q _ I.fresh⟩
end
section
variable {prog:Program} {w:World} {A:Around} {E:Value→Shared→Prop} {s:Shared}
set_option maxRecDepth 100000 in
end
section
variable {X:Cx}
end
end L2
namespace L2
open PySem PySem.Spec PyProof.Rows
theorem bK.ints:∀{ns:List Int} {us:List Value},bK (ns.map V.int) us→IntsAre us ns
 | [],us,h=>by
  rw [List.map_nil] at h
  cases h
  exact IntsAre.nil
 | n::ns,us,h=>by
  rw [List.map_cons] at h
  cases h with
  | cons r t =>
   obtain ⟨k,rfl⟩:=r;exact IntsAre.cons n k (bK.ints t)
theorem bK.Kw {a:Addr} {us:List Value} (r:bK [V.ref a] us):us=[Value.ref a]:=by
 cases r with
 | cons r t =>
  cases t
  cases r
  rfl
section
variable {prog:Program} {w:World} {A:Around} {E:Value→Shared→Prop} {s:Shared} {l:Addr} {its:List Value} {ns:List Int} {Q:Value→Shared→Prop}
theorem GI (hh:A.handled=none) (hl:s.heap.IsList l its.toArray) (hi:IntsAre its ns)
  (h:∀h' tk t',(∀b o,s.heap.get? b=some o→h'.get? b=some o)→Q (.int ns.sum t') { s with heap:=h',toks:=tk }):wpAny (model prog w) A (call (.builtin "sum") [.ref l]) Q E s:=by
 obtain ⟨xs,e⟩:=hi.allInts.items;have hn:numsOf (intItems xs).toList=ns:=by rw [←e];exact hi.numsOf
 rw [nums_intItems] at hn;rw [e] at hl;refine PySem.sum_intListG hh hl fun h' tk t' hk=>?_;have:=h h' tk t' hk;rw [preSum_eq,List.take_of_length_le (by simp),hn];exact this
theorem Lu (hh:A.handled=none) (hl:s.heap.IsList l its.toArray) (hi:IntsAre its ns) (hne:0<ns.length)
  (h:∀h' tk M t',(∀b o,s.heap.get? b=some o→h'.get? b=some o)→M∈ns→(∀a,a∈ns→a≤M)→Q (.int M t') { s with heap:=h',toks:=tk }):wpAny (model prog w) A (call (.builtin "max") [.ref l]) Q E s:=by
 obtain ⟨xs,e⟩:=hi.allInts.items;have hn:numsOf (intItems xs).toList=ns:=by rw [←e];exact hi.numsOf
 rw [nums_intItems] at hn;subst hn;rw [e] at hl;have hsz:0<xs.size:=by simpa using hne
 refine PySem.max_intList hh hl hsz fun v h' tk hv hk=>?_;obtain ⟨t,rfl⟩:=intItems_at hv;obtain ⟨h1,h2⟩:=argBest_gt (numAt xs) (xs.size - 1);refine h h' tk _ t hk ?_ fun a ha=>?_
 ·rw [numAt_eq];exact PySem.getD_mem (by rw [List.length_map,Array.length_toList];omega)
 ·obtain ⟨j,hj,rfl⟩:=mem_getD ha
  rw [List.length_map,Array.length_toList] at hj;rw [←numAt_eq];exact h2 j (by omega)
theorem HJ (hh:A.handled=none) (hl:s.heap.IsList l its.toArray) (hi:IntsAre its ns) (hne:0<ns.length)
  (h:∀h' tk M t',(∀b o,s.heap.get? b=some o→h'.get? b=some o)→M∈ns→(∀a,a∈ns→M≤a)→Q (.int M t') { s with heap:=h',toks:=tk }):wpAny (model prog w) A (call (.builtin "min") [.ref l]) Q E s:=by
 obtain ⟨xs,e⟩:=hi.allInts.items;have hn:numsOf (intItems xs).toList=ns:=by rw [←e];exact hi.numsOf
 rw [nums_intItems] at hn;subst hn;rw [e] at hl;have hsz:0<xs.size:=by simpa using hne
 refine PySem.min_intList hh hl hsz fun v h' tk hv hk=>?_;obtain ⟨t,rfl⟩:=intItems_at hv;obtain ⟨h1,h2⟩:=argBest_lt (numAt xs) (xs.size - 1);refine h h' tk _ t hk ?_ fun a ha=>?_
 ·rw [numAt_eq];exact PySem.getD_mem (by rw [List.length_map,Array.length_toList];omega)
 ·obtain ⟨j,hj,rfl⟩:=mem_getD ha
  rw [List.length_map,Array.length_toList] at hj;rw [←numAt_eq];exact h2 j (by omega)
end
section
variable {X:Cx}
noncomputable def Kx (K:PySem.W.Frag):List V→Hp→VK→Prop:=fun vs H Q=>∃(a:Addr) (ns:List Int),vs=[V.ref a]∧SqL K H a (ns.map V.int)∧Q (.int ns.sum) H
noncomputable def Ky (K:PySem.W.Frag):List V→Hp→VK→Prop:=fun vs H Q=>∃(a:Addr) (ns:List Int),vs=[V.ref a]∧SqL K H a (ns.map V.int)∧0<ns.length∧∀m,m∈ns→(∀y,y∈ns→m≤y)→Q (.int m) H
theorem FO (hc:X.calm=true):kJ X (.builtin "sum") (Kx X.K):=by
 intro pins s σ H vs us Q I r h;obtain ⟨a,ns,rfl,hs,q⟩:=h;obtain ⟨its,rv,hl,_⟩:=I.list hs;rw [bK.Kw r];exact GI (I.ok.hd hc) hl.isList rv.ints fun h' tk t' hk=>⟨.int _,H,I.kept hk,⟨_,rfl⟩,q⟩
theorem JS (hc:X.calm=true):kJ X (.builtin "min") (Ky X.K):=by
 intro pins s σ H vs us Q I r h;obtain ⟨a,ns,rfl,hs,hne,q⟩:=h;obtain ⟨its,rv,hl,_⟩:=I.list hs;rw [bK.Kw r];exact HJ (I.ok.hd hc) hl.isList rv.ints hne fun h' tk m t' hk h1 h2=>⟨.int _,H,I.kept hk,⟨_,rfl⟩,q m h1 h2⟩
end
section
variable {X:Cx}
end
section
variable {X:Cx}
end
section
variable {X:Cx}
end
section
variable {X:Cx} {pins:List (Addr×Obj)} {σ:St} {H:Hp} {s:Shared}
end
section
variable {X:Cx}
end
end L2
namespace L2
open PySem PySem.Spec PyProof.Rows
noncomputable abbrev GD (h:Heap) (c:Addr) (v:Option Value):Prop:=h.IsCell c v
noncomputable def Lw (scope sc:Scope):Scope:=
 { scope with names:=scope.names.map fun (n,k)=>if (k == .free && sc.kind == .function && sc.names.lookup n == some .cell) then (n,.cell) else (n,k) }
noncomputable def cC (cells:List (Str×Addr)):List (Str×NameKind)→List (Str×Addr)→List (Str×Addr)
 | [],acc=>acc
 | (n,k)::r,acc=>if k == .free then cC cells r ((n,(cells.lookup n).getD 0)::acc) else cC cells r acc
theorem rB (env:Env) (f:Str×NameKind→List (Str×Addr)→Sem (ForInStep (List (Str×Addr))))
  (hf:∀n k c,f (n,k) c=if k == .free then (do let a ←cellOf env n;pure (.yield ((n,a)::c))) else pure (.yield c)) :
  ∀(names:List (Str×NameKind)) (acc:List (Str×Addr)),(∀y∈names,y.2 = .free→∃c,env.cells.lookup y.1=some c)→forIn names acc f=pure (cC env.cells names acc)
 | [],acc,_=>by rw [List.forIn_nil];rfl
 | (n,k)::r,acc,h=>by
  rw [List.forIn_cons,hf];have ih:=fun acc=>rB env f hf r acc fun y hy=>h y (List.mem_cons_of_mem _ hy);unfold cC;by_cases hk:(k == NameKind.free)=true
  ·rw [if_pos hk,if_pos hk]
   obtain ⟨c,hc⟩:=h (n,k) List.mem_cons_self (by simpa using hk);have e:cellOf env n=pure c:=by unfold cellOf;rw [hc]
   rw [e];have e2:(env.cells.lookup n).getD 0=c:=by rw [hc];rfl
   rw [e2];exact ih _
  ·rw [if_neg hk,if_neg hk]
   exact ih _
theorem Bu {scope:Scope} {env:Env} (h:∀y∈scope.names,y.2 = .free→∃c,env.cells.lookup y.1=some c):closureFor scope env=pure (cC env.cells scope.names []):=by
 simp only [closureFor];rw [rB env _ (fun n k c=>rfl) scope.names [] h];rfl
theorem mem_lookup {α:Type}:∀{l:List (Str×α)} {n:Str} {c:α},(n,c)∈l→∃c',l.lookup n=some c'
 | (k,v)::r,n,c,h=>by
  rw [List.lookup_cons]
  cases hb:n == k with
  | true=>exact ⟨_,rfl⟩
  | false =>
   rcases List.mem_cons.mp h with e | h
   ·cases e;simp at hb
   ·exact mem_lookup h
theorem kI {cells:List (Str×Addr)}:∀{names:List (Str×NameKind)} {acc:List (Str×Addr)} {n:Str} {c:Addr},(n,c)∈cC cells names acc→(n,c)∈acc∨((n,.free)∈names∧c=(cells.lookup n).getD 0)
 | [],_,_,_,h=>.inl h
 | (m,k)::r,acc,n,c,h=>by
  unfold cC at h;split at h
  ·rename_i hk
   have hk:k = .free:=by simpa using hk
   rcases kI h with h | ⟨h1,h2⟩
   ·rcases List.mem_cons.mp h with e | h
    ·cases e;exact .inr ⟨hk▸List.mem_cons_self,rfl⟩
    ·exact .inl h
   ·exact .inr ⟨List.mem_cons_of_mem _ h1,h2⟩
  ·rcases kI h with h | ⟨h1,h2⟩
   ·exact .inl h
   ·exact .inr ⟨List.mem_cons_of_mem _ h1,h2⟩
theorem oN {cells:List (Str×Addr)}:∀{names:List (Str×NameKind)} {acc:List (Str×Addr)} {p:Str×Addr},p∈acc→p∈cC cells names acc
 | [],_,_,h=>h
 | (m,k)::r,acc,p,h=>by
  unfold cC;split
  ·exact oN (List.mem_cons_of_mem _ h)
  ·exact oN h
theorem oM {cells:List (Str×Addr)}:∀{names:List (Str×NameKind)} {acc:List (Str×Addr)} {n:Str},(n,.free)∈names→(n,(cells.lookup n).getD 0)∈cC cells names acc
 | (m,k)::r,acc,n,h=>by
  unfold cC;rcases List.mem_cons.mp h with e | h
  ·cases e
   exact oN List.mem_cons_self
  ·split
   ·exact oM h
   ·exact oM h
theorem lS:∀{names:List (Str×NameKind)} {h:Heap} {acc:List (Str×Addr)} {x:Str} {c:Addr},(x,c)∈cellsFrom h.objs.size names acc→
  (x,c)∈acc∨((x,.cell)∈names∧h.objs.size≤c∧GD (pushCells h names) c none)
 | [],_,_,_,_,h=>.inl h
 | (n,k)::r,h,acc,x,c,hm=>by
  unfold cellsFrom at hm;unfold pushCells;split at hm
  ·rename_i hk
   rw [if_pos hk];have hk:k = .cell:=by simpa using hk
   rw [←Heap.size_push h { cls:=.type "cell",data:=.cell none }] at hm;rcases lS hm with hm | ⟨h1,h2,h3⟩
   ·rcases List.mem_cons.mp hm with e | hm
    ·cases e
     exact .inr ⟨hk▸List.mem_cons_self,Nat.le_refl _,_,pushCells_keeps r _ _ _ (Heap.get?_push_size _ rfl),rfl⟩
    ·exact .inl hm
   ·rw [Heap.size_push] at h2
    exact .inr ⟨List.mem_cons_of_mem _ h1,Nat.le_of_succ_le h2,h3⟩
  ·rename_i hk
   rw [if_neg hk];rcases lS hm with hm | ⟨h1,h2,h3⟩
   ·exact .inl hm
   ·exact .inr ⟨List.mem_cons_of_mem _ h1,h2,h3⟩
theorem pB:∀{names:List (Str×NameKind)} {n:Nat} {acc:List (Str×Addr)} {p:Str×Addr},p∈acc→p∈cellsFrom n names acc
 | [],_,_,_,h=>h
 | (m,k)::r,n,acc,p,h=>by
  unfold cellsFrom;split
  ·exact pB (List.mem_cons_of_mem _ h)
  ·exact pB h
theorem sP:∀{names:List (Str×NameKind)} {n:Nat} {acc:List (Str×Addr)} {x:Str},(x,.cell)∈names→∃c,(x,c)∈cellsFrom n names acc
 | (m,k)::r,n,acc,x,h=>by
  unfold cellsFrom;rcases List.mem_cons.mp h with e | h
  ·cases e
   exact ⟨n,pB List.mem_cons_self⟩
  ·split
   ·exact sP h
   ·exact sP h
theorem sO:∀{names:List (Str×NameKind)} {h:Heap} {acc:List (Str×Addr)} {x y:Str} {c:Addr},(∀p∈acc,p.2<h.objs.size)→(∀x y c,(x,c)∈acc→(y,c)∈acc→x=y)→
  (x,c)∈cellsFrom h.objs.size names acc→(y,c)∈cellsFrom h.objs.size names acc→x=y
 | [],_,_,_,_,_,_,hi,h1,h2=>hi _ _ _ h1 h2
 | (n,k)::r,h,acc,x,y,c,hl,hi,h1,h2=>by
  unfold cellsFrom at h1 h2;split at h1
  ·rename_i hk
   rw [if_pos hk] at h2;rw [←Heap.size_push h { cls:=.type "cell",data:=.cell none }] at h1 h2;refine sO (h:=h.push _) (fun p hp=>?_) (fun x y c a b=>?_) h1 h2
   ·rw [Heap.size_push]
    rcases List.mem_cons.mp hp with rfl | hp
    ·exact Nat.lt_succ_self _
    ·exact Nat.lt_succ_of_lt (hl p hp)
   ·rcases List.mem_cons.mp a with e | a <;> rcases List.mem_cons.mp b with e' | b
    ·cases e;cases e';rfl
    ·cases e;exact absurd (hl _ b) (Nat.lt_irrefl _)
    ·cases e';exact absurd (hl _ a) (Nat.lt_irrefl _)
    ·exact hi _ _ _ a b
  ·rename_i hk
   rw [if_neg hk] at h2;exact sO hl hi h1 h2
theorem zP {M:Model} {A:Around} {E:Value→Shared→Prop} {s:Shared} {scope:Scope} {globals:Addr} {closure:List (Str×Addr)} {qual:Str} {func:Option Addr} {code:Value} {around:Env} {builtins:Addr} {Q:Env→Shared→Prop}
  (h:Q (newEnv scope s.heap.objs.size globals (cellsFrom (s.heap.objs.size+1) scope.names closure) qual func code (some around) builtins)
   { s with heap:=pushCells (s.heap.push { cls:=.type "dict",data:=.dict #[] }) scope.names }) :
  wpAny M A (newFunctionEnv scope globals closure [] qual func code (some around) builtins) Q E s:=by
 simp only [newFunctionEnv,Option.isSome_some,if_true];refine wpAny_bind (wpAny_alloc ?_);refine wpAny_bind (wpAny_layCells _ (fun n k c=>rfl) scope.names closure _ _ ?_);rw [show ({ s with heap:=s.heap.push { cls:=.type "dict",data:=.dict #[] } }:Shared).heap.objs.size=s.heap.objs.size+1 from Heap.size_push ..];rw [List.forIn_nil];exact wpAny_bind (wpAny_pure (wpAny_pure h))
theorem n0 {sc:Scope}:∀{names:List (Str×NameKind)} {x:Str} {k:NameKind},
  (names.map fun (n,k)=>if (k == NameKind.free && sc.kind == .function && sc.names.lookup n == some .cell) then (n,NameKind.cell) else (n,k)).lookup x=some k→
  ∃k',names.lookup x=some k'∧(k=k'∨(k' = .free∧k = .cell))
 | [],_,_,h=>by simp at h
 | (n,k₀)::r,x,k,h=>by
  have ih:=@n0 sc r x k;have h':List.lookup x ((if (k₀ == NameKind.free && sc.kind == .function && sc.names.lookup n == some .cell)=true then (n,NameKind.cell) else (n,k₀))::(r.map _))=some k:=h
  cases hx:x == n with
  | true =>
   simp only [List.lookup_cons,hx];by_cases hc:(k₀ == NameKind.free && sc.kind == .function && sc.names.lookup n == some .cell)=true
   ·rw [if_pos hc] at h'
    simp only [List.lookup_cons,hx] at h'
    cases h'
    simp only [Bool.and_eq_true,beq_iff_eq] at hc;exact ⟨k₀,rfl,.inr ⟨hc.1.1,rfl⟩⟩
   ·rw [if_neg hc] at h'
    simp only [List.lookup_cons,hx] at h'
    cases h'
    exact ⟨_,rfl,.inl rfl⟩
  | false =>
   simp only [List.lookup_cons,hx];by_cases hc:(k₀ == NameKind.free && sc.kind == .function && sc.names.lookup n == some .cell)=true
   ·rw [if_pos hc] at h'
    simp only [List.lookup_cons,hx] at h';exact ih h'
   ·rw [if_neg hc] at h'
    simp only [List.lookup_cons,hx] at h';exact ih h'
structure tN (N:List Str) (sc scope:Scope) (own:List (Str×Nat)):Prop where
 kind:scope.kind = .function
 uniq:∀y∈scope.names,scope.names.lookup y.1=some y.2
 ix:∀p∈own,N[p.2]? = some p.1
 free:∀y∈scope.names,y.2 = .free→sc.names.lookup y.1=some .cell∨sc.names.lookup y.1=some .free
 own:∀y∈scope.names,y.2 = .local∨y.2 = .cell→y.1∈own.map (·.1)∨y.1 ∉ N
noncomputable def wipe (σ:St):List Nat→St
 | []=>σ
 | v::vs=>(wipe σ vs).set v none
theorem nA (σ:St):∀vs:List Nat,(wipe σ vs).length=σ.length
 | []=>rfl
 | v::vs=>by unfold wipe;rw [List.length_set,nA σ vs]
theorem rK {σ:St} {i:Nat} {x:V}:∀{vs:List Nat},(wipe σ vs)[i]? = some (some x)→σ[i]? = some (some x)∧i ∉ vs
 | [],h=>⟨h,by simp⟩
 | v::vs,h=>by
  unfold wipe at h;by_cases hi:v=i
  ·subst hi
   by_cases hv:v<(wipe σ vs).length
   ·rw [List.getElem?_set_self hv] at h;cases h
   ·rw [List.getElem?_eq_none (by simpa using hv)] at h;cases h
  ·rw [List.getElem?_set_ne hi] at h
   obtain ⟨h1,h2⟩:=rK h;exact ⟨h1,by simp only [List.mem_cons,not_or];exact ⟨fun e=>hi e.symm,h2⟩⟩
noncomputable abbrev Cx.blk (X:Cx) (s:Shared) (H:Hp) (scope:Scope) (cenv:Env) (fp:List Addr):Cx:={ X with s_0:=s,H_0:=H,env:=cenv,outer:=X.stack,ex:=fp,fn:=fun x=>scope.names.lookup x == some .cell,pn:=[],xe:=fun _ _=>False }
section
variable {X:Cx} {pins:List (Addr×Obj)} {σ:St} {H:Hp} {s:Shared}
theorem Ar {scope:Scope} {own:List (Str×Nat)} {fp:List Addr} (I:Inv X pins σ H s) (ok:tN X.N X.env.scope scope own) (hN:X.N.Nodup) (hfp:∀b∈fp,w6 X pins H b∧b<s.heap.objs.size) :
  Inv (X.blk s H scope (compEnvC scope (cellsFrom (s.heap.objs.size+1) scope.names (cC X.env.cells scope.names [])) s.heap.objs.size X.env) fp) [] (wipe σ (own.map (·.2))) H { s with heap:=pushCells (s.heap.push { cls:=.type "dict",data:=.dict #[] }) scope.names }:=by
 have hfree:∀y∈scope.names,y.2 = .free→∃c,X.env.cells.lookup y.1=some c:=fun y hy e=>by
  rcases ok.free y hy e with k | k
  ·exact I.ok.has _ (.inl k)
  ·exact I.ok.has _ (.inr k)
 generalize hcenv:compEnvC scope (cellsFrom (s.heap.objs.size+1) scope.names (cC X.env.cells scope.names [])) s.heap.objs.size X.env=cenv;have kp:∀b o,s.heap.get? b=some o→(pushCells (s.heap.push { cls:=.type "dict",data:=.dict #[] }) scope.names).get? b=some o:=fun b o e=>pushCells_keeps _ _ _ _ (Heap.get?_push_of_some _ e);have hL:cenv.locals=s.heap.objs.size:=by rw [←hcenv];rfl
 have hcl:cenv.cells=cellsFrom (s.heap.objs.size+1) scope.names (cC X.env.cells scope.names []):=by rw [←hcenv];rfl
 have hsc:cenv.scope=Lw scope X.env.scope:=by rw [←hcenv];rfl
 rw [←Heap.size_push s.heap { cls:=.type "dict",data:=.dict #[] }] at hcl;have cm:∀{y c},(y,c)∈cC X.env.cells scope.names []→X.env.cells.lookup y=some c∧c<s.heap.objs.size:=fun {y c} hm=>by
  rcases kI hm with hm | ⟨h1,rfl⟩
  ·cases hm
  ·obtain ⟨c,hc⟩:=hfree _ h1 rfl
   rw [hc];obtain ⟨w,z⟩:=I.cell _ _ hc;exact ⟨rfl,z.lt⟩
 have mem:∀{y c},cenv.cells.lookup y=some c→(X.env.cells.lookup y=some c∧c<s.heap.objs.size)∨(s.heap.objs.size+1≤c∧GD (pushCells (s.heap.push { cls:=.type "dict",data:=.dict #[] }) scope.names) c none):=fun {y c} e=>by
  rw [hcl] at e;rcases lS (PySem.mem_of_lookup e) with hm | ⟨_,h2,h3⟩
  ·exact .inl (cm hm)
  ·rw [Heap.size_push] at h2;exact .inr ⟨h2,h3⟩
 have look:∀{y},scope.names.lookup y=some .free→∃c,cenv.cells.lookup y=some c∧X.env.cells.lookup y=some c:=fun {y} hl=>by
  have hy:(y,NameKind.free)∈scope.names:=PySem.mem_of_lookup hl;obtain ⟨c',e'⟩:=mem_lookup (pB (names:=scope.names) (n:=(s.heap.push { cls:=.type "dict",data:=.dict #[] }).objs.size) (oM (cells:=X.env.cells) (acc:=[]) hy));rw [←hcl] at e';refine ⟨c',e',?_⟩;rw [hcl] at e';rcases lS (PySem.mem_of_lookup e') with hm | ⟨h1,_,_⟩
  ·exact (cm hm).1
  ·have:=ok.uniq _ h1
   rw [hl] at this;cases this
 have okB:(X.blk s H scope cenv fp).Ok:=by
  refine ⟨I.ok.mod,by show cenv.scope.kind=_;rw [hsc];exact ok.kind,by show cenv.globals=_;rw [←hcenv];exact I.ok.glob,by show cenv.builtins=_;rw [←hcenv];exact I.ok.blt,by show s.heap.objs.size≤cenv.locals;rw [hL];exact Nat.le_refl _,
   fun y z c e1 e2=>?_,fun y hy=>?_,fun y c z e=>?_,I.ok.hd,I.ok.frames,.inl rfl,fun b hb=>⟨?_,fun y c e z=>?_⟩,I.bs,Nat.le_trans I.ok.bsz I.sz,fun b o e hb=>?_,fun b hb z=>?_,I.stack,I.BU⟩
  ·have e1:cenv.cells.lookup y=some c:=e1
   have e2:cenv.cells.lookup z=some c:=e2;rw [hcl] at e1 e2;refine sO (fun p hp=>?_) (fun y z c a b=>I.ok.inj y z c (cm a).1 (cm b).1) (PySem.mem_of_lookup e1) (PySem.mem_of_lookup e2);rw [Heap.size_push];exact Nat.lt_succ_of_lt (cm (y:=p.1) (c:=p.2) hp).2
  ·show ∃c,cenv.cells.lookup y=some c
   have key:∀k,cenv.kindOf y=some k→(k = .cell∨k = .free)→∃c,cenv.cells.lookup y=some c:=fun k hk hk'=>by
    unfold Env.kindOf at hk;rw [hsc] at hk;obtain ⟨k',e,r⟩:=n0 hk;have:k' = .cell∨k' = .free:=by
     rcases r with rfl | ⟨rfl,_⟩
     ·exact hk'
     ·exact .inr rfl
    rcases this with rfl | rfl
    ·obtain ⟨c,hm⟩:=sP (n:=(s.heap.push { cls:=.type "dict",data:=.dict #[] }).objs.size) (acc:=cC X.env.cells scope.names []) (PySem.mem_of_lookup e)
     obtain ⟨c',e'⟩:=mem_lookup hm;exact ⟨c',by rw [hcl];exact e'⟩
    ·obtain ⟨c,h1,_⟩:=look e
     exact ⟨c,h1⟩
   rcases hy with hy | hy
   ·exact key _ hy (.inl rfl)
   ·exact key _ hy (.inr rfl)
  ·have z:(scope.names.lookup y == some NameKind.cell)=true:=z
   have z:scope.names.lookup y=some .cell:=by simpa using z
   have e:cenv.cells.lookup y=some c:=e;rw [hcl] at e;rcases lS (PySem.mem_of_lookup e) with hm | ⟨_,h2,_⟩
   ·rcases kI hm with hm | ⟨h1,_⟩
    ·cases hm
    ·have q:=ok.uniq _ h1
     rw [z] at q;cases q
   ·rw [Heap.size_push] at h2
    exact Nat.le_of_succ_le h2
  ·show b≠cenv.locals
   rw [hL];exact Nat.ne_of_lt (hfp b hb).2
  ·have e:cenv.cells.lookup y=some c:=e
   rcases mem e with ⟨h1,_⟩ | ⟨h1,_⟩
   ·exact (hfp b hb).1.2.2.2.2.1 y c h1 z
   ·have h2:s.heap.objs.size+1≤b:=by rw [←z];exact h1
    exact absurd (Nat.lt_of_lt_of_le (hfp b hb).2 (Nat.le_of_succ_le h2)) (Nat.lt_irrefl _)
  ·rcases (hfp b hb).1.2.2.2.1 with z | z
   ·exact I.ok.E6 b o e z
   ·exact absurd (Nat.lt_of_lt_of_le (Heap.lt_size e) (Nat.le_trans I.ok.bsz z)) (Nat.lt_irrefl _)
  ·rcases List.mem_cons.mp (I.AM b z) with z | z
   ·exact (hfp b hb).1.2.1 z
   ·exact (hfp b hb).1.2.2.1 z
 refine ⟨okB,rfl,I.bare,Un.kept kp,⟨fun _=>none,?_,fun i y av e1 e2 e3=>?_⟩,fun y c e=>?_,?_,fun y c e=>?_,fun p hp=>?_,I.hok.kept kp,by rw [nA];exact I.len⟩
 ·show Heap.Ns _ cenv.locals _
  rw [hL];exact Heap.Ns.keeps (Heap.Ns.new ..) fun b o e=>pushCells_keeps _ _ _ _ e
 ·obtain ⟨e2,hne⟩:=rK e2
  have hfr:scope.names.lookup y=some .free∧(cenv.kindOf y=some .cell∨cenv.kindOf y=some .free):=by
   have key:∀k,cenv.scope.names.lookup y=some k→k = .local∨k = .cell∨k = .free→scope.names.lookup y=some .free∧(cenv.kindOf y=some .cell∨cenv.kindOf y=some .free):=fun k hk hk'=>by
    have hk0:=hk;rw [hsc] at hk;obtain ⟨k',e,r⟩:=n0 hk;have no:¬(k' = .local∨k' = .cell):=fun hh=>by
     rcases ok.own _ (PySem.mem_of_lookup e) hh with e' | e'
     ·obtain ⟨p,hp,hpy⟩:=List.mem_map.mp e'
      have e3:=ok.ix p hp;have:p.1=y:=hpy;rw [this] at e3;exact hne (List.mem_map.mpr ⟨p,hp,vv hN e3 e1⟩)
     ·exact e' (List.mem_of_getElem? e1)
    rcases r with rfl | ⟨rfl,rfl⟩
    ·rcases hk' with rfl | rfl | rfl
     ·exact absurd (.inl rfl) no
     ·exact absurd (.inr rfl) no
     ·exact ⟨e,.inr hk0⟩
    ·exact ⟨e,.inl hk0⟩
   have e3:Vis cenv.scope y:=e3;rcases e3 with e3 | e3 | e3
   ·exact key _ e3 (.inl rfl)
   ·exact key _ e3 (.inr (.inl rfl))
   ·exact key _ e3 (.inr (.inr rfl))
  obtain ⟨m,hn,hl⟩:=I.loc;have hvis:Vis X.env.scope y:=(ok.free _ (PySem.mem_of_lookup hfr.1) rfl).elim (fun k=>.inr (.inl k)) (fun k=>.inr (.inr k));obtain ⟨w,r,q⟩:=hl i y av e1 e2 hvis;refine ⟨w,r,.inr ⟨hfr.2,?_⟩⟩;obtain ⟨c,h1,h2⟩:=look hfr.1;rcases q with ⟨k,_⟩ | ⟨_,c',e',z⟩
  ·have k:X.env.scope.names.lookup y=some .local:=k
   rcases ok.free _ (PySem.mem_of_lookup hfr.1) rfl with k' | k' <;> rw [show X.env.scope.names.lookup y=_ from k'] at k <;> cases k
  ·rw [h2] at e';cases e'
   exact ⟨c,h1,z.keeps kp⟩
 ·have e:cenv.cells.lookup y=some c:=e
  rcases mem e with ⟨h1,_⟩ | ⟨_,z⟩
  ·obtain ⟨w,z⟩:=I.cell y c h1
   exact ⟨w,z.keeps kp⟩
  ·exact ⟨_,z⟩
 ·show H cenv.locals=none
  rw [hL];exact I.hok.fresh (Nat.le_refl _)
 ·have e:cenv.cells.lookup y=some c:=e
  rcases mem e with ⟨h1,_⟩ | ⟨h1,_⟩
  ·exact I.lP y c h1
  ·exact I.hok.fresh (Nat.le_of_succ_le h1)
 ·exact absurd (show p∈([]:List (Addr×Obj))++[] from hp) (by simp)
theorem Kg {E:Value→Shared→Prop} {D:Addr} {xs:List V} {y:V} {v:Value} {Q:Value→Shared→Prop} (I:Inv X pins σ H s) (hD:H D=some (.lst xs)) (hz:xs.length<sizeLine) (r:RelV y v)
  (h:∀s',Inv X pins σ (upd H D (.lst (xs++[y]))) s'→Q .none s'):wpAny (model X.prog X.w) X.A (call (.builtin "list.append") [.ref D,v]) Q E s:=by
 obtain ⟨hz',its,n,ri,e⟩:=I.hok D _ hD;have hl:=ri.length;refine append_at (hsz:=by rw [List.size_toArray];omega) e fun h' sb ho'=>?_;refine h { s with heap:=h' } (I.write (t':=s.toks) (by rw [hD];trivial) (.inl rfl) (fun b u hb q=>(sb.2 b hb).trans q) ⟨_,ho'⟩ ⟨by rw [List.length_append];exact hz,its++[v],n+1,ri.append (.cons r .nil),?_⟩);rw [ho'];simp
noncomputable def PTs (X:Cx) (ifs:List Expr) (t:TT):Prop:=
 ∀(pins:List (Addr×Obj)) (s:Shared) (σ:St) (H:Hp) (Q:Bool→Hp→Prop),Inv X pins σ H s→t σ H Q→
  wpAny (model X.prog X.w) X.A (forIn ifs true fun c r=>if r=true then do let ok ←isTrue c X.env (eval c X.env);pure (ForInStep.yield ok) else pure (ForInStep.yield r)) (TP X pins σ Q) X.xe s
noncomputable def IZ:TT:=fun _ H Q=>Q true H
theorem Hq:PTs X [] IZ:=fun _ _ _ H _ I h=>wpAny_tests_nil ⟨H,I,h⟩
theorem x8 {c:Expr} {t:TT} (h:PT X c t):PTs X [c] t:=fun pins s σ H Q I hw=>wpAny_tests_one (h pins s σ H Q I hw)
end
theorem CM {α:Type} {t:Sem α} {Q Q':α→Shared→Prop} {M:Model} {A:Around} {E:Value→Shared→Prop} {s:Shared} (h:wpAny M A t Q (fun _ _=>False) s) (hQ:∀a s,Q a s→Q' a s):wpAny M A t Q' E s:=wpAny_mono h hQ fun _ _ z=>False.elim z
theorem yF {prog:Program} {w:World} {A:Around} {R:Result→Shared→Prop} {s:Shared} {elt target iter:Expr} {ifs:List Expr} {scope:Scope} {pos:Pos} {it acc:Value} {env:Env} (I:Nat→Shared→Prop)
  (turn:∀n s,I n s→wpAny (model prog w) A (pyNext it) (fun r s₁=>match r with
   | none=>R (.ok .next) s₁
   | some v=>wpAny (model prog w) A (letOwnedTupleGo target it v) (fun _ s₁'=>wpAny (model prog w) A (assign target env v) (fun _ s₂ =>
     wpAny (model prog w) A (forIn ifs true fun c r=>if r=true then do let ok ←isTrue c env (eval c env);pure (ForInStep.yield ok) else pure (ForInStep.yield r)) (fun ok s₃ =>
      if ok=true then wpAny (model prog w) A (eval elt env) (fun x s₄ =>
       wpAny (model prog w) A (call (.builtin "list.append") [acc,x]) (fun _ s₅=>∃m,m<n∧I m s₅) (notedBy (model prog w) A env fun e s'=>R (.error e) s') s₄) (notedBy (model prog w) A env fun e s'=>R (.error e) s') s₃
      else ∃m,m<n∧I m s₃) (notedBy (model prog w) A env fun e s'=>R (.error e) s') s₂) (notedBy (model prog w) A env fun e s'=>R (.error e) s') s₁') (notedBy (model prog w) A env fun e s'=>R (.error e) s') s₁) (notedBy (model prog w) A env fun e s'=>R (.error e) s') s)
  (n:Nat) (h:I n s) :
  codeAny (model prog w) A (.compLoop (.ListComp elt [⟨target,iter,ifs,0⟩] scope pos) 0 it acc env) R s:=by
 refine codeAny_loop rfl I (fun n s hI=>?_) n h;show wpAny _ A ((compTurn (.ListComp elt [⟨target,iter,ifs,0⟩] scope pos) 0 it acc env).onRaise (fun x=>do noteFrame x env;theTreesLotGoes x)) _ _ s;refine wpAny_noted ?_;rw [compTurn_list];refine wpAny_bind (wpAny_standAt (wpAny_bind (wpAny_mono (turn n s hI) (fun r s₁ h₁=>?_) fun _ _ h'=>h')))
 cases r with
 | none=>exact wpAny_pure h₁
 | some v =>
  refine wpAny_bind (wpAny_mono h₁ (fun _ s₁' h₁'=>?_) fun _ _ h'=>h');refine wpAny_bind (wpAny_mono h₁' (fun _ s₂ h₂=>wpAny_bind (wpAny_mono h₂ (fun ok s₃ h₃=>?_) fun _ _ h'=>h')) fun _ _ h'=>h')
  cases ok with
  | false=>exact wpAny_pure ⟨rfl,h₃⟩
  | true =>
   exact wpAny_bind (wpAny_bind (wpAny_mono h₃ (fun x s₄ h₄=>wpAny_bind (wpAny_mono h₄ (fun _ s₅ h₅=>wpAny_pure (wpAny_pure ⟨rfl,h₅⟩)) fun _ _ h'=>h')) fun _ _ h'=>h'))
section
variable {X:Cx}
noncomputable def tLc (wi:TI) (g:TG) (tt:TT) (te:TE) (vs:List Nat):TE:=fun σ H Q=>wi σ H fun J H1=>∀D,H1 D=none→∃W:Nat→Nat→Hp→Prop,(∃m,W 0 m (upd H1 D (.lst [])))∧∀i m H,W i m H→
 (J.stop i H∧Q (.ref D) H)∨(J.go i H∧∃Nx:Hp→Prop,(∀H',Nx H'→∃m',m'<m∧W (i+1) m' H')∧∀x H',J.yld i H x H'→g x (wipe σ vs) H' fun σ2 H2=>wipe σ2 vs=wipe σ vs∧tt σ2 H2 fun b H3 =>
  if b=true then te σ2 H3 fun y H4=>∃acc,H4 D=some (.lst acc)∧acc.length<sizeLine∧Nx (upd H4 D (.lst (acc++[y]))) else Nx H3)
theorem Cg {pins:List (Addr×Obj)} {s:Shared} {σ:St} {H:Hp} {Q:VK} {elt tg iter:Expr} {ifs:List Expr} {scope:Scope} {own:List (Str×Nat)} {pos pos':Pos} {wi:TI} {g:TG} {tt:TT} {te:TE} {use:Option (Value→Sem Unit)} {Qf:Value→Shared→Prop}
  (hc:X.calm=true) (hN:X.N.Nodup) (I:Inv X pins σ H s) (hi:PI X tg iter wi) (ok:tN X.N X.env.scope scope own)
  (hg:∀(s:Shared) (H:Hp) (C:Addr) (cl:List (Str×Addr)) (fp:List Addr),PG (X.blk s H scope (compEnvC scope cl C X.env) fp) tg g) (ht:∀(s:Shared) (H:Hp) (C:Addr) (cl:List (Str×Addr)) (fp:List Addr),PTs (X.blk s H scope (compEnvC scope cl C X.env) fp) ifs tt)
  (he:∀(s:Shared) (H:Hp) (C:Addr) (cl:List (Str×Addr)) (fp:List Addr),PE (X.blk s H scope (compEnvC scope cl C X.env) fp) elt te) (hs:∀x,foldedSetIterable iter X.env x=pure x)
  (h:tLc wi g tt te (own.map (·.2)) σ H Q)
  (hRR:∀D C s' m H',Inv X pins σ H' s'→Q (.ref D) H'→s'.heap.Ns C m→w6 X pins H' C→compPost (model X.prog X.w) X.A X.xe use Qf (.ref D) C (.ok .next) s') :
  wpAny (model X.prog X.w) X.A (comprehension (.ListComp elt [⟨tg,iter,ifs,0⟩] scope pos) scope X.env pos' (newList []) false (eval iter X.env) use) Qf X.xe s:=by
 have hfree:∀y∈scope.names,y.2 = .free→∃c,X.env.cells.lookup y.1=some c:=fun y hy e=>by
  rcases ok.free y hy e with k | k
  ·exact I.ok.has _ (.inl k)
  ·exact I.ok.has _ (.inr k)
 refine wpAny_comprehension_free (use:=use) rfl hs (Bu hfree) ok.kind (fun y hy e=>by rw [ok.uniq y hy,e])
  (thn (hi pins s σ H _ I h) fun xv s1 hx=>thn hx fun itv s2 h2=>?_)
 obtain ⟨it,fp,tn,J,H2,e,I2,T,st2,f2,q⟩:=h2;subst e;refine wpAny_newObj_type (zP ?_) (by show 0≤sizeLine;decide);generalize hD:s2.heap.objs.size=D;have hDn:H2 D=none:=I2.hok.fresh (Nat.le_of_eq hD);obtain ⟨W,⟨m0,w0⟩,turn⟩:=q D hDn
 -- the new list
 generalize hs3:({ s2 with heap:=s2.heap.push { cls:=.type "list",data:=.seq ([]:List Value).toArray } }:Shared)=s3;have I3:Inv X pins σ (upd H2 D (.lst [])) s3:=by
  rw [←hs3];refine I2.laid (t':=s2.toks) (fun b o e=>Heap.get?_push_of_some _ e) (Nat.le_of_eq hD) ⟨Nat.zero_le _,[],0,.nil,?_⟩;rw [←hD];exact Heap.get?_push_size _ rfl
 have h3:s3.heap=s2.heap.push { cls:=.type "list",data:=.seq ([]:List Value).toArray }:=by rw [←hs3]
 have sz:∀b∈fp,b<s2.heap.objs.size:=fun b hb=>by
  obtain ⟨o,e,_⟩:=T.obj _ _ st2 b hb;exact Heap.lt_size e
 have f3:∀b∈fp,w6 X pins (upd H2 D (.lst [])) b∧b<s3.heap.objs.size:=fun b hb=>by
  have hlt:=sz b hb;refine ⟨⟨?_,(f2 b hb).2⟩,by rw [h3,Heap.size_push];exact Nat.lt_succ_of_lt hlt⟩;rw [aD (by rw [←hD];exact Nat.ne_of_lt hlt)];exact (f2 b hb).1
 have st3:tn 0 s3.heap:=T.keep _ _ _ st2 fun b _ o e=>by rw [h3];exact Heap.get?_push_of_some _ e
 have I4:=Ar I3 ok hN f3;have pg:=hg s3 (upd H2 D (.lst [])) s3.heap.objs.size (cellsFrom (s3.heap.objs.size+1) scope.names (cC X.env.cells scope.names [])) fp;have pt:=ht s3 (upd H2 D (.lst [])) s3.heap.objs.size (cellsFrom (s3.heap.objs.size+1) scope.names (cC X.env.cells scope.names [])) fp;have pe:=he s3 (upd H2 D (.lst [])) s3.heap.objs.size (cellsFrom (s3.heap.objs.size+1) scope.names (cC X.env.cells scope.names [])) fp;show codeAny _ _ (.compStart (.ListComp elt [⟨tg,iter,ifs,0⟩] scope pos) 0 (.ref it) (.ref D) (compEnvC scope (cellsFrom (s3.heap.objs.size+1) scope.names (cC X.env.cells scope.names [])) s3.heap.objs.size X.env)) (compPost (model X.prog X.w) X.A X.xe use Qf (.ref D) s3.heap.objs.size) { s3 with heap:=pushCells (s3.heap.push { cls:=.type "dict",data:=.dict #[] }) scope.names };have nfp:∀b∈fp,(upd H2 D (.lst [])) b=none:=fun b hb=>(f3 b hb).1.1;generalize hce:compEnvC scope (cellsFrom (s3.heap.objs.size+1) scope.names (cC X.env.cells scope.names [])) s3.heap.objs.size X.env=ce at I4 pg pt pe ⊢;have cL:ce.locals=s3.heap.objs.size:=by subst hce;rfl
 generalize hH3:upd H2 D (.lst [])=H3 at I3 I4 pg pt pe w0 nfp f3;generalize hs4:({ s3 with heap:=pushCells (s3.heap.push { cls:=.type "dict",data:=.dict #[] }) scope.names }:Shared)=s4 at I4 ⊢;have st4:tn 0 s4.heap:=T.keep _ _ _ st3 fun b _ o e=>by rw [←hs4];exact pushCells_keeps _ _ _ _ (Heap.get?_push_of_some _ e)
 have stat:∀{σ':St} {H':Hp} {s':Shared},Inv (X.blk s3 H3 scope ce fp) [] σ' H' s'→(∀b∈fp,H' b=none)→∀b∈fp,w6 (X.blk s3 H3 scope ce fp) [] H' b:=fun {σ' H' s'} I' hn b hb =>
  ⟨hn b hb,(I'.ok.exf b hb).1,I'.ok.Fz b hb,.inl hb,fun x c e=>(I'.ok.exf b hb).2 x c e,fun p hp=>absurd (show p∈([]:List (Addr×Obj))++[] from hp) (by simp)⟩
 have loop:codeAny (model X.prog X.w) X.A (.compLoop (.ListComp elt [⟨tg,iter,ifs,0⟩] scope pos) 0 (.ref it) (.ref D) ce) (compPost (model X.prog X.w) X.A X.xe use Qf (.ref D) s3.heap.objs.size) s4:=by
  refine yF (fun n s'=>∃i H',Inv (X.blk s3 H3 scope ce fp) [] (wipe σ (own.map (·.2))) H' s'∧tn i s'.heap∧(∀b∈fp,H' b=none)∧W i n H') ?_ m0 ⟨0,H3,I4,st4,nfp,w0⟩;rintro n s5 ⟨i,H5,I5,st5,n5,w5⟩;rcases turn i n H5 w5 with ⟨stop,qq⟩ | ⟨go,Nx,hNx,step⟩
  ·have td:=T.done (X.blk s3 H3 scope ce fp) rfl rfl rfl hc i [] s5 _ H5 (fun _ _=>False) I5 (stat I5 n5) st5 stop
   refine CM td fun r s6 ⟨hr,I6⟩=>?_;subst hr
   -- back in the def's context
   have I7:Inv X pins σ H5 s6:=I3.K0 (ch:=fp) I6.os I6.base I6.hok I6.bare fun b hb=>⟨(f3 b hb).1.2.2.2.1,(f3 b hb).1.2.1,(f3 b hb).1.2.2.2.2.1,(f3 b hb).1.2.2.2.2.2⟩;have nC:H5 s3.heap.objs.size=none:=by
    have z:H5 ce.locals=none:=I6.free;rw [cL] at z;exact z
   obtain ⟨m,hn,_⟩:=I6.loc;have hn:s6.heap.Ns ce.locals m:=hn;rw [cL] at hn;exact hRR D s3.heap.objs.size s6 m H5 I7 qq hn (I3.Fq (Nat.le_refl _) nC)
  ·have ti:=T.item (X.blk s3 H3 scope ce fp) rfl rfl rfl hc i [] s5 _ H5 (fun _ _=>False) I5 (stat I5 n5) st5 go
   refine CM ti fun r s6 ⟨u,hr,h6⟩=>?_;subst hr;refine CM h6 fun _ s7 ⟨x,H7,I7,r7,y7,st7,n7⟩=>?_;have I7':=I7.pinned (stat I7 n7) (T.obj _ _ st7);refine CM (pg _ s7 _ H7 x u _ I7' r7 (step x H7 y7)) fun _ s8 ⟨σ8,H8,I8,hw8,q8⟩=>?_;refine CM (pt _ s8 σ8 H8 _ I8 q8) fun b s9 ⟨H9,I9,q9⟩=>?_
   -- the turn's end
   have fin:∀{s':Shared} {H':Hp},Inv (X.blk s3 H3 scope ce fp) ([]++vc fp s7.heap) σ8 H' s'→Nx H'→∃m,m<n∧∃i H',Inv (X.blk s3 H3 scope ce fp) [] (wipe σ (own.map (·.2))) H' s'∧tn i s'.heap∧(∀b∈fp,H' b=none)∧W i m H':=fun {s' H'} I' nx=>by
    obtain ⟨m',hm,w'⟩:=hNx H' nx;have pin':∀b∈fp,∀o,s7.heap.get? b=some o→s'.heap.get? b=some o∧H' b=none:=fun b hb o e =>
     let z:=I'.pin (b,o) (List.mem_append_right _ (List.mem_append_right _ (qf hb e)))
     ⟨z.1,z.2.1⟩
    have hl:(wipe σ (own.map (·.2))).length=σ8.length:=by rw [←hw8,nA]
    refine ⟨m',hm,i+1,H',(I'.qC (pins:=[])).weak hl (fun j v e=>?_),T.keep _ _ _ st7 fun b hb o e=>(pin' b hb o e).1,fun b hb=>?_,w'⟩
    ·rw [←hw8] at e
     exact (rK e).1
    ·obtain ⟨o,e,_⟩:=T.obj _ _ st7 b hb
     exact (pin' b hb o e).2
   cases b with
   | false =>
    simp only [Bool.false_eq_true,if_false] at q9 ⊢;exact fin I9 q9
   | true =>
    simp only [if_true] at q9 ⊢;refine CM (pe _ s9 σ8 H9 _ I9 q9) fun z s10 ⟨yv,H10,I10,r10,acc,hD10,hz10,nx⟩=>?_;exact Kg (X:=X.blk s3 H3 scope ce fp) I10 hD10 hz10 r10 fun s11 I11=>fin I11 nx
 exact codeAny_compStart_list loop (T.self X.A 0 _ _ _ st4 loop)
theorem IM {elt tg iter:Expr} {ifs:List Expr} {scope:Scope} {own:List (Str×Nat)} {pos:Pos} {wi:TI} {g:TG} {tt:TT} {te:TE} (hc:X.calm=true) (hN:X.N.Nodup) (hi:PI X tg iter wi) (ok:tN X.N X.env.scope scope own)
  (hg:∀(s:Shared) (H:Hp) (C:Addr) (cl:List (Str×Addr)) (fp:List Addr),PG (X.blk s H scope (compEnvC scope cl C X.env) fp) tg g) (ht:∀(s:Shared) (H:Hp) (C:Addr) (cl:List (Str×Addr)) (fp:List Addr),PTs (X.blk s H scope (compEnvC scope cl C X.env) fp) ifs tt)
  (he:∀(s:Shared) (H:Hp) (C:Addr) (cl:List (Str×Addr)) (fp:List Addr),PE (X.blk s H scope (compEnvC scope cl C X.env) fp) elt te) (hs:∀x,foldedSetIterable iter X.env x=pure x:=by intro _;rfl) :
  PE X (.ListComp elt [⟨tg,iter,ifs,0⟩] scope pos) (tLc wi g tt te (own.map (·.2))):=by
 intro pins s σ H Q I h;rw [eval_ListComp];refine Cg hc hN I hi ok hg ht he hs h fun D C s' m H' I' q hn f=>⟨m,hn,fun h'' sb=>?_⟩;obtain ⟨f0,f1,f2,f3,f4,f5⟩:=f;exact ⟨.ref D,H',I'.turned (t':=s'.toks) (fun b o hb e=>(sb.2 b hb).trans e) f0 f1 f3 f4 f5,rfl,q⟩
theorem zx {i:Nat} {y:Str} {py:Pos} {elt tg iter:Expr} {ifs:List Expr} {scope:Scope} {own:List (Str×Nat)} {pos spos:Pos} {wi:TI} {g:TG} {tt:TT} {te:TE} (hc:X.calm=true) (hN:X.N.Nodup) (hy:X.N[i]? = some y) (hyl:X.env.scope.names.lookup y=some .local)
  (hsw:swapsWith (.ListComp elt [⟨tg,iter,ifs,0⟩] scope pos) (some (.Name y py)) spos.line X.env=pure true) (hi:PI X tg iter wi) (ok:tN X.N X.env.scope scope own)
  (hg:∀(s:Shared) (H:Hp) (C:Addr) (cl:List (Str×Addr)) (fp:List Addr),PG (X.blk s H scope (compEnvC scope cl C X.env) fp) tg g) (ht:∀(s:Shared) (H:Hp) (C:Addr) (cl:List (Str×Addr)) (fp:List Addr),PTs (X.blk s H scope (compEnvC scope cl C X.env) fp) ifs tt)
  (he:∀(s:Shared) (H:Hp) (C:Addr) (cl:List (Str×Addr)) (fp:List Addr),PE (X.blk s H scope (compEnvC scope cl C X.env) fp) elt te) (hs:∀x,foldedSetIterable iter X.env x=pure x:=by intro _;rfl) :
  PS X (.Assign [.Name y py] (.ListComp elt [⟨tg,iter,ifs,0⟩] scope pos) spos) (uJ (tLc wi g tt te (own.map (·.2))) (da i)):=by
 intro pins s σ H D I h;rw [exec_Assign_Name_used _ _ _ _ hsw];refine wpAny_bind (wpAny_standAt (wpAny_bind ?_));show wpAny _ X.A (do let _ ←comprehension (.ListComp elt [⟨tg,iter,ifs,0⟩] scope pos) scope X.env (firstIterPos [⟨tg,iter,ifs,0⟩] pos) (newList []) false (eval iter X.env) (some (assign (.Name y py) X.env))) _ _ s;have h:tLc wi g tt te (own.map (·.2)) σ H (fun x H1=>da i x σ H1 D.nx):=h;refine wpAny_bind (thn (Cg (Qf:=fun _ s'=>SP X pins D .next s') hc hN I hi ok hg ht he hs h fun L C s' m H' I' q hn f=>?_) fun _ s' hq=>wpAny_pure (wpAny_pure hq));show wpAny _ _ (assign (.Name y py) X.env (.ref L)) _ _ _;refine wpAny_assign_Name (xc (v:=V.ref L) I' hN hy (.inl hyl) rfl (fun s2 I2 ⟨a,sb,ha⟩=>?_) (.inr hyl));obtain ⟨f0,f1,f2,f3,f4,f5⟩:=f;have haC:C≠a:=by
  rcases ha with z | z
  ·rw [z];exact f1
  ·exact fun e=>f4 y a z e.symm
 refine ⟨m,hn.sameBut sb haC,fun h3 sb3=>?_⟩;exact ⟨_,H',I2.turned (t':=s2.toks) (fun b o hb e=>(sb3.2 b hb).trans e) f0 f1 f3 f4 f5,q⟩
end
end L2
namespace L2
open PySem PySem.Spec PyProof.Rows
section
variable {prog:Program} {w:World} {A:Around} {R:Result→Shared→Prop} {s:Shared} {elt t0 i0 t1 i1:Expr} {ifs0 ifs1:List Expr} {scope:Scope} {pos:Pos} {it acc:Value} {env:Env}
end
section
variable {X:Cx}
end
end L2
namespace L2
open PySem PySem.Spec PyProof.Rows
section
variable {κ:Type} [DecidableEq κ]
noncomputable def GF (kvs:List (κ×V)) (k:κ):Option V:=(kvs.find? fun kv=>decide (kv.1=k)).map (·.2)
noncomputable def putK (kvs:List (κ×V)) (k:κ) (v:V):List (κ×V):=
 if (kvs.any fun kv=>decide (kv.1=k))=true then kvs.map (fun kv=>if kv.1=k then (kv.1,v) else kv) else kvs++[(k,v)]
noncomputable def IS (kvs:List (κ×V)) (k:κ):List (κ×V):=kvs.filter fun kv=>decide (kv.1≠k)
theorem KV.any {kvs:List (κ×V)} {vs:List (κ×Value)} (r:KV kvs vs) (k:κ):(kvs.any fun kv=>decide (kv.1=k))=vs.any fun kv=>decide (kv.1=k):=by
 unfold KV at r
 induction r with
 | nil=>rfl
 | cons h t ih=>rw [List.any_cons,List.any_cons,ih,h.1]
theorem KV.drop {kvs:List (κ×V)} {vs:List (κ×Value)} (r:KV kvs vs) (k:κ):KV (IS kvs k) (without vs k):=by
 unfold KV at r ⊢;unfold IS without
 induction r with
 | nil=>exact .nil
 | @cons p q ps qs h t ih =>
  obtain ⟨h1,h2⟩:=h;rw [List.filter_cons,List.filter_cons];by_cases e:p.1=k
  ·have a:¬decide (p.1≠k)=true:=by simp [e]
   have b:¬decide (q.1≠k)=true:=by simp [h1.symm.trans e]
   rw [if_neg a,if_neg b];exact ih
  ·have e':¬q.1=k:=fun z=>e (h1.trans z)
   have a:decide (p.1≠k)=true:=by simp [e]
   have b:decide (q.1≠k)=true:=by simp [e']
   rw [if_pos a,if_pos b];exact .cons ⟨h1,h2⟩ ih
theorem KV.length {kvs:List (κ×V)} {vs:List (κ×Value)} (r:KV kvs vs):kvs.length=vs.length:=Paired.length r
end
theorem KQ {P:Program} {w:World} {k:Key} {u:Value} (r:RelV (kV k) u):(kD P w).is k u=true:=by
 cases k with
 | inl i=>obtain ⟨t,e⟩:=(show ∃t,u=Value.int i t from r);subst e;exact zS P w i t
 | inr x=>obtain ⟨t,e⟩:=(show ∃t,u=Value.str x t from r);subst e;exact zR P w x t
section
variable {P:Program} {w:World} {H:Hp} {h:Heap} {a:Addr}
end
noncomputable def ID (H:Hp) (a:Addr) (y:V) (r:Option V):Prop:=
 (∃kvs k,Rd H a (.dK kvs)∧y=kV k∧r=GF kvs k)∨∃kvs k b,Rd H a (.dT kvs)∧y = .ref b∧H b=some (.tup (k.map kV))∧r=GF kvs k
noncomputable def IC (H:Hp) (a:Addr) (y v:V) (H':Hp):Prop:=
 (∃kvs k,H a=some (.dK kvs)∧y=kV k∧kvs.length<sizeLine∧H'=upd H a (.dK (putK kvs k v)))∨
 ∃kvs k b,H a=some (.dT kvs)∧y = .ref b∧H b=some (.tup (k.map kV))∧kvs.length<sizeLine∧H'=upd H a (.dT (putK kvs k v))
theorem ID.k {H:Hp} {a:Addr} {kvs:List (Key×V)} {k:Key} (e:H a=some (.dK kvs)):ID H a (kV k) (GF kvs k):=.inl ⟨kvs,k,.inl e,rfl,rfl⟩
theorem ID.t {H:Hp} {a b:Addr} {kvs:List (List Key×V)} {k:List Key} (e:H a=some (.dT kvs)) (eb:H b=some (.tup (k.map kV))):ID H a (.ref b) (GF kvs k):=.inr ⟨kvs,k,b,.inl e,rfl,eb,rfl⟩
theorem IC.k {H:Hp} {a:Addr} {kvs:List (Key×V)} {k:Key} {v:V} (e:H a=some (.dK kvs)) (hl:kvs.length<sizeLine):IC H a (kV k) v (upd H a (.dK (putK kvs k v))):=.inl ⟨kvs,k,e,rfl,hl,rfl⟩
theorem IC.t {H:Hp} {a b:Addr} {kvs:List (List Key×V)} {k:List Key} {v:V} (e:H a=some (.dT kvs)) (eb:H b=some (.tup (k.map kV))) (hl:kvs.length<sizeLine) :
  IC H a (.ref b) v (upd H a (.dT (putK kvs k v))):=.inr ⟨kvs,k,b,e,rfl,eb,hl,rfl⟩
section
variable {X:Cx} {pins:List (Addr×Obj)} {σ:St} {H:Hp} {s:Shared} {a:Addr} {y v:V} {u r:Value} {o:Option V} {A:Around} {E:Value→Shared→Prop}
theorem uw {h':Heap} {t':Nat} {ob:HO} (I:Inv X pins σ H s) (mu:Mut (H a)) (hs:Heap.SameBut a s.heap h') (he:∃q,h'.get? a=some q) (new:jn X.prog X.w (upd H a ob) h' a ob) :
  Inv X pins σ (upd H a ob) { s with heap:=h',toks:=t' }:=
 I.write (x:=a) (e:=a) mu (.inl rfl) (fun b q hb z=>(hs.2 b hb).trans z) he new
end
section
variable {X:Cx} {pins:List (Addr×Obj)} {σ:St} {H:Hp} {s:Shared} {a:Addr} {kvs:List (Key×V)} {k:Key} {u:Value} {A:Around} {E:Value→Shared→Prop}
end
noncomputable def Lq (i:Expr):Prop:=∀ov iv,subscripted i false ov iv=operate [ov,iv] (getItem ov iv)
theorem GJ {prog:Program} {w:World} {A:Around} {E:Value→Shared→Prop} {s:Shared} {env:Env} {value slice:Expr} {pos:Pos} {T id:String} {Q:Value→Shared→Prop}
  (hl:typeLookup (.type T) "__getitem__" = pure (some (.builtin id))) (hs:Lq slice)
  (h:wpAny (model prog w) A (eval value env) (fun o s₁=>wpAny (model prog w) A (eval slice env) (fun i s₂=>s₂.TypeIs o T∧wpAny (model prog w) A (getItem o i) Q E s₂) E s₁) E s) :
  wpAny (model prog w) A (eval (.Subscript value slice pos) env) Q E s:=by
 refine Subscript_ (wpAny_mono h (fun o s₁ h₁=>wpAny_mono h₁ (fun i s₂ h₂=>?_) fun _ _ x=>x) fun _ _ x=>x);obtain ⟨hT,h₂⟩:=h₂;unfold subscriptTail;refine wpAny_bind ?_;rw [getitemInPython_of_ne hT.not_modules];refine wpAny_bind (wpAny_specialOf hT hl ?_);have fin:wpAny (model prog w) A (subscripted slice false o i) (fun r s₃=>wpAny (model prog w) A (letTemporaryGo value o r >>= fun _=>pure r) Q E s₃) E s₂:=by
  rw [hs o i];exact wpAny_operating (wpAny_mono h₂ (fun r s₃ h₃=>wpAny_bind (wpAny_letTemporaryGo (wpAny_pure h₃))) fun _ _ x=>x)
 first
  | exact wpAny_pure (wpAny_bind fin)
  | exact wpAny_bind (wpAny_pure (wpAny_bind fin))
  | exact wpAny_bind fin
section
variable {X:Cx} {o i e value:Expr} {pos pos' tpos:Pos} {td ty tv:TE}
end
section
variable {X:Cx} {pos:Pos}
end
section
variable {X:Cx} {pins:List (Addr×Obj)} {σ:St} {H:Hp} {s:Shared} {a:Addr} {y d:V} {u r:Value} {o:Option V} {A:Around} {E:Value→Shared→Prop}
end
section
variable {X:Cx} {o e f:Expr} {apos cpos:Pos} {td ty tx:TE}
end
section
variable {X:Cx} {pins:List (Addr×Obj)} {σ:St} {H:Hp} {s:Shared} {a:Addr} {kvs:List (Key×V)} {A:Around} {E:Value→Shared→Prop}
end
section
variable {X:Cx} {pins:List (Addr×Obj)} {σ:St} {H:Hp} {s:Shared} {a:Addr} {y:V} {u:Value} {A:Around} {E:Value→Shared→Prop}
end
end L2
namespace L2
open PySem PySem.Spec PyProof.Rows
section
variable {prog:Program} {w:World} {A:Around} {E:Value→Shared→Prop}
end
section
variable {X:Cx}
end
end L2
namespace L2
open PySem PySem.Spec PyProof.Rows
section
variable {X:Cx} {pins:List (Addr×Obj)} {σ:St} {H:Hp} {s:Shared} {h':Heap}
theorem Inv.lock {d:Addr} {u:HO} (I:Inv X pins σ H s) (h:H d=some u) (mu:Mut (some u)):∃od,Inv X pins σ (upd H d (.frz od u)) s:=by
 have x:=I.hok d u h;have ex:∃od,s.heap.get? d=some od:=by
  cases u with
  | lst xs=>obtain ⟨_,_,_,_,e⟩:=x;exact ⟨_,e⟩
  | dK kvs=>obtain ⟨_,_,_,_,o,_,_,e,_⟩:=x;exact ⟨o,e⟩
  | dT kvs=>obtain ⟨_,_,_,_,o,_,_,e,_⟩:=x;exact ⟨o,e⟩
  | set S n=>obtain ⟨o,_,_,_,e,_⟩:=x;exact ⟨o,e⟩
  | ins C dx fs=>obtain ⟨_,_,_,e,_⟩:=x;exact ⟨_,e⟩
  | ext φ=>obtain ⟨_,⟨_,e⟩,_⟩:=x;exact ⟨_,e⟩
  | _=>exact False.elim mu
 obtain ⟨od,e⟩:=ex;have new:jn X.prog X.w (upd H d (.frz od u)) s.heap d (.frz od u):=by
  refine ⟨e,x.qI (fun b v _ q=>q) (fun b q=>?_) fun b xs q=>?_⟩
  ·rw [aD (fun z=>by rw [z,h] at q;cases q;exact mu)];exact q
  ·rw [aD (fun z=>by rw [z,h] at q;cases q;exact mu)];exact q
 exact ⟨od,I.write (x:=d) (e:=d) (t':=s.toks) (h':=s.heap) (by rw [h];exact mu) (.inl rfl) (fun b v _ q=>q) ⟨od,e⟩ new⟩
theorem Inv.zM {d:Addr} {u:HO} (I:Inv X pins σ H s) (h:H d=some u) (mu:Mut (some u)):∀o' u',X.H_0 d≠some (.frz o' u'):=fun o' u' e=>by
 have q:=I.base.rj d o' u' e;rw [h] at q
 cases q
 exact mu
theorem Inv.unlock {d:Addr} {od:Obj} {u:HO} (I:Inv X pins σ H s) (h:H d=some (.frz od u)) (hn:∀o' u',X.H_0 d≠some (.frz o' u')):Inv X pins σ (upd H d u) s:=by
 have neH:∀b o,H b=some o→(∀o' u',o≠.frz o' u')→b≠d:=fun b o e hne z=>by
  rw [z,h] at e
  cases e
  exact hne _ _ rfl
 have neN:∀b,H b=none→b≠d:=fun b e z=>by rw [z,h] at e;cases e
 refine ⟨I.ok,I.os,I.bare,⟨I.base.keep,I.base.slot,fun b o e n hx=>?_,I.base.there,fun b xs e=>?_,fun b o x e=>?_,fun b ps e=>?_⟩,I.loc,I.cell,?_,fun x c e=>?_,fun p hp=>?_,fun b o e=>?_,I.len⟩
 ·rw [aD (neN b (I.base.free b o e n hx))];exact I.base.free b o e n hx
 ·have q:=I.base.tO b xs e
  rw [aD (neH b _ q (fun _ _ z=>nomatch z))];exact q
 ·have q:=I.base.rj b o x e
  rw [aD (fun z=>by rw [z] at e;exact hn _ _ e)];exact q
 ·obtain ⟨m,q⟩:=I.base.tP b ps e
  exact ⟨m,by rw [aD (neH b _ q (fun _ _ z=>nomatch z))];exact q⟩
 ·rw [aD (neN _ I.free)];exact I.free
 ·rw [aD (neN c (I.lP x c e))];exact I.lP x c e
 ·obtain ⟨e,n,r⟩:=I.pin p hp
  exact ⟨e,by rw [aD (neN _ n)];exact n,r⟩
 ·by_cases hb:b=d
  ·rw [hb,aG] at e
   cases e
   rw [hb];obtain ⟨_,x⟩:=I.hok d _ h;exact x.qI (fun c v _ q=>q) (fun c q=>by rw [aD (neH c _ q (fun _ _ z=>nomatch z))];exact q) fun c xs q=>by rw [aD (neH c _ q (fun _ _ z=>nomatch z))];exact q
  ·rw [aD hb] at e
   exact (I.hok b o e).qI (fun c v _ q=>q) (fun c q=>by rw [aD (neH c _ q (fun _ _ z=>nomatch z))];exact q) fun c xs q=>by rw [aD (neH c _ q (fun _ _ z=>nomatch z))];exact q
end
noncomputable def Kt (t:TS):TS:=fun D σ H=>∃d u,H d=some u∧Mut (some u)∧∀od,t ⟨fun σ' H'=>H' d=some (.frz od u)∧D.nx σ' (upd H' d u),fun v H'=>H' d=some (.frz od u)∧D.rt v (upd H' d u),fun σ' H'=>H' d=some (.frz od u)∧D.bk σ' (upd H' d u),fun σ' H'=>H' d=some (.frz od u)∧D.ct σ' (upd H' d u)⟩ σ (upd H d (.frz od u))
noncomputable def Jc (t:TE):TE:=fun σ H Q=>∃d u,H d=some u∧Mut (some u)∧∀od,t σ (upd H d (.frz od u)) fun v H'=>H' d=some (.frz od u)∧Q v (upd H' d u)
section
variable {X:Cx}
theorem Hs {st:Stmt} {t:TS} (h:PS X st t):PS X st (Kt t):=by
 intro pins s σ H D I hw;obtain ⟨d,u,hd,mu,hw⟩:=hw;obtain ⟨od,I1⟩:=I.lock hd mu;refine thn (h pins s σ _ _ I1 (hw od)) fun f s1 q=>?_
 cases f with
 | next=>obtain ⟨σ',H',I2,e,q⟩:=q;exact ⟨σ',_,I2.unlock e (I.zM hd mu),q⟩
 | brk=>obtain ⟨σ',H',I2,e,q⟩:=q;exact ⟨σ',_,I2.unlock e (I.zM hd mu),q⟩
 | cont=>obtain ⟨σ',H',I2,e,q⟩:=q;exact ⟨σ',_,I2.unlock e (I.zM hd mu),q⟩
 | ret v=>obtain ⟨x,σ',H',I2,r,e,q⟩:=q;exact ⟨x,σ',_,I2.unlock e (I.zM hd mu),r,q⟩
theorem Ht {e:Expr} {t:TE} (h:PE X e t):PE X e (Jc t):=by
 intro pins s σ H Q I hw;obtain ⟨d,u,hd,mu,hw⟩:=hw;obtain ⟨od,I1⟩:=I.lock hd mu;refine thn (h pins s σ _ _ I1 (hw od)) fun v s1 ⟨x,H1,I2,r,e2,q⟩=>?_;exact ⟨x,_,I2.unlock e2 (I.zM hd mu),r,q⟩
theorem Jv {tg:Expr} {pins:List (Addr×Obj)} {σ:St} {H:Hp} {s:Shared} {R:It→Hp→Prop} {J:It} {tn:Nat→Heap→Prop} {tk:Nat} (I:Inv X pins σ H s) (o:Obj)
  (T:Turn X.prog X.w X.K tg J [s.heap.objs.size] s.heap.objs.size tn) (st:tn 0 (s.heap.push o)) (q:R J H):PIE X pins σ tg R (.ref s.heap.objs.size) { s with heap:=s.heap.push o,toks:=tk }:=by
 refine ⟨s.heap.objs.size,[s.heap.objs.size],tn,J,H,rfl,I.kept fun b ob e=>Heap.get?_push_of_some _ e,T,st,fun b hb=>?_,q⟩;have e:b=s.heap.objs.size:=by simpa using hb
 subst e;exact I.Fq (Nat.le_refl _) (I.hok.fresh (Nat.le_refl _))
end
noncomputable def Itc (lo c:Int) (n:Nat):It:=⟨fun i _=>i<n,fun i H x H'=>H'=H∧x = .int (lo+(i:Nat)*c),fun i _=>n≤i⟩
theorem y9 {P:Program} {w:World} {K:PySem.W.Frag} {tg:Expr} (it:Addr) (lo c:Int) (n:Nat):Turn P w K tg (Itc lo c n) [it] it (fun i h=>IsRangeIter h it (lo+(i:Nat)*c) ((n:Int) - (i:Nat)) c) where
 mem:=by simp
 obj:=fun i h st b hb=>by
  have e:b=it:=by simpa using hb
  subst e;exact ⟨_,st,fun v z=>nomatch z⟩
 keep:=fun i h h' st k=>k it (by simp) _ st
 item:=by
  intro X hP hw hK hc i pins s σ H E I hf st hg;subst hP hw hK;obtain ⟨f0,f1,f2,f3,f4,f5⟩:=hf it (by simp);have W:=Walks.range (prog:=X.prog) (w:=X.w) (I.ok.hd hc) it lo c n;refine W.item i s _ _ hg st fun v h' tk hv st' kk=>?_;obtain ⟨t,rfl⟩:=hv;have I1:Inv X pins σ H { s with heap:=h',toks:=tk }:=I.turned (fun b o hb e=>kk b o (by simpa using hb) e) f0 f1 f3 f4 f5;exact ⟨_,rfl,Cj (s:={ s with heap:=h',toks:=tk }) (n := "range_iterator") st' rfl rfl (by decide) ⟨.int (lo+(i:Nat)*c),H,I1,⟨t,rfl⟩,⟨rfl,rfl⟩,st',fun b hb=>(hf b hb).1⟩⟩
 done:=by
  intro X hP hw hK hc i pins s σ H E I hf st hg;subst hP hw hK;obtain ⟨f0,f1,f2,f3,f4,f5⟩:=hf it (by simp);exact wpAny_pyNext_range_end (I.ok.hd hc) st (by have:n≤i:=hg;omega) fun h' eb=>⟨rfl,I.turned (t':=s.toks) (fun b o hb e=>eb b o hb e) f0 f1 f3 f4 f5⟩
 self:=fun A i s Q E st h=>wpAny_pyIter_rangeiter st h
noncomputable def RgC (i j c:Int) (n:Nat):Prop:=c≠0∧c.natAbs<1073741824∧Builtin.Range.small i j c=true∧Builtin.Range.rangeSize i j c=n
noncomputable def Fk (ta:TA):TI:=fun σ H R=>ta σ H fun vs H1=>∃(i j c:Int) (n:Nat),vs=[.int i,.int j,.int c]∧RgC i j c n∧R (Itc i c n) H1
section
variable {X:Cx} {tg:Expr}
theorem Df {a b c:Expr} {ta:TA} {p pos:Pos} (hg:Gl X "range") (hm:X.mg "range" = none) (ha:PA X [a,b,c] ta)
  (hs:starEach [a,b,c] X.env=(false,eval a X.env)::starEach [b,c] X.env:=by rfl) (hpl:(backTo pos (starEach [b,c] X.env)).any (·.1)=false:=by rfl) :
  PI X tg (.Call (.Name "range" p) [a,b,c] [] pos) (Fk ta):=by
 intro pins s σ H R I h;refine Call_ (Bg I hg hm boot_range (PyProof.Rows.callWith_type1 (thn (ha pos pins s σ H _ I h) fun us s1 ⟨vs,H1,I1,r1,q1⟩=>?_) hs hpl));obtain ⟨i,j,k,n,e,⟨c0,c1,c2,c3⟩,q⟩:=q1;subst e
 cases r1 with
 | cons r rr =>
  cases rr with
  | cons r' rr =>
   cases rr with
   | cons r'' rr =>
    cases rr
    obtain ⟨t,rfl⟩:=r;obtain ⟨t',rfl⟩:=r';obtain ⟨t'',rfl⟩:=r'';refine call_range_3 c0 ?_ (.inl (PyProof.noPylong_small c1));refine wpAny_pyIter_range (IsRange.new ..) c2 ?_;have I2:Inv X pins σ H1 { s1 with heap:=s1.heap.push { cls:=.type "range",data:=.fields #[.int i t,.int j t',.int k t''] } }:=I1.kept (t':=s1.toks) fun b o e=>Heap.get?_push_of_some _ e;refine Jv (tk:=s1.toks) I2 _ (y9 _ i k n) ?_ q;have e1:i+((0:Nat):Int)*k=i:=by simp
    have e2:(n:Int) - ((0:Nat):Int)=Builtin.Range.rangeSize i j k:=by rw [c3];simp
    show IsRangeIter _ _ (i+((0:Nat):Int)*k) ((n:Int) - ((0:Nat):Int)) k;rw [e1,e2];exact Heap.get?_push_size _ rfl
end
theorem Bm {lo c:Int} {n:Nat} {g:TG} {tb:TS} {D:Ends} {σ:St} {H:Hp} (Pv:Nat→St→Hp→Prop) (h0:Pv 0 σ H)
  (hs:∀i σ H,i<n→Pv i σ H→g (.int (lo+(i:Nat)*c)) σ H fun σ2 H2=>tb { D with nx:=Pv (i+1),ct:=Pv (i+1),bk:=D.nx } σ2 H2) (hd:∀σ H,Pv n σ H→D.nx σ H) :
  ∃W:Nat→Nat→St→Hp→Prop,(∃m,W 0 m σ H)∧∀i m σ H,W i m σ H→
   ((Itc lo c n).stop i H∧D.nx σ H)∨((Itc lo c n).go i H∧∃N:St→Hp→Prop,(∀σ' H',N σ' H'→∃m',m'<m∧W (i+1) m' σ' H')∧∀x H',(Itc lo c n).yld i H x H'→g x σ H' fun σ2 H2=>tb { D with nx:=N,ct:=N,bk:=D.nx } σ2 H2):=by
 refine ⟨fun i m σ H=>m=n - i∧i≤n∧Pv i σ H,⟨n,by simp,Nat.zero_le _,h0⟩,?_⟩;rintro i m σ H ⟨rfl,hi,p⟩;by_cases hlt:i<n
 ·refine .inr ⟨hlt,Pv (i+1),fun σ' H' p'=>⟨n - (i+1),by omega,rfl,hlt,p'⟩,fun x H' y=>?_⟩
  obtain ⟨e,y⟩:=y;subst e y;exact hs i σ _ hlt p
 ·have e:i=n:=by omega
  subst e;exact .inl ⟨Nat.le_refl _,hd σ H p⟩
section
variable {X:Cx} {tg:Expr}
end
section
variable {prog:Program} {w:World} {A:Around} {E:Value→Shared→Prop} {s:Shared}
end
section
variable {X:Cx} {pins:List (Addr×Obj)} {σ:St} {H:Hp} {s:Shared} {d:Addr} {o:Obj}
end
section
variable {P:Program} {w:World} {K:PySem.W.Frag} {tg:Expr} {d:Addr} {o:Obj} {es:Array DictEntry} {ep:Nat}
end
section
variable {X:Cx} {tg e:Expr} {td:TE} {apos cpos:Pos}
end
end L2
section 
namespace Bits
open PySem PyProof.Rows
end Bits
end 
section 
namespace TL
open PySem PySem.Builtin PySem.Builtin.Str PySem.StrLaws
noncomputable abbrev tl (x:Str):List Nat:=x.cps.toList
theorem JE (x:Str):x.length=(tl x).length:=by simp [tl,Str.length]
noncomputable def pre (S l:List Nat):Bool:=l.take S.length == S
noncomputable def par (S:List Nat):List Nat→List Nat→Option (List Nat×List Nat)
 | _,[]=>none
 | acc,c::r=>if pre S (c::r)=true then some (acc,(c::r).drop S.length) else par S (acc++[c]) r
theorem Fg {y:Str} (hy:tl y≠[]):1≤y.length:=by
 have e2:0<(tl y).length:=List.length_pos_iff.mpr hy;rw [JE y];exact e2
end TL
end 
namespace L2
open PySem PySem.Spec PyProof.Rows
section
variable {X:Cx} {pins:List (Addr×Obj)} {σ:St} {H:Hp} {s:Shared} {Q:VK}
end
section
variable {X:Cx}
end
section
variable {X:Cx} {o e:Expr} {to te:TE}
end
end L2
namespace L2
open PySem PySem.Spec PyProof.Rows
section
variable {X:Cx}
end
end L2
namespace Att
open PySem PySem.W PySem.Calls PyProof.Rows
section
variable {prog:Program} {w:World} {A:Around} {E:Value→Shared→Prop} {s:Shared} {K:Frag}
end
end Att
namespace L2
open PySem PySem.Spec PyProof.Rows
end L2
namespace L2
open PySem PySem.Spec PyProof.Rows
end L2
namespace L2
open PySem PySem.Spec PyProof.Rows
noncomputable def inClass (s:Stmt) (j:Nat):Stmt:=match s with
 | .ClassDef _ _ _ body _ _ _ _ _ _ _=>body.getD j (.Pass ⟨0,0,0,0⟩)
 | _=>.Pass ⟨0,0,0,0⟩
noncomputable def fG (s:Stmt):Arguments:=match s with
 | .FunctionDef _ a _ _ _ _ _ _ _ _=>a
 | _=>{ posonlyargs:=[],args:=[],vararg:=none,kwonlyargs:=[],kw_defaults:=[],kwarg:=none,defaults:=[] }
noncomputable def eG (s:Stmt):List Stmt:=match s with
 | .FunctionDef _ _ b _ _ _ _ _ _ _=>b
 | _=>[]
noncomputable def bB (s:Stmt):Scope:=match s with
 | .FunctionDef _ _ _ _ _ _ sc _ _ _=>sc
 | _=>{ kind:=.function,names:=[],isGenerator:=false,isCoroutine:=false }
noncomputable abbrev CX0:CXT:=fun _ _ _ _ _ _=>False
noncomputable abbrev E0:XK:=fun _ _ _=>False
theorem tm {X:Cx}:oR CX0 X E0:=fun _ _ _ _ _ _ _ h=>h.elim
structure Fun (K:PySem.W.Frag) (x qual:Str) (st:Stmt) (f:Addr) (fd:FuncData):Prop where
 ex:∃(oc:Value) (od:Option Addr) (kV doc pm:Value) (an:Option Addr) (cdv ct:Value) (osl:Array (Option Value)),
  fd=PySem.W.fnOf x qual (fG st) (eG st) (bB st) .none kV doc pm an cdv ct∧K.lookup f=some ⟨oc,od,.func fd,osl⟩∧PySem.W.codeIn K cdv qual=true
 kp:PySem.W.keepIn K (.ref f)=true
section
variable {P:Program} {w:World} {K:PySem.W.Frag} {mg:Str→Option Value} {base:Heap}
theorem Fun.ok {x qual:Str} {st:Stmt} {f:Addr} {fd:FuncData} {N ps:List Str} {k:Nat} {sp:Sp} (F:Fun K x qual st f fd) (S:mV N ps (bB st)) (len:∀vs H Q E,sp vs H Q E→vs.length=ps.length)
  (hbody:∀(cdv:Value) (A:Around) (outer:List Env) (s:Shared) (H:Hp) (vs:List V) (Q:VK) (E:XK),ij k (A.deeper (envOfC qual (bB st) s.heap.objs.size f cdv))→sp vs H Q E→
   ∃t,PSs (Aj CX0 P w K mg base N qual (bB st) f cdv A outer s H E).nox (eG st) t∧t { nx:=fun _ H'=>Q .non H',rt:=Q } (start N vs) H):oS P w K mg base CX0 (k+1) f fd ps sp:=by
 obtain ⟨oc,od,kV,doc,pm,an,cdv,ct,osl,rfl,lk,hcd⟩:=F.ex;refine Fu lk hcd S len fun A outer s H vs Q E hr hsp=>?_;obtain ⟨t,h,q⟩:=hbody cdv A outer s H vs Q E hr hsp;exact ⟨t,h.nox,q⟩
theorem Fun.binds {x qual:Str} {st:Stmt} {f:Addr} {fd:FuncData} {ps:List Str} (F:Fun K x qual st f fd)
  (h:∀(kV doc pm:Value) (an:Option Addr) (cdv ct:Value) (us:List Value),us.length=ps.length→bindArgs (PySem.W.fnOf x qual (fG st) (eG st) (bB st) .none kV doc pm an cdv ct) ⟨us,[]⟩=pure (ps.zip us)):Binds K fd ps []:=by
 obtain ⟨oc,od,kV,doc,pm,an,cdv,ct,osl,rfl,lk,hcd⟩:=F.ex;exact .all (h kV doc pm an cdv ct)
end
section
variable {X:Cx}
theorem pv (i:Nat) {x:Str} {pos:Pos} (hN:X.N[i]? = some x:=by rfl) (hv:Vis X.env.scope x:=by first | exact Or.inl rfl | exact Or.inr (Or.inl rfl) | exact Or.inr (Or.inr rfl)) (hd:(x == ("__debug__" : Str))=false:=by decide)
  (hcd:(x == ("__classdict__" : Str))=false:=by decide):PE X (.Name x pos) (aR i):=AZ hN hv hd hcd
end
noncomputable def aF (H H':Hp):Prop:=∀b o,H b=some o→H' b=some o
theorem aF.refl (H:Hp):aF H H:=fun _ _ h=>h
theorem aF.trans {H H1 H2:Hp} (a:aF H H1) (b:aF H1 H2):aF H H2:=fun c o h=>b c o (a c o h)
theorem aF.free {H H':Hp} (e:aF H H') {l:Addr} (h:H' l=Option.none):H l=Option.none:=by
 cases q:H l with
 | none=>rfl
 | some o =>
  rw [e l o q] at h
  cases h
section
variable {κ:Type} [DecidableEq κ]
end
end L2
section
set_option Elab.async false
set_option linter.all false
set_option maxRecDepth 100000
set_option maxHeartbeats 2000000
namespace L2
open PySem PySem.Spec PyProof.Rows
open PySem.W (WData Codec OpenSpec Well WellAll ReadsW ReadsAllW)
mutual
/-- x stands for the datum d,lists and tuples all the way -/
inductive Dw (K:PySem.W.Frag) (H:Hp):V→WData→Prop
 | non:Dw K H .non .none
 | bl (b:Bool):Dw K H (.bl b) (.bool b)
 | int (i:Int):Dw K H (.int i) (.int i)
 | str (x:Str):Dw K H (.str x) (.str x)
 | byt (b:Array UInt8):Dw K H (.byt b) (.bytes b.toList)
 | lst {a:Addr} {xs:List V} {ds:List WData}:SqL K H a xs→oT K H xs ds→Dw K H (.ref a) (.list ds)
 | tup {a:Addr} {xs:List V} {ds:List WData}:SqT K H a xs→oT K H xs ds→Dw K H (.ref a) (.tuple ds)
inductive oT (K:PySem.W.Frag) (H:Hp):List V→List WData→Prop
 | nil:oT K H [] []
 | cons {v:V} {vs:List V} {d:WData} {ds:List WData}:Dw K H v d→oT K H vs ds→oT K H (v::vs) (d::ds)
end
theorem Ck {K:PySem.W.Frag} {H:Hp}:∀ns:List Int,oT K H (ns.map V.int) (ns.map WData.int)
 | []=>.nil
 | n::r=>.cons (.int n) (Ck r)
theorem Ci {K:PySem.W.Frag} {H:Hp}:∀(ns:List Int) (xs:List V),oT K H xs (ns.map WData.int)→xs=ns.map V.int
 | [],xs,h=>by
  cases h
  rfl
 | n::r,xs,h=>by
  cases h with
  | cons h1 h2 =>
   cases h1
   rw [Ci r _ h2] <;> rfl
section
variable {P:Program} {w:World} {K:PySem.W.Frag} {H:Hp} {h:Heap} {R:PySem.W.WRecords} {cl:Str→Option Addr}
theorem Jh {a:Addr} {xs:List V} (hok:HOk P w H h) (KX:K.In h) (q:SqL K H a xs):∃(its:List Value) (o:Obj) (n:Nat),bK xs its∧h.get? a=some o∧o.cls = .type "list" ∧ o.data = .seq its.toArray n:=by
 rcases q with q | ⟨o,its,n,e,hc,_,hd,_,hv⟩
 ·obtain ⟨_,its,n,hv,e⟩:=(show jn P w H h a (.lst xs) from q.ok hok)
  exact ⟨its,_,n,hv,e,rfl,rfl⟩
 ·exact ⟨its.toList,o,n,hv,KX _ _ e,hc,by simp [hd]⟩
theorem Jg {a:Addr} {xs:List V} (hok:HOk P w H h) (KX:K.In h) (q:SqT K H a xs):∃(its:List Value) (o:Obj) (n:Nat),bK xs its∧h.get? a=some o∧o.cls = .type "tuple" ∧ o.data = .seq its.toArray n:=by
 rcases q with q | ⟨o,its,n,e,hc,hd,_,hv⟩
 ·obtain ⟨_,its,hv,o,e,hc,n,hd⟩:=(show jn P w H h a (.tup xs) from q.ok hok)
  exact ⟨its,o,n,hv,e,hc,hd⟩
 ·exact ⟨its.toList,o,n,hv,KX _ _ e,hc,by simp [hd]⟩
mutual
theorem Dw.reads (hok:HOk P w H h) (KX:K.In h):∀(d:WData) (v:V) (u:Value),Dw K H v d→RelV v u→∃as,ReadsW R cl h u d as
 | .none,_,_,x,r=>by
  cases x
  cases r
  exact ⟨_,ReadsW.none⟩
 | .bool b,_,_,x,r=>by
  cases x
  cases r
  exact ⟨_,ReadsW.bool b⟩
 | .int i,_,_,x,r=>by
  cases x
  obtain ⟨t,rfl⟩:=r;exact ⟨_,ReadsW.int i t⟩
 | .str s,_,_,x,r=>by
  cases x
  obtain ⟨t,rfl⟩:=r;exact ⟨_,ReadsW.str s t⟩
 | .bytes b,_,_,x,r=>by
  cases x
  obtain ⟨t,rfl⟩:=r;exact ⟨_,ReadsW.bytes _ t⟩
 | .list ds,_,_,x,r=>by
  cases x with
  | lst hs ha =>
   cases r
   obtain ⟨its,o,n,rv,ho,hc,hd⟩:=Jh hok KX hs;obtain ⟨as,hr⟩:=Dw.readsAll hok KX ds _ its ha rv;exact ⟨_,ReadsW.list ho hc hd hr⟩
 | .tuple ds,_,_,x,r=>by
  cases x with
  | tup hs ha =>
   cases r
   obtain ⟨its,o,n,rv,ho,hc,hd⟩:=Jg hok KX hs;obtain ⟨as,hr⟩:=Dw.readsAll hok KX ds _ its ha rv;exact ⟨_,ReadsW.tuple ho hc hd hr⟩
 | .float _,_,_,x,_=>by cases x
 | .dict _,_,_,x,_=>by cases x
 | .bytearray _,_,_,x,_=>by cases x
 | .set _,_,_,x,_=>by cases x
 | .frozenset _,_,_,x,_=>by cases x
 | .obj _ _,_,_,x,_=>by cases x
theorem Dw.readsAll (hok:HOk P w H h) (KX:K.In h):∀(ds:List WData) (vs:List V) (us:List Value),oT K H vs ds→bK vs us→∃as,ReadsAllW R cl h us ds as
 | [],_,_,x,r=>by
  cases x
  cases r
  exact ⟨_,ReadsAllW.nil⟩
 | d::ds,_,_,x,r=>by
  cases x with
  | cons h1 h2 =>
   cases r with
   | cons r1 r2 =>
    obtain ⟨as,q1⟩:=Dw.reads hok KX d _ _ h1 r1;obtain ⟨bs,q2⟩:=Dw.readsAll hok KX ds _ _ h2 r2;exact ⟨_,ReadsAllW.cons q1 q2⟩
end
end
mutual
/-- data that a codec tells -/
def plW:WData→Bool
 | .none=>true
 | .bool _=>true
 | .int _=>true
 | .str _=>true
 | .bytes _=>true
 | .list xs=>tZ xs
 | .tuple xs=>tZ xs
 | _=>false
def tZ:List WData→Bool
 | []=>true
 | x::r=>plW x && tZ r
end
theorem zz {α:Type} {f:α→WData} (h:∀a,plW (f a)=true):∀l:List α,tZ (l.map f)=true
 | []=>rfl
 | x::r=>by
  show (plW (f x) && tZ (r.map f))=true;rw [h x,zz h r] <;> rfl
theorem nQ:∀(c:Codec) (a:c.denote),plW (c.enc a)=true
 | .unit,_=>rfl
 | .bool,_=>rfl
 | .int _ _,_=>rfl
 | .nat _ _,_=>rfl
 | .u8,_=>rfl
 | .bytes _ _,_=>rfl
 | .text _ _ _ _,_=>rfl
 | .list _ _ c,a=>zz (fun x=>nQ c x) a
 | .pair c d,a=>by
  show (plW (c.enc a.1) && (plW (d.enc a.2) && true))=true;rw [nQ c a.1,nQ d a.2] <;> rfl
 | .triple c d e,a=>by
  show (plW (c.enc a.1) && (plW (d.enc a.2.1) && (plW (e.enc a.2.2) && true)))=true;rw [nQ c a.1,nQ d a.2.1,nQ e a.2.2] <;> rfl
 | .option c,none=>rfl
 | .option c,some x=>nQ c x
theorem xl:∀(cs:List Codec) (a:Codec.denoteAll cs),tZ (Codec.encAll cs a)=true
 | [],_=>rfl
 | c::cs,a=>by
  show (plW (c.enc a.1) && tZ (Codec.encAll cs a.2))=true;rw [nQ c a.1,xl cs a.2] <;> rfl
theorem pN:∀{xs:List WData} {d:WData},d∈xs→d.weight≤WData.weightAll xs
 | [],d,h=>absurd h (by simp)
 | x::r,d,h=>by
  show d.weight≤x.weight+1+WData.weightAll r;rcases List.mem_cons.mp h with e | m
  ·rw [e]
   omega
  ·have z:=pN m
   omega
noncomputable def toV:Value→V
 | .none=>.non
 | .bool b=>.bl b
 | .int i _=>.int i
 | .str x _=>.str x
 | .bytes b _=>.byt b
 | .ref a=>.ref a
 | _=>.non
noncomputable def OkU (A:List Addr):Value→Prop
 | .none=>True
 | .bool _=>True
 | .int _ _=>True
 | .str _ _=>True
 | .bytes _ _=>True
 | .ref a=>a∈A
 | _=>False
theorem OkU.mono {A B:List Addr} (h:∀a∈A,a∈B):∀{u:Value},OkU A u→OkU B u:=fun {u} x=>by
 cases u with
 | ref a=>exact h a x
 | none=>trivial
 | bool b=>trivial
 | int i t=>trivial
 | str s t=>trivial
 | bytes b t=>trivial
 | _=>exact False.elim x
theorem Ez {A:List Addr} {u:Value} (x:OkU A u):RelV (toV u) u:=by
 cases u with
 | ref a=>rfl
 | none=>rfl
 | bool b=>rfl
 | int i t=>exact ⟨t,rfl⟩
 | str s t=>exact ⟨t,rfl⟩
 | bytes b t=>exact ⟨t,rfl⟩
 | _=>exact False.elim x
theorem ls {A:List Addr}:∀{vs:List Value},(∀u∈vs,OkU A u)→bK (vs.map toV) vs
 | [],_=>.nil
 | u::r,h=>.cons (Ez (h u (List.mem_cons_self ..))) (ls fun x hx=>h x (List.mem_cons_of_mem _ hx))
noncomputable def nj (h:Heap) (A:List Addr) (a:Addr):Prop:=∃vs:List Value,vs.length≤sizeLine∧(∀u∈vs,OkU A u)∧
 (h.get? a=some { cls:=.type "list",data:=.seq vs.toArray }∨h.get? a=some { cls:=.type "tuple",data:=.seq vs.toArray })
theorem nj.mono {h:Heap} {A B:List Addr} {a:Addr} (k:∀a∈A,a∈B) (x:nj h A a):nj h B a:=by
 obtain ⟨vs,h1,h2,h3⟩:=x;exact ⟨vs,h1,fun u hu=>(h2 u hu).mono k,h3⟩
theorem km {P:Params} {h:Heap}:∀{vs:List Value} {ds:List WData},WellAll P h vs ds→vs.length=ds.length
 | _,_,.nil=>rfl
 | _,_,.cons _ b=>by
  show _+1=_+1;rw [km b]
theorem w8 {P:Params} {h:Heap} {v:Value} {ds:List WData} (x:Well P h v (.list ds)):∃(a:Addr) (vs:List Value),v = .ref a∧h.get? a=some { cls:=.type "list",data:=.seq vs.toArray }∧WellAll P h vs ds:=by
 cases x with
 | list ho hall=>exact ⟨_,_,rfl,ho,hall⟩
theorem uG {P:Params} {h:Heap} {v:Value} {ds:List WData} (x:Well P h v (.tuple ds)):∃(a:Addr) (vs:List Value),v = .ref a∧h.get? a=some { cls:=.type "tuple",data:=.seq vs.toArray }∧WellAll P h vs ds:=by
 cases x with
 | tuple ho hall=>exact ⟨_,_,rfl,ho,hall⟩
theorem w9 {P:Params} {h:Heap} {us:List Value} {d:WData} {ds:List WData} (x:WellAll P h us (d::ds)):∃(v:Value) (vs:List Value),us=v::vs∧Well P h v d∧WellAll P h vs ds:=by
 cases x with
 | cons a b=>exact ⟨_,_,rfl,a,b⟩
theorem Cf {n:Nat} (h:n≤1048576):n≤sizeLine:=Nat.le_trans h (by decide)
section
variable {P:Params} {h:Heap}
mutual
theorem Gp:∀(d:WData) (v:Value),Well P h v d→plW d=true→d.weight≤1048576→∃A:List Addr,OkU A v∧∀a∈A,nj h A a
 | .none,_,x,_,_=>by
  cases x
  exact ⟨[],trivial,fun a m=>absurd m (by simp)⟩
 | .bool b,_,x,_,_=>by
  cases x
  exact ⟨[],trivial,fun a m=>absurd m (by simp)⟩
 | .int i,_,x,_,_=>by
  cases x
  exact ⟨[],trivial,fun a m=>absurd m (by simp)⟩
 | .str s,_,x,_,_=>by
  cases x
  exact ⟨[],trivial,fun a m=>absurd m (by simp)⟩
 | .bytes b,_,x,_,_=>by
  cases x
  exact ⟨[],trivial,fun a m=>absurd m (by simp)⟩
 | .list ds,_,x,p,z=>by
  obtain ⟨a,vs,rfl,ho,hall⟩:=w8 x;have z2:WData.weightAll ds≤1048576:=z;obtain ⟨A,h1,h2⟩:=rD ds _ hall p fun d hd=>Nat.le_trans (pN hd) z2;have k:∀b∈A,b∈a::A:=fun b hb=>List.mem_cons_of_mem _ hb;refine ⟨a::A,List.mem_cons_self ..,fun b hb=>?_⟩;rcases List.mem_cons.mp hb with e | m
  ·rw [e]
   exact ⟨vs,Cf (by rw [km hall];exact Nat.le_trans (PySem.W.length_le_weightAllW ds) z2),fun u hu=>(h1 u hu).mono k,.inl ho⟩
  ·exact (h2 b m).mono k
 | .tuple ds,_,x,p,z=>by
  obtain ⟨a,vs,rfl,ho,hall⟩:=uG x;have z2:WData.weightAll ds≤1048576:=z;obtain ⟨A,h1,h2⟩:=rD ds _ hall p fun d hd=>Nat.le_trans (pN hd) z2;have k:∀b∈A,b∈a::A:=fun b hb=>List.mem_cons_of_mem _ hb;refine ⟨a::A,List.mem_cons_self ..,fun b hb=>?_⟩;rcases List.mem_cons.mp hb with e | m
  ·rw [e]
   exact ⟨vs,Cf (by rw [km hall];exact Nat.le_trans (PySem.W.length_le_weightAllW ds) z2),fun u hu=>(h1 u hu).mono k,.inr ho⟩
  ·exact (h2 b m).mono k
 | .float _,_,_,p,_=>Bool.noConfusion (show false=true from p)
 | .dict _,_,_,p,_=>Bool.noConfusion (show false=true from p)
 | .bytearray _,_,_,p,_=>Bool.noConfusion (show false=true from p)
 | .set _,_,_,p,_=>Bool.noConfusion (show false=true from p)
 | .frozenset _,_,_,p,_=>Bool.noConfusion (show false=true from p)
 | .obj _ _,_,_,p,_=>Bool.noConfusion (show false=true from p)
theorem rD:∀(ds:List WData) (vs:List Value),WellAll P h vs ds→tZ ds=true→(∀d∈ds,d.weight≤1048576)→∃A:List Addr,(∀u∈vs,OkU A u)∧∀a∈A,nj h A a
 | [],_,x,_,_=>by
  cases x
  exact ⟨[],fun u m=>absurd m (by simp),fun a m=>absurd m (by simp)⟩
 | d::ds,_,x,p,z=>by
  obtain ⟨v,vs,rfl,x1,x2⟩:=w9 x;have q:plW d=true∧tZ ds=true:=Bool.and_eq_true_iff.mp p;obtain ⟨A,a1,a2⟩:=Gp d v x1 q.1 (z d (List.mem_cons_self ..));obtain ⟨B,b1,b2⟩:=rD ds vs x2 q.2 fun e he=>z e (List.mem_cons_of_mem _ he);have kA:∀b∈A,b∈A++B:=fun b hb=>List.mem_append.mpr (.inl hb);have kB:∀b∈B,b∈A++B:=fun b hb=>List.mem_append.mpr (.inr hb);refine ⟨A++B,fun u hu=>?_,fun b hb=>?_⟩
  ·rcases List.mem_cons.mp hu with e | m
   ·rw [e]
    exact a1.mono kA
   ·exact (b1 u m).mono kB
  ·rcases List.mem_append.mp hb with m | m
   ·exact (a2 b m).mono kA
   ·exact (b2 b m).mono kB
end
end
noncomputable def HN (o:Obj):Option HO:=match o.data with
 | .seq vs _=>if (o.cls == Value.type "list")=true then some (.frz o (.lst (vs.toList.map toV))) else some (.frz o (.tup (vs.toList.map toV)))
 | _=>none
noncomputable def mS (K:PySem.W.Frag) (h:Heap) (A:List Addr):Hp:=fun b=>if b∈A then (if (K.lookup b).isNone=true then (h.get? b).bind HN else none) else none
noncomputable def Cy (H:Hp):Prop:=∀b,H b=none∨∃o u,H b=some (.frz o u)
theorem Ag (vs:List Value):HN { cls:=.type "list",data:=.seq vs.toArray }=some (.frz { cls:=.type "list",data:=.seq vs.toArray } (.lst (vs.map toV))):=by
 show (if (Value.type "list" == Value.type "list")=true then some (HO.frz { cls:=.type "list",data:=.seq vs.toArray } (.lst (vs.toArray.toList.map toV))) else some (HO.frz { cls:=.type "list",data:=.seq vs.toArray } (.tup (vs.toArray.toList.map toV))))=_;rw [if_pos (beq_self_eq_true _)]
theorem Af (vs:List Value):HN { cls:=.type "tuple",data:=.seq vs.toArray }=some (.frz { cls:=.type "tuple",data:=.seq vs.toArray } (.tup (vs.map toV))):=by
 show (if (Value.type "tuple" == Value.type "list")=true then some (HO.frz { cls:=.type "tuple",data:=.seq vs.toArray } (.lst (vs.toArray.toList.map toV))) else some (HO.frz { cls:=.type "tuple",data:=.seq vs.toArray } (.tup (vs.toArray.toList.map toV))))=_;rw [if_neg (by decide)]
section
variable {P:Program} {w:World} {K:PySem.W.Frag} {h:Heap} {A:List Addr}
theorem uB {b:Addr} {o:Obj} (hb:b∈A) (hk:K.lookup b=none) (e:h.get? b=some o):mS K h A b=HN o:=by
 unfold mS;rw [if_pos hb,hk,if_pos (show (none:Option Obj).isNone=true from rfl),e] <;> rfl
theorem HG {b:Addr} {u:HO} (q:mS K h A b=some u):b∈A∧K.lookup b=none:=by
 unfold mS at q;by_cases hb:b∈A
 ·rw [if_pos hb] at q
  cases hk:K.lookup b with
  | none=>exact ⟨hb,rfl⟩
  | some o =>
   rw [hk,if_neg (by simp)] at q
   cases q
 ·rw [if_neg hb] at q
  cases q
theorem uA (ar:∀a∈A,nj h A a) {b:Addr} {u:HO} (q:mS K h A b=some u):K.lookup b=none∧∃vs:List Value,vs.length≤sizeLine∧(∀u∈vs,OkU A u)∧
  ((h.get? b=some { cls:=.type "list",data:=.seq vs.toArray }∧u = .frz { cls:=.type "list",data:=.seq vs.toArray } (.lst (vs.map toV)))∨
   (h.get? b=some { cls:=.type "tuple",data:=.seq vs.toArray }∧u = .frz { cls:=.type "tuple",data:=.seq vs.toArray } (.tup (vs.map toV)))):=by
 obtain ⟨hb,hk⟩:=HG q;obtain ⟨vs,h1,h2,h3⟩:=ar b hb;refine ⟨hk,vs,h1,h2,?_⟩;rcases h3 with e | e
 ·rw [uB hb hk e,Ag] at q
  exact .inl ⟨e,(Option.some.inj q).symm⟩
 ·rw [uB hb hk e,Af] at q
  exact .inr ⟨e,(Option.some.inj q).symm⟩
theorem DT (ar:∀a∈A,nj h A a):Cy (mS K h A):=fun b=>by
 cases q:mS K h A b with
 | none=>exact .inl rfl
 | some u =>
  obtain ⟨_,vs,_,_,⟨_,e⟩ | ⟨_,e⟩⟩:=uA ar q
  ·exact .inr ⟨_,_,by rw [e]⟩
  ·exact .inr ⟨_,_,by rw [e]⟩
theorem Io (ar:∀a∈A,nj h A a):HOk P w (mS K h A) h:=fun b u q=>by
 obtain ⟨_,vs,h1,h2,⟨e,rfl⟩ | ⟨e,rfl⟩⟩:=uA ar q
 ·exact ⟨e,by rw [List.length_map];exact h1,vs,_,ls h2,e⟩
 ·exact ⟨e,by rw [List.length_map];exact h1,vs,ls h2,_,e,rfl,_,rfl⟩
theorem um {c c':Value} {vs us:List Value} (e:(some { cls:=c,data:=.seq vs.toArray }:Option Obj)=some { cls:=c',data:=.seq us.toArray }):c=c'∧vs=us:=by
 have e1:=Option.some.inj e;have e2:c=c':=congrArg Obj.cls e1;have e3:Data.seq vs.toArray=Data.seq us.toArray:=congrArg Obj.data e1;injection e3 with e4;refine ⟨e2,?_⟩;have e5:=congrArg Array.toList e4;simpa using e5
theorem LO (KX:K.In h) (ar:∀a∈A,nj h A a) {a:Addr} {vs:List Value} (ha:a∈A) (e:h.get? a=some { cls:=.type "list",data:=.seq vs.toArray }):(∀u∈vs,OkU A u)∧SqL K (mS K h A) a (vs.map toV):=by
 obtain ⟨us,h1,h2,h3⟩:=ar a ha;have hu:us=vs:=by
  rcases h3 with q | q
  ·rw [e] at q
   exact (um q).2.symm
  ·rw [e] at q
   exact absurd (Value.type.inj (um q).1) (by decide)
 subst hu;refine ⟨h2,?_⟩
 cases hk:K.lookup a with
 | none=>exact .inl (.inr ⟨_,by rw [uB ha hk e,Ag]⟩)
 | some o =>
  have e2:=KX a o hk;rw [e] at e2;obtain rfl:=Option.some.inj e2;exact .inr ⟨_,us.toArray,_,hk,rfl,rfl,rfl,by rw [List.size_toArray];exact h1,by simpa using ls h2⟩
theorem LN (KX:K.In h) (ar:∀a∈A,nj h A a) {a:Addr} {vs:List Value} (ha:a∈A) (e:h.get? a=some { cls:=.type "tuple",data:=.seq vs.toArray }):(∀u∈vs,OkU A u)∧SqT K (mS K h A) a (vs.map toV):=by
 obtain ⟨us,h1,h2,h3⟩:=ar a ha;have hu:us=vs:=by
  rcases h3 with q | q
  ·rw [e] at q
   exact absurd (Value.type.inj (um q).1) (by decide)
  ·rw [e] at q
   exact (um q).2.symm
 subst hu;refine ⟨h2,?_⟩
 cases hk:K.lookup a with
 | none=>exact .inl (.inr ⟨_,by rw [uB ha hk e,Af]⟩)
 | some o =>
  have e2:=KX a o hk;rw [e] at e2;obtain rfl:=Option.some.inj e2;exact .inr ⟨_,us.toArray,_,hk,rfl,rfl,by rw [List.size_toArray];exact h1,by simpa using ls h2⟩
mutual
theorem JP {Pm:Params} (KX:K.In h) (ar:∀a∈A,nj h A a):∀(d:WData) (v:Value),Well Pm h v d→plW d=true→OkU A v→Dw K (mS K h A) (toV v) d
 | .none,_,x,_,_=>by
  cases x
  exact .non
 | .bool b,_,x,_,_=>by
  cases x
  exact .bl b
 | .int i,_,x,_,_=>by
  cases x
  exact .int i
 | .str s,_,x,_,_=>by
  cases x
  exact .str s
 | .bytes b,_,x,_,_=>by
  cases x
  have z:=Dw.byt (K:=K) (H:=mS K h A) b.toArray;exact z
 | .list ds,_,x,p,hu=>by
  obtain ⟨a,vs,rfl,ho,hall⟩:=w8 x;obtain ⟨h2,hs⟩:=LO KX ar hu ho;exact .lst hs (yz KX ar ds _ hall p h2)
 | .tuple ds,_,x,p,hu=>by
  obtain ⟨a,vs,rfl,ho,hall⟩:=uG x;obtain ⟨h2,hs⟩:=LN KX ar hu ho;exact .tup hs (yz KX ar ds _ hall p h2)
 | .float _,_,_,p,_=>Bool.noConfusion (show false=true from p)
 | .dict _,_,_,p,_=>Bool.noConfusion (show false=true from p)
 | .bytearray _,_,_,p,_=>Bool.noConfusion (show false=true from p)
 | .set _,_,_,p,_=>Bool.noConfusion (show false=true from p)
 | .frozenset _,_,_,p,_=>Bool.noConfusion (show false=true from p)
 | .obj _ _,_,_,p,_=>Bool.noConfusion (show false=true from p)
theorem yz {Pm:Params} (KX:K.In h) (ar:∀a∈A,nj h A a):∀(ds:List WData) (vs:List Value),WellAll Pm h vs ds→tZ ds=true→(∀u∈vs,OkU A u)→oT K (mS K h A) (vs.map toV) ds
 | [],_,x,_,_=>by
  cases x
  exact .nil
 | d::ds,_,x,p,hu=>by
  obtain ⟨v,vs,rfl,x1,x2⟩:=w9 x;have q:plW d=true∧tZ ds=true:=Bool.and_eq_true_iff.mp p;exact .cons (JP KX ar d v x1 q.1 (hu _ (List.mem_cons_self ..))) (yz KX ar ds vs x2 q.2 fun u m=>hu u (List.mem_cons_of_mem _ m))
end
end
theorem CS {P:Program} {w:World} {K:PySem.W.Frag} {mg mb:Str→Option Value} {CX:CXT} {k:Nat} {fa:Addr} {fd:FuncData} {ps:List Str} {sp:Sp} {s₁:Shared} {vals:List Value} {ds:List WData} {R:PySem.W.WRecords} {cl:Str→Option Addr} {d0:WData}
  (KX:K.In s₁.heap) (hns:s₁.heap.Ns mainGlobals mg) (hb:s₁.heap.Ns builtinsNs mb) (hbb:∀x:Str,x ≠ "__name__" → mb x=bootBuiltins x) (hlim:s₁.heap.NoLimit) (hg:s₁.gens = #[])
  (hwl:WellAll w.params s₁.heap vals ds) (hpl:tZ ds=true) (hwt:∀d∈ds,d.weight≤1048576) (hr:ij k callerA)
  (F:∀base:Heap,K.In base→base.Ns mainGlobals mg→oS P w K mg base CX k fa fd ps sp) (hbind:∀(s:Shared) (us:List Value),us.length=ps.length→BindsTo s fd ⟨us,[]⟩ (ps.zip us)) (hlen:ds.length=ps.length)
  (hsp:∀(H:Hp) (xs:List V),Cy H→oT K H xs ds→sp xs H (fun v H'=>Dw K H' v d0) fun _ _ _=>False)
  (hCX:∀H e s',CX [] H s₁ (fun _ _ _=>False) e s'→False) :
  codeAny (model P w) callerA (.call (.ref fa) ⟨vals,[]⟩) (fun r s'=>∃u as,r = .ok (.ret u)∧ReadsW R cl s'.heap u d0 as∧OldK s₁.heap s'.heap∧s'.os=s₁.os∧AllBare s'.gens) s₁:=by
 obtain ⟨A,ho,ar⟩:=rD ds vals hwl hpl hwt;have hO:Cy (mS K s₁.heap A):=DT ar;have hok:HOk P w (mS K s₁.heap A) s₁.heap:=Io ar;have hS:=yz KX ar ds vals hwl hpl ho;have hV:=ls ho;have hK:∀b u,mS K s₁.heap A b=some u→K.lookup b=none:=fun b u q=>(uA ar q).1;have noA:∀{b:Addr} {o:Obj} {es:Array DictEntry} {ep:Nat},s₁.heap.get? b=some o→o.data = .dict es ep→mS K s₁.heap A b=none:=fun {b o es ep} e d=>by
  cases q:mS K s₁.heap A b with
  | none=>rfl
  | some u =>
   obtain ⟨_,vs,_,_,⟨e2,_⟩ | ⟨e2,_⟩⟩:=uA ar q
   ·rw [e2] at e
    cases e
    have d':Data.seq vs.toArray _=Data.dict es ep:=d
    cases d'
   ·rw [e2] at e
    cases e
    have d':Data.seq vs.toArray _=Data.dict es ep:=d
    cases d'
 generalize mS K s₁.heap A=H at hO hok hS hK noA;have base_of:∀{b:Addr} {o:Obj},s₁.heap.get? b=some o→H b=none→(yx s₁.heap H).get? b=some o:=fun e n=>Fm e n;have nsK:∀{b:Addr} {m:Str→Option Value},s₁.heap.Ns b m→(yx s₁.heap H).Ns b m:=fun {b m} ⟨o,es,ep,e,d,r⟩=>⟨o,es,ep,base_of e (noA e d),d,r⟩;have nK:∀b o,K.lookup b=some o→H b=none:=fun b o e=>by
  cases q:H b with
  | none=>rfl
  | some u =>
   rw [hK b u q] at e
   cases e
 have hKb:K.In (yx s₁.heap H):=fun b o e=>base_of (KX b o e) (nK b o e);have hM:Mod K mg (yx s₁.heap H):=⟨hKb,nsK hns,⟨mb,nsK hb,hbb⟩,let ⟨mc,h1,h2⟩:=hlim;⟨mc,nsK h1,h2⟩⟩;have e0:BM P w K mg (yx s₁.heap H) callerA [] s₁ H:=⟨rfl,hM,fun b o e=>HF e,Nat.le_of_eq (DB _ _),trivial,fun b hb=>absurd (show b∈([]:List Addr) from hb) (by simp),hok,.of_eq hg⟩;have hl:vals.length=ps.length:=by rw [km hwl];exact hlen
 refine codeAny_mono ((F _ hKb (nsK hns)).run callerA [] s₁ H ⟨vals,[]⟩ vals (vals.map toV) _ _ hr e0 (hbind s₁ vals hl) hV (hsp H _ hO hS)) fun r s' x=>?_
 cases r with
 | error e=>exact (hCX H e s' x).elim
 | ok fl =>
  cases fl with
  | next=>exact False.elim x
  | brk=>exact False.elim x
  | cont=>exact False.elim x
  | ret u =>
   obtain ⟨v,H',os,bare,un,hok',r',q⟩:=x;have kept:∀b o,s₁.heap.get? b=some o→s'.heap.get? b=some o:=fun b o e=>by
    cases q2:H b with
    | none=>exact un.keep b o e q2 (by intro z;exact absurd (show b∈([]:List Addr) from z) (by simp)) (by simp)
    | some u2 =>
     rcases hO b with z | ⟨ob,u3,z⟩
     ·rw [q2] at z
      cases z
     ·have z2:=un.rj b ob _ z
      obtain ⟨e1,_⟩:=hok b _ z;obtain ⟨e2,_⟩:=hok' b _ z2;rw [e] at e1
      cases e1
      exact e2
   have KX':K.In s'.heap:=fun b o e=>kept b o (KX b o e);obtain ⟨as,hrd⟩:=Dw.reads (R:=R) (cl:=cl) hok' KX' d0 v u q r';exact ⟨u,as,rfl,hrd,OldK.of_keep kept,os,bare⟩
theorem vz {ds:List WData} (h:WData.layableAll ds=true):∀d∈ds,d.weight≤1048576:=fun d hd =>
 (PySem.W.layableW_iff.mp (List.all_eq_true.mp h d hd)).2.2
theorem vG:∀(cs:List Codec) (a:Codec.denoteAll cs),(Codec.encAll cs a).length=cs.length
 | [],_=>rfl
 | c::cs,a=>by
  show (Codec.encAll cs a.2).length+1=cs.length+1;rw [vG cs a.2]
end L2
end
set_option maxHeartbeats 4000000
namespace Sx
open PySem PySem.Spec PyProof.Rows L2
local macro_rules | `(tactic| tm_at "oa")=>`(tactic| first | contradiction | exact Int.ofNat_lt.mp ‹_› | exact Int.ofNat_le.mp ‹_› | exact Int.ofNat_lt.mpr ‹_› | exact Int.ofNat_le.mpr ‹_› | exact Int.ofNat.inj ‹_› | exact congrArg Nat.cast ‹_› | exact Int.ofNat_nonneg _ | exact Nat.le_of_eq ‹_› | exact Nat.le_of_lt ‹_› | exact Nat.zero_le _ | exact Nat.le_of_not_lt ‹_› | exact Nat.lt_of_not_le ‹_› | exact Nat.le_trans (Nat.le_of_eq ‹_›) (by decide) | exact Nat.le_trans ‹_› (by decide) | exact Nat.le_trans (by decide) (Nat.le_of_eq (Eq.symm ‹_›)) | exact Nat.lt_of_le_of_lt ‹_› (by decide) | exact Nat.le_trans (by decide) ‹_› | exact Nat.le_trans ‹_› ‹_› | exact Nat.lt_of_le_of_lt ‹_› ‹_› | exact Nat.lt_of_lt_of_le ‹_› ‹_› | exact Nat.pos_of_ne_zero ‹_› | omega)
local macro_rules | `(tactic| tm_at "ob")=>`(tactic| first | contradiction | exact Int.ofNat_lt.mp ‹_› | exact Int.ofNat_le.mp ‹_› | exact Int.ofNat_lt.mpr ‹_› | exact Int.ofNat_le.mpr ‹_› | exact Int.ofNat.inj ‹_› | exact congrArg Nat.cast ‹_› | exact Int.ofNat_nonneg _ | exact Nat.le_of_eq ‹_› | exact Nat.le_of_lt ‹_› | exact Nat.zero_le _ | exact Nat.le_of_not_lt ‹_› | exact Nat.lt_of_not_le ‹_› | exact Nat.le_trans (Nat.le_of_eq ‹_›) (by decide) | exact Nat.le_trans ‹_› (by decide) | exact Nat.le_trans (by decide) (Nat.le_of_eq (Eq.symm ‹_›)) | exact Nat.lt_of_le_of_lt ‹_› (by decide) | exact Nat.le_trans (by decide) ‹_› | exact Nat.le_trans ‹_› ‹_› | exact Nat.lt_of_le_of_lt ‹_› ‹_› | exact Nat.lt_of_lt_of_le ‹_› ‹_› | exact Nat.pos_of_ne_zero ‹_› | lia | omega)
noncomputable def top (i:Nat):Stmt:=PySem.Challenge.pw_streamside_s01_answers.main.body.getD i (.Pass ⟨0,0,0,0⟩)
class Stp (G:Prop) (G':outParam Prop):Prop where
 go:G'→G
set_option genInjectivity false in
set_option genSizeOf false in
structure Dn where
 x:Str
 q:Str
 s:Stmt
 f:Addr
 n:Nat
 N:List Str
 c:Nat
noncomputable abbrev Dn.ps (d:Dn):List Str:=d.N.take d.n
noncomputable abbrev gd (x:Str) (i:Nat) (f:Addr) (n:Nat) (N:List Str):Dn:=⟨x,x,top i,f,n,N,0⟩
noncomputable abbrev ib:Dn:=⟨"__init__", "Segment.__init__",inClass (top 10) 0,28,6,["self", "from_port", "to_port", "number", "flags", "data"],1⟩
noncomputable abbrev k0:Dn:=⟨"has", "Segment.has",inClass (top 10) 1,35,2,["self", "flag"],1⟩
noncomputable abbrev mL:=gd "bytes_of" 11 47 2 ["number", "count", "at"]
noncomputable abbrev oC:=gd "number_in" 12 54 3 ["given", "at", "count", "number", "one"]
noncomputable abbrev vI:=gd "sum_of" 13 61 3 ["sender", "receiver", "given", "whole", "total"]
noncomputable abbrev kO:=gd "written_out" 14 68 3 ["segment", "sender", "receiver", "start", "rest", "one"]
noncomputable abbrev qy:=gd "has_form" 15 75 1 ["given", "size"]
noncomputable abbrev kc:=gd "read_segment" 16 82 3 ["given", "sender", "receiver", "behind", "segment", "at"]
noncomputable abbrev oB:=gd "number_of" 20 89 2 ["base", "place"]
noncomputable abbrev mH:=gd "place_near" 21 96 3 ["number", "base", "about", "ahead", "place"]
noncomputable abbrev fH:=gd "with_range" 22 101 3 ["ranges", "start", "behind", "below", "above", "touched", "one"]
noncomputable abbrev jz:=gd "behind_ranges" 23 108 2 ["ranges", "place", "one"]
noncomputable abbrev kQ:=gd "up_to_range" 24 115 3 ["ranges", "place", "most", "one"]
noncomputable abbrev mE:=gd "with_piece" 25 122 3 ["pieces", "place", "data", "below", "above", "piece", "behind"]
noncomputable abbrev kF:Dn:=⟨"__init__", "Side.__init__",inClass (top 41) 0,136,1,["self"],2⟩
noncomputable abbrev jK:Dn:=⟨"renew", "Side.renew",inClass (top 41) 1,143,1,["self"],2⟩
noncomputable abbrev fI:Dn:=⟨"name_ends", "Side.name_ends",inClass (top 41) 2,150,4,["self", "me", "mine", "base"],2⟩
noncomputable abbrev fc:Dn:=⟨"name_other", "Side.name_other",inClass (top 41) 3,157,4,["self", "them", "theirs", "their_base"],2⟩
noncomputable abbrev hJ:Dn:=⟨"renew_sent", "Side.renew_sent",inClass (top 41) 4,164,1,["self"],2⟩
noncomputable abbrev hY:Dn:=⟨"renew_pace", "Side.renew_pace",inClass (top 41) 5,171,1,["self"],2⟩
noncomputable abbrev hZ:Dn:=⟨"renew_come", "Side.renew_come",inClass (top 41) 6,178,1,["self"],2⟩
noncomputable abbrev iQ:Dn:=⟨"is_linked", "Side.is_linked",inClass (top 41) 7,185,1,["self"],2⟩
noncomputable abbrev fw:Dn:=⟨"unacked_place", "Side.unacked_place",inClass (top 41) 8,192,1,["self"],2⟩
noncomputable abbrev kH:Dn:=⟨"hear", "Side.hear",inClass (top 41) 9,199,1,["self"],2⟩
noncomputable abbrev kf:Dn:=⟨"put_off", "Side.put_off",inClass (top 41) 10,206,1,["self"],2⟩
noncomputable abbrev hG:Dn:=⟨"time_place", "Side.time_place",inClass (top 41) 11,213,2,["self", "place"],2⟩
noncomputable abbrev fO:Dn:=⟨"time_nothing", "Side.time_nothing",inClass (top 41) 12,220,1,["self"],2⟩
noncomputable abbrev mO:Dn:=⟨"widen", "Side.widen",inClass (top 41) 13,227,2,["self", "more"],2⟩
noncomputable abbrev ia:Dn:=⟨"halve_slow", "Side.halve_slow",inClass (top 41) 14,234,1,["self"],2⟩
noncomputable abbrev kY:Dn:=⟨"linger", "Side.linger",inClass (top 41) 15,241,1,["self"],2⟩
noncomputable abbrev kZ:Dn:=⟨"finish", "Side.finish",inClass (top 41) 16,248,2,["self", "why"],2⟩
noncomputable abbrev Bp:=gd "send" 45 262 3 ["side", "receiver", "segment"]
noncomputable abbrev vJ:=gd "refuse" 46 269 3 ["side", "sender", "segment"]
noncomputable abbrev qw:=gd "new_edge" 47 276 1 ["side"]
noncomputable abbrev iM:=gd "edge_has_moved" 48 283 1 ["side"]
noncomputable abbrev iK:=gd "tell_what_came" 49 290 2 ["side", "segment", "piece", "start"]
noncomputable abbrev FI:=gd "say" 50 297 4 ["side", "place", "flags", "data", "segment"]
noncomputable abbrev sE:=gd "say_ack" 51 304 1 ["side"]
noncomputable abbrev oA:=gd "say_begin" 52 311 1 ["side"]
noncomputable abbrev yE:=gd "begin" 53 318 1 ["side"]
noncomputable abbrev mM:=gd "bytes_from" 54 325 3 ["side", "place", "count", "at"]
noncomputable abbrev mG:=gd "send_bytes" 55 332 4 ["side", "place", "count", "with_end", "old_top", "behind"]
noncomputable abbrev g9:=gd "send_next_bytes" 56 339 2 ["side", "count", "with_end"]
noncomputable abbrev qu:=gd "sendable" 57 346 1 ["side", "place", "count"]
noncomputable abbrev ke:=gd "is_held_back" 58 353 2 ["side", "count"]
noncomputable abbrev oy:=gd "send_step" 59 360 1 ["side", "behind", "count"]
noncomputable abbrev qv:=gd "send_all" 60 367 1 ["side", "going"]
noncomputable abbrev jw:=gd "send_one_byte" 61 374 1 ["side"]
noncomputable abbrev gu:=gd "may_be_sent_anew" 62 381 2 ["side", "place"]
noncomputable abbrev oz:=gd "send_anew" 63 388 1 ["side", "place", "count", "with_end"]
noncomputable abbrev sF:=gd "measure" 66 395 2 ["side", "place", "took"]
noncomputable abbrev ro:=gd "let_go" 67 400 2 ["side", "place", "one"]
noncomputable abbrev mI:=gd "pace_after" 68 407 2 ["side", "count"]
noncomputable abbrev ka:=gd "take_new_ack" 69 414 2 ["side", "place", "count"]
noncomputable abbrev jv:=gd "start_mending" 70 421 1 ["side"]
noncomputable abbrev ju:=gd "take_same_ack" 71 428 1 ["side"]
noncomputable abbrev qr:=gd "take_ack" 72 435 3 ["side", "place", "is_quiet"]
noncomputable abbrev Br:=gd "meet" 75 442 3 ["side", "sender", "segment"]
noncomputable abbrev hC:=gd "come_to_waiting" 76 449 3 ["side", "sender", "segment"]
noncomputable abbrev jy:=gd "come_to_begun" 77 456 3 ["side", "sender", "segment", "acks_begin"]
noncomputable abbrev kU:=gd "become_open" 78 463 1 ["side"]
noncomputable abbrev Bs:=gd "fits" 79 470 3 ["side", "segment", "place", "size", "flag"]
noncomputable abbrev iO:=gd "come_to_linked" 80 477 3 ["side", "sender", "segment", "place"]
noncomputable abbrev kb:=gd "take_fitting" 81 484 4 ["side", "sender", "segment", "place"]
noncomputable abbrev kX:=gd "acked_place" 82 491 2 ["side", "segment", "place"]
noncomputable abbrev kR:=gd "take_acking" 83 498 4 ["side", "sender", "segment", "place", "acked", "old_room", "is_quiet"]
noncomputable abbrev oG:=gd "hold_told" 84 505 3 ["side", "segment", "acked", "one", "start", "behind"]
noncomputable abbrev ot:=gd "take_data" 85 512 3 ["side", "segment", "place", "had_pieces", "old_wanted", "in_order"]
noncomputable abbrev oI:=gd "add_piece" 86 519 3 ["side", "data", "place", "start", "behind"]
noncomputable abbrev oE:=gd "learn_end" 87 526 2 ["side", "place"]
noncomputable abbrev jx:=gd "make_readable" 88 533 1 ["side", "data"]
noncomputable abbrev fN:=gd "end_if_both_ended" 89 540 1 ["side"]
noncomputable abbrev Bt:=gd "come" 90 547 3 ["side", "sender", "segment"]
noncomputable abbrev yC:=gd "go_on" 96 554 2 ["side", "now"]
noncomputable abbrev mJ:=gd "owes_later" 97 561 1 ["side"]
noncomputable abbrev iN:=gd "do_what_is_due" 98 568 1 ["side"]
noncomputable abbrev kP:=gd "wait_longer" 99 575 1 ["side"]
noncomputable abbrev kT:=gd "begin_again" 100 582 1 ["side"]
noncomputable abbrev mF:=gd "start_over" 101 589 1 ["side", "already"]
noncomputable abbrev kW:=gd "asking_time" 102 596 1 ["side"]
noncomputable abbrev oF:=gd "is_to_ask" 103 603 1 ["side", "time"]
noncomputable abbrev FJ:=gd "ask" 104 610 1 ["side"]
noncomputable abbrev om:=gd "times_due" 105 617 1 ["side", "times", "time"]
noncomputable abbrev mK:=gd "is_address" 119 624 1 ["number"]
noncomputable abbrev sJ:=gd "is_port" 120 631 1 ["number"]
noncomputable abbrev sM:=gd "is_base" 121 638 1 ["number"]
noncomputable abbrev sI:=gd "is_time" 122 645 1 ["number"]
noncomputable abbrev sL:=gd "is_idle" 123 652 1 ["side"]
noncomputable abbrev yA:=gd "start" 124 659 3 ["side", "now", "phase"]
noncomputable abbrev mN:=gd "begin_side" 125 666 7 ["side", "me", "mine", "them", "theirs", "base", "now"]
noncomputable abbrev iJ:=gd "wait_for_begin" 126 673 5 ["side", "me", "mine", "base", "now"]
noncomputable abbrev kd:=gd "is_of_stream" 127 680 3 ["side", "sender", "segment"]
noncomputable abbrev ou:=gd "take_come" 128 687 4 ["side", "sender", "now", "given", "segment"]
noncomputable abbrev iL:=gd "go_on_to_write" 129 694 2 ["side", "now"]
noncomputable abbrev uw:=gd "write" 130 701 3 ["side", "now", "given", "refusal", "written", "taken"]
noncomputable abbrev Bq:=gd "read" 131 708 3 ["side", "now", "most", "data"]
noncomputable abbrev yD:=gd "close" 132 715 2 ["side", "now", "refusal"]
noncomputable abbrev yB:=gd "reset" 133 722 2 ["side", "now"]
noncomputable abbrev Bo:=gd "tick" 134 729 2 ["side", "now"]
noncomputable abbrev sG:=gd "keep_up" 135 736 3 ["side", "now", "time"]
noncomputable abbrev qm:=gd "tell_due" 136 743 1 ["side", "times"]
noncomputable abbrev qo:=gd "tell_all" 137 750 1 ["side", "sent", "pace", "taken"]
noncomputable abbrev oH:=gd "answer_of" 151 759 4 ["side", "call", "numbers", "row"]
noncomputable abbrev qx:=gd "laid_out" 152 766 1 ["segments", "numbers", "one"]
noncomputable abbrev iP:=gd "answers" 153 773 1 ["calls", "side", "told", "at", "call", "behind", "numbers", "row", "answer"]
noncomputable def tb:List Dn:=[ib,k0,mL,oC,vI,kO,qy,kc,oB,mH,fH,jz,kQ,mE,kF,jK,fI,fc,hJ,hY,hZ,iQ,fw,kH,kf,hG,fO,mO,ia,kY,kZ,Bp,vJ,qw,iM,iK,FI,sE,oA,yE,mM,mG,g9,qu,ke,oy,qv,jw,gu,oz,sF,ro,mI,ka,jv,ju,qr,Br,hC,jy,kU,Bs,iO,kb,kX,kR,oG,ot,oI,oE,jx,fN,Bt,yC,mJ,iN,kP,kT,mF,kW,oF,FJ,om,mK,sJ,sM,sI,sL,yA,mN,iJ,kd,ou,iL,uw,Bq,yD,yB,Bo,sG,qm,qo,oH,qx,iP]
noncomputable def j6:List Str:=["from_port", "to_port", "number", "acked", "flags", "window", "ranges", "data"]
noncomputable def qZ:List Str:=.append ["now", "out", "phase", "why", "lingers_until", "kept", "me", "mine", "base", "them", "theirs", "their_base", "unacked", "last", "closing", "first", "next_place", "top", "room", "held", "wide", "slow", "same", "mending", "anew", "mean", "off", "was_measured", "wait", "timed_place"] (["timed_since", "due", "tries", "wanted", "unread", "pieces", "end_place", "has_ended", "closed_first", "edge", "owed", "ack_due", "heard", "askings"])
noncomputable def lC:List (Str×Int):=.append [("BEGIN",1),("END",2),("ACKS",4),("RESET",8),("ALL_FLAGS",15),("HEAD_SIZE",20),("RANGE_SIZE",8),("MOST_RANGES",4),("MOST_DATA",1400),("MODULUS",4294967296),("HALF",2147483648),("NO_PHASE",0),("WAITS",1),("HAS_BEGUN",2),("HAS_ANSWERED",3),("IS_OPEN",4),("LINGERS",5),("IS_OVER",6),("BOTH_ENDED",1),("RESET_BY_OTHER",2),("NOBODY_ANSWERS",3),("RESET_HERE",4),("MOST_WIDE",1048576),("MOST_WAIT",60000),("LINGER_TIME",60000),("MOST_UNREAD",65536),("FIRST_WINDOW",1024),("LEAST_WAIT",200),("ACK_DELAY",40),("MOST_BEGINS",5)] ([("MOST_TRIES",8),("MOST_ASKINGS",5),("ASKING_TIME",10000),("MAY_NOT_BE",-1),("NOT_THE_STREAMS",-2),("NO_SEGMENT",-3),("WRONG_PHASE",-4),("HAS_ENDED",-6),("MOST_ADDRESS",4294967294),("MOST_PORT",65535),("MOST_BASE",4294967295),("MOST_TIME",4611686018427387904),("MOST_KEPT",2147483648),("MOST_UNACKED",65536),("MOST_WRITTEN",1073741824),("BEGIN_SIDE",1),("WAIT_FOR_BEGIN",2),("TAKE_COME",3),("WRITE",4),("READ",5),("CLOSE",6),("RESET_SIDE",7),("TICK",8),("KEEP_UP",9),("TELL_DUE",10)])
set_option genInjectivity false in
set_option genSizeOf false in
structure AD where
 aA:Addr
 aE:Addr
 jR:Addr
 iU:Addr
noncomputable def yy (K:PySem.W.Frag) (f:Addr):FuncData:=match K.lookup f with
 | some ⟨_,_,.func d,_⟩=>d
 | _=>default
noncomputable def Gd (K:PySem.W.Frag) (mg:Str→Option Value) (a:AD) (x:Str) (f:Addr):Nat→Prop
 | 0=>mg x=some (.ref f)
 | 1=>BK K a.aA x f∧Cls K a.aA
 | _=>BK K a.aE x f∧Cls K a.aE
structure Td (K:PySem.W.Frag) (mg:Str→Option Value) (a:AD) (d:Dn):Prop where
 k:Fun K d.x d.q d.s d.f (yy K d.f)
 b:Binds K (yy K d.f) d.ps []
 g:Gd K mg a d.x d.f d.c
structure TX (K:PySem.W.Frag) (mg:Str→Option Value) (a:AD):Prop where
 F:∀(i:Nat) (d:Dn),tb[i]? = some d→Td K mg a d
 C:∀(i:Nat) (x:Str) (n:Int),lC[i]? = some (x,n)→∃t,mg x=some (.int n t)
 cg:Cls K a.aA
 qd:Mk K a.aA ib.f
 sy:mg "Segment" = some (.ref a.aA)
 cQ:∀(i:Nat) (x:Str),j6[i]? = some x→iV K a.aA x
 aC:Cls K a.aE
 HI:Mk K a.aE kF.f
 JM:mg "Side" = some (.ref a.aE)
 aI:∀(i:Nat) (x:Str),qZ[i]? = some x→iV K a.aE x
 Kr:mg "abs" = none
 cW:mg "len" = none
 ik:mg "max" = none
 mW:mg "min" = none
 BN:mg "range" = none
 IE:mg "sum" = none
 Ds:mg "NUMBERS" = some (.ref a.jR)
 A7:mg "WITH_ROW" = some (.ref a.iU)
structure Ok (P:Program) (w:World) (K:PySem.W.Frag) (mg:Str→Option Value) (base:Heap) (a:AD) (d:Dn) (k:Nat) (sp:Sp):Prop where
 r:oS P w K mg base CX0 k d.f (yy K d.f) d.ps sp
 t:Td K mg a d
theorem Ok.imp {P:Program} {w:World} {K:PySem.W.Frag} {mg:Str→Option Value} {base:Heap} {a:AD} {d:Dn} {k:Nat} {sp sp':Sp} (F:Ok P w K mg base a d k sp) (h:∀vs H Q E,sp' vs H Q E→sp vs H Q E):Ok P w K mg base a d k sp':=⟨F.r.imp h,F.t⟩
local macro_rules | `(tactic| tm_at "sc")=>`(tactic| exact ⟨rfl,rfl,rfl,by decide +kernel,rfl,by decide +kernel,by decide +kernel⟩)
local macro_rules | `(tactic| tm_at "ln")=>`(tactic| (intro vs H Q E h;first | (obtain ⟨_,e,_⟩:=h;subst e;rfl) | (obtain ⟨_,_,e,_⟩:=h;subst e;rfl) | (obtain ⟨_,_,_,e,_⟩:=h;subst e;rfl) | (obtain ⟨_,_,_,_,e,_⟩:=h;subst e;rfl) | (obtain ⟨_,_,_,_,_,e,_⟩:=h;subst e;rfl) | (obtain ⟨_,_,_,_,_,_,e,_⟩:=h;subst e;rfl) | (obtain ⟨_,_,_,_,_,_,_,e,_⟩:=h;subst e;rfl) | (obtain ⟨_,_,_,_,_,_,_,_,e,_⟩:=h;subst e;rfl) | (obtain ⟨_,_,_,_,_,_,_,_,_,e,_⟩:=h;subst e;rfl) | (obtain ⟨_,_,_,_,_,_,_,_,_,_,e,_⟩:=h;subst e;rfl) | (obtain ⟨_,_,_,_,_,_,_,_,_,_,_,e,_⟩:=h;subst e;rfl) | (obtain ⟨_,_,_,_,_,_,_,_,_,_,_,_,e,_⟩:=h;subst e;rfl) | (obtain ⟨_,_,_,_,_,_,_,_,_,_,_,_,_,e,_⟩:=h;subst e;rfl)))
theorem fo {P:Program} {w:World} {K:PySem.W.Frag} {mg:Str→Option Value} {base:Heap} {a:AD} {d:Dn} {k:Nat} {sp:Sp} (T:TX K mg a) (i:Nat)
  (hbody:∀{cdv:Value} {A:Around} {outer:List Env} {s:Shared} {vs:List V} {Q:VK} {E:XK} (S:mV d.N d.ps (bB d.s)) (H:Hp),ij k (A.deeper (envOfC d.q (bB d.s) s.heap.objs.size d.f cdv))→sp vs H Q E→
   ∃t,PSs (Aj CX0 P w K mg base d.N d.q (bB d.s) d.f cdv A outer s H E).nox (eG d.s) t∧t { nx:=fun _ H'=>Q .non H',rt:=Q } (start d.N vs) H)
  (e:tb[i]? = some d:=by rfl) (S:mV d.N d.ps (bB d.s):=by tm_at "sc") (len:∀vs H Q E,sp vs H Q E→vs.length=d.ps.length:=by tm_at "ln"):Ok P w K mg base a d (k+1) sp:=
 ⟨(T.F i d e).k.ok S len fun _ _ _ _ H _ _ _ hr h=>hbody S H hr h,T.F i d e⟩
section
variable {X:Cx} {a:AD} {d:Dn} {k k':Nat} {sp:Sp} {e o b:Expr} {es:List Expr} {t:TA} {ta tb:TE} {x f:Str} {p pos apos:Pos}
theorem pc (F:Ok X.prog X.w X.K X.mg X.base a d k sp) (hr:ij k' X.A) (ha:PA X (e::es) t) (hk:k≤k':=by decide) (hc:d.c=0:=by rfl) (hx:x=d.x:=by rfl) (hg:Gl X x:=by exact rfl) (hdb:(x == ("__debug__" : Str))=false:=by decide)
  (he:starEach (e::es) X.env=(false,eval e X.env)::starEach es X.env:=by rfl) (hpl:(backTo pos (starEach es X.env)).any (·.1)=false:=by rfl):PE X (.Call (.Name x p) (e::es) [] pos) (il sp [] E0 t):=by
 have q:=F.t.g;rw [hc,←hx] at q;exact Hv F.r (hr.mono hk) hg q F.t.k.kp F.t.b .nil tm ha hdb he hpl
theorem pm {pl:Sem Bool} (he:PE X o ta) (F:Ok X.prog X.w X.K X.mg X.base a d k sp) (hr:ij k' X.A) (ha:PA X (e::es) t) (hk:k≤k':=by decide) (hc:d.c=2:=by rfl) (hx:x=d.x:=by rfl)
  (hst:starEach (e::es) X.env=(false,eval e X.env)::starEach es X.env:=by rfl) (hpl:(backTo pos (starEach es X.env)).any (·.1)=false:=by rfl)
  (ht:eval (.Call (.Attribute o x apos) (e::es) [] pos) X.env=(do
   let ov ←eval o X.env
   standAt apos.atName
   let (f,first) ←holding [ov] (getMethod ov x pl)
   callWith pos f first (backTo pos (starEach (e::es) X.env)) (backToKw pos (keywordEach [] X.env))):=by rfl):PE X (.Call (.Attribute o x apos) (e::es) [] pos) (mX a.aE x sp [] E0 ta t):=by
 have q:=F.t.g;rw [hc,←hx] at q;exact B8 he q.2 q.1 F.r (hr.mono hk) F.t.b .nil tm ha hst hpl ht
theorem pmG {pl:Sem Bool} (he:PE X o ta) (F:Ok X.prog X.w X.K X.mg X.base a d k sp) (hr:ij k' X.A) (ha:PA X (e::es) t) (hk:k≤k':=by decide) (hc:d.c=1:=by rfl) (hx:x=d.x:=by rfl)
  (hst:starEach (e::es) X.env=(false,eval e X.env)::starEach es X.env:=by rfl) (hpl:(backTo pos (starEach es X.env)).any (·.1)=false:=by rfl)
  (ht:eval (.Call (.Attribute o x apos) (e::es) [] pos) X.env=(do
   let ov ←eval o X.env
   standAt apos.atName
   let (f,first) ←holding [ov] (getMethod ov x pl)
   callWith pos f first (backTo pos (starEach (e::es) X.env)) (backToKw pos (keywordEach [] X.env))):=by rfl):PE X (.Call (.Attribute o x apos) (e::es) [] pos) (mX a.aA x sp [] E0 ta t):=by
 have q:=F.t.g;rw [hc,←hx] at q;exact B8 he q.2 q.1 F.r (hr.mono hk) F.t.b .nil tm ha hst hpl ht
theorem pm0 {pl:Sem Bool} (he:PE X o ta) (F:Ok X.prog X.w X.K X.mg X.base a d k sp) (hr:ij k' X.A) (hk:k≤k':=by decide) (hc:d.c=2:=by rfl) (hx:x=d.x:=by rfl)
  (ht:eval (.Call (.Attribute o x apos) [] [] pos) X.env=(do
   let ov ←eval o X.env
   standAt apos.atName
   let (f,first) ←holding [ov] (getMethod ov x pl)
   callWith pos f first (backTo pos (starEach [] X.env)) (backToKw pos (keywordEach [] X.env))):=by rfl):PE X (.Call (.Attribute o x apos) [] [] pos) (mX a.aE x sp [] E0 ta fR):=by
 have q:=F.t.g;rw [hc,←hx] at q;exact EG he q.2 q.1 F.r (hr.mono hk) F.t.b .nil tm ht
theorem pgi (T:TX X.K X.mg a) (i:Nat) {n:Int} (h:lC[i]? = some (x,n):=by rfl) (hg:Gl X x:=by exact rfl) (hd:(x == ("__debug__" : Str))=false:=by decide):PE X (.Name x pos) (tC (.int n)):=by
 obtain ⟨t,hm⟩:=T.C i x n h;exact B9 hg hm ⟨t,rfl⟩ hd
theorem ptR {op:CmpOp} {r:R2} (ho:OpR X (compareOp op) r) (ha:PE X e ta) (hb:PE X b tb) (h:op≠.In:=by decide) (h2:op≠.NotIn:=by decide):PT X (.Compare e [op] [b] pos) (ly (tOp r ta tb)):=B6 ho ha hb (E5 _ h h2)
theorem peR {op:CmpOp} {r:R2} (ho:OpR X (compareOp op) r) (ha:PE X e ta) (hb:PE X b tb) (h:op≠.In:=by decide) (h2:op≠.NotIn:=by decide):PE X (.Compare e [op] [b] pos) (tOp r ta tb):=Hu ho ha hb (E5 _ h h2)
theorem pa1 (ha:PE X e ta) (hs:starEach [e] X.env=(false,eval e X.env)::starEach [] X.env:=by rfl):PA X [e] (bM ta fR):=af ha d9 hs
theorem pf (i:Nat) (hN:X.N[i]? = some x:=by rfl) (hv:Vis X.env.scope x:=by first | exact Or.inl rfl | exact Or.inr (Or.inl rfl) | exact Or.inr (Or.inr rfl)) (hd:(x == ("__debug__" : Str))=false:=by decide) (hcd:(x == ("__classdict__" : Str))=false:=by decide)
  (hb:attributeBase (.Name x p) f X.env (eval (.Name x p) X.env)=eval (.Name x p) X.env:=by rfl):PE X (.Attribute (.Name x p) f pos) (jg X.K (aR i) f):=Jw (AZ hN hv hd hcd) hb
theorem sf (i:Nat) (he:PE X e ta) (hN:X.N[i]? = some x:=by rfl) (hv:Vis X.env.scope x:=by first | exact Or.inl rfl | exact Or.inr (Or.inl rfl) | exact Or.inr (Or.inr rfl)) (hd:(x == ("__debug__" : Str))=false:=by decide) (hcd:(x == ("__classdict__" : Str))=false:=by decide)
  (hs:swapsWith e (some (.Attribute (.Name x p) f apos)) pos.line X.env=pure false:=by rfl):PS X (.Assign [.Attribute (.Name x p) f apos] e pos) (lE X.K (aR i) ta f):=Jt (AZ hN hv hd hcd) he hs
theorem sn {ps:List Str} {sc:Scope} (S:mV X.N ps sc) (i:Nat) (he:PE X e ta) (hi:X.N[i]? = some x:=by rfl) (hx:Loc X.env.scope x:=by first | exact Or.inl rfl | exact Or.inr rfl) (hs:swapsWith e (some (.Name x p)) pos.line X.env=pure false:=by rfl)
  (hf:X.fn x=true∨X.env.scope.names.lookup x=some .local:=by first | exact .inl rfl | exact .inr rfl | assumption):PS X (.Assign [.Name x p] e pos) (uJ ta (da i)):=Js S.nd hi hx he hs hf
theorem sg {ps:List Str} {sc:Scope} {op:Operator} {ti:TIp} (S:mV X.N ps sc) (i:Nat) (he:PE X e ta) (ho:PIp X op ti) (hi:X.N[i]? = some x:=by rfl) (hx:Loc X.env.scope x:=by first | exact Or.inl rfl | exact Or.inr rfl)
  (hf:X.fn x=true∨X.env.scope.names.lookup x=some .local:=by first | exact .inl rfl | exact .inr rfl | assumption):PS X (.AugAssign (.Name x p) op e pos) (nk i ta ti):=Ju S.nd hi hx he ho hf
theorem si {c:Expr} {l:List Stmt} {tc:TT} {u:TS} (hc:PT X c tc) (ha:PSs X l u):PS X (.If c l [] pos) (nE tc u qF):=eU hc ha Hr
end
noncomputable section
open PySem.W
set_option maxHeartbeats 0
noncomputable abbrev pw:Program:=PySem.Challenge.pw_streamside_s01_answers
noncomputable def ntZ (n:Str) (t:Nat) (v:Value):Str×Nat×Value:=(n,t,v)
noncomputable def nrZ (n:Str) (t a:Nat):Str×Nat×Value:=(n,t,.ref a)
noncomputable def niZ (n:Str) (t:Nat) (i:Int) (u:Nat):Str×Nat×Value:=(n,t,.int i u)
noncomputable def DH (P:Params) (x:Str×Nat×Value):DictEntry:=⟨PyData.keyHash P x.1,.str x.1 x.2.1,x.2.2⟩
noncomputable def KW:Str := "/claim/cut.py"
noncomputable def tuZ (xs:List Value):Obj:={ cls:=.type "tuple",data:=.seq xs.toArray }
noncomputable def fiZ (xs:List Value):Obj:={ cls:=.none,data:=.fields xs.toArray }
noncomputable def coZ (a t:Nat) (n q:Str) (ln na:Int) (r:List Value) (k:Nat):Obj:={ cls:=.type "code",data:=.fields (([.str n t,.str q (t+1),.str KW (t+2),.int ln 0,.int na 0,.int 0 0,.int 0 0,.int 3 0,.ref a,.bool true,.int 181 0,.ref (a+1),.none]:List Value)++(r++([.int (k:Nat) 0,.int ln 0,.str KW (k+1)]:List Value))).toArray }
noncomputable def bfZ (n q:Str) (st:Stmt):Obj:={ cls:=.none,data:=.func { name:=n,qualname:=q,params:=fG st,body:=.stmts (eG st),scope:=bB st,globals:=0,closure:=[],defaults:=.none,kwdefaults:=.none } }
noncomputable def foZ (n q:Str) (st:Stmt) (md:Str) (mt c:Nat):Obj:={ cls:=.type "function",data:=.func { name:=n,qualname:=q,params:=fG st,body:=.stmts (eG st),scope:=bB st,globals:=3,closure:=[],defaults:=.none,kwdefaults:=.none,pyModule:=.str md mt,code:=.ref c,builtins:=0 } }
noncomputable def KD:Nat→List Str→List Value
 | _,[]=>[]
 | t,x::r=>.str x t::KD (t+1) r
noncomputable def g7Z (a t:Nat) (md:Str) (mt:Nat) (n q:Str) (st:Stmt) (ln na:Int) (vs:List Str):List Obj:=[tuZ [],fiZ [],tuZ (KD (t+3) vs),tuZ [],bfZ n q st,coZ a t n q ln na [.ref (a+2),.ref (a+3),.ref (a+4)] (t+3+vs.length),foZ n q st md mt (a+5)]
noncomputable def g5Z (a t:Nat) (md:Str) (mt:Nat) (n q:Str) (st:Stmt) (ln na:Int):List Obj:=[tuZ [],fiZ [],bfZ n q st,coZ a t n q ln na [.none,.none,.ref (a+2)] (t+3),foZ n q st md mt (a+3)]
noncomputable def iH:Str×Nat:=("streamside.segment",187)
noncomputable def nZ:Str×Nat:=("streamside.places",315)
noncomputable def dz:Str×Nat:=("streamside.state",378)
noncomputable def bH:Str×Nat:=("streamside.sending",600)
noncomputable def lM:Str×Nat:=("streamside.acking",770)
noncomputable def cS:Str×Nat:=("streamside.coming",829)
noncomputable def gb:Str×Nat:=("streamside.timing",988)
noncomputable def cT:Str×Nat:=("streamside.calls",1073)
noncomputable def Bb:Str×Nat:=("streamside.side",1274)
noncomputable def aV (a t:Nat) (m:Str×Nat) (d:Dn) (ln:Int):List Obj:=g7Z a t m.1 m.2 d.x d.q d.s ln d.n d.N
noncomputable def ap0 (P:Params):List Obj:=[{ cls:=(.type "tuple"),data:=.seq #[] },{ cls:=(.type "builtin_function_or_method"),data:=.fields #[(.builtin "type.__prepare__"),(.type "type")] },{ cls:=(.type "dict"),data:=.dict ([ntZ "__module__" 214 (.str "streamside.segment" 187),ntZ "__qualname__" 216 (.str "Segment" 215),niZ "__firstlineno__" 218 11 217,nrZ "__init__" 230 28,nrZ "has" 238 35,nrZ "__static_attributes__" 247 36].map (DH P)).toArray 6 },{ cls:=(.type "tuple"),data:=.seq #[] },{ cls:=.none,data:=.fields #[(.int 13 0),(.int 4 0),(.ref 27),(.int 23 0),(.int 4 0),(.ref 34)] },{ cls:=(.type "code"),data:=.fields #[(.str "Segment" 209),(.str "Segment" 210),(.str "/claim/cut.py" 211),(.int 11 0),(.int 0 0),(.int 0 0),(.int 0 0),(.int 0 0),(.ref 18),(.bool false),(.int 181 0),(.ref 19),.none,.none,.none,.none,(.int 212 0),(.int 11 0),(.str "/claim/cut.py" 213)] },{ cls:=(.type "frame"),data:=.plain,slots:=#[some (.ref 20),some (.ref 3),some (.ref 17),none,some (.str "streamside.segment" 187),none,some (.ref 0)] }]++(aV 22 219 iH ib 13++(aV 29 231 iH k0 23++([{ cls:=(.type "tuple"),data:=.seq #[(.str "acked" 239),(.str "data" 240),(.str "flags" 241),(.str "from_port" 242),(.str "number" 243),(.str "ranges" 244),(.str "to_port" 245),(.str "window" 246)] },{ cls:=(.type "dict"),data:=.dict ([ntZ "__module__" 214 (.str "streamside.segment" 187),niZ "__firstlineno__" 218 11 217,nrZ "__init__" 230 28,nrZ "has" 238 35,nrZ "__static_attributes__" 247 36,nrZ "__dict__" 249 39,nrZ "__weakref__" 251 40,ntZ "__doc__" 252 .none].map (DH P)).toArray 4 },{ cls:=(.type "type"),data:=.cls { name := "Segment",bases:=[.type "object"],mro:=[(.ref 38),(.type "object")],ns:=37,qualname := "Segment" },slots:=#[none,none,some (.str "Segment" 207),some (.str "Segment" 215),some (.builtin "object.__new__"),some (.bool true)] },{ cls:=(.type "getset_descriptor"),data:=.fields #[(.str "__dict__" 248),(.ref 38),(.builtin "function.__dict__"),(.builtin "function.__dict__#set")] },{ cls:=(.type "getset_descriptor"),data:=.fields #[(.str "__weakref__" 250),(.ref 38),(.builtin "ExceptionGroup.__weakref__"),.none] },{ cls:=(.type "super"),data:=.fields #[(.ref 38),(.ref 38),(.ref 38)] },{ cls:=(.type "builtin_function_or_method"),data:=.fields #[(.builtin "object.__init_subclass__"),(.ref 38)] }]++(g5Z 43 255 "streamside.segment" 187 "bytes_of" "bytes_of" (top 11) 25 2++(aV 48 261 iH oC 27++(aV 55 272 iH vI 32++(aV 62 283 iH kO 40++(aV 69 295 iH qy 49++(aV 76 303 iH kc 54++(aV 83 321 nZ oB 69++(aV 90 329 nZ mH 71++(g5Z 97 340 "streamside.places" 315 "with_range" "with_range" (top 22) 79 3++(aV 102 346 nZ jz 87++(aV 109 355 nZ kQ 92))))))))))))))
noncomputable def ap1 (P:Params):List Obj:=aV 116 365 nZ mE 97++([{ cls:=(.type "tuple"),data:=.seq #[] },{ cls:=(.type "builtin_function_or_method"),data:=.fields #[(.builtin "type.__prepare__"),(.type "type")] },{ cls:=(.type "dict"),data:=.dict ([ntZ "__module__" 415 (.str "streamside.state" 378),ntZ "__qualname__" 417 (.str "Side" 416),niZ "__firstlineno__" 419 125 418,nrZ "__init__" 426 136,nrZ "renew" 433 143,nrZ "name_ends" 443 150,nrZ "name_other" 453 157,nrZ "renew_sent" 460 164,nrZ "renew_pace" 467 171,nrZ "renew_come" 474 178,nrZ "is_linked" 481 185,nrZ "unacked_place" 488 192,nrZ "hear" 495 199,nrZ "put_off" 502 206,nrZ "time_place" 510 213,nrZ "time_nothing" 517 220,nrZ "widen" 525 227,nrZ "halve_slow" 532 234,nrZ "linger" 539 241,nrZ "finish" 547 248,nrZ "__static_attributes__" 592 249].map (DH P)).toArray 21 },{ cls:=(.type "tuple"),data:=.seq #[] },{ cls:=.none,data:=.fields #[(.int 127 0),(.int 4 0),(.ref 135),(.int 132 0),(.int 4 0),(.ref 142),(.int 144 0),(.int 4 0),(.ref 149),(.int 149 0),(.int 4 0),(.ref 156),(.int 154 0),(.int 4 0),(.ref 163),(.int 164 0),(.int 4 0),(.ref 170),(.int 179 0),(.int 4 0),(.ref 177),(.int 190 0),(.int 4 0),(.ref 184),(.int 193 0),(.int 4 0),(.ref 191),(.int 196 0),(.int 4 0),(.ref 198),(.int 200 0),(.int 4 0),(.ref 205),(.int 203 0),(.int 4 0),(.ref 212),(.int 207 0),(.int 4 0),(.ref 219),(.int 210 0),(.int 4 0),(.ref 226),(.int 213 0),(.int 4 0),(.ref 233),(.int 216 0),(.int 4 0),(.ref 240),(.int 220 0),(.int 4 0),(.ref 247)] },{ cls:=(.type "code"),data:=.fields #[(.str "Side" 410),(.str "Side" 411),(.str "/claim/cut.py" 412),(.int 125 0),(.int 0 0),(.int 0 0),(.int 0 0),(.int 0 0),(.ref 126),(.bool false),(.int 181 0),(.ref 127),.none,.none,.none,.none,(.int 413 0),(.int 125 0),(.str "/claim/cut.py" 414)] },{ cls:=(.type "frame"),data:=.plain,slots:=#[some (.ref 128),some (.ref 3),some (.ref 125),none,some (.str "streamside.state" 378),none,some (.ref 0)] }]++(aV 130 420 dz kF 127++(aV 137 427 dz jK 132++(aV 144 434 dz fI 144++(aV 151 444 dz fc 149++(aV 158 454 dz hJ 154++(aV 165 461 dz hY 164++(aV 172 468 dz hZ 179++(aV 179 475 dz iQ 190++(aV 186 482 dz fw 193++(aV 193 489 dz kH 196++(aV 200 496 dz kf 200++(aV 207 503 dz hG 203++(aV 214 511 dz fO 207))))))))))))))
noncomputable def ap2 (P:Params):List Obj:=aV 221 518 dz mO 210++(aV 228 526 dz ia 213++(aV 235 533 dz kY 216++(aV 242 540 dz kZ 220++([{ cls:=(.type "tuple"),data:=.seq #[(.str "ack_due" 548),(.str "anew" 549),(.str "askings" 550),(.str "base" 551),(.str "closed_first" 552),(.str "closing" 553),(.str "due" 554),(.str "edge" 555),(.str "end_place" 556),(.str "first" 557),(.str "has_ended" 558),(.str "heard" 559),(.str "held" 560),(.str "kept" 561),(.str "last" 562),(.str "lingers_until" 563),(.str "me" 564),(.str "mean" 565),(.str "mending" 566),(.str "mine" 567),(.str "next_place" 568),(.str "now" 569),(.str "off" 570),(.str "out" 571),(.str "owed" 572),(.str "phase" 573),(.str "pieces" 574),(.str "room" 575),(.str "same" 576),(.str "slow" 577),(.str "their_base" 578),(.str "theirs" 579),(.str "them" 580),(.str "timed_place" 581),(.str "timed_since" 582),(.str "top" 583),(.str "tries" 584),(.str "unacked" 585),(.str "unread" 586),(.str "wait" 587),(.str "wanted" 588),(.str "was_measured" 589),(.str "why" 590),(.str "wide" 591)] },{ cls:=(.type "dict"),data:=.dict ([ntZ "__module__" 415 (.str "streamside.state" 378),niZ "__firstlineno__" 419 125 418,nrZ "__init__" 426 136,nrZ "renew" 433 143,nrZ "name_ends" 443 150,nrZ "name_other" 453 157,nrZ "renew_sent" 460 164,nrZ "renew_pace" 467 171,nrZ "renew_come" 474 178,nrZ "is_linked" 481 185,nrZ "unacked_place" 488 192,nrZ "hear" 495 199,nrZ "put_off" 502 206,nrZ "time_place" 510 213,nrZ "time_nothing" 517 220,nrZ "widen" 525 227,nrZ "halve_slow" 532 234,nrZ "linger" 539 241,nrZ "finish" 547 248,nrZ "__static_attributes__" 592 249,nrZ "__dict__" 594 252,nrZ "__weakref__" 596 253,ntZ "__doc__" 597 .none].map (DH P)).toArray 4 },{ cls:=(.type "type"),data:=.cls { name := "Side",bases:=[.type "object"],mro:=[(.ref 251),(.type "object")],ns:=250,qualname := "Side" },slots:=#[none,none,some (.str "Side" 408),some (.str "Side" 416),some (.builtin "object.__new__"),some (.bool true)] },{ cls:=(.type "getset_descriptor"),data:=.fields #[(.str "__dict__" 593),(.ref 251),(.builtin "function.__dict__"),(.builtin "function.__dict__#set")] },{ cls:=(.type "getset_descriptor"),data:=.fields #[(.str "__weakref__" 595),(.ref 251),(.builtin "ExceptionGroup.__weakref__"),.none] },{ cls:=(.type "super"),data:=.fields #[(.ref 251),(.ref 251),(.ref 251)] },{ cls:=(.type "builtin_function_or_method"),data:=.fields #[(.builtin "object.__init_subclass__"),(.ref 251)] }]++(aV 256 606 bH Bp 229++(aV 263 615 bH vJ 231++(aV 270 624 bH qw 233++(aV 277 631 bH iM 235++(aV 284 638 bH iK 237++(aV 291 648 bH FI 247++(aV 298 659 bH sE 254++(aV 305 666 bH oA 256++(aV 312 673 bH yE 258++(aV 319 680 bH mM 264))))))))))))))
noncomputable def ap3 (P:Params):List Obj:=aV 326 690 bH mG 267++(aV 333 702 bH g9 279++(aV 340 711 bH qu 282++(aV 347 720 bH ke 286++(aV 354 728 bH oy 290++(aV 361 737 bH qv 305++(aV 368 745 bH jw 313++(aV 375 752 bH gu 316++(aV 382 760 bH oz 322++(aV 389 774 lM sF 332++(g5Z 396 783 "streamside.acking" 770 "let_go" "let_go" (top 67) 345 2++(aV 401 789 lM mI 350++(aV 408 797 lM ka 366++(aV 415 806 lM jv 375++(aV 422 813 lM ju 381))))))))))))))
noncomputable def ap4 (P:Params):List Obj:=aV 429 820 lM qr 389++(aV 436 833 cS Br 396++(aV 443 842 cS hC 401++(aV 450 851 cS jy 410++(aV 457 861 cS kU 424++(aV 464 868 cS Bs 432++(aV 471 879 cS iO 442++(aV 478 889 cS kb 451++(aV 485 899 cS kX 458++(aV 492 908 cS kR 463++(aV 499 921 cS oG 484++(aV 506 933 cS ot 492++(aV 513 945 cS oI 507++(aV 520 956 cS oE 512++(aV 527 964 cS jx 515))))))))))))))
noncomputable def ap5 (P:Params):List Obj:=aV 534 972 cS fN 525++(aV 541 979 cS Bt 533++(aV 548 998 gb yC 545++(aV 555 1006 gb mJ 555++(aV 562 1013 gb iN 557++(aV 569 1020 gb kP 567++(aV 576 1027 gb kT 570++(aV 583 1034 gb mF 578++(aV 590 1042 gb kW 596++(aV 597 1049 gb oF 600++(aV 604 1057 gb FJ 603++(aV 611 1064 gb om 609++(aV 618 1104 cT mK 632++(aV 625 1111 cT sJ 634++(aV 632 1118 cT sM 636))))))))))))))
noncomputable def ap6 (P:Params):List Obj:=aV 639 1125 cT sI 638++(aV 646 1132 cT sL 640++(aV 653 1139 cT yA 642++(aV 660 1148 cT mN 646++(aV 667 1161 cT iJ 658++(aV 674 1172 cT kd 666++(aV 681 1181 cT ou 670++(aV 688 1192 cT iL 683++(aV 695 1200 cT uw 692++(aV 702 1212 cT Bq 702++(aV 709 1222 cT yD 716++(aV 716 1231 cT yB 723++(aV 723 1239 cT Bo 733++(aV 730 1247 cT sG 738++(aV 737 1256 cT qm 745))))))))))))))
noncomputable def ap7 (P:Params):List Obj:=aV 744 1264 cT qo 750++([{ cls:=(.type "dict"),data:=.dict #[⟨1,(.int 1 1296),(.int 6 1297)⟩,⟨2,(.int 2 1298),(.int 4 1299)⟩,⟨3,(.int 3 1300),(.int 2 1301)⟩,⟨4,(.int 4 1302),(.int 1 1303)⟩,⟨5,(.int 5 1304),(.int 2 1305)⟩,⟨6,(.int 6 1306),(.int 1 1307)⟩,⟨7,(.int 7 1308),(.int 1 1309)⟩,⟨8,(.int 8 1310),(.int 1 1311)⟩,⟨9,(.int 9 1312),(.int 2 1313)⟩,⟨10,(.int 10 1314),(.int 0 1315)⟩,⟨11,(.int 11 1316),(.int 0 1317)⟩] 11 },{ cls:=(.type "tuple"),data:=.seq #[(.int 3 1330),(.int 4 1331)] }]++(aV 753 1333 Bb oH 768++(aV 760 1343 Bb qx 790++(aV 767 1352 Bb iP 797))))
noncomputable def apA (P:Params):List Obj:=ap0 P++(ap1 P++(ap2 P++(ap3 P++(ap4 P++(ap5 P++(ap6 P++(ap7 P)))))))
noncomputable def en0:List (Str×Nat×Value):=[ntZ "__doc__" 166 .none,ntZ "__package__" 167 .none,ntZ "__loader__" 168 (.builtin "__main__.__loader__#opaque"),ntZ "__spec__" 169 .none,nrZ "__annotations__" 170 6,nrZ "__builtins__" 171 4,ntZ "__file__" 173 (.str "/claim/cut.py" 172),ntZ "__cached__" 174 .none,niZ "BEGIN" 190 1 189,niZ "END" 192 2 191,niZ "ACKS" 194 4 193,niZ "RESET" 196 8 195,niZ "ALL_FLAGS" 198 15 197,niZ "HEAD_SIZE" 200 20 199,niZ "RANGE_SIZE" 202 8 201,niZ "MOST_RANGES" 204 4 203,niZ "MOST_DATA" 206 1400 205,nrZ "Segment" 254 38,nrZ "bytes_of" 260 47,nrZ "number_in" 271 54,nrZ "sum_of" 282 61,nrZ "written_out" 294 68,nrZ "has_form" 302 75,nrZ "read_segment" 314 82,niZ "MODULUS" 318 4294967296 317]
noncomputable def en1:List (Str×Nat×Value):=[niZ "HALF" 320 2147483648 319,nrZ "number_of" 328 89,nrZ "place_near" 339 96,nrZ "with_range" 345 101,nrZ "behind_ranges" 354 108,nrZ "up_to_range" 364 115,nrZ "with_piece" 377 122,niZ "NO_PHASE" 381 0 380,niZ "WAITS" 383 1 382,niZ "HAS_BEGUN" 385 2 384,niZ "HAS_ANSWERED" 387 3 386,niZ "IS_OPEN" 389 4 388,niZ "LINGERS" 391 5 390,niZ "IS_OVER" 393 6 392,niZ "BOTH_ENDED" 395 1 394,niZ "RESET_BY_OTHER" 397 2 396,niZ "NOBODY_ANSWERS" 399 3 398,niZ "RESET_HERE" 401 4 400,niZ "MOST_WIDE" 403 1048576 402,niZ "MOST_WAIT" 405 60000 404,niZ "LINGER_TIME" 407 60000 406,nrZ "Side" 599 251,niZ "MOST_UNREAD" 603 65536 602,niZ "FIRST_WINDOW" 605 1024 604,nrZ "send" 614 262]
noncomputable def en2:List (Str×Nat×Value):=[nrZ "refuse" 623 269,nrZ "new_edge" 630 276,nrZ "edge_has_moved" 637 283,nrZ "tell_what_came" 647 290,nrZ "say" 658 297,nrZ "say_ack" 665 304,nrZ "say_begin" 672 311,nrZ "begin" 679 318,nrZ "bytes_from" 689 325,nrZ "send_bytes" 701 332,nrZ "send_next_bytes" 710 339,nrZ "sendable" 719 346,nrZ "is_held_back" 727 353,nrZ "send_step" 736 360,nrZ "send_all" 744 367,nrZ "send_one_byte" 751 374,nrZ "may_be_sent_anew" 759 381,nrZ "send_anew" 769 388,niZ "LEAST_WAIT" 773 200 772,nrZ "measure" 782 395,nrZ "let_go" 788 400,nrZ "pace_after" 796 407,nrZ "take_new_ack" 805 414,nrZ "start_mending" 812 421,nrZ "take_same_ack" 819 428]
noncomputable def en3:List (Str×Nat×Value):=[nrZ "take_ack" 828 435,niZ "ACK_DELAY" 832 40 831,nrZ "meet" 841 442,nrZ "come_to_waiting" 850 449,nrZ "come_to_begun" 860 456,nrZ "become_open" 867 463,nrZ "fits" 878 470,nrZ "come_to_linked" 888 477,nrZ "take_fitting" 898 484,nrZ "acked_place" 907 491,nrZ "take_acking" 920 498,nrZ "hold_told" 932 505,nrZ "take_data" 944 512,nrZ "add_piece" 955 519,nrZ "learn_end" 963 526,nrZ "make_readable" 971 533,nrZ "end_if_both_ended" 978 540,nrZ "come" 987 547,niZ "MOST_BEGINS" 991 5 990,niZ "MOST_TRIES" 993 8 992,niZ "MOST_ASKINGS" 995 5 994,niZ "ASKING_TIME" 997 10000 996,nrZ "go_on" 1005 554,nrZ "owes_later" 1012 561,nrZ "do_what_is_due" 1019 568]
noncomputable def en4:List (Str×Nat×Value):=[nrZ "wait_longer" 1026 575,nrZ "begin_again" 1033 582,nrZ "start_over" 1041 589,nrZ "asking_time" 1048 596,nrZ "is_to_ask" 1056 603,nrZ "ask" 1063 610,nrZ "times_due" 1072 617,ntZ "MAY_NOT_BE" 1077 (.int (-1) 1076),ntZ "NOT_THE_STREAMS" 1080 (.int (-2) 1079),ntZ "NO_SEGMENT" 1083 (.int (-3) 1082),ntZ "WRONG_PHASE" 1086 (.int (-4) 1085),ntZ "HAS_ENDED" 1089 (.int (-6) 1088),niZ "MOST_ADDRESS" 1091 4294967294 1090,niZ "MOST_PORT" 1093 65535 1092,niZ "MOST_BASE" 1095 4294967295 1094,niZ "MOST_TIME" 1097 4611686018427387904 1096,niZ "MOST_KEPT" 1099 2147483648 1098,niZ "MOST_UNACKED" 1101 65536 1100,niZ "MOST_WRITTEN" 1103 1073741824 1102,nrZ "is_address" 1110 624,nrZ "is_port" 1117 631,nrZ "is_base" 1124 638,nrZ "is_time" 1131 645,nrZ "is_idle" 1138 652,nrZ "start" 1147 659]
noncomputable def en5:List (Str×Nat×Value):=[nrZ "begin_side" 1160 666,nrZ "wait_for_begin" 1171 673,nrZ "is_of_stream" 1180 680,nrZ "take_come" 1191 687,nrZ "go_on_to_write" 1199 694,nrZ "write" 1211 701,nrZ "read" 1221 708,nrZ "close" 1230 715,nrZ "reset" 1238 722,nrZ "tick" 1246 729,nrZ "keep_up" 1255 736,nrZ "tell_due" 1263 743,nrZ "tell_all" 1273 750,niZ "BEGIN_SIDE" 1277 1 1276,niZ "WAIT_FOR_BEGIN" 1279 2 1278,niZ "TAKE_COME" 1281 3 1280,niZ "WRITE" 1283 4 1282,niZ "READ" 1285 5 1284,niZ "CLOSE" 1287 6 1286,niZ "RESET_SIDE" 1289 7 1288,niZ "TICK" 1291 8 1290,niZ "KEEP_UP" 1293 9 1292,niZ "TELL_DUE" 1295 10 1294,nrZ "NUMBERS" 1329 751,nrZ "WITH_ROW" 1332 752]
noncomputable def en6:List (Str×Nat×Value):=[nrZ "answer_of" 1342 759,nrZ "laid_out" 1351 766,nrZ "answers" 1366 773]
noncomputable def enA:List (Str×Nat×Value):=en0++(en1++(en2++(en3++(en4++(en5++(en6))))))
noncomputable def cs (l:List (Nat×Nat)):List Value:=l.flatMap fun x=>[.int x.1 0,.int 0 0,.ref x.2]
noncomputable def csA:List (Nat×Nat):=[(11,20),(25,46),(27,53),(32,60),(40,67),(49,74),(54,81),(69,88),(71,95),(79,100),(87,107),(92,114),(97,121),(125,128),(229,261),(231,268),(233,275),(235,282),(237,289),(247,296),(254,303),(256,310),(258,317),(264,324),(267,331),(279,338),(282,345),(286,352),(290,359),(305,366),(313,373),(316,380),(322,387),(332,394),(345,399),(350,406),(366,413),(375,420),(381,427),(389,434),(396,441),(401,448),(410,455),(424,462),(432,469),(442,476),(451,483),(458,490),(463,497),(484,504),(492,511),(507,518),(512,525),(515,532),(525,539),(533,546),(545,553),(555,560),(557,567),(567,574),(570,581),(578,588),(596,595),(600,602),(603,609),(609,616),(632,623),(634,630),(636,637),(638,644),(640,651),(642,658),(646,665),(658,672),(666,679),(670,686),(683,693),(692,700),(702,707),(716,714),(723,721),(733,728),(738,735),(745,742),(750,749),(768,758),(790,765),(797,772)]
noncomputable def KS (P:Params) (m n c:Nat) (nm:Value):Heap:={ objs:=((boot_heap P).objs.toList.take 3++({ cls:=.type "dict",data:=.dict ((DH P ("__name__",165,nm))::((enA.take n).map (DH P))).toArray (n+1) }::((boot_heap P).objs.toList.drop 4++({ cls:=(.type "tuple"),data:=.seq #[] }::(fiZ ((cs csA).take (3*c))::({ cls:=(.type "code"),data:=.fields #[(.str "<module>" 182),(.str "<module>" 183),(.str "/claim/cut.py" 184),(.int 1 0),(.int 0 0),(.int 0 0),(.int 0 0),(.int 0 0),(.ref 11),(.bool false),(.int 181 0),(.ref 12),.none,.none,.none,.none,(.int 185 0),(.int 1 0),(.str "/claim/cut.py" 186)] }::({ cls:=(.type "frame"),data:=.plain,slots:=#[some (.ref 13),some (.ref 3),some (.ref 3),none,some (.str "__main__" 164),none,some (.ref 0)] }::(apA P).take m))))))).toArray }
noncomputable def xN (w:World) (os:OsState) (m n c k:Nat) (nm:Value):Shared:=⟨KS w.params m n c nm,#[],boot_drawn,k,os⟩
noncomputable def vE:Env:={ scope:=pw.main.scope,locals:=mainNs,globals:=mainNs,cells:=[],code:=.ref 13,frame:=some 14 }
noncomputable def kh:Code:=.body (behindTheImports pw) vE
noncomputable abbrev sT0 (w:World) (os:OsState):Shared:=xN w os 0 8 0 187 (.str "__main__" 164)
noncomputable abbrev sT1 (w:World) (os:OsState):Shared:=xN w os 68 26 7 321 (.str "streamside.places" 315)
noncomputable abbrev sT2 (w:World) (os:OsState):Shared:=xN w os 108 46 13 408 (.str "streamside.state" 378)
noncomputable abbrev sT3 (w:World) (os:OsState):Shared:=xN w os 241 47 14 600 (.str "streamside.state" 378)
noncomputable abbrev sT4 (w:World) (os:OsState):Shared:=xN w os 367 67 32 760 (.str "streamside.sending" 600)
noncomputable abbrev sT5 (w:World) (os:OsState):Shared:=xN w os 491 87 50 933 (.str "streamside.coming" 829)
noncomputable abbrev sT6 (w:World) (os:OsState):Shared:=xN w os 603 111 66 1087 (.str "streamside.calls" 1073)
noncomputable abbrev sT7 (w:World) (os:OsState):Shared:=xN w os 715 135 82 1247 (.str "streamside.calls" 1073)
noncomputable abbrev sT8 (w:World) (os:OsState):Shared:=xN w os 759 153 88 1367 (.str "streamside.side" 1274)
noncomputable def lT0:List Stmt:=(pw.main.body.drop 0).take 20
noncomputable def lT1:List Stmt:=(pw.main.body.drop 20).take 21
noncomputable def lT2:List Stmt:=(pw.main.body.drop 41).take 1
noncomputable def lT3:List Stmt:=(pw.main.body.drop 42).take 21
noncomputable def lT4:List Stmt:=(pw.main.body.drop 63).take 22
noncomputable def lT5:List Stmt:=(pw.main.body.drop 85).take 26
noncomputable def lT6:List Stmt:=(pw.main.body.drop 111).take 24
noncomputable def lT7:List Stmt:=(pw.main.body.drop 135).take 19
theorem pT0 (w:World) (os:OsState):segRun treeTable pw w 11 (some (.ref 6)) 1 573 (sT0 w os) (piecesOf lT0 vE kh ⟨0,0,0,0⟩ [topFrame ⟨0,0,0,0⟩])=some (.next,sT1 w os,kh,⟨68,0,68,4⟩):=by kernel_rfl
theorem pT1 (w:World) (os:OsState):segRun treeTable pw w 11 (some (.ref 6)) 1 323 (sT1 w os) (piecesOf lT1 vE kh ⟨68,0,68,4⟩ [topFrame ⟨0,0,0,0⟩])=some (.next,sT2 w os,kh,⟨124,0,124,11⟩):=by kernel_rfl
theorem pT2 (w:World) (os:OsState):segRun treeTable pw w 11 (some (.ref 6)) 1 770 (sT2 w os) (piecesOf lT2 vE kh ⟨124,0,124,11⟩ [topFrame ⟨0,0,0,0⟩])=some (.next,sT3 w os,kh,⟨125,0,225,21⟩):=by kernel_rfl
theorem pT3 (w:World) (os:OsState):segRun treeTable pw w 11 (some (.ref 6)) 1 578 (sT3 w os) (piecesOf lT3 vE kh ⟨125,0,225,21⟩ [topFrame ⟨0,0,0,0⟩])=some (.next,sT4 w os,kh,⟨316,0,321,30⟩):=by kernel_rfl
theorem pT4 (w:World) (os:OsState):segRun treeTable pw w 11 (some (.ref 6)) 1 596 (sT4 w os) (piecesOf lT4 vE kh ⟨316,0,321,30⟩ [topFrame ⟨0,0,0,0⟩])=some (.next,sT5 w os,kh,⟨484,0,491,60⟩):=by kernel_rfl
theorem pT5 (w:World) (os:OsState):segRun treeTable pw w 11 (some (.ref 6)) 1 593 (sT5 w os) (piecesOf lT5 vE kh ⟨484,0,491,60⟩ [topFrame ⟨0,0,0,0⟩])=some (.next,sT6 w os,kh,⟨623,0,623,11⟩):=by kernel_rfl
theorem pT6 (w:World) (os:OsState):segRun treeTable pw w 11 (some (.ref 6)) 1 573 (sT6 w os) (piecesOf lT6 vE kh ⟨623,0,623,11⟩ [topFrame ⟨0,0,0,0⟩])=some (.next,sT7 w os,kh,⟨733,0,737,14⟩):=by kernel_rfl
theorem pT7 (w:World) (os:OsState):segRun treeTable pw w 11 (some (.ref 6)) 1 458 (sT7 w os) (piecesOf lT7 vE kh ⟨733,0,737,14⟩ [topFrame ⟨0,0,0,0⟩])=some (.next,sT8 w os,kh,⟨797,0,814,15⟩):=byRow2 "special-get-raises" (P:=fun w=>∀os:OsState,segRun treeTable pw w 11 (some (.ref 6)) 1 458 (sT7 w os) (piecesOf lT7 vE kh ⟨733,0,737,14⟩ [topFrame ⟨0,0,0,0⟩])=some (.next,sT8 w os,kh,⟨797,0,814,15⟩)) (fun w os=>by kernel_rfl) (fun w os=>by kernel_rfl) w os
theorem prT (w:World) (os:OsState):topGo treeTable pw w 11 (some (.ref 6)) 12 ⟨boot_heap w.params,Array.mk [],boot_drawn,boot_toks,os⟩ (topStub pw)=some (sT0 w os,⟨denote treeTable kh,kh,⟨0,0,0,0⟩,[topFrame ⟨0,0,0,0⟩]⟩):=by kernel_rfl
theorem blT (w:World) (os:OsState):segRun treeTable pw w 11 (some (.ref 6)) 1 1 (sT0 w os) (blockOf (behindTheImports pw) vE kh ⟨0,0,0,0⟩ [topFrame ⟨0,0,0,0⟩])=some (.next,sT0 w os,kh,⟨0,0,0,0⟩):=by kernel_rfl
theorem fT (w:World) (os:OsState):topRun treeTable pw w 11 (some (.ref 6)) 2 (sT8 w os) ⟨doneF .next,kh,⟨797,0,814,15⟩,[topFrame ⟨0,0,0,0⟩]⟩=some (sT8 w os):=by kernel_rfl
theorem bdT:behindTheImports pw=lT0++(lT1++(lT2++(lT3++(lT4++(lT5++(lT6++(lT7++([]:List Stmt)))))))):=by kernel_rfl
theorem rnT (w:World) (os:OsState):topRun treeTable pw w 11 (some (.ref 6)) (12+(1+(573+(323+(770+(578+(596+(593+(573+(458+2)))))))))) ⟨boot_heap w.params,Array.mk [],boot_drawn,boot_toks,os⟩ (topStub pw)=some (sT8 w os):=by
 refine go_top (prT w os) (piece_block (b:=behindTheImports pw) (blT w os) ?_);have h:=piece_app (pT0 w os) (piece_app (pT1 w os) (piece_app (pT2 w os) (piece_app (pT3 w os) (piece_app (pT4 w os) (piece_app (pT5 w os) (piece_app (pT6 w os) (piece_app (pT7 w os) (piece_nil (fT w os)))))))));rw [←bdT] at h;exact h
theorem opT:∀w:World,(fencedOpening treeTable pw w 9038).map (fun s=>(s.heap,s.gens,s.drawn,s.toks))=some (boot_heap w.params,Array.mk [],boot_drawn,boot_toks):=boot_open (by kernel_rfl) (by decide) (fun s=>by kernel_rfl)
theorem szT:∀w:World,((boot_heap w.params).isNs mainGlobals && (Array.mk []:Array GenState).size == 0,(boot_heap w.params).objs.size,(boot_heap w.params).nsMap mainGlobals "__annotations__")=(true,11,some (.ref 6)):=fun w=>by kernel_rfl
noncomputable def rdK (as:List Addr) (h:Heap):PySem.W.Frag:=as.filterMap fun a=>(h.get? a).map fun o=>(a,o)
noncomputable def stp:Value→Value
 | .int i _=>.int i 0
 | v=>v
noncomputable def fnS (K:PySem.W.Frag) (f:Addr):Option (Str×Str×Arguments×FuncBody×Scope×Addr×List (Str×Addr)×Value×Addr×Bool×Value):=match K.lookup f with
 | some ⟨c,_,.func d,_⟩=>some (d.name,d.qualname,d.params,d.body,d.scope,d.globals,d.closure,d.defaults,d.builtins,PySem.W.codeIn K d.code d.qualname,c)
 | _=>none
noncomputable def fnE (x q:Str) (st:Stmt):Option (Str×Str×Arguments×FuncBody×Scope×Addr×List (Str×Addr)×Value×Addr×Bool×Value):=some (x,q,fG st,.stmts (eG st),bB st,mainGlobals,[],.none,builtinsNs,true,.type "function")
noncomputable def clS (K:PySem.W.Frag) (C:Addr):Bool×Bool×Bool×Option (Option Value)×Bool×Bool:=(PySem.W.plainGet K C Str.empty,PySem.W.hasDictIn K C,PySem.W.plainOver K C,PySem.W.findIn K (.ref C) "__setattr__",PySem.W.makesIn K C,PySem.W.keepIn K (.ref C))
noncomputable def clE:Bool×Bool×Bool×Option (Option Value)×Bool×Bool:=(true,true,true,some (some (.builtin "object.__setattr__")),true,true)
noncomputable def HX (e:DictEntry):Int×Value×Value:=(e.hash,stp e.key,stp e.val)
noncomputable def HZ (K:PySem.W.Frag) (d:Addr):Option (Value×Option Addr×List (Option Value)×List (Int×Value×Value)):=match K.lookup d with
 | some ⟨c,od,.dict es _,sl⟩=>some (c,od,sl.toList,es.toList.map HX)
 | _=>none
noncomputable def JR:Option (Value×Option Addr×List (Option Value)×List (Int×Value×Value)):=some (.type "dict",none,[],[(1,.int 1 0,.int 6 0),(2,.int 2 0,.int 4 0),(3,.int 3 0,.int 2 0),(4,.int 4 0,.int 1 0),(5,.int 5 0,.int 2 0),(6,.int 6 0,.int 1 0),(7,.int 7 0,.int 1 0),(8,.int 8 0,.int 1 0),(9,.int 9 0,.int 2 0),(10,.int 10 0,.int 0 0),(11,.int 11 0,.int 0 0)])
noncomputable def GR (K:PySem.W.Frag) (d:Addr):Option (Value×List Value):=match K.lookup d with
 | some ⟨c,_,.seq xs _,_⟩=>some (c,xs.toList.map stp)
 | _=>none
noncomputable def Jm:Option (Value×List Value):=some (.type "tuple",[.int 3 0,.int 4 0])
noncomputable def lB:List Str:=["abs", "len", "max", "min", "range", "sum"]
noncomputable def lO:List (Str×Addr):=[("Segment",38),("Side",251),("NUMBERS",751),("WITH_ROW",752)]
noncomputable def adT:AD:=⟨38,251,751,752⟩
noncomputable def asK:List Addr:=3::(adT.aE - 1)::adT.aE::(adT.aA - 1)::adT.aA::adT.jR::adT.iU::tb.flatMap fun d=>[d.f - 1,d.f]
noncomputable def gdS (K:PySem.W.Frag) (x:Str):Nat→Option (Option Value)
 | 0=>PySem.W.nsIn K mainGlobals x
 | 1=>PySem.W.findIn K (.ref adT.aA) x
 | _=>PySem.W.findIn K (.ref adT.aE) x
noncomputable def Obs (K:PySem.W.Frag):=(tb.map (fun d=>fnS K d.f),tb.map (fun d=>gdS K d.x d.c),qZ.map (gdS K · 2),j6.map (gdS K · 1),lC.map (fun z=>(gdS K z.1 0).map (·.map stp)),lB.map (gdS K · 0),lO.map (fun z=>gdS K z.1 0),clS K adT.aE,clS K adT.aA,HZ K adT.jR,GR K adT.iU)
noncomputable def Exs:=(tb.map (fun d=>fnE d.x d.q d.s),tb.map (fun d=>some (some (Value.ref d.f))),qZ.map (fun _=>(some none:Option (Option Value))),j6.map (fun _=>(some none:Option (Option Value))),lC.map (fun z=>some (some (Value.int z.2 0))),lB.map (fun _=>(some none:Option (Option Value))),lO.map (fun z=>some (some (Value.ref z.2))),clE,clE,JR,Jm)
noncomputable def B4:Program:={ PySem.Challenge.pw_streamside_s01_answers with main:={ PySem.Challenge.pw_streamside_s01_answers.main with body:=[iP.s] } }
noncomputable def xZ:List Str:=(tb.filter (·.c == 0)).dropLast.map (·.x)++lC.map (·.1)++lO.map (·.1)
noncomputable def DD (P:Params):Heap:=KS P 759 153 88 (.str "streamside.side" 1274)
theorem lkT:∀w:World,(fun os=>((staticsOk (importedModules pw.main.body) (boot_heap w.params) (DD w.params) && namesBound pw (DD w.params) && gensDone ⟨DD w.params,Array.mk [],boot_drawn,1367,os⟩ && laidKept (boot_heap w.params) (DD w.params)),
  openSeen B4 xZ (importedModules pw.main.body) (fun _=>true) true ⟨DD w.params,Array.mk [],boot_drawn,1367,os⟩,Obs (rdK asK (DD w.params))))=fun _=>(true,openGood B4 xZ,Exs):=fun w=>by kernel_rfl
theorem KP:LeftO pw B4 xZ (fun _=>true) (fun s=>Obs (rdK asK s.heap)) (fun _=>Exs) 9038 true:=LeftO.of_pieces opT szT rnT (by decide) lkT
noncomputable abbrev rr:=PySem.Challenge.rw_streamside_s01_answers
theorem Lp {a b c d e f:Bool} (h1:a=true) (h2:b=true) (h3:c=true) (h4:d=true) (h5:e=true) (h6:f=true):(a && b && c && d && e && f)=true:=by rw [h1,h2,h3,h4,h5,h6];rfl
theorem rw3:namesResolve pw=true:=by kernel_rfl
theorem rw5:noRoadLSs { strict:=!(importedModules pw.main.body).all cThrough.contains,foot:=none,bare:=(["vars", "dir", "locals"]:List Str).filter (readsOut pw pw.main.body) } pw.main.body=true:=by kernel_rfl
theorem rw6:(namesMeet pw pw.main.body fun _ n=>attrL n)=true:=by kernel_rfl
theorem rwT:pw.tablesWhole=true:=by kernel_rfl
theorem rwO:looksOpen pw=true:=Lp (by kernel_rfl) (by kernel_rfl) rw3 (by kernel_rfl) rw5 rw6
theorem rwW:rr.wellSaid=true:=Lp rwO (by kernel_rfl) (by kernel_rfl) (by kernel_rfl) (by kernel_rfl) (by kernel_rfl)
theorem rwB:rr.prog.bare:=⟨rfl,rfl,rfl,rfl,rfl,rwT⟩
end
theorem ck {CX:CXT} {P:Program} {w:World} {K:PySem.W.Frag} {mg:Str→Option Value} {base:Heap} {N:List Str} {qual:Str} {scope:Scope} {f:Addr} {cd:Value} {A:Around} {outer:List Env} {s:Shared} {H:Hp} {E:XK} :
  (Aj CX P w K mg base N qual scope f cd A outer s H E).K=K:=rfl
local macro_rules | `(tactic| tm_at "ck")=>`(tactic| try simp only [ck])
section
variable {X:Cx} {a:Expr} {ta:TE} {pos:Pos}
noncomputable def qE (K:PySem.W.Frag) (ta:TE):TE:=fun σ H Q=>ta σ H fun x H1=>∃k,Iy K x H1 k∧Q (.bl (!k)) H1
theorem uq (ha:PE X a ta):PE X (.UnaryOp .Not a pos) (qE X.K ta):=by
 intro pins s σ H Q I h;refine UnaryOp_ (thn (ha pins s σ H _ I h) fun v s1 ⟨x,H1,I1,r1,k,tr,q⟩=>?_);refine not_of (thn (D9 pins s1 σ H1 x v (fun b H2=>Q (.bl (!b)) H2) I1 r1 ⟨k,tr,q⟩) fun b s2 ⟨H2,I2,q2⟩=>?_);exact ⟨.bl (!b),H2,I2,rfl,q2⟩
end
section
variable {K:PySem.W.Frag} {σ:L2.St} {H:Hp} {Q:VK} {D:Ends} {ta tb tc:TE} {v:V} {r:L2.St} {a0 a1 a2 a3 a4 a5 a6 a7 a8 a9:Option V}
theorem v0 (k:Q v H):aR 0 (some v::r) H Q:=⟨v,rfl,k⟩
instance  : Stp (aR 0 (some v::r) H Q) (Q v H):=⟨v0⟩
theorem v1 (k:Q v H):aR 1 (a0::some v::r) H Q:=⟨v,rfl,k⟩
instance  : Stp (aR 1 (a0::some v::r) H Q) (Q v H):=⟨v1⟩
theorem v2 (k:Q v H):aR 2 (a0::a1::some v::r) H Q:=⟨v,rfl,k⟩
instance  : Stp (aR 2 (a0::a1::some v::r) H Q) (Q v H):=⟨v2⟩
theorem v3 (k:Q v H):aR 3 (a0::a1::a2::some v::r) H Q:=⟨v,rfl,k⟩
instance  : Stp (aR 3 (a0::a1::a2::some v::r) H Q) (Q v H):=⟨v3⟩
theorem v4 (k:Q v H):aR 4 (a0::a1::a2::a3::some v::r) H Q:=⟨v,rfl,k⟩
instance  : Stp (aR 4 (a0::a1::a2::a3::some v::r) H Q) (Q v H):=⟨v4⟩
theorem v5 (k:Q v H):aR 5 (a0::a1::a2::a3::a4::some v::r) H Q:=⟨v,rfl,k⟩
instance  : Stp (aR 5 (a0::a1::a2::a3::a4::some v::r) H Q) (Q v H):=⟨v5⟩
theorem v6 (k:Q v H):aR 6 (a0::a1::a2::a3::a4::a5::some v::r) H Q:=⟨v,rfl,k⟩
instance  : Stp (aR 6 (a0::a1::a2::a3::a4::a5::some v::r) H Q) (Q v H):=⟨v6⟩
theorem v7 (k:Q v H):aR 7 (a0::a1::a2::a3::a4::a5::a6::some v::r) H Q:=⟨v,rfl,k⟩
instance  : Stp (aR 7 (a0::a1::a2::a3::a4::a5::a6::some v::r) H Q) (Q v H):=⟨v7⟩
theorem v8 (k:Q v H):aR 8 (a0::a1::a2::a3::a4::a5::a6::a7::some v::r) H Q:=⟨v,rfl,k⟩
instance  : Stp (aR 8 (a0::a1::a2::a3::a4::a5::a6::a7::some v::r) H Q) (Q v H):=⟨v8⟩
theorem b_c (k:Q v H):tC v σ H Q:=k
instance  : Stp (tC v σ H Q) (Q v H):=⟨b_c⟩
theorem Ii {r:R2} (k:ta σ H fun x H1=>tb σ H1 fun y H2=>r x y H2 Q):tOp r ta tb σ H Q:=k
instance {r:R2}:Stp (tOp r ta tb σ H Q) (ta σ H fun x H1=>tb σ H1 fun y H2=>r x y H2 Q):=⟨Ii⟩
theorem LF {r:V→Hp→VK→Prop} (k:ta σ H fun x H1=>r x H1 Q):tUn r ta σ H Q:=k
instance {r:V→Hp→VK→Prop}:Stp (tUn r ta σ H Q) (ta σ H fun x H1=>r x H1 Q):=⟨LF⟩
theorem BC {g:Int→Int→V} {i j:Int} (k:Q (g i j) H):rI0 g (.int i) (.int j) H Q:=⟨i,j,rfl,rfl,k⟩
instance {g:Int→Int→V} {i j:Int}:Stp (rI0 g (.int i) (.int j) H Q) (Q (g i j) H):=⟨BC⟩
theorem xD {g:Int→Int→V} {i j:Int} (c:0<j) (k:Q (g i j) H):rI (fun _ j=>0<j) g (.int i) (.int j) H Q:=⟨i,j,rfl,rfl,c,k⟩
theorem xE {g:Int→Int→V} {i j:Int} (c:0<j) (c':j<1073741824) (k:Q (g i j) H):rI Ls g (.int i) (.int j) H Q:=⟨i,j,rfl,rfl,⟨c,c'⟩,k⟩
theorem vU {g:Int→Int→V} {i j:Int} (c:-18446744073709551616<i) (c':i<18446744073709551616) (k:Q (g i j) H):rI DY g (.int i) (.int j) H Q:=⟨i,j,rfl,rfl,.inl ⟨c,c'⟩,k⟩
theorem vT {g:Int→Int→V} {i j:Int} (c:-18446744073709551616<j) (c':j<18446744073709551616) (k:Q (g i j) H):rI DY g (.int i) (.int j) H Q:=⟨i,j,rfl,rfl,.inr ⟨c,c'⟩,k⟩
theorem Ld {g:Int→Int→V} {i j:Int} (c:0≤j) (k:Q (g i j) H):rI (fun _ j=>0≤j) g (.int i) (.int j) H Q:=⟨i,j,rfl,rfl,c,k⟩
theorem b_u {g:Int→V} {i:Int} (k:Q (g i) H):rU g (.int i) H Q:=⟨i,rfl,k⟩
instance {g:Int→V} {i:Int}:Stp (rU g (.int i) H Q) (Q (g i) H):=⟨b_u⟩
theorem bO {t u:TS} (k:t { D with nx:=u D } σ H):aP t u D σ H:=k
theorem Ge (k:D.nx σ H):qF D σ H:=k
instance  : Stp (qF D σ H) (D.nx σ H):=⟨Ge⟩
theorem xC (k:ta σ H D.rt):pG ta D σ H:=k
theorem yK (k:D.rt .non H):IF D σ H:=k
theorem J6 (k:ta σ H fun _ H1=>D.nx σ H1):fJ ta D σ H:=k
instance  : Stp (fJ ta D σ H) (ta σ H fun _ H1=>D.nx σ H1):=⟨J6⟩
theorem Cr {g:TG} (k:ta σ H fun x H1=>g x σ H1 D.nx):uJ ta g D σ H:=k
instance {g:TG}:Stp (uJ ta g D σ H) (ta σ H fun x H1=>g x σ H1 D.nx):=⟨Cr⟩
theorem DR {c:TT} {t u:TS} (k:c σ H fun b H1=>if b=true then t D σ H1 else u D σ H1):nE c t u D σ H:=k
instance {c:TT} {t u:TS}:Stp (nE c t u D σ H) (c σ H fun b H1=>if b=true then t D σ H1 else u D σ H1):=⟨DR⟩
theorem Lj {c:TT} (k:c σ H fun b H1=>if b=true then ta σ H1 Q else tb σ H1 Q):tIf c ta tb σ H Q:=k
instance {c:TT}:Stp (tIf c ta tb σ H Q) (c σ H fun b H1=>if b=true then ta σ H1 Q else tb σ H1 Q):=⟨Lj⟩
theorem FW {Q:Bool→Hp→Prop} (k:ta σ H fun x H'=>∃k,x = .bl k∧Q k H'):ly ta σ H Q:=k
instance {Q:Bool→Hp→Prop}:Stp (ly ta σ H Q) (ta σ H fun x H'=>∃k,x = .bl k∧Q k H'):=⟨FW⟩
theorem Ig {Q:Bool→Hp→Prop} (k:ta σ H fun x H'=>∃k,x = .bl k∧Q k H'):tB ta σ H Q:=k
instance {Q:Bool→Hp→Prop}:Stp (tB ta σ H Q) (ta σ H fun x H'=>∃k,x = .bl k∧Q k H'):=⟨Ig⟩
theorem wX {c:Bool} {Q:Bool→Prop} (k:Q c):∃k,V.bl c = .bl k∧Q k:=⟨c,rfl,k⟩
instance {c:Bool} {Q:Bool→Prop}:Stp (∃k,V.bl c = .bl k∧Q k) (Q c):=⟨wX⟩
theorem Lm {x y:V} (h:Et x y=true) (k:Q (.bl (decide (x=y))) H):rEq x y H Q:=⟨h,k⟩
theorem g0 {x:V} {N:L2.St→Hp→Prop} (k:N (some x::r) H):da 0 x (a0::r) H N:=k
instance {x:V} {N:L2.St→Hp→Prop}:Stp (da 0 x (a0::r) H N) (N (some x::r) H):=⟨g0⟩
theorem g1 {x:V} {N:L2.St→Hp→Prop} (k:N (a0::some x::r) H):da 1 x (a0::a1::r) H N:=k
instance {x:V} {N:L2.St→Hp→Prop}:Stp (da 1 x (a0::a1::r) H N) (N (a0::some x::r) H):=⟨g1⟩
theorem g2 {x:V} {N:L2.St→Hp→Prop} (k:N (a0::a1::some x::r) H):da 2 x (a0::a1::a2::r) H N:=k
instance {x:V} {N:L2.St→Hp→Prop}:Stp (da 2 x (a0::a1::a2::r) H N) (N (a0::a1::some x::r) H):=⟨g2⟩
theorem g3 {x:V} {N:L2.St→Hp→Prop} (k:N (a0::a1::a2::some x::r) H):da 3 x (a0::a1::a2::a3::r) H N:=k
instance {x:V} {N:L2.St→Hp→Prop}:Stp (da 3 x (a0::a1::a2::a3::r) H N) (N (a0::a1::a2::some x::r) H):=⟨g3⟩
theorem g4 {x:V} {N:L2.St→Hp→Prop} (k:N (a0::a1::a2::a3::some x::r) H):da 4 x (a0::a1::a2::a3::a4::r) H N:=k
instance {x:V} {N:L2.St→Hp→Prop}:Stp (da 4 x (a0::a1::a2::a3::a4::r) H N) (N (a0::a1::a2::a3::some x::r) H):=⟨g4⟩
theorem g5 {x:V} {N:L2.St→Hp→Prop} (k:N (a0::a1::a2::a3::a4::some x::r) H):da 5 x (a0::a1::a2::a3::a4::a5::r) H N:=k
instance {x:V} {N:L2.St→Hp→Prop}:Stp (da 5 x (a0::a1::a2::a3::a4::a5::r) H N) (N (a0::a1::a2::a3::a4::some x::r) H):=⟨g5⟩
theorem g6 {x:V} {N:L2.St→Hp→Prop} (k:N (a0::a1::a2::a3::a4::a5::some x::r) H):da 6 x (a0::a1::a2::a3::a4::a5::a6::r) H N:=k
instance {x:V} {N:L2.St→Hp→Prop}:Stp (da 6 x (a0::a1::a2::a3::a4::a5::a6::r) H N) (N (a0::a1::a2::a3::a4::a5::some x::r) H):=⟨g6⟩
theorem sT {c:Prop} [Decidable c] {A B:Prop} (h1:c→A) (h2:¬c→B):if decide c=true then A else B:=by
 by_cases h:c
 ·rw [decide_eq_true h,if_pos rfl];exact h1 h
 ·rw [decide_eq_false h,if_neg Bool.false_ne_true];exact h2 h
end
section
variable {H:Hp} {D:Ends} {r:L2.St} {a0 a1 a2 a3 a4 a5 a6:Option V}
theorem Ke {te:TE} {ti:TIp} {x:V} (k:te (some x::r) H fun y H1=>ti x y H1 fun z H2=>D.nx (some z::r) H2):nk 0 te ti D (some x::r) H:=⟨x,rfl,k⟩
instance {te:TE} {ti:TIp} {x:V}:Stp (nk 0 te ti D (some x::r) H) (te (some x::r) H fun y H1=>ti x y H1 fun z H2=>D.nx (some z::r) H2):=⟨Ke⟩
theorem Kd {te:TE} {ti:TIp} {x:V} (k:te (a0::some x::r) H fun y H1=>ti x y H1 fun z H2=>D.nx (a0::some z::r) H2):nk 1 te ti D (a0::some x::r) H:=⟨x,rfl,k⟩
instance {te:TE} {ti:TIp} {x:V}:Stp (nk 1 te ti D (a0::some x::r) H) (te (a0::some x::r) H fun y H1=>ti x y H1 fun z H2=>D.nx (a0::some z::r) H2):=⟨Kd⟩
theorem Kc {te:TE} {ti:TIp} {x:V} (k:te (a0::a1::some x::r) H fun y H1=>ti x y H1 fun z H2=>D.nx (a0::a1::some z::r) H2):nk 2 te ti D (a0::a1::some x::r) H:=⟨x,rfl,k⟩
instance {te:TE} {ti:TIp} {x:V}:Stp (nk 2 te ti D (a0::a1::some x::r) H) (te (a0::a1::some x::r) H fun y H1=>ti x y H1 fun z H2=>D.nx (a0::a1::some z::r) H2):=⟨Kc⟩
theorem Gm {te:TE} {ti:TIp} {x:V} (k:te (a0::a1::a2::some x::r) H fun y H1=>ti x y H1 fun z H2=>D.nx (a0::a1::a2::some z::r) H2):nk 3 te ti D (a0::a1::a2::some x::r) H:=⟨x,rfl,k⟩
instance {te:TE} {ti:TIp} {x:V}:Stp (nk 3 te ti D (a0::a1::a2::some x::r) H) (te (a0::a1::a2::some x::r) H fun y H1=>ti x y H1 fun z H2=>D.nx (a0::a1::a2::some z::r) H2):=⟨Gm⟩
theorem Kb {te:TE} {ti:TIp} {x:V} (k:te (a0::a1::a2::a3::some x::r) H fun y H1=>ti x y H1 fun z H2=>D.nx (a0::a1::a2::a3::some z::r) H2):nk 4 te ti D (a0::a1::a2::a3::some x::r) H:=⟨x,rfl,k⟩
instance {te:TE} {ti:TIp} {x:V}:Stp (nk 4 te ti D (a0::a1::a2::a3::some x::r) H) (te (a0::a1::a2::a3::some x::r) H fun y H1=>ti x y H1 fun z H2=>D.nx (a0::a1::a2::a3::some z::r) H2):=⟨Kb⟩
theorem Li {f:Int→Int→Int} {i j:Int} {Q:VK} (k:Q (.int (f i j)) H):ipI f (.int i) (.int j) H Q:=⟨i,j,rfl,rfl,k⟩
instance {f:Int→Int→Int} {i j:Int} {Q:VK}:Stp (ipI f (.int i) (.int j) H Q) (Q (.int (f i j)) H):=⟨Li⟩
end
section
variable {K:PySem.W.Frag} {σ:L2.St} {H:Hp} {Q:VK} {D:Ends} {ta tb tc:TE} {r:L2.St} {a0 a1 a2 a3 a4 a5 a6 a7 a8:Option V}
theorem g7 {x:V} {N:L2.St→Hp→Prop} (k:N (a0::a1::a2::a3::a4::a5::a6::some x::r) H):da 7 x (a0::a1::a2::a3::a4::a5::a6::a7::r) H N:=k
instance {x:V} {N:L2.St→Hp→Prop}:Stp (da 7 x (a0::a1::a2::a3::a4::a5::a6::a7::r) H N) (N (a0::a1::a2::a3::a4::a5::a6::some x::r) H):=⟨g7⟩
theorem g8 {x:V} {N:L2.St→Hp→Prop} (k:N (a0::a1::a2::a3::a4::a5::a6::a7::some x::r) H):da 8 x (a0::a1::a2::a3::a4::a5::a6::a7::a8::r) H N:=k
instance {x:V} {N:L2.St→Hp→Prop}:Stp (da 8 x (a0::a1::a2::a3::a4::a5::a6::a7::a8::r) H N) (N (a0::a1::a2::a3::a4::a5::a6::a7::some x::r) H):=⟨g8⟩
theorem Gc {Q:List V→Hp→Prop} (k:Q [] H):fR σ H Q:=k
instance {Q:List V→Hp→Prop}:Stp (fR σ H Q) (Q [] H):=⟨Gc⟩
theorem BD {tr:TA} {Q:List V→Hp→Prop} (k:ta σ H fun x H1=>tr σ H1 fun xs H2=>Q (x::xs) H2):bM ta tr σ H Q:=k
instance {tr:TA} {Q:List V→Hp→Prop}:Stp (bM ta tr σ H Q) (ta σ H fun x H1=>tr σ H1 fun xs H2=>Q (x::xs) H2):=⟨BD⟩
theorem J7 {sp:Sp} {dvs:List V} {E:XK} {t:TA} (k:t σ H fun vs H1=>sp (vs++dvs) H1 Q E):il sp dvs E t σ H Q:=k
instance {sp:Sp} {dvs:List V} {E:XK} {t:TA}:Stp (il sp dvs E t σ H Q) (t σ H fun vs H1=>sp (vs++dvs) H1 Q E):=⟨J7⟩
theorem LL {r:List V→Hp→VK→Prop} {t:TA} (k:t σ H fun vs H1=>r vs H1 Q):tCB r t σ H Q:=k
instance {r:List V→Hp→VK→Prop} {t:TA}:Stp (tCB r t σ H Q) (t σ H fun vs H1=>r vs H1 Q):=⟨LL⟩
noncomputable def Gz (C:Addr) (m:Str) (x:V) (H:Hp) (P:Prop):Prop:=∃a dx fs,x = .ref a∧H a=some (.ins C dx fs)∧fs.lookup m=none∧P
theorem BB {C:Addr} {m:Str} {sp:Sp} {dvs:List V} {E:XK} {t:TA} (k:ta σ H fun x H1=>Gz C m x H1 (t σ H1 fun vs H2=>sp (x::(vs++dvs)) H2 Q E)):mX C m sp dvs E ta t σ H Q:=k
instance {C:Addr} {m:Str} {sp:Sp} {dvs:List V} {E:XK} {t:TA}:Stp (mX C m sp dvs E ta t σ H Q) (ta σ H fun x H1=>Gz C m x H1 (t σ H1 fun vs H2=>sp (x::(vs++dvs)) H2 Q E)):=⟨BB⟩
theorem Gn {t u:TT} {Q:Bool→Hp→Prop} (k:t σ H fun c H1=>if c=true then u σ H1 Q else Q false H1):xK t u σ H Q:=k
instance {t u:TT} {Q:Bool→Hp→Prop}:Stp (xK t u σ H Q) (t σ H fun c H1=>if c=true then u σ H1 Q else Q false H1):=⟨Gn⟩
theorem LI {t u:TT} {Q:Bool→Hp→Prop} (k:t σ H fun c H1=>if c=true then Q true H1 else u σ H1 Q):tOr t u σ H Q:=k
instance {t u:TT} {Q:Bool→Hp→Prop}:Stp (tOr t u σ H Q) (t σ H fun c H1=>if c=true then Q true H1 else u σ H1 Q):=⟨LI⟩
theorem F8 {t:TT} {Q:Bool→Hp→Prop} (k:t σ H fun c H1=>Q (!c) H1):CO t σ H Q:=k
instance {t:TT} {Q:Bool→Hp→Prop}:Stp (CO t σ H Q) (t σ H fun c H1=>Q (!c) H1):=⟨F8⟩
theorem vW (k:ta σ H fun x H1=>∃c,x = .bl c∧if c=true then tb σ H1 Q else Q (.bl false) H1):qG ta tb σ H Q:=k
instance  : Stp (qG ta tb σ H Q) (ta σ H fun x H1=>∃c,x = .bl c∧if c=true then tb σ H1 Q else Q (.bl false) H1):=⟨vW⟩
theorem Le (k:ta σ H fun x H1=>∃c,x = .bl c∧if c=true then Q (.bl true) H1 else tb σ H1 Q):Jb ta tb σ H Q:=k
instance  : Stp (Jb ta tb σ H Q) (ta σ H fun x H1=>∃c,x = .bl c∧if c=true then Q (.bl true) H1 else tb σ H1 Q):=⟨Le⟩
theorem DS {A B:Prop} (k:A):if true=true then A else B:=by rw [if_pos rfl];exact k
instance {A B:Prop}:Stp (if true=true then A else B) (A):=⟨DS⟩
theorem Ay {A B:Prop} (k:B):if false=true then A else B:=by rw [if_neg Bool.false_ne_true];exact k
instance {A B:Prop}:Stp (if false=true then A else B) (B):=⟨Ay⟩
theorem ki {c:Bool} {A B:Prop} (h1:c=true→A) (h2:¬c=true→B):if c=true then A else B:=by
 by_cases h:c=true
 ·rw [if_pos h];exact h1 h
 ·rw [if_neg h];exact h2 h
theorem Ij {r r':R2} (k:ta σ H fun x H1=>tb σ H1 fun y H2=>r x y H2 fun z H3=>∃k,z = .bl k∧(if k=true then tc σ H3 fun w' H4=>r' y w' H4 Q else Q (.bl false) H3)):xJ r r' ta tb tc σ H Q:=k
instance {r r':R2}:Stp (xJ r r' ta tb tc σ H Q) (ta σ H fun x H1=>tb σ H1 fun y H2=>r x y H2 fun z H3=>∃k,z = .bl k∧(if k=true then tc σ H3 fun w' H4=>r' y w' H4 Q else Q (.bl false) H3)):=⟨Ij⟩
theorem Gh (k:ta σ H fun x H1=>Q (.bl (decide (x = .non))) H1):Jd ta σ H Q:=k
instance  : Stp (Jd ta σ H Q) (ta σ H fun x H1=>Q (.bl (decide (x = .non))) H1):=⟨Gh⟩
theorem JY (k:ta σ H fun x H1=>Q (.bl (!decide (x = .non))) H1):BR ta σ H Q:=k
instance  : Stp (BR ta σ H Q) (ta σ H fun x H1=>Q (.bl (!decide (x = .non))) H1):=⟨JY⟩
theorem IU {i j:Int} (k:Q (.bl (decide (i=j))) H):rEq (.int i) (.int j) H Q:=⟨rfl,by
 have e:decide (V.int i=V.int j)=decide (i=j):=by by_cases h:i=j <;> simp [h]
 rw [e];exact k⟩
instance {i j:Int}:Stp (rEq (.int i) (.int j) H Q) (Q (.bl (decide (i=j))) H):=⟨IU⟩
theorem Lf {i j:Int} (k:Q (.bl (decide (i≠j))) H):rNe (.int i) (.int j) H Q:=⟨rfl,by
 have e:(!decide (V.int i=V.int j))=decide (i≠j):=by by_cases h:i=j <;> simp [h]
 rw [e];exact k⟩
instance {i j:Int}:Stp (rNe (.int i) (.int j) H Q) (Q (.bl (decide (i≠j))) H):=⟨Lf⟩
noncomputable def zw (K:PySem.W.Frag):List V→Hp→VK→Prop:=fun xs H Q=>∃p ys,xs=[.ref p]∧(SqL K H p ys∨SqT K H p ys)∧Q (.int ys.length) H
theorem aM {X:Cx}:kJ X (.builtin "len") (zw X.K):=yG
noncomputable def ED:List V→Hp→VK→Prop:=fun xs H Q=>∃i j,xs=[.int i,.int j]∧Q (.int (if j<i then j else i)) H
theorem eI {X:Cx} (hc:X.calm=true):kJ X (.builtin "min") ED:=DJ hc
noncomputable def B0:List V→Hp→VK→Prop:=fun xs H Q=>∃i j,xs=[.int i,.int j]∧Q (.int (if j > i then j else i)) H
theorem bz {X:Cx} (hc:X.calm=true):kJ X (.builtin "max") B0:=DK hc
noncomputable def Jq:List V→Hp→VK→Prop:=fun xs H Q=>∃i,xs=[.int i]∧Q (.int (if i<0 then -i else i)) H
theorem DL {X:Cx}:kJ X (.builtin "abs") Jq:=FT
theorem tM {q:Addr} {xs:List V} (h:H q=some (.lst xs)) (k:Q (.int xs.length) H):zw K [V.ref q] H Q:=⟨q,_,rfl,.inl (SqL.of h),k⟩
theorem JZ {i j:Int} (k:Q (.int (min i j)) H):ED [V.int i,V.int j] H Q:=⟨i,j,rfl,by
 have e:(if j<i then j else i)=min i j:=by split <;> tm_at "ob"
 rw [e];exact k⟩
instance {i j:Int}:Stp (ED [V.int i,V.int j] H Q) (Q (.int (min i j)) H):=⟨JZ⟩
theorem J0 {i j:Int} (k:Q (.int (max i j)) H):B0 [V.int i,V.int j] H Q:=⟨i,j,rfl,by
 have e:(if j > i then j else i)=max i j:=by split <;> tm_at "ob"
 rw [e];exact k⟩
instance {i j:Int}:Stp (B0 [V.int i,V.int j] H Q) (Q (.int (max i j)) H):=⟨J0⟩
theorem Lo {i:Int} (k:Q (.int (if i<0 then -i else i)) H):Jq [V.int i] H Q:=⟨i,rfl,k⟩
instance {i:Int}:Stp (Jq [V.int i] H Q) (Q (.int (if i<0 then -i else i)) H):=⟨Lo⟩
end
local macro_rules | `(tactic| tm_at "s0")=>`(tactic| repeat' (with_reducible first | refine v0 ?_ | refine v1 ?_ | refine v2 ?_ | refine v3 ?_ | refine v4 ?_ | refine b_c ?_ | refine bO ?_ | refine Ii ?_ | refine BC ?_ | refine xD (by decide) ?_ | refine xC ?_ | refine Cr ?_ | refine g3 ?_ | refine g4 ?_ | refine DR ?_ | refine FW ?_ | refine wX ?_ | refine Ge ?_ | refine Gm ?_ | refine Li ?_ | refine sT (fun _=>?_) (fun _=>?_)))
section
variable {P:Program} {w:World} {K:PySem.W.Frag} {mg:Str→Option Value} {base:Heap} {a:AD}
noncomputable def qL:Sp:=fun vs H Q _=>∃(b p:Int),vs=[.int b,.int p]∧Q (.int ((b+p) % 4294967296)) H
theorem jH (T:TX K mg a):Ok P w K mg base a oB 1 qL:=by
 refine fo T 8 fun S H hr h=>?_;obtain ⟨b,p,rfl,k⟩:=h;refine ⟨_,(ae (aw (ay A4 (ay bt (pv 0) (pv 1)) (pgi T 9)))),?_⟩;show pG _ _ [some (V.int b),some (V.int p)] H;tm_at "s0";exact k
noncomputable def bE (n b ab:Int):V:=
 let ah:=(n - b - ab) % 4294967296
 let ah:=if 2147483648≤ah then ah - 4294967296 else ah
 if ab+ah<0 then .non else .int (ab+ah)
noncomputable def kK:Sp:=fun vs H Q _=>∃(n b ab:Int),vs=[.int n,.int b,.int ab]∧Q (bE n b ab) H
theorem fZ (T:TX K mg a):Ok P w K mg base a mH 1 kK:=by
 refine fo T 9 fun S H hr h=>?_;obtain ⟨n,b,ab,rfl,k⟩:=h;refine ⟨_,(aa (sn S 3 (ay A4 (ay bC (ay bC (pv 0) (pv 1)) (pv 2)) (pgi T 9)))
  (aa (si (ptR lI (pv 3) (pgi T 10)) (ae (sg S 3 (pgi T 9) JK)))
  (aa (sn S 4 (ay bt (pv 2) (pv 3)))
  (aa (si (ptR eV (pv 4) ag) (ae (aw iF)))
  (ae (aw (pv 4))))))),?_⟩
 show aP _ _ _ [some (V.int n),some (V.int b),some (V.int ab),none,none] H;tm_at "s0"
 all_goals (unfold bE at k;simp only [*,if_true,if_false] at k;exact k)
end
set_option genInjectivity false in
set_option genSizeOf false in
structure PS where
 now:Int
 out:List (Int×List Int)
 phase:Int
 why:Int
 me:Int
 mine:Int
 base:Int
 them:Int
 theirs:Int
 aK:Int
 aB:List Int
 last:Int
 closing:Bool
 first:Int
 au:Int
 top:Int
 room:Int
 held:List (Int×Int)
 wide:Int
 slow:Int
 same:Int
 bA:Int
 anew:Int
 jJ:Int
 off:Int
 aZ:Bool
 wait:Int
 bp:Int
 dU:Int
 due:Option Int
 tries:Int
 wanted:Int
 aH:List Int
 pieces:List (Int×List Int)
 cj:Option Int
 bg:Bool
 cB:Bool
 edge:Int
 owed:Int
 fi:Option Int
 aS:Option Int
 kept:Int
 heard:Int
 fg:Int
noncomputable def PS.oW (s:PS) (v:Int):PS:={ s with now:=v }
noncomputable def PS.gf (s:PS) (v:List (Int×List Int)):PS:={ s with out:=v }
noncomputable def PS.br (s:PS) (v:Int):PS:={ s with phase:=v }
noncomputable def PS.GP (s:PS) (v:Int):PS:={ s with why:=v }
noncomputable def PS.uR (s:PS) (v:Int):PS:={ s with me:=v }
noncomputable def PS.nJ (s:PS) (v:Int):PS:={ s with mine:=v }
noncomputable def PS.nM (s:PS) (v:Int):PS:={ s with base:=v }
noncomputable def PS.ji (s:PS) (v:Int):PS:={ s with them:=v }
noncomputable def PS.fj (s:PS) (v:Int):PS:={ s with theirs:=v }
noncomputable def PS.cD (s:PS) (v:Int):PS:={ s with aK:=v }
noncomputable def PS.jh (s:PS) (v:List Int):PS:={ s with aB:=v }
noncomputable def PS.uS (s:PS) (v:Int):PS:={ s with last:=v }
noncomputable def PS.gx (s:PS) (v:Bool):PS:={ s with closing:=v }
noncomputable def PS.jN (s:PS) (v:Int):PS:={ s with first:=v }
noncomputable def PS.aW (s:PS) (v:Int):PS:={ s with au:=v }
noncomputable def PS.dt (s:PS) (v:Int):PS:={ s with top:=v }
noncomputable def PS.fS (s:PS) (v:Int):PS:={ s with room:=v }
noncomputable def PS.gI (s:PS) (v:List (Int×Int)):PS:={ s with held:=v }
noncomputable def PS.bI (s:PS) (v:Int):PS:={ s with wide:=v }
noncomputable def PS.Eo (s:PS) (v:Int):PS:={ s with slow:=v }
noncomputable def PS.set_same (s:PS) (v:Int):PS:={ s with same:=v }
noncomputable def PS.cE (s:PS) (v:Int):PS:={ s with bA:=v }
noncomputable def PS.cR (s:PS) (v:Int):PS:={ s with anew:=v }
noncomputable def PS.gH (s:PS) (v:Int):PS:={ s with jJ:=v }
noncomputable def PS.jE (s:PS) (v:Int):PS:={ s with off:=v }
noncomputable def PS.dG (s:PS) (v:Bool):PS:={ s with aZ:=v }
noncomputable def PS.eL (s:PS) (v:Int):PS:={ s with wait:=v }
noncomputable def PS.tY (s:PS) (v:Int):PS:={ s with bp:=v }
noncomputable def PS.tX (s:PS) (v:Int):PS:={ s with dU:=v }
noncomputable def PS.dE (s:PS) (v:Option Int):PS:={ s with due:=v }
noncomputable def PS.dg (s:PS) (v:Int):PS:={ s with tries:=v }
noncomputable def PS.cZ (s:PS) (v:Int):PS:={ s with wanted:=v }
noncomputable def PS.iz (s:PS) (v:List Int):PS:={ s with aH:=v }
noncomputable def PS.iA (s:PS) (v:List (Int×List Int)):PS:={ s with pieces:=v }
noncomputable def PS.fU (s:PS) (v:Option Int):PS:={ s with cj:=v }
noncomputable def PS.kL (s:PS) (v:Bool):PS:={ s with bg:=v }
noncomputable def PS.iB (s:PS) (v:Bool):PS:={ s with cB:=v }
noncomputable def PS.nL (s:PS) (v:Int):PS:={ s with edge:=v }
noncomputable def PS.fk (s:PS) (v:Int):PS:={ s with owed:=v }
noncomputable def PS.jj (s:PS) (v:Option Int):PS:={ s with fi:=v }
noncomputable def PS.kr (s:PS) (v:Option Int):PS:={ s with aS:=v }
noncomputable def PS.uT (s:PS) (v:Int):PS:={ s with kept:=v }
noncomputable def PS.CW (s:PS) (v:Int):PS:={ s with heard:=v }
noncomputable def PS.ku (s:PS) (v:Int):PS:={ s with fg:=v }
set_option genInjectivity false in
set_option genSizeOf false in
structure Ads where
 out:Addr
 aB:Addr
 held:Addr
 aH:Addr
 pieces:Addr
noncomputable def eC:Option Int→V
 | none=>.non
 | some i=>.int i
noncomputable def aO (d:Ads) (s:PS):List (Str×V):=[(("now",.int s.now):Str×V),(("out",.ref d.out):Str×V),(("phase",.int s.phase):Str×V),(("why",.int s.why):Str×V),(("me",.int s.me):Str×V),(("mine",.int s.mine):Str×V),(("base",.int s.base):Str×V),(("them",.int s.them):Str×V),(("theirs",.int s.theirs):Str×V),(("their_base",.int s.aK):Str×V),(("unacked",.ref d.aB):Str×V),(("last",.int s.last):Str×V),(("closing",.bl s.closing):Str×V),(("first",.int s.first):Str×V),(("next_place",.int s.au):Str×V),(("top",.int s.top):Str×V),(("room",.int s.room):Str×V),(("held",.ref d.held):Str×V),(("wide",.int s.wide):Str×V),(("slow",.int s.slow):Str×V),(("same",.int s.same):Str×V),(("mending",.int s.bA):Str×V),(("anew",.int s.anew):Str×V),(("mean",.int s.jJ):Str×V),(("off",.int s.off):Str×V),(("was_measured",.bl s.aZ):Str×V),(("wait",.int s.wait):Str×V),(("timed_place",.int s.bp):Str×V),(("timed_since",.int s.dU):Str×V),(("due",eC s.due):Str×V),(("tries",.int s.tries):Str×V),(("wanted",.int s.wanted):Str×V),(("unread",.ref d.aH):Str×V),(("pieces",.ref d.pieces):Str×V),(("end_place",eC s.cj):Str×V),(("has_ended",.bl s.bg):Str×V),(("closed_first",.bl s.cB):Str×V),(("edge",.int s.edge):Str×V),(("owed",.int s.owed):Str×V),(("ack_due",eC s.fi):Str×V),(("lingers_until",eC s.aS):Str×V),(("kept",.int s.kept):Str×V),(("heard",.int s.heard):Str×V),(("askings",.int s.fg):Str×V)]
theorem JD (d:Ads) (s:PS):(aO d s).lookup ("now" : Str)=some (.int s.now):=by kernel_rfl
theorem JC (d:Ads) (s:PS):(aO d s).lookup ("out" : Str)=some (.ref d.out):=by kernel_rfl
theorem xp (d:Ads) (s:PS):(aO d s).lookup ("pieces" : Str)=some (.ref d.pieces):=by kernel_rfl
theorem Jr (d:Ads) (s:PS) (q:Addr):bU "out" (.ref q) (aO d s)=aO { d with out:=q } s:=by kernel_rfl
theorem KA (d:Ads) (s:PS) (v:Int):bU "me" (.int v) (aO d s)=aO d (s.uR v):=by kernel_rfl
theorem Hm (d:Ads) (s:PS) (v:Int):bU "mine" (.int v) (aO d s)=aO d (s.nJ v):=by kernel_rfl
theorem Ho (d:Ads) (s:PS) (v:Int):bU "base" (.int v) (aO d s)=aO d (s.nM v):=by kernel_rfl
theorem Hl (d:Ads) (s:PS) (v:Int):bU "them" (.int v) (aO d s)=aO d (s.ji v):=by kernel_rfl
theorem Dd (d:Ads) (s:PS) (v:Int):bU "theirs" (.int v) (aO d s)=aO d (s.fj v):=by kernel_rfl
theorem wG (d:Ads) (s:PS) (v:Int):bU "their_base" (.int v) (aO d s)=aO d (s.cD v):=by kernel_rfl
theorem Hn (d:Ads) (s:PS) (v:Int):bU "edge" (.int v) (aO d s)=aO d (s.nL v):=by kernel_rfl
theorem B5 (d:Ads) (s:PS) (v:Int):bU "owed" (.int v) (aO d s)=aO d (s.fk v):=by kernel_rfl
theorem yo (d:Ads) (s:PS):(aO d s).lookup ("name_ends" : Str)=none:=by kernel_rfl
theorem wV (d:Ads) (s:PS):(aO d s).lookup ("name_other" : Str)=none:=by kernel_rfl
theorem wQ (d:Ads) (s:PS):(aO d s).lookup ("renew_sent" : Str)=none:=by kernel_rfl
theorem wR (d:Ads) (s:PS):(aO d s).lookup ("renew_pace" : Str)=none:=by kernel_rfl
theorem wU (d:Ads) (s:PS):(aO d s).lookup ("renew_come" : Str)=none:=by kernel_rfl
theorem HK (d:Ads) (s:PS):(aO d s).lookup ("hear" : Str)=none:=by kernel_rfl
theorem fD (d:Ads) (s:PS):(aO d s).length<1000:=by show (aO d s).length<1000;unfold aO;simp
noncomputable def ax (H:Hp) (q:Addr) (xs:List Int):Prop:=H q=some (.lst (xs.map V.int))
noncomputable def pE (H:Hp) (v:V) (r:Int×Int):Prop:=∃t,v = .ref t∧H t=some (.tup [.int r.1,.int r.2])
noncomputable def bL (H:Hp) (q:Addr) (rs:List (Int×Int)):Prop:=∃vs,H q=some (.lst vs)∧Paired (pE H) vs rs
noncomputable def mU (H:Hp) (o:Addr) (v:V) (r:Int×List Int):Prop:=∃t q,v = .ref t∧H t=some (.tup [.int r.1,.ref q])∧ax H q r.2∧q≠o
noncomputable def bj (H:Hp) (o q:Addr) (ps:List (Int×List Int)):Prop:=∃vs,H q=some (.lst vs)∧Paired (mU H o) vs ps
noncomputable def Fr (p o:Addr) (H H':Hp):Prop:=∀b x,H b=some x→b≠p→b≠o→H' b=some x
theorem Fr.refl {p o:Addr} {H:Hp}:Fr p o H H:=fun _ _ h _ _=>h
theorem Fr.trans {p o:Addr} {H H1 H2:Hp} (f:Fr p o H H1) (g:Fr p o H1 H2):Fr p o H H2:=fun b x h n m=>g b x (f b x h n m) n m
theorem aF.fr {p o:Addr} {H H':Hp} (f:aF H H'):Fr p o H H':=fun b x h _ _=>f b x h
theorem ql {p o:Addr} {H:Hp} (x:HO):Fr p o H (upd H p x):=fun b y h n _=>by rw [aD n];exact h
theorem fW {H:Hp} {q:Addr} (h:H q=none) (x:HO):aF H (upd H q x):=fun b y e=>by rw [aD (ai e h)];exact e
theorem Paired.imp {α β:Type} {F G:α→β→Prop} (h:∀a b,F a b→G a b):∀{l:List α} {m:List β},Paired F l m→Paired G l m
 | _,_,.nil=>.nil
 | _,_,.cons x y=>.cons (h _ _ x) (Paired.imp h y)
section
variable {H H':Hp} {p o q:Addr}
theorem ax.mono {xs:List Int} (h:ax H q xs) (f:aF H H'):ax H' q xs:=f _ _ h
theorem bL.mono {xs:List (Int×Int)} (h:bL H q xs) (f:aF H H'):bL H' q xs:=by
 obtain ⟨vs,e,r⟩:=h;exact ⟨vs,f _ _ e,Paired.imp (fun a b ⟨t,e1,e2⟩=>⟨t,e1,f _ _ e2⟩) r⟩
theorem bj.mono {xs:List (Int×List Int)} (h:bj H o q xs) (f:aF H H'):bj H' o q xs:=by
 obtain ⟨vs,e,r⟩:=h;exact ⟨vs,f _ _ e,Paired.imp (fun a b ⟨t,l,e1,e2,e3,e4⟩=>⟨t,l,e1,f _ _ e2,f _ _ e3,e4⟩) r⟩
structure Two (H:Hp) (p o:Addr):Prop where
 p:∃C dx fs,H p=some (.ins C dx fs)
 o:∃vs,H o=some (.lst vs)
theorem Two.lst {vs:List V} (t:Two H p o) (h:H q=some (.lst vs)):q≠p:=by
 obtain ⟨C,dx,fs,e⟩:=t.p;exact iw h e (by intro z;cases z)
theorem Two.tup {vs:List V} (t:Two H p o) (h:H q=some (.tup vs)):q≠p∧q≠o:=by
 obtain ⟨C,dx,fs,e⟩:=t.p;obtain ⟨ws,e'⟩:=t.o;exact ⟨iw h e (by intro z;cases z),iw h e' (by intro z;cases z)⟩
theorem ax.fr {xs:List Int} (h:ax H q xs) (t:Two H p o) (f:Fr p o H H') (n:q≠o):ax H' q xs:=f _ _ h (t.lst h) n
theorem bL.fr {xs:List (Int×Int)} (h:bL H q xs) (t:Two H p o) (f:Fr p o H H') (n:q≠o):bL H' q xs:=by
 obtain ⟨vs,e,r⟩:=h;exact ⟨vs,f _ _ e (t.lst e) n,Paired.imp (fun a b ⟨u,e1,e2⟩=>⟨u,e1,f _ _ e2 (t.tup e2).1 (t.tup e2).2⟩) r⟩
theorem bj.fr {xs:List (Int×List Int)} (h:bj H o q xs) (t:Two H p o) (f:Fr p o H H') (n:q≠o):bj H' o q xs:=by
 obtain ⟨vs,e,r⟩:=h;exact ⟨vs,f _ _ e (t.lst e) n,Paired.imp (fun a b ⟨u,l,e1,e2,e3,e4⟩=>⟨u,l,e1,f _ _ e2 (t.tup e2).1 (t.tup e2).2,e3.fr t f e4,e4⟩) r⟩
end
structure SdX (a:AD) (H:Hp) (p o:Addr) (d:Ads) (dx:Addr) (s:PS):Prop where
 obj:H p=some (.ins a.aE dx (aO d s))
 oo:d.out=o
 aB:ax H d.aB s.aB
 cY:d.aB≠o
 held:bL H d.held s.held
 j8:d.held≠o
 aH:ax H d.aH s.aH
 dW:d.aH≠o
 pieces:bj H o d.pieces s.pieces
 dZ:d.pieces≠o
 out:bj H o o s.out
noncomputable def Sd (a:AD) (H:Hp) (p o:Addr) (s:PS):Prop:=∃d dx,SdX a H p o d dx s
section
variable {a:AD} {H H':Hp} {p o dx:Addr} {d:Ads} {s s':PS}
theorem SdX.two (h:SdX a H p o d dx s):Two H p o:=⟨⟨_,_,_,h.obj⟩,let ⟨vs,e,_⟩:=h.out;⟨vs,e⟩⟩
theorem Sd.two (h:Sd a H p o s):Two H p o:=let ⟨_,_,e⟩:=h;e.two
theorem SdX.pno (h:SdX a H p o d dx s):o≠p:=by
 obtain ⟨vs,e,_⟩:=h.out;exact h.two.lst e
theorem bj.ofr {xs:List (Int×List Int)} (h:bj H o o xs) (t:Two H p o) (f:Fr p o H H') (e:H' o=H o):bj H' o o xs:=by
 obtain ⟨vs,e0,r⟩:=h;exact ⟨vs,e.trans e0,Paired.imp (fun a b ⟨u,l,e1,e2,e3,e4⟩=>⟨u,l,e1,f _ _ e2 (t.tup e2).1 (t.tup e2).2,e3.fr t f e4,e4⟩) r⟩
theorem SdX.put (h:SdX a H p o d dx s) (e1:s'.aB=s.aB) (e2:s'.held=s.held) (e3:s'.aH=s.aH) (e4:s'.pieces=s.pieces) (e5:s'.out=s.out):SdX a (upd H p (.ins a.aE dx (aO d s'))) p o d dx s':=by
 have t:=h.two;have f:Fr p o H (upd H p (.ins a.aE dx (aO d s'))):=ql _;refine ⟨aG,h.oo,?_,h.cY,?_,h.j8,?_,h.dW,?_,h.dZ,?_⟩
 ·rw [e1];exact h.aB.fr t f h.cY
 ·rw [e2];exact h.held.fr t f h.j8
 ·rw [e3];exact h.aH.fr t f h.dW
 ·rw [e4];exact h.pieces.fr t f h.dZ
 ·rw [e5];exact h.out.ofr t f (aD h.pno)
theorem SdX.mono (h:SdX a H p o d dx s) (f:aF H H'):SdX a H' p o d dx s:=
 ⟨f _ _ h.obj,h.oo,h.aB.mono f,h.cY,h.held.mono f,h.j8,h.aH.mono f,h.dW,h.pieces.mono f,h.dZ,h.out.mono f⟩
theorem Sd.mono (h:Sd a H p o s) (f:aF H H'):Sd a H' p o s:=let ⟨d,dx,e⟩:=h;⟨d,dx,e.mono f⟩
end
noncomputable def sV (K:PySem.W.Frag) (f:Str) (x:V) (H:Hp) (Q:VK):Prop:=∃a C dx fs v,x = .ref a∧H a=some (.ins C dx fs)∧Cls K C∧iV K C f∧fs.lookup f=some v∧Q v H
theorem vV {K:PySem.W.Frag} {ta:TE} {f:Str} {σ:L2.St} {H:Hp} {Q:VK} (k:ta σ H fun x H1=>sV K f x H1 Q):jg K ta f σ H Q:=k
instance {K:PySem.W.Frag} {ta:TE} {f:Str} {σ:L2.St} {H:Hp} {Q:VK}:Stp (jg K ta f σ H Q) (ta σ H fun x H1=>sV K f x H1 Q):=⟨vV⟩
noncomputable def StR (K:PySem.W.Frag) (f:Str) (x y:V) (H:Hp) (N:Hp→Prop):Prop:=∃a C dx fs,x = .ref a∧H a=some (.ins C dx fs)∧Cls K C∧iV K C f∧fs.length<1000∧N (upd H a (.ins C dx (bU f y fs)))
theorem LG {K:PySem.W.Frag} {ta tv:TE} {f:Str} {D:Ends} {σ:L2.St} {H:Hp} (k:tv σ H fun y H1=>ta σ H1 fun x H2=>StR K f x y H2 (D.nx σ)):lE K ta tv f D σ H:=k
instance {K:PySem.W.Frag} {ta tv:TE} {f:Str} {D:Ends} {σ:L2.St} {H:Hp}:Stp (lE K ta tv f D σ H) (tv σ H fun y H1=>ta σ H1 fun x H2=>StR K f x y H2 (D.nx σ)):=⟨LG⟩
noncomputable def AgR (C:Addr) (f:Str) (p:Addr) (z:V) (H:Hp) (N:Hp→Prop):Prop:=∃dx fs,H p=some (.ins C dx fs)∧fs.length<1000∧N (upd H p (.ins C dx (bU f z fs)))
section
variable {K:PySem.W.Frag} {mg:Str→Option Value} {a:AD} {H:Hp} {p o:Addr} {s:PS} {Q:VK} {N:Hp→Prop}
theorem rdX {f:Str} {v:V} (i:Nat) (T:TX K mg a) (h:Sd a H p o s) (k:Q v H) (l:∀d,(aO d s).lookup f=some v:=by intro;kernel_rfl) (n:qZ[i]? = some f:=by rfl):sV K f (.ref p) H Q:=by
 obtain ⟨d,dx,e⟩:=h;exact ⟨p,a.aE,dx,_,_,rfl,e.obj,T.aC,T.aI i f n,l d,k⟩
theorem Kz {f:Str} {v:V} {s':PS} (h:Sd a H p o s) (k:∀H',Sd a H' p o s'→Fr p o H H'→N H') (l:∀d,bU f v (aO d s)=aO d s') (e1:s'.aB=s.aB) (e2:s'.held=s.held) (e3:s'.aH=s.aH) (e4:s'.pieces=s.pieces) (e5:s'.out=s.out):AgR a.aE f p v H N:=by
 obtain ⟨d,dx,e⟩:=h;refine ⟨dx,_,e.obj,fD d s,?_⟩;rw [l];exact k _ ⟨d,dx,e.put e1 e2 e3 e4 e5⟩ (ql _)
theorem stX {f:Str} {v:V} {s':PS} (i:Nat) (T:TX K mg a) (h:Sd a H p o s) (k:∀H',Sd a H' p o s'→Fr p o H H'→N H') (l:∀d,bU f v (aO d s)=aO d s':=by intro;kernel_rfl) (n:qZ[i]? = some f:=by rfl)
  (e1:s'.aB=s.aB:=by rfl) (e2:s'.held=s.held:=by rfl) (e3:s'.aH=s.aH:=by rfl) (e4:s'.pieces=s.pieces:=by rfl) (e5:s'.out=s.out:=by rfl):StR K f (.ref p) v H N:=by
 obtain ⟨dx,fs,e,l1,q⟩:=Kz h k l e1 e2 e3 e4 e5;exact ⟨p,a.aE,dx,_,rfl,e,T.aC,T.aI i f n,l1,q⟩
theorem meX {m:Str} {P:Prop} (h:Sd a H p o s) (k:P) (l:∀d,(aO d s).lookup m=none:=by intro;kernel_rfl):Gz a.aE m (.ref p) H P:=by
 obtain ⟨d,dx,e⟩:=h;exact ⟨p,dx,_,rfl,e.obj,l d,k⟩
class Rdc (f:Str) (v:outParam (PS→V)):Prop where
 l:∀d s,(aO d s).lookup f=some (v s)
 n:∃i:Nat,qZ[i]? = some f
class Stc (f:Str) (v:V) (g:outParam (PS→PS)):Prop where
 l:∀d s,bU f v (aO d s)=aO d (g s)
 n:∃i:Nat,qZ[i]? = some f
 e:∀s,(g s).aB=s.aB∧(g s).held=s.held∧(g s).aH=s.aH∧(g s).pieces=s.pieces∧(g s).out=s.out
class Mec (m:Str):Prop where
 l:∀d s,(aO d s).lookup m=none
theorem rdZ {f:Str} {v:PS→V} [c:Rdc f v] (T:TX K mg a) (h:Sd a H p o s) (k:Q (v s) H):sV K f (.ref p) H Q:=
 let ⟨i,n⟩:=c.n;rdX i T h k (c.l · s) n
theorem stZ {f:Str} {v:V} {g:PS→PS} [c:Stc f v g] (T:TX K mg a) (h:Sd a H p o s) (k:∀H',Sd a H' p o (g s)→Fr p o H H'→N H'):StR K f (.ref p) v H N:=
 let ⟨i,n⟩:=c.n;let ⟨e1,e2,e3,e4,e5⟩:=c.e s;stX i T h k (c.l · s) n e1 e2 e3 e4 e5
theorem meZ {m:Str} {P:Prop} [c:Mec m] (h:Sd a H p o s) (k:P):Gz a.aE m (.ref p) H P:=meX h k (c.l · s)
theorem saZ {f:Str} {v:V} {g:PS→PS} [c:Stc f v g] (T:TX K mg a) (h:Sd a H p o s) (k:∀H',Sd a H' p o (g s)→Fr p o H H'→N H'):AgR a.aE f p v H N:=
 let ⟨e1,e2,e3,e4,e5⟩:=c.e s;Kz h k (c.l · s) e1 e2 e3 e4 e5
instance:Rdc "now" fun s=>.int s.now:=⟨fun _ _=>by kernel_rfl,0,rfl⟩
instance {v:Int}:Stc "now" (.int v) fun s=>s.oW v:=⟨fun _ _=>by kernel_rfl,⟨0,rfl⟩,fun _=>⟨rfl,rfl,rfl,rfl,rfl⟩⟩
instance:Rdc "phase" fun s=>.int s.phase:=⟨fun _ _=>by kernel_rfl,2,rfl⟩
theorem Eh (T:TX K mg a) {v:Int} (h:Sd a H p o s) (k:∀H',Sd a H' p o (s.br v)→Fr p o H H'→N H'):StR K "phase" (.ref p) (.int v) H N:=stX 2 T h k
instance {v:Int}:Stc "phase" (.int v) fun s=>s.br v:=⟨fun _ _=>by kernel_rfl,⟨2,rfl⟩,fun _=>⟨rfl,rfl,rfl,rfl,rfl⟩⟩
instance:Rdc "why" fun s=>.int s.why:=⟨fun _ _=>by kernel_rfl,3,rfl⟩
instance {v:Int}:Stc "why" (.int v) fun s=>s.GP v:=⟨fun _ _=>by kernel_rfl,⟨3,rfl⟩,fun _=>⟨rfl,rfl,rfl,rfl,rfl⟩⟩
instance:Rdc "me" fun s=>.int s.me:=⟨fun _ _=>by kernel_rfl,6,rfl⟩
instance {v:Int}:Stc "me" (.int v) fun s=>s.uR v:=⟨fun _ _=>by kernel_rfl,⟨6,rfl⟩,fun _=>⟨rfl,rfl,rfl,rfl,rfl⟩⟩
instance:Rdc "mine" fun s=>.int s.mine:=⟨fun _ _=>by kernel_rfl,7,rfl⟩
instance {v:Int}:Stc "mine" (.int v) fun s=>s.nJ v:=⟨fun _ _=>by kernel_rfl,⟨7,rfl⟩,fun _=>⟨rfl,rfl,rfl,rfl,rfl⟩⟩
instance:Rdc "base" fun s=>.int s.base:=⟨fun _ _=>by kernel_rfl,8,rfl⟩
instance {v:Int}:Stc "base" (.int v) fun s=>s.nM v:=⟨fun _ _=>by kernel_rfl,⟨8,rfl⟩,fun _=>⟨rfl,rfl,rfl,rfl,rfl⟩⟩
instance:Rdc "them" fun s=>.int s.them:=⟨fun _ _=>by kernel_rfl,9,rfl⟩
instance {v:Int}:Stc "them" (.int v) fun s=>s.ji v:=⟨fun _ _=>by kernel_rfl,⟨9,rfl⟩,fun _=>⟨rfl,rfl,rfl,rfl,rfl⟩⟩
instance:Rdc "theirs" fun s=>.int s.theirs:=⟨fun _ _=>by kernel_rfl,10,rfl⟩
instance {v:Int}:Stc "theirs" (.int v) fun s=>s.fj v:=⟨fun _ _=>by kernel_rfl,⟨10,rfl⟩,fun _=>⟨rfl,rfl,rfl,rfl,rfl⟩⟩
instance:Rdc "their_base" fun s=>.int s.aK:=⟨fun _ _=>by kernel_rfl,11,rfl⟩
instance {v:Int}:Stc "their_base" (.int v) fun s=>s.cD v:=⟨fun _ _=>by kernel_rfl,⟨11,rfl⟩,fun _=>⟨rfl,rfl,rfl,rfl,rfl⟩⟩
instance:Rdc "last" fun s=>.int s.last:=⟨fun _ _=>by kernel_rfl,13,rfl⟩
instance {v:Int}:Stc "last" (.int v) fun s=>s.uS v:=⟨fun _ _=>by kernel_rfl,⟨13,rfl⟩,fun _=>⟨rfl,rfl,rfl,rfl,rfl⟩⟩
instance:Rdc "closing" fun s=>.bl s.closing:=⟨fun _ _=>by kernel_rfl,14,rfl⟩
instance {v:Bool}:Stc "closing" (.bl v) fun s=>s.gx v:=⟨fun _ _=>by kernel_rfl,⟨14,rfl⟩,fun _=>⟨rfl,rfl,rfl,rfl,rfl⟩⟩
instance:Rdc "first" fun s=>.int s.first:=⟨fun _ _=>by kernel_rfl,15,rfl⟩
instance {v:Int}:Stc "first" (.int v) fun s=>s.jN v:=⟨fun _ _=>by kernel_rfl,⟨15,rfl⟩,fun _=>⟨rfl,rfl,rfl,rfl,rfl⟩⟩
instance:Rdc "next_place" fun s=>.int s.au:=⟨fun _ _=>by kernel_rfl,16,rfl⟩
instance {v:Int}:Stc "next_place" (.int v) fun s=>s.aW v:=⟨fun _ _=>by kernel_rfl,⟨16,rfl⟩,fun _=>⟨rfl,rfl,rfl,rfl,rfl⟩⟩
instance:Rdc "top" fun s=>.int s.top:=⟨fun _ _=>by kernel_rfl,17,rfl⟩
instance {v:Int}:Stc "top" (.int v) fun s=>s.dt v:=⟨fun _ _=>by kernel_rfl,⟨17,rfl⟩,fun _=>⟨rfl,rfl,rfl,rfl,rfl⟩⟩
instance:Rdc "room" fun s=>.int s.room:=⟨fun _ _=>by kernel_rfl,18,rfl⟩
theorem GZ (T:TX K mg a) (h:Sd a H p o s) (k:Q (.int s.room) H):sV K "room" (.ref p) H Q:=rdX 18 T h k
theorem GK (T:TX K mg a) {v:Int} (h:Sd a H p o s) (k:∀H',Sd a H' p o (s.fS v)→Fr p o H H'→N H'):StR K "room" (.ref p) (.int v) H N:=stX 18 T h k
instance {v:Int}:Stc "room" (.int v) fun s=>s.fS v:=⟨fun _ _=>by kernel_rfl,⟨18,rfl⟩,fun _=>⟨rfl,rfl,rfl,rfl,rfl⟩⟩
instance:Rdc "wide" fun s=>.int s.wide:=⟨fun _ _=>by kernel_rfl,20,rfl⟩
instance {v:Int}:Stc "wide" (.int v) fun s=>s.bI v:=⟨fun _ _=>by kernel_rfl,⟨20,rfl⟩,fun _=>⟨rfl,rfl,rfl,rfl,rfl⟩⟩
instance:Rdc "slow" fun s=>.int s.slow:=⟨fun _ _=>by kernel_rfl,21,rfl⟩
instance {v:Int}:Stc "slow" (.int v) fun s=>s.Eo v:=⟨fun _ _=>by kernel_rfl,⟨21,rfl⟩,fun _=>⟨rfl,rfl,rfl,rfl,rfl⟩⟩
instance:Rdc "same" fun s=>.int s.same:=⟨fun _ _=>by kernel_rfl,22,rfl⟩
instance {v:Int}:Stc "same" (.int v) fun s=>s.set_same v:=⟨fun _ _=>by kernel_rfl,⟨22,rfl⟩,fun _=>⟨rfl,rfl,rfl,rfl,rfl⟩⟩
instance:Rdc "mending" fun s=>.int s.bA:=⟨fun _ _=>by kernel_rfl,23,rfl⟩
instance {v:Int}:Stc "mending" (.int v) fun s=>s.cE v:=⟨fun _ _=>by kernel_rfl,⟨23,rfl⟩,fun _=>⟨rfl,rfl,rfl,rfl,rfl⟩⟩
instance:Rdc "anew" fun s=>.int s.anew:=⟨fun _ _=>by kernel_rfl,24,rfl⟩
instance {v:Int}:Stc "anew" (.int v) fun s=>s.cR v:=⟨fun _ _=>by kernel_rfl,⟨24,rfl⟩,fun _=>⟨rfl,rfl,rfl,rfl,rfl⟩⟩
instance:Rdc "mean" fun s=>.int s.jJ:=⟨fun _ _=>by kernel_rfl,25,rfl⟩
instance {v:Int}:Stc "mean" (.int v) fun s=>s.gH v:=⟨fun _ _=>by kernel_rfl,⟨25,rfl⟩,fun _=>⟨rfl,rfl,rfl,rfl,rfl⟩⟩
instance:Rdc "off" fun s=>.int s.off:=⟨fun _ _=>by kernel_rfl,26,rfl⟩
instance {v:Int}:Stc "off" (.int v) fun s=>s.jE v:=⟨fun _ _=>by kernel_rfl,⟨26,rfl⟩,fun _=>⟨rfl,rfl,rfl,rfl,rfl⟩⟩
instance:Rdc "was_measured" fun s=>.bl s.aZ:=⟨fun _ _=>by kernel_rfl,27,rfl⟩
instance {v:Bool}:Stc "was_measured" (.bl v) fun s=>s.dG v:=⟨fun _ _=>by kernel_rfl,⟨27,rfl⟩,fun _=>⟨rfl,rfl,rfl,rfl,rfl⟩⟩
instance:Rdc "wait" fun s=>.int s.wait:=⟨fun _ _=>by kernel_rfl,28,rfl⟩
instance {v:Int}:Stc "wait" (.int v) fun s=>s.eL v:=⟨fun _ _=>by kernel_rfl,⟨28,rfl⟩,fun _=>⟨rfl,rfl,rfl,rfl,rfl⟩⟩
instance:Rdc "timed_place" fun s=>.int s.bp:=⟨fun _ _=>by kernel_rfl,29,rfl⟩
instance {v:Int}:Stc "timed_place" (.int v) fun s=>s.tY v:=⟨fun _ _=>by kernel_rfl,⟨29,rfl⟩,fun _=>⟨rfl,rfl,rfl,rfl,rfl⟩⟩
instance:Rdc "timed_since" fun s=>.int s.dU:=⟨fun _ _=>by kernel_rfl,30,rfl⟩
instance {v:Int}:Stc "timed_since" (.int v) fun s=>s.tX v:=⟨fun _ _=>by kernel_rfl,⟨30,rfl⟩,fun _=>⟨rfl,rfl,rfl,rfl,rfl⟩⟩
instance:Rdc "due" fun s=>eC s.due:=⟨fun _ _=>by kernel_rfl,31,rfl⟩
instance {v:Int}:Stc "due" (.int v) fun s=>s.dE (some v):=⟨fun _ _=>by kernel_rfl,⟨31,rfl⟩,fun _=>⟨rfl,rfl,rfl,rfl,rfl⟩⟩
instance:Stc "due" (.non) fun s=>s.dE (none):=⟨fun _ _=>by kernel_rfl,⟨31,rfl⟩,fun _=>⟨rfl,rfl,rfl,rfl,rfl⟩⟩
instance:Rdc "tries" fun s=>.int s.tries:=⟨fun _ _=>by kernel_rfl,32,rfl⟩
theorem Eg (T:TX K mg a) {v:Int} (h:Sd a H p o s) (k:∀H',Sd a H' p o (s.dg v)→Fr p o H H'→N H'):StR K "tries" (.ref p) (.int v) H N:=stX 32 T h k
instance {v:Int}:Stc "tries" (.int v) fun s=>s.dg v:=⟨fun _ _=>by kernel_rfl,⟨32,rfl⟩,fun _=>⟨rfl,rfl,rfl,rfl,rfl⟩⟩
instance:Rdc "wanted" fun s=>.int s.wanted:=⟨fun _ _=>by kernel_rfl,33,rfl⟩
theorem C8 (T:TX K mg a) (h:Sd a H p o s) (k:Q (.int s.wanted) H):sV K "wanted" (.ref p) H Q:=rdX 33 T h k
instance {v:Int}:Stc "wanted" (.int v) fun s=>s.cZ v:=⟨fun _ _=>by kernel_rfl,⟨33,rfl⟩,fun _=>⟨rfl,rfl,rfl,rfl,rfl⟩⟩
instance:Rdc "end_place" fun s=>eC s.cj:=⟨fun _ _=>by kernel_rfl,36,rfl⟩
instance {v:Int}:Stc "end_place" (.int v) fun s=>s.fU (some v):=⟨fun _ _=>by kernel_rfl,⟨36,rfl⟩,fun _=>⟨rfl,rfl,rfl,rfl,rfl⟩⟩
instance:Stc "end_place" (.non) fun s=>s.fU (none):=⟨fun _ _=>by kernel_rfl,⟨36,rfl⟩,fun _=>⟨rfl,rfl,rfl,rfl,rfl⟩⟩
instance:Rdc "has_ended" fun s=>.bl s.bg:=⟨fun _ _=>by kernel_rfl,37,rfl⟩
instance {v:Bool}:Stc "has_ended" (.bl v) fun s=>s.kL v:=⟨fun _ _=>by kernel_rfl,⟨37,rfl⟩,fun _=>⟨rfl,rfl,rfl,rfl,rfl⟩⟩
instance:Rdc "closed_first" fun s=>.bl s.cB:=⟨fun _ _=>by kernel_rfl,38,rfl⟩
instance {v:Bool}:Stc "closed_first" (.bl v) fun s=>s.iB v:=⟨fun _ _=>by kernel_rfl,⟨38,rfl⟩,fun _=>⟨rfl,rfl,rfl,rfl,rfl⟩⟩
instance:Rdc "edge" fun s=>.int s.edge:=⟨fun _ _=>by kernel_rfl,39,rfl⟩
instance {v:Int}:Stc "edge" (.int v) fun s=>s.nL v:=⟨fun _ _=>by kernel_rfl,⟨39,rfl⟩,fun _=>⟨rfl,rfl,rfl,rfl,rfl⟩⟩
instance:Rdc "owed" fun s=>.int s.owed:=⟨fun _ _=>by kernel_rfl,40,rfl⟩
instance {v:Int}:Stc "owed" (.int v) fun s=>s.fk v:=⟨fun _ _=>by kernel_rfl,⟨40,rfl⟩,fun _=>⟨rfl,rfl,rfl,rfl,rfl⟩⟩
instance:Rdc "ack_due" fun s=>eC s.fi:=⟨fun _ _=>by kernel_rfl,41,rfl⟩
instance {v:Int}:Stc "ack_due" (.int v) fun s=>s.jj (some v):=⟨fun _ _=>by kernel_rfl,⟨41,rfl⟩,fun _=>⟨rfl,rfl,rfl,rfl,rfl⟩⟩
instance:Stc "ack_due" (.non) fun s=>s.jj (none):=⟨fun _ _=>by kernel_rfl,⟨41,rfl⟩,fun _=>⟨rfl,rfl,rfl,rfl,rfl⟩⟩
instance:Rdc "lingers_until" fun s=>eC s.aS:=⟨fun _ _=>by kernel_rfl,4,rfl⟩
instance {v:Int}:Stc "lingers_until" (.int v) fun s=>s.kr (some v):=⟨fun _ _=>by kernel_rfl,⟨4,rfl⟩,fun _=>⟨rfl,rfl,rfl,rfl,rfl⟩⟩
instance:Stc "lingers_until" (.non) fun s=>s.kr (none):=⟨fun _ _=>by kernel_rfl,⟨4,rfl⟩,fun _=>⟨rfl,rfl,rfl,rfl,rfl⟩⟩
instance:Rdc "kept" fun s=>.int s.kept:=⟨fun _ _=>by kernel_rfl,5,rfl⟩
instance {v:Int}:Stc "kept" (.int v) fun s=>s.uT v:=⟨fun _ _=>by kernel_rfl,⟨5,rfl⟩,fun _=>⟨rfl,rfl,rfl,rfl,rfl⟩⟩
instance:Rdc "heard" fun s=>.int s.heard:=⟨fun _ _=>by kernel_rfl,42,rfl⟩
instance {v:Int}:Stc "heard" (.int v) fun s=>s.CW v:=⟨fun _ _=>by kernel_rfl,⟨42,rfl⟩,fun _=>⟨rfl,rfl,rfl,rfl,rfl⟩⟩
instance:Rdc "askings" fun s=>.int s.fg:=⟨fun _ _=>by kernel_rfl,43,rfl⟩
instance {v:Int}:Stc "askings" (.int v) fun s=>s.ku v:=⟨fun _ _=>by kernel_rfl,⟨43,rfl⟩,fun _=>⟨rfl,rfl,rfl,rfl,rfl⟩⟩
theorem jX (T:TX K mg a) (h:Sd a H p o s) (k:∀q,ax H q s.aB→q≠o→Q (.ref q) H):sV K "unacked" (.ref p) H Q:=by
 obtain ⟨d,dx,e⟩:=h;exact ⟨p,a.aE,dx,_,_,rfl,e.obj,T.aC,T.aI 12 _ rfl,by kernel_rfl,k _ e.aB e.cY⟩
theorem uM (T:TX K mg a) {q:Addr} {xs:List Int} (h:Sd a H p o s) (h0:ax H q xs) (n:q≠o) (k:∀H',Sd a H' p o (s.jh xs)→Fr p o H H'→N H'):StR K "unacked" (.ref p) (.ref q) H N:=by
 obtain ⟨d,dx,e⟩:=h;have t:=e.two;refine ⟨p,a.aE,dx,_,rfl,e.obj,T.aC,T.aI 12 _ rfl,fD d s,?_⟩;rw [show bU "unacked" (.ref q) (aO d s)=aO { d with aB:=q } s by kernel_rfl];have f:Fr p o H (upd H p (.ins a.aE dx (aO { d with aB:=q } s))):=ql _;exact k _ ⟨{ d with aB:=q },dx,aG,e.oo,h0.fr t f n,n,e.held.fr t f e.j8,e.j8,e.aH.fr t f e.dW,e.dW,e.pieces.fr t f e.dZ,e.dZ,e.out.ofr t f (aD e.pno)⟩ f
theorem qQ (T:TX K mg a) (h:Sd a H p o s) (k:∀q,bL H q s.held→q≠o→Q (.ref q) H):sV K "held" (.ref p) H Q:=by
 obtain ⟨d,dx,e⟩:=h;exact ⟨p,a.aE,dx,_,_,rfl,e.obj,T.aC,T.aI 19 _ rfl,by kernel_rfl,k _ e.held e.j8⟩
theorem xM (T:TX K mg a) {q:Addr} {xs:List (Int×Int)} (h:Sd a H p o s) (h0:bL H q xs) (n:q≠o) (k:∀H',Sd a H' p o (s.gI xs)→Fr p o H H'→N H'):StR K "held" (.ref p) (.ref q) H N:=by
 obtain ⟨d,dx,e⟩:=h;have t:=e.two;refine ⟨p,a.aE,dx,_,rfl,e.obj,T.aC,T.aI 19 _ rfl,fD d s,?_⟩;rw [show bU "held" (.ref q) (aO d s)=aO { d with held:=q } s by kernel_rfl];have f:Fr p o H (upd H p (.ins a.aE dx (aO { d with held:=q } s))):=ql _;exact k _ ⟨{ d with held:=q },dx,aG,e.oo,e.aB.fr t f e.cY,e.cY,h0.fr t f n,n,e.aH.fr t f e.dW,e.dW,e.pieces.fr t f e.dZ,e.dZ,e.out.ofr t f (aD e.pno)⟩ f
theorem lG (T:TX K mg a) (h:Sd a H p o s) (k:∀q,ax H q s.aH→q≠o→Q (.ref q) H):sV K "unread" (.ref p) H Q:=by
 obtain ⟨d,dx,e⟩:=h;exact ⟨p,a.aE,dx,_,_,rfl,e.obj,T.aC,T.aI 34 _ rfl,by kernel_rfl,k _ e.aH e.dW⟩
theorem xg (T:TX K mg a) {q:Addr} {xs:List Int} (h:Sd a H p o s) (h0:ax H q xs) (n:q≠o) (k:∀H',Sd a H' p o (s.iz xs)→Fr p o H H'→N H'):StR K "unread" (.ref p) (.ref q) H N:=by
 obtain ⟨d,dx,e⟩:=h;have t:=e.two;refine ⟨p,a.aE,dx,_,rfl,e.obj,T.aC,T.aI 34 _ rfl,fD d s,?_⟩;rw [show bU "unread" (.ref q) (aO d s)=aO { d with aH:=q } s by kernel_rfl];have f:Fr p o H (upd H p (.ins a.aE dx (aO { d with aH:=q } s))):=ql _;exact k _ ⟨{ d with aH:=q },dx,aG,e.oo,e.aB.fr t f e.cY,e.cY,e.held.fr t f e.j8,e.j8,h0.fr t f n,n,e.pieces.fr t f e.dZ,e.dZ,e.out.ofr t f (aD e.pno)⟩ f
theorem iD (T:TX K mg a) (h:Sd a H p o s) (k:∀q,bj H o q s.pieces→q≠o→Q (.ref q) H):sV K "pieces" (.ref p) H Q:=by
 obtain ⟨d,dx,e⟩:=h;exact ⟨p,a.aE,dx,_,_,rfl,e.obj,T.aC,T.aI 35 _ rfl,by kernel_rfl,k _ e.pieces e.dZ⟩
theorem xh (T:TX K mg a) {q:Addr} {xs:List (Int×List Int)} (h:Sd a H p o s) (h0:bj H o q xs) (n:q≠o) (k:∀H',Sd a H' p o (s.iA xs)→Fr p o H H'→N H'):StR K "pieces" (.ref p) (.ref q) H N:=by
 obtain ⟨d,dx,e⟩:=h;have t:=e.two;refine ⟨p,a.aE,dx,_,rfl,e.obj,T.aC,T.aI 35 _ rfl,fD d s,?_⟩;rw [show bU "pieces" (.ref q) (aO d s)=aO { d with pieces:=q } s by kernel_rfl];have f:Fr p o H (upd H p (.ins a.aE dx (aO { d with pieces:=q } s))):=ql _;exact k _ ⟨{ d with pieces:=q },dx,aG,e.oo,e.aB.fr t f e.cY,e.cY,e.held.fr t f e.j8,e.j8,e.aH.fr t f e.dW,e.dW,h0.fr t f n,n,e.out.ofr t f (aD e.pno)⟩ f
instance:Mec "renew" := ⟨fun _ _=>by kernel_rfl⟩
instance:Mec "name_ends" := ⟨fun _ _=>by kernel_rfl⟩
instance:Mec "name_other" := ⟨fun _ _=>by kernel_rfl⟩
instance:Mec "renew_sent" := ⟨fun _ _=>by kernel_rfl⟩
instance:Mec "renew_pace" := ⟨fun _ _=>by kernel_rfl⟩
instance:Mec "renew_come" := ⟨fun _ _=>by kernel_rfl⟩
instance:Mec "is_linked" := ⟨fun _ _=>by kernel_rfl⟩
instance:Mec "unacked_place" := ⟨fun _ _=>by kernel_rfl⟩
instance:Mec "hear" := ⟨fun _ _=>by kernel_rfl⟩
instance:Mec "put_off" := ⟨fun _ _=>by kernel_rfl⟩
instance:Mec "time_place" := ⟨fun _ _=>by kernel_rfl⟩
instance:Mec "time_nothing" := ⟨fun _ _=>by kernel_rfl⟩
instance:Mec "widen" := ⟨fun _ _=>by kernel_rfl⟩
instance:Mec "halve_slow" := ⟨fun _ _=>by kernel_rfl⟩
instance:Mec "linger" := ⟨fun _ _=>by kernel_rfl⟩
instance:Mec "finish" := ⟨fun _ _=>by kernel_rfl⟩
theorem qA {q:Addr} {xs:List Int} (h:ax H q xs) (k:Q (.int xs.length) H):zw K [V.ref q] H Q:=tM h (by rw [List.length_map];exact k)
theorem Paired.len {α β:Type} {F:α→β→Prop}:∀{l:List α} {m:List β},Paired F l m→l.length=m.length
 | _,_,.nil=>rfl
 | _,_,.cons _ y=>congrArg (· + 1) (Paired.len y)
theorem sS {q:Addr} {xs:List (Int×Int)} (h:bL H q xs) (k:Q (.int xs.length) H):zw K [V.ref q] H Q:=by
 obtain ⟨vs,e,r⟩:=h;exact tM e (by rw [Paired.len r];exact k)
theorem qz {q:Addr} {xs:List (Int×List Int)} (h:bj H o q xs) (k:Q (.int xs.length) H):zw K [V.ref q] H Q:=by
 obtain ⟨vs,e,r⟩:=h;exact tM e (by rw [Paired.len r];exact k)
end
noncomputable def spM (a:AD) (f:PS→PS):Sp:=fun vs H Q _=>∃p o s,vs=[.ref p]∧Sd a H p o s∧∀H',Sd a H' p o (f s)→Fr p o H H'→Q .non H'
noncomputable def zk (a:AD) (f:PS→Int→PS):Sp:=fun vs H Q _=>∃p o s i,vs=[.ref p,.int i]∧Sd a H p o s∧∀H',Sd a H' p o (f s i)→Fr p o H H'→Q .non H'
noncomputable def Jk (a:AD) (f:PS→Int→Int→Int→PS):Sp:=fun vs H Q _=>∃p o s i j l,vs=[.ref p,.int i,.int j,.int l]∧Sd a H p o s∧∀H',Sd a H' p o (f s i j l)→Fr p o H H'→Q .non H'
noncomputable def spR (a:AD) (f:PS→V):Sp:=fun vs H Q _=>∃p o s,vs=[.ref p]∧Sd a H p o s∧Q (f s) H
section
variable {a:AD} {H:Hp} {p o:Addr} {s:PS} {Q:VK} {E:XK}
theorem Ax {f:PS→PS} (h:Sd a H p o s) (k:∀H',Sd a H' p o (f s)→Fr p o H H'→Q .non H'):spM a f (.ref p::([]++[])) H Q E:=⟨p,o,s,rfl,h,k⟩
theorem vO {f:PS→PS} (h:Sd a H p o s) (k:∀H',Sd a H' p o (f s)→Fr p o H H'→Q .non H'):spM a f ([.ref p]++[]) H Q E:=⟨p,o,s,rfl,h,k⟩
theorem vQ {f:PS→Int→PS} {i:Int} (h:Sd a H p o s) (k:∀H',Sd a H' p o (f s i)→Fr p o H H'→Q .non H'):zk a f (.ref p::([.int i]++[])) H Q E:=⟨p,o,s,i,rfl,h,k⟩
theorem rC {f:PS→Int→PS} {i:Int} (h:Sd a H p o s) (k:∀H',Sd a H' p o (f s i)→Fr p o H H'→Q .non H'):zk a f ([.ref p,.int i]++[]) H Q E:=⟨p,o,s,i,rfl,h,k⟩
theorem vP {f:PS→Int→Int→Int→PS} {i j l:Int} (h:Sd a H p o s) (k:∀H',Sd a H' p o (f s i j l)→Fr p o H H'→Q .non H'):Jk a f (.ref p::([.int i,.int j,.int l]++[])) H Q E:=⟨p,o,s,i,j,l,rfl,h,k⟩
theorem Aw {f:PS→V} (h:Sd a H p o s) (k:Q (f s) H):spR a f (.ref p::([]++[])) H Q E:=⟨p,o,s,rfl,h,k⟩
theorem vN {f:PS→V} (h:Sd a H p o s) (k:Q (f s) H):spR a f ([.ref p]++[]) H Q E:=⟨p,o,s,rfl,h,k⟩
end
local macro_rules | `(tactic| tm_at "sx")=>`(tactic| repeat' (with_reducible first | refine Stp.go ?_ | refine bO ?_ | refine xC ?_ | refine yK ?_ | (refine stZ ‹_› ‹_› (fun _ _ _=>?_)) | tm_at "cm" | tm_at "sg" | tm_at "ag"))
local macro_rules | `(tactic| tm_at "sn")=>`(tactic| repeat' (with_reducible first | refine Stp.go ?_ | refine bO ?_ | refine xC ?_ | refine yK ?_ | tm_at "cm"))
local macro_rules | `(tactic| tm_at "sr")=>`(tactic| repeat' (with_reducible first | refine Stp.go ?_ | refine bO ?_ | (refine stZ ‹_› ‹_› (fun _ _ _=>?_)) | tm_at "cm" | tm_at "ag"))
local macro_rules | `(tactic| tm_at "sj")=>`(tactic| repeat' (with_reducible first | refine Stp.go ?_ | refine xC ?_ | refine yK ?_ | (refine stZ ‹_› ‹_› (fun _ _ _=>?_)) | tm_at "cm" | tm_at "sg" | tm_at "ag"))
local macro_rules | `(tactic| tm_at "sm")=>`(tactic| repeat' (with_reducible first | refine Stp.go ?_ | refine xC ?_ | refine yK ?_ | tm_at "cm"))
local macro_rules | `(tactic| tm_at "cm")=>`(tactic| first | refine xD (by decide) ?_ | refine xE (by decide) (by decide) ?_ | refine vU (by decide) (by decide) ?_ | refine vT (by decide) (by decide) ?_ | refine sT (fun _=>?_) (fun _=>?_) | refine ki (fun _=>?_) (fun _=>?_) | refine qA ‹_› ?_ | refine sS ‹_› ?_ | refine qz ‹_› ?_ | refine tM ‹_› ?_ | refine Ax ‹_› (fun _ _ _=>?_) | refine vO ‹_› (fun _ _ _=>?_) | refine vQ ‹_› (fun _ _ _=>?_) | refine rC ‹_› (fun _ _ _=>?_) | refine vP ‹_› (fun _ _ _=>?_) | refine Aw ‹_› ?_ | refine vN ‹_› ?_ | refine rdZ ‹_› ‹_› ?_ | (refine jX ‹_› ‹_› (fun _ _ _=>?_)) | (refine qQ ‹_› ‹_› (fun _ _ _=>?_)) | (refine lG ‹_› ‹_› (fun _ _ _=>?_)) | (refine iD ‹_› ‹_› (fun _ _ _=>?_)) | refine meZ ‹_› ?_)
local macro_rules | `(tactic| tm_at "fr")=>`(tactic| first | exact Fr.refl | assumption | exact aF.fr ‹_› | (refine Fr.trans ‹_› ?_;tm_at "fr") | (refine Fr.trans (aF.fr ‹_›) ?_;tm_at "fr"))
section
variable {P:Program} {w:World} {K:PySem.W.Frag} {mg:Str→Option Value} {base:Heap} {a:AD}
noncomputable def gX (s:PS):Bool:=if 3≤s.phase then decide (s.phase≤5) else false
theorem eY (T:TX K mg a):Ok P w K mg base a iQ 1 (spR a fun s=>.bl (gX s)):=by
 refine fo T 21 fun S H hr h=>?_;obtain ⟨p,o,s,rfl,hs,k⟩:=h;refine ⟨_,(ae (aw (j0 eW eW (pgi T 14) (pf 0) (pgi T 16)))),?_⟩;show pG _ _ [some (.ref p)] H;tm_at "ck";tm_at "sx"
 all_goals (unfold gX at k;simp only [*,if_true,if_false] at k;exact k)
noncomputable def dj (s:PS):Int:=s.last - s.aB.length
theorem iu (T:TX K mg a):Ok P w K mg base a fw 1 (spR a fun s=>.int (dj s)):=by
 refine fo T 22 fun S H hr h=>?_;obtain ⟨p,o,s,rfl,hs,k⟩:=h;refine ⟨_,(ae (aw (ay bC (pf 0) (az aM rfl T.cW boot_len (pa1 (pf 0)))))),?_⟩;show pG _ _ [some (.ref p)] H;tm_at "ck";tm_at "sx";exact k
noncomputable def jt (s:PS):PS:={ s with heard:=s.now,fg:=0 }
theorem kN (T:TX K mg a):Ok P w K mg base a kH 1 (spM a jt):=by
 refine fo T 23 fun S H hr h=>?_;obtain ⟨p,o,s,rfl,hs,k⟩:=h;refine ⟨_,(aa (sf 0 (pf 0))
  (ae (sf 0 ag))),?_⟩
 show aP _ _ _ [some (.ref p)] H;tm_at "ck";tm_at "sx";exact k _ (by assumption) (by tm_at "fr")
noncomputable def dH (s:PS):PS:={ s with due:=some (s.now+s.wait) }
theorem eM (T:TX K mg a):Ok P w K mg base a kf 1 (spM a dH):=by
 refine fo T 24 fun S H hr h=>?_;obtain ⟨p,o,s,rfl,hs,k⟩:=h;refine ⟨_,(ae (sf 0 (ay bt (pf 0) (pf 0)))),?_⟩;show lE _ _ _ _ _ [some (.ref p)] H;tm_at "ck";tm_at "sx";exact k _ (by assumption) (by tm_at "fr")
noncomputable def iy (s:PS) (i:Int):PS:={ s with bp:=i,dU:=s.now }
theorem j2 (T:TX K mg a):Ok P w K mg base a hG 1 (zk a iy):=by
 refine fo T 25 fun S H hr h=>?_;obtain ⟨p,o,s,i,rfl,hs,k⟩:=h;refine ⟨_,(aa (sf 0 (pv 1))
  (ae (sf 0 (pf 0)))),?_⟩
 show aP _ _ _ [some (.ref p),some (.int i)] H;tm_at "ck";tm_at "sx";exact k _ (by assumption) (by tm_at "fr")
noncomputable def bG (s:PS):PS:={ s with bp:=0 }
theorem bT (T:TX K mg a):Ok P w K mg base a fO 1 (spM a bG):=by
 refine fo T 26 fun S H hr h=>?_;obtain ⟨p,o,s,rfl,hs,k⟩:=h;refine ⟨_,(ae (sf 0 ag)),?_⟩;show lE _ _ _ _ _ [some (.ref p)] H;tm_at "ck";tm_at "sx";exact k _ (by assumption) (by tm_at "fr")
noncomputable def widen (s:PS) (i:Int):PS:={ s with wide:=min 1048576 (s.wide+i) }
theorem iY (T:TX K mg a):Ok P w K mg base a mO 1 (zk a widen):=by
 refine fo T 27 fun S H hr h=>?_;obtain ⟨p,o,s,i,rfl,hs,k⟩:=h;refine ⟨_,(ae (sf 0 (az (eI rfl) rfl T.mW boot_min (af (pgi T 22) (pa1 (ay bt (pf 0) (pv 1))))))),?_⟩;show lE _ _ _ _ _ [some (.ref p),some (.int i)] H;tm_at "ck";tm_at "sx";exact k _ (by assumption) (by tm_at "fr")
noncomputable def eQ (s:PS):PS:={ s with slow:=max 2800 ((s.top - s.first) / 2) }
theorem j4 (T:TX K mg a):Ok P w K mg base a ia 1 (spM a eQ):=by
 refine fo T 28 fun S H hr h=>?_;obtain ⟨p,o,s,rfl,hs,k⟩:=h;refine ⟨_,(ae (sf 0 (az (bz rfl) rfl T.ik boot_max (af ag (pa1 (ay jG (ay bC (pf 0) (pf 0)) ag)))))),?_⟩;show lE _ _ _ _ _ [some (.ref p)] H;tm_at "ck";tm_at "sx";exact k _ (by assumption) (by tm_at "fr")
noncomputable def cx (s:PS):PS:={ s with phase:=5,aS:=some (s.now+60000) }
theorem nY (T:TX K mg a):Ok P w K mg base a kY 1 (spM a cx):=by
 refine fo T 29 fun S H hr h=>?_;obtain ⟨p,o,s,rfl,hs,k⟩:=h;refine ⟨_,(aa (sf 0 (pgi T 16))
  (ae (sf 0 (ay bt (pf 0) (pgi T 24))))),?_⟩
 show aP _ _ _ [some (.ref p)] H;tm_at "ck";tm_at "sx";exact k _ (by assumption) (by tm_at "fr")
noncomputable def finish (s:PS) (i:Int):PS:={ s with phase:=6,why:=i,due:=none,bp:=0,owed:=0 }
theorem cK (T:TX K mg a):Ok P w K mg base a kZ 2 (zk a finish):=by
 refine fo T 30 fun S H hr h=>?_;obtain ⟨p,o,s,i,rfl,hs,k⟩:=h;refine ⟨_,(aa (sf 0 (pgi T 17))
  (aa (sf 0 (pv 1))
  (aa (sf 0 iF)
  (aa (aj (pm0 (pv 0) (bT T) hr))
  (ae (sf 0 ag)))))),?_⟩
 show aP _ _ _ [some (.ref p),some (.int i)] H;tm_at "ck";tm_at "sx";exact k _ (by assumption) (by tm_at "fr")
end
noncomputable def dD {α:Type}:List α→List α
 | []=>[]
 | [x]=>[x]
 | x::_::r=>x::dD r
theorem xu {α β:Type} (f:α→β):∀l:List α,dD (l.map f)=(dD l).map f
 | []=>rfl
 | [_]=>rfl
 | _::_::r=>congrArg (_ :: ·) (xu f r)
theorem pq {α:Type}:∀l:List α,(dD l).length≤l.length
 | []=>Nat.le_refl _
 | [_]=>Nat.le_refl _
 | _::_::r=>by have:=pq r;simp only [dD,List.length_cons];tm_at "ob"
theorem vD {α:Type}:∀l:List α,(List.range ((l.length+1) / 2)).filterMap (fun k=>l[2*k]?)=dD l
 | []=>by simp [dD]
 | [x]=>by
  simp [dD,List.range_succ]
 | x::y::r=>by
  have ih:=vD r;have e:((x::y::r).length+1) / 2=(r.length+1) / 2+1:=by simp only [List.length_cons];tm_at "ob"
  rw [e,List.range_succ_eq_map,List.filterMap_cons];have e0:(x::y::r)[2*0]? = some x:=rfl;rw [e0];show x::_=x::dD r;rw [←ih,List.filterMap_map];rfl
theorem uH:∀{xs:List V} {us:List Value},bK xs us→bK (dD xs) (dD us)
 | _,_,.nil=>.nil
 | _,_,.cons r .nil=>.cons r .nil
 | _,_,.cons r (.cons _ t)=>.cons r (uH t)
theorem tV (its:List Value) (i:Nat):slicePick its.toArray (some (i:Int)) none (some 2)=(dD (its.drop i)).toArray:=by
 unfold slicePick sliceBounds;simp only [Option.getD_some,List.size_toArray,show (2:Int) > 0 by decide,if_true,show ¬((i:Int)<0) by tm_at "ob",if_false];congr 1;unfold sliceRange;simp only [show (2:Int) > 0 by decide,if_true];rw [←vD,List.length_drop];by_cases h:i<its.length
 ·have e1:max 0 (min (i:Int) (its.length:Int))=(i:Int):=by tm_at "ob"
  rw [e1,if_pos (by tm_at "ob")];have e2:(((its.length:Int) - (i:Int)+2 - 1) / 2).toNat=(its.length - i+1) / 2:=by tm_at "ob"
  rw [e2,List.filterMap_map];congr 1;funext k;have e3:((i:Int)+2*(k:Int)).toNat=i+2*k:=by tm_at "ob"
  simp only [Function.comp,e3,List.getElem?_toArray,List.getElem?_drop]
 ·have e1:max 0 (min (i:Int) (its.length:Int))=(its.length:Int):=by tm_at "ob"
  rw [e1,if_neg (by tm_at "ob")];have e2:(its.length - i+1) / 2=0:=by tm_at "ob"
  rw [e2];rfl
section
variable {X:Cx} {e:Expr} {te:TE} {lo:Option Expr} {tl:TO} {pos p2 p3:Pos}
noncomputable def Ja (K:PySem.W.Frag) (te:TE) (tl:TO):TE:=fun σ H Q=>te σ H fun x H1=>tl σ H1 fun l H2=>∃a xs,∃i:Nat,l=some (i:Int)∧x = .ref a∧SqL K H2 a xs∧∀p,H2 p=none→Q (.ref p) (upd H2 p (.lst (dD (xs.drop i))))
theorem xm {j:Nat} (he:PE X e te) (hl:PO X lo tl) (hu:PO X none uk):PE X (.Subscript e (.Slice lo none (some (.Constant (.int 2) j p3)) p2) pos) (Ja X.K te tl):=by
 intro pins s σ H Q I h;refine Subscript_ (thn (he pins s σ H _ I h) fun v s1 ⟨x,H1,I1,r1,q1⟩=>?_);refine wpAny_Slice (thn (hl pins s1 σ H1 _ I1 q1) fun vl s2 ⟨l,H2,I2,pl,a,xs,i,el,ex,hx,q2⟩=>?_);subst el ex
 cases r1
 refine thn (hu pins s2 σ H2 (fun o H'=>o=none∧H'=H2) I2 ⟨rfl,rfl⟩) fun vu s3 ⟨u,H3,I3,pu,eu,eH⟩=>?_;subst eu eH;refine thn (bN (X:=X) (ag (i:=2) (j:=j) (pos:=p3)) pins s3 σ H3 (fun o H'=>o=some 2∧H'=H3) I3 ⟨2,rfl,rfl,rfl⟩) fun vs s4 ⟨w,H4,I4,ps,ew,eH⟩=>?_;subst ew eH;have I5:Inv X pins σ H4 { s4 with heap:=s4.heap.push { cls:=.type "slice",data:=.fields #[vl,vu,vs] } }:=I4.kept (t':=s4.toks) fun b ob q=>Heap.get?_push_of_some _ q;obtain ⟨its,r,ht,hz⟩:=I5.list hx;have hlen:=r.length;show wpAny (model X.prog X.w) X.A (subscriptTail e _ (.ref a) (.ref s4.heap.objs.size)) (EP X pins σ Q) X.xe _;refine tail_any (ops:=[.ref a,.ref s4.heap.objs.size]) ht.isList.typeIs slot_list_getitem.lookup ?_ (by with_unfolding_all rfl);refine wpAny_getItem_list_slice ht.isList (Heap.IsSliceOf.new ..) pl pu ps (by decide) ?_ (by rw [List.size_toArray];omega);rw [tV];refine ⟨.ref _,_,I5.laid (t':=s4.toks) (o:=.lst (dD (xs.drop i))) (fun b ob q=>Heap.get?_push_of_some _ q) (Nat.le_refl _) ?_,rfl,q2 _ (I5.hok.fresh (Nat.le_refl _))⟩;refine ⟨Nat.le_trans (pq _) (by rw [List.length_drop];omega),_,0,uH (r.drop i),Heap.get?_push_size _ rfl⟩
end
theorem JF {lo:Int} {n j:Nat} {te:TE} {vs:List Nat} {σ:L2.St} {H:Hp} {Q:VK} (f:Nat→V) (hn:n≤1000)
  (hw:∀x,wipe ((wipe σ vs).set j x) vs=wipe σ vs)
  (he:∀i,i<n→∀(H':Hp) (Q':VK),Q' (f i) H'→te ((wipe σ vs).set j (some (.int (lo+i)))) H' Q')
  (k:∀D H',H D=none→aF H H'→H' D=some (.lst ((List.range n).map f))→Q (.ref D) H') :
  ∀D,H D=none→∃W:Nat→Nat→Hp→Prop,(∃m,W 0 m (upd H D (.lst [])))∧∀i m H',W i m H'→
   ((Itr lo n).stop i H'∧Q (.ref D) H')∨((Itr lo n).go i H'∧∃Nx:Hp→Prop,(∀H2,Nx H2→∃m',m'<m∧W (i+1) m' H2)∧∀x H2,(Itr lo n).yld i H' x H2→da j x (wipe σ vs) H2 fun σ2 H3=>wipe σ2 vs=wipe σ vs∧IZ σ2 H3 fun b H4 =>
    if b=true then te σ2 H4 fun y H5=>∃acc,H5 D=some (.lst acc)∧acc.length<sizeLine∧Nx (upd H5 D (.lst (acc++[y]))) else Nx H4):=by
 intro D hD;refine ⟨fun i m H'=>m=n - i∧i≤n∧H' D=some (.lst ((List.range i).map f))∧aF H H',⟨n,rfl,Nat.zero_le _,aG,fW hD _⟩,?_⟩;rintro i m H' ⟨rfl,hi,e,sm⟩;by_cases hlt:i<n
 ·refine .inr ⟨hlt,fun H2=>H2 D=some (.lst ((List.range (i+1)).map f))∧aF H H2,fun H2 ⟨e2,s2⟩=>⟨n - (i+1),by omega,rfl,hlt,e2,s2⟩,fun x H2 y=>?_⟩
  obtain ⟨e3,y⟩:=y;subst e3 y;refine ⟨hw _,?_⟩;unfold IZ;dsimp only;rw [if_pos rfl];refine he i hlt _ _ ⟨_,e,by rw [List.length_map,List.length_range,sizeLine_eq];omega,?_,?_⟩
  ·rw [aG,List.range_succ,List.map_append];rfl
  ·exact fun b o q=>by rw [aD (ai q hD)];exact sm b o q
 ·have e0:i=n:=by omega
  subst e0;exact .inl ⟨Nat.le_refl _,k D H' hD sm e⟩
theorem yu {X:Cx} {K:PySem.W.Frag} (h:X.K=K):IxR X (Hj K):=h▸cz
noncomputable def eS {α:Type} (xs:List α) (lo hi:Option Int):List α:=(xs.drop (HT.sIx xs.length 0 lo)).take (HT.sIx xs.length xs.length hi - HT.sIx xs.length 0 lo)
theorem FN {α β:Type} (f:α→β) (xs:List α) (lo hi:Option Int):eS (xs.map f) lo hi=(eS xs lo hi).map f:=by
 unfold eS;rw [List.length_map,←List.map_drop,←List.map_take]
theorem Ak (xs:List Int) (lo hi:Option Int):FK (xs.map V.int) lo hi=(eS xs lo hi).map V.int:=FN V.int xs lo hi
theorem pA {α:Type} (xs:List α) (i j:Nat):eS xs (some (i:Int)) (some (j:Int))=(xs.drop i).take (j - i):=by
 unfold eS HT.sIx;simp only [show ¬((i:Int)<0) by tm_at "ob",show ¬((j:Int)<0) by tm_at "ob",if_false,Int.toNat_natCast];by_cases h:i≤xs.length
 ·rw [Nat.min_eq_left h]
  by_cases h2:j≤xs.length
  ·rw [Nat.min_eq_left h2]
  ·rw [Nat.min_eq_right (by tm_at "ob"),List.take_of_length_le (by rw [List.length_drop];tm_at "ob"),List.take_of_length_le (by rw [List.length_drop];tm_at "ob")]
 ·rw [Nat.min_eq_right (show xs.length≤i by tm_at "ob"),List.drop_of_length_le (Nat.le_refl _),List.drop_of_length_le (by tm_at "ob"),List.take_nil,List.take_nil]
theorem jL {α:Type} (xs:List α) (j:Nat):eS xs none (some (j:Int))=xs.take j:=by
 have:=pA xs 0 j;simp only [List.drop_zero,Nat.sub_zero] at this;rw [←this];unfold eS HT.sIx;simp
theorem iR {α:Type} (xs:List α) (i:Nat):eS xs (some (i:Int)) none=xs.drop i:=by
 unfold eS HT.sIx;simp only [show ¬((i:Int)<0) by tm_at "ob",if_false,Int.toNat_natCast];by_cases h:i≤xs.length
 ·rw [Nat.min_eq_left h,List.take_of_length_le (by rw [List.length_drop];tm_at "ob")]
 ·rw [Nat.min_eq_right (show xs.length≤i by tm_at "ob"),List.drop_of_length_le (Nat.le_refl _),List.drop_of_length_le (by tm_at "ob"),List.take_nil]
section
variable {K:PySem.W.Frag} {σ:L2.St} {H:Hp} {Q:VK} {D:Ends} {ta tb tc te:TE} {q:Addr}
theorem LH {r:V→Option Int→Option Int→Hp→VK→Prop} {tl th:TO} (k:te σ H fun x H1=>tl σ H1 fun l H2=>th σ H2 fun u H3=>r x l u H3 Q):tSl r te tl th σ H Q:=k
instance {r:V→Option Int→Option Int→Hp→VK→Prop} {tl th:TO}:Stp (tSl r te tl th σ H Q) (te σ H fun x H1=>tl σ H1 fun l H2=>th σ H2 fun u H3=>r x l u H3 Q):=⟨LH⟩
noncomputable def Cw (x:V) (H:Hp) (Q:Option Int→Hp→Prop):Prop:=∃i,x = .int i∧Q (some i) H
theorem JX {Q:Option Int→Hp→Prop} (k:ta σ H fun x H1=>Cw x H1 Q):Ee ta σ H Q:=k
instance {Q:Option Int→Hp→Prop}:Stp (Ee ta σ H Q) (ta σ H fun x H1=>Cw x H1 Q):=⟨JX⟩
theorem Ih {Q:Option Int→Hp→Prop} {i:Int} (k:Q (some i) H):Cw (.int i) H Q:=⟨i,rfl,k⟩
instance {Q:Option Int→Hp→Prop} {i:Int}:Stp (Cw (.int i) H Q) (Q (some i) H):=⟨Ih⟩
theorem F9 {Q:Option Int→Hp→Prop} (k:Q none H):uk σ H Q:=k
instance {Q:Option Int→Hp→Prop}:Stp (uk σ H Q) (Q none H):=⟨F9⟩
theorem ni {g:List Int} {lo hi:Option Int} (h:ax H q g) (k:∀p H',H p=none→aF H H'→ax H' p (eS g lo hi)→Q (.ref p) H'):Hi K (.ref q) lo hi H Q:=
 ⟨q,_,rfl,SqL.of h,fun p hp=>k p _ hp (fW hp _) (by unfold ax;rw [aG,Ak])⟩
theorem Cp {g:List V} {lo hi:Option Int} (h:H q=some (.lst g)) (k:∀p H',H p=none→aF H H'→H' p=some (.lst (eS g lo hi))→Q (.ref p) H'):Hi K (.ref q) lo hi H Q:=
 ⟨q,_,rfl,SqL.of h,fun p hp=>k p _ hp (fW hp _) aG⟩
noncomputable def Kl (K:PySem.W.Frag) (x:V) (l:Option Int) (H:Hp) (Q:VK):Prop:=∃a xs,∃i:Nat,l=some (i:Int)∧x = .ref a∧SqL K H a xs∧∀p,H p=none→Q (.ref p) (upd H p (.lst (dD (xs.drop i))))
theorem Lc {tl:TO} (k:te σ H fun x H1=>tl σ H1 fun l H2=>Kl K x l H2 Q):Ja K te tl σ H Q:=k
instance {tl:TO}:Stp (Ja K te tl σ H Q) (te σ H fun x H1=>tl σ H1 fun l H2=>Kl K x l H2 Q):=⟨Lc⟩
theorem F0 {g:List Int} {i:Nat} (h:ax H q g) (k:∀p H',H p=none→aF H H'→ax H' p (dD (g.drop i))→Q (.ref p) H'):Kl K (.ref q) (some (i:Int)) H Q:=
 ⟨q,_,i,rfl,rfl,SqL.of h,fun p hp=>k p _ hp (fW hp _) (by unfold ax;rw [aG,←List.map_drop,xu])⟩
theorem FX {g:List Int} (h:ax H q g) (k:Q (.int g.sum) H):Kx K [.ref q] H Q:=⟨q,g,rfl,SqL.of h,k⟩
noncomputable def AG (xs:List V) (H:Hp) (Q:VK):Prop:=xs.length≤sizeLine∧∀p,H p=none→Q (.ref p) (upd H p (.lst xs))
noncomputable def Kj (xs:List V) (H:Hp) (Q:VK):Prop:=xs.length≤sizeLine∧∀p,H p=none→Q (.ref p) (upd H p (.tup xs))
theorem Lh {t:TA} (k:t σ H fun xs H1=>AG xs H1 Q):GH t σ H Q:=k
instance {t:TA}:Stp (GH t σ H Q) (t σ H fun xs H1=>AG xs H1 Q):=⟨Lh⟩
theorem La {t:TA} (k:t σ H fun xs H1=>Kj xs H1 Q):GG t σ H Q:=k
instance {t:TA}:Stp (GG t σ H Q) (t σ H fun xs H1=>Kj xs H1 Q):=⟨La⟩
theorem bD {xs:List V} (h:xs.length≤1000) (k:∀p H',H p=none→aF H H'→H' p=some (.lst xs)→Q (.ref p) H'):AG xs H Q:=⟨Nat.le_trans h (by decide),fun p hp=>k p _ hp (fW hp _) aG⟩
theorem oP {xs:List V} (h:xs.length≤1000) (k:∀p H',H p=none→aF H H'→H' p=some (.tup xs)→Q (.ref p) H'):Kj xs H Q:=⟨Nat.le_trans h (by decide),fun p hp=>k p _ hp (fW hp _) aG⟩
theorem cV {b:Addr} {xs zs:List Int} (h:ax H q xs) (h':ax H b zs) (hz:xs.length+zs.length≤sizeLine) (k:∀p H',H p=none→aF H H'→ax H' p (xs++zs)→Q (.ref p) H'):EE (.ref q) (.ref b) H Q:=
 ⟨q,b,_,_,rfl,rfl,h,h',by rw [List.length_map,List.length_map];exact hz,fun p hp=>k p _ hp (fW hp _) (by unfold ax;rw [aG,List.map_append])⟩
noncomputable def BmR (K:PySem.W.Frag) (T:String) (r:V→List V→Hp→VK→Prop) (t:TA) (σ:L2.St) (Q:VK) (x:V) (H:Hp):Prop:=tyV K T x H∧t σ H fun xs H2=>r x xs H2 Q
theorem LM {T:String} {r:V→List V→Hp→VK→Prop} {t:TA} (k:ta σ H fun x H1=>BmR K T r t σ Q x H1):tBM K T r ta t σ H Q:=k
instance {T:String} {r:V→List V→Hp→VK→Prop} {t:TA}:Stp (tBM K T r ta t σ H Q) (ta σ H fun x H1=>BmR K T r t σ Q x H1):=⟨LM⟩
theorem gG {r:V→List V→Hp→VK→Prop} {t:TA} {xs:List V} (h:H q=some (.lst xs)) (k:t σ H fun xs H2=>r (.ref q) xs H2 Q):BmR K "list" r t σ Q (.ref q) H:=⟨.inl ⟨rfl,_,SqL.of h⟩,k⟩
noncomputable def GA (C:Addr) (sp:Sp) (dvs:List V) (E:XK) (Q:VK) (vs:List V) (H:Hp):Prop:=∀x dx,H x=none→H dx=none→dx≠x→sp (.ref x::(vs++dvs)) (upd (upd H dx (.own x)) x (.ins C dx [])) (fun v H2=>v = .non∧Q (.ref x) H2) E
theorem J1 {C:Addr} {sp:Sp} {dvs:List V} {E:XK} {t:TA} (k:t σ H fun vs H1=>GA C sp dvs E Q vs H1):BS C sp dvs E t σ H Q:=k
instance {C:Addr} {sp:Sp} {dvs:List V} {E:XK} {t:TA}:Stp (BS C sp dvs E t σ H Q) (t σ H fun vs H1=>GA C sp dvs E Q vs H1):=⟨J1⟩
theorem uz {C:Addr} {sp:Sp} {dvs vs:List V} {E:XK} (k:∀x dx H2,H x=none→aF H H2→H2 x=some (.ins C dx [])→sp (.ref x::(vs++dvs)) H2 (fun v H3=>v = .non∧Q (.ref x) H3) E):GA C sp dvs E Q vs H:=
 fun x dx nx nd _=>k x dx _ nx (fun b o h=>by rw [aD (ai h nx),aD (ai h nd)];exact h) aG
noncomputable def But (q:Addr) (H H':Hp):Prop:=∀b x,H b=some x→b≠q→H' b=some x
theorem But.upd (q:Addr) (H:Hp) (x:HO):But q H (upd H q x):=fun b y h n=>by rw [aD n];exact h
theorem But.trans {H H1 H2:Hp} (f:But q H H1) (g:But q H1 H2):But q H H2:=fun b x h n=>g b x (f b x h n) n
theorem aF.but {H H':Hp} (f:aF H H'):But q H H':=fun b x h _=>f b x h
theorem qB {b:Addr} {xs zs:List Int} (h:ax H q xs) (h':ax H b zs) (hz:xs.length+zs.length≤sizeLine) (k:∀H',But q H H'→ax H' q (xs++zs)→Q .non H'):B3 (.ref q) [.ref b] H Q:=
 ⟨q,b,_,_,rfl,rfl,h,h',by rw [List.length_map,List.length_map];exact hz,k _ (But.upd _ _ _) (by unfold ax;rw [aG,List.map_append])⟩
theorem jA {xs:List V} {y:V} (h:H q=some (.lst xs)) (hz:xs.length<sizeLine) (k:∀H',But q H H'→H' q=some (.lst (xs++[y]))→Q .non H'):qR (.ref q) [y] H Q:=
 ⟨q,_,y,rfl,rfl,h,hz,k _ (But.upd _ _ _) aG⟩
noncomputable def Kp (K:PySem.W.Frag) (g:TG) (tb:TS) (D:Ends) (σ:L2.St) (x:V) (H:Hp):Prop:=∃a,x = .ref a∧(∃xs,SqL K H a xs)∧∃W:Nat→Nat→L2.St→Hp→Prop,(∃m,W 0 m σ H)∧∀i m σ H,W i m σ H→
 ((Itl K a).stop i H∧D.nx σ H)∨((Itl K a).go i H∧∃N:L2.St→Hp→Prop,(∀σ' H',N σ' H'→∃m',m'<m∧W (i+1) m' σ' H')∧∀x H',(Itl K a).yld i H x H'→g x σ H' fun σ2 H2=>tb { D with nx:=N,ct:=N,bk:=D.nx } σ2 H2)
theorem J4 {g:TG} {tb:TS} (k:ta σ H fun x H1=>Kp K g tb D σ x H1):zc (Ac K ta) g tb D σ H:=k
instance {g:TG} {tb:TS}:Stp (zc (Ac K ta) g tb D σ H) (ta σ H fun x H1=>Kp K g tb D σ x H1):=⟨J4⟩
theorem forL {g:TG} {tb:TS} {xs:List V} (h:H q=some (.lst xs)) (Pv:Nat→L2.St→Hp→Prop) (h0:Pv 0 σ H) (hl:∀i σ H',i≤xs.length→Pv i σ H'→H' q=some (.lst xs))
  (hs:∀i x σ H',xs[i]? = some x→Pv i σ H'→g x σ H' fun σ2 H2=>tb { D with nx:=Pv (i+1),ct:=Pv (i+1),bk:=D.nx } σ2 H2) (hd:∀σ H',Pv xs.length σ H'→D.nx σ H'):Kp K g tb D σ (.ref q) H:=
 ⟨q,rfl,⟨_,SqL.of h⟩,Fs Pv h0 (fun i σ H' hi p=>SqL.of (hl i σ H' hi p)) hs hd⟩
noncomputable def GB (g:TG) (tb:TS) (D:Ends) (σ:L2.St) (vs:List V) (H:Hp):Prop:=∃(i j c:Int) (n:Nat),vs=[.int i,.int j,.int c]∧RgC i j c n∧∃W:Nat→Nat→L2.St→Hp→Prop,(∃m,W 0 m σ H)∧∀i' m σ H,W i' m σ H→
 ((Itc i c n).stop i' H∧D.nx σ H)∨((Itc i c n).go i' H∧∃N:L2.St→Hp→Prop,(∀σ' H',N σ' H'→∃m',m'<m∧W (i'+1) m' σ' H')∧∀x H',(Itc i c n).yld i' H x H'→g x σ H' fun σ2 H2=>tb { D with nx:=N,ct:=N,bk:=D.nx } σ2 H2)
theorem J5 {g:TG} {tb:TS} {t:TA} (k:t σ H fun vs H1=>GB g tb D σ vs H1):zc (Fk t) g tb D σ H:=k
instance {g:TG} {tb:TS} {t:TA}:Stp (zc (Fk t) g tb D σ H) (t σ H fun vs H1=>GB g tb D σ vs H1):=⟨J5⟩
theorem LD {g:TG} {tb:TS} {i j c:Int} {n:Nat} (h:RgC i j c n) (Pv:Nat→L2.St→Hp→Prop) (h0:Pv 0 σ H)
  (hs:∀i' σ H',i'<n→Pv i' σ H'→g (.int (i+(i':Nat)*c)) σ H' fun σ2 H2=>tb { D with nx:=Pv (i'+1),ct:=Pv (i'+1),bk:=D.nx } σ2 H2) (hd:∀σ H',Pv n σ H'→D.nx σ H'):GB g tb D σ [.int i,.int j,.int c] H:=
 ⟨i,j,c,n,rfl,h,Bm Pv h0 hs hd⟩
noncomputable def Ko (K:PySem.W.Frag) (g:TG) (tb:TS) (D:Ends) (σ:L2.St) (x:V) (H:Hp):Prop:=∃a,x = .ref a∧(∃xs,SqT K H a xs)∧∃W:Nat→Nat→L2.St→Hp→Prop,(∃m,W 0 m σ H)∧∀i m σ H,W i m σ H→
 ((Itt K a).stop i H∧D.nx σ H)∨((Itt K a).go i H∧∃N:L2.St→Hp→Prop,(∀σ' H',N σ' H'→∃m',m'<m∧W (i+1) m' σ' H')∧∀x H',(Itt K a).yld i H x H'→g x σ H' fun σ2 H2=>tb { D with nx:=N,ct:=N,bk:=D.nx } σ2 H2)
theorem J3 {g:TG} {tb:TS} (k:ta σ H fun x H1=>Ko K g tb D σ x H1):zc (JL K ta) g tb D σ H:=k
instance {g:TG} {tb:TS}:Stp (zc (JL K ta) g tb D σ H) (ta σ H fun x H1=>Ko K g tb D σ x H1):=⟨J3⟩
theorem KU {g:TG} {tb:TS} {xs:List V} (h:H q=some (.tup xs)) (Pv:Nat→L2.St→Hp→Prop) (h0:Pv 0 σ H) (hl:∀i σ H',i≤xs.length→Pv i σ H'→H' q=some (.tup xs))
  (hs:∀i x σ H',xs[i]? = some x→Pv i σ H'→g x σ H' fun σ2 H2=>tb { D with nx:=Pv (i+1),ct:=Pv (i+1),bk:=D.nx } σ2 H2) (hd:∀σ H',Pv xs.length σ H'→D.nx σ H'):Ko K g tb D σ (.ref q) H:=
 ⟨q,rfl,⟨_,SqT.of h⟩,HV Pv h0 (fun i σ H' hi p=>SqT.of (hl i σ H' hi p)) hs hd⟩
theorem Cq {xs:List V} {v:V} {j:Nat} (h:H q=some (.lst xs)) (e:xs[j]? = some v) (k:Q v H):Hk K (.ref q) (.int (j:Int)) H Q:=⟨q,_,_,v,rfl,rfl,SqL.of h,Il e,k⟩
theorem dR {xs:List Int} {v:Int} {j:Nat} (h:ax H q xs) (e:xs[j]? = some v) (k:Q (.int v) H):Hk K (.ref q) (.int (j:Int)) H Q:=Cq h (by rw [List.getElem?_map,e];rfl) k
theorem eT {u v:V} (h:H q=some (.tup [u,v])) (k:Q u H):Hj K (.ref q) (.int 0) H Q:=⟨q,_,_,u,rfl,rfl,SqT.of h,rfl,k⟩
theorem ig {u v:V} (h:H q=some (.tup [u,v])) (k:Q v H):Hj K (.ref q) (.int 1) H Q:=⟨q,_,_,v,rfl,rfl,SqT.of h,rfl,k⟩
end
theorem aF.ny {H H1 H2:Hp} {q:Addr} (s:aF H H1) (n:H q=none) (f:But q H1 H2):aF H H2:=fun b x h=>f b x (s b x h) (ai h n)
set_option genInjectivity false in
set_option genSizeOf false in
structure SG where
 fF:Int
 oV:Int
 number:Int
 acked:Int
 flags:Int
 window:Int
 ranges:List (Int×Int)
 data:List Int
noncomputable def SG.wD (s:SG) (v:Int):SG:={ s with fF:=v }
noncomputable def SG.zo (s:SG) (v:Int):SG:={ s with oV:=v }
noncomputable def SG.AO (s:SG) (v:Int):SG:={ s with number:=v }
noncomputable def SG.rP (s:SG) (v:Int):SG:={ s with acked:=v }
noncomputable def SG.rO (s:SG) (v:Int):SG:={ s with flags:=v }
noncomputable def SG.gm (s:SG) (v:Int):SG:={ s with window:=v }
noncomputable def eR (rq dq:Addr) (s:SG):List (Str×V):=[(("from_port",.int s.fF):Str×V),(("to_port",.int s.oV):Str×V),(("number",.int s.number):Str×V),(("acked",.int s.acked):Str×V),(("flags",.int s.flags):Str×V),(("window",.int s.window):Str×V),(("ranges",.ref rq):Str×V),(("data",.ref dq):Str×V)]
theorem rf (rq dq:Addr) (s:SG):(eR rq dq s).length<1000:=by unfold eR;simp
section
variable {K:PySem.W.Frag} {mg:Str→Option Value} {a:AD} {H:Hp} {q rq dq dx:Addr} {s:SG} {Q:VK} {N:Hp→Prop}
class Rgc (f:Str) (v:outParam (Addr→Addr→SG→V)):Prop where
 l:∀rq dq s,(eR rq dq s).lookup f=some (v rq dq s)
 n:∃i:Nat,j6[i]? = some f
class Sgc (f:Str) (v:V) (g:outParam (SG→SG)):Prop where
 l:∀rq dq s,bU f v (eR rq dq s)=eR rq dq (g s)
 n:∃i:Nat,j6[i]? = some f
theorem rgZ {f:Str} {v:Addr→Addr→SG→V} [c:Rgc f v] (T:TX K mg a) (h:H q=some (.ins a.aA dx (eR rq dq s))) (k:Q (v rq dq s) H):sV K f (.ref q) H Q:=
 let ⟨i,n⟩:=c.n;⟨q,a.aA,dx,_,_,rfl,h,T.cg,T.cQ i f n,c.l rq dq s,k⟩
theorem sgZ {f:Str} {v:V} {g:SG→SG} [c:Sgc f v g] (T:TX K mg a) (h:H q=some (.ins a.aA dx (eR rq dq s))) (k:∀H',H' q=some (.ins a.aA dx (eR rq dq (g s)))→But q H H'→N H'):StR K f (.ref q) v H N:=by
 obtain ⟨i,n⟩:=c.n;refine ⟨q,a.aA,dx,_,rfl,h,T.cg,T.cQ i f n,rf rq dq s,?_⟩;rw [c.l rq dq s];exact k _ aG (But.upd _ _ _)
instance:Rgc "from_port" fun rq dq s=>.int s.fF:=⟨fun _ _ _=>by kernel_rfl,0,rfl⟩
instance {v:Int}:Sgc "from_port" (.int v) fun s=>s.wD v:=⟨fun _ _ _=>by kernel_rfl,0,rfl⟩
instance:Rgc "to_port" fun rq dq s=>.int s.oV:=⟨fun _ _ _=>by kernel_rfl,1,rfl⟩
instance {v:Int}:Sgc "to_port" (.int v) fun s=>s.zo v:=⟨fun _ _ _=>by kernel_rfl,1,rfl⟩
instance:Rgc "number" fun rq dq s=>.int s.number:=⟨fun _ _ _=>by kernel_rfl,2,rfl⟩
instance {v:Int}:Sgc "number" (.int v) fun s=>s.AO v:=⟨fun _ _ _=>by kernel_rfl,2,rfl⟩
instance:Rgc "acked" fun rq dq s=>.int s.acked:=⟨fun _ _ _=>by kernel_rfl,3,rfl⟩
instance {v:Int}:Sgc "acked" (.int v) fun s=>s.rP v:=⟨fun _ _ _=>by kernel_rfl,3,rfl⟩
instance:Rgc "flags" fun rq dq s=>.int s.flags:=⟨fun _ _ _=>by kernel_rfl,4,rfl⟩
instance {v:Int}:Sgc "flags" (.int v) fun s=>s.rO v:=⟨fun _ _ _=>by kernel_rfl,4,rfl⟩
instance:Rgc "window" fun rq dq s=>.int s.window:=⟨fun _ _ _=>by kernel_rfl,5,rfl⟩
instance {v:Int}:Sgc "window" (.int v) fun s=>s.gm v:=⟨fun _ _ _=>by kernel_rfl,5,rfl⟩
instance:Rgc "ranges" fun rq dq s=>.ref rq:=⟨fun _ _ _=>by kernel_rfl,6,rfl⟩
instance:Rgc "data" fun rq dq s=>.ref dq:=⟨fun _ _ _=>by kernel_rfl,7,rfl⟩
theorem zm (T:TX K mg a) {v:Int} (h:H q=some (.ins a.aA dx (eR rq dq s))) (k:∀H',H' q=some (.ins a.aA dx (eR rq dq (s.rP v)))→But q H H'→N H'):StR K "acked" (.ref q) (.int v) H N:=by
 refine ⟨q,a.aA,dx,_,rfl,h,T.cg,T.cQ 3 _ rfl,rf rq dq s,?_⟩;rw [show bU "acked" (.int v) (eR rq dq s)=eR rq dq (s.rP v) by kernel_rfl];exact k _ aG (But.upd _ _ _)
theorem zl (T:TX K mg a) {v:Int} (h:H q=some (.ins a.aA dx (eR rq dq s))) (k:∀H',H' q=some (.ins a.aA dx (eR rq dq (s.rO v)))→But q H H'→N H'):StR K "flags" (.ref q) (.int v) H N:=by
 refine ⟨q,a.aA,dx,_,rfl,h,T.cg,T.cQ 4 _ rfl,rf rq dq s,?_⟩;rw [show bU "flags" (.int v) (eR rq dq s)=eR rq dq (s.rO v) by kernel_rfl];exact k _ aG (But.upd _ _ _)
theorem rN (T:TX K mg a) {v:Int} (h:H q=some (.ins a.aA dx (eR rq dq s))) (k:∀H',H' q=some (.ins a.aA dx (eR rq dq (s.gm v)))→But q H H'→N H'):StR K "window" (.ref q) (.int v) H N:=by
 refine ⟨q,a.aA,dx,_,rfl,h,T.cg,T.cQ 5 _ rfl,rf rq dq s,?_⟩;rw [show bU "window" (.int v) (eR rq dq s)=eR rq dq (s.gm v) by kernel_rfl];exact k _ aG (But.upd _ _ _)
theorem BZ (T:TX K mg a) (h:H q=some (.ins a.aA dx (eR rq dq s))) (k:Q (.ref dq) H):sV K "data" (.ref q) H Q:=⟨q,a.aA,dx,_,_,rfl,h,T.cg,T.cQ 7 _ rfl,(by kernel_rfl),k⟩
theorem sj {P:Prop} (h:H q=some (.ins a.aA dx (eR rq dq s))) (k:P):Gz a.aA "has" (.ref q) H P:=⟨q,dx,_,rfl,h,(by kernel_rfl),k⟩
end
local macro_rules | `(tactic| tm_at "cm")=>`(tactic| first | refine xD (by decide) ?_ | refine xE (by decide) (by decide) ?_ | refine vU (by decide) (by decide) ?_ | refine vT (by decide) (by decide) ?_ | refine sT (fun _=>?_) (fun _=>?_) | refine ki (fun _=>?_) (fun _=>?_) | refine qA ‹_› ?_ | refine sS ‹_› ?_ | refine qz ‹_› ?_ | refine tM ‹_› ?_ | refine Ax ‹_› (fun _ _ _=>?_) | refine vO ‹_› (fun _ _ _=>?_) | refine vQ ‹_› (fun _ _ _=>?_) | refine rC ‹_› (fun _ _ _=>?_) | refine vP ‹_› (fun _ _ _=>?_) | refine Aw ‹_› ?_ | refine vN ‹_› ?_ | refine rgZ ‹_› ‹_› ?_ | refine sj ‹_› ?_ | refine rdZ ‹_› ‹_› ?_ | (refine jX ‹_› ‹_› (fun _ _ _=>?_)) | (refine qQ ‹_› ‹_› (fun _ _ _=>?_)) | (refine lG ‹_› ‹_› (fun _ _ _=>?_)) | (refine iD ‹_› ‹_› (fun _ _ _=>?_)) | refine meZ ‹_› ?_)
local macro_rules | `(tactic| tm_at "sg")=>`(tactic| first | (refine sgZ ‹_› ‹_› (fun _ _ _=>?_)))
section
variable {P:Program} {w:World} {K:PySem.W.Frag} {mg:Str→Option Value} {base:Heap} {a:AD}
noncomputable def sQ (n:Int) (c i:Nat):Int:=n / 2 ^ (8*((c:Int) - 1 - i)).toNat % 256
noncomputable def bytesOf (n:Int) (c:Nat):List Int:=(List.range c).map (sQ n c)
noncomputable def zj:Sp:=fun vs H Q _=>∃(n:Int) (c:Nat),vs=[.int n,.int c]∧c≤8∧∀p H',H p=none→aF H H'→ax H' p (bytesOf n c)→Q (.ref p) H'
theorem cJ (T:TX K mg a):Ok P w K mg base a mL 1 (zj):=by
 refine fo T 2 fun S H hr h=>?_;rename_i Q E;obtain ⟨n,c,rfl,hc,k⟩:=h;refine ⟨_,(ae (aw (IM rfl S.nd (Dg rfl T.BN (pa1 (pv 1))) (own:=[("at",2)]) (by refine (show tN mL.N (bB mL.s) _ [("at",2)] from ?_);exact ⟨rfl,by decide +kernel,by decide +kernel,by decide +kernel,by decide +kernel⟩) (fun _ _ _ _ _=>d8 (i:=2) S.nd rfl (Or.inl rfl)) (fun _ _ _ _ _=>Hq) (fun _ _ _ _ _=>(ay EN (ay Jy (pv 0) (ay gP ag (ay bC (ay bC (pv 1) ag) (pv 2)))) ag))))),?_⟩;show pG _ _ [some (.int n),some (.int c),none] H;tm_at "ck";refine xC ?_;refine ⟨_,rfl,c,rfl,by omega,by omega,?_⟩;show ∀D,_;refine JF (lo:=0) (j:=2) (fun i=>.int (sQ n c i)) (by omega) (fun _=>rfl) (fun i hi H' Q' q=>?_) (fun D H' hD sm e=>k D H' hD sm (by unfold ax bytesOf;rw [List.map_map];exact e));show tOp _ _ _ [some (V.int n),some (V.int c),some (V.int (0+i))] H' Q';tm_at "sx";refine Ld (by omega) ?_;tm_at "sx";rw [Int.zero_add,bitAnd_m8];exact q
noncomputable def EX (l:List Int):Int:=l.foldl (fun n c=>n*256+c) 0
theorem foldl_take_succ {α β:Type} (f:β→α→β) (b:β) (l:List α) (i:Nat) (x:α) (h:l[i]? = some x):(l.take (i+1)).foldl f b=f ((l.take i).foldl f b) x:=by
 rw [List.take_succ,h,List.foldl_append];rfl
noncomputable def xQ:Sp:=fun vs H Q _=>∃(q:Addr) (g:List Int) (i c:Nat),vs=[.ref q,.int i,.int c]∧ax H q g∧(∀x∈g,-18446744073709551616<x∧x<18446744073709551616)∧∀H',aF H H'→Q (.int (EX ((g.drop i).take c))) H'
theorem dw (T:TX K mg a):Ok P w K mg base a oC 1 (xQ):=by
 refine fo T 3 fun S H hr h=>?_;obtain ⟨q,g,i,c,rfl,hg,hb,k⟩:=h;refine ⟨_,(aa (sn S 3 ag)
  (aa (jY PassesOwn.never rfl (gM (cG dm (pv 0) (bN (pv 1)) (bN (ay bt (pv 1) (pv 2))))) (d8 (i:=4) S.nd rfl (Or.inl rfl)) (ae (sn S 3 (ay bt (ay gP (pv 3) ag) (pv 4)))))
  (ae (aw (pv 3))))),?_⟩
 show aP _ _ _ [some (.ref q),some (.int i),some (.int c),none,none] H;tm_at "ck";tm_at "sx";rw [show (i:Int)+(c:Int)=((i+c:Nat):Int) by omega];refine ni hg (fun p H1 hp sm h1=>?_);rw [pA,Nat.add_sub_cancel_left] at h1;have hb':∀x∈(g.drop i).take c,-18446744073709551616<x∧x<18446744073709551616:=fun x hx=>hb x (List.mem_of_mem_drop (List.mem_of_mem_take hx));generalize (g.drop i).take c=l at h1 hb' k;refine forL h1 (fun i σ H'=>∃v,σ=[some (.ref q),some (.int _),some (.int _),some (.int (EX (l.take i))),v]∧H'=H1) ⟨none,rfl,rfl⟩ (fun i σ H' _ ⟨v,_,e⟩=>by rw [e];exact h1) ?_ ?_
 ·rintro i x σ H' hx ⟨v,rfl,rfl⟩
  rw [List.getElem?_map] at hx;obtain ⟨y,hy,rfl⟩:∃y,l[i]? = some y∧x=V.int y:=by
   cases e:l[i]? with
   | none=>rw [e] at hx;cases hx
   | some y=>rw [e] at hx;exact ⟨y,rfl,(Option.some.inj hx).symm⟩
  tm_at "sx";refine ⟨some (.int y),?_,rfl⟩;unfold EX;rw [foldl_take_succ _ _ l i y hy]
 ·rintro σ H' ⟨v,rfl,rfl⟩
  rw [List.length_map,List.take_length];tm_at "sx";exact k _ sm
theorem DN (n:Int) (c i:Nat):0≤sQ n c i∧sQ n c i≤255:=by unfold sQ;omega
theorem dC {n:Int} {c:Nat}:∀x∈bytesOf n c,0≤x∧x≤255:=fun x hx=>by
 obtain ⟨i,_,rfl⟩:=List.mem_map.mp hx;exact DN n c i
theorem aU (n:Int) (c:Nat):(bytesOf n c).length=c:=by unfold bytesOf;rw [List.length_map,List.length_range]
noncomputable def gD (t:Int):Int:=t % 65536+t / 65536
noncomputable def wholeOf (x y:Int) (g:List Int):List Int:=bytesOf x 4++bytesOf y 4++[0,3]++bytesOf (g.length:Int) 2++g
noncomputable def jD (l:List Int):Int:=256*(dD l).sum+(dD (l.drop 1)).sum
noncomputable def CP (x y:Int) (g:List Int):Int:=
 let t:=gD (gD (gD (jD (wholeOf x y g))))
 if t=65535 then 65535 else 65535 - t
theorem sD {α:Type} {x:α}:∀{l:List α},x∈dD l→x∈l
 | [],h=>h
 | [_],h=>h
 | a::b::r,h=>by
  rcases List.mem_cons.mp h with rfl | h
  ·exact List.mem_cons_self
  ·exact List.mem_cons_of_mem _ (List.mem_cons_of_mem _ (sD h))
theorem sum_in:∀{l:List Int},(∀x∈l,0≤x∧x≤255)→0≤l.sum∧l.sum≤255*l.length
 | [],_=>by simp
 | a::r,h=>by
  have h1:=h a List.mem_cons_self;have h2:=sum_in (l:=r) fun x hx=>h x (List.mem_cons_of_mem _ hx);rw [List.sum_cons,List.length_cons];omega
theorem AL {l:List Int} (h:∀x∈l,0≤x∧x≤255) (hl:l.length≤3000):0≤jD l∧jD l<4294967296:=by
 have h1:=sum_in (l:=dD l) fun x hx=>h x (sD hx);have h2:=sum_in (l:=dD (l.drop 1)) fun x hx=>h x (List.mem_of_mem_drop (sD hx));have l1:=pq l;have l2:=pq (l.drop 1);rw [List.length_drop] at l2;unfold jD;omega
noncomputable def CT:Sp:=fun vs H Q _=>∃(q:Addr) (g:List Int) (x y:Int),vs=[.int x,.int y,.ref q]∧ax H q g∧g.length≤2000∧(∀b∈g,0≤b∧b≤255)∧∀H',aF H H'→Q (.int (CP x y g)) H'
theorem xn (T:TX K mg a):Ok P w K mg base a vI 2 (CT):=by
 refine fo T 4 fun S H hr h=>?_;obtain ⟨q,g,x,y,rfl,hg,hl,hb,k⟩:=h;refine ⟨_,(aa (sn S 3 (ay cv (ay cv (ay cv (ay cv (pc (cJ T) hr (af (pv 0) (pa1 ag))) (pc (cJ T) hr (af (pv 1) (pa1 ag)))) (aL (af ag (pa1 ag)))) (pc (cJ T) hr (af (az aM rfl T.cW boot_len (pa1 (pv 2))) (pa1 ag)))) (pv 2)))
  (aa (sn S 4 (ay bt (ay gP ag (az (FO rfl) rfl T.IE boot_sum (pa1 (xm (pv 3) (bN ag) fC)))) (az (FO rfl) rfl T.IE boot_sum (pa1 (xm (pv 3) (bN ag) fC)))))
  (aa (uZ PassesOwn.never (ptR jB (pv 4) ag) (ae (sn S 4 (ay bt (ay A4 (pv 4) ag) (ay jG (pv 4) ag)))))
  (aa (si (ptR bb (pv 4) ag) (ae (aw ag)))
  (ae (aw (ay bC ag (pv 4)))))))),?_⟩
 show aP _ _ _ [some (.int x),some (.int y),some (.ref q),none,none] H;tm_at "ck";tm_at "sx";refine ⟨x,4,rfl,by decide,fun p1 H1 n1 s1 h1=>?_⟩;tm_at "sx";refine ⟨y,4,rfl,by decide,fun p2 H2 n2 s2 h2=>?_⟩;refine cV (h1.mono s2) h2 (by rw [aU,aU];decide) (fun p3 H3 n3 s3 h3=>?_);tm_at "sx";refine bD (by decide) (fun p4 H4 n4 s4 h4=>?_);refine cV (zs:=[0,3]) (h3.mono s4) h4 (by rw [List.length_append,aU,aU];decide) (fun p5 H5 n5 s5 h5=>?_);tm_at "sx";have s05:aF H H5:=((((s1.trans s2).trans s3).trans s4).trans s5);refine qA (hg.mono s05) ?_;tm_at "sx";refine ⟨g.length,2,rfl,by decide,fun p6 H6 n6 s6 h6=>?_⟩;refine cV (h5.mono s6) h6 (by simp only [List.length_append,aU];decide) (fun p7 H7 n7 s7 h7=>?_);tm_at "sx";have s07:aF H H7:=(s05.trans s6).trans s7;refine cV h7 (hg.mono s07) (by simp only [List.length_append,aU,sizeLine_eq];show 4+4+2+2+g.length≤_;omega) (fun p8 H8 n8 s8 h8=>?_);have h8:ax H8 p8 (wholeOf x y g):=h8;have hw:∀b∈wholeOf x y g,0≤b∧b≤255:=by
  intro b hb';unfold wholeOf at hb';simp only [List.mem_append,List.mem_cons,List.not_mem_nil,or_false] at hb';rcases hb' with (((h | h) | h) | h) | h
  ·exact dC b h
  ·exact dC b h
  ·rcases h with rfl | rfl <;> decide
  ·exact dC b h
  ·exact hb b h
 have hwl:(wholeOf x y g).length≤3000:=by unfold wholeOf;simp only [List.length_append,aU];show 4+4+2+2+g.length≤_;omega
 have ht:=AL hw hwl;unfold CP at k;unfold jD at ht k;generalize wholeOf x y g=wl at h8 k ht;tm_at "sx";refine F0 (i:=0) h8 (fun p9 H9 n9 s9 h9=>?_);tm_at "sx";refine FX h9 ?_;tm_at "sx";refine F0 (i:=1) (h8.mono s9) (fun pa Ha na sa ha=>?_);tm_at "sx";refine FX ha ?_;tm_at "sx";have s0a:aF H Ha:=((s07.trans s8).trans s9).trans sa;rw [List.drop_zero];generalize 256*(dD wl).sum+(dD (List.drop 1 wl)).sum=t0 at ht k ⊢;refine ⟨fun m σ H'=>H'=Ha∧∃t:Int,σ=[some (.int x),some (.int y),some (.ref q),some (.ref p8),some (.int t)]∧m=t.toNat∧0≤t∧t<4294967296∧gD (gD (gD t))=gD (gD (gD t0)),⟨_,rfl,t0,rfl,rfl,ht.1,ht.2,rfl⟩,?_⟩;rintro m σ H' ⟨rfl,t,rfl,rfl,t1,t2,te⟩;tm_at "sx"
 ·rename_i hgt
  refine ⟨fun σ' H''=>H''=H'∧σ'=[some (.int x),some (.int y),some (.ref q),some (.ref p8),some (.int (t % 65536+t / 65536))],?_,?_⟩
  ·rintro σ' H'' ⟨rfl,rfl⟩
   refine ⟨_,?_,rfl,_,rfl,rfl,?_,?_,?_⟩
   ·omega
   ·omega
   ·omega
   ·rw [←te]
    unfold gD;omega
  ·tm_at "sx"
   exact ⟨rfl,rfl⟩
 ·rename_i hle h6
  have e:gD (gD (gD t))=t:=by unfold gD;omega
  rw [←te,e] at k;simp only [h6,if_true] at k;exact k _ s0a
 ·rename_i hle h6
  have e:gD (gD (gD t))=t:=by unfold gD;omega
  rw [←te,e] at k;simp only [h6,if_false] at k;exact k _ s0a
end
section
variable {P:Program} {w:World} {K:PySem.W.Frag} {mg:Str→Option Value} {base:Heap} {a:AD}
theorem aQ {C q dx:Addr} {fs:List (Str×V)} {f:Str} {y:V} {m:Nat} {H:Hp} {N:Hp→Prop} (cl:Cls K C) (n:iV K C f) (h:H q=some (.ins C dx fs)) (hl:fs.length≤m) (hm:m<1000)
  (k:∀H',H' q=some (.ins C dx (bU f y fs))→(bU f y fs).length≤m+1→But q H H'→N H'):StR K f (.ref q) y H N:=
 ⟨q,C,dx,fs,rfl,h,cl,n,Nat.lt_of_le_of_lt hl hm,k _ aG (Nat.le_trans (kE f y fs) (Nat.succ_le_succ hl)) (But.upd _ _ _)⟩
noncomputable def tU (a:AD):Sp:=fun vs H Q _=>∃(q dx d:Addr) (x y n fl:Int) (data:List Int),vs=[.ref q,.int x,.int y,.int n,.int fl,.ref d]∧H q=some (.ins a.aA dx [])∧
 ∀H' rq,H' q=some (.ins a.aA dx (eR rq d ⟨x,y,n,0,fl,0,[],data⟩))→H rq=none→H' rq=some (.lst [])→But q H H'→Q .non H'
theorem jr (T:TX K mg a):Ok P w K mg base a ib 1 (tU a):=by
 refine fo T 0 fun S H hr h=>?_;obtain ⟨q,dx,d,x,y,n,fl,data,rfl,hq,k⟩:=h;refine ⟨_,(aa (sf 0 (pv 1))
  (aa (sf 0 (pv 2))
  (aa (sf 0 (pv 3))
  (aa (sf 0 ag)
  (aa (sf 0 (pv 4))
  (aa (sf 0 ag)
  (aa (sf 0 (aL d9))
  (ae (sf 0 (pv 5)))))))))),?_⟩
 show aP _ _ _ [some (.ref q),some (.int x),some (.int y),some (.int n),some (.int fl),some (.ref d)] H;tm_at "ck";tm_at "sx";refine aQ (m:=0) T.cg (T.cQ 0 _ rfl) hq (Nat.le_refl _) (by decide) (fun H1 h1 l1 f1=>?_);tm_at "sx";refine aQ T.cg (T.cQ 1 _ rfl) h1 l1 (by decide) (fun H2 h2 l2 f2=>?_);tm_at "sx";refine aQ T.cg (T.cQ 2 _ rfl) h2 l2 (by decide) (fun H3 h3 l3 f3=>?_);tm_at "sx";refine aQ T.cg (T.cQ 3 _ rfl) h3 l3 (by decide) (fun H4 h4 l4 f4=>?_);tm_at "sx";refine aQ T.cg (T.cQ 4 _ rfl) h4 l4 (by decide) (fun H5 h5 l5 f5=>?_);tm_at "sx";refine aQ T.cg (T.cQ 5 _ rfl) h5 l5 (by decide) (fun H6 h6 l6 f6=>?_);tm_at "sx";refine bD (by decide) (fun rq H7 n7 s7 h7=>?_);tm_at "sx";refine aQ T.cg (T.cQ 6 _ rfl) (s7 _ _ h6) l6 (by decide) (fun H8 h8 l8 f8=>?_);tm_at "sx";refine aQ T.cg (T.cQ 7 _ rfl) h8 l8 (by decide) (fun H9 h9 l9 f9=>?_);have f06:=((((f1.trans f2).trans f3).trans f4).trans f5).trans f6;have nq:rq≠q:=(ai h6 n7).symm;have nr:H rq=none:=by
  cases e:H rq with
  | none=>rfl
  | some o=>rw [f06 _ _ e nq] at n7;cases n7
 refine k H9 rq (h9.trans (congrArg (fun z=>some (HO.ins a.aA dx z)) (by kernel_rfl))) nr (f9 _ _ (f8 _ _ h7 nq) nq) (((f06.trans (aF.but s7)).trans f8).trans f9)
noncomputable def fE (g:SG) (f:Int):Bool:=decide (Builtin.bitAnd g.flags f≠0)
noncomputable def pP (a:AD):Sp:=fun vs H Q _=>∃(q dx rq dq:Addr) (g:SG) (f:Int),vs=[.ref q,.int f]∧H q=some (.ins a.aA dx (eR rq dq g))∧Q (.bl (fE g f)) H
theorem aN (T:TX K mg a):Ok P w K mg base a k0 1 (pP a):=by
 refine fo T 1 fun S H hr h=>?_;obtain ⟨q,dx,rq,dq,g,f,rfl,hq,k⟩:=h;refine ⟨_,(ae (aw (peR vg (ay EN (pf 0) (pv 1)) ag))),?_⟩;show pG _ _ [some (.ref q),some (.int f)] H;tm_at "ck";tm_at "sx";exact k
noncomputable def mm (r:Int×Int):List Int:=bytesOf r.1 4++bytesOf r.2 4
noncomputable def startB (g:SG):List Int:=bytesOf g.fF 2++bytesOf g.oV 2++(bytesOf g.number 4++bytesOf g.acked 4)++([g.flags,(g.ranges.length:Int)]++bytesOf g.window 2)
noncomputable def pI (g:SG):List Int:=[0,0]++g.ranges.flatMap mm++g.data
noncomputable def uF (g:SG) (x y:Int):List Int:=startB g++bytesOf (CP x y (startB g++[0,0]++pI g)) 2++pI g
structure AE (g:SG):Prop where
 fl:0≤g.flags∧g.flags≤255
 rl:g.ranges.length≤4
 dl:g.data.length≤1400
 db:∀x∈g.data,0≤x∧x≤255
theorem AX (r:Int×Int):(mm r).length=8:=by unfold mm;rw [List.length_append,aU,aU]
theorem ml:∀l:List (Int×Int),(l.flatMap mm).length=8*l.length
 | []=>rfl
 | r::l=>by rw [List.flatMap_cons,List.length_append,ml l,AX,List.length_cons];tm_at "ob"
theorem jV (g:SG):(startB g).length=16:=by
 unfold startB;simp only [List.length_append,aU];rfl
theorem rQ (g:SG):(pI g).length=2+8*g.ranges.length+g.data.length:=by
 unfold pI;rw [List.length_append,List.length_append,ml];rfl
theorem AW {l:List (Int×Int)}:∀x∈l.flatMap mm,0≤x∧x≤255:=fun x hx=>by
 obtain ⟨r,_,h⟩:=List.mem_flatMap.mp hx;rcases List.mem_append.mp h with h | h
 ·exact dC x h
 ·exact dC x h
theorem CQ {g:SG} (o:AE g):∀x∈startB g,0≤x∧x≤255:=fun x hx=>by
 unfold startB at hx;simp only [List.mem_append,List.mem_cons,List.not_mem_nil,or_false] at hx;rcases hx with ((h | h) | h | h) | h | h
 ·exact dC x h
 ·exact dC x h
 ·exact dC x h
 ·exact dC x h
 ·rcases h with rfl | rfl
  ·exact o.fl
  ·have:=o.rl
   omega
 ·exact dC x h
theorem Ey {g:SG} (o:AE g):∀x∈pI g,0≤x∧x≤255:=fun x hx=>by
 unfold pI at hx;simp only [List.mem_append,List.mem_cons,List.not_mem_nil,or_false] at hx;rcases hx with (h | h) | h
 ·rcases h with rfl | rfl <;> decide
 ·exact AW x h
 ·exact o.db x h
noncomputable def uN (a:AD):Sp:=fun vs H Q _=>∃(q dx rq dq:Addr) (g:SG) (x y:Int),vs=[.ref q,.int x,.int y]∧H q=some (.ins a.aA dx (eR rq dq g))∧bL H rq g.ranges∧ax H dq g.data∧AE g∧
 ∀p H',H p=none→aF H H'→ax H' p (uF g x y)→Q (.ref p) H'
theorem dh {α β:Type} {F:α→β→Prop}:∀{l:List α} {m:List β} {i:Nat} {x:α},Paired F l m→l[i]? = some x→∃y,m[i]? = some y∧F x y
 | _,_,_,_,.nil,e=>by simp at e
 | _,_,0,_,.cons r _,e=>by simp at e;subst e;exact ⟨_,rfl,r⟩
 | _,_,i+1,x,.cons _ t,e=>by
  obtain ⟨y,h1,h2⟩:=dh (i:=i) (x:=x) t (by simpa using e);exact ⟨y,by simpa using h1,h2⟩
theorem gZ {α β:Type} (f:α→List β) (l:List α) (i:Nat) (x:α) (h:l[i]? = some x):(l.take (i+1)).flatMap f=(l.take i).flatMap f++f x:=by
 rw [List.take_succ,h,List.flatMap_append];simp
theorem vi (T:TX K mg a):Ok P w K mg base a kO 3 (uN a):=by
 refine fo T 5 fun S H hr h=>?_;obtain ⟨q,dx,rq,dq,g,x,y,rfl,hq,hr0,hd,ok,k⟩:=h;refine ⟨_,(aa (sn S 3 (ay cv (pc (cJ T) hr (af (pf 0) (pa1 ag))) (pc (cJ T) hr (af (pf 0) (pa1 ag)))))
  (aa (aj (jl PySem.F.plainAttrs_list PySem.F.slot_list_extend PySem.F.type_list_extend jQ (pv 3) (pa1 (ay cv (pc (cJ T) hr (af (pf 0) (pa1 ag))) (pc (cJ T) hr (af (pf 0) (pa1 ag)))))))
  (aa (aj (jl PySem.F.plainAttrs_list PySem.F.slot_list_extend PySem.F.type_list_extend jQ (pv 3) (pa1 (ay cv (aL (af (pf 0) (pa1 (az aM rfl T.cW boot_len (pa1 (pf 0)))))) (pc (cJ T) hr (af (pf 0) (pa1 ag)))))))
  (aa (sn S 4 (aL (af ag (pa1 ag))))
  (aa (jY PassesOwn.never rfl (gM (pf 0)) (d8 (i:=5) S.nd rfl (Or.inl rfl)) (ae (aj (jl PySem.F.plainAttrs_list PySem.F.slot_list_extend PySem.F.type_list_extend jQ (pv 4) (pa1 (ay cv (pc (cJ T) hr (af (aY cz (pv 5) ag (fun _ _=>rfl)) (pa1 ag))) (pc (cJ T) hr (af (aY cz (pv 5) ag (fun _ _=>rfl)) (pa1 ag)))))))))
  (aa (aj (jl PySem.F.plainAttrs_list PySem.F.slot_list_extend PySem.F.type_list_extend jQ (pv 4) (pa1 (pf 0))))
  (ae (aw (ay cv (ay cv (pv 3) (pc (cJ T) hr (af (pc (xn T) hr (af (pv 1) (af (pv 2) (pa1 (ay cv (ay cv (pv 3) (aL (af ag (pa1 ag)))) (pv 4)))))) (pa1 ag)))) (pv 4)))))))))),?_⟩
 show aP _ _ _ [some (.ref q),some (.int x),some (.int y),none,none,none] H;tm_at "ck";have sz:sizeLine=16777216:=sizeLine_eq;tm_at "sx";refine ⟨_,2,rfl,by decide,fun p1 H1 n1 s1 h1=>?_⟩;have q1:=s1 _ _ hq;tm_at "sx";refine ⟨_,2,rfl,by decide,fun p2 H2 n2 s2 h2=>?_⟩;refine cV (h1.mono s2) h2 (by rw [aU,aU];tm_at "ob") (fun ps H3 n3 s3 h3=>?_);have s03:=(s1.trans s2).trans s3;have nps:H ps=none:=(s1.trans s2).free n3;have q3:=s03 _ _ hq;tm_at "sx";refine gG h3 ?_;tm_at "sx";refine ⟨_,4,rfl,by decide,fun p4 H4 n4 s4 h4=>?_⟩;have q4:=s4 _ _ q3;tm_at "sx";refine ⟨_,4,rfl,by decide,fun p5 H5 n5 s5 h5=>?_⟩;refine cV (h4.mono s5) h5 (by rw [aU,aU];tm_at "ob") (fun p6 H6 n6 s6 h6=>?_);tm_at "sx";have s36:=(s4.trans s5).trans s6;refine qB (h3.mono s36) h6 (by simp only [List.length_append,aU];tm_at "ob") (fun H7 f7 h7=>?_);have s07:aF H H7:=aF.ny (s03.trans s36) nps f7;have q7:=s07 _ _ hq;tm_at "sx";refine gG h7 ?_;tm_at "sx";refine sS (hr0.mono s07) ?_;tm_at "sx";refine bD (by simp) (fun p8 H8 n8 s8 h8=>?_);have q8:=s8 _ _ q7;tm_at "sx";refine ⟨_,2,rfl,by decide,fun p9 H9 n9 s9 h9=>?_⟩;refine cV (xs:=[g.flags,(g.ranges.length:Int)]) (s9 _ _ h8) h9 (by rw [aU];show 2+2≤_;tm_at "ob") (fun pa Ha na sa ha=>?_);tm_at "sx";have s7a:=(s8.trans s9).trans sa;refine qB (h7.mono s7a) ha (by simp only [List.length_append,aU];show 2+2+(4+4)+(2+2)≤_;tm_at "ob") (fun Hb fb hb=>?_);have hb:ax Hb ps (startB g):=hb;have s0b:aF H Hb:=aF.ny (s07.trans s7a) nps fb;tm_at "sx";refine bD (by simp) (fun pr Hc nc sc hc=>?_);have s0c:=s0b.trans sc;have npr:H pr=none:=s0b.free nc;have hbc:=hb.mono sc;have nrs:pr≠ps:=fun e=>by rw [e,hb] at nc;cases nc
 have qc:=s0c _ _ hq;tm_at "sx";obtain ⟨vs,ev,pv'⟩:=hr0;refine forL (s0c _ _ ev) (fun i σ H'=>∃v,σ=[some (.ref q),some (.int x),some (.int y),some (.ref ps),some (.ref pr),v]∧aF H H'∧ax H' ps (startB g)∧ax H' pr ([0,0]++(g.ranges.take i).flatMap mm))
  ⟨none,rfl,s0c,hbc,by unfold ax;rw [hc];simp⟩ (fun i σ H' _ ⟨_,_,s,_,_⟩=>s _ _ ev) ?_ ?_
 ·rintro i z σ H' hz ⟨v,rfl,s,t1,t2⟩
  obtain ⟨r,hri,t,rfl,ht⟩:=dh pv' hz;have gl:=ok.rl;tm_at "sx";refine gG t2 ?_;tm_at "sx";refine eT (s _ _ ht) ?_;tm_at "sx";refine ⟨_,4,rfl,by decide,fun u1 G1 m1 z1 e1=>?_⟩;tm_at "sx";refine ig (z1 _ _ (s _ _ ht)) ?_;tm_at "sx";refine ⟨_,4,rfl,by decide,fun u2 G2 m2 z2 e2=>?_⟩;refine cV (e1.mono z2) e2 (by rw [aU,aU];tm_at "ob") (fun u3 G3 m3 z3 e3=>?_);tm_at "sx";have z03:=(z1.trans z2).trans z3;refine qB (t2.mono z03) e3 (by
   have:=ml (g.ranges.take i);rw [List.length_take] at this;simp only [List.length_append,aU,this,List.length_cons,List.length_nil];tm_at "ob") (fun G4 f4 e4=>?_)
  refine ⟨some (.ref t),rfl,aF.ny (s.trans z03) npr f4,f4 _ _ (t1.mono z03) nrs.symm,?_⟩;rw [gZ mm _ i r hri,←List.append_assoc];exact e4
 ·rintro σ H' ⟨v,rfl,s,t1,t2⟩
  have el:vs.length=g.ranges.length:=Paired.len pv';rw [el,List.take_length] at t2;have gl:=ok.rl;have gd:=ok.dl;have rl:=ml g.ranges;have q':=s _ _ hq;tm_at "sx";refine gG t2 ?_;tm_at "sx";refine qB t2 (hd.mono s) (by simp only [List.length_append,rl,List.length_cons,List.length_nil];tm_at "ob") (fun G4 f4 e4=>?_);have e4:ax G4 pr (pI g):=e4;have s4:aF H G4:=aF.ny s npr f4;have t4:=f4 _ _ t1 nrs.symm;have t4:ax G4 ps (startB g):=t4;tm_at "sx";refine bD (by simp) (fun u5 G5 m5 z5 e5=>?_);refine cV (zs:=[0,0]) (t4.mono z5) e5 (by rw [jV];show 16+2≤_;tm_at "ob") (fun u6 G6 m6 z6 e6=>?_);tm_at "sx";have z46:=z5.trans z6;refine cV e6 (e4.mono z46) (by rw [List.length_append,jV,rQ];show 16+2+_≤_;tm_at "ob") (fun u7 G7 m7 z7 e7=>?_);tm_at "sx";refine ⟨u7,_,x,y,rfl,e7,by rw [List.length_append,List.length_append,jV,rQ];show 16+2+_≤_;tm_at "ob",?_,fun G8 z8=>?_⟩
  ·intro b hb'
   rcases List.mem_append.mp hb' with h | h
   ·rcases List.mem_append.mp h with h | h
    ·exact CQ ok b h
    ·simp only [List.mem_cons,List.not_mem_nil,or_false] at h
     rcases h with rfl | rfl <;> decide
   ·exact Ey ok b h
  tm_at "sx";refine ⟨_,2,rfl,by decide,fun u9 G9 m9 z9 e9=>?_⟩;have z49:=((z46.trans z7).trans z8).trans z9;refine cV (t4.mono z49) e9 (by rw [jV,aU];tm_at "ob") (fun ua Ga ma za ea=>?_);tm_at "sx";refine cV ea (e4.mono (z49.trans za)) (by rw [List.length_append,jV,aU,rQ];tm_at "ob") (fun ub Gb mb zb eb=>?_);have s0b:=((s4.trans z49).trans za);exact k ub Gb (s0b.free mb) (s0b.trans zb) eb
end
section
variable {P:Program} {w:World} {K:PySem.W.Frag} {mg:Str→Option Value} {base:Heap} {a:AD}
noncomputable def eZ (g:List Int):Bool:=
 if (g.length:Int)<20 then false
 else if 15<g.getD 12 0 then false
 else if 4<g.getD 13 0 then false
 else if 0≤(g.length:Int) - 20 - 8*g.getD 13 0 then
  if (g.length:Int) - 20 - 8*g.getD 13 0≤1400 then
   if g.getD 18 0=0 then decide (g.getD 19 0=0) else false
  else false
 else false
theorem oi {g:List Int} {i:Nat} (h:i<g.length):g[i]? = some (g.getD i 0):=by
 rw [List.getD_eq_getElem?_getD,List.getElem?_eq_getElem h];rfl
noncomputable def zi:Sp:=fun vs H Q _=>∃(q:Addr) (g:List Int),vs=[.ref q]∧ax H q g∧Q (.bl (eZ g)) H
theorem zJ (T:TX K mg a):Ok P w K mg base a qy 1 (zi):=by
 refine fo T 6 fun S H hr h=>?_;obtain ⟨q,g,rfl,hg,k⟩:=h;refine ⟨_,(aa (si (PW.pt (gL (ptR eV (az aM rfl T.cW boot_len (pa1 (pv 0))) (pgi T 5)) (gL (ptR jB (aY bc (pv 0) ag (fun _ _=>rfl)) (pgi T 4)) (gK (ptR jB (aY bc (pv 0) ag (fun _ _=>rfl)) (pgi T 7)))))) (ae (aw iq)))
  (aa (sn S 1 (ay bC (ay bC (az aM rfl T.cW boot_len (pa1 (pv 0))) (pgi T 5)) (ay gP (pgi T 6) (aY bc (pv 0) ag (fun _ _=>rfl)))))
  (ae (aw (fL (j0 eW eW ag (pv 1) (pgi T 8)) (fL (peR bb (aY bc (pv 0) ag (fun _ _=>rfl)) ag) (iE (peR bb (aY bc (pv 0) ag (fun _ _=>rfl)) ag)))))))),?_⟩
 show aP _ _ _ [some (.ref q),none] H;tm_at "ck";unfold eZ at k;tm_at "sx"
 ·rename_i h1
  simp only [h1,if_true] at k;exact k
 ·rename_i h1
  simp only [h1,if_false] at k;refine dR (j:=12) hg (oi (by omega)) ?_;tm_at "sx"
  ·rename_i h2
   simp only [h2,if_true] at k;exact k
  ·rename_i h2
   simp only [h2,if_false] at k;refine dR (j:=13) hg (oi (by omega)) ?_;tm_at "sx"
   ·rename_i h3
    simp only [h3,if_true] at k;exact k
   ·rename_i h3
    simp only [h3,if_false] at k;refine dR (j:=13) hg (oi (by omega)) ?_;tm_at "sx"
    ·rename_i h4 h5
     simp only [h4,h5,if_true] at k;refine dR (j:=18) hg (oi (by omega)) ?_;tm_at "sx"
     ·rename_i h6
      simp only [h6,if_true] at k;refine dR (j:=19) hg (oi (by omega)) ?_;tm_at "sx";exact k
     ·rename_i h6
      simp only [h6,if_false] at k;exact k
    ·rename_i h4 h5
     simp only [h4,h5,if_true,if_false] at k;exact k
    ·rename_i h4
     simp only [h4,if_false] at k;exact k
structure Kn (g:List Int):Prop where
 l:20≤g.length
 f:g.getD 12 0≤15
 r:g.getD 13 0≤4
 s:0≤(g.length:Int) - 20 - 8*g.getD 13 0
 t:(g.length:Int) - 20 - 8*g.getD 13 0≤1400
 z:g.getD 18 0=0
 y:g.getD 19 0=0
theorem Bl {g:List Int} (h:eZ g=true):Kn g:=by
 unfold eZ at h;split at h
 ·cases h
 split at h
 ·cases h
 split at h
 ·cases h
 split at h
 ·split at h
  ·split at h
   ·exact ⟨by omega,by omega,by omega,by omega,by omega,by assumption,of_decide_eq_true h⟩
   ·cases h
  ·cases h
 ·cases h
noncomputable def gQ (g:List Int) (i c:Nat):Int:=EX ((g.drop i).take c)
noncomputable def kx (g:List Int) (k:Nat):List (Int×Int):=(List.range k).map fun i=>(gQ g (20+8*i) 4,gQ g (24+8*i) 4)
noncomputable def qP (g:List Int):SG:=⟨gQ g 0 2,gQ g 2 2,gQ g 4 4,gQ g 8 4,g.getD 12 0,gQ g 14 2,kx g (g.getD 13 0).toNat,g.drop (20+8*(g.getD 13 0).toNat)⟩
noncomputable def lF (g:List Int) (x y:Int):Option SG:=
 if eZ g=true then (if CP x y (g.take 16++[0,0]++g.drop 18)≠gQ g 16 2 then none else some (qP g)) else none
noncomputable def tS (a:AD):Sp:=fun vs H Q _=>∃(q:Addr) (g:List Int) (x y:Int),vs=[.ref q,.int x,.int y]∧ax H q g∧(∀b∈g,0≤b∧b≤255)∧
 (lF g x y=none→∀H',aF H H'→Q .non H')∧
 ∀s,lF g x y=some s→∀H' sq dx rq dq,H sq=none→H rq=none→H dq=none→aF H H'→H' sq=some (.ins a.aA dx (eR rq dq s))→bL H' rq s.ranges→ax H' dq s.data→Q (.ref sq) H'
theorem rgC {k:Nat} (h:k≤4):RgC 20 (20+8*(k:Int)) 8 k:=by
 have:k=0∨k=1∨k=2∨k=3∨k=4:=by tm_at "ob"
 rcases this with rfl | rfl | rfl | rfl | rfl <;> exact ⟨by decide,by decide,by decide,by decide⟩
theorem ue (T:TX K mg a):Ok P w K mg base a kc 3 (tS a):=by
 refine fo T 7 fun S H hr h=>?_;obtain ⟨q,g,x,y,rfl,hg,hb,kn,ks⟩:=h;refine ⟨_,(aa (si (cF (aJ (pc (zJ T) hr (pa1 (pv 0))))) (ae (aw iF)))
  (aa (si (ptR vg (pc (xn T) hr (af (pv 1) (af (pv 2) (pa1 (ay cv (ay cv (cG dm (pv 0) fC (bN ag)) (aL (af ag (pa1 ag)))) (cG dm (pv 0) (bN ag) fC)))))) (pc (dw T) hr (af (pv 0) (af ag (pa1 ag))))) (ae (aw iF)))
  (aa (sn S 3 (ay bt (pgi T 5) (ay gP (pgi T 6) (aY bc (pv 0) ag (fun _ _=>rfl)))))
  (aa (sn S 4 (x9 T.qd (jr T).r (hr.mono (by decide)) rfl T.sy (T.F 0 _ rfl).b .nil tm (af (pc (dw T) hr (af (pv 0) (af ag (pa1 ag)))) (af (pc (dw T) hr (af (pv 0) (af ag (pa1 ag)))) (af (pc (dw T) hr (af (pv 0) (af ag (pa1 ag)))) (af (aY bc (pv 0) ag (fun _ _=>rfl)) (pa1 (cG dm (pv 0) (bN (pv 3)) fC))))))))
  (aa (sf 4 (pc (dw T) hr (af (pv 0) (af ag (pa1 ag)))))
  (aa (sf 4 (pc (dw T) hr (af (pv 0) (af ag (pa1 ag)))))
  (aa (jY PassesOwn.never rfl (Df rfl T.BN (af (pgi T 5) (af (pv 3) (pa1 (pgi T 6))))) (d8 (i:=5) S.nd rfl (Or.inl rfl)) (ae (aj (jl PySem.F.plainAttrs_list PySem.F.slot_list_append PySem.F.type_list_append dM (pf 4) (pa1 (pW (af (pc (dw T) hr (af (pv 0) (af (pv 5) (pa1 ag)))) (pa1 (pc (dw T) hr (af (pv 0) (af (ay bt (pv 5) ag) (pa1 ag))))))))))))
  (ae (aw (pv 4)))))))))),?_⟩
 show aP _ _ _ [some (.ref q),some (.int x),some (.int y),none,none,none] H;tm_at "ck";have hbb:∀b∈g,-18446744073709551616<b∧b<18446744073709551616:=fun b h=>by have:=hb b h;tm_at "ob"
 have sz:sizeLine=16777216:=sizeLine_eq;tm_at "sx";refine ⟨q,g,rfl,hg,?_⟩;tm_at "sx"
 ·rename_i hf
  refine kn ?_ H (aF.refl H);unfold lF;rw [if_neg (by simpa using hf)]
 rename_i hf;have hf:eZ g=true:=by simpa using hf
 have fo:=Bl hf;have gl:g.length≤1452:=by have:=fo.t;have:=fo.r;tm_at "ob"
 obtain ⟨kk,hk4,e13⟩:∃kk:Nat,kk≤4∧g.getD 13 0=(kk:Int):=by
  have h0:=hb _ (List.mem_of_getElem? (oi (g:=g) (i:=13) (by have:=fo.l;tm_at "ob")));have:=fo.r;exact ⟨(g.getD 13 0).toNat,by tm_at "ob",by tm_at "ob"⟩
 have g13:g[13]? = some (kk:Int):=by rw [←e13];exact oi (by have:=fo.l;tm_at "ob")
 have l20:=fo.l;refine ni hg (fun p1 H1 n1 s1 h1=>?_);rw [show (16:Int)=((16:Nat):Int) from rfl,jL] at h1;tm_at "sx";refine bD (by simp) (fun p2 H2 n2 s2 h2=>?_);refine cV (zs:=[0,0]) (h1.mono s2) h2 (by rw [List.length_take];show _+2≤_;tm_at "ob") (fun p3 H3 n3 s3 h3=>?_);tm_at "sx";have s03:=(s1.trans s2).trans s3;refine ni (hg.mono s03) (fun p4 H4 n4 s4 h4=>?_);rw [show (18:Int)=((18:Nat):Int) from rfl,iR] at h4;refine cV (h3.mono s4) h4 (by rw [List.length_append,List.length_take,List.length_drop];show _+2+_≤_;tm_at "ob") (fun p5 H5 n5 s5 h5=>?_);tm_at "sx";have s05:=(s03.trans s4).trans s5;refine ⟨p5,_,x,y,rfl,h5,by rw [List.length_append,List.length_append,List.length_take,List.length_drop];show _+2+_≤_;tm_at "ob",?_,fun H6 s6=>?_⟩
 ·intro b hb'
  rcases List.mem_append.mp hb' with h | h
  ·rcases List.mem_append.mp h with h | h
   ·exact hb b (List.mem_of_mem_take h)
   ·simp only [List.mem_cons,List.not_mem_nil,or_false] at h
    rcases h with rfl | rfl <;> decide
  ·exact hb b (List.mem_of_mem_drop h)
 have s06:=s05.trans s6;tm_at "sx";refine ⟨q,g,16,2,rfl,hg.mono s06,hbb,fun H7 s7=>?_⟩;have s07:=s06.trans s7;tm_at "sx"
 ·rename_i hne
  refine kn ?_ H7 s07;unfold lF gQ;rw [if_pos hf,if_pos hne]
 rename_i hne;have hread:lF g x y=some (qP g):=by
  unfold lF gQ;rw [if_pos hf,if_neg hne]
 have k:=ks _ hread;refine dR (j:=13) (hg.mono s07) g13 ?_;tm_at "sx";refine ⟨q,g,0,2,rfl,hg.mono s07,hbb,fun H8 s8=>?_⟩;tm_at "sx";refine ⟨q,g,2,2,rfl,hg.mono (s07.trans s8),hbb,fun H9 s9=>?_⟩;tm_at "sx";refine ⟨q,g,4,4,rfl,hg.mono ((s07.trans s8).trans s9),hbb,fun Ha sa=>?_⟩;have s0a:=((s07.trans s8).trans s9).trans sa;tm_at "sx";refine dR (j:=12) (hg.mono s0a) (oi (by tm_at "ob")) ?_;tm_at "sx";refine ni (hg.mono s0a) (fun dq Hb nb sb hbd=>?_);rw [show (20:Int)+8*(kk:Int)=((20+8*kk:Nat):Int) by tm_at "ob",iR] at hbd;have s0b:=s0a.trans sb;have ndq:=s0a.free nb;tm_at "sx";refine uz (fun sq dx Hc nc sc hc=>?_);have s0c:=s0b.trans sc;have nsq:=s0b.free nc;refine ⟨sq,dx,dq,_,_,_,_,g.drop (20+8*kk),rfl,hc,fun Hd rq hd nrq hrq fd=>⟨rfl,?_⟩⟩;have nrq0:=s0c.free nrq;have s0d:aF H Hd:=aF.ny s0c nsq fd;have hdd:=fd _ _ (hbd.mono sc) (ai (hbd:Hb dq=_) nc);have hdd:ax Hd dq (g.drop (20+8*kk)):=hdd;tm_at "sx";refine ⟨q,g,8,4,rfl,hg.mono s0d,hbb,fun He se=>?_⟩;have qe:=se _ _ hd;tm_at "sx";rename_i Hf hf2 ff;have s0f:aF H Hf:=aF.ny (s0d.trans se) nsq ff;refine ⟨q,g,14,2,rfl,hg.mono s0f,hbb,fun Hg sg=>?_⟩;have qg:=sg _ _ hf2;tm_at "sx";rename_i Hh hh fh;have s0h:aF H Hh:=aF.ny (s0f.trans sg) nsq fh;have rnq:rq≠sq:=ai hc nrq |>.symm;have dnq:dq≠sq:=ai (hbd:Hb dq=_) nc;have dnr:dq≠rq:=ai (hbd.mono sc:Hc dq=_) nrq;have hrh:Hh rq=some (.lst []):=fh _ _ (sg _ _ (ff _ _ (se _ _ hrq) rnq)) rnq;have hdh:ax Hh dq (g.drop (20+8*kk)):=fh _ _ (sg _ _ (ff _ _ (se _ _ hdd) dnq)) dnq;refine LD (rgC hk4) (fun i σ H'=>∃v,σ=[some (.ref q),some (.int x),some (.int y),some (.int (20+8*(kk:Int))),some (.ref sq),v]∧aF H H'∧H' sq=some (.ins a.aA dx (eR rq dq (qP g)))∧bL H' rq (kx g i)∧ax H' dq (g.drop (20+8*kk)))
  ⟨none,rfl,s0h,hh,⟨[],hrh,.nil⟩,hdh⟩ ?_ ?_
 ·rintro i σ H' hi ⟨v,rfl,s,t1,t2,t3⟩
  obtain ⟨vs,ev,pv'⟩:=t2;have ln:vs.length=i:=by rw [Paired.len pv'];unfold kx;rw [List.length_map,List.length_range]
  tm_at "sx";refine gG ev ?_;tm_at "sx";rw [show (20:Int)+(i:Int)*8=((20+8*i:Nat):Int) by tm_at "ob"];refine ⟨q,g,20+8*i,4,rfl,hg.mono s,hbb,fun G1 z1=>?_⟩;tm_at "sx";rw [show ((20+8*i:Nat):Int)+4=((24+8*i:Nat):Int) by tm_at "ob"];refine ⟨q,g,24+8*i,4,rfl,hg.mono (s.trans z1),hbb,fun G2 z2=>?_⟩;tm_at "sx";refine oP (by simp) (fun tq G3 m3 z3 e3=>?_);tm_at "sx";have z03:=(z1.trans z2).trans z3;refine jA (z03 _ _ ev) (by tm_at "ob") (fun G4 f4 e4=>?_);refine ⟨some (.int ((20+8*i:Nat):Int)),rfl,aF.ny (s.trans z03) nrq0 f4,f4 _ _ (z03 _ _ t1) rnq.symm,?_,f4 _ _ (z03 _ _ t3) dnr⟩;refine ⟨_,e4,?_⟩;have er:kx g (i+1)=kx g i++[(gQ g (20+8*i) 4,gQ g (24+8*i) 4)]:=by
   unfold kx;rw [List.range_succ,List.map_append];rfl
  rw [er];have ntq:tq≠rq:=iw e3 (z03 _ _ ev) (by intro z;cases z);refine Paired.snoc (Paired.imp (fun v r ⟨t,e1,e2⟩=>⟨t,e1,f4 _ _ (z03 _ _ e2) (iw (z03 _ _ e2) (z03 _ _ ev) (by intro z;cases z))⟩) pv') ⟨tq,rfl,f4 _ _ e3 ntq⟩
 ·rintro σ H' ⟨v,rfl,s,t1,t2,t3⟩
  tm_at "sx";have e1:(qP g).ranges=kx g kk:=by unfold qP;rw [e13];rfl
  have e2:(qP g).data=g.drop (20+8*kk):=by unfold qP;rw [e13];rfl
  exact k H' sq dx rq dq nsq nrq0 ndq s t1 (by rw [e1];exact t2) (by rw [e2];exact t3)
end
noncomputable def LcB (g:TG) (tt:TT) (te:TE) (vs:List Nat) (σ:L2.St) (Q:VK) (J:It) (H1:Hp):Prop:=∀D,H1 D=none→∃W:Nat→Nat→Hp→Prop,(∃m,W 0 m (upd H1 D (.lst [])))∧∀i m H,W i m H→
 (J.stop i H∧Q (.ref D) H)∨(J.go i H∧∃Nx:Hp→Prop,(∀H',Nx H'→∃m',m'<m∧W (i+1) m' H')∧∀x H',J.yld i H x H'→g x (wipe σ vs) H' fun σ2 H2=>wipe σ2 vs=wipe σ vs∧tt σ2 H2 fun b H3 =>
  if b=true then te σ2 H3 fun y H4=>∃acc,H4 D=some (.lst acc)∧acc.length<sizeLine∧Nx (upd H4 D (.lst (acc++[y]))) else Nx H3)
theorem LJ {wi:TI} {g:TG} {tt:TT} {te:TE} {vs:List Nat} {σ:L2.St} {H:Hp} {Q:VK} (k:wi σ H fun J H1=>LcB g tt te vs σ Q J H1):tLc wi g tt te vs σ H Q:=k
instance {wi:TI} {g:TG} {tt:TT} {te:TE} {vs:List Nat} {σ:L2.St} {H:Hp} {Q:VK}:Stp (tLc wi g tt te vs σ H Q) (wi σ H fun J H1=>LcB g tt te vs σ Q J H1):=⟨LJ⟩
noncomputable def ILR (K:PySem.W.Frag) (x:V) (H:Hp) (R:It→Hp→Prop):Prop:=∃a,x = .ref a∧(∃xs,SqL K H a xs)∧R (Itl K a) H
theorem LK {K:PySem.W.Frag} {tl:TE} {σ:L2.St} {H:Hp} {R:It→Hp→Prop} (k:tl σ H fun x H1=>ILR K x H1 R):Ac K tl σ H R:=k
instance {K:PySem.W.Frag} {tl:TE} {σ:L2.St} {H:Hp} {R:It→Hp→Prop}:Stp (Ac K tl σ H R) (tl σ H fun x H1=>ILR K x H1 R):=⟨LK⟩
theorem Gj {K:PySem.W.Frag} {q:Addr} {xs:List V} {H:Hp} {R:It→Hp→Prop} (h:H q=some (.lst xs)) (k:R (Itl K q) H):ILR K (.ref q) H R:=⟨q,rfl,⟨xs,SqL.of h⟩,k⟩
theorem yr {β:Type} {K:PySem.W.Frag} {q:Addr} {xs:List V} {rs:List β} {F:V→β→Prop} {j:Nat} {tt:TT} {te:TE} {vs:List Nat} {σ:L2.St} {H:Hp} {Q:VK} (hq:H q=some (.lst xs)) (hz:xs.length<sizeLine) (pr:Paired F xs rs) (f:β→Bool)
  (hw:∀x,wipe ((wipe σ vs).set j x) vs=wipe σ vs)
  (he:∀x (H':Hp) (Q':VK),Q' x H'→te ((wipe σ vs).set j (some x)) H' Q')
  (ht:∀x r,F x r→∀H',aF H H'→∀Q':Bool→Hp→Prop,Q' (f r) H'→tt ((wipe σ vs).set j (some x)) H' Q')
  (k:∀D H' ys,H D=none→aF H H'→H' D=some (.lst ys)→Paired F ys (rs.filter f)→Q (.ref D) H') :
  LcB (da j) tt te vs σ Q (Itl K q) H:=by
 intro D hD;have ln:xs.length=rs.length:=Paired.len pr;refine ⟨fun i m H'=>m=xs.length - i∧i≤xs.length∧aF H H'∧∃ys,H' D=some (.lst ys)∧Paired F ys ((rs.take i).filter f),⟨_,rfl,Nat.zero_le _,fW hD _,[],aG,.nil⟩,?_⟩;rintro i m H' ⟨rfl,hi,sm,ys,ey,py⟩;have sq:SqL K H' q xs:=SqL.of (sm _ _ hq);by_cases hlt:i<xs.length
 ·refine .inr ⟨⟨xs,xs[i],sq,by simp [hlt]⟩,fun H2=>aF H H2∧∃ys,H2 D=some (.lst ys)∧Paired F ys ((rs.take (i+1)).filter f),fun H2 ⟨s2,e2⟩=>⟨xs.length - (i+1),by tm_at "ob",rfl,hlt,s2,e2⟩,fun x H2 y=>?_⟩
  obtain ⟨e3,y⟩:=y;subst e3;have hx:=y xs sq;obtain ⟨r,hr,fr⟩:=dh pr hx;have er:(rs.take (i+1)).filter f=(rs.take i).filter f++(if f r=true then [r] else []):=by
   rw [List.take_succ,hr,List.filter_append]
   cases e:f r <;> simp [e]
  refine ⟨hw _,ht x r fr _ sm _ ?_⟩;have yl:ys.length≤i:=by
   rw [Paired.len py];exact Nat.le_trans (List.length_filter_le _ _) (by rw [List.length_take];tm_at "ob")
  by_cases hf:f r=true
  ·rw [if_pos hf]
   refine he x _ _ ⟨ys,ey,by tm_at "ob",?_,_,aG,?_⟩
   ·exact fun b o q=>by rw [aD (ai q hD)];exact sm b o q
   ·rw [er,if_pos hf]
    exact py.snoc fr
  ·rw [if_neg hf]
   refine ⟨sm,ys,ey,?_⟩;rw [er,if_neg hf,List.append_nil];exact py
 ·have e0:i=xs.length:=by tm_at "ob"
  subst e0;refine .inl ⟨⟨xs,sq,Nat.le_refl _⟩,k D H' ys hD sm ey ?_⟩;rw [ln,List.take_length] at py;exact py
section
variable {P:Program} {w:World} {K:PySem.W.Frag} {mg:Str→Option Value} {base:Heap} {a:AD}
noncomputable def gj (rs:List (Int×Int)) (pl:Int):Int:=match rs.find? fun r=>decide (r.1≤pl) && decide (pl<r.2) with
 | some r=>r.2
 | none=>pl
noncomputable def rM:Sp:=fun vs H Q _=>∃(q:Addr) (rs:List (Int×Int)) (pl:Int),vs=[.ref q,.int pl]∧bL H q rs∧Q (.int (gj rs pl)) H
theorem j9 {α:Type} {p:α→Bool} {l:List α} {i:Nat} {x:α} (h:(l.take i).find? p=none) (e:l[i]? = some x) (hx:p x=false):(l.take (i+1)).find? p=none:=by
 rw [List.take_succ,e,List.find?_append,h];simp [hx]
theorem oj {α:Type} {p:α→Bool} {l:List α} {i:Nat} {x:α} (h:(l.take i).find? p=none) (e:l[i]? = some x) (hx:p x=true):l.find? p=some x:=by
 have hl:l=l.take i++l.drop i:=(List.take_append_drop i l).symm;have hi:i<l.length:=(List.getElem?_eq_some_iff.mp e).1;have hd:l.drop i=x::l.drop (i+1):=by
  rw [List.drop_eq_getElem_cons hi];rw [List.getElem?_eq_getElem hi] at e;rw [Option.some.inj e]
 rw [hl,List.find?_append,h,hd];simp [hx]
theorem lL (T:TX K mg a):Ok P w K mg base a jz 1 (rM):=by
 refine fo T 11 fun S H hr h=>?_;obtain ⟨q,rs,pl,rfl,hr0,k⟩:=h;refine ⟨_,(aa (jY PassesOwn.never rfl (gM (pv 0)) (d8 (i:=2) S.nd rfl (Or.inl rfl)) (ae (si (qT eW eV (aY cz (pv 2) ag (fun _ _=>rfl)) (pv 1) (aY cz (pv 2) ag (fun _ _=>rfl))) (ae (aw (aY cz (pv 2) ag (fun _ _=>rfl)))))))
  (ae (aw (pv 1)))),?_⟩
 show aP _ _ _ [some (.ref q),some (.int pl),none] H;tm_at "ck";obtain ⟨vs,ev,pr⟩:=hr0;tm_at "sx";refine forL ev (fun i σ H'=>H'=H∧(∃v,σ=[some (.ref q),some (.int pl),v])∧(rs.take i).find? (fun r=>decide (r.1≤pl) && decide (pl<r.2))=none) ⟨rfl,⟨none,rfl⟩,rfl⟩ (fun i σ H' _ ⟨e,_⟩=>by rw [e];exact ev) ?_ ?_
 ·rintro i z σ H' hz ⟨rfl,⟨v,rfl⟩,hn⟩
  obtain ⟨r,hri,t,rfl,ht⟩:=dh pr hz;tm_at "sx";refine eT ht ?_;tm_at "sx"
  ·refine ig ht ?_
   tm_at "sx"
   ·refine ig ht ?_
    rename_i h1 h2;have e:gj rs pl=r.2:=by unfold gj;rw [oj hn hri (by simp [h1,h2])]
    rw [e] at k;exact k
   ·rename_i h1 h2
    exact ⟨rfl,⟨_,rfl⟩,j9 hn hri (by simp [h1,h2])⟩
  ·rename_i h1
   exact ⟨rfl,⟨_,rfl⟩,j9 hn hri (by simp [h1])⟩
 ·rintro σ H' ⟨rfl,⟨v,rfl⟩,hn⟩
  rw [Paired.len pr,List.take_length] at hn;tm_at "sx";have e:gj rs pl=pl:=by unfold gj;rw [hn]
  rw [e] at k;exact k
noncomputable def upTo (rs:List (Int×Int)) (pl most:Int):Int:=match rs.find? fun r=>decide (pl≤r.1) with
 | some r=>min most (r.1 - pl)
 | none=>most
noncomputable def uO:Sp:=fun vs H Q _=>∃(q:Addr) (rs:List (Int×Int)) (pl most:Int),vs=[.ref q,.int pl,.int most]∧bL H q rs∧Q (.int (upTo rs pl most)) H
theorem nV (T:TX K mg a):Ok P w K mg base a kQ 1 (uO):=by
 refine fo T 12 fun S H hr h=>?_;obtain ⟨q,rs,pl,most,rfl,hr0,k⟩:=h;refine ⟨_,(aa (jY PassesOwn.never rfl (gM (pv 0)) (d8 (i:=3) S.nd rfl (Or.inl rfl)) (ae (si (ptR lI (aY cz (pv 3) ag (fun _ _=>rfl)) (pv 1)) (ae (aw (az (eI rfl) rfl T.mW boot_min (af (pv 2) (pa1 (ay bC (aY cz (pv 3) ag (fun _ _=>rfl)) (pv 1))))))))))
  (ae (aw (pv 2)))),?_⟩
 show aP _ _ _ [some (.ref q),some (.int pl),some (.int most),none] H;tm_at "ck";obtain ⟨vs,ev,pr⟩:=hr0;tm_at "sx";refine forL ev (fun i σ H'=>H'=H∧(∃v,σ=[some (.ref q),some (.int pl),some (.int most),v])∧(rs.take i).find? (fun r=>decide (pl≤r.1))=none) ⟨rfl,⟨none,rfl⟩,rfl⟩ (fun i σ H' _ ⟨e,_⟩=>by rw [e];exact ev) ?_ ?_
 ·rintro i z σ H' hz ⟨rfl,⟨v,rfl⟩,hn⟩
  obtain ⟨r,hri,t,rfl,ht⟩:=dh pr hz;tm_at "sx";refine eT ht ?_;tm_at "sx"
  ·refine eT ht ?_
   tm_at "sx";rename_i h1;have e:upTo rs pl most=min most (r.1 - pl):=by unfold upTo;rw [oj hn hri (by simp [h1])]
   rw [e] at k;exact k
  ·rename_i h1
   exact ⟨rfl,⟨_,rfl⟩,j9 hn hri (by simp [h1])⟩
 ·rintro σ H' ⟨rfl,⟨v,rfl⟩,hn⟩
  rw [Paired.len pr,List.take_length] at hn;tm_at "sx";have e:upTo rs pl most=most:=by unfold upTo;rw [hn]
  rw [e] at k;exact k
noncomputable def jS (rs:List (Int×Int)) (st bh:Int):List (Int×Int):=
 eS rs (some ((rs.filter fun r=>decide (r.2<st)).length:Int)) (some ((rs.length:Int) - ((rs.filter fun r=>decide (bh<r.1)).length:Int)))
noncomputable def gw (rs:List (Int×Int)) (st bh:Int):List (Int×Int):=
 (rs.filter fun r=>decide (r.2<st))++[match jS rs st bh with
  | []=>(st,bh)
  | r::l=>(min st r.1,max bh ((r::l).getLast (by simp)).2)]++rs.filter fun r=>decide (bh<r.1)
noncomputable def wo:Sp:=fun vs H Q _=>∃(q:Addr) (rs:List (Int×Int)) (st bh:Int),vs=[.ref q,.int st,.int bh]∧bL H q rs∧rs.length≤100000∧∀p H',H p=none→aF H H'→bL H' p (gw rs st bh)→Q (.ref p) H'
theorem ve {α β:Type} {F:α→β→Prop} {l:List α} {m:List β} (h:Paired F l m) (lo hi:Option Int):Paired F (eS l lo hi) (eS m lo hi):=by
 have ln:=Paired.len h;have pd:∀{l:List α} {m:List β} (n:Nat),Paired F l m→Paired F (l.drop n) (m.drop n):=by
  intro l m n h
  induction h generalizing n with
  | nil=>rw [List.drop_nil,List.drop_nil];exact .nil
  | cons x y ih=>cases n with
   | zero=>exact .cons x y
   | succ n=>exact ih n
 have pt:∀{l:List α} {m:List β} (n:Nat),Paired F l m→Paired F (l.take n) (m.take n):=by
  intro l m n h
  induction h generalizing n with
  | nil=>rw [List.take_nil,List.take_nil];exact .nil
  | cons x y ih=>cases n with
   | zero=>exact .nil
   | succ n=>exact .cons x (ih n)
 unfold eS;rw [ln];exact pt _ (pd _ h)
theorem yL {H:Hp} {Q:VK} {q b:Addr} {xs zs:List V} (h:H q=some (.lst xs)) (h':H b=some (.lst zs)) (hz:xs.length+zs.length≤sizeLine) (k:∀p H',H p=none→aF H H'→H' p=some (.lst (xs++zs))→Q (.ref p) H'):EE (.ref q) (.ref b) H Q:=
 ⟨q,b,_,_,rfl,rfl,h,h',hz,fun p hp=>k p _ hp (fW hp _) aG⟩
theorem fY {α β:Type} {F:α→β→Prop}:∀{l l':List α} {m m':List β},Paired F l m→Paired F l' m'→Paired F (l++l') (m++m')
 | _,_,_,_,.nil,s=>s
 | _,_,_,_,.cons r t,s=>.cons r (fY t s)
theorem wI (T:TX K mg a):Ok P w K mg base a fH 1 (wo):=by
 refine fo T 10 fun S H hr h=>?_;rename_i Q E;obtain ⟨q,rs,st,bh,rfl,hr0,hz,k⟩:=h;refine ⟨_,(aa (zx (i:=3) rfl S.nd rfl rfl rfl (gM (pv 0)) (own:=[("one",6)]) (by refine (show tN fH.N (bB fH.s) _ [("one",6)] from ?_);exact ⟨rfl,by decide +kernel,by decide +kernel,by decide +kernel,by decide +kernel⟩) (fun _ _ _ _ _=>d8 (i:=6) S.nd rfl (Or.inl rfl)) (fun _ _ _ _ _=>(x8 (ptR eV (aY (yu (K:=K) rfl) (pv 6) ag (fun _ _=>rfl)) (pv 1)))) (fun _ _ _ _ _=>(pv 6)))
  (aa (zx (i:=4) rfl S.nd rfl rfl rfl (gM (pv 0)) (own:=[("one",6)]) (by refine (show tN fH.N (bB fH.s) _ [("one",6)] from ?_);exact ⟨rfl,by decide +kernel,by decide +kernel,by decide +kernel,by decide +kernel⟩) (fun _ _ _ _ _=>d8 (i:=6) S.nd rfl (Or.inl rfl)) (fun _ _ _ _ _=>(x8 (ptR jB (aY (yu (K:=K) rfl) (pv 6) ag (fun _ _=>rfl)) (pv 2)))) (fun _ _ _ _ _=>(pv 6)))
  (aa (sn S 5 (cG dm (pv 0) (bN (az aM rfl T.cW boot_len (pa1 (pv 3)))) (bN (ay bC (az aM rfl T.cW boot_len (pa1 (pv 0))) (az aM rfl T.cW boot_len (pa1 (pv 4)))))))
  (aa (si (lH (pv 5) (fun _=>rfl)) (aa (sn S 1 (az (eI rfl) rfl T.mW boot_min (af (pv 1) (pa1 (aY cz (aY bc (pv 5) ag (fun _ _=>rfl)) ag (fun _ _=>rfl))))))
  (ae (sn S 2 (az (bz rfl) rfl T.ik boot_max (af (pv 2) (pa1 (aY cz (aY bc (pv 5) (IK D7 ag) (fun _ _=>rfl)) ag (fun _ _=>rfl)))))))))
  (ae (aw (ay cv (ay cv (pv 3) (aL (pa1 (pW (af (pv 1) (pa1 (pv 2))))))) (pv 4)))))))),?_⟩
 show aP _ _ _ [some (.ref q),some (.int st),some (.int bh),none,none,none,none] H;tm_at "ck";obtain ⟨vs,ev,pr⟩:=hr0;have sz:sizeLine=16777216:=sizeLine_eq;have ln:vs.length=rs.length:=Paired.len pr;tm_at "sx";refine Gj ev ?_;refine yr (j:=6) (F:=pE H) ev (by tm_at "ob") pr (fun r=>decide (r.2<st)) ?_ ?_ ?_ ?_
 ·exact fun _=>rfl
 ·exact fun x H' Q' q=>⟨x,rfl,q⟩
 ·rintro x r ⟨t,rfl,ht⟩ H' sm Q' q
  show ly _ [some (V.ref _),some (V.int st),some (V.int bh),none,none,none,some (V.ref t)] H' Q';tm_at "sx";refine ig (sm _ _ ht) ?_;tm_at "sx";exact q
 intro bq H1 bs nb s1 hb1 pb;tm_at "sx";refine Gj (s1 _ _ ev) ?_;refine yr (j:=6) (F:=pE H) (s1 _ _ ev) (by tm_at "ob") pr (fun r=>decide (bh<r.1)) ?_ ?_ ?_ ?_
 ·exact fun _=>rfl
 ·exact fun x H' Q' q=>⟨x,rfl,q⟩
 ·rintro x r ⟨t,rfl,ht⟩ H' sm Q' q
  show ly _ [some (V.ref _),some (V.int st),some (V.int bh),some (V.ref bq),none,none,some (V.ref t)] H' Q';tm_at "sx";refine eT (sm _ _ (s1 _ _ ht)) ?_;tm_at "sx";exact q
 intro aq H2 as na s2 ha2 pa;have s02:=s1.trans s2;have ev2:=s02 _ _ ev;have hb2:=s2 _ _ hb1;tm_at "sx";refine Cp ev2 (fun tq H3 nt s3 ht3=>?_);have s03:=s02.trans s3;have bl:bs.length≤rs.length:=by rw [Paired.len pb];exact List.length_filter_le _ _
 have al:as.length≤rs.length:=by rw [Paired.len pa];exact List.length_filter_le _ _
 have pt:=ve pr (some (bs.length:Int)) (some ((vs.length:Int) - (as.length:Int)));have et:eS rs (some (bs.length:Int)) (some ((vs.length:Int) - (as.length:Int)))=jS rs st bh:=by
  unfold jS;rw [←Paired.len pb,←Paired.len pa,ln]
 rw [et] at pt;generalize eS vs (some (bs.length:Int)) (some ((vs.length:Int) - (as.length:Int)))=ts at ht3 pt;have fin:∀(st' bh':Int),(match jS rs st bh with
   | []=>(st,bh)
   | r::l=>(min st r.1,max bh ((r::l).getLast (by simp)).2))=(st',bh')→
   pG (tOp EE (tOp EE (aR 3) (GH (bM (GG (bM (aR 1) (bM (aR 2) fR))) fR))) (aR 4)) { nx:=fun x H'=>Q V.non H',rt:=Q }
    [some (.ref q),some (.int st'),some (.int bh'),some (.ref bq),some (.ref aq),some (.ref tq),none] H3:=by
  intro st' bh' e;have hb3:=s3 _ _ hb2;have ha3:=s3 _ _ ha2;tm_at "sx";refine oP (by simp) (fun u1 G1 m1 z1 e1=>?_);tm_at "sx";refine bD (by simp) (fun u2 G2 m2 z2 e2=>?_);have z12:=z1.trans z2;refine yL (z12 _ _ hb3) e2 (by show _+1≤_;tm_at "ob") (fun u3 G3 m3 z3 e3=>?_);tm_at "sx";have z13:=z12.trans z3;refine yL e3 (z13 _ _ ha3) (by rw [List.length_append];show _+1+_≤_;tm_at "ob") (fun u4 G4 m4 z4 e4=>?_);have s4:=(s03.trans z13).trans z4;refine k u4 G4 ((s03.trans z13).free m4) s4 ⟨_,e4,?_⟩;unfold gw;rw [e];have mo:∀{l m},Paired (pE H) l m→Paired (pE G4) l m:=fun h=>Paired.imp (fun v r ⟨t,e1,e2⟩=>⟨t,e1,s4 _ _ e2⟩) h;exact fY (fY (mo pb) (.cons ⟨u1,rfl,z4 _ _ (z3 _ _ (z2 _ _ e1))⟩ .nil)) (mo pa)
 tm_at "sx";refine ⟨_,.inl ⟨_,SqL.of ht3,rfl⟩,?_⟩;generalize hE:jS rs st bh=tr at pt
 cases pt with
 | nil =>
  refine Ay ?_;tm_at "sr";exact fin st bh (by rw [hE])
 | cons f0 pl =>
  rename_i v0 r0 lt lr;have hl:∃ti r,(v0::lt).getLast (by simp) = .ref ti∧(r0::lr).getLast (by simp)=r∧H ti=some (.tup [.int r.1,.int r.2]):=by
   have e1:(v0::lt)[lt.length]? = some ((v0::lt).getLast (by simp)):=by rw [List.getLast_eq_getElem];simp
   obtain ⟨r,hr,t,e2,e3⟩:=dh (Paired.cons f0 pl) e1;refine ⟨t,r,e2,?_,e3⟩;rw [List.getLast_eq_getElem];rw [Paired.len pl] at hr;simpa using hr
  obtain ⟨ti,rl,el,er,hti⟩:=hl;obtain ⟨t0,rfl,h0⟩:=f0;have h03:=s03 _ _ h0;refine DS ?_;tm_at "sx";refine Cq (j:=0) ht3 rfl ?_;tm_at "sx";refine eT h03 ?_;tm_at "sx";have ed:V.ref t0::lt=(V.ref t0::lt).dropLast++[.ref ti]:=by rw [←el,List.dropLast_concat_getLast]
  refine ⟨tq,_,_,.ref ti,rfl,rfl,SqL.of ht3,?_,?_⟩
  ·rw [ed];exact Az _ _
  tm_at "sx";refine ig (s03 _ _ hti) ?_;tm_at "sr";refine fin _ _ ?_;rw [hE];show (min st r0.1,max bh ((r0::lr).getLast _).2)=_;rw [er]
end
noncomputable abbrev Pc:=Int×List Int
noncomputable def bF (s:List Pc×List Pc×Int×List Int) (c:Pc):List Pc×List Pc×Int×List Int:=
 if c.1+(c.2.length:Int)<s.2.2.1 then (s.1++[c],s.2.1,s.2.2.1,s.2.2.2)
 else if s.2.2.1+(s.2.2.2.length:Int)<c.1 then (s.1,s.2.1++[c],s.2.2.1,s.2.2.2)
 else (s.1,s.2.1,min s.2.2.1 c.1,eS s.2.2.2 none (some (max 0 (c.1 - s.2.2.1)))++c.2++eS s.2.2.2 (some (c.1+(c.2.length:Int) - s.2.2.1)) none)
noncomputable def ll (ps:List Pc) (pl:Int) (d:List Int):List Pc:=
 let r:=ps.foldl bF ([],[],pl,d)
 r.1++[(r.2.2.1,r.2.2.2)]++r.2.1
noncomputable def dP (ps:List Pc):Nat:=(ps.map fun c=>c.2.length).sum
theorem zY (ps:List Pc) (c:Pc):dP (ps++[c])=dP ps+c.2.length:=by unfold dP;rw [List.map_append,List.sum_append];simp
theorem oJ {α:Type} (xs:List α) (lo hi:Option Int):(eS xs lo hi).length≤xs.length:=by
 unfold eS;rw [List.length_take,List.length_drop];omega
theorem tH (ps:List Pc) (i:Nat):dP (ps.take i)≤dP ps:=by
 have e:dP ps=dP (ps.take i)+dP (ps.drop i):=by
  unfold dP;rw [←List.sum_append,←List.map_append,List.take_append_drop]
 omega
section
variable {P:Program} {w:World} {K:PySem.W.Frag} {mg:Str→Option Value} {base:Heap} {a:AD}
theorem Ib (xs:List Int) {i j:Int} (hj:0≤j) (hij:i≤j):(eS xs none (some (max 0 i))).length+(eS xs (some j) none).length≤xs.length:=by
 obtain ⟨m,em⟩:∃m:Nat,max 0 i=(m:Int):=⟨(max 0 i).toNat,by omega⟩;obtain ⟨n,en⟩:∃n:Nat,j=(n:Int):=⟨j.toNat,by omega⟩;rw [em,en,jL,iR,List.length_take,List.length_drop];omega
noncomputable def wu:Sp:=fun vs H Q _=>∃(q o dq:Addr) (ps:List Pc) (pl:Int) (d:List Int),vs=[.ref q,.int pl,.ref dq]∧bj H o q ps∧ax H dq d∧(∃ws,H o=some (.lst ws))∧dq≠o∧ps.length≤100000∧d.length+dP ps≤100000∧
 ∀p H',H p=none→aF H H'→bj H' o p (ll ps pl d)→Q (.ref p) H'
theorem wJ (T:TX K mg a):Ok P w K mg base a mE 1 (wu):=by
 refine fo T 13 fun S H hr h=>?_;obtain ⟨q,o,dq,ps,pl,d,rfl,hp0,hd,⟨ws,ho⟩,dno,hz1,hz2,k⟩:=h;refine ⟨_,(aa (sn S 3 (aL d9))
  (aa (sn S 4 (aL d9))
  (aa (jY PassesOwn.never rfl (gM (pv 0)) (d8 (i:=5) S.nd rfl (Or.inl rfl)) (aa (sn S 6 (ay bt (aY cz (pv 5) ag (fun _ _=>rfl)) (az aM rfl T.cW boot_len (pa1 (aY cz (pv 5) ag (fun _ _=>rfl))))))
  (ae (eU (ptR eV (pv 6) (pv 1)) (ae (aj (jl PySem.F.plainAttrs_list PySem.F.slot_list_append PySem.F.type_list_append dM (pv 3) (pa1 (pv 5))))) (ae (eU (ptR jB (aY cz (pv 5) ag (fun _ _=>rfl)) (ay bt (pv 1) (az aM rfl T.cW boot_len (pa1 (pv 2))))) (ae (aj (jl PySem.F.plainAttrs_list PySem.F.slot_list_append PySem.F.type_list_append dM (pv 4) (pa1 (pv 5))))) (aa (sn S 2 (ay cv (ay cv (cG dm (pv 2) fC (bN (az (bz rfl) rfl T.ik boot_max (af ag (pa1 (ay bC (aY cz (pv 5) ag (fun _ _=>rfl)) (pv 1))))))) (aY cz (pv 5) ag (fun _ _=>rfl))) (cG dm (pv 2) (bN (ay bC (pv 6) (pv 1))) fC)))
  (ae (sn S 1 (az (eI rfl) rfl T.mW boot_min (af (pv 1) (pa1 (aY cz (pv 5) ag (fun _ _=>rfl))))))))))))))
  (ae (aw (ay cv (ay cv (pv 3) (aL (pa1 (pW (af (pv 1) (pa1 (pv 2))))))) (pv 4))))))),?_⟩
 show aP _ _ _ [some (.ref q),some (.int pl),some (.ref dq),none,none,none,none] H;tm_at "ck";obtain ⟨vs,ev,pr⟩:=hp0;have sz:sizeLine=16777216:=sizeLine_eq;have ln:vs.length=ps.length:=Paired.len pr;tm_at "sx";refine bD (by simp) (fun bq H1 nb s1 hb1=>?_);tm_at "sx";refine bD (by simp) (fun aq H2 na s2 ha2=>?_);have s02:=s1.trans s2;have na0:=s1.free na;have bna:bq≠aq:=ai hb1 na;tm_at "sx";refine forL (s02 _ _ ev) (fun i σ H'=>∃v u b ab pl' d' dq' bs as,σ=[some (.ref q),some (.int pl'),some (.ref dq'),some (.ref bq),some (.ref aq),v,u]∧aF H H'∧(ps.take i).foldl bF ([],[],pl,d)=(b,ab,pl',d')∧
   H' bq=some (.lst bs)∧Paired (mU H o) bs b∧H' aq=some (.lst as)∧Paired (mU H o) as ab∧ax H' dq' d'∧dq'≠o∧dq'≠bq∧dq'≠aq∧b.length≤i∧ab.length≤i∧d'.length≤d.length+dP (ps.take i))
  ⟨none,none,[],[],pl,d,dq,[],[],rfl,s02,rfl,s2 _ _ hb1,.nil,ha2,.nil,hd.mono s02,dno,ai (hd:H dq=_) nb,ai (hd:H dq=_) na0,Nat.zero_le _,Nat.zero_le _,by omega⟩
  (fun i σ H' _ ⟨_,_,_,_,_,_,_,_,_,_,s,_⟩=>s _ _ ev) ?_ ?_
 ·rintro i z σ H' hz ⟨v,u,b,ab,pl',d',dq',bs,as,rfl,s,hf,hb,pb,ha,pa,hd',n1,n2,n3,l1,l2,l3⟩
  obtain ⟨c,hci,ft⟩:=dh pr hz;obtain ⟨t,cl,rfl,ht,hcl,cno⟩:=id ft;have ht':=s _ _ ht;have hcl':ax H' cl c.2:=s _ _ hcl;have hi:i<ps.length:=(List.getElem?_eq_some_iff.mp hci).1;have lt:=tH ps i;have lt1:=tH ps (i+1);have e1:ps.take (i+1)=ps.take i++[c]:=by rw [List.take_succ,hci];rfl
  have e2:dP (ps.take (i+1))=dP (ps.take i)+c.2.length:=by rw [e1,zY]
  have hstep:(ps.take (i+1)).foldl bF ([],[],pl,d)=bF (b,ab,pl',d') c:=by rw [e1,List.foldl_append,hf];rfl
  tm_at "sx";refine eT ht' ?_;tm_at "sx";refine ig ht' ?_;tm_at "sx"
  ·rename_i h1
   refine gG hb ?_;tm_at "sx";have lb:=Paired.len pb;refine jA hb (by omega) (fun G f e=>?_);refine ⟨_,_,b++[c],ab,pl',d',dq',bs++[.ref t],as,rfl,aF.ny s nb f,?_,e,pb.snoc ft,f _ _ ha bna.symm,pa,f _ _ hd' n2,n1,n2,n3,?_,by omega,by omega⟩
   ·rw [hstep];unfold bF;rw [if_pos h1]
   ·rw [List.length_append];show _+1≤_;omega
  ·rename_i h1
   refine eT ht' ?_;tm_at "sx"
   ·rename_i h2
    refine gG ha ?_;tm_at "sx";have la:=Paired.len pa;refine jA ha (by omega) (fun G f e=>?_);refine ⟨_,_,b,ab++[c],pl',d',dq',bs,as++[.ref t],rfl,aF.ny s na0 f,?_,f _ _ hb bna,pb,e,pa.snoc ft,f _ _ hd' n3,n1,n2,n3,by omega,?_,by omega⟩
    ·rw [hstep];unfold bF;rw [if_neg h1,if_pos h2]
    ·rw [List.length_append];show _+1≤_;omega
   ·rename_i h2
    refine eT ht' ?_;tm_at "sx";refine ni hd' (fun x1 G1 m1 z1 g1=>?_);tm_at "sx";refine ig (z1 _ _ ht') ?_;have q1:=oJ d' none (some (max 0 (c.1 - pl')));have q2:=oJ d' (some (c.1+(c.2.length:Int) - pl')) none;have q3:=Ib d' (i:=c.1 - pl') (j:=c.1+(c.2.length:Int) - pl') (by omega) (by omega);refine cV g1 (hcl'.mono z1) (by omega) (fun x2 G2 m2 z2 g2=>?_);tm_at "sx";refine ni (hd'.mono (z1.trans z2)) (fun x3 G3 m3 z3 g3=>?_);refine cV (g2.mono z3) g3 (by rw [List.length_append];omega) (fun x4 G4 m4 z4 g4=>?_);tm_at "sx";have z04:=((z1.trans z2).trans z3).trans z4;have m4':H' x4=none:=((z1.trans z2).trans z3).free m4;refine eT (z04 _ _ ht') ?_;tm_at "sx";refine ⟨_,_,b,ab,min pl' c.1,_,x4,bs,as,rfl,s.trans z04,?_,z04 _ _ hb,pb,z04 _ _ ha,pa,g4,(ai (s _ _ ho) m4').symm,(ai hb m4').symm,(ai ha m4').symm,by omega,by omega,?_⟩
    ·rw [hstep];unfold bF;rw [if_neg h1,if_neg h2]
    ·rw [List.length_append,List.length_append];omega
 ·rintro σ H' ⟨v,u,b,ab,pl',d',dq',bs,as,rfl,s,hf,hb,pb,ha,pa,hd',n1,n2,n3,l1,l2,l3⟩
  rw [ln,List.take_length] at hf;rw [ln] at l1 l2;tm_at "sx";refine oP (by simp) (fun x1 G1 m1 z1 g1=>?_);tm_at "sx";refine bD (by simp) (fun x2 G2 m2 z2 g2=>?_);have lb:=Paired.len pb;have la:=Paired.len pa;refine yL ((z1.trans z2) _ _ hb) g2 (by show _+1≤_;omega) (fun x3 G3 m3 z3 g3=>?_);tm_at "sx";have z13:=(z1.trans z2).trans z3;refine yL g3 (z13 _ _ ha) (by rw [List.length_append];show _+1+_≤_;omega) (fun x4 G4 m4 z4 g4=>?_);have s4:=(s.trans z13).trans z4;refine k x4 G4 ((s.trans z13).free m4) s4 ⟨_,g4,?_⟩;unfold ll;rw [hf];have mo:∀{l m},Paired (mU H o) l m→Paired (mU G4 o) l m:=fun h=>Paired.imp (fun v r ⟨t,l,e1,e2,e3,e4⟩=>⟨t,l,e1,s4 _ _ e2,s4 _ _ e3,e4⟩) h;exact fY (fY (mo pb) (.cons ⟨x1,dq',rfl,z4 _ _ (z3 _ _ (z2 _ _ g1)),(hd'.mono z13).mono z4,n1⟩ .nil)) (mo pa)
end
noncomputable def fX:List (Str×V)→List (Str×V)→List (Str×V)
 | [],fs=>fs
 | p::l,fs=>fX l (bU p.1 p.2 fs)
theorem gA:∀(l fs:List (Str×V)),(fX l fs).length≤fs.length+l.length
 | [],fs=>Nat.le_refl _
 | p::l,fs=>by
  have h:=gA l (bU p.1 p.2 fs);have h2:=kE p.1 p.2 fs;show (fX l (bU p.1 p.2 fs)).length≤fs.length+(l.length+1);omega
theorem oa {m:Str}:∀(l fs:List (Str×V)),m ∉ l.map (·.1)→(fX l fs).lookup m=fs.lookup m
 | [],_,_=>rfl
 | p::l,fs,h=>by
  rw [List.map_cons,List.mem_cons,not_or] at h;show (fX l (bU p.1 p.2 fs)).lookup m=_;rw [oa l _ h.2,og,if_neg h.1]
section
variable {P:Program} {w:World} {K:PySem.W.Frag} {mg:Str→Option Value} {base:Heap} {a:AD}
noncomputable def cy (x:V) (y:V) (z:V):List (Str×V):=[("me",x),("mine",y),("base",z)]
noncomputable def qO (a:AD):Sp:=fun vs H Q _=>∃(p dx:Addr) (fs:List (Str×V)) (x:V) (y:V) (z:V),vs=[.ref p,x,y,z]∧H p=some (.ins a.aE dx fs)∧fs.length≤900∧∀H',H' p=some (.ins a.aE dx (fX (cy x y z) fs))→But p H H'→Q .non H'
theorem kC (T:TX K mg a):Ok P w K mg base a fI 1 (qO a):=by
 refine fo T 16 fun S H hr h=>?_;obtain ⟨p,dx,fs,x,y,z,rfl,h0,l0,k⟩:=h;refine ⟨_,(aa (sf 0 (pv 1))
  (aa (sf 0 (pv 2))
  (ae (sf 0 (pv 3))))),?_⟩
 show aP _ _ _ [some (.ref p),some (x),some (y),some (z)] H;tm_at "ck";have f0:But p H H:=fun _ _ h _=>h;tm_at "sx";refine aQ (m:=900) T.aC (T.aI 6 _ rfl) h0 l0 (by decide) (fun H1 h1 l1 f1=>?_);replace f1:=f0.trans f1;tm_at "sx";refine aQ (m:=901) T.aC (T.aI 7 _ rfl) h1 l1 (by decide) (fun H2 h2 l2 f2=>?_);replace f2:=f1.trans f2;tm_at "sx";refine aQ (m:=902) T.aC (T.aI 8 _ rfl) h2 l2 (by decide) (fun H3 h3 l3 f3=>?_);replace f3:=f2.trans f3;exact k _ h3 f3
noncomputable def cc (x:V) (y:V) (z:V):List (Str×V):=[("them",x),("theirs",y),("their_base",z)]
noncomputable def pT (a:AD):Sp:=fun vs H Q _=>∃(p dx:Addr) (fs:List (Str×V)) (x:V) (y:V) (z:V),vs=[.ref p,x,y,z]∧H p=some (.ins a.aE dx fs)∧fs.length≤900∧∀H',H' p=some (.ins a.aE dx (fX (cc x y z) fs))→But p H H'→Q .non H'
theorem j3 (T:TX K mg a):Ok P w K mg base a fc 1 (pT a):=by
 refine fo T 17 fun S H hr h=>?_;obtain ⟨p,dx,fs,x,y,z,rfl,h0,l0,k⟩:=h;refine ⟨_,(aa (sf 0 (pv 1))
  (aa (sf 0 (pv 2))
  (ae (sf 0 (pv 3))))),?_⟩
 show aP _ _ _ [some (.ref p),some (x),some (y),some (z)] H;tm_at "ck";have f0:But p H H:=fun _ _ h _=>h;tm_at "sx";refine aQ (m:=900) T.aC (T.aI 9 _ rfl) h0 l0 (by decide) (fun H1 h1 l1 f1=>?_);replace f1:=f0.trans f1;tm_at "sx";refine aQ (m:=901) T.aC (T.aI 10 _ rfl) h1 l1 (by decide) (fun H2 h2 l2 f2=>?_);replace f2:=f1.trans f2;tm_at "sx";refine aQ (m:=902) T.aC (T.aI 11 _ rfl) h2 l2 (by decide) (fun H3 h3 l3 f3=>?_);replace f3:=f2.trans f3;exact k _ h3 f3
noncomputable def bZ:List (Str×V):=[("wide",.int 5600),("slow",.int 1048576),("same",.int 0),("mending",.int 0),("anew",.int 0),("mean",.int 0),("off",.int 0),("was_measured",.bl false),("wait",.int 1000),("timed_place",.int 0),("timed_since",.int 0),("due",.non),("tries",.int 0)]
noncomputable def pR (a:AD):Sp:=fun vs H Q _=>∃(p dx:Addr) (fs:List (Str×V)),vs=[.ref p]∧H p=some (.ins a.aE dx fs)∧fs.length≤900∧∀H',H' p=some (.ins a.aE dx (fX (bZ) fs))→But p H H'→Q .non H'
theorem qa (T:TX K mg a):Ok P w K mg base a hY 1 (pR a):=by
 refine fo T 19 fun S H hr h=>?_;obtain ⟨p,dx,fs,rfl,h0,l0,k⟩:=h;refine ⟨_,(aa (sf 0 ag)
  (aa (sf 0 (pgi T 22))
  (aa (sf 0 ag)
  (aa (sf 0 ag)
  (aa (sf 0 ag)
  (aa (sf 0 ag)
  (aa (sf 0 ag)
  (aa (sf 0 iq)
  (aa (sf 0 ag)
  (aa (sf 0 ag)
  (aa (sf 0 ag)
  (aa (sf 0 iF)
  (ae (sf 0 ag)))))))))))))),?_⟩
 show aP _ _ _ [some (.ref p)] H;tm_at "ck";have f0:But p H H:=fun _ _ h _=>h;tm_at "sx";refine aQ (m:=900) T.aC (T.aI 20 _ rfl) h0 l0 (by decide) (fun H1 h1 l1 f1=>?_);replace f1:=f0.trans f1;tm_at "sx";refine aQ (m:=901) T.aC (T.aI 21 _ rfl) h1 l1 (by decide) (fun H2 h2 l2 f2=>?_);replace f2:=f1.trans f2;tm_at "sx";refine aQ (m:=902) T.aC (T.aI 22 _ rfl) h2 l2 (by decide) (fun H3 h3 l3 f3=>?_);replace f3:=f2.trans f3;tm_at "sx";refine aQ (m:=903) T.aC (T.aI 23 _ rfl) h3 l3 (by decide) (fun H4 h4 l4 f4=>?_);replace f4:=f3.trans f4;tm_at "sx";refine aQ (m:=904) T.aC (T.aI 24 _ rfl) h4 l4 (by decide) (fun H5 h5 l5 f5=>?_);replace f5:=f4.trans f5;tm_at "sx";refine aQ (m:=905) T.aC (T.aI 25 _ rfl) h5 l5 (by decide) (fun H6 h6 l6 f6=>?_);replace f6:=f5.trans f6;tm_at "sx";refine aQ (m:=906) T.aC (T.aI 26 _ rfl) h6 l6 (by decide) (fun H7 h7 l7 f7=>?_);replace f7:=f6.trans f7;tm_at "sx";refine aQ (m:=907) T.aC (T.aI 27 _ rfl) h7 l7 (by decide) (fun H8 h8 l8 f8=>?_);replace f8:=f7.trans f8;tm_at "sx";refine aQ (m:=908) T.aC (T.aI 28 _ rfl) h8 l8 (by decide) (fun H9 h9 l9 f9=>?_);replace f9:=f8.trans f9;tm_at "sx";refine aQ (m:=909) T.aC (T.aI 29 _ rfl) h9 l9 (by decide) (fun H10 h10 l10 f10=>?_);replace f10:=f9.trans f10;tm_at "sx";refine aQ (m:=910) T.aC (T.aI 30 _ rfl) h10 l10 (by decide) (fun H11 h11 l11 f11=>?_);replace f11:=f10.trans f11;tm_at "sx";refine aQ (m:=911) T.aC (T.aI 31 _ rfl) h11 l11 (by decide) (fun H12 h12 l12 f12=>?_);replace f12:=f11.trans f12;tm_at "sx";refine aQ (m:=912) T.aC (T.aI 32 _ rfl) h12 l12 (by decide) (fun H13 h13 l13 f13=>?_);replace f13:=f12.trans f13;exact k _ h13 f13
theorem But.free {q p:Addr} {H H':Hp} (f:But p H H') (n:H' q=none) (h:q≠p):H q=none:=by
 cases e:H q with
 | none=>rfl
 | some x=>rw [f _ _ e h] at n;cases n
noncomputable def bY (u v:Addr):List (Str×V):=[("unacked",.ref u),("last",.int 1),("closing",.bl false),("first",.int 0),("next_place",.int 0),("top",.int 0),("room",.int 0),("held",.ref v)]
noncomputable def pQ (a:AD):Sp:=fun vs H Q _=>∃(p dx:Addr) (fs:List (Str×V)),vs=[.ref p]∧H p=some (.ins a.aE dx fs)∧fs.length≤900∧∀H' u v,H u=none→H v=none→u≠p→v≠p→H' u=some (.lst [])→H' v=some (.lst [])→H' p=some (.ins a.aE dx (fX (bY u v) fs))→But p H H'→Q .non H'
theorem p0 (T:TX K mg a):Ok P w K mg base a hJ 1 (pQ a):=by
 refine fo T 18 fun S H hr h=>?_;obtain ⟨p,dx,fs,rfl,h0,l0,k⟩:=h;refine ⟨_,(aa (sf 0 (aL d9))
  (aa (sf 0 ag)
  (aa (sf 0 iq)
  (aa (sf 0 ag)
  (aa (sf 0 ag)
  (aa (sf 0 ag)
  (aa (sf 0 ag)
  (ae (sf 0 (aL d9)))))))))),?_⟩
 show aP _ _ _ [some (.ref p)] H;tm_at "ck";have f0:But p H H:=fun _ _ h _=>h;tm_at "sx";refine bD (by decide) (fun q0 G0 m0 z0 e0=>?_);have nq0:q0≠p:=(ai h0 m0).symm;have fr0:H q0=none:=But.free f0 m0 nq0;replace h0:=z0 _ _ h0;have g0:=aF.but (q:=p) z0;tm_at "sx";refine aQ (m:=900) T.aC (T.aI 12 _ rfl) h0 l0 (by decide) (fun H1 h1 l1 f1=>?_);replace e0:=f1 _ _ e0 nq0;replace f1:=(f0.trans g0).trans f1;tm_at "sx";refine aQ (m:=901) T.aC (T.aI 13 _ rfl) h1 l1 (by decide) (fun H2 h2 l2 f2=>?_);have e0:=f2 _ _ e0 nq0;replace f2:=f1.trans f2;tm_at "sx";refine aQ (m:=902) T.aC (T.aI 14 _ rfl) h2 l2 (by decide) (fun H3 h3 l3 f3=>?_);have e0:=f3 _ _ e0 nq0;replace f3:=f2.trans f3;tm_at "sx";refine aQ (m:=903) T.aC (T.aI 15 _ rfl) h3 l3 (by decide) (fun H4 h4 l4 f4=>?_);have e0:=f4 _ _ e0 nq0;replace f4:=f3.trans f4;tm_at "sx";refine aQ (m:=904) T.aC (T.aI 16 _ rfl) h4 l4 (by decide) (fun H5 h5 l5 f5=>?_);have e0:=f5 _ _ e0 nq0;replace f5:=f4.trans f5;tm_at "sx";refine aQ (m:=905) T.aC (T.aI 17 _ rfl) h5 l5 (by decide) (fun H6 h6 l6 f6=>?_);have e0:=f6 _ _ e0 nq0;replace f6:=f5.trans f6;tm_at "sx";refine aQ (m:=906) T.aC (T.aI 18 _ rfl) h6 l6 (by decide) (fun H7 h7 l7 f7=>?_);have e0:=f7 _ _ e0 nq0;replace f7:=f6.trans f7;tm_at "sx";refine bD (by decide) (fun q7 G7 m7 z7 e7=>?_);have nq7:q7≠p:=(ai h7 m7).symm;have fr7:H q7=none:=But.free f7 m7 nq7;replace h7:=z7 _ _ h7;have g7:=aF.but (q:=p) z7;tm_at "sx";refine aQ (m:=907) T.aC (T.aI 19 _ rfl) h7 l7 (by decide) (fun H8 h8 l8 f8=>?_);have e0:=f8 _ _ (z7 _ _ e0) nq0;replace e7:=f8 _ _ e7 nq7;replace f8:=(f7.trans g7).trans f8;exact k _ q0 q7 fr0 fr7 nq0 nq7 e0 e7 h8 f8
noncomputable def cb (u v:Addr):List (Str×V):=[("wanted",.int 0),("unread",.ref u),("pieces",.ref v),("end_place",.non),("has_ended",.bl false),("closed_first",.bl false),("edge",.int 0),("owed",.int 0),("ack_due",.non)]
noncomputable def pS (a:AD):Sp:=fun vs H Q _=>∃(p dx:Addr) (fs:List (Str×V)),vs=[.ref p]∧H p=some (.ins a.aE dx fs)∧fs.length≤900∧∀H' u v,H u=none→H v=none→u≠p→v≠p→H' u=some (.lst [])→H' v=some (.lst [])→H' p=some (.ins a.aE dx (fX (cb u v) fs))→But p H H'→Q .non H'
theorem qb (T:TX K mg a):Ok P w K mg base a hZ 1 (pS a):=by
 refine fo T 20 fun S H hr h=>?_;obtain ⟨p,dx,fs,rfl,h0,l0,k⟩:=h;refine ⟨_,(aa (sf 0 ag)
  (aa (sf 0 (aL d9))
  (aa (sf 0 (aL d9))
  (aa (sf 0 iF)
  (aa (sf 0 iq)
  (aa (sf 0 iq)
  (aa (sf 0 ag)
  (aa (sf 0 ag)
  (ae (sf 0 iF)))))))))),?_⟩
 show aP _ _ _ [some (.ref p)] H;tm_at "ck";have f0:But p H H:=fun _ _ h _=>h;tm_at "sx";refine aQ (m:=900) T.aC (T.aI 33 _ rfl) h0 l0 (by decide) (fun H1 h1 l1 f1=>?_);replace f1:=f0.trans f1;tm_at "sx";refine bD (by decide) (fun q1 G1 m1 z1 e1=>?_);have nq1:q1≠p:=(ai h1 m1).symm;have fr1:H q1=none:=But.free f1 m1 nq1;replace h1:=z1 _ _ h1;have g1:=aF.but (q:=p) z1;tm_at "sx";refine aQ (m:=901) T.aC (T.aI 34 _ rfl) h1 l1 (by decide) (fun H2 h2 l2 f2=>?_);replace e1:=f2 _ _ e1 nq1;replace f2:=(f1.trans g1).trans f2;tm_at "sx";refine bD (by decide) (fun q2 G2 m2 z2 e2=>?_);have nq2:q2≠p:=(ai h2 m2).symm;have fr2:H q2=none:=But.free f2 m2 nq2;replace h2:=z2 _ _ h2;have g2:=aF.but (q:=p) z2;tm_at "sx";refine aQ (m:=902) T.aC (T.aI 35 _ rfl) h2 l2 (by decide) (fun H3 h3 l3 f3=>?_);have e1:=f3 _ _ (z2 _ _ e1) nq1;replace e2:=f3 _ _ e2 nq2;replace f3:=(f2.trans g2).trans f3;tm_at "sx";refine aQ (m:=903) T.aC (T.aI 36 _ rfl) h3 l3 (by decide) (fun H4 h4 l4 f4=>?_);have e1:=f4 _ _ e1 nq1;have e2:=f4 _ _ e2 nq2;replace f4:=f3.trans f4;tm_at "sx";refine aQ (m:=904) T.aC (T.aI 37 _ rfl) h4 l4 (by decide) (fun H5 h5 l5 f5=>?_);have e1:=f5 _ _ e1 nq1;have e2:=f5 _ _ e2 nq2;replace f5:=f4.trans f5;tm_at "sx";refine aQ (m:=905) T.aC (T.aI 38 _ rfl) h5 l5 (by decide) (fun H6 h6 l6 f6=>?_);have e1:=f6 _ _ e1 nq1;have e2:=f6 _ _ e2 nq2;replace f6:=f5.trans f6;tm_at "sx";refine aQ (m:=906) T.aC (T.aI 39 _ rfl) h6 l6 (by decide) (fun H7 h7 l7 f7=>?_);have e1:=f7 _ _ e1 nq1;have e2:=f7 _ _ e2 nq2;replace f7:=f6.trans f7;tm_at "sx";refine aQ (m:=907) T.aC (T.aI 40 _ rfl) h7 l7 (by decide) (fun H8 h8 l8 f8=>?_);have e1:=f8 _ _ e1 nq1;have e2:=f8 _ _ e2 nq2;replace f8:=f7.trans f8;tm_at "sx";refine aQ (m:=908) T.aC (T.aI 41 _ rfl) h8 l8 (by decide) (fun H9 h9 l9 f9=>?_);have e1:=f9 _ _ e1 nq1;have e2:=f9 _ _ e2 nq2;replace f9:=f8.trans f9;exact k _ q1 q2 fr1 fr2 nq1 nq2 e1 e2 h9 f9
noncomputable def tI (n:Int):List (Str×V):=[("heard",.int n),("askings",.int 0)]
noncomputable def xU (a:AD):Sp:=fun vs H Q _=>∃(p dx:Addr) (fs:List (Str×V)) (n:Int),vs=[.ref p]∧H p=some (.ins a.aE dx fs)∧fs.length≤900∧fs.lookup ("now" : Str)=some (.int n)∧∀H',H' p=some (.ins a.aE dx (fX (tI n) fs))→But p H H'→Q .non H'
theorem yn (T:TX K mg a):Ok P w K mg base a kH 1 (xU a):=by
 refine fo T 23 fun S H hr h=>?_;obtain ⟨p,dx,fs,n,rfl,h0,l0,hn,k⟩:=h;refine ⟨_,(aa (sf 0 (pf 0))
  (ae (sf 0 ag))),?_⟩
 show aP _ _ _ [some (.ref p)] H;tm_at "ck";tm_at "sx";refine ⟨p,a.aE,dx,_,_,rfl,h0,T.aC,(T.aI 0 _ rfl),hn,?_⟩;tm_at "sx";refine aQ (m:=900) T.aC (T.aI 42 _ rfl) h0 l0 (by decide) (fun H1 h1 l1 f1=>?_);tm_at "sx";refine aQ (m:=901) T.aC (T.aI 43 _ rfl) h1 l1 (by decide) (fun H2 h2 l2 f2=>?_);exact k _ h2 (f1.trans f2)
noncomputable def mz (n:Int) (u v u' v':Addr):List (Str×V):=([("phase",.int 0),("why",.int 0)]:List (Str×V))++(cy (.int 0) (.int 0) (.int 0)++(cc (.int 0) (.int 0) (.int 0)++(bY u v++(bZ++(cb u' v'++(([("lingers_until",.non),("kept",.int 0)]:List (Str×V))++tI n))))))
structure Km (p:Addr) (H H':Hp) (u v u' v':Addr):Prop where
 u:H u=none∧u≠p∧H' u=some (.lst [])
 v:H v=none∧v≠p∧H' v=some (.lst [])
 u':H u'=none∧u'≠p∧H' u'=some (.lst [])
 v':H v'=none∧v'≠p∧H' v'=some (.lst [])
noncomputable def meths:List Str:=["name_ends", "name_other", "renew_sent", "renew_pace", "renew_come", "hear"]
noncomputable def wB (a:AD):Sp:=fun vs H Q _=>∃(p dx:Addr) (fs:List (Str×V)) (n:Int),vs=[.ref p]∧H p=some (.ins a.aE dx fs)∧fs.length≤100∧fs.lookup ("now" : Str)=some (.int n)∧(∀m∈meths,fs.lookup m=none)∧
 ∀H' u v u' v',Km p H H' u v u' v'→H' p=some (.ins a.aE dx (fX (mz n u v u' v') fs))→But p H H'→Q .non H'
theorem gU {m:Str} {fs l:List (Str×V)} {ks:List Str} (h:fs.lookup m=none) (e:l.map (·.1)=ks) (hk:m ∉ ks):(fX l fs).lookup m=none:=(oa l fs (by rw [e];exact hk)).trans h
theorem j7 {m:Str} {fs l:List (Str×V)} {ks:List Str} {v:V} (h:fs.lookup m=some v) (e:l.map (·.1)=ks) (hk:m ∉ ks):(fX l fs).lookup m=some v:=(oa l fs (by rw [e];exact hk)).trans h
theorem pL (T:TX K mg a):Ok P w K mg base a jK 2 (wB a):=by
 refine fo T 15 fun S H hr h=>?_;obtain ⟨p,dx,fs,n,rfl,h0,l0,hn,hm,k⟩:=h;refine ⟨_,(aa (sf 0 (pgi T 11))
  (aa (sf 0 ag)
  (aa (aj (pm (pv 0) (kC T) hr (af ag (af ag (pa1 ag)))))
  (aa (aj (pm (pv 0) (j3 T) hr (af ag (af ag (pa1 ag)))))
  (aa (aj (pm0 (pv 0) (p0 T) hr))
  (aa (aj (pm0 (pv 0) (qa T) hr))
  (aa (aj (pm0 (pv 0) (qb T) hr))
  (aa (sf 0 iF)
  (aa (sf 0 ag)
  (ae (aj (pm0 (pv 0) (yn T) hr)))))))))))),?_⟩
 show aP _ _ _ [some (.ref p)] H;tm_at "ck";tm_at "sx";refine aQ (m:=100) T.aC (T.aI 2 _ rfl) h0 l0 (by decide) (fun H1 h1 l1 f1=>?_);tm_at "sx";refine aQ (m:=101) T.aC (T.aI 3 _ rfl) h1 l1 (by decide) (fun H2 h2 l2 f2=>?_);replace f2:=f1.trans f2;generalize eF2:bU "why" (V.int 0) (bU "phase" (V.int 0) fs)=F2 at h2 l2;have eF2:F2=fX [("phase",V.int 0),("why",V.int 0)] fs:=eF2.symm;have hm2:∀m∈meths,F2.lookup m=none:=fun m hmm=>by
  rw [eF2];refine gU (ks:=["phase", "why"]) (hm m hmm) rfl ?_;revert m;decide +kernel
 have hn2:F2.lookup ("now" : Str)=some (.int n):=by rw [eF2];exact j7 (ks:=["phase", "why"]) hn rfl (by decide +kernel)
 tm_at "sx";refine ⟨p,dx,_,rfl,h2,hm2 _ (by decide +kernel),?_⟩;tm_at "sx";refine ⟨p,dx,_,_,_,_,rfl,h2,by tm_at "ob",fun H3 h3 f3=>?_⟩;replace f3:=f2.trans f3;have l3:=gA (cy (.int 0) (.int 0) (.int 0)) F2;have l3':(cy (.int 0) (.int 0) (.int 0)).length=3:=rfl;have hm3:∀m∈meths,(fX (cy (.int 0) (.int 0) (.int 0)) F2).lookup m=none:=fun m hmm=>by
  refine gU (ks:=["me", "mine", "base"]) (hm2 m hmm) rfl ?_;revert m;decide +kernel
 have hn3:(fX (cy (.int 0) (.int 0) (.int 0)) F2).lookup ("now" : Str)=some (.int n):=j7 (ks:=["me", "mine", "base"]) hn2 rfl (by decide +kernel);generalize eF3:fX (cy (.int 0) (.int 0) (.int 0)) F2=F3 at h3 l3 hm3 hn3;tm_at "sx";refine ⟨p,dx,_,rfl,h3,hm3 _ (by decide +kernel),?_⟩;tm_at "sx";refine ⟨p,dx,_,_,_,_,rfl,h3,by tm_at "ob",fun H4 h4 f4=>?_⟩;replace f4:=f3.trans f4;have l4:=gA (cc (.int 0) (.int 0) (.int 0)) F3;have l4':(cc (.int 0) (.int 0) (.int 0)).length=3:=rfl;have hm4:∀m∈meths,(fX (cc (.int 0) (.int 0) (.int 0)) F3).lookup m=none:=fun m hmm=>by
  refine gU (ks:=["them", "theirs", "their_base"]) (hm3 m hmm) rfl ?_;revert m;decide +kernel
 have hn4:(fX (cc (.int 0) (.int 0) (.int 0)) F3).lookup ("now" : Str)=some (.int n):=j7 (ks:=["them", "theirs", "their_base"]) hn3 rfl (by decide +kernel);generalize eF4:fX (cc (.int 0) (.int 0) (.int 0)) F3=F4 at h4 l4 hm4 hn4;tm_at "sx";refine ⟨p,dx,_,rfl,h4,hm4 _ (by decide +kernel),?_⟩;tm_at "sx";refine ⟨p,dx,_,rfl,h4,by tm_at "ob",fun H5 u v nu nv up vp eu ev h5 f5=>?_⟩;replace nu:=But.free f4 nu up;replace nv:=But.free f4 nv vp;replace f5:=f4.trans f5;have l5:=gA (bY u v) F4;have l5':(bY u v).length=8:=rfl;have hm5:∀m∈meths,(fX (bY u v) F4).lookup m=none:=fun m hmm=>by
  refine gU (ks:=["unacked", "last", "closing", "first", "next_place", "top", "room", "held"]) (hm4 m hmm) rfl ?_;revert m;decide +kernel
 have hn5:(fX (bY u v) F4).lookup ("now" : Str)=some (.int n):=j7 (ks:=["unacked", "last", "closing", "first", "next_place", "top", "room", "held"]) hn4 rfl (by decide +kernel);generalize eF5:fX (bY u v) F4=F5 at h5 l5 hm5 hn5;tm_at "sx";refine ⟨p,dx,_,rfl,h5,hm5 _ (by decide +kernel),?_⟩;tm_at "sx";refine ⟨p,dx,_,rfl,h5,by tm_at "ob",fun H6 h6 f6=>?_⟩;have eu6:=f6 _ _ eu up;have ev6:=f6 _ _ ev vp;replace f6:=f5.trans f6;have l6:=gA bZ F5;have l6':bZ.length=13:=rfl;have hm6:∀m∈meths,(fX bZ F5).lookup m=none:=fun m hmm=>by
  refine gU (ks:=["wide", "slow", "same", "mending", "anew", "mean", "off", "was_measured", "wait", "timed_place", "timed_since", "due", "tries"]) (hm5 m hmm) rfl ?_;revert m;decide +kernel
 have hn6:(fX bZ F5).lookup ("now" : Str)=some (.int n):=j7 (ks:=["wide", "slow", "same", "mending", "anew", "mean", "off", "was_measured", "wait", "timed_place", "timed_since", "due", "tries"]) hn5 rfl (by decide +kernel);generalize eF6:fX bZ F5=F6 at h6 l6 hm6 hn6;tm_at "sx";refine ⟨p,dx,_,rfl,h6,hm6 _ (by decide +kernel),?_⟩;tm_at "sx";refine ⟨p,dx,_,rfl,h6,by tm_at "ob",fun H7 u' v' nu' nv' up' vp' eu' ev' h7 f7=>?_⟩;have eu7:=f7 _ _ eu6 up;have ev7:=f7 _ _ ev6 vp;replace nu':=But.free f6 nu' up';replace nv':=But.free f6 nv' vp';replace f7:=f6.trans f7;have l7:=gA (cb u' v') F6;have l7':(cb u' v').length=9:=rfl;have hm7:∀m∈meths,(fX (cb u' v') F6).lookup m=none:=fun m hmm=>by
  refine gU (ks:=["wanted", "unread", "pieces", "end_place", "has_ended", "closed_first", "edge", "owed", "ack_due"]) (hm6 m hmm) rfl ?_;revert m;decide +kernel
 have hn7:(fX (cb u' v') F6).lookup ("now" : Str)=some (.int n):=j7 (ks:=["wanted", "unread", "pieces", "end_place", "has_ended", "closed_first", "edge", "owed", "ack_due"]) hn6 rfl (by decide +kernel);generalize eF7:fX (cb u' v') F6=F7 at h7 l7 hm7 hn7;tm_at "sx";refine aQ (m:=200) T.aC (T.aI 4 _ rfl) h7 (by tm_at "ob") (by decide) (fun H8 h8 l8 f8=>?_);tm_at "sx";refine aQ (m:=201) T.aC (T.aI 5 _ rfl) h8 l8 (by decide) (fun H9 h9 l9 f9=>?_);replace f9:=f8.trans f9;have hm9:(bU "kept" (V.int 0) (bU "lingers_until" V.non F7)).lookup ("hear" : Str)=none:=gU (l:=[("lingers_until",V.non),("kept",V.int 0)]) (ks:=["lingers_until", "kept"]) (hm7 _ (by decide +kernel)) rfl (by decide +kernel);have hn9:(bU "kept" (V.int 0) (bU "lingers_until" V.non F7)).lookup ("now" : Str)=some (.int n):=j7 (l:=[("lingers_until",V.non),("kept",V.int 0)]) (ks:=["lingers_until", "kept"]) hn7 rfl (by decide +kernel);tm_at "sx";refine ⟨p,dx,_,rfl,h9,hm9,?_⟩;tm_at "sx";refine ⟨p,dx,_,n,rfl,h9,Nat.le_trans l9 (by decide),hn9,fun Ha ha fa=>?_⟩;replace fa:=f9.trans fa;refine k Ha u v u' v' ⟨⟨nu,up,fa _ _ eu7 up⟩,⟨nv,vp,fa _ _ ev7 vp⟩,⟨nu',up',fa _ _ eu' up'⟩,⟨nv',vp',fa _ _ ev' vp'⟩⟩ ?_ (f7.trans fa);rw [ha,←eF7,←eF6,←eF5,←eF4,←eF3,eF2];rfl
end
noncomputable def ps0 (n : Int) (out : List (Int × List Int)) : PS :=
  { now := n, out := out, phase := 0, why := 0, me := 0, mine := 0, base := 0, them := 0, theirs := 0, aK := 0, aB := [], last := 1, closing := false, first := 0, au := 0, top := 0, room := 0, held := [],
    wide := 5600, slow := 1048576, same := 0, bA := 0, anew := 0, jJ := 0, off := 0, aZ := false, wait := 1000, bp := 0, dU := 0, due := none, tries := 0,
    wanted := 0, aH := [], pieces := [], cj := none, bg := false, cB := false, edge := 0, owed := 0, fi := none, aS := none, kept := 0, heard := n, fg := 0 }
noncomputable def xY (s:PS):PS:=ps0 s.now s.out
section
variable {P:Program} {w:World} {K:PySem.W.Frag} {mg:Str→Option Value} {base:Heap} {a:AD}
theorem But.fr {p o:Addr} {H H':Hp} (f:But p H H'):Fr p o H H':=fun b x h n _=>f b x h n
theorem SdX.to {H H':Hp} {p o dx:Addr} {d:Ads} {s s':PS} (h:SdX a H p o d dx s) (e:H' p=some (.ins a.aE dx (aO d s'))) (f:But p H H') (e1:s'.aB=s.aB) (e2:s'.held=s.held) (e3:s'.aH=s.aH) (e4:s'.pieces=s.pieces) (e5:s'.out=s.out):SdX a H' p o d dx s':=by
 have t:=h.two;have f':Fr p o H H':=But.fr f;obtain ⟨vs,eo,_⟩:=h.out;refine ⟨e,h.oo,?_,h.cY,?_,h.j8,?_,h.dW,?_,h.dZ,?_⟩
 ·rw [e1];exact h.aB.fr t f' h.cY
 ·rw [e2];exact h.held.fr t f' h.j8
 ·rw [e3];exact h.aH.fr t f' h.dW
 ·rw [e4];exact h.pieces.fr t f' h.dZ
 ·rw [e5];exact bj.ofr h.out t f' ((f _ _ eo h.pno).trans eo.symm)
theorem rb (d:Ads) (s:PS):(aO d s).length=44:=rfl
noncomputable def gR (s:PS) (x y z:Int):PS:=((s.uR x).nJ y).nM z
theorem j5 (T:TX K mg a):Ok P w K mg base a fI 1 (Jk a gR):=by
 refine (kC T).imp fun vs H Q E ⟨p,o,s,i,j,l,ev,⟨d,dx,e⟩,k⟩=>⟨p,dx,_,_,_,_,ev,e.obj,by rw [rb];decide,fun H' h f=>?_⟩;refine k H' ⟨d,dx,e.to ?_ f rfl rfl rfl rfl rfl⟩ (But.fr f);rw [h];show some (HO.ins a.aE dx (bU "base" (.int l) (bU "mine" (.int j) (bU "me" (.int i) (aO d s)))))=_;rw [KA,Hm,Ho];rfl
noncomputable def dJ (s:PS) (x y z:Int):PS:=((s.ji x).fj y).cD z
theorem jC (T:TX K mg a):Ok P w K mg base a fc 1 (Jk a dJ):=by
 refine (j3 T).imp fun vs H Q E ⟨p,o,s,i,j,l,ev,⟨d,dx,e⟩,k⟩=>⟨p,dx,_,_,_,_,ev,e.obj,by rw [rb];decide,fun H' h f=>?_⟩;refine k H' ⟨d,dx,e.to ?_ f rfl rfl rfl rfl rfl⟩ (But.fr f);rw [h];show some (HO.ins a.aE dx (bU "their_base" (.int l) (bU "theirs" (.int j) (bU "them" (.int i) (aO d s)))))=_;rw [Hl,Dd,wG];rfl
theorem A8 (d:Ads) (s:PS):∀m∈meths,(aO d s).lookup m=none:=fun m hm=>by
 simp only [meths,List.mem_cons,List.not_mem_nil,or_false] at hm;rcases hm with rfl | rfl | rfl | rfl | rfl | rfl
 ·exact yo d s
 ·exact wV d s
 ·exact wQ d s
 ·exact wR d s
 ·exact wU d s
 ·exact HK d s
theorem AU (d:Ads) (s:PS) (n:Int) (u v u' v':Addr) (out:List (Int×List Int)) (hn:s.now=n):fX (mz n u v u' v') (aO d s)=aO ⟨d.out,u,v,u',v'⟩ (ps0 n out):=by
 subst hn;kernel_rfl
theorem vt (T:TX K mg a):Ok P w K mg base a jK 2 (spM a xY):=by
 refine (pL T).imp fun vs H Q E ⟨p,o,s,ev,⟨d,dx,e⟩,k⟩=>⟨p,dx,_,s.now,ev,e.obj,by rw [rb];decide,JD d s,A8 d s,fun H' u v u' v' fr h f=>?_⟩;obtain ⟨ws,eo,_⟩:=id e.out;rw [AU d s s.now u v u' v' s.out rfl] at h;refine k H' ⟨_,dx,h,e.oo,fr.u.2.2,(ai eo fr.u.1).symm,⟨[],fr.v.2.2,.nil⟩,(ai eo fr.v.1).symm,fr.u'.2.2,(ai eo fr.u'.1).symm,⟨[],fr.v'.2.2,.nil⟩,(ai eo fr.v'.1).symm,?_⟩ (But.fr f);exact bj.ofr e.out e.two (But.fr f) ((f _ _ eo e.pno).trans eo.symm)
noncomputable def xT (a:AD):Sp:=fun vs H Q _=>∃(p dx:Addr),vs=[.ref p]∧H p=some (.ins a.aE dx [])∧∀H' o,H o=none→Sd a H' p o (ps0 0 [])→But p H H'→Q .non H'
theorem Dt (o:Addr):∀m∈meths,(bU "out" (V.ref o) (bU "now" (V.int 0) [])).lookup m=none:=fun m hm =>
 gU (fs:=[]) (l:=[("now",V.int 0),("out",V.ref o)]) (ks:=["now", "out"]) rfl rfl (by revert m;decide +kernel)
theorem C6 (o u v u' v':Addr):fX (mz 0 u v u' v') (bU "out" (V.ref o) (bU "now" (V.int 0) []))=aO ⟨o,u,v,u',v'⟩ (ps0 0 []):=by kernel_rfl
theorem ym (T:TX K mg a):Ok P w K mg base a kF 3 (xT a):=by
 refine fo T 14 fun S H hr h=>?_;obtain ⟨p,dx,rfl,h0,k⟩:=h;refine ⟨_,(aa (sf 0 ag)
  (aa (sf 0 (aL d9))
  (ae (aj (pm0 (pv 0) (pL T) hr))))),?_⟩
 show aP _ _ _ [some (.ref p)] H;tm_at "ck";tm_at "sx";refine aQ (m:=0) T.aC (T.aI 0 _ rfl) h0 (Nat.le_refl _) (by decide) (fun H1 h1 l1 f1=>?_);tm_at "sx";refine bD (by decide) (fun o H2 n2 s2 h2=>?_);have h12:=s2 _ _ h1;have no:o≠p:=(ai h1 n2).symm;have fo:=But.free f1 n2 no;tm_at "sx";refine aQ (m:=1) T.aC (T.aI 1 _ rfl) h12 l1 (by decide) (fun H3 h3 l3 f3=>?_);have f03:=(f1.trans (aF.but s2)).trans f3;have o3:=f3 _ _ h2 no;tm_at "sx";refine ⟨p,dx,_,rfl,h3,gU (fs:=[]) (l:=[("now",V.int 0),("out",V.ref o)]) (ks:=["now", "out"]) rfl rfl (by decide +kernel),?_⟩;tm_at "sx";refine ⟨p,dx,_,0,rfl,h3,Nat.le_trans l3 (by decide),(by kernel_rfl),Dt o,fun H' u v u' v' fr h f=>?_⟩;rw [C6] at h;have o4:=f _ _ o3 no;refine k H' o fo ⟨_,dx,h,rfl,fr.u.2.2,(ai o3 fr.u.1).symm,⟨[],fr.v.2.2,.nil⟩,(ai o3 fr.v.1).symm,fr.u'.2.2,(ai o3 fr.u'.1).symm,⟨[],fr.v'.2.2,.nil⟩,(ai o3 fr.v'.1).symm,⟨[],o4,.nil⟩⟩ (f03.trans f)
end
structure SegX (a:AD) (H:Hp) (o q rq dq dx:Addr) (g:SG):Prop where
 obj:H q=some (.ins a.aA dx (eR rq dq g))
 ranges:bL H rq g.ranges
 uo:rq≠o
 data:ax H dq g.data
 FH:dq≠o
section
variable {P:Program} {w:World} {K:PySem.W.Frag} {mg:Str→Option Value} {base:Heap} {a:AD}
theorem SegX.mono {H H':Hp} {o q rq dq dx:Addr} {g:SG} (h:SegX a H o q rq dq dx g) (s:aF H H'):SegX a H' o q rq dq dx g:=⟨s _ _ h.obj,h.ranges.mono s,h.uo,h.data.mono s,h.FH⟩
theorem Jn {H:Hp} {p q C C' dx dx' rq dq:Addr} {d:Ads} {s:PS} {g:SG} (h:H q=some (.ins C dx (eR rq dq g))) (h':H p=some (.ins C' dx' (aO d s))):q≠p:=by
 intro e;subst e;rw [h] at h';have e2:eR rq dq g=aO d s:=by injection h' with h1;injection h1
 have e3:=congrArg List.length e2;rw [rb] at e3;exact absurd e3 (by show ¬(8=44);decide)
theorem SegX.fr {H H':Hp} {p o q rq dq dx:Addr} {g:SG} {s:PS} (h:SegX a H o q rq dq dx g) (hs:Sd a H p o s) (f:Fr p o H H'):SegX a H' o q rq dq dx g:=by
 have t:=hs.two;obtain ⟨d,dy,e⟩:=hs;obtain ⟨ws,eo⟩:=t.o;exact ⟨f _ _ h.obj (Jn h.obj e.obj) (iw h.obj eo (by intro z;cases z)),h.ranges.fr t f h.uo,h.uo,h.data.fr t f h.FH,h.FH⟩
theorem uW {H:Hp} {p o:Addr} {s:PS} {Q:VK} (T:TX K mg a) (h:Sd a H p o s) (k:Q (.ref o) H):sV K "out" (.ref p) H Q:=by
 obtain ⟨d,dx,e⟩:=h;exact ⟨p,a.aE,dx,_,_,rfl,e.obj,T.aC,(T.aI 1 _ rfl),JC d s,by rw [e.oo];exact k⟩
theorem Ip {H:Hp} {p o t q:Addr} {s:PS} {rc:Int} {bs:List Int} {Q:VK} (h:Sd a H p o s) (ht:H t=some (.tup [.int rc,.ref q])) (hq:ax H q bs) (n:q≠o) (hz:s.out.length≤1000000)
  (k:∀H',Sd a H' p o (s.gf (s.out++[(rc,bs)]))→Fr p o H H'→Q .non H'):qR (.ref o) [.ref t] H Q:=by
 obtain ⟨d,dx,e⟩:=h;have tw:=e.two;obtain ⟨vs,eo,pr⟩:=id e.out;refine jA eo (by rw [Paired.len pr,sizeLine_eq];tm_at "oa") (fun H' f e'=>?_);have fr:Fr p o H H':=fun b x hb _ hn=>f b x hb hn;refine k H' ⟨d,dx,(f _ _ e.obj e.pno.symm).trans rfl,e.oo,e.aB.fr tw fr e.cY,e.cY,e.held.fr tw fr e.j8,e.j8,e.aH.fr tw fr e.dW,e.dW,e.pieces.fr tw fr e.dZ,e.dZ,⟨_,e',?_⟩⟩ fr;exact Paired.snoc (Paired.imp (fun v r ⟨u,l,e1,e2,e3,e4⟩=>⟨u,l,e1,fr _ _ e2 (tw.tup e2).1 (tw.tup e2).2,e3.fr tw fr e4,e4⟩) pr) ⟨t,q,rfl,fr _ _ ht (tw.tup ht).1 (tw.tup ht).2,hq.fr tw fr n,n⟩
noncomputable def uU (s:PS) (rc:Int) (g:SG):PS:=s.gf (s.out++[(rc,uF g s.me rc)])
noncomputable def GL (a:AD):Sp:=fun vs H Q _=>∃(p o q rq dq dx:Addr) (s:PS) (rc:Int) (g:SG),vs=[.ref p,.int rc,.ref q]∧Sd a H p o s∧SegX a H o q rq dq dx g∧AE g∧s.out.length≤1000000∧∀H',Sd a H' p o (uU s rc g)→Fr p o H H'→Q .non H'
theorem Cb (T:TX K mg a):Ok P w K mg base a Bp 4 (GL a):=by
 refine fo T 31 fun S H hr h=>?_;obtain ⟨p,o,q,rq,dq,dx,s,rc,g,rfl,hs,hg,ok,hz,k⟩:=h;refine ⟨_,(ae (aj (jl PySem.F.plainAttrs_list PySem.F.slot_list_append PySem.F.type_list_append dM (pf 0) (pa1 (pW (af (pv 1) (pa1 (pc (vi T) hr (af (pv 2) (af (pf 0) (pa1 (pv 1)))))))))))),?_⟩;show fJ _ _ [some (.ref p),some (.int rc),some (.ref q)] H;tm_at "ck";have tw:=hs.two;obtain ⟨ws,eo⟩:=tw.o;tm_at "sx";refine uW T hs ?_;tm_at "sx";refine gG eo ?_;tm_at "sx";refine ⟨q,dx,rq,dq,g,_,_,rfl,hg.obj,hg.ranges,hg.data,ok,fun u H1 n1 s1 h1=>?_⟩;tm_at "sx";refine oP (by simp) (fun t H2 n2 s2 h2=>?_);tm_at "sx";have s02:=s1.trans s2;refine Ip (hs.mono s02) h2 (h1.mono s2) (ai eo n1).symm hz (fun H3 h3 f3=>?_);exact k H3 h3 ((aF.fr s02).trans f3)
noncomputable def oZ (s:PS) (sd:Int) (g:SG):PS:=uU s sd ⟨s.mine,g.fF,g.acked,0,8,0,[],[]⟩
noncomputable def CU (a:AD):Sp:=fun vs H Q _=>∃(p o q rq dq dx:Addr) (s:PS) (sd:Int) (g:SG),vs=[.ref p,.int sd,.ref q]∧Sd a H p o s∧H q=some (.ins a.aA dx (eR rq dq g))∧s.out.length≤1000000∧∀H',Sd a H' p o (oZ s sd g)→Fr p o H H'→Q .non H'
theorem rW (T:TX K mg a):Ok P w K mg base a vJ 5 (CU a):=by
 refine fo T 32 fun S H hr h=>?_;obtain ⟨p,o,q,rq,dq,dx,s,sd,g,rfl,hs,hg,hz,k⟩:=h;refine ⟨_,(ae (aj (pc (Cb T) hr (af (pv 0) (af (pv 1) (pa1 (x9 T.qd (jr T).r (hr.mono (by decide)) rfl T.sy (T.F 0 _ rfl).b .nil tm (af (pf 0) (af (pf 2) (af (pf 2) (af (pgi T 3) (pa1 (aL d9))))))))))))),?_⟩;show fJ _ _ [some (.ref p),some (.int sd),some (.ref q)] H;tm_at "ck";have tw:=hs.two;obtain ⟨ws,eo⟩:=tw.o;tm_at "sx";refine bD (by simp) (fun l H1 n1 s1 h1=>?_);tm_at "sx";refine uz (fun x dx1 H2 n2 s2 h2=>?_);refine ⟨x,dx1,l,_,_,_,_,[],rfl,h2,fun H3 r3 h3 nr hr f3=>⟨rfl,?_⟩⟩;have s02:=s1.trans s2;have s03:aF H H3:=aF.ny s02 (s1.free n2) f3;have nl:l≠x:=ai h1 n2;tm_at "sx";refine ⟨p,o,x,r3,l,dx1,s,sd,_,rfl,hs.mono s03,⟨h3,⟨[],hr,.nil⟩,(ai (s02 _ _ eo) nr).symm,f3 _ _ (s2 _ _ h1) nl,(ai eo n1).symm⟩,⟨by show (0:Int)≤8∧(8:Int)≤255;decide,Nat.zero_le _,Nat.zero_le _,fun x hx=>by cases hx⟩,hz,fun H4 h4 f4=>?_⟩;exact k H4 h4 ((aF.fr s03).trans f4)
noncomputable def o7 (s:PS):Int:=s.wanted+64*((65536 - (s.aH.length:Int)) / 64)
theorem tD (T:TX K mg a):Ok P w K mg base a qw 1 (spR a fun s=>.int (o7 s)):=by
 refine fo T 33 fun S H hr h=>?_;obtain ⟨p,o,s,rfl,hs,k⟩:=h;refine ⟨_,(ae (aw (ay bt (pf 0) (ay gP ag (ay jG (ay bC (pgi T 25) (az aM rfl T.cW boot_len (pa1 (pf 0)))) ag))))),?_⟩;show pG _ _ [some (.ref p)] H;tm_at "ck";tm_at "sx";exact k
noncomputable def lQ (s:PS):Bool:=decide (1400≤o7 s - s.edge)
theorem kz (T:TX K mg a):Ok P w K mg base a iM 2 (spR a fun s=>.bl (lQ s)):=by
 refine fo T 34 fun S H hr h=>?_;obtain ⟨p,o,s,rfl,hs,k⟩:=h;refine ⟨_,(ae (aw (peR lI (ay bC (pc (tD T) hr (pa1 (pv 0))) (pf 0)) (pgi T 8)))),?_⟩;show pG _ _ [some (.ref p)] H;tm_at "ck";tm_at "sx";exact k
end
section
variable {P:Program} {w:World} {K:PySem.W.Frag} {mg:Str→Option Value} {base:Heap} {a:AD}
noncomputable def numOf (b p:Int):Int:=(b+p) % 4294967296
theorem gv {H:Hp} {Q:VK} {E:XK} {b p:Int} (k:Q (.int (numOf b p)) H):qL ([.int b,.int p]++[]) H Q E:=⟨b,p,rfl,k⟩
noncomputable def jZ (b:Int) (c:Pc):Int×Int:=(numOf b c.1,numOf b (c.1+(c.2.length:Int)))
noncomputable def dk (s:PS):PS:=if lQ s=true then s.nL (o7 s) else s
noncomputable def sX (s:PS):PS:=(dk s).fk 0
noncomputable def sZ (s:PS) (g:SG):SG:=
 { g with flags:=Builtin.bitOr g.flags 4,acked:=numOf s.aK s.wanted,window:=max 0 ((dk s).edge - s.wanted) / 64,ranges:=g.ranges++(s.pieces.take 4).map (jZ s.aK) }
theorem oU (s:PS):(dk s).aB=s.aB∧(dk s).held=s.held∧(dk s).aH=s.aH∧(dk s).pieces=s.pieces∧(dk s).out=s.out∧(dk s).aK=s.aK∧(dk s).wanted=s.wanted:=by
 unfold dk;split <;> exact ⟨rfl,rfl,rfl,rfl,rfl,rfl,rfl⟩
noncomputable def LR (p q r:Addr) (H H':Hp):Prop:=∀b x,H b=some x→b≠p→b≠q→b≠r→H' b=some x
theorem But.other {p r:Addr} {H0 H1 H2:Hp} (f:But p H0 H1) (n:H0 r=none) (g:But r H1 H2):But p H0 H2:=fun b x h hp=>g b x (f b x h hp) (ai h n)
theorem But.EK {p r:Addr} {H0 H1 H2 H3:Hp} (f:But p H0 H1) (s:aF H1 H2) (n:H0 r=none) (g:But r H2 H3):But p H0 H3:=fun b x h hp=>g b x (s b x (f b x h hp)) (ai h n)
noncomputable def qK (a:AD):Sp:=fun vs H Q _=>∃(p o q rq dq dx dy:Addr) (d:Ads) (s:PS) (g:SG) (H0:Hp),vs=[.ref p,.ref q]∧SdX a H0 p o d dy s∧aF H0 H∧H0 q=none∧H0 rq=none∧H q=some (.ins a.aA dx (eR rq dq g))∧H rq=some (.lst [])∧g.ranges=[]∧
 ∀H',H' p=some (.ins a.aE dy (aO d (sX s)))→H' q=some (.ins a.aA dx (eR rq dq (sZ s g)))→bL H' rq (sZ s g).ranges→LR p q rq H H'→Q .non H'
theorem qV (T:TX K mg a):Ok P w K mg base a iK 3 (qK a):=by
 refine fo T 35 fun S H hr h=>?_;obtain ⟨p,o,q,rq,dq,dx,dy,d,s,g,H0,rfl,e0,sm,nq,nr,hq,hrq,gr,k⟩:=h;refine ⟨_,(aa (si (aJ (pc (kz T) hr (pa1 (pv 0)))) (ae (sf 0 (pc (tD T) hr (pa1 (pv 0))))))
  (aa (sf 1 (ay KC (pf 1) (pgi T 2)))
  (aa (sf 1 (pc (jH T) hr (af (pf 0) (pa1 (pf 0)))))
  (aa (sf 1 (ay jG (az (bz rfl) rfl T.ik boot_max (af ag (pa1 (ay bC (pf 0) (pf 0))))) ag))
  (aa (jY PassesOwn.never rfl (gM (cG dm (pf 0) fC (bN (pgi T 7)))) (d8 (i:=2) S.nd rfl (Or.inl rfl)) (aa (sn S 3 (pc (jH T) hr (af (pf 0) (pa1 (aY cz (pv 2) ag (fun _ _=>rfl))))))
  (ae (aj (jl PySem.F.plainAttrs_list PySem.F.slot_list_append PySem.F.type_list_append dM (pf 1) (pa1 (pW (af (pv 3) (pa1 (pc (jH T) hr (af (pf 0) (pa1 (ay bt (aY cz (pv 2) ag (fun _ _=>rfl)) (az aM rfl T.cW boot_len (pa1 (aY cz (pv 2) ag (fun _ _=>rfl)))))))))))))))))
  (ae (sf 0 ag))))))),?_⟩
 show aP _ _ _ [some (.ref p),some (.ref q),none,none] H;tm_at "ck";have hs:Sd a H p o s:=⟨d,dy,e0.mono sm⟩;have hp:=sm _ _ e0.obj;have qp:q≠p:=(ai e0.obj nq).symm;have rp:rq≠p:=(ai e0.obj nr).symm;have rnq:rq≠q:=iw hrq hq (by intro z;cases z);obtain ⟨vs0,ev0,pr0⟩:=id e0.pieces;have pr4:Paired (mU H0 o) (vs0.take 4) (s.pieces.take 4):=by
  have:=ve pr0 none (some ((4:Nat):Int));rw [jL,jL] at this;exact this
 have te:=oU s;tm_at "sn"
 ·rename_i hE
  refine ⟨p,a.aE,dy,_,rfl,hp,T.aC,(T.aI 39 _ rfl),fD d s,?_⟩;rw [Hn];have tE:dk s=s.nL (o7 s):=by unfold dk;rw [if_pos hE]
  rw [←tE];generalize hH1:upd H p (.ins a.aE dy (aO d (dk s)))=H1;have h1:H1 p=some (.ins a.aE dy (aO d (dk s))):=by rw [←hH1];exact aG
  have b1:But p H H1:=by rw [←hH1];exact But.upd _ _ _
  have f1:But p H0 H1:=fun b x h n=>b1 b x (sm b x h) n;have q1:=b1 _ _ hq qp;have r1:=b1 _ _ hrq rp;have hs1:Sd a H1 p o (dk s):=⟨d,dy,e0.to h1 f1 te.1 te.2.1 te.2.2.1 te.2.2.2.1 te.2.2.2.2.1⟩;tm_at "sn";refine zl T q1 (fun H2 q2 g2=>?_);have f2:But p H0 H2:=f1.other nq g2;have p2:=g2 _ _ h1 qp.symm;have r2:H2 rq=some (.lst []):=g2 _ _ r1 rnq;have hs2:Sd a H2 p o (dk s):=⟨d,dy,e0.to p2 f2 te.1 te.2.1 te.2.2.1 te.2.2.2.1 te.2.2.2.2.1⟩;tm_at "sn";refine gv ?_;tm_at "sn";refine zm T q2 (fun H3 q3 g3=>?_);have f3:But p H0 H3:=f2.other nq g3;have p3:=g3 _ _ p2 qp.symm;have r3:H3 rq=some (.lst []):=g3 _ _ r2 rnq;have hs3:Sd a H3 p o (dk s):=⟨d,dy,e0.to p3 f3 te.1 te.2.1 te.2.2.1 te.2.2.2.1 te.2.2.2.2.1⟩;tm_at "sn";refine rN T q3 (fun H4 q4 g4=>?_);have f4:But p H0 H4:=f3.other nq g4;have p4:=g4 _ _ p3 qp.symm;have r4:H4 rq=some (.lst []):=g4 _ _ r3 rnq;tm_at "sn";refine ⟨p,a.aE,dy,_,_,rfl,p4,T.aC,(T.aI 35 _ rfl),xp d _,?_⟩;tm_at "sn";refine Cp (f4 _ _ ev0 (e0.two.lst ev0)) (fun sq H5 n5 s5 h5=>?_);rw [show (4:Int)=((4:Nat):Int) from rfl,jL] at h5;tm_at "sn";have sqr:sq≠rq:=(ai r4 n5).symm;have fin:∀H',But rq H5 H'→But p H0 H':=fun H' f=>f4.EK s5 nr f;refine forL h5 (fun i σ H'=>∃v1 v2,σ=[some (.ref p),some (.ref q),v1,v2]∧But rq H5 H'∧bL H' rq (((s.pieces.take 4).take i).map (jZ s.aK))) ⟨none,none,rfl,fun _ _ h _=>h,⟨[],s5 _ _ r4,.nil⟩⟩ (fun i σ H' _ ⟨_,_,_,f,_⟩=>f _ _ h5 sqr) ?_ ?_
  ·rintro i z σ H' hz ⟨v1,v2,rfl,f,hr'⟩
   obtain ⟨c,hci,t,cl,rfl,ht,hcl,cno⟩:=dh pr4 hz;have p':=f _ _ (s5 _ _ p4) rp.symm;have q':=f _ _ (s5 _ _ q4) rnq.symm;have fp:=fin H' f;have ht':=fp _ _ ht (e0.two.tup ht).1;have hcl':ax H' cl c.2:=fp _ _ hcl (e0.two.lst hcl);have hs':Sd a H' p o (dk s):=⟨d,dy,e0.to p' fp te.1 te.2.1 te.2.2.1 te.2.2.2.1 te.2.2.2.2.1⟩;obtain ⟨ws,ew,pw⟩:=hr';have wl:ws.length≤4:=by
    rw [Paired.len pw,List.length_map,List.length_take,List.length_take];tm_at "ob"
   tm_at "sn";refine eT ht' ?_;tm_at "sn";refine gv ?_;tm_at "sn";refine gG ew ?_;tm_at "sn";refine eT ht' ?_;tm_at "sn";refine ig ht' ?_;tm_at "sn";refine gv ?_;tm_at "sn";refine oP (by simp) (fun t2 G1 m1 z1 e1=>?_);tm_at "sn";refine jA (z1 _ _ ew) (by rw [sizeLine_eq];tm_at "ob") (fun G2 f2' e2=>?_);refine ⟨_,_,rfl,f.trans ((aF.but z1).trans f2'),⟨_,e2,?_⟩⟩;have er:((s.pieces.take 4).take (i+1)).map (jZ s.aK)=((s.pieces.take 4).take i).map (jZ s.aK)++[jZ s.aK c]:=by
    rw [List.take_succ,hci,List.map_append];rfl
   rw [er];have e1':=f2' _ _ e1 (iw e1 (z1 _ _ ew) (by intro z;cases z));rw [te.2.2.2.2.2.1] at e1';exact Paired.snoc (Paired.imp (fun v r ⟨u,e3,e4⟩=>⟨u,e3,f2' _ _ (z1 _ _ e4) (iw (z1 _ _ e4) (z1 _ _ ew) (by intro z;cases z))⟩) pw) ⟨t2,rfl,e1'⟩
  ·rintro σ H' ⟨v1,v2,rfl,f,hr'⟩
   have el:(vs0.take 4).length=(s.pieces.take 4).length:=Paired.len pr4;rw [el,List.take_length] at hr';have p':=f _ _ (s5 _ _ p4) rp.symm;have q':=f _ _ (s5 _ _ q4) rnq.symm;tm_at "sn";refine ⟨p,a.aE,dy,_,rfl,p',T.aC,(T.aI 40 _ rfl),fD d _,?_⟩;rw [B5];rw [te.2.2.2.2.2.1,te.2.2.2.2.2.2] at q';refine k _ aG ((aD qp).trans q') ?_ ?_
   ·obtain ⟨ws,ew,pw⟩:=hr'
    unfold sZ;rw [gr];exact ⟨ws,(aD rp).trans ew,Paired.imp (fun v r ⟨u,e3,e4⟩=>⟨u,e3,(aD (iw e4 p' (by intro z;cases z))).trans e4⟩) pw⟩
   ·intro b x hb n1 n2 n3
    rw [aD n1];exact f _ _ (s5 _ _ (g4 _ _ (g3 _ _ (g2 _ _ (b1 _ _ hb n1) n2) n2) n2)) n3
 ·rename_i hE
  have tE:dk s=s:=by unfold dk;rw [if_neg hE]
  have h1:H p=some (.ins a.aE dy (aO d (dk s))):=by rw [tE];exact hp
  have b1:But p H H:=fun _ _ h _=>h;have f1:But p H0 H:=fun b x h n=>sm b x h;have q1:=hq;have r1:=hrq;clear hs;have hs1:Sd a H p o (dk s):=⟨d,dy,e0.to h1 f1 te.1 te.2.1 te.2.2.1 te.2.2.2.1 te.2.2.2.2.1⟩;tm_at "sn";refine zl T q1 (fun H2 q2 g2=>?_);have f2:But p H0 H2:=f1.other nq g2;have p2:=g2 _ _ h1 qp.symm;have r2:H2 rq=some (.lst []):=g2 _ _ r1 rnq;have hs2:Sd a H2 p o (dk s):=⟨d,dy,e0.to p2 f2 te.1 te.2.1 te.2.2.1 te.2.2.2.1 te.2.2.2.2.1⟩;tm_at "sn";refine gv ?_;tm_at "sn";refine zm T q2 (fun H3 q3 g3=>?_);have f3:But p H0 H3:=f2.other nq g3;have p3:=g3 _ _ p2 qp.symm;have r3:H3 rq=some (.lst []):=g3 _ _ r2 rnq;have hs3:Sd a H3 p o (dk s):=⟨d,dy,e0.to p3 f3 te.1 te.2.1 te.2.2.1 te.2.2.2.1 te.2.2.2.2.1⟩;tm_at "sn";refine rN T q3 (fun H4 q4 g4=>?_);have f4:But p H0 H4:=f3.other nq g4;have p4:=g4 _ _ p3 qp.symm;have r4:H4 rq=some (.lst []):=g4 _ _ r3 rnq;tm_at "sn";refine ⟨p,a.aE,dy,_,_,rfl,p4,T.aC,(T.aI 35 _ rfl),xp d _,?_⟩;tm_at "sn";refine Cp (f4 _ _ ev0 (e0.two.lst ev0)) (fun sq H5 n5 s5 h5=>?_);rw [show (4:Int)=((4:Nat):Int) from rfl,jL] at h5;tm_at "sn";have sqr:sq≠rq:=(ai r4 n5).symm;have fin:∀H',But rq H5 H'→But p H0 H':=fun H' f=>f4.EK s5 nr f;refine forL h5 (fun i σ H'=>∃v1 v2,σ=[some (.ref p),some (.ref q),v1,v2]∧But rq H5 H'∧bL H' rq (((s.pieces.take 4).take i).map (jZ s.aK))) ⟨none,none,rfl,fun _ _ h _=>h,⟨[],s5 _ _ r4,.nil⟩⟩ (fun i σ H' _ ⟨_,_,_,f,_⟩=>f _ _ h5 sqr) ?_ ?_
  ·rintro i z σ H' hz ⟨v1,v2,rfl,f,hr'⟩
   obtain ⟨c,hci,t,cl,rfl,ht,hcl,cno⟩:=dh pr4 hz;have p':=f _ _ (s5 _ _ p4) rp.symm;have q':=f _ _ (s5 _ _ q4) rnq.symm;have fp:=fin H' f;have ht':=fp _ _ ht (e0.two.tup ht).1;have hcl':ax H' cl c.2:=fp _ _ hcl (e0.two.lst hcl);have hs':Sd a H' p o (dk s):=⟨d,dy,e0.to p' fp te.1 te.2.1 te.2.2.1 te.2.2.2.1 te.2.2.2.2.1⟩;obtain ⟨ws,ew,pw⟩:=hr';have wl:ws.length≤4:=by
    rw [Paired.len pw,List.length_map,List.length_take,List.length_take];tm_at "ob"
   tm_at "sn";refine eT ht' ?_;tm_at "sn";refine gv ?_;tm_at "sn";refine gG ew ?_;tm_at "sn";refine eT ht' ?_;tm_at "sn";refine ig ht' ?_;tm_at "sn";refine gv ?_;tm_at "sn";refine oP (by simp) (fun t2 G1 m1 z1 e1=>?_);tm_at "sn";refine jA (z1 _ _ ew) (by rw [sizeLine_eq];tm_at "ob") (fun G2 f2' e2=>?_);refine ⟨_,_,rfl,f.trans ((aF.but z1).trans f2'),⟨_,e2,?_⟩⟩;have er:((s.pieces.take 4).take (i+1)).map (jZ s.aK)=((s.pieces.take 4).take i).map (jZ s.aK)++[jZ s.aK c]:=by
    rw [List.take_succ,hci,List.map_append];rfl
   rw [er];have e1':=f2' _ _ e1 (iw e1 (z1 _ _ ew) (by intro z;cases z));rw [te.2.2.2.2.2.1] at e1';exact Paired.snoc (Paired.imp (fun v r ⟨u,e3,e4⟩=>⟨u,e3,f2' _ _ (z1 _ _ e4) (iw (z1 _ _ e4) (z1 _ _ ew) (by intro z;cases z))⟩) pw) ⟨t2,rfl,e1'⟩
  ·rintro σ H' ⟨v1,v2,rfl,f,hr'⟩
   have el:(vs0.take 4).length=(s.pieces.take 4).length:=Paired.len pr4;rw [el,List.take_length] at hr';have p':=f _ _ (s5 _ _ p4) rp.symm;have q':=f _ _ (s5 _ _ q4) rnq.symm;tm_at "sn";refine ⟨p,a.aE,dy,_,rfl,p',T.aC,(T.aI 40 _ rfl),fD d _,?_⟩;rw [B5];rw [te.2.2.2.2.2.1,te.2.2.2.2.2.2] at q';refine k _ aG ((aD qp).trans q') ?_ ?_
   ·obtain ⟨ws,ew,pw⟩:=hr'
    unfold sZ;rw [gr];exact ⟨ws,(aD rp).trans ew,Paired.imp (fun v r ⟨u,e3,e4⟩=>⟨u,e3,(aD (iw e4 p' (by intro z;cases z))).trans e4⟩) pw⟩
   ·intro b x hb n1 n2 n3
    rw [aD n1];exact f _ _ (s5 _ _ (g4 _ _ (g3 _ _ (g2 _ _ (b1 _ _ hb n1) n2) n2) n2)) n3
end
section
variable {P:Program} {w:World} {K:PySem.W.Frag} {mg:Str→Option Value} {base:Heap} {a:AD}
noncomputable def wF (s:PS) (pl fl:Int) (data:List Int):SG:=⟨s.mine,s.theirs,numOf s.base pl,0,fl,0,[],data⟩
noncomputable def nO (s:PS) (pl fl:Int) (data:List Int):PS:=
 if gX s=true then uU (sX s) (sX s).them (sZ s (wF s pl fl data)) else uU s s.them ((wF s pl fl data).gm 1024)
structure Cv (s:PS) (fl:Int) (data:List Int):Prop where
 fl:0≤fl∧fl≤15
 dl:data.length≤1400
 db:∀x∈data,0≤x∧x≤255
 ol:s.out.length≤1000000
theorem or4 {f:Int} (h:0≤f∧f≤15):0≤Builtin.bitOr f 4∧Builtin.bitOr f 4≤255:=by
 obtain ⟨n,rfl⟩:∃n:Nat,f=(n:Int):=⟨f.toNat,by tm_at "ob"⟩;have:n<16:=by tm_at "ob"
 match n,this with
 | 0,_=>decide
 | 1,_=>decide
 | 2,_=>decide
 | 3,_=>decide
 | 4,_=>decide
 | 5,_=>decide
 | 6,_=>decide
 | 7,_=>decide
 | 8,_=>decide
 | 9,_=>decide
 | 10,_=>decide
 | 11,_=>decide
 | 12,_=>decide
 | 13,_=>decide
 | 14,_=>decide
 | 15,_=>decide
 | n+16,h=>tm_at "ob"
theorem Eb {s:PS} {pl fl:Int} {data:List Int} (h:Cv s fl data):AE (sZ s (wF s pl fl data)):=by
 refine ⟨or4 h.fl,?_,h.dl,h.db⟩;show ([]++(s.pieces.take 4).map (jZ s.aK)).length≤4;rw [List.nil_append,List.length_map,List.length_take];omega
noncomputable def Ji (a:AD):Sp:=fun vs H Q _=>∃(p o dq:Addr) (s:PS) (pl fl:Int) (data:List Int),vs=[.ref p,.int pl,.int fl,.ref dq]∧Sd a H p o s∧ax H dq data∧dq≠o∧Cv s fl data∧∀H',Sd a H' p o (nO s pl fl data)→Fr p o H H'→Q .non H'
theorem vk (T:TX K mg a):Ok P w K mg base a FI 5 (Ji a):=by
 refine fo T 36 fun S H hr h=>?_;obtain ⟨p,o,dq,s,pl,fl,data,rfl,hs,hd,dno,ok,k⟩:=h;refine ⟨_,(aa (sn S 4 (x9 T.qd (jr T).r (hr.mono (by decide)) rfl T.sy (T.F 0 _ rfl).b .nil tm (af (pf 0) (af (pf 0) (af (pc (jH T) hr (af (pf 0) (pa1 (pv 1)))) (af (pv 2) (pa1 (pv 3))))))))
  (aa (eU (aJ (pm0 (pv 0) (eY T) hr)) (ae (aj (pc (qV T) hr (af (pv 0) (pa1 (pv 4)))))) (ae (sf 4 (pgi T 26))))
  (ae (aj (pc (Cb T) hr (af (pv 0) (af (pf 0) (pa1 (pv 4))))))))),?_⟩
 show aP _ _ _ [some (.ref p),some (.int pl),some (.int fl),some (.ref dq),none] H;tm_at "ck";have tw:=hs.two;obtain ⟨ws,eo⟩:=tw.o;tm_at "sn";refine gv ?_;tm_at "sn";refine uz (fun q dx H1 n1 s1 h1=>?_);refine ⟨q,dx,dq,_,_,_,_,data,rfl,h1,fun H2 rq h2 nr hr f2=>⟨rfl,?_⟩⟩;have s02:aF H H2:=aF.ny s1 n1 f2;have nr0:=s1.free nr;have hs2:=hs.mono s02;have rno:rq≠o:=(ai (s1 _ _ eo) nr).symm;have h2:H2 q=some (.ins a.aA dx (eR rq dq (wF s pl fl data))):=h2;tm_at "sn"
 ·rename_i hL
  obtain ⟨d,dy,e⟩:=hs;refine ⟨p,o,q,rq,dq,dx,dy,d,s,wF s pl fl data,H,rfl,e,s02,n1,nr0,h2,hr,rfl,fun H3 p3 q3 r3 b3=>?_⟩;have f3:But p H H3:=fun b x hb n=>b3 b x (s02 b x hb) n (ai hb n1) (ai hb nr0);have te:=oU s;have hs3:Sd a H3 p o (sX s):=⟨d,dy,e.to p3 f3 te.1 te.2.1 te.2.2.1 te.2.2.2.1 te.2.2.2.2.1⟩;clear hs2;tm_at "sn";have ol:(sX s).out.length≤1000000:=by
   have:(sX s).out=s.out:=te.2.2.2.2.1;rw [this];exact ok.ol
  refine ⟨p,o,q,rq,dq,dx,sX s,_,_,rfl,hs3,⟨q3,r3,rno,f3 _ _ hd (tw.lst hd),dno⟩,Eb ok,ol,fun H4 h4 f4=>?_⟩;refine k H4 ?_ ((But.fr f3).trans f4);unfold nO;rw [if_pos hL];exact h4
 ·rename_i hL
  refine rN T h2 (fun H3 h3 g3=>?_);have s03:aF H H3:=aF.ny s02 n1 g3;have hs3:=hs.mono s03;clear hs2;tm_at "sn";refine ⟨p,o,q,rq,dq,dx,s,_,_,rfl,hs3,⟨h3,⟨[],g3 _ _ hr (iw hr h2 (by intro z;cases z)),.nil⟩,rno,hd.mono s03,dno⟩,⟨⟨ok.fl.1,by have:=ok.fl.2;show fl≤255;omega⟩,Nat.zero_le _,ok.dl,ok.db⟩,ok.ol,fun H4 h4 f4=>?_⟩;refine k H4 ?_ ((aF.fr s03).trans f4);unfold nO;rw [if_neg hL];exact h4
theorem Cv.none {s:PS} {fl:Int} (h:0≤fl∧fl≤15) (hz:s.out.length≤1000000):Cv s fl []:=⟨h,Nat.zero_le _,(fun x hx=>by cases hx),hz⟩
noncomputable def kq (a:AD) (f:PS→PS):Sp:=fun vs H Q _=>∃(p o:Addr) (s:PS),vs=[.ref p]∧Sd a H p o s∧s.out.length≤1000000∧∀H',Sd a H' p o (f s)→Fr p o H H'→Q .non H'
noncomputable def bP (s:PS):PS:=nO s s.top 0 []
theorem gs (T:TX K mg a):Ok P w K mg base a sE 6 (kq a bP):=by
 refine fo T 37 fun S H hr h=>?_;obtain ⟨p,o,s,rfl,hs,hz,k⟩:=h;refine ⟨_,(ae (aj (pc (vk T) hr (af (pv 0) (af (pf 0) (af ag (pa1 (aL d9)))))))),?_⟩;show fJ _ _ [some (.ref p)] H;tm_at "ck";obtain ⟨ws,eo⟩:=hs.two.o;tm_at "sx";refine bD (by simp) (fun l H1 n1 s1 h1=>?_);tm_at "sx";exact ⟨p,o,l,s,_,_,[],rfl,hs.mono s1,h1,(ai eo n1).symm,.none (by decide) hz,fun H2 h2 f2=>k H2 h2 ((aF.fr s1).trans f2)⟩
noncomputable def jW (s:PS):PS:=nO s 0 1 []
theorem mq (T:TX K mg a):Ok P w K mg base a oA 6 (kq a jW):=by
 refine fo T 38 fun S H hr h=>?_;obtain ⟨p,o,s,rfl,hs,hz,k⟩:=h;refine ⟨_,(ae (aj (pc (vk T) hr (af (pv 0) (af ag (af (pgi T 0) (pa1 (aL d9)))))))),?_⟩;show fJ _ _ [some (.ref p)] H;tm_at "ck";obtain ⟨ws,eo⟩:=hs.two.o;tm_at "sx";refine bD (by simp) (fun l H1 n1 s1 h1=>?_);tm_at "sx";exact ⟨p,o,l,s,_,_,[],rfl,hs.mono s1,h1,(ai eo n1).symm,.none (by decide) hz,fun H2 h2 f2=>k H2 h2 ((aF.fr s1).trans f2)⟩
noncomputable def sR (s:PS):PS:=iy (dH (jW ((s.aW 1).dt 1))) 1
theorem zK (T:TX K mg a):Ok P w K mg base a yE 7 (kq a sR):=by
 refine fo T 39 fun S H hr h=>?_;obtain ⟨p,o,s,rfl,hs,hz,k⟩:=h;refine ⟨_,(aa (sf 0 ag)
  (aa (sf 0 ag)
  (aa (aj (pc (mq T) hr (pa1 (pv 0))))
  (aa (aj (pm0 (pv 0) (eM T) hr))
  (ae (aj (pm (pv 0) (j2 T) hr (pa1 ag)))))))),?_⟩
 show aP _ _ _ [some (.ref p)] H;tm_at "ck";tm_at "sx";refine ⟨p,o,(s.aW 1).dt 1,rfl,by assumption,hz,fun H2 h2 f2=>?_⟩;tm_at "sx";exact k _ (by assumption) (by tm_at "fr")
noncomputable def cX (s:PS) (pl n:Int):List Int:=eS s.aB (some (pl - dj s)) (some (pl - dj s+n))
noncomputable def wz (a:AD):Sp:=fun vs H Q _=>∃(p o:Addr) (s:PS) (pl n:Int),vs=[.ref p,.int pl,.int n]∧Sd a H p o s∧∀q H',H q=none→aF H H'→ax H' q (cX s pl n)→Q (.ref q) H'
theorem wM (T:TX K mg a):Ok P w K mg base a mM 2 (wz a):=by
 refine fo T 40 fun S H hr h=>?_;obtain ⟨p,o,s,pl,n,rfl,hs,k⟩:=h;refine ⟨_,(aa (sn S 3 (ay bC (pv 1) (pm0 (pv 0) (iu T) hr)))
  (ae (aw (cG dm (pf 0) (bN (pv 3)) (bN (ay bt (pv 3) (pv 2))))))),?_⟩
 show aP _ _ _ [some (.ref p),some (.int pl),some (.int n),none] H;tm_at "ck";tm_at "sx";refine ni (by assumption) (fun q H1 n1 s1 h1=>?_);exact k q H1 n1 s1 h1
end
section
variable {pr:Program} {wd:World} {A:Around} {E:Value→Shared→Prop} {s:Shared}
theorem DF (u1 u2 u3 u4:Value):argsOk "min" ⟨[u1,u2,u3,u4],[]⟩:=by
 unfold argsOk;kernel_rfl
theorem zT {u1 u2 u3 u4:Value} {Q:Value→Shared→Prop}
  (h:wpAny (model pr wd) A.in1 (pyIter (.ref s.heap.objs.size)) (fun itv z=>∃I fp wr n F St lt,itv = .ref I∧Walks pr wd A.in1 I fp wr n F St∧St 0 z.heap∧(∀b∈fp,b<z.heap.objs.size)∧0<n∧CmpOf pr wd A.in1 .Lt F lt∧
   ∀v g tk,F (argBest lt (n - 1)) v→(∀b o,b ∉ wr→z.heap.get? b=some o→g.get? b=some o)→Q v { z with heap:=g,toks:=tk }) E
   { s with heap:=s.heap.push { cls:=.type "tuple",data:=.seq #[u1,u2,u3,u4] } }) :
  wpAny (model pr wd) A (call (.builtin "min") [u1,u2,u3,u4]) Q E s:=by
 refine call_function_tree F.kind_min F.plain_min F.entry_min (DF u1 u2 u3 u4) ?_;show wpAny _ A.in1
  (Builtin.Builtins.bindParams "min" ["key", "default"] 0 ⟨[],[]⟩ >>= _) _ _ s
 have none2:Builtin.Builtins.bindParams "min" ["key", "default"] 0 ⟨[],[]⟩
   = pure [none,none]:=rfl
 refine wpAny_bind (wpAny_of_eq none2 ?_);show wpAny _ A.in1 (newTuple [u1,u2,u3,u4] >>= _) _ _ s;refine wpAny_bind (wpAny_newObj_type
  (wpAny_bind (wpAny_mono h (fun itv z hz=>?_) fun _ _ q=>q)))
 obtain ⟨I,fp,wr,n,G,St,lt,rfl,W,st0,low,pos,cmp,fin⟩:=hz;refine wpAny_bind (wpAny_newObj_type
  ?_)
 have away:z.heap.objs.size ∉ fp:=
  fun hm=>Nat.lt_irrefl _ (low _ hm)
 have nm:(toString "min" ++ toString ".loop" : String)
   = "min.loop" := by decide
 rw [nm];refine wpAny_pure ⟨plainId_quiet F.plain_min_loop _,?_⟩;refine codeAny_min_loop_first W lt cmp z.heap.objs.size away pos
  (W.frame _ _ _ st0 fun b _ o q=>Heap.get?_push_of_some _ q)
  (Heap.get?_push_size _ rfl) fun v g tk hP hk=>?_
 exact fin v g tk hP fun b o nb q =>
  hk b o nb (Nat.ne_of_lt (Heap.lt_size q)) (Heap.get?_push_of_some _ q)
theorem DE {i j k l:Int} {t1 t2 t3 t4:Tok} {Q:Value→Shared→Prop} (hh:A.handled=none)
  (h:∀g tk t,(∀b o,s.heap.get? b=some o→g.get? b=some o)→Q (.int (min (min (min i j) k) l) t) { s with heap:=g,toks:=tk }) :
  wpAny (model pr wd) A (call (.builtin "min") [.int i t1,.int j t2,.int k t3,.int l t4]) Q E s:=by
 have tp:(s.heap.push { cls:=.type "tuple",data:=.seq #[.int i t1,.int j t2,.int k t3,.int l t4] }).IsTuple s.heap.objs.size (intItems #[(i,t1),(j,t2),(k,t3),(l,t4)]):=
  ⟨_,Heap.get?_push_size _ rfl,rfl,0,by simp [intItems]⟩
 refine zT (wpAny_pyIter_tuple tp ?_);have sz:(s.heap.push { cls:=.type "tuple",data:=.seq #[.int i t1,.int j t2,.int k t3,.int l t4] }).objs.size=s.heap.objs.size+1:=
  Heap.size_push ..
 refine ⟨_,[_,s.heap.objs.size],[_],_,_,_,_,rfl,
  Walks.tuple (A:=A.in1) hh _ s.heap.objs.size (by rw [sz];exact Nat.ne_of_lt (Nat.lt_succ_self _)) (intItems #[(i,t1),(j,t2),(k,t3),(l,t4)]),
  ⟨⟨_,Heap.get?_push_size _ rfl,rfl,rfl⟩,tp.push _⟩,fun b hb=>?_,by simp [intItems],
  CmpOf.ints_lt (numAt #[(i,t1),(j,t2),(k,t3),(l,t4)]) (fun _ _=>intItems_at),fun v g tk hP hk=>?_⟩
 ·show b<((s.heap.push _).push _).objs.size
  rw [Heap.size_push,sz];simp only [List.mem_cons,List.not_mem_nil,or_false] at hb;rcases hb with rfl | rfl
  ·rw [sz]
   exact Nat.lt_succ_self _
  ·exact Nat.lt_succ_of_lt
    (Nat.lt_succ_self _)
 ·have old:∀b o,s.heap.get? b=some o→g.get? b=some o:=fun b o q=>by
   refine hk b o (fun hm=>?_) (Heap.get?_push_of_some _ (Heap.get?_push_of_some _ q));have hb:=Heap.lt_size q;simp only [List.mem_cons,List.not_mem_nil,or_false] at hm;rw [hm,sz] at hb;exact absurd (Nat.lt_of_succ_lt hb) (Nat.lt_irrefl _)
  have hP2:(intItems #[(i,t1),(j,t2),(k,t3),(l,t4)])[argBest (fun x y=>decide (numAt #[(i,t1),(j,t2),(k,t3),(l,t4)] x<numAt #[(i,t1),(j,t2),(k,t3),(l,t4)] y)) 3]? = some v:=by
   have e3:(intItems #[(i,t1),(j,t2),(k,t3),(l,t4)]).size - 1=3:=by simp [intItems]
   rw [e3] at hP;exact hP
  have val:∃t,v=Value.int (min (min (min i j) k) l) t:=by
   by_cases h1:j<i
   ·by_cases h2:k<j
    ·by_cases h3:l<k
     ·simp [argBest,numAt,intItems,h1,h2,h3] at hP2
      exact ⟨_,by rw [←hP2];congr 1;tm_at "ob"⟩
     ·simp [argBest,numAt,intItems,h1,h2,h3] at hP2
      exact ⟨_,by rw [←hP2];congr 1;tm_at "ob"⟩
    ·by_cases h3:l<j
     ·simp [argBest,numAt,intItems,h1,h2,h3] at hP2
      exact ⟨_,by rw [←hP2];congr 1;tm_at "ob"⟩
     ·simp [argBest,numAt,intItems,h1,h2,h3] at hP2
      exact ⟨_,by rw [←hP2];congr 1;tm_at "ob"⟩
   ·by_cases h2:k<i
    ·by_cases h3:l<k
     ·simp [argBest,numAt,intItems,h1,h2,h3] at hP2
      exact ⟨_,by rw [←hP2];congr 1;tm_at "ob"⟩
     ·simp [argBest,numAt,intItems,h1,h2,h3] at hP2
      exact ⟨_,by rw [←hP2];congr 1;tm_at "ob"⟩
    ·by_cases h3:l<i
     ·simp [argBest,numAt,intItems,h1,h2,h3] at hP2
      exact ⟨_,by rw [←hP2];congr 1;tm_at "ob"⟩
     ·simp [argBest,numAt,intItems,h1,h2,h3] at hP2
      exact ⟨_,by rw [←hP2];congr 1;tm_at "ob"⟩
  obtain ⟨t,rfl⟩:=val;exact h g tk t old
end
noncomputable def II:List V→Hp→VK→Prop:=fun xs H Q=>∃i j k l,xs=[.int i,.int j,.int k,.int l]∧Q (.int (min (min (min i j) k) l)) H
theorem Bv {X:Cx} (hc:X.calm=true):kJ X (.builtin "min") II:=by
 intro pins s σ H xs us Q I r h;obtain ⟨i,j,k,l,rfl,q⟩:=h
 cases r with
 | cons r1 r =>
  cases r with
  | cons r2 r =>
   cases r with
   | cons r3 r =>
    cases r with
    | cons r4 r =>
     cases r
     obtain ⟨t1,rfl⟩:=r1;obtain ⟨t2,rfl⟩:=r2;obtain ⟨t3,rfl⟩:=r3;obtain ⟨t4,rfl⟩:=r4;exact DE (I.ok.hd hc) fun g tk t old=>⟨.int _,H,I.kept old,⟨_,rfl⟩,q⟩
theorem BA {H:Hp} {Q:VK} {i j k l:Int} (h:Q (.int (min (min (min i j) k) l)) H):II [V.int i,V.int j,V.int k,V.int l] H Q:=⟨i,j,k,l,rfl,h⟩
section
variable {H:Hp} {D:Ends} {r:L2.St} {a0 a1 a2 a3 a4 a5 a6:Option V}
theorem Ka {te:TE} {ti:TIp} {x:V} (k:te (a0::a1::a2::a3::a4::some x::r) H fun y H1=>ti x y H1 fun z H2=>D.nx (a0::a1::a2::a3::a4::some z::r) H2):nk 5 te ti D (a0::a1::a2::a3::a4::some x::r) H:=⟨x,rfl,k⟩
instance {te:TE} {ti:TIp} {x:V}:Stp (nk 5 te ti D (a0::a1::a2::a3::a4::some x::r) H) (te (a0::a1::a2::a3::a4::some x::r) H fun y H1=>ti x y H1 fun z H2=>D.nx (a0::a1::a2::a3::a4::some z::r) H2):=⟨Ka⟩
theorem J9 {te:TE} {ti:TIp} {x:V} (k:te (a0::a1::a2::a3::a4::a5::some x::r) H fun y H1=>ti x y H1 fun z H2=>D.nx (a0::a1::a2::a3::a4::a5::some z::r) H2):nk 6 te ti D (a0::a1::a2::a3::a4::a5::some x::r) H:=⟨x,rfl,k⟩
instance {te:TE} {ti:TIp} {x:V}:Stp (nk 6 te ti D (a0::a1::a2::a3::a4::a5::some x::r) H) (te (a0::a1::a2::a3::a4::a5::some x::r) H fun y H1=>ti x y H1 fun z H2=>D.nx (a0::a1::a2::a3::a4::a5::some z::r) H2):=⟨J9⟩
theorem J8 {te:TE} {ti:TIp} {x:V} (k:te (a0::a1::a2::a3::a4::a5::a6::some x::r) H fun y H1=>ti x y H1 fun z H2=>D.nx (a0::a1::a2::a3::a4::a5::a6::some z::r) H2):nk 7 te ti D (a0::a1::a2::a3::a4::a5::a6::some x::r) H:=⟨x,rfl,k⟩
instance {te:TE} {ti:TIp} {x:V}:Stp (nk 7 te ti D (a0::a1::a2::a3::a4::a5::a6::some x::r) H) (te (a0::a1::a2::a3::a4::a5::a6::some x::r) H fun y H1=>ti x y H1 fun z H2=>D.nx (a0::a1::a2::a3::a4::a5::a6::some z::r) H2):=⟨J8⟩
end
local macro_rules | `(tactic| tm_at "cm")=>`(tactic| first | refine xD (by decide) ?_ | refine xE (by decide) (by decide) ?_ | refine vU (by decide) (by decide) ?_ | refine vT (by decide) (by decide) ?_ | refine sT (fun _=>?_) (fun _=>?_) | refine ki (fun _=>?_) (fun _=>?_) | refine qA ‹_› ?_ | refine sS ‹_› ?_ | refine qz ‹_› ?_ | refine tM ‹_› ?_ | refine BA ?_ | refine Ax ‹_› (fun _ _ _=>?_) | refine vO ‹_› (fun _ _ _=>?_) | refine vQ ‹_› (fun _ _ _=>?_) | refine rC ‹_› (fun _ _ _=>?_) | refine vP ‹_› (fun _ _ _=>?_) | refine Aw ‹_› ?_ | refine vN ‹_› ?_ | refine rgZ ‹_› ‹_› ?_ | refine sj ‹_› ?_ | refine rdZ ‹_› ‹_› ?_ | (refine jX ‹_› ‹_› (fun _ _ _=>?_)) | (refine qQ ‹_› ‹_› (fun _ _ _=>?_)) | (refine lG ‹_› ‹_› (fun _ _ _=>?_)) | (refine iD ‹_› ‹_› (fun _ _ _=>?_)) | refine meZ ‹_› ?_)
section
variable {P:Program} {w:World} {K:PySem.W.Frag} {mg:Str→Option Value} {base:Heap} {a:AD}
noncomputable def b1 (b:Bool):Int:=if b=true then 1 else 0
noncomputable def jo (s:PS) (old pl bh:Int):PS:=if s.bp=0 then (if old≤pl then iy s bh else s) else s
noncomputable def rn (s:PS):PS:=if eC s.due=V.non then dH s else s
noncomputable def KZ (we:Bool):Int:=if we=true then 2 else 0
noncomputable def mQ (pl n:Int) (we:Bool):Int:=if we=true then pl+n+1 else pl+n
noncomputable def dX (s:PS) (pl n:Int) (we:Bool):PS:=
 rn (jo ((nO s pl (KZ we) (cX s pl n)).dt (max s.top (mQ pl n we))) s.top pl (mQ pl n we))
structure jc (s:PS):Prop where
 ub:∀x∈s.aB,0≤x∧x≤255
 ol:s.out.length≤1000000
theorem FL {α:Type} {xs:List α} {lo hi:Option Int} {x:α} (h:x∈eS xs lo hi):x∈xs:=List.mem_of_mem_drop (List.mem_of_mem_take h)
noncomputable def wx (a:AD):Sp:=fun vs H Q _=>∃(p o:Addr) (s:PS) (pl n:Int) (we:Bool),vs=[.ref p,.int pl,.int n,.bl we]∧Sd a H p o s∧jc s∧(cX s pl n).length≤1400∧∀H',Sd a H' p o (dX s pl n we)→Fr p o H H'→Q (.int (mQ pl n we)) H'
theorem pJ (T:TX K mg a):Ok P w K mg base a mG 6 (wx a):=by
 refine fo T 41 fun S H hr h=>?_;obtain ⟨p,o,s,pl,n,we,rfl,hs,ok,hl,k⟩:=h;refine ⟨_,(aa (sn S 4 (pf 0))
  (aa (sn S 5 (ay bt (pv 1) (pv 2)))
  (aa (si (aJ (pv 3)) (ae (sg S 5 ag Bj)))
  (aa (aj (pc (vk T) hr (af (pv 0) (af (pv 1) (af (zA (aJ (pv 3)) (pgi T 1) ag) (pa1 (pc (wM T) hr (af (pv 0) (af (pv 1) (pa1 (pv 2)))))))))))
  (aa (sf 0 (az (bz rfl) rfl T.ik boot_max (af (pv 4) (pa1 (pv 5)))))
  (aa (si (PW.pt (bQ (ptR bb (pf 0) ag) (bS (ptR lI (pv 1) (pv 4))))) (ae (aj (pm (pv 0) (j2 T) hr (pa1 (pv 5))))))
  (aa (si (kM (nT (pf 0))) (ae (aj (pm0 (pv 0) (eM T) hr))))
  (ae (aw (pv 5)))))))))),?_⟩
 show aP _ _ _ [some (.ref p),some (.int pl),some (.int n),some (.bl we),none,none] H;tm_at "ck";obtain ⟨ws,eo⟩:=hs.two.o;have db:∀x∈cX s pl n,0≤x∧x≤255:=fun x hx=>ok.ub x (FL hx)
 cases we with
 | true =>
  tm_at "sx";refine ⟨p,o,s,pl,n,rfl,hs,fun q H1 n1 s1 h1=>?_⟩;tm_at "sx";refine ⟨p,o,q,s,pl,2,cX s pl n,rfl,hs.mono s1,h1,(ai eo n1).symm,⟨by decide,hl,db,ok.ol⟩,fun H2 h2 f2=>?_⟩;tm_at "sx"
  all_goals (refine k _ ?_ (by tm_at "fr"))
  all_goals (show Sd a _ p o (rn (jo ((nO s pl 2 (cX s pl n)).dt (max s.top (pl+n+1))) s.top pl (pl+n+1))))
  all_goals (unfold rn jo;simp only [*,if_true,if_false])
 | false =>
  tm_at "sx";refine ⟨p,o,s,pl,n,rfl,hs,fun q H1 n1 s1 h1=>?_⟩;tm_at "sx";refine ⟨p,o,q,s,pl,0,cX s pl n,rfl,hs.mono s1,h1,(ai eo n1).symm,⟨by decide,hl,db,ok.ol⟩,fun H2 h2 f2=>?_⟩;tm_at "sx"
  all_goals (refine k _ ?_ (by tm_at "fr"))
  all_goals (show Sd a _ p o (rn (jo ((nO s pl 0 (cX s pl n)).dt (max s.top (pl+n))) s.top pl (pl+n))))
  all_goals (unfold rn jo;simp only [*,if_true,if_false])
noncomputable def cn (s:PS) (n:Int):PS:=
 let we:=s.closing && decide (s.au+n=s.last)
 (dX s s.au n we).aW (mQ s.au n we)
noncomputable def pO (a:AD):Sp:=fun vs H Q _=>∃(p o:Addr) (s:PS) (n:Int),vs=[.ref p,.int n]∧Sd a H p o s∧jc s∧(cX s s.au n).length≤1400∧∀H',Sd a H' p o (cn s n)→Fr p o H H'→Q .non H'
theorem gp (T:TX K mg a):Ok P w K mg base a g9 7 (pO a):=by
 refine fo T 42 fun S H hr h=>?_;obtain ⟨p,o,s,n,rfl,hs,ok,hl,k⟩:=h;refine ⟨_,(aa (sn S 2 (fL (pf 0) (iE (peR bb (ay bt (pf 0) (pv 1)) (pf 0)))))
  (ae (sf 0 (pc (pJ T) hr (af (pv 0) (af (pf 0) (af (pv 1) (pa1 (pv 2))))))))),?_⟩
 show aP _ _ _ [some (.ref p),some (.int n),none] H;tm_at "ck";tm_at "sx"
 all_goals (refine ⟨p,o,s,_,n,_,rfl,hs,ok,hl,fun H1 h1 f1=>?_⟩)
 all_goals (tm_at "sx")
 all_goals (refine k _ ?_ (by tm_at "fr"))
 all_goals (unfold cn;simp only [*,Bool.true_and,Bool.false_and])
 all_goals trace_state
noncomputable def fA (s:PS):Int:=upTo s.held s.au (max 0 (min (min (min 1400 (s.last - s.au)) (s.first+s.wide - s.au)) (s.room - s.au)))
theorem zH (T:TX K mg a):Ok P w K mg base a qu 2 (spR a fun s=>.int (fA s)):=by
 refine fo T 43 fun S H hr h=>?_;obtain ⟨p,o,s,rfl,hs,k⟩:=h;refine ⟨_,(aa (sn S 1 (pf 0))
  (aa (sn S 2 (az (Bv rfl) rfl T.mW boot_min (af (pgi T 8) (af (ay bC (pf 0) (pv 1)) (af (ay bC (ay bt (pf 0) (pf 0)) (pv 1)) (pa1 (ay bC (pf 0) (pv 1))))))))
  (ae (aw (pc (nV T) hr (af (pf 0) (af (pv 1) (pa1 (az (bz rfl) rfl T.ik boot_max (af ag (pa1 (pv 2)))))))))))),?_⟩
 show aP _ _ _ [some (.ref p),none,none] H;tm_at "ck";tm_at "sx";exact ⟨_,_,_,_,rfl,by assumption,k⟩
noncomputable def iI (s:PS) (n:Int):Bool:=
 if s.closing=true then (if s.au+n=s.last then false else if n<1400 then (if s.first<s.au then decide (s.top≤s.au) else false) else false)
 else if n<1400 then (if s.first<s.au then decide (s.top≤s.au) else false) else false
noncomputable def tT (a:AD):Sp:=fun vs H Q _=>∃(p o:Addr) (s:PS) (n:Int),vs=[.ref p,.int n]∧Sd a H p o s∧Q (.bl (iI s n)) H
theorem ug (T:TX K mg a):Ok P w K mg base a ke 1 (tT a):=by
 refine fo T 44 fun S H hr h=>?_;obtain ⟨p,o,s,n,rfl,hs,k⟩:=h;refine ⟨_,(aa (si (PW.pt (bQ (aJ (pf 0)) (bS (ptR bb (ay bt (pf 0) (pv 1)) (pf 0))))) (ae (aw iq)))
  (ae (aw (fL (peR eV (pv 1) (pgi T 8)) (fL (peR eV (pf 0) (pf 0)) (iE (peR lI (pf 0) (pf 0)))))))),?_⟩
 show aP _ _ _ [some (.ref p),some (.int n)] H;tm_at "ck";tm_at "sx"
 all_goals (unfold iI at k;simp only [*,if_true,if_false] at k;exact k)
end
theorem Am {α:Type} (xs:List α) (i n:Int) (hn:0≤n):(eS xs (some i) (some (i+n))).length≤n.toNat:=by
 unfold eS HT.sIx;rw [List.length_take,List.length_drop];by_cases h1:i<0
 ·by_cases h2:i+n<0
  ·simp only [h1,h2,if_true];omega
  ·simp only [h1,h2,if_true,if_false];omega
 ·have h2:¬i+n<0:=by omega
  simp only [h1,h2,if_false];omega
theorem jb (s:PS) (pl n:Int) (hn:0≤n) (h:n≤1400):(cX s pl n).length≤1400:=by
 have:=Am s.aB (pl - dj s) n hn;unfold cX;omega
theorem BP (rs:List (Int×Int)) (pl most:Int) (h:0≤most):0≤upTo rs pl most∧upTo rs pl most≤most:=by
 unfold upTo;split
 ·rename_i r e
  have:=List.find?_some e;have h2:pl≤r.1:=of_decide_eq_true this;omega
 ·omega
theorem xW (s:PS):0≤fA s∧fA s≤1400:=by
 have:=BP s.held s.au (max 0 (min (min (min 1400 (s.last - s.au)) (s.first+s.wide - s.au)) (s.room - s.au))) (by omega);unfold fA;omega
section
variable {P:Program} {w:World} {K:PySem.W.Frag} {mg:Str→Option Value} {base:Heap} {a:AD}
noncomputable def bW (s:PS):PS×Bool:=
 if s.au<gj s.held s.au then (s.aW (gj s.held s.au),true)
 else if s.au<s.last then
  (if fA s=0 then (s,false) else if iI s (fA s)=true then (s,false) else (cn s (fA s),true))
 else if s.au=s.last then (if s.closing=true then (cn s 0,true) else (s,false)) else (s,false)
noncomputable def xP (a:AD):Sp:=fun vs H Q _=>∃(p o:Addr) (s:PS),vs=[.ref p]∧Sd a H p o s∧jc s∧∀H',Sd a H' p o (bW s).1→Fr p o H H'→Q (.bl (bW s).2) H'
theorem yf (T:TX K mg a):Ok P w K mg base a oy 8 (xP a):=by
 refine fo T 45 fun S H hr h=>?_;obtain ⟨p,o,s,rfl,hs,ok,k⟩:=h;refine ⟨_,(aa (sn S 1 (pc (lL T) hr (af (pf 0) (pa1 (pf 0)))))
  (aa (si (ptR jB (pv 1) (pf 0)) (aa (sf 0 (pv 1))
  (ae (aw iq))))
  (aa (si (ptR eV (pf 0) (pf 0)) (aa (sn S 2 (pc (zH T) hr (pa1 (pv 0))))
  (aa (si (PW.pt (gL (ptR bb (pv 2) ag) (gK (aJ (pc (ug T) hr (af (pv 0) (pa1 (pv 2)))))))) (ae (aw iq)))
  (aa (aj (pc (gp T) hr (af (pv 0) (pa1 (pv 2)))))
  (ae (aw iq))))))
  (aa (si (PW.pt (bQ (ptR bb (pf 0) (pf 0)) (bS (aJ (pf 0))))) (aa (aj (pc (gp T) hr (af (pv 0) (pa1 ag))))
  (ae (aw iq))))
  (ae (aw iq)))))),?_⟩
 show aP _ _ _ [some (.ref p),none,none] H;tm_at "ck";have si:=xW s;unfold bW at k;tm_at "sx";refine ⟨_,_,_,rfl,by assumption,?_⟩;tm_at "sx"
 ·simp only [*,if_true,if_false] at k
  exact k _ (by assumption) (by tm_at "fr")
 ·simp only [*,if_true,if_false] at k
  exact k _ (by assumption) (by tm_at "fr")
 ·refine ⟨p,o,s,_,rfl,hs,?_⟩
  tm_at "sx"
  ·simp only [*,if_true,if_false] at k
   exact k _ (by assumption) (by tm_at "fr")
  ·refine ⟨p,o,s,_,rfl,hs,ok,jb _ _ _ si.1 si.2,fun H1 h1 f1=>?_⟩
   tm_at "sx";simp only [*,if_true,if_false] at k;exact k _ h1 f1
 ·rename_i c1 c2 c3 c4
  refine ⟨p,o,s,_,rfl,hs,ok,jb _ _ _ (by decide) (by decide),fun H1 h1 f1=>?_⟩;tm_at "sx";rw [if_neg c1,if_neg c2,if_pos c3,if_pos c4] at k;exact k _ h1 f1
 ·rename_i c1 c2 c3 c4
  rw [if_neg c1,if_neg c2,if_pos c3,if_neg c4] at k;exact k _ (by assumption) (by tm_at "fr")
 ·simp only [*,if_true,if_false] at k
  exact k _ (by assumption) (by tm_at "fr")
noncomputable def mY:Nat→PS→PS
 | 0,s=>s
 | n+1,s=>if (bW s).2=true then mY n (bW s).1 else (bW s).1
noncomputable def wb:Nat→PS→Prop
 | 0,_=>False
 | n+1,s=>jc s∧((bW s).2=true→wb n (bW s).1)
noncomputable def xH (s:PS):PS:=if eC s.due=V.non then (if s.first<s.top then dH s else if s.au<s.last then dH s else s) else s
noncomputable def v9:Nat:=4096
noncomputable def bJ (s:PS):PS:=if s.phase=4 then xH (mY v9 s) else s
noncomputable def jM (s:PS):Prop:=s.phase=4→wb v9 s
noncomputable def nH (a:AD):Sp:=fun vs H Q _=>∃(p o:Addr) (s:PS),vs=[.ref p]∧Sd a H p o s∧jM s∧∀H',Sd a H' p o (bJ s)→Fr p o H H'→Q .non H'
theorem jm (T:TX K mg a):Ok P w K mg base a qv 9 (nH a):=by
 refine fo T 46 fun S H hr h=>?_;obtain ⟨p,o,s,rfl,hs,cs,k⟩:=h;refine ⟨_,(aa (si (ptR vg (pf 0) (pgi T 15)) (ae gh))
  (aa (sn S 1 iq)
  (aa (uZ PassesOwn.never (aJ (pv 1)) (ae (sn S 1 (pc (yf T) hr (pa1 (pv 0))))))
  (ae (si (PW.pt (bQ (kM (nT (pf 0))) (bS (PW.pt (gL (ptR eV (pf 0) (pf 0)) (gK (ptR eV (pf 0) (pf 0)))))))) (ae (aj (pm0 (pv 0) (eM T) hr)))))))),?_⟩
 show aP _ _ _ [some (.ref p),none] H;tm_at "ck";tm_at "sx"
 ·rename_i h4
  unfold bJ at k;rw [if_neg h4] at k;exact k _ hs Fr.refl
 ·rename_i h4
  have h4:s.phase=4:=Decidable.not_not.mp h4;have lo:=cs h4;unfold bJ at k;rw [if_pos h4] at k;refine ⟨fun m σ H'=>∃t g,σ=[some (.ref p),some (.bl g)]∧Sd a H' p o t∧Fr p o H H'∧((g=true∧wb m t∧mY m t=mY v9 s)∨(g=false∧t=mY v9 s)),⟨v9,s,true,rfl,hs,Fr.refl,.inl ⟨rfl,lo,rfl⟩⟩,?_⟩;rintro m σ H' ⟨t,g,rfl,ht,ft,hg⟩;rcases hg with ⟨rfl,lt,et⟩ | ⟨rfl,et⟩
  ·cases m with
   | zero=>exact lt.elim
   | succ m =>
    obtain ⟨bo,nx⟩:=lt;tm_at "sx";refine ⟨fun σ' H''=>∃t g,σ'=[some (.ref p),some (.bl g)]∧Sd a H'' p o t∧Fr p o H H''∧((g=true∧wb m t∧mY m t=mY v9 s)∨(g=false∧t=mY v9 s)),?_,?_⟩
    ·rintro σ' H'' ⟨t,g,e1,e2,e3,e4⟩
     exact ⟨m,Nat.lt_succ_self _,t,g,e1,e2,e3,e4⟩
    ·tm_at "sx"
     refine ⟨p,o,t,rfl,ht,bo,fun H2 h2 f2=>?_⟩;tm_at "sx";refine ⟨_,_,rfl,h2,ft.trans f2,?_⟩;unfold mY at et
     cases e:(bW t).2 with
     | true =>
      rw [if_pos e] at et;exact .inl ⟨rfl,nx e,et⟩
     | false =>
      rw [if_neg (by rw [e];exact Bool.false_ne_true)] at et;exact .inr ⟨rfl,et⟩
  ·subst et
   tm_at "sx"
   all_goals (unfold xH at k;simp only [*,if_true,if_false] at k)
   all_goals (exact k _ (by assumption) (by tm_at "fr"))
end
noncomputable def IJ:List V→Hp→VK→Prop:=fun xs H Q=>∃i j k,xs=[.int i,.int j,.int k]∧Q (.int (min (min i j) k)) H
theorem Bw {X:Cx} (hc:X.calm=true):kJ X (.builtin "min") IJ:=by
 intro pins s σ H xs us Q I r h;obtain ⟨i,j,k,rfl,q⟩:=h
 cases r with
 | cons r1 r =>
  cases r with
  | cons r2 r =>
   cases r with
   | cons r3 r =>
    cases r
    obtain ⟨t1,rfl⟩:=r1;obtain ⟨t2,rfl⟩:=r2;obtain ⟨t3,rfl⟩:=r3;refine min_three_ints (I.ok.hd hc) fun g tk old=>⟨.int (min (min i j) k),H,I.kept old,?_,q⟩;by_cases h1:j<i
    ·by_cases h2:k<j
     ·rw [if_pos h1,if_pos h2];exact ⟨t3,by congr 1;tm_at "ob"⟩
     ·rw [if_pos h1,if_neg h2];exact ⟨t2,by congr 1;tm_at "ob"⟩
    ·by_cases h2:k<i
     ·rw [if_neg h1,if_pos h2];exact ⟨t3,by congr 1;tm_at "ob"⟩
     ·rw [if_neg h1,if_neg h2];exact ⟨t1,by congr 1;tm_at "ob"⟩
theorem Gf {H:Hp} {Q:VK} {i j k:Int} (h:Q (.int (min (min i j) k)) H):IJ [V.int i,V.int j,V.int k] H Q:=⟨i,j,k,rfl,h⟩
local macro_rules | `(tactic| tm_at "cm")=>`(tactic| first | refine xD (by decide) ?_ | refine xE (by decide) (by decide) ?_ | refine vU (by decide) (by decide) ?_ | refine vT (by decide) (by decide) ?_ | refine sT (fun _=>?_) (fun _=>?_) | refine ki (fun _=>?_) (fun _=>?_) | refine qA ‹_› ?_ | refine sS ‹_› ?_ | refine qz ‹_› ?_ | refine tM ‹_› ?_ | refine BA ?_ | refine Gf ?_ | refine Ax ‹_› (fun _ _ _=>?_) | refine vO ‹_› (fun _ _ _=>?_) | refine vQ ‹_› (fun _ _ _=>?_) | refine rC ‹_› (fun _ _ _=>?_) | refine vP ‹_› (fun _ _ _=>?_) | refine Aw ‹_› ?_ | refine vN ‹_› ?_ | refine rgZ ‹_› ‹_› ?_ | refine sj ‹_› ?_ | refine rdZ ‹_› ‹_› ?_ | (refine jX ‹_› ‹_› (fun _ _ _=>?_)) | (refine qQ ‹_› ‹_› (fun _ _ _=>?_)) | (refine lG ‹_› ‹_› (fun _ _ _=>?_)) | (refine iD ‹_› ‹_› (fun _ _ _=>?_)) | refine meZ ‹_› ?_)
section
variable {P:Program} {w:World} {K:PySem.W.Frag} {mg:Str→Option Value} {base:Heap} {a:AD}
noncomputable def oX (s:PS):PS:=bG (cn s 1)
noncomputable def spB (a:AD) (C:PS→Prop) (f:PS→PS):Sp:=fun vs H Q _=>∃(p o:Addr) (s:PS),vs=[.ref p]∧Sd a H p o s∧C s∧∀H',Sd a H' p o (f s)→Fr p o H H'→Q .non H'
theorem lJ (T:TX K mg a):Ok P w K mg base a jw 8 (spB a jc oX):=by
 refine fo T 47 fun S H hr h=>?_;obtain ⟨p,o,s,rfl,hs,ok,k⟩:=h;refine ⟨_,(aa (aj (pc (gp T) hr (af (pv 0) (pa1 ag))))
  (ae (aj (pm0 (pv 0) (bT T) hr)))),?_⟩
 show aP _ _ _ [some (.ref p)] H;tm_at "ck";tm_at "sx";refine ⟨p,o,s,1,rfl,hs,ok,jb _ _ _ (by decide) (by decide),fun H1 h1 f1=>?_⟩;tm_at "sx";exact k _ (by assumption) (by tm_at "fr")
noncomputable def my (s:PS) (pl:Int):Bool:=if s.top≤pl then false else match s.held.getLast? with
 | some r=>decide (pl<r.1)
 | none=>decide (pl=s.first)
theorem tz {α β:Type} {F:α→β→Prop} {l:List α} {m:List β} (h:Paired F l m) (hl:l≠[]):∃x y,l=l.dropLast++[x]∧m.getLast? = some y∧F x y:=by
 have e1:l[l.length - 1]? = some (l.getLast hl):=by rw [List.getLast_eq_getElem];exact List.getElem?_eq_getElem _
 obtain ⟨y,h1,h2⟩:=dh h e1;refine ⟨l.getLast hl,y,(List.dropLast_concat_getLast hl).symm,?_,h2⟩;rw [List.getLast?_eq_getElem?,←Paired.len h];exact h1
noncomputable def Jj (a:AD):Sp:=fun vs H Q _=>∃(p o:Addr) (s:PS) (pl:Int),vs=[.ref p,.int pl]∧Sd a H p o s∧Q (.bl (my s pl)) H
theorem pH (T:TX K mg a):Ok P w K mg base a gu 1 (Jj a):=by
 refine fo T 48 fun S H hr h=>?_;obtain ⟨p,o,s,pl,rfl,hs,k⟩:=h;refine ⟨_,(aa (si (ptR lI (pv 1) (pf 0)) (ae (aw iq)))
  (aa (si (lH (pf 0) (fun _=>rfl)) (ae (aw (peR eV (pv 1) (aY cz (aY bc (pf 0) (IK D7 ag) (fun _ _=>rfl)) ag (fun _ _=>rfl))))))
  (ae (aw (peR bb (pv 1) (pf 0)))))),?_⟩
 show aP _ _ _ [some (.ref p),some (.int pl)] H;tm_at "ck";unfold my at k;tm_at "sx"
 ·rename_i h1
  rw [if_pos h1] at k;exact k
 ·rename_i h1 q hq nq
  rw [if_neg h1] at k;obtain ⟨vs,ev,pr⟩:=id hq;refine ⟨_,.inl ⟨_,SqL.of ev,rfl⟩,?_⟩
  cases vs with
  | nil =>
   have e:s.held=[]:=List.length_eq_zero_iff.mp (by rw [←Paired.len pr];rfl);refine Ay ?_;tm_at "sx";rw [e] at k;exact k
  | cons v l =>
   obtain ⟨x,y,e1,e2,t,rfl,ht⟩:=tz pr (by simp);refine DS ?_;tm_at "sx";rename_i q2 hq2 nq2;obtain ⟨vs2,ev2,pr2⟩:=hq2;obtain ⟨x2,y2,e12,e22,t2,rfl,ht2⟩:=tz pr2 (by intro z;rw [z] at pr2;have:=Paired.len pr2;have h3:=Paired.len pr;rw [←this] at h3;simp at h3);refine ⟨q2,_,_,.ref t2,rfl,rfl,SqL.of ev2,?_,?_⟩
   ·rw [e12];exact Az _ _
   tm_at "sx";refine eT ht2 ?_;tm_at "sx";rw [e22] at k;exact k
noncomputable def vY (s:PS) (x:Int):Int:=upTo s.held x (min (min 1400 (s.last - x)) (s.top - x))
noncomputable def xF (s:PS) (x:Int):Bool:=s.closing && (decide (x+vY s x=s.last) && decide (s.last<s.top))
noncomputable def fK (s:PS):Int:=gj s.held (max s.first s.anew)
noncomputable def fV (s:PS):PS:=if my s (fK s)=true then bG ((dX s (fK s) (vY s (fK s)) (xF s (fK s))).cR (mQ (fK s) (vY s (fK s)) (xF s (fK s)))) else s
structure lg (s:PS):Prop where
 b:jc s
 t:s.top≤s.last+1
theorem mn (T:TX K mg a):Ok P w K mg base a oz 7 (spB a lg fV):=by
 refine fo T 49 fun S H hr h=>?_;obtain ⟨p,o,s,rfl,hs,ok,k⟩:=h;refine ⟨_,(aa (sn S 1 (pc (lL T) hr (af (pf 0) (pa1 (az (bz rfl) rfl T.ik boot_max (af (pf 0) (pa1 (pf 0))))))))
  (aa (si (cF (aJ (pc (pH T) hr (af (pv 0) (pa1 (pv 1)))))) (ae gh))
  (aa (sn S 2 (pc (nV T) hr (af (pf 0) (af (pv 1) (pa1 (az (Bw rfl) rfl T.mW boot_min (af (pgi T 8) (af (ay bC (pf 0) (pv 1)) (pa1 (ay bC (pf 0) (pv 1)))))))))))
  (aa (sn S 3 (fL (pf 0) (fL (peR bb (ay bt (pv 1) (pv 2)) (pf 0)) (iE (peR jB (pf 0) (pf 0))))))
  (aa (sf 0 (pc (pJ T) hr (af (pv 0) (af (pv 1) (af (pv 2) (pa1 (pv 3)))))))
  (ae (aj (pm0 (pv 0) (bT T) hr)))))))),?_⟩
 show aP _ _ _ [some (.ref p),none,none,none] H;tm_at "ck";unfold fV at k;tm_at "sx";refine ⟨_,_,_,rfl,by assumption,?_⟩;tm_at "sx";refine ⟨p,o,s,_,rfl,hs,?_⟩;have ex:gj s.held (max s.first s.anew)=fK s:=rfl;rw [ex];tm_at "sx"
 ·rename_i hm
  rw [if_neg (by simpa using hm)] at k;exact k _ hs Fr.refl
 ·rename_i hm _ _ _
  have hm:my s (fK s)=true:=by simpa using hm
  rw [if_pos hm] at k;have hx:fK s<s.top:=by
   unfold my at hm;split at hm
   ·cases hm
   ·tm_at "ob"
  have nn:=BP s.held (fK s) (min (min 1400 (s.last - fK s)) (s.top - fK s)) (by have:=ok.t;tm_at "ob");refine ⟨_,_,_,_,rfl,by assumption,?_⟩;have en:upTo s.held (fK s) (min (min 1400 (s.last - fK s)) (s.top - fK s))=vY s (fK s):=rfl;rw [en] at nn ⊢;tm_at "sx"
  all_goals (refine ⟨p,o,s,fK s,vY s (fK s),xF s (fK s),?_,hs,ok.b,jb _ _ _ nn.1 (by tm_at "ob"),fun H1 h1 f1=>?_⟩)
  all_goals (first | (unfold xF;simp only [*,Bool.true_and,Bool.false_and,Bool.and_false,Bool.and_true];rfl) | skip)
  all_goals (tm_at "sx")
  all_goals (exact k _ (by assumption) (by tm_at "fr"))
end
noncomputable def AgX (K:PySem.W.Frag) (f:Str) (tv:TE) (rd:V→V→Hp→VK→Prop) (σ:L2.St) (N:Hp→Prop) (x:V) (H1:Hp):Prop:=∃a C dx fs v,x = .ref a∧H1 a=some (.ins C dx fs)∧Cls K C∧iV K C f∧fs.lookup f=some v∧tv σ H1 fun y H2=>rd v y H2 fun z H3=>AgR C f a z H3 N
theorem Ln {K:PySem.W.Frag} {ta tv:TE} {rd:V→V→Hp→VK→Prop} {f:Str} {D:Ends} {σ:L2.St} {H:Hp} (k:ta σ H fun x H1=>AgX K f tv rd σ (D.nx σ) x H1):xX K ta tv rd f D σ H:=k
theorem JW {H:Hp} {Q:VK} {i j:Int} (k:Q (.int (i+j)) H):Jp (.int i) (.int j) H Q:=⟨i,j,rfl,rfl,k⟩
section
variable {K:PySem.W.Frag} {mg:Str→Option Value} {a:AD} {H:Hp} {p o:Addr} {s:PS} {tv:TE} {rd:V→V→Hp→VK→Prop} {σ:L2.St} {N:Hp→Prop}
theorem Ki (T:TX K mg a) (h:Sd a H p o s) (k:tv σ H fun y H2=>rd (.int s.off) y H2 fun z H3=>AgR a.aE "off" p z H3 N):AgX K "off" tv rd σ N (.ref p) H:=by
 obtain ⟨d,dx,e⟩:=h;exact ⟨p,a.aE,dx,_,_,rfl,e.obj,T.aC,T.aI 26 _ rfl,by kernel_rfl,k⟩
theorem Iu (T:TX K mg a) (h:Sd a H p o s) (k:tv σ H fun y H2=>rd (.int s.jJ) y H2 fun z H3=>AgR a.aE "mean" p z H3 N):AgX K "mean" tv rd σ N (.ref p) H:=by
 obtain ⟨d,dx,e⟩:=h;exact ⟨p,a.aE,dx,_,_,rfl,e.obj,T.aC,T.aI 25 _ rfl,by kernel_rfl,k⟩
theorem Ir (T:TX K mg a) (h:Sd a H p o s) (k:tv σ H fun y H2=>rd (.int s.same) y H2 fun z H3=>AgR a.aE "same" p z H3 N):AgX K "same" tv rd σ N (.ref p) H:=by
 obtain ⟨d,dx,e⟩:=h;exact ⟨p,a.aE,dx,_,_,rfl,e.obj,T.aC,T.aI 22 _ rfl,by kernel_rfl,k⟩
theorem Gq (T:TX K mg a) (h:Sd a H p o s) (k:tv σ H fun y H2=>rd (.int s.tries) y H2 fun z H3=>AgR a.aE "tries" p z H3 N):AgX K "tries" tv rd σ N (.ref p) H:=by
 obtain ⟨d,dx,e⟩:=h;exact ⟨p,a.aE,dx,_,_,rfl,e.obj,T.aC,T.aI 32 _ rfl,by kernel_rfl,k⟩
theorem DV (T:TX K mg a) (h:Sd a H p o s) (k:tv σ H fun y H2=>rd (.int s.wanted) y H2 fun z H3=>AgR a.aE "wanted" p z H3 N):AgX K "wanted" tv rd σ N (.ref p) H:=by
 obtain ⟨d,dx,e⟩:=h;exact ⟨p,a.aE,dx,_,_,rfl,e.obj,T.aC,T.aI 33 _ rfl,by kernel_rfl,k⟩
theorem Iv (T:TX K mg a) (h:Sd a H p o s) (k:tv σ H fun y H2=>rd (.int s.last) y H2 fun z H3=>AgR a.aE "last" p z H3 N):AgX K "last" tv rd σ N (.ref p) H:=by
 obtain ⟨d,dx,e⟩:=h;exact ⟨p,a.aE,dx,_,_,rfl,e.obj,T.aC,T.aI 13 _ rfl,by kernel_rfl,k⟩
theorem BF (T:TX K mg a) (h:Sd a H p o s) (k:tv σ H fun y H2=>rd (.int s.fg) y H2 fun z H3=>AgR a.aE "askings" p z H3 N):AgX K "askings" tv rd σ N (.ref p) H:=by
 obtain ⟨d,dx,e⟩:=h;exact ⟨p,a.aE,dx,_,_,rfl,e.obj,T.aC,T.aI 43 _ rfl,by kernel_rfl,k⟩
end
theorem m8 {a:AD} {H:Hp} {p o:Addr} {s:PS} {Q:VK} {E:XK} {C:PS→Prop} {f:PS→PS} (h:Sd a H p o s) (c:C s) (k:∀H',Sd a H' p o (f s)→Fr p o H H'→Q .non H'):spB a C f ([.ref p]++[]) H Q E:=⟨p,o,s,rfl,h,c,k⟩
local macro_rules | `(tactic| tm_at "ag")=>`(tactic| first | refine Ln ?_ | refine JW ?_ | refine b_rSub ?_ | refine Ki ‹_› ‹_› ?_ | refine Iu ‹_› ‹_› ?_ | refine Ir ‹_› ‹_› ?_ | refine Gq ‹_› ‹_› ?_ | refine DV ‹_› ‹_› ?_ | refine Iv ‹_› ‹_› ?_ | refine BF ‹_› ‹_› ?_ | (refine saZ ‹_› ‹_› (fun _ _ _=>?_)))
section
variable {P:Program} {w:World} {K:PySem.W.Frag} {mg:Str→Option Value} {base:Heap} {a:AD}
noncomputable def Iw (i:Int):Int:=if i<0 then -i else i
noncomputable def zV (s:PS) (took:Int):PS:=
 if s.aZ=true then
  let s1:=s.jE (s.off+(Iw (took - s.jJ / 8) - s.off / 4))
  s1.gH (s1.jJ+(took - s1.jJ / 8))
 else ((s.dG true).gH (8*took)).jE (2*took)
noncomputable def D6 (s:PS):Int:=min 60000 (max 200 (s.jJ / 8+max 1 s.off))
noncomputable def Fc (s:PS):PS:=bG (s.eL (D6 s))
noncomputable def dO (s:PS) (pl:Int):PS:=if s.bp=0 then s else if pl<s.bp then s else Fc (zV s (s.now - s.dU))
theorem vm (T:TX K mg a):Ok P w K mg base a sF 2 (zk a dO):=by
 refine fo T 50 fun S H hr h=>?_;obtain ⟨p,o,s,pl,rfl,hs,k⟩:=h;refine ⟨_,(aa (si (PW.pt (gL (ptR bb (pf 0) ag) (gK (ptR jB (pf 0) (pv 1))))) (ae gh))
  (aa (sn S 2 (ay bC (pf 0) (pf 0)))
  (aa (eU (aJ (pf 0)) (aa (fB (pv 0) (ay bC (az DL rfl T.Kr boot_abs (pa1 (ay bC (pv 2) (ay jG (pf 0) ag)))) (ay jG (pf 0) ag)) mD)
  (ae (fB (pv 0) (ay bC (pv 2) (ay jG (pf 0) ag)) mD))) (aa (sf 0 iq)
  (aa (sf 0 (ay gP ag (pv 2)))
  (ae (sf 0 (ay gP ag (pv 2)))))))
  (aa (sf 0 (az (eI rfl) rfl T.mW boot_min (af (pgi T 23) (pa1 (az (bz rfl) rfl T.ik boot_max (af (pgi T 27) (pa1 (ay bt (ay jG (pf 0) ag) (az (bz rfl) rfl T.ik boot_max (af ag (pa1 (pf 0))))))))))))
  (ae (aj (pm0 (pv 0) (bT T) hr))))))),?_⟩
 show aP _ _ _ [some (.ref p),some (.int pl),none] H;tm_at "ck";unfold dO at k;tm_at "sx"
 ·simp only [*,if_true,if_false] at k
  exact k _ (by assumption) (by tm_at "fr")
 ·rename_i h1 h2
  rw [if_neg h1,if_pos h2] at k;exact k _ (by assumption) (by tm_at "fr")
 ·rename_i h1 h2 h3 _ _ _ _ _ _ _ _ _ _ _ _
  rw [if_neg h1,if_neg h2] at k;unfold zV at k;rw [if_pos h3] at k;exact k _ (by assumption) (by tm_at "fr")
 ·rename_i h1 h2 h3 _ _ _ _ _ _ _ _ _ _ _ _ _ _ _
  rw [if_neg h1,if_neg h2] at k;unfold zV at k;rw [if_neg h3] at k;exact k _ (by assumption) (by tm_at "fr")
noncomputable def letGo (s:PS) (pl:Int):PS:=
 let s1:=((s.jh (eS s.aB (some (pl - dj s)) none)).jN pl)
 let s2:=s1.aW (max s1.au pl)
 s2.gI (s2.held.filter fun r=>decide (pl<r.2))
noncomputable def CV (a:AD):Sp:=fun vs H Q _=>∃(p o:Addr) (s:PS) (pl:Int),vs=[.ref p,.int pl]∧Sd a H p o s∧s.held.length≤100000∧∀H',Sd a H' p o (letGo s pl)→Fr p o H H'→Q .non H'
theorem Dq (T:TX K mg a):Ok P w K mg base a ro 2 (CV a):=by
 refine fo T 51 fun S H hr h=>?_;rename_i Q E;obtain ⟨p,o,s,pl,rfl,hs,hz,k⟩:=h;refine ⟨_,(aa (sf 0 (cG dm (pf 0) (bN (ay bC (pv 1) (pm0 (pv 0) (iu T) hr))) fC))
  (aa (sf 0 (pv 1))
  (aa (sf 0 (az (bz rfl) rfl T.ik boot_max (af (pf 0) (pa1 (pv 1)))))
  (ae (sf 0 (IM rfl S.nd (gM (pf 0)) (own:=[("one",2)]) (by refine (show tN ro.N (bB ro.s) _ [("one",2)] from ?_);exact ⟨rfl,by decide +kernel,by decide +kernel,by decide +kernel,by decide +kernel⟩) (fun _ _ _ _ _=>d8 (i:=2) S.nd rfl (Or.inl rfl)) (fun _ _ _ _ _=>(x8 (ptR jB (aY (yu (K:=K) rfl) (pv 2) ag (fun _ _=>rfl)) (pv 1)))) (fun _ _ _ _ _=>(pv 2)))))))),?_⟩
 show aP _ _ _ [some (.ref p),some (.int pl),none] H;tm_at "ck";obtain ⟨ws,eo⟩:=hs.two.o;tm_at "sx";refine ni (by assumption) (fun q1 H1 n1 s1 h1=>?_);have hs1:=hs.mono s1;tm_at "sx";refine uM T hs1 h1 (ai eo n1).symm (fun H2 h2 f2=>?_);tm_at "sx";rename_i H4 h4 f4 qh hqh nqh;obtain ⟨vs,ev,pr⟩:=hqh;have hl:vs.length≤100000:=by rw [Paired.len pr];exact hz
 refine Gj ev ?_;refine yr (j:=2) (F:=pE H4) ev (by rw [sizeLine_eq];tm_at "oa") pr (fun r=>decide (pl<r.2)) ?_ ?_ ?_ ?_
 ·exact fun _=>rfl
 ·exact fun x H' Q' q=>⟨x,rfl,q⟩
 ·rintro x r ⟨t,rfl,ht⟩ H' sm Q' q
  show ly _ [some (V.ref p),some (V.int pl),some (V.ref t)] H' Q';tm_at "sx";refine ig (sm _ _ ht) ?_;tm_at "sx";exact q
 intro D H5 ys nD s5 eD py;obtain ⟨ws4,eo4⟩:=h4.two.o;have py5:bL H5 D _:=⟨ys,eD,Paired.imp (fun v r ⟨t,e1,e2⟩=>⟨t,e1,s5 _ _ e2⟩) py⟩;tm_at "sx";refine xM T (h4.mono s5) py5 (ai eo4 nD).symm (fun H6 h6 f6=>?_);refine k _ h6 ?_;exact (aF.fr s1).trans (f2.trans (by tm_at "fr"))
noncomputable def jF (s:PS) (n:Int):PS:=let s1:=widen (s.bI (max 0 (s.wide - n))) 1400
 s1.cR (max s1.anew s1.first)
noncomputable def eP (s:PS) (n:Int):PS:=
 if s.bA=0 then (let s1:=s.set_same 0
  if s1.wide<s1.slow then widen s1 (min n 1400) else widen s1 (max 1 (1400*1400 / s1.wide)))
 else if s.bA≤s.first then ((s.cE 0).bI s.slow).set_same 0
 else fV (jF s n)
structure Gw (s:PS) (n:Int):Prop where
 w:0<s.wide∧s.wide<1073741824
 m:s.bA≠0→¬s.bA≤s.first→lg (jF s n)
noncomputable def wy (a:AD):Sp:=fun vs H Q _=>∃(p o:Addr) (s:PS) (n:Int),vs=[.ref p,.int n]∧Sd a H p o s∧Gw s n∧∀H',Sd a H' p o (eP s n)→Fr p o H H'→Q .non H'
theorem wL (T:TX K mg a):Ok P w K mg base a mI 8 (wy a):=by
 refine fo T 52 fun S H hr h=>?_;obtain ⟨p,o,s,n,rfl,hs,ok,k⟩:=h;refine ⟨_,(ae (eU (ptR bb (pf 0) ag) (aa (sf 0 ag)
  (ae (eU (ptR eV (pf 0) (pf 0)) (ae (aj (pm (pv 0) (iY T) hr (pa1 (az (eI rfl) rfl T.mW boot_min (af (pv 1) (pa1 (pgi T 8)))))))) (ae (aj (pm (pv 0) (iY T) hr (pa1 (az (bz rfl) rfl T.ik boot_max (af ag (pa1 (ay jG (ay gP (pgi T 8) (pgi T 8)) (pf 0)))))))))))) (ae (eU (ptR eW (pf 0) (pf 0)) (aa (sf 0 ag)
  (aa (sf 0 (pf 0))
  (ae (sf 0 ag)))) (aa (sf 0 (az (bz rfl) rfl T.ik boot_max (af ag (pa1 (ay bC (pf 0) (pv 1))))))
  (aa (aj (pm (pv 0) (iY T) hr (pa1 (pgi T 8))))
  (aa (sf 0 (az (bz rfl) rfl T.ik boot_max (af (pf 0) (pa1 (pf 0)))))
  (ae (aj (pc (mn T) hr (pa1 (pv 0)))))))))))),?_⟩
 show nE _ _ _ _ [some (.ref p),some (.int n)] H;tm_at "ck";unfold eP at k;tm_at "sx"
 ·rename_i h1 _ _ _ h2 _ _ _
  simp only [h1,h2,if_true] at k;exact k _ (by assumption) (by tm_at "fr")
 ·rename_i h1 _ _ _ h2
  simp only [h1,h2,if_true,if_false] at k;refine xE ok.w.1 ok.w.2 ?_;tm_at "sx";exact k _ (by assumption) (by tm_at "fr")
 ·rename_i h1 h2 _ _ _ _ _ _ _ _ _
  simp only [h1,h2,if_true,if_false] at k;exact k _ (by assumption) (by tm_at "fr")
 ·rename_i h1 h2 _ _ _ _ _ _ _ _ _
  simp only [h1,h2,if_false] at k;refine m8 (by assumption) (ok.m h1 h2) (fun H9 h9 f9=>?_);exact k _ h9 (by tm_at "fr")
noncomputable def mx (s:PS) (pl:Int):PS:=letGo (dO s pl) pl
noncomputable def iZ (s:PS) (pl:Int):PS:=if pl<(mx s pl).top then dH (mx s pl) else (mx s pl).dE none
noncomputable def uj (s:PS) (pl:Int):PS:=eP (iZ s pl) (pl - s.first)
structure Gy (s:PS) (pl:Int):Prop where
 h:(dO s pl).held.length≤100000
 p:Gw (iZ s pl) (pl - s.first)
noncomputable def tQ (a:AD):Sp:=fun vs H Q _=>∃(p o:Addr) (s:PS) (pl:Int),vs=[.ref p,.int pl]∧Sd a H p o s∧Gy s pl∧∀H',Sd a H' p o (uj s pl)→Fr p o H H'→Q .non H'
theorem uc (T:TX K mg a):Ok P w K mg base a ka 9 (tQ a):=by
 refine fo T 53 fun S H hr h=>?_;obtain ⟨p,o,s,pl,rfl,hs,ok,k⟩:=h;refine ⟨_,(aa (sn S 2 (ay bC (pv 1) (pf 0)))
  (aa (aj (pc (vm T) hr (af (pv 0) (pa1 (pv 1)))))
  (aa (aj (pc (Dq T) hr (af (pv 0) (pa1 (pv 1)))))
  (aa (eU (ptR eV (pv 1) (pf 0)) (ae (aj (pm0 (pv 0) (eM T) hr))) (ae (sf 0 iF)))
  (ae (aj (pc (wL T) hr (af (pv 0) (pa1 (pv 2)))))))))),?_⟩
 show aP _ _ _ [some (.ref p),some (.int pl),none] H;tm_at "ck";tm_at "sx";refine ⟨p,o,dO s pl,pl,rfl,by assumption,ok.h,fun H2 h2 f2=>?_⟩;have h2:Sd a H2 p o (mx s pl):=h2;have okp:=ok.p;unfold uj at k;tm_at "sx"
 ·rename_i h1 _ _ _
  have e:iZ s pl=dH (mx s pl):=by unfold iZ;rw [if_pos h1]
  rw [e] at k okp;exact ⟨p,o,_,_,rfl,by assumption,okp,fun H9 h9 f9=>k _ h9 (by tm_at "fr")⟩
 ·rename_i h1 _ _ _
  have e:iZ s pl=(mx s pl).dE none:=by unfold iZ;rw [if_neg h1]
  rw [e] at k okp;exact ⟨p,o,_,_,rfl,by assumption,okp,fun H9 h9 f9=>k _ h9 (by tm_at "fr")⟩
noncomputable def gS (s:PS):PS:=let s1:=eQ s
 let s2:=s1.bI (s1.slow+3*1400)
 (s2.cE s2.top).cR s2.first
noncomputable def qJ (s:PS):PS:=fV (gS s)
theorem rV (T:TX K mg a):Ok P w K mg base a jv 8 (spB a (fun s=>lg (gS s)) qJ):=by
 refine fo T 54 fun S H hr h=>?_;obtain ⟨p,o,s,rfl,hs,ok,k⟩:=h;refine ⟨_,(aa (aj (pm0 (pv 0) (j4 T) hr))
  (aa (sf 0 (ay bt (pf 0) (ay gP ag (pgi T 8))))
  (aa (sf 0 (pf 0))
  (aa (sf 0 (pf 0))
  (ae (aj (pc (mn T) hr (pa1 (pv 0))))))))),?_⟩
 show aP _ _ _ [some (.ref p)] H;tm_at "ck";tm_at "sx";exact m8 (s:=gS s) (by assumption) ok (fun H9 h9 f9=>k _ h9 (by tm_at "fr"))
noncomputable def je (s:PS):PS:=if 0<s.bA then fV (widen s 1400) else (let s1:=s.set_same (s.same+1)
 if s1.same=3 then qJ s1 else s1)
structure BI (s:PS):Prop where
 m:0<s.bA→lg (widen s 1400)
 n:lg (gS (s.set_same (s.same+1)))
theorem rT (T:TX K mg a):Ok P w K mg base a ju 9 (spB a BI je):=by
 refine fo T 55 fun S H hr h=>?_;obtain ⟨p,o,s,rfl,hs,ok,k⟩:=h;refine ⟨_,(aa (si (ptR jB (pf 0) ag) (aa (aj (pm (pv 0) (iY T) hr (pa1 (pgi T 8))))
  (aa (aj (pc (mn T) hr (pa1 (pv 0))))
  (ae gh))))
  (aa (fB (pv 0) ag mD)
  (ae (si (ptR bb (pf 0) ag) (ae (aj (pc (rV T) hr (pa1 (pv 0))))))))),?_⟩
 show aP _ _ _ [some (.ref p)] H;tm_at "ck";unfold je at k;tm_at "sx"
 ·rename_i h1 _ _ _
  rw [if_pos h1] at k;exact m8 (s:=widen s 1400) (by assumption) (ok.m h1) (fun H9 h9 f9=>by
   tm_at "sx";exact k _ h9 (by tm_at "fr"))
 ·rename_i h1 _ _ _ h2
  rw [if_neg h1] at k;dsimp only at k;rw [if_pos h2] at k;exact m8 (by assumption) ok.n (fun H9 h9 f9=>k _ h9 (by tm_at "fr"))
 ·rename_i h1 _ _ _ h2
  rw [if_neg h1] at k;dsimp only at k;rw [if_neg h2] at k;exact k _ (by assumption) (by tm_at "fr")
noncomputable def iW (s:PS) (pl:Int) (quiet:Bool):PS:=
 if s.first<pl then uj s pl else if pl=s.first then (if s.first<s.top then (if quiet=true then je s else s) else s) else s
structure CA (s:PS) (pl:Int):Prop where
 n:s.first<pl→Gy s pl
 m:pl=s.first→s.first<s.top→BI s
noncomputable def nF (a:AD):Sp:=fun vs H Q _=>∃(p o:Addr) (s:PS) (pl:Int) (quiet:Bool),vs=[.ref p,.int pl,.bl quiet]∧Sd a H p o s∧CA s pl∧∀H',Sd a H' p o (iW s pl quiet)→Fr p o H H'→Q .non H'
theorem zF (T:TX K mg a):Ok P w K mg base a qr 10 (nF a):=by
 refine fo T 56 fun S H hr h=>?_;obtain ⟨p,o,s,pl,quiet,rfl,hs,ok,k⟩:=h;refine ⟨_,(ae (eU (ptR jB (pv 1) (pf 0)) (ae (aj (pc (uc T) hr (af (pv 0) (pa1 (pv 1)))))) (ae (si (PW.pt (bQ (ptR bb (pv 1) (pf 0)) (bQ (ptR eV (pf 0) (pf 0)) (bS (aJ (pv 2)))))) (ae (aj (pc (rT T) hr (pa1 (pv 0))))))))),?_⟩;show nE _ _ _ _ [some (.ref p),some (.int pl),some (.bl quiet)] H;tm_at "ck";unfold iW at k;tm_at "sx"
 ·rename_i h1
  rw [if_pos h1] at k;exact ⟨p,o,s,pl,rfl,hs,ok.n h1,fun H9 h9 f9=>k _ h9 f9⟩
 ·rename_i h1 h2 h3 h4
  rw [if_neg h1,if_pos h2,if_pos h3,if_pos h4] at k;exact m8 hs (ok.m h2 h3) (fun H9 h9 f9=>k _ h9 f9)
 ·rename_i h1 h2 h3 h4
  rw [if_neg h1,if_pos h2,if_pos h3,if_neg h4] at k;exact k _ hs Fr.refl
 ·rename_i h1 h2 h3
  rw [if_neg h1,if_pos h2,if_neg h3] at k;exact k _ hs Fr.refl
 ·rename_i h1 h2
  rw [if_neg h1,if_neg h2] at k;exact k _ hs Fr.refl
end
theorem yJ {a:AD} {H:Hp} {q dx rq dq:Addr} {g:SG} {f:Int} {Q:VK} {E:XK} (h:H q=some (.ins a.aA dx (eR rq dq g))) (k:Q (.bl (fE g f)) H):pP a (.ref q::([.int f]++[])) H Q E:=⟨q,dx,rq,dq,g,f,rfl,h,k⟩
theorem FY {H:Hp} {Q:VK} {E:XK} {n b ab:Int} (k:Q (bE n b ab) H):kK ([.int n,.int b,.int ab]++[]) H Q E:=⟨n,b,ab,rfl,k⟩
instance {H:Hp} {Q:VK} {E:XK} {n b ab:Int}:Stp (kK ([.int n,.int b,.int ab]++[]) H Q E) (Q (bE n b ab) H):=⟨FY⟩
theorem iG (n b ab:Int):bE n b ab = .non∨∃i,bE n b ab = .int i:=by
 unfold bE;dsimp only;generalize (if 2147483648≤(n - b - ab) % 4294967296 then (n - b - ab) % 4294967296 - 4294967296 else (n - b - ab) % 4294967296)=z;by_cases h:ab+z<0
 ·rw [if_pos h];exact .inl rfl
 ·rw [if_neg h];exact .inr ⟨_,rfl⟩
theorem CY (n b ab i:Int):Et (bE n b ab) (.int i)=true:=by
 rcases iG n b ab with h | ⟨j,h⟩ <;> rw [h] <;> rfl
local macro_rules | `(tactic| tm_at "cm")=>`(tactic| first | refine xD (by decide) ?_ | refine xE (by decide) (by decide) ?_ | refine vU (by decide) (by decide) ?_ | refine vT (by decide) (by decide) ?_ | refine sT (fun _=>?_) (fun _=>?_) | refine ki (fun _=>?_) (fun _=>?_) | refine qA ‹_› ?_ | refine sS ‹_› ?_ | refine qz ‹_› ?_ | refine tM ‹_› ?_ | refine BA ?_ | refine Gf ?_ | refine yJ ‹_› ?_ | refine Ax ‹_› (fun _ _ _=>?_) | refine vO ‹_› (fun _ _ _=>?_) | refine vQ ‹_› (fun _ _ _=>?_) | refine rC ‹_› (fun _ _ _=>?_) | refine vP ‹_› (fun _ _ _=>?_) | refine Aw ‹_› ?_ | refine vN ‹_› ?_ | refine rgZ ‹_› ‹_› ?_ | refine sj ‹_› ?_ | refine rdZ ‹_› ‹_› ?_ | (refine jX ‹_› ‹_› (fun _ _ _=>?_)) | (refine qQ ‹_› ‹_› (fun _ _ _=>?_)) | (refine lG ‹_› ‹_› (fun _ _ _=>?_)) | (refine iD ‹_› ‹_› (fun _ _ _=>?_)) | refine meZ ‹_› ?_)
section
variable {P:Program} {w:World} {K:PySem.W.Frag} {mg:Str→Option Value} {base:Heap} {a:AD}
noncomputable def spG (a:AD) (C:PS→Int→SG→Prop) (f:PS→Int→SG→PS):Sp:=fun vs H Q _=>∃(p o q rq dq dx:Addr) (s:PS) (sd:Int) (g:SG),vs=[.ref p,.int sd,.ref q]∧Sd a H p o s∧SegX a H o q rq dq dx g∧C s sd g∧∀H',Sd a H' p o (f s sd g)→Fr p o H H'→Q .non H'
theorem vR {H:Hp} {p o q rq dq dx:Addr} {s:PS} {sd:Int} {g:SG} {Q:VK} {E:XK} {C:PS→Int→SG→Prop} {f:PS→Int→SG→PS} (h:Sd a H p o s) (hg:SegX a H o q rq dq dx g) (c:C s sd g) (k:∀H',Sd a H' p o (f s sd g)→Fr p o H H'→Q .non H'):spG a C f ([.ref p,.int sd,.ref q]++[]) H Q E:=⟨p,o,q,rq,dq,dx,s,sd,g,rfl,h,hg,c,k⟩
theorem fP {H:Hp} {p o:Addr} {s:PS} {Q:VK} {E:XK} {f:PS→PS} (h:Sd a H p o s) (c:s.out.length≤1000000) (k:∀H',Sd a H' p o (f s)→Fr p o H H'→Q .non H'):kq a f ([.ref p]++[]) H Q E:=⟨p,o,s,rfl,h,c,k⟩
noncomputable def fu (s:PS) (sd:Int) (g:SG):PS:=jt (((dJ s sd g.fF g.number).cZ 1).fS (1+64*g.window))
theorem Cc (T:TX K mg a):Ok P w K mg base a Br 2 (spG a (fun _ _ _=>True) fu):=by
 refine fo T 57 fun S H hr h=>?_;obtain ⟨p,o,q,rq,dq,dx,s,sd,g,rfl,hs,hg,_,k⟩:=h;refine ⟨_,(aa (aj (pm (pv 0) (jC T) hr (af (pv 1) (af (pf 2) (pa1 (pf 2))))))
  (aa (sf 0 ag)
  (aa (sf 0 (ay bt ag (ay gP ag (pf 2))))
  (ae (aj (pm0 (pv 0) (kN T) hr)))))),?_⟩
 show aP _ _ _ [some (.ref p),some (.int sd),some (.ref q)] H;tm_at "ck";have hq:=hg.obj;tm_at "sx";rename_i H1 h1 f1 H2 h2 f2;have hq2:=((hg.fr hs f1).fr h1 f2).obj;tm_at "sx";exact k _ (by assumption) (by tm_at "fr")
noncomputable def oK (s:PS) (sd:Int) (g:SG):PS:=
 if fE g 8=true then s else if fE g 4=true then oZ s sd g else if fE g 1=true then sR ((fu s sd g).br 3) else s
theorem pZ (T:TX K mg a):Ok P w K mg base a hC 8 (spG a (fun s _ _=>s.out.length≤1000000) oK):=by
 refine fo T 58 fun S H hr h=>?_;obtain ⟨p,o,q,rq,dq,dx,s,sd,g,rfl,hs,hg,hz,k⟩:=h;refine ⟨_,(aa (si (aJ (pmG (pv 2) (aN T) hr (pa1 (pgi T 3)))) (ae gh))
  (ae (eU (aJ (pmG (pv 2) (aN T) hr (pa1 (pgi T 2)))) (ae (aj (pc (rW T) hr (af (pv 0) (af (pv 1) (pa1 (pv 2))))))) (ae (si (aJ (pmG (pv 2) (aN T) hr (pa1 (pgi T 0)))) (aa (aj (pc (Cc T) hr (af (pv 0) (af (pv 1) (pa1 (pv 2))))))
  (aa (sf 0 (pgi T 14))
  (ae (aj (pc (zK T) hr (pa1 (pv 0)))))))))))),?_⟩
 show aP _ _ _ [some (.ref p),some (.int sd),some (.ref q)] H;tm_at "ck";have hq:=hg.obj;unfold oK at k;tm_at "sx"
 ·rename_i h1
  rw [if_pos h1] at k;exact k _ hs Fr.refl
 ·rename_i h1 h2
  rw [if_neg h1,if_pos h2] at k;exact ⟨p,o,q,rq,dq,dx,s,sd,g,rfl,hs,hq,hz,fun H9 h9 f9=>k _ h9 f9⟩
 ·rename_i h1 h2 h3
  rw [if_neg h1,if_neg h2,if_pos h3] at k;refine vR hs hg trivial (fun H1 m1 f1=>?_);tm_at "sx";exact fP (s:=(fu s sd g).br 3) (by assumption) hz (fun H9 h9 f9=>k _ h9 (by tm_at "fr"))
 ·rename_i h1 h2 h3
  rw [if_neg h1,if_neg h2,if_neg h3] at k;exact k _ hs Fr.refl
noncomputable def pX (s:PS):PS:=((((dO (s.br 4) 1).jN 1).dg 0).dE none)
noncomputable def mR (s:PS):PS:=bJ (bP (pX s))
structure yU (s:PS):Prop where
 o:(pX s).out.length≤1000000
 c:jM (bP (pX s))
theorem vq (T:TX K mg a):Ok P w K mg base a kU 10 (spB a yU mR):=by
 refine fo T 60 fun S H hr h=>?_;obtain ⟨p,o,s,rfl,hs,ok,k⟩:=h;refine ⟨_,(aa (sf 0 (pgi T 15))
  (aa (aj (pc (vm T) hr (af (pv 0) (pa1 ag))))
  (aa (sf 0 ag)
  (aa (sf 0 ag)
  (aa (sf 0 iF)
  (aa (aj (pc (gs T) hr (pa1 (pv 0))))
  (ae (aj (pc (jm T) hr (pa1 (pv 0))))))))))),?_⟩
 show aP _ _ _ [some (.ref p)] H;tm_at "ck";tm_at "sx";refine fP (s:=pX s) (by assumption) ok.o (fun H1 h1 f1=>?_);tm_at "sx";exact ⟨p,o,_,rfl,h1,ok.c,fun H9 h9 f9=>k _ h9 (by tm_at "fr")⟩
noncomputable def di (s:PS) (g:SG):Bool:=fE g 4 && decide (bE g.acked s.base s.top=V.int 1)
noncomputable def lR (s:PS) (sd:Int) (g:SG):PS:=
 if fE g 8=true then (if di s g=true then finish s 2 else s)
 else if fE g 4=true∧¬di s g=true then oZ s sd g
 else if fE g 1=true then (if di s g=true then mR (fu s sd g) else jW ((fu s sd g).br 3))
 else s
structure yX (s:PS) (sd:Int) (g:SG):Prop where
 z:s.out.length≤1000000
 o:yU (fu s sd g)
theorem rY (T:TX K mg a):Ok P w K mg base a jy 11 (spG a yX lR):=by
 refine fo T 59 fun S H hr h=>?_;obtain ⟨p,o,q,rq,dq,dx,s,sd,g,rfl,hs,hg,ok,k⟩:=h;refine ⟨_,(aa (sn S 3 (fL (pmG (pv 2) (aN T) hr (pa1 (pgi T 2))) (iE (peR bb (pc (fZ T) hr (af (pf 2) (af (pf 0) (pa1 (pf 0))))) ag))))
  (ae (eU (aJ (pmG (pv 2) (aN T) hr (pa1 (pgi T 3)))) (ae (si (aJ (pv 3)) (ae (aj (pm (pv 0) (cK T) hr (pa1 (pgi T 19))))))) (ae (eU (PW.pt (bQ (aJ (pmG (pv 2) (aN T) hr (pa1 (pgi T 2)))) (bS (cF (aJ (pv 3)))))) (ae (aj (pc (rW T) hr (af (pv 0) (af (pv 1) (pa1 (pv 2))))))) (ae (si (aJ (pmG (pv 2) (aN T) hr (pa1 (pgi T 0)))) (aa (aj (pc (Cc T) hr (af (pv 0) (af (pv 1) (pa1 (pv 2))))))
  (ae (eU (aJ (pv 3)) (ae (aj (pc (vq T) hr (pa1 (pv 0))))) (aa (sf 0 (pgi T 14))
  (ae (aj (pc (mq T) hr (pa1 (pv 0)))))))))))))))),?_⟩
 show aP _ _ _ [some (.ref p),some (.int sd),some (.ref q),none] H;tm_at "ck";have hq:=hg.obj;unfold lR at k;tm_at "sr"
 ·rename_i h4
  refine Lm (CY _ _ _ _) ?_;have ea:di s g=decide (bE g.acked s.base s.top=V.int 1):=by unfold di;rw [h4,Bool.true_and]
  rw [←ea];generalize di s g=ab at k ea ⊢;tm_at "sx"
  ·rename_i h8 hab H1 h1 f1
   rw [if_pos h8,if_pos hab] at k;exact k _ h1 f1
  ·rename_i h8 hab
   rw [if_pos h8,if_neg hab] at k;exact k _ hs Fr.refl
  ·rename_i h8 h4' hab
   rw [if_neg h8,if_pos ⟨h4,by simpa using hab⟩] at k;exact ⟨p,o,q,rq,dq,dx,s,sd,g,rfl,hs,hq,ok.z,fun H9 h9 f9=>k _ h9 f9⟩
  ·rename_i h8 h4' hab h1
   have hab:ab=true:=by simpa using hab
   rw [if_neg h8,if_neg (fun z=>z.2 hab),if_pos h1,if_pos hab] at k;subst hab;refine vR hs hg trivial (fun H1 m1 f1=>?_);tm_at "sx";exact m8 (s:=fu s sd g) m1 ok.o (fun H9 h9 f9=>k _ h9 (f1.trans f9))
  ·rename_i h8 h4' hab h1
   have hab:ab=true:=by simpa using hab
   rw [if_neg h8,if_neg (fun z=>z.2 hab),if_neg h1] at k;exact k _ hs Fr.refl
  ·rename_i h8 h4' h1
   exact absurd h4 h4'
  ·rename_i h8 h4' h1
   exact absurd h4 h4'
 ·rename_i h4 h8
  have ea:di s g=false:=by unfold di;rw [show fE g 4=false by simpa using h4,Bool.false_and]
  rw [if_pos h8,ea,if_neg Bool.false_ne_true] at k;exact k _ hs Fr.refl
 ·rename_i h4 h8 h4' _
  exact absurd h4' h4
 ·rename_i h4 h8 h4' _ _
  exact absurd h4' h4
 ·rename_i h4 h8 h4' _ _
  exact absurd h4' h4
 ·rename_i h4 h8 h4' h1
  have ea:di s g=false:=by unfold di;rw [show fE g 4=false by simpa using h4,Bool.false_and]
  rw [if_neg h8,if_neg (fun z=>h4 z.1),if_pos h1,ea,if_neg Bool.false_ne_true] at k;refine vR hs hg trivial (fun H1 m1 f1=>?_);tm_at "sx";exact fP (s:=(fu s sd g).br 3) (by assumption) ok.z (fun H9 h9 f9=>k _ h9 (by tm_at "fr"))
 ·rename_i h4 h8 h4' h1
  rw [if_neg h8,if_neg (fun z=>h4 z.1),if_neg h1] at k;exact k _ hs Fr.refl
end
section
variable {P:Program} {w:World} {K:PySem.W.Frag} {mg:Str→Option Value} {base:Heap} {a:AD}
noncomputable def aX (s:PS) (g:SG):Int:=match bE g.acked s.base s.top with
 | .int i=>i
 | _=>0
noncomputable def nI (a:AD):Sp:=fun vs H Q _=>∃(p o q rq dq dx:Addr) (s:PS) (g:SG),vs=[.ref p,.ref q]∧Sd a H p o s∧H q=some (.ins a.aA dx (eR rq dq g))∧Q (.int (aX s g)) H
theorem vr (T:TX K mg a):Ok P w K mg base a kX 2 (nI a):=by
 refine fo T 64 fun S H hr h=>?_;obtain ⟨p,o,q,rq,dq,dx,s,g,rfl,hs,hq,k⟩:=h;refine ⟨_,(aa (sn S 2 (pc (fZ T) hr (af (pf 1) (af (pf 0) (pa1 (pf 0))))))
  (aa (si (kM (nT (pv 2))) (ae (aw ag)))
  (ae (aw (pv 2))))),?_⟩
 show aP _ _ _ [some (.ref p),some (.ref q),none] H;tm_at "ck";unfold aX at k;rcases iG g.acked s.base s.top with e | ⟨i,e⟩
 ·tm_at "sr"
  all_goals (rw [e] at k)
  ·tm_at "sx"
   exact k
  ·rename_i h1
   exact absurd e h1
 ·tm_at "sr"
  all_goals (rw [e] at k)
  ·rename_i h1
   rw [e] at h1
   cases h1
  ·rw [e]
   tm_at "sx";exact k
noncomputable def xi (g:SG):Int:=(g.data.length:Int)+b1 (fE g 1)+b1 (fE g 2)
noncomputable def rm (s:PS) (g:SG):V→Bool
 | .int pl=>if 0<xi g then (if pl<s.edge then decide (s.wanted<pl+xi g) else false) else (if s.wanted≤pl then decide (pl≤s.edge+2) else false)
 | _=>false
noncomputable def GO (a:AD):Sp:=fun vs H Q _=>∃(p o q rq dq dx:Addr) (s:PS) (g:SG) (v:V),vs=[.ref p,.ref q,v]∧(v = .non∨∃i,v = .int i)∧Sd a H p o s∧SegX a H o q rq dq dx g∧∀H',aF H H'→Q (.bl (rm s g v)) H'
theorem HD (T:TX K mg a):Ok P w K mg base a Bs 2 (GO a):=by
 refine fo T 61 fun S H hr h=>?_;obtain ⟨p,o,q,rq,dq,dx,s,g,v,rfl,hv,hs,hg,k⟩:=h;refine ⟨_,(aa (si (kM (nT (pv 2))) (ae (aw iq)))
  (aa (sn S 3 (az aM rfl T.cW boot_len (pa1 (pf 1))))
  (aa (jY PassesOwn.never rfl (EF (pW (af (pgi T 0) (pa1 (pgi T 1))))) (d8 (i:=4) S.nd rfl (Or.inl rfl)) (ae (si (aJ (pmG (pv 1) (aN T) hr (pa1 (pv 4)))) (ae (sg S 3 ag Bj)))))
  (aa (si (ptR jB (pv 3) ag) (ae (aw (fL (peR eV (pv 2) (pf 0)) (iE (peR jB (ay bt (pv 2) (pv 3)) (pf 0)))))))
  (ae (aw (j0 eW eW (pf 0) (pv 2) (ay bt (pf 0) ag)))))))),?_⟩
 show aP _ _ _ [some (.ref p),some (.ref q),some (v),none,none] H;tm_at "ck";have hq:=hg.obj;have hd:=hg.data;rcases hv with rfl | ⟨pl,rfl⟩
 ·refine bO ?_
  refine DR ?_;refine Ig ?_;refine Gh ?_;refine v2 ?_;refine wX ?_;rw [decide_eq_true rfl];refine DS ?_;tm_at "sx";exact k H (aF.refl H)
 ·refine bO ?_
  refine DR ?_;refine Ig ?_;refine Gh ?_;refine v2 ?_;refine wX ?_;rw [decide_eq_false (by intro z;cases z)];refine Ay ?_;tm_at "sx";refine oP (by simp) (fun t H1 n1 s1 h1=>?_);have hs1:=hs.mono s1;have hq1:=(hg.mono s1).obj;refine KU h1 (fun i σ H'=>H'=H1∧∃v,σ=[some (.ref p),some (.ref q),some (.int pl),some (.int ((g.data.length:Int)+(if 1≤i then b1 (fE g 1) else 0)+(if 2≤i then b1 (fE g 2) else 0))),v]) ⟨rfl,none,by simp⟩ (fun i σ H' _ ⟨e,_⟩=>by rw [e];exact h1) ?_ ?_
  ·rintro i x σ H' hx ⟨rfl,v,rfl⟩
   match i,hx with
   | 0,hx =>
    have e:x=V.int 1:=(Option.some.inj hx).symm;subst e;tm_at "sx"
    ·rename_i hb
     exact ⟨rfl,some (.int 1),by simp [b1,hb]⟩
    ·rename_i hb
     exact ⟨rfl,some (.int 1),by simp [b1,hb]⟩
   | 1,hx =>
    have e:x=V.int 2:=(Option.some.inj hx).symm;subst e;tm_at "sx"
    ·rename_i hb
     exact ⟨rfl,some (.int 2),by simp [b1,hb]⟩
    ·rename_i hb
     exact ⟨rfl,some (.int 2),by simp [b1,hb]⟩
   | i+2,hx=>simp at hx
  ·rintro σ H' ⟨rfl,v,rfl⟩
   have k1:=k H' s1;have es:(g.data.length:Int)+(if 1≤[V.int 1,V.int 2].length then b1 (fE g 1) else 0)+(if 2≤[V.int 1,V.int 2].length then b1 (fE g 2) else 0)=xi g:=by unfold xi;simp
   rw [es];unfold rm at k1;tm_at "sx"
   all_goals (simp only [*,if_true,if_false] at k1;exact k1)
noncomputable def fv (s:PS) (pl:Int):PS:=if eC s.cj=V.non then (if s.wanted≤pl then (if pl≤s.edge then s.fU (some pl) else s) else s) else s
theorem yg (T:TX K mg a):Ok P w K mg base a oE 1 (zk a fv):=by
 refine fo T 69 fun S H hr h=>?_;obtain ⟨p,o,s,pl,rfl,hs,k⟩:=h;refine ⟨_,(ae (si (PW.pt (bQ (kM (nT (pf 0))) (bS (qT eW eW (pf 0) (pv 1) (pf 0))))) (ae (sf 0 (pv 1))))),?_⟩;show nE _ _ _ _ [some (.ref p),some (.int pl)] H;tm_at "ck";unfold fv at k;tm_at "sx"
 all_goals (simp only [*,if_true,if_false] at k;exact k _ (by assumption) (by tm_at "fr"))
noncomputable def ja (s:PS):PS:=
 if s.phase≠4 then s else if (!s.closing)=true then s else if s.first≤s.last then s else if (!s.bg)=true then s
 else if s.cB=true then (cx s).dE none else finish s 1
theorem nW (T:TX K mg a):Ok P w K mg base a fN 3 (spM a ja):=by
 refine fo T 71 fun S H hr h=>?_;obtain ⟨p,o,s,rfl,hs,k⟩:=h;refine ⟨_,(aa (si (PW.pt (gL (ptR vg (pf 0) (pgi T 15)) (gL (cF (aJ (pf 0))) (gL (ptR eW (pf 0) (pf 0)) (gK (cF (aJ (pf 0)))))))) (ae gh))
  (ae (eU (aJ (pf 0)) (aa (aj (pm0 (pv 0) (nY T) hr))
  (ae (sf 0 iF))) (ae (aj (pm (pv 0) (cK T) hr (pa1 (pgi T 18)))))))),?_⟩
 show aP _ _ _ [some (.ref p)] H;tm_at "ck";unfold ja at k;tm_at "sx"
 ·rename_i h1
  rw [if_pos h1] at k;exact k _ hs Fr.refl
 ·rename_i h1 h2
  rw [if_neg h1,if_pos h2] at k;exact k _ hs Fr.refl
 ·rename_i h1 h2 h3
  rw [if_neg h1,if_neg h2,if_pos h3] at k;exact k _ hs Fr.refl
 ·rename_i h1 h2 h3 h4
  rw [if_neg h1,if_neg h2,if_neg h3,if_pos h4] at k;exact k _ hs Fr.refl
 ·rename_i h1 h2 h3 h4 h5 _ _ _ _ _ _
  rw [if_neg h1,if_neg h2,if_neg h3,if_neg h4,if_pos h5] at k;exact k _ (by assumption) (by tm_at "fr")
 ·rename_i h1 h2 h3 h4 h5 _ _ _
  rw [if_neg h1,if_neg h2,if_neg h3,if_neg h4,if_neg h5] at k;exact k _ (by assumption) (by tm_at "fr")
end
section
variable {P:Program} {w:World} {K:PySem.W.Frag} {mg:Str→Option Value} {base:Heap} {a:AD}
theorem Es (x:Option Int) (i:Int):Et (eC x) (.int i)=true:=by cases x <;> rfl
theorem nR {H:Hp} {o q:Addr} {c:Pc} {l:List Pc} (h:bj H o q (c::l)):∃t cl vs,H q=some (.lst (.ref t::vs))∧H t=some (.tup [.int c.1,.ref cl])∧ax H cl c.2∧cl≠o∧Paired (mU H o) vs l:=by
 obtain ⟨vs,ev,pr⟩:=h
 cases pr with
 | cons ft pl =>
  obtain ⟨t,cl,rfl,h1,h2,h3⟩:=ft;exact ⟨t,cl,_,ev,h1,h2,h3,pl⟩
noncomputable def iC (s:PS):PS:=match s.pieces with
 | []=>s
 | c::l=>if c.1=s.wanted then ((s.iA l).iz (s.aH++c.2)).cZ (s.wanted+(c.2.length:Int)) else s
noncomputable def jO (s:PS):PS:=if eC s.cj=V.int s.wanted then ((s.cZ (s.wanted+1)).kL true).iB s.closing else s
noncomputable def gT (s:PS):PS:=jO (iC s)
noncomputable def wa (s:PS):Prop:=s.aH.length+dP s.pieces≤1000000
theorem zZ (c:Pc) (l:List Pc):dP (c::l)=c.2.length+dP l:=by unfold dP;rw [List.map_cons,List.sum_cons]
theorem rX (T:TX K mg a):Ok P w K mg base a jx 1 (spB a wa gT):=by
 refine fo T 70 fun S H hr h=>?_;rename_i Q E;obtain ⟨p,o,s,rfl,hs,ok,k⟩:=h;refine ⟨_,(aa (si (PW.pt (bQ (lH (pf 0) (fun _=>rfl)) (bS (ptR bb (aY cz (aY bc (pf 0) ag (fun _ _=>rfl)) ag (fun _ _=>rfl)) (pf 0))))) (aa (sn S 1 (aY cz (aY bc (pf 0) ag (fun _ _=>rfl)) ag (fun _ _=>rfl)))
  (aa (sf 0 (cG dm (pf 0) (bN ag) fC))
  (aa (sf 0 (ay cv (pf 0) (pv 1)))
  (ae (fB (pv 0) (az aM rfl T.cW boot_len (pa1 (pv 1))) mD))))))
  (ae (si (ptR bb (pf 0) (pf 0)) (aa (fB (pv 0) ag mD)
  (aa (sf 0 iq)
  (ae (sf 0 (pf 0)))))))),?_⟩
 show aP _ _ _ [some (.ref p),none] H;tm_at "ck";have sz:sizeLine=16777216:=sizeLine_eq;have fin:∀(d:Option V) (t:PS) (H1:Hp),t=iC s→Sd a H1 p o t→Fr p o H H1→
   rEq (eC t.cj) (V.int t.wanted) H1 fun x H'=>∃k,x=V.bl k∧if k=true then
    aP (xX K (aR 0) (tC (V.int 1)) Jp (Str.ofString "wanted"))
     (aP (lE K (aR 0) (tC (V.bl true)) (Str.ofString "has_ended"))
      (lE K (aR 0) (jg K (aR 0) (Str.ofString "closing")) (Str.ofString "closed_first")))
     { nx:=fun x H'=>Q V.non H',rt:=Q } [some (V.ref p),d] H'
    else qF { nx:=fun x H'=>Q V.non H',rt:=Q } [some (V.ref p),d] H':=by
  intro d t H1 et h1 f1;unfold gT jO at k;rw [←et] at k;refine Lm (Es _ _) ?_;tm_at "sx"
  ·rename_i h2 _ _ _ _ _ _ _ _ _
   rw [if_pos h2] at k;exact k _ (by assumption) (by tm_at "fr")
  ·rename_i h2
   rw [if_neg h2] at k;exact k _ h1 f1
 refine bO ?_;refine DR ?_;refine Gn ?_;refine vV ?_;refine v0 ?_;refine iD T hs (fun q0 hq0 nq0=>?_);obtain ⟨vs,ev,pr⟩:=hq0;refine ⟨_,.inl ⟨_,SqL.of ev,rfl⟩,?_⟩;have e0:iC s=match s.pieces with
  | []=>s
  | c::l=>if c.1=s.wanted then ((s.iA l).iz (s.aH++c.2)).cZ (s.wanted+(c.2.length:Int)) else s:=rfl
 unfold wa at ok;generalize hP:s.pieces=pcs at pr e0 ok
 cases pr with
 | nil =>
  refine Ay ?_;refine Ay ?_;tm_at "sr";exact fin none s H e0.symm hs Fr.refl
 | cons ft pl =>
  rename_i v0' c lt lc;refine DS ?_;have ok1:=zZ c lc;tm_at "sx";rename_i q1 hq1 nq1;rw [hP] at hq1;obtain ⟨t1,cl1,w1,a1,a2,a3,a4,a5⟩:=nR hq1;refine Cq (j:=0) a1 rfl ?_;tm_at "sx";refine eT a2 ?_;tm_at "sr"
  ·rename_i hc q2 hq2 nq2
   rw [hP] at hq2;obtain ⟨t2,cl,w2,c1,c2,c3,c4,c5⟩:=nR hq2;refine Cq (j:=0) c1 rfl ?_;tm_at "sx";refine ig c2 ?_;tm_at "sx";rename_i q3 hq3 nq3;rw [hP] at hq3;obtain ⟨t3,cl3,w3,d1,d2,d3,d4,d5⟩:=nR hq3;refine Cp d1 (fun q4 H4 n4 s4 e4=>?_);rw [show (1:Int)=((1:Nat):Int) from rfl,iR] at e4;obtain ⟨ws,eo⟩:=hs.two.o;have hs4:=hs.mono s4;have p4:bj H4 o q4 lc:=⟨w3,e4,Paired.imp (fun v r ⟨u,l,e1,e2,e3,e5⟩=>⟨u,l,e1,s4 _ _ e2,s4 _ _ e3,e5⟩) d5⟩;have cl4:ax H4 cl c.2:=s4 _ _ c3;tm_at "sx";refine xh T hs4 p4 (ai eo n4).symm (fun H5 h5 f5=>?_);have cl5:=cl4.fr hs4.two f5 c4;tm_at "sx";rename_i q6 hq6 nq6;refine cV hq6 cl5 (by show s.aH.length+_≤_;tm_at "ob") (fun q7 H7 n7 s7 h7=>?_);obtain ⟨ws5,eo5⟩:=h5.two.o;have hs7:=h5.mono s7;tm_at "sx";refine xg T hs7 h7 (ai eo5 n7).symm (fun H8 h8 f8=>?_);have cl8:=(cl5.mono s7).fr hs7.two f8 c4;tm_at "sr";rename_i H9 h9 f9;refine fin _ _ H9 ?_ h9 ((aF.fr s4).trans (f5.trans ((aF.fr s7).trans (f8.trans f9))));rw [e0];simp only [hc,if_true];rfl
  ·rename_i hc
   refine fin none s H ?_ hs Fr.refl;rw [e0];simp only [hc,if_false]
end
section
variable {P:Program} {w:World} {K:PySem.W.Frag} {mg:Str→Option Value} {base:Heap} {a:AD}
noncomputable def gc (s:PS) (data:List Int) (pl:Int):PS:=
 if max pl s.wanted<min (pl+(data.length:Int)) s.edge then (if (!s.bg)=true then
  s.iA (ll s.pieces (max pl s.wanted) (eS data (some (max pl s.wanted - pl)) (some (min (pl+(data.length:Int)) s.edge - pl)))) else s) else s
structure IW (s:PS) (data:List Int):Prop where
 n:s.pieces.length≤100000
 l:data.length+dP s.pieces≤100000
noncomputable def qN (a:AD):Sp:=fun vs H Q _=>∃(p o dq:Addr) (s:PS) (data:List Int) (pl:Int),vs=[.ref p,.ref dq,.int pl]∧Sd a H p o s∧ax H dq data∧IW s data∧∀H',Sd a H' p o (gc s data pl)→Fr p o H H'→Q .non H'
theorem yk (T:TX K mg a):Ok P w K mg base a oI 2 (qN a):=by
 refine fo T 68 fun S H hr h=>?_;obtain ⟨p,o,dq,s,data,pl,rfl,hs,hd,ok,k⟩:=h;refine ⟨_,(aa (sn S 3 (az (bz rfl) rfl T.ik boot_max (af (pv 2) (pa1 (pf 0)))))
  (aa (sn S 4 (az (eI rfl) rfl T.mW boot_min (af (ay bt (pv 2) (az aM rfl T.cW boot_len (pa1 (pv 1)))) (pa1 (pf 0)))))
  (ae (si (PW.pt (bQ (ptR eV (pv 3) (pv 4)) (bS (cF (aJ (pf 0)))))) (ae (sf 0 (pc (wJ T) hr (af (pf 0) (af (pv 3) (pa1 (cG dm (pv 1) (bN (ay bC (pv 3) (pv 2))) (bN (ay bC (pv 4) (pv 2)))))))))))))),?_⟩
 show aP _ _ _ [some (.ref p),some (.ref dq),some (.int pl),none,none] H;tm_at "ck";obtain ⟨ws,eo⟩:=hs.two.o;unfold gc at k;tm_at "sx"
 ·rename_i h1 h2 q1 hq1 nq1
  rw [if_pos h1,if_pos h2] at k;refine ni hd (fun q2 H2 n2 s2 e2=>?_);have l2:=oJ data (some (max pl s.wanted - pl)) (some (min (pl+(data.length:Int)) s.edge - pl));tm_at "sx";have okl:=ok.l;refine ⟨q1,o,q2,s.pieces,_,_,rfl,hq1.mono s2,e2,⟨ws,s2 _ _ eo⟩,(ai eo n2).symm,ok.n,by omega,fun q3 H3 n3 s3 h3=>?_⟩;have s03:=s2.trans s3;tm_at "sx";refine xh T (hs.mono s03) h3 (ai (s2 _ _ eo) n3).symm (fun H4 h4 f4=>?_);exact k _ h4 ((aF.fr s03).trans f4)
 ·rename_i h1 h2
  rw [if_pos h1,if_neg h2] at k;exact k _ hs Fr.refl
 ·rename_i h1
  rw [if_neg h1] at k;exact k _ hs Fr.refl
end
section
variable {X:Cx} {e1 e2 e3 e4:Expr} {t1 t2 t3 t4:TE} {pos:Pos}
noncomputable def xI (r r' r'':R2) (ta tb tc td:TE):TT:=fun σ H Q=>ta σ H fun x H1=>tb σ H1 fun y H2=>r x y H2 fun z H3=>∃k,z = .bl k∧
 (if k=true then tc σ H3 fun y' H4=>r' y y' H4 fun z' H5=>∃k',z' = .bl k'∧(if k'=true then td σ H5 fun y2 H6=>r'' y' y2 H6 fun z2 H7=>∃k2,z2 = .bl k2∧Q k2 H7 else Q false H5) else Q false H3)
theorem De {o1 o2 o3:CmpOp} {r r' r'':R2} (h1:OpR X (compareOp o1) r) (h2:OpR X (compareOp o2) r') (h3:OpR X (compareOp o3) r'') (ha:PE X e1 t1) (hb:PE X e2 t2) (hc:PE X e3 t3) (hd:PE X e4 t4)
  (hm:lastMarks [o1,o2,o3] [e2,e3,e4]=false:=by with_unfolding_all rfl):PT X (.Compare e1 [o1,o2,o3] [e2,e3,e4] pos) (xI r r' r'' t1 t2 t3 t4):=by
 intro pins s σ H Q I h;refine isTrue_chain (thn (ha pins s σ H _ I h) fun v s1 ⟨x,H1,I1,r1,q1⟩=>?_) hm;refine test_link (thn (hb pins s1 σ H1 _ I1 q1) fun u s2 ⟨y,H2,I2,r2,q2⟩=>?_);refine thn (h1 pins s2 σ H2 x y v u _ I2 r1 r2 q2) fun d s3 ⟨z,H3,I3,r3,k,ek,q3⟩=>?_;subst ek
 cases r3
 refine wpAny_truthy_bool ?_
 cases k with
 | false=>exact ite_ff ⟨H3,I3,q3⟩
 | true =>
  refine ite_tt (test_link (thn (hc pins s3 σ H3 _ I3 q3) fun u' s4 ⟨y',H4,I4,r4,q4⟩=>?_));refine thn (h2 pins s4 σ H4 y y' u u' _ I4 r2 r4 q4) fun d' s5 ⟨z',H5,I5,r5,k',ek',q5⟩=>?_;subst ek'
  cases r5
  refine wpAny_truthy_bool ?_
  cases k' with
  | false=>exact ite_ff ⟨H5,I5,q5⟩
  | true =>
   refine ite_tt (test_last (thn (hd pins s5 σ H5 _ I5 q5) fun u2 s6 ⟨y2,H6,I6,r6,q6⟩=>?_));refine thn (h3 pins s6 σ H6 y' y2 u' u2 _ I6 r4 r6 q6) fun d2 s7 ⟨z2,H7,I7,r7,k2,ek2,q7⟩=>?_;subst ek2
   cases r7
   exact wpAny_truthy_bool ⟨H7,I7,q7⟩
end
theorem Gk {r r' r'':R2} {ta tb tc td:TE} {σ:L2.St} {H:Hp} {Q:Bool→Hp→Prop} (k:ta σ H fun x H1=>tb σ H1 fun y H2=>r x y H2 fun z H3=>∃k,z = .bl k∧
 (if k=true then tc σ H3 fun y' H4=>r' y y' H4 fun z' H5=>∃k',z' = .bl k'∧(if k'=true then td σ H5 fun y2 H6=>r'' y' y2 H6 fun z2 H7=>∃k2,z2 = .bl k2∧Q k2 H7 else Q false H5) else Q false H3)):xI r r' r'' ta tb tc td σ H Q:=k
instance {r r' r'':R2} {ta tb tc td:TE} {σ:L2.St} {H:Hp} {Q:Bool→Hp→Prop}:Stp (xI r r' r'' ta tb tc td σ H Q) (ta σ H fun x H1=>tb σ H1 fun y H2=>r x y H2 fun z H3=>∃k,z = .bl k∧
 (if k=true then tc σ H3 fun y' H4=>r' y y' H4 fun z' H5=>∃k',z' = .bl k'∧(if k'=true then td σ H5 fun y2 H6=>r'' y' y2 H6 fun z2 H7=>∃k2,z2 = .bl k2∧Q k2 H7 else Q false H5) else Q false H3)):=⟨Gk⟩
noncomputable def Gx (K:PySem.W.Frag) (x:V) (H:Hp) (Q:VK):Prop:=∃k,Iy K x H k∧Q (.bl (!k)) H
theorem vS {K:PySem.W.Frag} {ta:TE} {σ:L2.St} {H:Hp} {Q:VK} (k:ta σ H fun x H1=>Gx K x H1 Q):qE K ta σ H Q:=k
instance {K:PySem.W.Frag} {ta:TE} {σ:L2.St} {H:Hp} {Q:VK}:Stp (qE K ta σ H Q) (ta σ H fun x H1=>Gx K x H1 Q):=⟨vS⟩
theorem Bz {K:PySem.W.Frag} {b:Bool} {H:Hp} {Q:VK} (k:Q (.bl (!b)) H):Gx K (.bl b) H Q:=⟨b,rfl,k⟩
instance {K:PySem.W.Frag} {b:Bool} {H:Hp} {Q:VK}:Stp (Gx K (.bl b) H Q) (Q (.bl (!b)) H):=⟨Bz⟩
theorem F1 {K:PySem.W.Frag} {q:Addr} {xs:List V} {H:Hp} {Q:VK} (h:H q=some (.lst xs)) (k:Q (.bl xs.isEmpty) H):Gx K (.ref q) H Q:=⟨!xs.isEmpty,.inl ⟨xs,SqL.of h,rfl⟩,by rw [Bool.not_not];exact k⟩
section
variable {P:Program} {w:World} {K:PySem.W.Frag} {mg:Str→Option Value} {base:Heap} {a:AD}
noncomputable def cU (s:PS) (ak:Int) (r:Int×Int):PS:=match bE r.1 s.base s.top,bE r.2 s.base s.top with
 | .int st,.int bh=>if max ak s.first<st then (if st<bh then (if bh≤s.top then s.gI (gw s.held st bh) else s) else s) else s
 | _,_=>s
noncomputable def Ae (s:PS) (g:SG) (ak:Int):PS:=g.ranges.foldl (fun s r=>cU s ak r) s
noncomputable def wc (ak:Int):List (Int×Int)→PS→Prop
 | [],_=>True
 | r::l,s=>s.held.length≤100000∧wc ak l (cU s ak r)
noncomputable def qM (a:AD):Sp:=fun vs H Q _=>∃(p o q rq dq dx:Addr) (s:PS) (g:SG) (ak:Int),vs=[.ref p,.ref q,.int ak]∧Sd a H p o s∧SegX a H o q rq dq dx g∧wc ak g.ranges s∧∀H',Sd a H' p o (Ae s g ak)→Fr p o H H'→Q .non H'
theorem xr {ak:Int}:∀(l:List (Int×Int)) (s:PS) (i:Nat) (r:Int×Int),wc ak l s→l[i]? = some r→((l.take i).foldl (fun s r=>cU s ak r) s).held.length≤100000
 | [],_,_,_,_,h=>by simp at h
 | _::_,_,0,_,h,_=>h.1
 | _::l,s,i+1,r,h,e=>xr l _ i r h.2 (by simpa using e)
theorem yi (T:TX K mg a):Ok P w K mg base a oG 2 (qM a):=by
 refine fo T 66 fun S H hr h=>?_;obtain ⟨p,o,q,rq,dq,dx,s,g,ak,rfl,hs,hg,ok,k⟩:=h;refine ⟨_,(ae (jY PassesOwn.never rfl (gM (pf 1)) (d8 (i:=3) S.nd rfl (Or.inl rfl)) (aa (sn S 4 (pc (fZ T) hr (af (aY cz (pv 3) ag (fun _ _=>rfl)) (af (pf 0) (pa1 (pf 0))))))
  (aa (sn S 5 (pc (fZ T) hr (af (aY cz (pv 3) ag (fun _ _=>rfl)) (af (pf 0) (pa1 (pf 0))))))
  (aa (si (PW.pt (gL (kM (nT (pv 4))) (gK (kM (nT (pv 5)))))) (ae zy))
  (ae (si (De eV eV eW (az (bz rfl) rfl T.ik boot_max (af (pv 2) (pa1 (pf 0)))) (pv 4) (pv 5) (pf 0)) (ae (sf 0 (pc (wI T) hr (af (pf 0) (af (pv 4) (pa1 (pv 5)))))))))))))),?_⟩
 show zc _ _ _ _ [some (.ref p),some (.ref q),some (.int ak),none,none,none] H;tm_at "ck";have hq:=hg.obj;obtain ⟨vs,ev,pr⟩:=id hg.ranges;have tw:=hs.two;tm_at "sx";refine forL ev (fun i σ H'=>∃v1 v2 v3,σ=[some (.ref p),some (.ref q),some (.int ak),v1,v2,v3]∧Fr p o H H'∧Sd a H' p o ((g.ranges.take i).foldl (fun s r=>cU s ak r) s)) ⟨none,none,none,rfl,Fr.refl,hs⟩ (fun i σ H' _ ⟨_,_,_,_,f,_⟩=>f _ _ ev (tw.lst ev) hg.uo) ?_ ?_
 ·rintro i z σ H' hz ⟨v1,v2,v3,rfl,f,hs'⟩
  obtain ⟨r,hri,t,rfl,ht⟩:=dh pr hz;have hlen:=xr _ _ i r ok hri;have ht':=f _ _ ht (tw.tup ht).1 (tw.tup ht).2;rw [foldl_take_succ _ _ _ _ _ hri];generalize (g.ranges.take i).foldl (fun s r=>cU s ak r) s=s' at hs' hlen ⊢;obtain ⟨ws,eo⟩:=hs'.two.o;tm_at "sx";refine eT ht' ?_;tm_at "sx";refine ig ht' ?_;tm_at "sx"
  ·rename_i h1
   have e:cU s' ak r=s':=by unfold cU;rw [h1]
   rw [e];exact ⟨_,_,_,rfl,f,hs'⟩
  ·rename_i h1 h2
   obtain ⟨st,e1⟩:=(iG r.1 s'.base s'.top).resolve_left h1;have e:cU s' ak r=s':=by unfold cU;rw [e1,h2]
   rw [e];exact ⟨_,_,_,rfl,f,hs'⟩
  ·rename_i h1 h2
   obtain ⟨st,e1⟩:=(iG r.1 s'.base s'.top).resolve_left h1;obtain ⟨bh,e2⟩:=(iG r.2 s'.base s'.top).resolve_left h2;have e:cU s' ak r=if max ak s'.first<st then (if st<bh then (if bh≤s'.top then s'.gI (gw s'.held st bh) else s') else s') else s':=by unfold cU;rw [e1,e2]
   rw [e,e1,e2];tm_at "sx"
   ·rename_i c1 c2 c3 q2 hq2 nq2
    rw [if_pos c1,if_pos c2,if_pos c3];refine ⟨q2,_,st,bh,rfl,hq2,hlen,fun q3 H3 n3 s3 h3=>?_⟩;tm_at "sx";refine xM T (hs'.mono s3) h3 (ai eo n3).symm (fun H4 h4 f4=>?_);exact ⟨_,_,_,rfl,f.trans ((aF.fr s3).trans f4),h4⟩
   ·rename_i c1 c2 c3
    rw [if_pos c1,if_pos c2,if_neg c3];exact ⟨_,_,_,rfl,f,hs'⟩
   ·rename_i c1 c2
    rw [if_pos c1,if_neg c2];exact ⟨_,_,_,rfl,f,hs'⟩
   ·rename_i c1
    rw [if_neg c1];exact ⟨_,_,_,rfl,f,hs'⟩
 ·rintro σ H' ⟨v1,v2,v3,rfl,f,hs'⟩
  rw [Paired.len pr,List.take_length] at hs';exact k _ hs' f
end
section
variable {P:Program} {w:World} {K:PySem.W.Frag} {mg:Str→Option Value} {base:Heap} {a:AD}
noncomputable def jT (s:PS) (g:SG) (pl:Int):PS:=if fE g 2=true then fv (gc s g.data pl) (pl+(g.data.length:Int)) else gc s g.data pl
noncomputable def uI (s:PS) (g:SG) (pl:Int):PS:=gT (jT s g pl)
noncomputable def inOrder (s s3:PS):Bool:=!decide (0<(s.pieces.length:Int)) && (s3.pieces.isEmpty && decide (s.wanted<s3.wanted))
noncomputable def nU (s s3:PS) (g:SG):PS:=
 if s3.owed=0 then (if inOrder s s3=true then (if (!fE g 2)=true then (s3.fk 1).jj (some (s3.now+40)) else s3.fk 2) else s3.fk 2) else s3.fk 2
noncomputable def jU (s:PS) (g:SG) (pl:Int):PS:=if g.data.isEmpty=true∧(!fE g 2)=true then s else nU s (uI s g pl) g
structure yQ (s:PS) (g:SG) (pl:Int):Prop where
 a:IW s g.data
 r:wa (jT s g pl)
noncomputable def lZ (a:AD):Sp:=fun vs H Q _=>∃(p o q rq dq dx:Addr) (s:PS) (g:SG) (pl:Int),vs=[.ref p,.ref q,.int pl]∧Sd a H p o s∧SegX a H o q rq dq dx g∧yQ s g pl∧∀H',Sd a H' p o (jU s g pl)→Fr p o H H'→Q .non H'
theorem yb {α β:Type} {F:α→β→Prop} {l:List α} {m:List β} (h:Paired F l m):l.isEmpty=m.isEmpty:=by cases h <;> rfl
theorem px (l:List Int):(l.map V.int).isEmpty=l.isEmpty:=by cases l <;> rfl
theorem yd (T:TX K mg a):Ok P w K mg base a ot 3 (lZ a):=by
 refine fo T 67 fun S H hr h=>?_;rename_i Q E;obtain ⟨p,o,q,rq,dq,dx,s,g,pl,rfl,hs,hg,ok,k⟩:=h;refine ⟨_,(aa (si (PW.pt (bQ (cF (lH (pf 1) (fun _=>rfl))) (bS (cF (aJ (pmG (pv 1) (aN T) hr (pa1 (pgi T 1)))))))) (ae gh))
  (aa (sn S 3 (peR jB (az aM rfl T.cW boot_len (pa1 (pf 0))) ag))
  (aa (sn S 4 (pf 0))
  (aa (aj (pc (yk T) hr (af (pv 0) (af (pf 1) (pa1 (pv 2))))))
  (aa (si (aJ (pmG (pv 1) (aN T) hr (pa1 (pgi T 1)))) (ae (aj (pc (yg T) hr (af (pv 0) (pa1 (ay bt (pv 2) (az aM rfl T.cW boot_len (pa1 (pf 1))))))))))
  (aa (aj (pc (rX T) hr (pa1 (pv 0))))
  (aa (sn S 5 (fL (uq (pv 3)) (fL (uq (pf 0)) (iE (peR jB (pf 0) (pv 4))))))
  (ae (eU (PW.pt (bQ (ptR bb (pf 0) ag) (bQ (aJ (pv 5)) (bS (cF (aJ (pmG (pv 1) (aN T) hr (pa1 (pgi T 1))))))))) (aa (sf 0 ag)
  (ae (sf 0 (ay bt (pf 0) (pgi T 28))))) (ae (sf 0 ag))))))))))),?_⟩
 show aP _ _ _ [some (.ref p),some (.ref q),some (.int pl),none,none,none] H;tm_at "ck";have hq:=hg.obj;have hd:=hg.data;unfold jU at k;have fin:∀(H1:Hp) (s3:PS),s3=uI s g pl→Sd a H1 p o s3→SegX a H1 o q rq dq dx g→Fr p o H H1→(∀H',Sd a H' p o (nU s s3 g)→Fr p o H H'→Q .non H')→
   (aP
     (uJ (qG (qE K (aR 3)) (qG (qE K (jg K (aR 0) (Str.ofString "pieces"))) (tOp (rI0 fun i j=>V.bl (decide (j<i))) (jg K (aR 0) (Str.ofString "wanted")) (aR 4)))) (da 5))
     (nE (xK (ly (tOp rEq (jg K (aR 0) (Str.ofString "owed")) (tC (V.int 0)))) (xK (tB (aR 5)) (CO (tB (mX a.aA (Str.ofString "has") (pP a) [] E0 (aR 1) (bM (tC (V.int 2)) fR))))))
      (aP (lE K (aR 0) (tC (V.int 1)) (Str.ofString "owed")) (lE K (aR 0) (tOp (rI0 fun i j=>V.int (i+j)) (jg K (aR 0) (Str.ofString "now")) (tC (V.int 40))) (Str.ofString "ack_due")))
      (lE K (aR 0) (tC (V.int 2)) (Str.ofString "owed")))) { nx:=fun x H'=>Q V.non H',rt:=Q } [some (V.ref p),some (V.ref q),some (V.int pl),some (V.bl (decide (0<(s.pieces.length:Int)))),some (V.int s.wanted),none] H1:=by
  intro H1 s3 e3 h1 hg1 f1 k1;have hq1:=hg1.obj;unfold nU at k1;have done:∀(b:Bool),inOrder s s3=b→(nE (xK (ly (tOp rEq (jg K (aR 0) (Str.ofString "owed")) (tC (V.int 0)))) (xK (tB (aR 5)) (CO (tB (mX a.aA (Str.ofString "has") (pP a) [] E0 (aR 1) (bM (tC (V.int 2)) fR))))))
      (aP (lE K (aR 0) (tC (V.int 1)) (Str.ofString "owed")) (lE K (aR 0) (tOp (rI0 fun i j=>V.int (i+j)) (jg K (aR 0) (Str.ofString "now")) (tC (V.int 40))) (Str.ofString "ack_due")))
      (lE K (aR 0) (tC (V.int 2)) (Str.ofString "owed"))) { nx:=fun x H'=>Q V.non H',rt:=Q } [some (V.ref p),some (V.ref q),some (V.int pl),some (V.bl (decide (0<(s.pieces.length:Int)))),some (V.int s.wanted),some (V.bl b)] H1:=by
   intro b eb;rw [eb] at k1;tm_at "sx"
   ·rename_i c1 c2 c3 _ _ _ _ _ _
    rw [if_pos c1,if_pos c2,if_pos c3] at k1;exact k1 _ (by assumption) (by tm_at "fr")
   ·rename_i c1 c2 c3 _ _ _
    rw [if_pos c1,if_pos c2,if_neg c3] at k1;exact k1 _ (by assumption) (by tm_at "fr")
   ·rename_i c1 c2 _ _ _
    rw [if_pos c1,if_neg c2] at k1;exact k1 _ (by assumption) (by tm_at "fr")
   ·rename_i c1 _ _ _
    rw [if_neg c1] at k1;exact k1 _ (by assumption) (by tm_at "fr")
  refine bO ?_;refine Cr ?_;refine vW ?_;refine vS ?_;refine v3 ?_;refine Bz ?_;refine wX ?_;refine ki (fun g1=>?_) (fun g1=>?_)
  ·refine vW ?_
   refine vS ?_;refine vV ?_;refine v0 ?_;refine iD T h1 (fun qq hqq nqq=>?_);obtain ⟨vs,ev,pr⟩:=hqq;refine F1 ev ?_;have evs:vs.isEmpty=s3.pieces.isEmpty:=yb pr;rw [evs];refine wX ?_;refine ki (fun g2=>?_) (fun g2=>?_)
   ·refine Ii ?_
    refine vV ?_;refine v0 ?_;refine C8 T h1 ?_;refine v4 ?_;refine BC ?_;refine g5 ?_;exact done _ (by unfold inOrder;rw [g1,g2,Bool.true_and,Bool.true_and])
   ·refine g5 ?_
    exact done _ (by unfold inOrder;rw [Bool.eq_false_iff.mpr g2,Bool.false_and,Bool.and_false])
  ·refine g5 ?_
   exact done _ (by unfold inOrder;rw [Bool.eq_false_iff.mpr g1,Bool.false_and])
 have main:(aP (uJ (tOp (rI0 fun i j=>V.bl (decide (j<i))) (tCB (zw K) (bM (jg K (aR 0) (Str.ofString "pieces")) fR)) (tC (V.int 0))) (da 3))
   (aP (uJ (jg K (aR 0) (Str.ofString "wanted")) (da 4))
   (aP (fJ (il (qN a) [] E0 (bM (aR 0) (bM (jg K (aR 1) (Str.ofString "data")) (bM (aR 2) fR)))))
   (aP (nE (tB (mX a.aA (Str.ofString "has") (pP a) [] E0 (aR 1) (bM (tC (V.int 2)) fR)))
     (fJ (il (zk a fv) [] E0 (bM (aR 0) (bM (tOp (rI0 fun i j=>V.int (i+j)) (aR 2) (tCB (zw K) (bM (jg K (aR 1) (Str.ofString "data")) fR))) fR)))) qF)
   (aP (fJ (il (spB a wa gT) [] E0 (bM (aR 0) fR)))
    (aP
     (uJ (qG (qE K (aR 3)) (qG (qE K (jg K (aR 0) (Str.ofString "pieces"))) (tOp (rI0 fun i j=>V.bl (decide (j<i))) (jg K (aR 0) (Str.ofString "wanted")) (aR 4)))) (da 5))
     (nE (xK (ly (tOp rEq (jg K (aR 0) (Str.ofString "owed")) (tC (V.int 0)))) (xK (tB (aR 5)) (CO (tB (mX a.aA (Str.ofString "has") (pP a) [] E0 (aR 1) (bM (tC (V.int 2)) fR))))))
      (aP (lE K (aR 0) (tC (V.int 1)) (Str.ofString "owed")) (lE K (aR 0) (tOp (rI0 fun i j=>V.int (i+j)) (jg K (aR 0) (Str.ofString "now")) (tC (V.int 40))) (Str.ofString "ack_due")))
      (lE K (aR 0) (tC (V.int 2)) (Str.ofString "owed")))))))))
   { nx:=fun x H'=>Q V.non H',rt:=Q } [some (V.ref p),some (V.ref q),some (V.int pl),none,none,none] H∨(g.data.isEmpty=true∧(!fE g 2)=true):=by
  by_cases hz:g.data.isEmpty=true∧(!fE g 2)=true
  ·exact .inr hz
  refine .inl ?_;rw [if_neg hz] at k;have okr:=ok.r;unfold uI at fin;tm_at "sx";refine ⟨p,o,dq,s,g.data,pl,rfl,hs,hd,ok.a,fun H1 h1 f1=>?_⟩;have hg1:=hg.fr hs f1;have hq1:=hg1.obj;have hd1:=hg1.data;unfold uI at k;tm_at "sn"
  ·rename_i he H2 h2 f2
   have e2:jT s g pl=fv (gc s g.data pl) (pl+(g.data.length:Int)):=by unfold jT;rw [if_pos he]
   rw [e2] at okr k fin;exact m8 h2 okr (fun H3 h3 f3=>fin H3 _ rfl h3 ((hg1.fr h1 f2).fr h2 f3) (f1.trans (f2.trans f3)) k)
  ·rename_i he
   have e2:jT s g pl=gc s g.data pl:=by unfold jT;rw [if_neg he]
   rw [e2] at okr k fin;exact m8 h1 okr (fun H3 h3 f3=>fin H3 _ rfl h3 (hg1.fr h1 f3) (f1.trans f3) k)
 refine bO ?_;refine DR ?_;refine Gn ?_;refine F8 ?_;refine vV ?_;refine v1 ?_;refine BZ T hq ?_;refine ⟨_,.inl ⟨_,SqL.of hd,rfl⟩,?_⟩;rw [px];dsimp only;rw [Bool.not_not];rcases main with main | hz
 ·refine ki (fun z1=>?_) (fun z1=>?_)
  ·refine F8 ?_
   refine Ig ?_;refine BB ?_;refine v1 ?_;refine sj hq ?_;refine BD ?_;refine b_c ?_;refine Gc ?_;refine yJ hq ?_;refine wX ?_;refine ki (fun z2=>?_) (fun z2=>?_)
   ·rw [if_pos ⟨z1,z2⟩] at k
    exact k _ hs Fr.refl
   ·exact main
  ·exact main
 ·rw [if_pos hz] at k
  rw [hz.1];tm_at "sn"
  ·exact k _ hs Fr.refl
  ·exact absurd hz.2 (by assumption)
end
theorem DQ {a:AD} {H:Hp} {p o q rq dq dx:Addr} {s:PS} {g:SG} {Q:VK} {E:XK} (h:Sd a H p o s) (hq:H q=some (.ins a.aA dx (eR rq dq g))) (k:Q (.int (aX s g)) H):nI a ([.ref p,.ref q]++[]) H Q E:=⟨p,o,q,rq,dq,dx,s,g,rfl,h,hq,k⟩
section
variable {P:Program} {w:World} {K:PySem.W.Frag} {mg:Str→Option Value} {base:Heap} {a:AD}
noncomputable def tk1 (s:PS):PS:=if s.phase=3 then s.br 4 else s
noncomputable def tk3 (s:PS) (g:SG) (ak:Int):PS:=(s.dg 0).fS (max s.room (ak+64*g.window))
noncomputable def tk4 (s:PS) (g:SG) (ak:Int):PS:=Ae (tk3 s g ak) g ak
noncomputable def pV (s:PS) (g:SG) (ak:Int):Bool:=g.data.isEmpty && (!fE g 2 && decide ((tk4 s g ak).room=s.room))
noncomputable def tk5 (s:PS) (g:SG) (ak:Int):PS:=iW (tk4 s g ak) ak (pV s g ak)
noncomputable def tk6 (s:PS) (g:SG) (ak pl:Int):PS:=jU (tk5 s g ak) g pl
noncomputable def tk7 (s:PS) (g:SG) (ak pl:Int):PS:=bJ (tk6 s g ak pl)
noncomputable def tk8 (s:PS) (g:SG) (ak pl:Int):PS:=if (tk7 s g ak pl).owed=2 then bP (tk7 s g ak pl) else tk7 s g ak pl
noncomputable def xa (s:PS) (g:SG) (ak pl:Int):PS:=ja (tk8 s g ak pl)
noncomputable def lW (s:PS) (sd:Int) (g:SG) (pl:Int):PS:=
 if s.phase=3∧¬(1≤aX s g∧aX s g≤s.top) then oZ s sd g
 else if s.top<aX s g then bP s
 else xa (tk1 s) g (aX s g) pl
structure lV (s:PS) (g:SG) (ak pl:Int):Prop where
 h:wc ak g.ranges (tk3 s g ak)
 a:CA (tk4 s g ak) ak
 t:yQ (tk5 s g ak) g pl
 c:jM (tk6 s g ak pl)
 o:(tk7 s g ak pl).out.length≤1000000
noncomputable def uP (a:AD):Sp:=fun vs H Q _=>∃(p o q rq dq dx:Addr) (s:PS) (sd:Int) (g:SG) (pl:Int),vs=[.ref p,.int sd,.ref q,.int pl]∧Sd a H p o s∧SegX a H o q rq dq dx g∧s.out.length≤1000000∧(¬(s.phase=3∧¬(1≤aX s g∧aX s g≤s.top))→¬s.top<aX s g→lV (tk1 s) g (aX s g) pl)∧∀H',Sd a H' p o (lW s sd g pl)→Fr p o H H'→Q .non H'
theorem vj (T : TX K mg a) : Ok P w K mg base a kR 11 (uP a) := by
  refine fo T 65 fun S H hr h => ?_
  rename_i Q E
  obtain ⟨p, o, q, rq, dq, dx, s, sd, g, pl, rfl, hs, hg, hz, okc, k⟩ := h
  refine ⟨_, (aa (sn S 4 (pc (vr T) hr (af (pv 0) (pa1 (pv 2)))))
    (aa (si (PW.pt (bQ (ptR bb (pf 0) (pgi T 14)) (bS (cF (qT eW eW ag (pv 4) (pf 0)))))) (aa (aj (pc (rW T) hr (af (pv 0) (af (pv 1) (pa1 (pv 2))))))
    (ae gh)))
    (aa (si (ptR jB (pv 4) (pf 0)) (aa (aj (pc (gs T) hr (pa1 (pv 0))))
    (ae gh)))
    (aa (si (ptR bb (pf 0) (pgi T 14)) (ae (sf 0 (pgi T 15))))
    (aa (sf 0 ag)
    (aa (sn S 5 (pf 0))
    (aa (sf 0 (az (bz rfl) rfl T.ik boot_max (af (pf 0) (pa1 (ay bt (pv 4) (ay gP ag (pf 2)))))))
    (aa (aj (pc (yi T) hr (af (pv 0) (af (pv 2) (pa1 (pv 4))))))
    (aa (sn S 6 (fL (uq (pf 2)) (fL (uq (pmG (pv 2) (aN T) hr (pa1 (pgi T 1)))) (iE (peR bb (pf 0) (pv 5))))))
    (aa (aj (pc (zF T) hr (af (pv 0) (af (pv 4) (pa1 (pv 6))))))
    (aa (aj (pc (yd T) hr (af (pv 0) (af (pv 2) (pa1 (pv 3))))))
    (aa (aj (pc (jm T) hr (pa1 (pv 0))))
    (aa (si (ptR bb (pf 0) ag) (ae (aj (pc (gs T) hr (pa1 (pv 0))))))
    (ae (aj (pc (nW T) hr (pa1 (pv 0)))))))))))))))))), ?_⟩
  show aP _ _ _ [some (.ref p), some (.int sd), some (.ref q), some (.int pl), none, none, none] H
  tm_at "ck"
  have hq := hg.obj
  unfold lW at k
  generalize hak : aX s g = ak at okc k
  have finQ : lV (tk1 s) g ak pl → ∀ (H4 : Hp) (b : Bool) (v5 : Option V), pV (tk1 s) g ak = b → Sd a H4 p o (tk4 (tk1 s) g ak) → SegX a H4 o q rq dq dx g → Fr p o H H4 → (∀ H', Sd a H' p o (xa (tk1 s) g ak pl) → Fr p o H H' → Q .non H') →
      (aP (fJ (il (nF a) [] E0 (bM (aR 0) (bM (aR 4) (bM (aR 6) fR)))))
      (aP (fJ (il (lZ a) [] E0 (bM (aR 0) (bM (aR 2) (bM (aR 3) fR)))))
      (aP (fJ (il (nH a) [] E0 (bM (aR 0) fR)))
      (aP (nE (ly (tOp rEq (jg K (aR 0) (Str.ofString "owed")) (tC (V.int 2)))) (fJ (il (kq a bP) [] E0 (bM (aR 0) fR))) qF)
        (fJ (il (spM a ja) [] E0 (bM (aR 0) fR))))))) { nx := fun x H' => Q V.non H', rt := Q } [some (V.ref p), some (V.int sd), some (V.ref q), some (V.int pl), some (V.int ak), v5, some (V.bl b)] H4 := by
    intro ok H4 b v5 eb h4 g4 f4 k1
    tm_at "sn"
    refine ⟨p, o, _, ak, b, rfl, h4, ok.a, fun H5 h5 f5 => ?_⟩
    have e5 : iW (tk4 (tk1 s) g ak) ak b = tk5 (tk1 s) g ak := by unfold tk5; rw [eb]
    rw [e5] at h5
    have g5' := g4.fr h4 f5
    tm_at "sn"
    refine ⟨p, o, q, rq, dq, dx, tk5 (tk1 s) g ak, g, pl, rfl, h5, g5', ok.t, fun H6 h6 f6 => ?_⟩
    have h6 : Sd a H6 p o (tk6 (tk1 s) g ak pl) := h6
    tm_at "sn"
    refine ⟨p, o, tk6 (tk1 s) g ak pl, rfl, h6, ok.c, fun H7 h7 f7 => ?_⟩
    have h7 : Sd a H7 p o (tk7 (tk1 s) g ak pl) := h7
    have f07 := f4.trans (f5.trans (f6.trans f7))
    unfold xa at k1
    tm_at "sn"
    · rename_i c1
      have e8 : tk8 (tk1 s) g ak pl = bP (tk7 (tk1 s) g ak pl) := by unfold tk8; rw [if_pos c1]
      rw [e8] at k1
      refine fP (s := tk7 (tk1 s) g ak pl) h7 ok.o (fun H8 h8 f8 => ?_)
      tm_at "sn"
      exact k1 _ (by assumption) (f07.trans (by tm_at "fr"))
    · rename_i c1 _ _ _
      have e8 : tk8 (tk1 s) g ak pl = tk7 (tk1 s) g ak pl := by unfold tk8; rw [if_neg c1]
      rw [e8] at k1
      exact k1 _ (by assumption) (f07.trans (by tm_at "fr"))
  have fin : lV (tk1 s) g ak pl → ∀ (H1 : Hp), Sd a H1 p o (tk1 s) → Fr p o H H1 → (∀ H', Sd a H' p o (xa (tk1 s) g ak pl) → Fr p o H H' → Q .non H') → StR K (Str.ofString "tries") (V.ref p) (V.int 0) H1
      ({ nx := aP (uJ (jg K (aR 0) (Str.ofString "room")) (da 5))
          (aP (lE K (aR 0) (tCB B0 (bM (jg K (aR 0) (Str.ofString "room")) (bM (tOp (rI0 fun i j => V.int (i + j)) (aR 4) (tOp (rI DY fun i j => V.int (i * j)) (tC (V.int 64)) (jg K (aR 2) (Str.ofString "window")))) fR))) (Str.ofString "room"))
          (aP (fJ (il (qM a) [] E0 (bM (aR 0) (bM (aR 2) (bM (aR 4) fR)))))
          (aP (uJ (qG (qE K (jg K (aR 2) (Str.ofString "data"))) (qG (qE K (mX a.aA (Str.ofString "has") (pP a) [] E0 (aR 2) (bM (tC (V.int 2)) fR))) (tOp rEq (jg K (aR 0) (Str.ofString "room")) (aR 5)))) (da 6))
            (aP (fJ (il (nF a) [] E0 (bM (aR 0) (bM (aR 4) (bM (aR 6) fR)))))
      (aP (fJ (il (lZ a) [] E0 (bM (aR 0) (bM (aR 2) (bM (aR 3) fR)))))
      (aP (fJ (il (nH a) [] E0 (bM (aR 0) fR)))
      (aP (nE (ly (tOp rEq (jg K (aR 0) (Str.ofString "owed")) (tC (V.int 2)))) (fJ (il (kq a bP) [] E0 (bM (aR 0) fR))) qF)
        (fJ (il (spM a ja) [] E0 (bM (aR 0) fR)))))))))) { nx := fun x H' => Q V.non H', rt := Q }, rt := Q : Ends }.nx
        [some (V.ref p), some (V.int sd), some (V.ref q), some (V.int pl), some (V.int ak), none, none]) := by
    intro ok H1 h1 f1 k1
    have g1' := hg.fr hs f1
    refine Eg T h1 (fun H2 h2 f2 => ?_)
    have g2' := g1'.fr h1 f2
    have hq2 := g2'.obj
    tm_at "sn"
    refine GK T h2 (fun H3 h3 f3 => ?_)
    have g3' := g2'.fr h2 f3
    have h3 : Sd a H3 p o (tk3 (tk1 s) g ak) := h3
    tm_at "sn"
    refine ⟨p, o, q, rq, dq, dx, tk3 (tk1 s) g ak, g, ak, rfl, h3, g3', ok.h, fun H4 h4 f4 => ?_⟩
    have g4' := g3'.fr h3 f4
    have h4 : Sd a H4 p o (tk4 (tk1 s) g ak) := h4
    have f04 := f1.trans (f2.trans (f3.trans f4))
    have hq4 := g4'.obj
    dsimp only
    with_reducible refine bO ?_
    with_reducible refine Cr ?_
    refine vW ?_
    refine vS ?_
    refine vV ?_
    refine v2 ?_
    refine BZ T hq4 ?_
    refine F1 g4'.data ?_
    rw [px]
    refine wX ?_
    refine ki (fun z1 => ?_) (fun z1 => ?_)
    · refine vW ?_
      refine vS ?_
      refine BB ?_
      refine v2 ?_
      refine sj hq4 ?_
      refine BD ?_
      refine b_c ?_
      refine Gc ?_
      refine yJ hq4 ?_
      refine Bz ?_
      refine wX ?_
      refine ki (fun z2 => ?_) (fun z2 => ?_)
      · refine Ii ?_
        refine vV ?_
        refine v0 ?_
        refine GZ T h4 ?_
        refine v5 ?_
        refine IU ?_
        refine g6 ?_
        exact finQ ok H4 _ _ (by unfold pV; rw [z1, z2, Bool.true_and, Bool.true_and]; rfl) h4 g4' f04 k1
      · refine g6 ?_
        exact finQ ok H4 _ _ (by unfold pV; rw [Bool.eq_false_iff.mpr z2, Bool.false_and, Bool.and_false]) h4 g4' f04 k1
    · refine g6 ?_
      exact finQ ok H4 _ _ (by unfold pV; rw [Bool.eq_false_iff.mpr z1, Bool.false_and]) h4 g4' f04 k1
  tm_at "sn"
  refine DQ hs hq ?_
  rw [hak]
  tm_at "sn"
  · rename_i c1 c2 c3
    rw [if_pos ⟨c1, fun z => by simp [z.2] at c3⟩] at k
    exact ⟨p, o, q, rq, dq, dx, s, sd, g, rfl, hs, hq, hz, fun H9 h9 f9 => k _ h9 f9⟩
  · rename_i c1 c2 c3 c4
    exact absurd (by simpa using c3) (show ¬ ak ≤ s.top by omega)
  · rename_i c1 c2 c3 c4 c5
    have c3 : ak ≤ s.top := by simpa using c3
    rw [if_neg (fun z => z.2 ⟨c2, c3⟩), if_neg c4] at k
    have e1 : tk1 s = s.br 4 := by unfold tk1; rw [if_pos c1]
    refine Eh T hs (fun H1 h1 f1 => ?_)
    rw [← e1] at h1
    tm_at "sn"
    exact fin (okc (fun z => z.2 ⟨c2, c3⟩) c4) H1 h1 f1 k
  · rename_i c1 c2 c3 c4 c5
    exact absurd c1 c5
  · rename_i c1 c2 c3
    rw [if_pos ⟨c1, fun z => c2 z.1⟩] at k
    exact ⟨p, o, q, rq, dq, dx, s, sd, g, rfl, hs, hq, hz, fun H9 h9 f9 => k _ h9 f9⟩
  · rename_i c1 c2 c3 c4
    exact absurd rfl c3
  · rename_i c1 c2 c3 c4 c5
    exact absurd rfl c3
  · rename_i c1 c2 c3 c4 c5
    exact absurd rfl c3
  · rename_i c1 c2
    rw [if_neg (fun z => c1 z.1), if_pos c2] at k
    exact fP hs hz (fun H9 h9 f9 => k _ h9 f9)
  · rename_i c1 c2 c3
    exact absurd c3 c1
  · rename_i c1 c2 c3
    rw [if_neg (fun z => c1 z.1), if_neg c2] at k
    have e1 : tk1 s = s := by unfold tk1; rw [if_neg c1]
    exact fin (okc (fun z => c1 z.1) c2) H (by rw [e1]; exact hs) Fr.refl k
end
section
variable {P:Program} {w:World} {K:PySem.W.Frag} {mg:Str→Option Value} {base:Heap} {a:AD}
noncomputable def jf (s:PS) (sd:Int) (g:SG) (pl:Int):PS:=
 if fE g 8=true then (if pl=s.wanted then finish s 2 else bP s)
 else if fE g 1=true then bP s
 else if fE g 4=true then lW s sd g pl else s
structure IV (s:PS) (g:SG) (pl:Int):Prop where
 o:s.out.length≤1000000
 a:¬(s.phase=3∧¬(1≤aX s g∧aX s g≤s.top))→¬s.top<aX s g→lV (tk1 s) g (aX s g) pl
noncomputable def tR (a:AD):Sp:=fun vs H Q _=>∃(p o q rq dq dx:Addr) (s:PS) (sd:Int) (g:SG) (pl:Int),vs=[.ref p,.int sd,.ref q,.int pl]∧Sd a H p o s∧SegX a H o q rq dq dx g∧IV s g pl∧∀H',Sd a H' p o (jf s sd g pl)→Fr p o H H'→Q .non H'
theorem ud (T:TX K mg a):Ok P w K mg base a kb 12 (tR a):=by
 refine fo T 63 fun S H hr h=>?_;obtain ⟨p,o,q,rq,dq,dx,s,sd,g,pl,rfl,hs,hg,ok,k⟩:=h;refine ⟨_,(ae (eU (PW.pt (bQ (aJ (pmG (pv 2) (aN T) hr (pa1 (pgi T 3)))) (bS (ptR bb (pv 3) (pf 0))))) (ae (aj (pm (pv 0) (cK T) hr (pa1 (pgi T 19))))) (ae (eU (PW.pt (gL (aJ (pmG (pv 2) (aN T) hr (pa1 (pgi T 3)))) (gK (aJ (pmG (pv 2) (aN T) hr (pa1 (pgi T 0))))))) (ae (aj (pc (gs T) hr (pa1 (pv 0))))) (ae (si (aJ (pmG (pv 2) (aN T) hr (pa1 (pgi T 2)))) (ae (aj (pc (vj T) hr (af (pv 0) (af (pv 1) (af (pv 2) (pa1 (pv 3)))))))))))))),?_⟩;show nE _ _ _ _ [some (.ref p),some (.int sd),some (.ref q),some (.int pl)] H;tm_at "ck";have hq:=hg.obj;unfold jf at k;by_cases c8:fE g 8=true
 ·rw [if_pos c8] at k
  tm_at "sn"
  ·rename_i d1 d2 _ _ _
   rw [if_pos d2] at k;exact k _ (by assumption) (by tm_at "fr")
  ·rename_i d1 d2 d3
   rw [if_neg d2] at k;exact fP (s:=s) hs ok.o (fun H9 h9 f9=>k _ h9 f9)
  ·rename_i d1 d2 d3 d4
   exact absurd c8 d3
  ·rename_i d1 d2 d3 d4 d5
   exact absurd c8 d3
  ·rename_i d1 d2 d3 d4 d5
   exact absurd c8 d3
  all_goals exact absurd c8 (by assumption)
 ·rw [if_neg c8] at k
  tm_at "sn"
  ·exact absurd (by assumption) c8
  ·exact absurd (by assumption) c8
  ·exact absurd (by assumption) c8
  ·exact absurd (by assumption) c8
  ·exact absurd (by assumption) c8
  ·exact absurd (by assumption) c8
  ·rename_i d1 d2 d3
   rw [if_pos d3] at k;exact fP (s:=s) hs ok.o (fun H9 h9 f9=>k _ h9 f9)
  ·rename_i d1 d2 d3 d4
   rw [if_neg d3,if_pos d4] at k;exact ⟨p,o,q,rq,dq,dx,s,sd,g,pl,rfl,hs,hg,ok.o,ok.a,fun H9 h9 f9=>k _ h9 f9⟩
  ·rename_i d1 d2 d3 d4
   rw [if_neg d3,if_neg d4] at k;exact k _ hs Fr.refl
noncomputable def kg (s:PS) (sd:Int) (g:SG):PS:=
 match bE g.number s.aK s.wanted with
 | .int pl=>if rm s g (.int pl)=true then jf (jt s) sd g pl else if (!fE g 8)=true then (if (bP s).phase=5 then cx (bP s) else bP s) else s
 | _=>if (!fE g 8)=true then (if (bP s).phase=5 then cx (bP s) else bP s) else s
structure BL (s:PS) (sd:Int) (g:SG):Prop where
 o:s.out.length≤1000000
 f:∀pl,bE g.number s.aK s.wanted = .int pl→rm s g (.int pl)=true→IV (jt s) g pl
theorem qX (T:TX K mg a):Ok P w K mg base a iO 13 (spG a BL kg):=by
 refine fo T 62 fun S H hr h=>?_;obtain ⟨p,o,q,rq,dq,dx,s,sd,g,rfl,hs,hg,ok,k⟩:=h;refine ⟨_,(aa (sn S 3 (pc (fZ T) hr (af (pf 2) (af (pf 0) (pa1 (pf 0))))))
  (ae (eU (aJ (pc (HD T) hr (af (pv 0) (af (pv 2) (pa1 (pv 3)))))) (aa (aj (pm0 (pv 0) (kN T) hr))
  (ae (aj (pc (ud T) hr (af (pv 0) (af (pv 1) (af (pv 2) (pa1 (pv 3))))))))) (ae (si (cF (aJ (pmG (pv 2) (aN T) hr (pa1 (pgi T 3))))) (aa (aj (pc (gs T) hr (pa1 (pv 0))))
  (ae (si (ptR bb (pf 0) (pgi T 16)) (ae (aj (pm0 (pv 0) (nY T) hr))))))))))),?_⟩
 show aP _ _ _ [some (.ref p),some (.int sd),some (.ref q),none] H;tm_at "ck";have hq:=hg.obj;have okf:=ok.f;unfold kg at k;tm_at "sn";rcases iG g.number s.aK s.wanted with e | ⟨pl,e⟩
 ·rw [e] at k ⊢
  refine ⟨p,o,q,rq,dq,dx,s,g,.non,rfl,.inl rfl,hs,hg,fun H1 s1=>?_⟩;have hs1:=hs.mono s1;have hq1:=(hg.mono s1).obj;refine wX ?_;refine Ay ?_;tm_at "sn"
  ·rename_i d1
   simp only [d1,if_true] at k;refine fP (s:=s) hs1 ok.o (fun H2 h2 f2=>?_);tm_at "sn"
   ·rename_i d2 _ _ _
    rw [if_pos d2] at k;exact k _ (by assumption) ((aF.fr s1).trans (f2.trans (by tm_at "fr")))
   ·rename_i d2
    rw [if_neg d2] at k;exact k _ h2 ((aF.fr s1).trans f2)
  ·rename_i d1
   simp only [d1,if_false] at k;exact k _ hs1 (aF.fr s1)
 ·rw [e] at k ⊢
  refine ⟨p,o,q,rq,dq,dx,s,g,.int pl,rfl,.inr ⟨pl,rfl⟩,hs,hg,fun H1 s1=>?_⟩;have hs1:=hs.mono s1;have hg1:=hg.mono s1;have hq1:=hg1.obj;tm_at "sn"
  ·rename_i d1 H2 h2 f2
   simp only [d1,if_true] at k;exact ⟨p,o,q,rq,dq,dx,jt s,sd,g,pl,rfl,h2,hg1.fr hs1 f2,okf pl e d1,fun H9 h9 f9=>k _ h9 ((aF.fr s1).trans (f2.trans f9))⟩
  ·rename_i d0 d1
   simp only [d0,d1,if_true,if_false] at k;refine fP (s:=s) hs1 ok.o (fun H2 h2 f2=>?_);tm_at "sn"
   ·rename_i d2 _ _ _
    rw [if_pos d2] at k;exact k _ (by assumption) ((aF.fr s1).trans (f2.trans (by tm_at "fr")))
   ·rename_i d2
    rw [if_neg d2] at k;exact k _ h2 ((aF.fr s1).trans f2)
  ·rename_i d0 d1
   simp only [d0,d1,if_false] at k;exact k _ hs1 (aF.fr s1)
noncomputable def xw (s:PS) (sd:Int) (g:SG):PS:=if s.phase=1 then oK s sd g else if s.phase=2 then lR s sd g else kg s sd g
structure yV (s:PS) (sd:Int) (g:SG):Prop where
 o:s.out.length≤1000000
 b:s.phase=2→yX s sd g
 l:¬s.phase=1→¬s.phase=2→BL s sd g
theorem HE (T:TX K mg a):Ok P w K mg base a Bt 14 (spG a yV xw):=by
 refine fo T 72 fun S H hr h=>?_;obtain ⟨p,o,q,rq,dq,dx,s,sd,g,rfl,hs,hg,ok,k⟩:=h;refine ⟨_,(ae (eU (ptR bb (pf 0) (pgi T 12)) (ae (aj (pc (pZ T) hr (af (pv 0) (af (pv 1) (pa1 (pv 2))))))) (ae (eU (ptR bb (pf 0) (pgi T 13)) (ae (aj (pc (rY T) hr (af (pv 0) (af (pv 1) (pa1 (pv 2))))))) (ae (aj (pc (qX T) hr (af (pv 0) (af (pv 1) (pa1 (pv 2))))))))))),?_⟩;show nE _ _ _ _ [some (.ref p),some (.int sd),some (.ref q)] H;tm_at "ck";unfold xw at k;tm_at "sn"
 ·rename_i d1
  rw [if_pos d1] at k;exact vR hs hg ok.o (fun H9 h9 f9=>k _ h9 f9)
 ·rename_i d1 d2
  rw [if_neg d1,if_pos d2] at k;exact vR hs hg (ok.b d2) (fun H9 h9 f9=>k _ h9 f9)
 ·rename_i d1 d2
  rw [if_neg d1,if_neg d2] at k;exact vR hs hg (ok.l d1 d2) (fun H9 h9 f9=>k _ h9 f9)
end
section
variable {P:Program} {w:World} {K:PySem.W.Frag} {mg:Str→Option Value} {base:Heap} {a:AD}
noncomputable def gk (s:PS):PS:=dH (s.eL (min 60000 (2*s.wait)))
theorem j1 (T:TX K mg a):Ok P w K mg base a kP 2 (spM a gk):=by
 refine fo T 76 fun S H hr h=>?_;obtain ⟨p,o,s,rfl,hs,k⟩:=h;refine ⟨_,(aa (sf 0 (az (eI rfl) rfl T.mW boot_min (af (pgi T 23) (pa1 (ay gP ag (pf 0))))))
  (ae (aj (pm0 (pv 0) (eM T) hr)))),?_⟩
 show aP _ _ _ [some (.ref p)] H;tm_at "ck";tm_at "sx";exact k _ (by assumption) (by tm_at "fr")
noncomputable def iS (s:PS):PS:=if 5≤s.tries then finish s 3 else bG (gk ((jW s).dg ((jW s).tries+1)))
theorem vo (T:TX K mg a):Ok P w K mg base a kT 7 (kq a iS):=by
 refine fo T 77 fun S H hr h=>?_;obtain ⟨p,o,s,rfl,hs,hz,k⟩:=h;refine ⟨_,(aa (si (ptR lI (pf 0) (pgi T 29)) (aa (aj (pm (pv 0) (cK T) hr (pa1 (pgi T 20))))
  (ae gh)))
  (aa (aj (pc (mq T) hr (pa1 (pv 0))))
  (aa (fB (pv 0) ag mD)
  (aa (aj (pc (j1 T) hr (pa1 (pv 0))))
  (ae (aj (pm0 (pv 0) (bT T) hr))))))),?_⟩
 show aP _ _ _ [some (.ref p)] H;tm_at "ck";unfold iS at k;tm_at "sx"
 ·rename_i d1 _ _ _
  rw [if_pos d1] at k;exact k _ (by assumption) (by tm_at "fr")
 ·rename_i d1
  rw [if_neg d1] at k;refine fP (s:=s) hs hz (fun H1 h1 f1=>?_);tm_at "sx";exact k _ (by assumption) (by tm_at "fr")
noncomputable def eJ (s:PS):Option Int:=if s.kept=0 then none else if s.phase≠4 then none else if s.first≠s.top then none else some (s.heard+s.kept+10000*s.fg)
theorem nX (T:TX K mg a):Ok P w K mg base a kW 1 (spR a fun s=>eC (eJ s)):=by
 refine fo T 79 fun S H hr h=>?_;obtain ⟨p,o,s,rfl,hs,k⟩:=h;refine ⟨_,(aa (si (PW.pt (gL (ptR bb (pf 0) ag) (gL (ptR vg (pf 0) (pgi T 15)) (gK (ptR vg (pf 0) (pf 0)))))) (ae (aw iF)))
  (ae (aw (ay bt (ay bt (pf 0) (pf 0)) (ay gP (pgi T 32) (pf 0)))))),?_⟩
 show aP _ _ _ [some (.ref p)] H;tm_at "ck";unfold eJ at k;dsimp only at k;tm_at "sx"
 ·rename_i d1
  rw [if_pos d1] at k;exact k
 ·rename_i d1 d2
  rw [if_neg d1,if_pos d2] at k;exact k
 ·rename_i d1 d2 d3
  rw [if_neg d1,if_neg d2,if_pos d3] at k;exact k
 ·rename_i d1 d2 d3
  rw [if_neg d1,if_neg d2,if_neg d3] at k;exact k
noncomputable def leO (x:Option Int) (n:Int):Bool:=match x with
 | some u=>decide (u≤n)
 | none=>false
noncomputable def rg (s:PS):Bool:=leO (eJ s) s.now
theorem yh (T:TX K mg a):Ok P w K mg base a oF 2 (spR a fun s=>.bl (rg s)):=by
 refine fo T 80 fun S H hr h=>?_;obtain ⟨p,o,s,rfl,hs,k⟩:=h;refine ⟨_,(aa (sn S 1 (pc (nX T) hr (pa1 (pv 0))))
  (ae (aw (fL (Jx (ya (pv 1))) (iE (peR lI (pf 0) (pv 1))))))),?_⟩
 show aP _ _ _ [some (.ref p),none] H;tm_at "ck";unfold rg at k;dsimp only at k;tm_at "sn"
 ·rename_i d1
  cases e:eJ s with
  | none=>rw [e] at d1;exact (Bool.false_ne_true (by simpa [eC] using d1)).elim
  | some u=>rw [e] at k;exact BC (i:=s.now) (j:=u) k
 ·rename_i d1
  cases e:eJ s with
  | none=>rw [e] at k;exact k
  | some u=>rw [e] at d1;exact (d1 (by simp [eC])).elim
noncomputable def cN (s:PS):Bool:=if gX s=true then decide (s.owed=1) else false
theorem pK (T:TX K mg a):Ok P w K mg base a mJ 2 (spR a fun s=>.bl (cN s)):=by
 refine fo T 74 fun S H hr h=>?_;obtain ⟨p,o,s,rfl,hs,k⟩:=h;refine ⟨_,(ae (aw (fL (pm0 (pv 0) (eY T) hr) (iE (peR bb (pf 0) ag))))),?_⟩;show pG _ _ [some (.ref p)] H;tm_at "ck";unfold cN at k;tm_at "sx"
 all_goals (simp only [*,if_true,if_false] at k;exact k)
noncomputable def Im (s:PS):PS:=if 5≤s.fg then finish s 3 else nO (s.ku (s.fg+1)) (s.top - 1) 0 []
theorem Jz (T:TX K mg a):Ok P w K mg base a FJ 6 (kq a Im):=by
 refine fo T 81 fun S H hr h=>?_;obtain ⟨p,o,s,rfl,hs,hz,k⟩:=h;refine ⟨_,(aa (si (ptR lI (pf 0) (pgi T 31)) (aa (aj (pm (pv 0) (cK T) hr (pa1 (pgi T 20))))
  (ae gh)))
  (aa (fB (pv 0) ag mD)
  (ae (aj (pc (vk T) hr (af (pv 0) (af (ay bC (pf 0) ag) (af ag (pa1 (aL d9)))))))))),?_⟩
 show aP _ _ _ [some (.ref p)] H;tm_at "ck";unfold Im at k;obtain ⟨ws,eo⟩:=hs.two.o;tm_at "sx"
 ·rename_i d1 _ _ _
  rw [if_pos d1] at k;exact k _ (by assumption) (by tm_at "fr")
 ·rename_i d1 H1 h1 f1
  rw [if_neg d1] at k;obtain ⟨ws1,eo1⟩:=h1.two.o;refine bD (by simp) (fun l H2 n2 s2 h2=>?_);tm_at "sx";exact ⟨p,o,l,_,_,_,[],rfl,h1.mono s2,h2,(ai eo1 n2).symm,.none (by decide) hz,fun H3 h3 f3=>k H3 h3 (f1.trans ((aF.fr s2).trans f3))⟩
end
section
variable {P:Program} {w:World} {K:PySem.W.Frag} {mg:Str→Option Value} {base:Heap} {a:AD}
theorem Sd.outs {H:Hp} {p o:Addr} {s:PS} (h:Sd a H p o s):bj H o o s.out:=let ⟨_,_,e⟩:=h;e.out
noncomputable def A3 (s:PS):PS:=((eQ s).bI 1400).aW ((eQ s).bI 1400).first
noncomputable def A0 (s:PS):PS:=((bG (((A3 s).gI []).cE 0)).set_same 0).cR 0
noncomputable def fM (s:PS):PS:=gk ((A0 s).dg ((A0 s).tries+1))
noncomputable def lz (s:PS):PS:=if 8≤s.tries then finish s 3 else
 if ((bJ (fM s)).out.length:Int)=((fM s).out.length:Int) then
  (if (bJ (fM s)).au<(bJ (fM s)).last then oX (bJ (fM s)) else bJ (fM s)) else bJ (fM s)
structure sU (s:PS):Prop where
 c:jM (fM s)
 b:jc (bJ (fM s))
theorem wK (T:TX K mg a):Ok P w K mg base a mF 10 (spB a (fun s=>¬8≤s.tries→sU s) lz):=by
 refine fo T 78 fun S H hr h=>?_;obtain ⟨p,o,s,rfl,hs,ok,k⟩:=h;refine ⟨_,(aa (si (ptR lI (pf 0) (pgi T 30)) (aa (aj (pm (pv 0) (cK T) hr (pa1 (pgi T 20))))
  (ae gh)))
  (aa (aj (pm0 (pv 0) (j4 T) hr))
  (aa (sf 0 (pgi T 8))
  (aa (sf 0 (pf 0))
  (aa (sf 0 (aL d9))
  (aa (sf 0 ag)
  (aa (aj (pm0 (pv 0) (bT T) hr))
  (aa (sf 0 ag)
  (aa (sf 0 ag)
  (aa (fB (pv 0) ag mD)
  (aa (aj (pc (j1 T) hr (pa1 (pv 0))))
  (aa (sn S 1 (az aM rfl T.cW boot_len (pa1 (pf 0))))
  (aa (aj (pc (jm T) hr (pa1 (pv 0))))
  (ae (si (PW.pt (bQ (ptR bb (az aM rfl T.cW boot_len (pa1 (pf 0))) (pv 1)) (bS (ptR eV (pf 0) (pf 0))))) (ae (aj (pc (lJ T) hr (pa1 (pv 0)))))))))))))))))))),?_⟩
 show aP _ _ _ [some (.ref p),none] H;tm_at "ck";unfold lz at k;obtain ⟨ws,eo⟩:=hs.two.o;tm_at "sx"
 ·rename_i d1 _ _ _
  rw [if_pos d1] at k;exact k _ (by assumption) (by tm_at "fr")
 ·rename_i d1 H1 h1 f1 H2 h2 f2 H3 h3 f3
  have ok:=ok d1;rw [if_neg d1] at k;have f03:=f1.trans (f2.trans f3);have h3:Sd a H3 p o (A3 s):=h3;obtain ⟨ws3,eo3⟩:=h3.two.o;refine bD (by simp) (fun l H4 n4 s4 e4=>?_);tm_at "sx";refine xM T (h3.mono s4) (xs:=[]) ⟨[],e4,.nil⟩ (ai eo3 n4).symm (fun H5 h5 f5=>?_);have f05:=f03.trans ((aF.fr s4).trans f5);clear f1 f2 f3 h1 h2 h3 f03;tm_at "sx";rename_i H12 h12 f12;have h12':Sd a H12 p o (fM s):=h12;have f012:Fr p o H H12:=by tm_at "fr"
  refine uW T h12' ?_;tm_at "sx";refine qz h12'.outs ?_;tm_at "sx";refine ⟨p,o,fM s,rfl,h12',ok.c,fun H13 h13 f13=>?_⟩;tm_at "sn";refine uW T h13 ?_;tm_at "sn";refine qz h13.outs ?_;tm_at "sn"
  ·rename_i d2 d3
   rw [if_pos d2,if_pos d3] at k;exact m8 (s:=bJ (fM s)) h13 ok.b (fun H9 h9 f9=>k _ h9 (f012.trans (f13.trans f9)))
  ·rename_i d2 d3
   rw [if_pos d2,if_neg d3] at k;exact k _ h13 (f012.trans f13)
  ·rename_i d2
   rw [if_neg d2] at k;exact k _ h13 (f012.trans f13)
noncomputable def FF (s:PS):PS:=
 if s.phase=2 then iS s else if s.phase=3 then iS s
 else if s.phase=4∧s.first<s.top then lz s
 else if s.phase=4∧s.au<s.last then gk (oX s)
 else s.dE none
structure GC (s:PS):Prop where
 o:s.out.length≤1000000
 v:s.phase=4→s.first<s.top→¬8≤s.tries→sU s
 b:s.phase=4→jc s
theorem qW (T:TX K mg a):Ok P w K mg base a iN 11 (spB a GC FF):=by
 refine fo T 75 fun S H hr h=>?_;obtain ⟨p,o,s,rfl,hs,ok,k⟩:=h;refine ⟨_,(ae (eU (PW.pt (gL (ptR bb (pf 0) (pgi T 13)) (gK (ptR bb (pf 0) (pgi T 14))))) (ae (aj (pc (vo T) hr (pa1 (pv 0))))) (ae (eU (PW.pt (bQ (ptR bb (pf 0) (pgi T 15)) (bS (ptR eV (pf 0) (pf 0))))) (ae (aj (pc (wK T) hr (pa1 (pv 0))))) (ae (eU (PW.pt (bQ (ptR bb (pf 0) (pgi T 15)) (bS (ptR eV (pf 0) (pf 0))))) (aa (aj (pc (lJ T) hr (pa1 (pv 0))))
  (ae (aj (pc (j1 T) hr (pa1 (pv 0)))))) (ae (sf 0 iF)))))))),?_⟩
 show nE _ _ _ _ [some (.ref p)] H;tm_at "ck";unfold FF at k;tm_at "sn"
 ·rename_i d1
  rw [if_pos d1] at k;exact fP (s:=s) hs ok.o (fun H9 h9 f9=>k _ h9 f9)
 ·rename_i d1 d2
  rw [if_neg d1,if_pos d2] at k;exact fP (s:=s) hs ok.o (fun H9 h9 f9=>k _ h9 f9)
 ·rename_i d1 d2 d3 d4
  rw [if_neg d1,if_neg d2,if_pos ⟨d3,d4⟩] at k;exact m8 (s:=s) hs (ok.v d3 d4) (fun H9 h9 f9=>k _ h9 f9)
 ·rename_i d1 d2 d3 d4 d5 d6
  rw [if_neg d1,if_neg d2,if_neg (fun q=>d4 q.2),if_pos ⟨d5,d6⟩] at k;refine m8 (s:=s) hs (ok.b d3) (fun H9 h9 f9=>?_);tm_at "sx";exact k _ (by assumption) (by tm_at "fr")
 ·rename_i d1 d2 d3 d4 d5 d6
  rw [if_neg d1,if_neg d2,if_neg (fun q=>d4 q.2),if_neg (fun q=>d6 q.2)] at k;tm_at "sx";exact k _ (by assumption) (by tm_at "fr")
 ·rename_i d1 d2 d3 d4 d5
  exact absurd d3 d5
 ·rename_i d1 d2 d3 d4 d5
  exact absurd d4 d3
 ·rename_i d1 d2 d3 d4 d5
  exact absurd d4 d3
 ·rename_i d1 d2 d3 d4
  rw [if_neg d1,if_neg d2,if_neg (fun q=>d3 q.1),if_neg (fun q=>d3 q.1)] at k;tm_at "sx";exact k _ (by assumption) (by tm_at "fr")
noncomputable def go1 (s:PS) (n:Int):PS:=s.oW (max s.now n)
noncomputable def go2 (s:PS):PS:=if s.phase=5∧leO s.aS s.now=true then finish s 1 else s
noncomputable def go3 (s:PS):PS:=if cN s=true∧leO s.fi s.now=true then bP s else s
noncomputable def go4 (s:PS):PS:=if leO s.due s.now=true then FF s else s
noncomputable def go5 (s:PS):PS:=if rg s=true then Im s else s
noncomputable def cA (s:PS) (n:Int):PS:=go5 (go4 (go3 (go2 (go1 s n))))
structure IB (s:PS) (n:Int):Prop where
 l:s.phase=5→∃u,s.aS=some u
 a:cN (go2 (go1 s n))=true→∃u,(go2 (go1 s n)).fi=some u
 o:(go2 (go1 s n)).out.length≤1000000
 d:leO (go3 (go2 (go1 s n))).due (go3 (go2 (go1 s n))).now=true→GC (go3 (go2 (go1 s n)))
 p:(go4 (go3 (go2 (go1 s n)))).out.length≤1000000
noncomputable def En (a:AD):Sp:=fun vs H Q _=>∃(p o:Addr) (s:PS) (n:Int),vs=[.ref p,.int n]∧Sd a H p o s∧IB s n∧∀H',Sd a H' p o (cA s n)→Fr p o H H'→Q .non H'
end
theorem oQ {t u:TS} {D:Ends} {σ:L2.St} {H:Hp} (J:L2.St→Hp→Prop) (k:∀N:L2.St→Hp→Prop,(∀σ' H',J σ' H'→N σ' H')→t { D with nx:=N } σ H) (hu:∀σ' H',J σ' H'→u D σ' H'):aP t u D σ H:=k _ hu
section
variable {P:Program} {w:World} {K:PySem.W.Frag} {mg:Str→Option Value} {base:Heap} {a:AD}
theorem lK (T:TX K mg a):Ok P w K mg base a yC 12 (En a):=by
 refine fo T 73 fun S H hr h=>?_;obtain ⟨p,o,s,n,rfl,hs,ok,k⟩:=h;refine ⟨_,(aa (sf 0 (az (bz rfl) rfl T.ik boot_max (af (pf 0) (pa1 (pv 1)))))
  (aa (si (PW.pt (bQ (ptR bb (pf 0) (pgi T 16)) (bS (ptR lI (pf 0) (pf 0))))) (ae (aj (pm (pv 0) (cK T) hr (pa1 (pgi T 18))))))
  (aa (si (PW.pt (bQ (aJ (pc (pK T) hr (pa1 (pv 0)))) (bS (ptR lI (pf 0) (pf 0))))) (ae (aj (pc (gs T) hr (pa1 (pv 0))))))
  (aa (si (PW.pt (bQ (kM (ya (pf 0))) (bS (ptR lI (pf 0) (pf 0))))) (ae (aj (pc (qW T) hr (pa1 (pv 0))))))
  (ae (si (aJ (pc (yh T) hr (pa1 (pv 0)))) (ae (aj (pc (Jz T) hr (pa1 (pv 0))))))))))),?_⟩
 show aP _ _ _ [some (.ref p),some (.int n)] H;tm_at "ck";refine bO ?_;tm_at "sj";rename_i H1 h1 f1;have h1:Sd a H1 p o (go1 s n):=h1;obtain ⟨okl,oka,oko,okd,okp⟩:=ok;have e1:(go1 s n).phase=s.phase:=rfl;have e2:(go1 s n).aS=s.aS:=rfl;unfold cA at k;generalize go1 s n=s1 at h1 e1 e2 oka oko okd okp k
 try dsimp only
 refine oQ (fun σ' H'=>σ'=[some (V.ref p),some (V.int n)]∧Sd a H' p o (go2 s1)∧Fr p o H H') (fun N hN=>?_) ?_
 ·tm_at "sm"
  ·rename_i d1
   obtain ⟨u,hu⟩:=okl (e1.symm.trans d1);rw [←e2] at hu;rw [hu];refine BC (i:=s1.now) (j:=u) ?_;tm_at "sm"
   ·rename_i d2 H2 h2 f2
    refine hN _ _ ⟨rfl,?_,f1.trans f2⟩;unfold go2;rw [if_pos ⟨d1,by rw [hu];exact decide_eq_true d2⟩];exact h2
   ·rename_i d2
    refine hN _ _ ⟨rfl,?_,f1⟩;unfold go2;rw [if_neg (fun q=>d2 (by rw [hu] at q;exact of_decide_eq_true q.2))];exact h1
  ·rename_i d1
   refine hN _ _ ⟨rfl,?_,f1⟩;unfold go2;rw [if_neg (fun q=>d1 q.1)];exact h1
 rintro σ' H2 ⟨rfl,h2,f2⟩;generalize go2 s1=s2 at h2 oka oko okd okp k
 try dsimp only
 refine oQ (fun σ' H'=>σ'=[some (V.ref p),some (V.int n)]∧Sd a H' p o (go3 s2)∧Fr p o H H') (fun N hN=>?_) ?_
 ·tm_at "sm"
  ·rename_i d1
   obtain ⟨u,hu⟩:=oka d1;rw [hu];refine BC (i:=s2.now) (j:=u) ?_;tm_at "sm"
   ·rename_i d2
    refine fP (s:=s2) h2 oko (fun H9 h9 f9=>?_);refine hN _ _ ⟨rfl,?_,f2.trans f9⟩;unfold go3;rw [if_pos ⟨d1,by rw [hu];exact decide_eq_true d2⟩];exact h9
   ·rename_i d2
    refine hN _ _ ⟨rfl,?_,f2⟩;unfold go3;rw [if_neg (fun q=>d2 (by rw [hu] at q;exact of_decide_eq_true q.2))];exact h2
  ·rename_i d1
   refine hN _ _ ⟨rfl,?_,f2⟩;unfold go3;rw [if_neg (fun q=>d1 q.1)];exact h2
 rintro σ' H3 ⟨rfl,h3,f3⟩;generalize go3 s2=s3 at h3 okd okp k
 try dsimp only
 refine oQ (fun σ' H'=>σ'=[some (V.ref p),some (V.int n)]∧Sd a H' p o (go4 s3)∧Fr p o H H') (fun N hN=>?_) ?_
 ·tm_at "sm"
  ·rename_i d1
   cases e:s3.due with
   | none=>rw [e] at d1;exact (Bool.false_ne_true (by simpa [eC] using d1)).elim
   | some u =>
    refine BC (i:=s3.now) (j:=u) ?_;tm_at "sm"
    ·rename_i d2
     have e4:leO s3.due s3.now=true:=by rw [e];exact decide_eq_true d2
     refine m8 (s:=s3) h3 (okd e4) (fun H9 h9 f9=>?_);refine hN _ _ ⟨rfl,?_,f3.trans f9⟩;unfold go4;rw [if_pos e4];exact h9
    ·rename_i d2
     refine hN _ _ ⟨rfl,?_,f3⟩;unfold go4;rw [e,if_neg (show ¬leO (some u) s3.now=true from fun q=>d2 (of_decide_eq_true q))];exact h3
  ·rename_i d1
   cases e:s3.due with
   | some u=>rw [e] at d1;exact (d1 (by simp [eC])).elim
   | none =>
    refine hN _ _ ⟨rfl,?_,f3⟩;unfold go4;rw [e,if_neg (show ¬leO none s3.now=true from Bool.false_ne_true)];exact h3
 rintro σ' H4 ⟨rfl,h4,f4⟩;generalize go4 s3=s4 at h4 okp k
 try dsimp only
 unfold go5 at k;tm_at "sm"
 ·rename_i d1
  rw [if_pos d1] at k;exact fP (s:=s4) h4 okp (fun H9 h9 f9=>k _ h9 (f4.trans f9))
 ·rename_i d1
  rw [if_neg d1] at k;exact k _ h4 f4
end
theorem Bx {X:Cx} (hc:X.calm=true):kJ X (.builtin "min") (Ky X.K):=JS hc
noncomputable def spI (f:Int→Bool):Sp:=fun vs H Q _=>∃i,vs=[.int i]∧Q (.bl (f i)) H
theorem Lb {f:Int→Bool} {i:Int} {H:Hp} {Q:VK} {E:XK} (k:Q (.bl (f i)) H):spI f ([.int i]++[]) H Q E:=⟨i,rfl,k⟩
instance {f:Int→Bool} {i:Int} {H:Hp} {Q:VK} {E:XK}:Stp (spI f ([.int i]++[]) H Q E) (Q (.bl (f i)) H):=⟨Lb⟩
theorem Ll {A B:Prop} (k:A):if (!false)=true then A else B:=by rw [if_pos (show (!false)=true from rfl)];exact k
instance {A B:Prop}:Stp (if (!false)=true then A else B) (A):=⟨Ll⟩
theorem Lk {A B:Prop} (k:B):if (!true)=true then A else B:=by rw [if_neg (by decide)];exact k
instance {A B:Prop}:Stp (if (!true)=true then A else B) (B):=⟨Lk⟩
section
variable {P:Program} {w:World} {K:PySem.W.Frag} {mg:Str→Option Value} {base:Heap} {a:AD}
noncomputable def mC (i:Int):Bool:=if 1≤i then decide (i≤4294967294) else false
theorem iX (T:TX K mg a):Ok P w K mg base a mK 1 (spI mC):=by
 refine fo T 83 fun S H hr h=>?_;obtain ⟨i,rfl,k⟩:=h;refine ⟨_,(ae (aw (j0 eW eW ag (pv 0) (pgi T 38)))),?_⟩;show pG _ _ [some (.int i)] H;tm_at "ck";unfold mC at k;tm_at "sx"
 all_goals (simp only [*,if_true,if_false] at k;exact k)
noncomputable def qj (i:Int):Bool:=if 1≤i then decide (i≤65535) else false
theorem pY (T:TX K mg a):Ok P w K mg base a sJ 1 (spI qj):=by
 refine fo T 84 fun S H hr h=>?_;obtain ⟨i,rfl,k⟩:=h;refine ⟨_,(ae (aw (j0 eW eW ag (pv 0) (pgi T 39)))),?_⟩;show pG _ _ [some (.int i)] H;tm_at "ck";unfold qj at k;tm_at "sx"
 all_goals (simp only [*,if_true,if_false] at k;exact k)
noncomputable def sv (i:Int):Bool:=if 0≤i then decide (i≤4294967295) else false
theorem vn (T:TX K mg a):Ok P w K mg base a sM 1 (spI sv):=by
 refine fo T 85 fun S H hr h=>?_;obtain ⟨i,rfl,k⟩:=h;refine ⟨_,(ae (aw (j0 eW eW ag (pv 0) (pgi T 40)))),?_⟩;show pG _ _ [some (.int i)] H;tm_at "ck";unfold sv at k;tm_at "sx"
 all_goals (simp only [*,if_true,if_false] at k;exact k)
noncomputable def eF (i:Int):Bool:=if 0≤i then decide (i≤4611686018427387904) else false
theorem fq (T:TX K mg a):Ok P w K mg base a sI 1 (spI eF):=by
 refine fo T 86 fun S H hr h=>?_;obtain ⟨i,rfl,k⟩:=h;refine ⟨_,(ae (aw (j0 eW eW ag (pv 0) (pgi T 41)))),?_⟩;show pG _ _ [some (.int i)] H;tm_at "ck";unfold eF at k;tm_at "sx"
 all_goals (simp only [*,if_true,if_false] at k;exact k)
noncomputable def mB (s:PS):Bool:=if s.phase=0 then true else decide (s.phase=6)
theorem mw (T:TX K mg a):Ok P w K mg base a sL 1 (spR a fun s=>.bl (mB s)):=by
 refine fo T 87 fun S H hr h=>?_;obtain ⟨p,o,s,rfl,hs,k⟩:=h;refine ⟨_,(ae (aw (IL (peR bb (pf 0) (pgi T 11)) (iE (peR bb (pf 0) (pgi T 17)))))),?_⟩;show pG _ _ [some (.ref p)] H;tm_at "ck";unfold mB at k;tm_at "sx"
 all_goals (simp only [*,if_true,if_false] at k;exact k)
noncomputable def lY (s:PS) (n ph:Int):PS:=(xY (s.oW (max s.now n))).br ph
noncomputable def El (a:AD):Sp:=fun vs H Q _=>∃(p o:Addr) (s:PS) (n ph:Int),vs=[.ref p,.int n,.int ph]∧Sd a H p o s∧∀H',Sd a H' p o (lY s n ph)→Fr p o H H'→Q .non H'
theorem zG (T:TX K mg a):Ok P w K mg base a yA 3 (El a):=by
 refine fo T 88 fun S H hr h=>?_;obtain ⟨p,o,s,n,ph,rfl,hs,k⟩:=h;refine ⟨_,(aa (sf 0 (az (bz rfl) rfl T.ik boot_max (af (pf 0) (pa1 (pv 1)))))
  (aa (aj (pm0 (pv 0) (vt T) hr))
  (ae (sf 0 (pv 2))))),?_⟩
 show aP _ _ _ [some (.ref p),some (.int n),some (.int ph)] H;tm_at "ck";tm_at "sx";exact k _ (by assumption) (by tm_at "fr")
noncomputable def Ans (a:AD) (H:Hp) (p o:Addr) (x:PS×List Int) (Q:VK):Prop:=∀q H',Sd a H' p o x.1→Fr p o H H'→ax H' q x.2→q≠o→Q (.ref q) H'
theorem bw {H H1:Hp} {p o:Addr} {s:PS} {i:Int} {x:PS×List Int} {Q:VK} (k:Ans a H p o x Q) (ex:x=(s,[i])) (h1:Sd a H1 p o s) (f:Fr p o H H1):AG [V.int i] H1 Q:=by
 subst ex;obtain ⟨ws,eo⟩:=h1.two.o;exact bD (by simp) (fun l H2 n2 s2 h2=>k l H2 (h1.mono s2) (f.trans (aF.fr s2)) h2 (ai eo n2).symm)
noncomputable def gF (me mine them theirs base now:Int):Bool:=mC me && (qj mine && (mC them && (qj theirs && (sv base && eF now))))
noncomputable def gE (s:PS) (me mine them theirs base now:Int):PS×List Int:=
 if gF me mine them theirs base now=false then (s,[-1]) else if mB s=false then (s,[-4])
 else (sR (dJ (gR (lY s now 2) me mine base) them theirs 0),[0])
noncomputable def wA (a:AD):Sp:=fun vs H Q _=>∃(p o:Addr) (s:PS) (me mine them theirs base now:Int),vs=[.ref p,.int me,.int mine,.int them,.int theirs,.int base,.int now]∧Sd a H p o s∧s.out.length≤1000000∧Ans a H p o (gE s me mine them theirs base now) Q
theorem wN (T:TX K mg a):Ok P w K mg base a mN 8 (wA a):=by
 refine fo T 89 fun S H hr h=>?_;rename_i Q E;obtain ⟨p,o,s,me,mine,them,theirs,base',now,rfl,hs,ho,k⟩:=h;refine ⟨_,(aa (si (cF (PW.pt (bQ (aJ (pc (iX T) hr (pa1 (pv 1)))) (bQ (aJ (pc (pY T) hr (pa1 (pv 2)))) (bQ (aJ (pc (iX T) hr (pa1 (pv 3)))) (bS (aJ (pc (pY T) hr (pa1 (pv 4)))))))))) (ae (aw (aL (pa1 (pgi T 33))))))
  (aa (si (cF (PW.pt (bQ (aJ (pc (vn T) hr (pa1 (pv 5)))) (bS (aJ (pc (fq T) hr (pa1 (pv 6)))))))) (ae (aw (aL (pa1 (pgi T 33))))))
  (aa (si (cF (aJ (pc (mw T) hr (pa1 (pv 0))))) (ae (aw (aL (pa1 (pgi T 36))))))
  (aa (aj (pc (zG T) hr (af (pv 0) (af (pv 6) (pa1 (pgi T 13))))))
  (aa (aj (pm (pv 0) (j5 T) hr (af (pv 1) (af (pv 2) (pa1 (pv 5))))))
  (aa (aj (pm (pv 0) (jC T) hr (af (pv 3) (af (pv 4) (pa1 ag)))))
  (aa (aj (pc (zK T) hr (pa1 (pv 0))))
  (ae (aw (aL (pa1 ag))))))))))),?_⟩
 show aP _ _ _ [some (.ref p),some (.int me),some (.int mine),some (.int them),some (.int theirs),some (.int base'),some (.int now)] H;tm_at "ck";have bad:gF me mine them theirs base' now=false→AG [V.int (-1)] H Q:=fun e=>bw k (by unfold gE;rw [if_pos e]) hs Fr.refl;tm_at "sx"
 all_goals (first | exact bad (by unfold gF;simp_all) | skip)
 ·rename_i d1 d2 d3 d4 d5 d6 d7
  have ea:¬gF me mine them theirs base' now=false:=by unfold gF;simp_all
  exact bw k (by unfold gE;rw [if_neg ea,if_pos (by simpa using d7)]) hs Fr.refl
 ·rename_i d1 d2 d3 d4 d5 d6 d7
  have ea:¬gF me mine them theirs base' now=false:=by unfold gF;simp_all
  have ek:gE s me mine them theirs base' now=(sR (dJ (gR (lY s now 2) me mine base') them theirs 0),[0]):=by unfold gE;rw [if_neg ea,if_neg (by simpa using d7)]
  refine ⟨p,o,s,now,2,rfl,hs,fun H1 h1 f1=>?_⟩;tm_at "sx";rename_i H2 h2 f2 H3 h3 f3;refine fP (s:=dJ (gR (lY s now 2) me mine base') them theirs 0) h3 ho (fun H9 h9 f9=>?_);tm_at "sx";exact bw k ek h9 (f1.trans (f2.trans (f3.trans f9)))
noncomputable def jd (me mine base now:Int):Bool:=mC me && (qj mine && (sv base && eF now))
noncomputable def ko (s:PS) (me mine base now:Int):PS×List Int:=
 if jd me mine base now=false then (s,[-1]) else if mB s=false then (s,[-4]) else (gR (lY s now 1) me mine base,[0])
noncomputable def zg (a:AD):Sp:=fun vs H Q _=>∃(p o:Addr) (s:PS) (me mine base now:Int),vs=[.ref p,.int me,.int mine,.int base,.int now]∧Sd a H p o s∧Ans a H p o (ko s me mine base now) Q
theorem qU (T:TX K mg a):Ok P w K mg base a iJ 4 (zg a):=by
 refine fo T 90 fun S H hr h=>?_;rename_i Q E;obtain ⟨p,o,s,me,mine,base',now,rfl,hs,k⟩:=h;refine ⟨_,(aa (si (cF (PW.pt (bQ (aJ (pc (iX T) hr (pa1 (pv 1)))) (bQ (aJ (pc (pY T) hr (pa1 (pv 2)))) (bQ (aJ (pc (vn T) hr (pa1 (pv 3)))) (bS (aJ (pc (fq T) hr (pa1 (pv 4)))))))))) (ae (aw (aL (pa1 (pgi T 33))))))
  (aa (si (cF (aJ (pc (mw T) hr (pa1 (pv 0))))) (ae (aw (aL (pa1 (pgi T 36))))))
  (aa (aj (pc (zG T) hr (af (pv 0) (af (pv 4) (pa1 (pgi T 12))))))
  (aa (aj (pm (pv 0) (j5 T) hr (af (pv 1) (af (pv 2) (pa1 (pv 3))))))
  (ae (aw (aL (pa1 ag)))))))),?_⟩
 show aP _ _ _ [some (.ref p),some (.int me),some (.int mine),some (.int base'),some (.int now)] H;tm_at "ck";have bad:jd me mine base' now=false→AG [V.int (-1)] H Q:=fun e=>bw k (by unfold ko;rw [if_pos e]) hs Fr.refl;tm_at "sx"
 all_goals (first | exact bad (by unfold jd;simp_all) | skip)
 ·rename_i d1 d2 d3 d4 d5
  have ea:¬jd me mine base' now=false:=by unfold jd;simp_all
  exact bw k (by unfold ko;rw [if_neg ea,if_pos (by simpa using d5)]) hs Fr.refl
 ·rename_i d1 d2 d3 d4 d5
  have ea:¬jd me mine base' now=false:=by unfold jd;simp_all
  have ek:ko s me mine base' now=(gR (lY s now 1) me mine base',[0]):=by unfold ko;rw [if_neg ea,if_neg (by simpa using d5)]
  refine ⟨p,o,s,now,1,rfl,hs,fun H1 h1 f1=>?_⟩;tm_at "sx";rename_i H2 h2 f2;exact bw k ek h2 (f1.trans f2)
noncomputable def eK (s:PS):List Int:=(if s.phase=5 then s.aS.toList else [])++(if cN s=true then s.fi.toList else [])++s.due.toList++(eJ s).toList
structure rF (s:PS):Prop where
 l:s.phase=5→∃u,s.aS=some u
 a:cN s=true→∃u,s.fi=some u
noncomputable def Ek (a:AD):Sp:=fun vs H Q _=>∃(p o:Addr) (s:PS),vs=[.ref p]∧Sd a H p o s∧rF s∧∀q H',H q=none→aF H H'→ax H' q (eK s)→Q (.ref q) H'
theorem Ct {H0 H:Hp} {q:Addr} {xs:List Int} {i:Int} {Q:VK} (n:H0 q=none) (s:aF H0 H) (h:ax H q xs) (hl:xs.length<1000) (k:∀H',aF H0 H'→ax H' q (xs++[i])→Q .non H'):qR (.ref q) [.int i] H Q:=
 jA h (by rw [List.length_map,sizeLine_eq];tm_at "oa") (fun H' f e=>k H' (aF.ny s n f) (by show _=some (HO.lst ((xs++[i]).map V.int));rw [List.map_append];exact e))
theorem yc (T:TX K mg a):Ok P w K mg base a om 3 (Ek a):=by
 refine fo T 82 fun S H hr h=>?_;obtain ⟨p,o,s,rfl,hs,ok,k⟩:=h;refine ⟨_,(aa (sn S 1 (aL d9))
  (aa (si (ptR bb (pf 0) (pgi T 16)) (ae (aj (jl PySem.F.plainAttrs_list PySem.F.slot_list_append PySem.F.type_list_append dM (pv 1) (pa1 (pf 0))))))
  (aa (si (aJ (pc (pK T) hr (pa1 (pv 0)))) (ae (aj (jl PySem.F.plainAttrs_list PySem.F.slot_list_append PySem.F.type_list_append dM (pv 1) (pa1 (pf 0))))))
  (aa (jY PassesOwn.never rfl (EF (pW (af (pf 0) (pa1 (pc (nX T) hr (pa1 (pv 0))))))) (d8 (i:=2) S.nd rfl (Or.inl rfl)) (ae (si (kM (ya (pv 2))) (ae (aj (jl PySem.F.plainAttrs_list PySem.F.slot_list_append PySem.F.type_list_append dM (pv 1) (pa1 (pv 2))))))))
  (ae (aw (pv 1))))))),?_⟩
 show aP _ _ _ [some (.ref p),none,none] H;tm_at "ck";obtain ⟨ws,eo⟩:=hs.two.o;refine bO ?_;tm_at "sj";refine bD (by simp) (fun q H1 n1 s1 e1=>?_);have e1:ax H1 q []:=e1;tm_at "sj"
 try dsimp only
 refine oQ (fun σ' H'=>σ'=[some (V.ref p),some (V.ref q),none]∧aF H H'∧ax H' q (if s.phase=5 then s.aS.toList else [])) (fun N hN=>?_) ?_
 ·have hs1:=hs.mono s1
  tm_at "sm"
  ·rename_i d1
   obtain ⟨u,hu⟩:=ok.l d1;refine gG e1 ?_;tm_at "sm";rw [hu];refine Ct n1 s1 e1 (by simp) (fun H2 s2 e2=>?_);refine hN _ _ ⟨rfl,s2,?_⟩;rw [if_pos d1,hu];exact e2
  ·rename_i d1
   refine hN _ _ ⟨rfl,s1,?_⟩;rw [if_neg d1];exact e1
 rintro σ' H2 ⟨rfl,s2,e2⟩;generalize hA:(if s.phase=5 then s.aS.toList else [])=A at e2;have lA:A.length≤1:=by rw [←hA];split;(cases s.aS <;> simp);simp
 try dsimp only
 refine oQ (fun σ' H'=>σ'=[some (V.ref p),some (V.ref q),none]∧aF H H'∧ax H' q (A++if cN s=true then s.fi.toList else [])) (fun N hN=>?_) ?_
 ·have hs1:=hs.mono s2
  tm_at "sm"
  ·rename_i d1
   obtain ⟨u,hu⟩:=ok.a d1;refine gG e2 ?_;tm_at "sm";rw [hu];refine Ct n1 s2 e2 (by tm_at "ob") (fun H3 s3 e3=>?_);refine hN _ _ ⟨rfl,s3,?_⟩;rw [if_pos d1,hu];exact e3
  ·rename_i d1
   refine hN _ _ ⟨rfl,s2,?_⟩;rw [if_neg d1,List.append_nil];exact e2
 rintro σ' H3 ⟨rfl,s3,e3⟩;generalize hB:(A++if cN s=true then s.fi.toList else [])=B at e3;have lB:B.length≤2:=by rw [←hB,List.length_append];have:(if cN s=true then s.fi.toList else []).length≤1:=by { split;(cases s.fi <;> simp);simp };tm_at "ob"
 try dsimp only
 have hs3:=hs.mono s3;have ek:eK s=B++s.due.toList++(eJ s).toList:=by unfold eK;rw [hA,hB]
 rw [ek] at k;tm_at "sj";refine bO ?_;tm_at "sm";refine oP (by simp) (fun t H4 n4 s4 h4=>?_);have s04:=s3.trans s4;have e4:=e3.mono s4;have step:∀(x:Option Int) (X:List Int) (v:Option V) (H':Hp) (N:L2.St→Hp→Prop),X.length≤10→aF H H'→H' t=some (.tup [eC s.due,eC (eJ s)])→ax H' q X→(∀H'',aF H H''→H'' t=some (.tup [eC s.due,eC (eJ s)])→ax H'' q (X++x.toList)→N [some (V.ref p),some (V.ref q),some (eC x)] H'')→
   ∀D:Ends,D.nx=N→nE (tB (BR (aR 2))) (fJ (tBM K "list" qR (aR 1) (bM (aR 2) fR))) qF D [some (V.ref p),some (V.ref q),some (eC x)] H':=by
  intro x X v H' N lX sH ht hX hN D hD;tm_at "sm"
  ·rename_i d1
   cases x with
   | none=>exact (Bool.false_ne_true (by simpa [eC] using d1)).elim
   | some u =>
    refine gG hX ?_;tm_at "sm";refine jA hX (by rw [List.length_map,sizeLine_eq];tm_at "ob") (fun H2 f e=>?_);rw [hD];have nt:t≠q:=iw ht hX (by intro z;cases z);exact hN H2 (aF.ny sH n1 f) (f _ _ ht nt) (by show _=some (HO.lst ((X++[u]).map V.int));rw [List.map_append];exact e)
  ·rename_i d1
   cases x with
   | none =>
    rw [hD];exact hN H' sH ht (by show ax H' q (X++[]);rw [List.append_nil];exact hX)
   | some u=>exact (d1 (by simp [eC])).elim
 refine KU h4 (fun i σ H'=>aF H H'∧H' t=some (.tup [eC s.due,eC (eJ s)])∧ax H' q (B++(if 1≤i then s.due.toList else [])++(if 2≤i then (eJ s).toList else []))∧∃v,σ=[some (.ref p),some (.ref q),v]) ⟨s04,h4,by simpa using e4,none,rfl⟩ (fun i σ H' _ ⟨_,e,_⟩=>e) ?_ ?_
 ·rintro i x σ H' hx ⟨sH,ht,hX,v,rfl⟩
  match i,hx with
  | 0,hx =>
   have e:x=eC s.due:=(Option.some.inj hx).symm;subst e;refine g2 ?_;refine step s.due B v H' _ (by tm_at "ob") sH ht (by simpa using hX) (fun H'' a1 a2 a3=>?_) _ rfl;exact ⟨a1,a2,by simpa using a3,_,rfl⟩
  | 1,hx =>
   have e:x=eC (eJ s):=(Option.some.inj hx).symm;subst e;refine g2 ?_;refine step (eJ s) (B++s.due.toList) v H' _ (by rw [List.length_append];have:s.due.toList.length≤1:=by { cases s.due <;> simp };tm_at "ob") sH ht (by simpa using hX) (fun H'' a1 a2 a3=>?_) _ rfl;exact ⟨a1,a2,by simpa using a3,_,rfl⟩
  | i+2,hx=>simp at hx
 ·rintro σ H' ⟨sH,ht,hX,v,rfl⟩
  tm_at "sx";exact k q H' n1 sH (by simpa using hX)
end
section
variable {P:Program} {w:World} {K:PySem.W.Frag} {mg:Str→Option Value} {base:Heap} {a:AD}
noncomputable def ur:List Int→Int
 | []=>0
 | x::l=>l.foldl min x
theorem rk:∀(l:List Int) (x:Int),l.foldl min x≤x∧(∀y∈l,l.foldl min x≤y)∧(l.foldl min x=x∨l.foldl min x∈l)
 | [],x=>⟨Int.le_refl _,by simp,.inl rfl⟩
 | z::l,x=>by
  obtain ⟨h1,h2,h3⟩:=rk l (min x z);refine ⟨by show l.foldl min (min x z)≤x;tm_at "ob",fun y hy=>?_,?_⟩
  ·show l.foldl min (min x z)≤y
   rcases List.mem_cons.mp hy with rfl | hy
   ·tm_at "ob"
   ·exact h2 y hy
  ·show l.foldl min (min x z)=x∨l.foldl min (min x z)∈z::l
   rcases h3 with h3 | h3
   ·rcases Int.le_total x z with h | h
    ·left;rw [h3];tm_at "ob"
    ·right;rw [h3,show min x z=z by tm_at "ob"];simp
   ·right;simp [h3]
theorem Bf {l:List Int} (hl:0<l.length) {m:Int} (h1:m∈l) (h2:∀y∈l,m≤y):m=ur l:=by
 cases l with
 | nil=>simp at hl
 | cons x l =>
  obtain ⟨q1,q2,q3⟩:=rk l x;have e:ur (x::l)∈x::l:=by
   show l.foldl min x∈x::l;rcases q3 with q | q
   ·rw [q];simp
   ·simp [q]
  have a1:=h2 _ e;have a2:ur (x::l)≤m:=by
   show l.foldl min x≤m;rcases List.mem_cons.mp h1 with rfl | h
   ·exact q1
   ·exact q2 m h
  tm_at "ob"
noncomputable def qD (s:PS):PS×List Int:=(s,if (eK s).isEmpty=true then [0] else [1,ur (eK s)])
noncomputable def BW (a:AD) (C:PS→Prop) (f:PS→PS×List Int):Sp:=fun vs H Q _=>∃(p o:Addr) (s:PS),vs=[.ref p]∧Sd a H p o s∧C s∧Ans a H p o (f s) Q
theorem zD (T:TX K mg a):Ok P w K mg base a qm 4 (BW a rF qD):=by
 refine fo T 100 fun S H hr h=>?_;obtain ⟨p,o,s,rfl,hs,ok,k⟩:=h;refine ⟨_,(aa (sn S 1 (pc (yc T) hr (pa1 (pv 0))))
  (aa (si (cF (lH (pv 1) (fun _=>rfl))) (ae (aw (aL (pa1 ag)))))
  (ae (aw (aL (af ag (pa1 (az (Bx rfl) rfl T.mW boot_min (pa1 (pv 1)))))))))),?_⟩
 show aP _ _ _ [some (.ref p),none] H;tm_at "ck";obtain ⟨ws,eo⟩:=hs.two.o;unfold qD at k;tm_at "sx";refine ⟨p,o,s,rfl,hs,ok,fun q H1 n1 s1 e1=>?_⟩;have hs1:=hs.mono s1;tm_at "sx";refine ⟨_,.inl ⟨_,SqL.of e1,rfl⟩,?_⟩;rw [px];show if (!(!(eK s).isEmpty))=true then _ else _;rw [Bool.not_not]
 cases e:(eK s).isEmpty with
 | true =>
  rw [e,if_pos rfl] at k;tm_at "sx";exact bw k rfl hs1 (aF.fr s1)
 | false =>
  rw [e,if_neg Bool.false_ne_true] at k;tm_at "sx";have pos:0<(eK s).length:=by
   cases h:eK s with
   | nil=>rw [h] at e;cases e
   | cons x l=>simp
  refine ⟨q,eK s,rfl,SqL.of e1,pos,fun m h1 h2=>?_⟩;have em:=Bf pos h1 h2;subst em;tm_at "sx";exact bD (by simp) (fun l H2 n2 s2 h2=>k l H2 (hs1.mono s2) (aF.fr (s1.trans s2)) h2 (ai (s1 _ _ eo) n2).symm)
noncomputable def ui (s:PS):PS×List Int:=(s,[0,s.phase,s.why]++[s.last - 1,(s.aB.length:Int),s.first,s.au,s.top,s.room]++[s.wide,s.slow,s.wait]++[s.wanted,(s.aH.length:Int),s.edge,(s.pieces.length:Int),if s.bg=true then 1 else 0])
theorem zE (T:TX K mg a):Ok P w K mg base a qo 1 (BW a (fun _=>True) ui):=by
 refine fo T 101 fun S H hr h=>?_;obtain ⟨p,o,s,rfl,hs,_,k⟩:=h;refine ⟨_,(aa (sn S 1 (aL (af (ay bC (pf 0) ag) (af (az aM rfl T.cW boot_len (pa1 (pf 0))) (af (pf 0) (af (pf 0) (af (pf 0) (pa1 (pf 0)))))))))
  (aa (sn S 2 (aL (af (pf 0) (af (pf 0) (pa1 (pf 0))))))
  (aa (sn S 3 (aL (af (pf 0) (af (az aM rfl T.cW boot_len (pa1 (pf 0))) (af (pf 0) (af (az aM rfl T.cW boot_len (pa1 (pf 0))) (pa1 (zA (aJ (pf 0)) ag ag))))))))
  (ae (aw (ay cv (ay cv (ay cv (aL (af ag (af (pf 0) (pa1 (pf 0))))) (pv 1)) (pv 2)) (pv 3))))))),?_⟩
 show aP _ _ _ [some (.ref p),none,none,none] H;tm_at "ck";obtain ⟨ws,eo⟩:=hs.two.o;unfold ui at k;refine bO ?_;tm_at "sm";refine bD (by simp) (fun q1 H1 n1 s1 e1=>?_);have e1:ax H1 q1 [s.last - 1,(s.aB.length:Int),s.first,s.au,s.top,s.room]:=e1;have hs1:=hs.mono s1;tm_at "sm"
 try dsimp only
 refine bO ?_;tm_at "sm";refine bD (by simp) (fun q2 H2 n2 s2 e2=>?_);have e2:ax H2 q2 [s.wide,s.slow,s.wait]:=e2;have hs2:=hs1.mono s2;have e12:=e1.mono s2;tm_at "sm"
 try dsimp only
 refine oQ (fun σ' H'=>∃q3,σ'=[some (V.ref p),some (V.ref q1),some (V.ref q2),some (V.ref q3)]∧aF H2 H'∧ax H' q3 [s.wanted,(s.aH.length:Int),s.edge,(s.pieces.length:Int),if s.bg=true then 1 else 0]) (fun N hN=>?_) ?_
 ·tm_at "sm"
  ·rename_i d1
   refine bD (by simp) (fun q3 H3 n3 s3 e3=>?_);tm_at "sm";refine hN _ _ ⟨q3,rfl,s3,?_⟩;rw [if_pos d1];exact e3
  ·rename_i d1
   refine bD (by simp) (fun q3 H3 n3 s3 e3=>?_);tm_at "sm";refine hN _ _ ⟨q3,rfl,s3,?_⟩;rw [if_neg d1];exact e3
 rintro σ' H3 ⟨q3,rfl,s3,e3⟩;have hs3:=hs2.mono s3;have s03:=(s1.trans s2).trans s3;have sz:sizeLine=16777216:=sizeLine_eq;tm_at "sx";refine bD (by simp) (fun q4 H4 n4 s4 e4=>?_);have e4:ax H4 q4 [0,s.phase,s.why]:=e4;have a1:=(e12.mono s3).mono s4;have a2:=(e2.mono s3).mono s4;have a3:=e3.mono s4;tm_at "sx";refine cV e4 a1 (by simp [sz]) (fun q5 H5 n5 s5 e5=>?_);tm_at "sx";refine cV e5 (a2.mono s5) (by simp [sz]) (fun q6 H6 n6 s6 e6=>?_);tm_at "sx";refine cV e6 ((a3.mono s5).mono s6) (by simp [sz]) (fun q7 H7 n7 s7 e7=>?_);have s07:=((s03.trans s4).trans s5).trans (s6.trans s7);exact k q7 H7 (hs.mono s07) (aF.fr s07) e7 (ai ((((s03.trans s4).trans s5).trans s6) _ _ eo) n7).symm
end
section
variable {P:Program} {w:World} {K:PySem.W.Frag} {mg:Str→Option Value} {base:Heap} {a:AD}
theorem not_eq {b:Bool} (h:(!b)=true):b=false:=by cases b;rfl;cases h
theorem rZ {b:Bool} (h:¬(!b)=true):b=true:=by cases b;exact (h rfl).elim;rfl
noncomputable def TOk (s:PS) (n:Int):Prop:=eF n=true→IB s n
noncomputable def xS (a:AD) (C:PS→Int→Prop) (f:PS→Int→PS×List Int):Sp:=fun vs H Q _=>∃(p o:Addr) (s:PS) (n:Int),vs=[.ref p,.int n]∧Sd a H p o s∧C s n∧Ans a H p o (f s n) Q
noncomputable def BV (a:AD) (C:PS→Int→Int→Prop) (f:PS→Int→Int→PS×List Int):Sp:=fun vs H Q _=>∃(p o:Addr) (s:PS) (n m:Int),vs=[.ref p,.int n,.int m]∧Sd a H p o s∧C s n m∧Ans a H p o (f s n m) Q
noncomputable def xb (s:PS) (n:Int):PS×List Int:=if eF n=false then (s,[-1]) else (cA s n,[0])
theorem HB (T:TX K mg a):Ok P w K mg base a Bo 13 (xS a TOk xb):=by
 refine fo T 98 fun S H hr h=>?_;obtain ⟨p,o,s,n,rfl,hs,ok,k⟩:=h;refine ⟨_,(aa (si (cF (aJ (pc (fq T) hr (pa1 (pv 1))))) (ae (aw (aL (pa1 (pgi T 33))))))
  (aa (aj (pc (lK T) hr (af (pv 0) (pa1 (pv 1)))))
  (ae (aw (aL (pa1 ag)))))),?_⟩
 show aP _ _ _ [some (.ref p),some (.int n)] H;tm_at "ck";tm_at "sx"
 ·rename_i d1
  exact bw k (by unfold xb;rw [if_pos (not_eq d1)]) hs Fr.refl
 ·rename_i d1
  have e:=rZ d1;refine ⟨p,o,s,n,rfl,hs,ok e,fun H1 h1 f1=>?_⟩;tm_at "sx";exact bw k (by unfold xb;rw [if_neg (by rw [e];decide)]) h1 f1
noncomputable def keptOk (i:Int):Bool:=if 0≤i then decide (i≤2147483648) else false
noncomputable def su (s:PS) (n m:Int):PS×List Int:=if (eF n && keptOk m)=false then (s,[-1]) else (jt ((cA s n).uT m),[0])
theorem A5 (T:TX K mg a):Ok P w K mg base a sG 13 (BV a (fun s n _=>TOk s n) su):=by
 refine fo T 99 fun S H hr h=>?_;rename_i Q E;obtain ⟨p,o,s,n,m,rfl,hs,ok,k⟩:=h;refine ⟨_,(aa (si (cF (PW.pt (bQ (aJ (pc (fq T) hr (pa1 (pv 1)))) (bS (qT eW eW ag (pv 2) (pgi T 42)))))) (ae (aw (aL (pa1 (pgi T 33))))))
  (aa (aj (pc (lK T) hr (af (pv 0) (pa1 (pv 1)))))
  (aa (sf 0 (pv 2))
  (aa (aj (pm0 (pv 0) (kN T) hr))
  (ae (aw (aL (pa1 ag)))))))),?_⟩
 show aP _ _ _ [some (.ref p),some (.int n),some (.int m)] H;tm_at "ck";have bad:(eF n && keptOk m)=false→AG [V.int (-1)] H Q:=fun e=>bw k (by unfold su;rw [if_pos e]) hs Fr.refl;unfold keptOk at bad;tm_at "sx"
 all_goals (first | exact bad (by simp_all;try omega) | skip)
 ·rename_i d1 d2 d3
  refine ⟨p,o,s,n,rfl,hs,ok d1,fun H1 h1 f1=>?_⟩;tm_at "sx";refine bw k ?_ (by assumption) (f1.trans (by tm_at "fr"));unfold su keptOk;rw [if_neg (by simp_all)]
noncomputable def rR (s:PS) (n:Int):PS×List Int:=if eF n=false then (s,[-1]) else
 if mB (cA s n)=true∨(cA s n).phase=5 then (cA s n,[-4]) else
 (finish (if gX (cA s n)=true then nO (cA s n) (cA s n).top 8 [] else cA s n) 4,[0])
structure yS (s:PS) (n:Int):Prop where
 t:TOk s n
 o:eF n=true→(cA s n).out.length≤1000000
theorem ES (T:TX K mg a):Ok P w K mg base a yB 13 (xS a yS rR):=by
 refine fo T 97 fun S H hr h=>?_;obtain ⟨p,o,s,n,rfl,hs,ok,k⟩:=h;refine ⟨_,(aa (si (cF (aJ (pc (fq T) hr (pa1 (pv 1))))) (ae (aw (aL (pa1 (pgi T 33))))))
  (aa (aj (pc (lK T) hr (af (pv 0) (pa1 (pv 1)))))
  (aa (si (PW.pt (gL (aJ (pc (mw T) hr (pa1 (pv 0)))) (gK (ptR bb (pf 0) (pgi T 16))))) (ae (aw (aL (pa1 (pgi T 36))))))
  (aa (si (aJ (pm0 (pv 0) (eY T) hr)) (ae (aj (pc (vk T) hr (af (pv 0) (af (pf 0) (af (pgi T 3) (pa1 (aL d9)))))))))
  (aa (aj (pm (pv 0) (cK T) hr (pa1 (pgi T 21))))
  (ae (aw (aL (pa1 ag))))))))),?_⟩
 show aP _ _ _ [some (.ref p),some (.int n)] H;tm_at "ck";tm_at "sx"
 ·rename_i d1
  exact bw k (by unfold rR;rw [if_pos (not_eq d1)]) hs Fr.refl
 ·rename_i d1
  have e:=rZ d1;refine ⟨p,o,s,n,rfl,hs,ok.t e,fun H1 h1 f1=>?_⟩;have oo:=ok.o e;unfold rR at k;rw [if_neg (by rw [e];decide)] at k;generalize cA s n=s1 at h1 k oo;tm_at "sx"
  ·rename_i d2
   exact bw k (by rw [if_pos (.inl d2)]) h1 f1
  ·rename_i d2 d3
   exact bw k (by rw [if_pos (.inr d3)]) h1 f1
  ·rename_i d2 d3 d4
   obtain ⟨ws,eo⟩:=h1.two.o;refine bD (by simp) (fun l H2 n2 s2 h2=>?_);tm_at "sx";refine ⟨p,o,l,s1,s1.top,8,[],rfl,h1.mono s2,h2,(ai eo n2).symm,.none (by decide) oo,fun H3 h3 f3=>?_⟩;tm_at "sx";rename_i H4 h4 f4;exact bw k (by rw [if_neg (fun q=>q.elim d2 d3),if_pos d4]) h4 (f1.trans ((aF.fr s2).trans (f3.trans f4)))
  ·rename_i d2 d3 d4 H4 h4 f4
   exact bw k (by rw [if_neg (fun q=>q.elim d2 d3),if_neg d4]) h4 (f1.trans f4)
noncomputable def toWrite (s:PS) (n:Int):PS×Int:=if eF n=false then (s,-1) else
 (cA s n,if (cA s n).phase=0∨(cA s n).phase=1 then -4 else if (cA s n).phase=5∨(cA s n).phase=6∨(cA s n).closing=true then -6 else 0)
noncomputable def zh (a:AD):Sp:=fun vs H Q _=>∃(p o:Addr) (s:PS) (n:Int),vs=[.ref p,.int n]∧Sd a H p o s∧TOk s n∧∀H',Sd a H' p o (toWrite s n).1→Fr p o H H'→Q (.int (toWrite s n).2) H'
theorem ky (T:TX K mg a):Ok P w K mg base a iL 13 (zh a):=by
 refine fo T 93 fun S H hr h=>?_;obtain ⟨p,o,s,n,rfl,hs,ok,k⟩:=h;refine ⟨_,(aa (si (cF (aJ (pc (fq T) hr (pa1 (pv 1))))) (ae (aw (pgi T 33))))
  (aa (aj (pc (lK T) hr (af (pv 0) (pa1 (pv 1)))))
  (aa (si (PW.pt (gL (ptR bb (pf 0) (pgi T 11)) (gK (ptR bb (pf 0) (pgi T 12))))) (ae (aw (pgi T 36))))
  (aa (si (PW.pt (gL (ptR bb (pf 0) (pgi T 16)) (gL (ptR bb (pf 0) (pgi T 17)) (gK (aJ (pf 0)))))) (ae (aw (pgi T 37))))
  (ae (aw ag)))))),?_⟩
 show aP _ _ _ [some (.ref p),some (.int n)] H;tm_at "ck";unfold toWrite at k;tm_at "sx"
 ·rename_i d1
  rw [if_pos (not_eq d1)] at k;exact k _ hs Fr.refl
 ·rename_i d1
  have e:=rZ d1;refine ⟨p,o,s,n,rfl,hs,ok e,fun H1 h1 f1=>?_⟩;rw [if_neg (by rw [e];decide)] at k;dsimp only at k;generalize cA s n=s1 at h1 k;tm_at "sx"
  ·rename_i d2
   rw [if_pos (.inl d2)] at k;exact k _ h1 f1
  ·rename_i d2 d3
   rw [if_pos (.inr d3)] at k;exact k _ h1 f1
  ·rename_i d2 d3 d4
   rw [if_neg (fun q=>q.elim d2 d3),if_pos (.inl d4)] at k;exact k _ h1 f1
  ·rename_i d2 d3 d4 d5
   rw [if_neg (fun q=>q.elim d2 d3),if_pos (.inr (.inl d5))] at k;exact k _ h1 f1
  ·rename_i d2 d3 d4 d5 d6
   rw [if_neg (fun q=>q.elim d2 d3),if_pos (.inr (.inr d6))] at k;exact k _ h1 f1
  ·rename_i d2 d3 d4 d5 d6
   rw [if_neg (fun q=>q.elim d2 d3),if_neg (fun q=>q.elim d4 (fun z=>z.elim d5 d6))] at k;exact k _ h1 f1
noncomputable def sN (s:PS) (n:Int):PS×List Int:=if (toWrite s n).2<0 then ((toWrite s n).1,[(toWrite s n).2]) else (bJ ((toWrite s n).1.gx true),[0])
structure pF (s:PS) (n:Int):Prop where
 t:TOk s n
 c:¬(toWrite s n).2<0→jM ((toWrite s n).1.gx true)
theorem ET (T:TX K mg a):Ok P w K mg base a yD 14 (xS a pF sN):=by
 refine fo T 96 fun S H hr h=>?_;obtain ⟨p,o,s,n,rfl,hs,ok,k⟩:=h;refine ⟨_,(aa (sn S 2 (pc (ky T) hr (af (pv 0) (pa1 (pv 1)))))
  (aa (si (ptR eV (pv 2) ag) (ae (aw (aL (pa1 (pv 2))))))
  (aa (sf 0 iq)
  (aa (aj (pc (jm T) hr (pa1 (pv 0))))
  (ae (aw (aL (pa1 ag)))))))),?_⟩
 show aP _ _ _ [some (.ref p),some (.int n),none] H;tm_at "ck";tm_at "sx";refine ⟨p,o,s,n,rfl,hs,ok.t,fun H1 h1 f1=>?_⟩;have okc:=ok.c;unfold sN at k;generalize toWrite s n=x at h1 k okc;tm_at "sx"
 ·rename_i d1
  exact bw k (by rw [if_pos d1]) h1 f1
 ·rename_i d1 H2 h2 f2
  refine ⟨p,o,x.1.gx true,rfl,h2,okc d1,fun H3 h3 f3=>?_⟩;tm_at "sx";exact bw k (by rw [if_neg d1]) h3 (f1.trans (f2.trans f3))
noncomputable def jq (s:PS) (given:List Int):List Int:=eS given none (some (min (65536 - (s.aB.length:Int)) (1073741824 - (s.last - 1))))
noncomputable def DZ (s:PS) (tk:List Int):PS:=(s.jh (s.aB++tk)).uS (s.last+(tk.length:Int))
noncomputable def rJ (s:PS) (n:Int) (given:List Int):PS×List Int:=if (toWrite s n).2<0 then ((toWrite s n).1,[(toWrite s n).2]) else
 (bJ (DZ (toWrite s n).1 (jq (toWrite s n).1 given)),[((jq (toWrite s n).1 given).length:Int)])
structure uD (s:PS) (n:Int) (given:List Int):Prop where
 t:TOk s n
 l:(toWrite s n).1.aB.length+given.length≤1000000
 c:¬(toWrite s n).2<0→jM (DZ (toWrite s n).1 (jq (toWrite s n).1 given))
noncomputable def Ej (a:AD):Sp:=fun vs H Q _=>∃(p o gq:Addr) (s:PS) (n:Int) (given:List Int),vs=[.ref p,.int n,.ref gq]∧Sd a H p o s∧ax H gq given∧gq≠o∧uD s n given∧Ans a H p o (rJ s n given) Q
theorem ER (T:TX K mg a):Ok P w K mg base a uw 14 (Ej a):=by
 refine fo T 94 fun S H hr h=>?_;obtain ⟨p,o,gq,s,n,given,rfl,hs,hg,ng,ok,k⟩:=h;refine ⟨_,(aa (sn S 3 (pc (ky T) hr (af (pv 0) (pa1 (pv 1)))))
  (aa (si (ptR eV (pv 3) ag) (ae (aw (aL (pa1 (pv 3))))))
  (aa (sn S 4 (ay bC (pf 0) ag))
  (aa (sn S 5 (cG dm (pv 2) fC (bN (az (eI rfl) rfl T.mW boot_min (af (ay bC (pgi T 43) (az aM rfl T.cW boot_len (pa1 (pf 0)))) (pa1 (ay bC (pgi T 44) (pv 4))))))))
  (aa (sf 0 (ay cv (pf 0) (pv 5)))
  (aa (fB (pv 0) (az aM rfl T.cW boot_len (pa1 (pv 5))) mD)
  (aa (aj (pc (jm T) hr (pa1 (pv 0))))
  (ae (aw (aL (pa1 (az aM rfl T.cW boot_len (pa1 (pv 5)))))))))))))),?_⟩
 show aP _ _ _ [some (.ref p),some (.int n),some (.ref gq),none,none,none] H;tm_at "ck";tm_at "sx";refine ⟨p,o,s,n,rfl,hs,ok.t,fun H1 h1 f1=>?_⟩;have okc:=ok.c;have okl:=ok.l;unfold rJ at k;have hg1:=hg.fr hs.two f1 ng;generalize toWrite s n=x at h1 k okc okl;obtain ⟨ws,eo⟩:=h1.two.o;have sz:sizeLine=16777216:=sizeLine_eq;tm_at "sx"
 ·rename_i d1
  exact bw k (by rw [if_pos d1]) h1 f1
 ·rename_i d1 q0 hq0 nq0
  refine ni hg1 (fun q2 H2 n2 s2 e2=>?_);have e2:ax H2 q2 (jq x.1 given):=e2;have h2:=h1.mono s2;have lt:(jq x.1 given).length≤given.length:=oJ _ _ _;have nq2:q2≠o:=(ai eo n2).symm;tm_at "sn";rename_i q3 hq3 nq3;refine cV hq3 e2 (by tm_at "ob") (fun q4 H4 n4 s4 e4=>?_);have h4:=h2.mono s4;tm_at "sn";refine uM T h4 e4 (ai (s2 _ _ eo) n4).symm (fun H5 h5 f5=>?_);have e25:=(e2.mono s4).fr h4.two f5 nq2;tm_at "sx";rename_i H6 h6 f6;have h6:Sd a H6 p o (DZ x.1 (jq x.1 given)):=h6;have e26:=e25.fr h5.two f6 nq2;refine ⟨p,o,_,rfl,h6,okc d1,fun H7 h7 f7=>?_⟩;have e27:=e26.fr h6.two f7 nq2;tm_at "sx";exact bw k (by rw [if_neg d1]) h7 (f1.trans ((aF.fr s2).trans ((aF.fr s4).trans (f5.trans (f6.trans f7)))))
end
section
variable {P:Program} {w:World} {K:PySem.W.Frag} {mg:Str→Option Value} {base:Heap} {a:AD}
noncomputable def dY (s:PS):Int:=if s.aH.isEmpty=true then (if s.phase=0∨s.phase=1 then -4 else if s.bg=true∨s.phase=6 then -6 else 0) else 0
noncomputable def nP (s:PS) (m:Int):List Int:=eS s.aH none (some m)
noncomputable def uV (s:PS) (m:Int):PS:=s.iz (eS s.aH (some ((nP s m).length:Int)) none)
noncomputable def readA (s:PS):PS:=if gX s=true∧s.bg=false∧lQ s=true then bP s else s
noncomputable def xk (s:PS) (n m:Int):PS×List Int:=if eF n=false then (s,[-1]) else
 if dY (cA s n)<0 then (cA s n,[dY (cA s n)]) else (readA (uV (cA s n) m),((nP (cA s n) m).length:Int)::nP (cA s n) m)
structure yT (s:PS) (n:Int):Prop where
 t:TOk s n
 o:eF n=true→(cA s n).out.length≤1000000
 l:eF n=true→(cA s n).aH.length≤1000000
theorem HC (T:TX K mg a):Ok P w K mg base a Bq 13 (BV a (fun s n _=>yT s n) xk):=by
 refine fo T 95 fun S H hr h=>?_;obtain ⟨p,o,s,n,m,rfl,hs,ok,k⟩:=h;refine ⟨_,(aa (si (cF (aJ (pc (fq T) hr (pa1 (pv 1))))) (ae (aw (aL (pa1 (pgi T 33))))))
  (aa (aj (pc (lK T) hr (af (pv 0) (pa1 (pv 1)))))
  (aa (si (cF (lH (pf 0) (fun _=>rfl))) (aa (si (PW.pt (gL (ptR bb (pf 0) (pgi T 11)) (gK (ptR bb (pf 0) (pgi T 12))))) (ae (aw (aL (pa1 (pgi T 36))))))
  (ae (si (PW.pt (gL (aJ (pf 0)) (gK (ptR bb (pf 0) (pgi T 17))))) (ae (aw (aL (pa1 (pgi T 37)))))))))
  (aa (sn S 3 (cG dm (pf 0) fC (bN (pv 2))))
  (aa (sf 0 (cG dm (pf 0) (bN (az aM rfl T.cW boot_len (pa1 (pv 3)))) fC))
  (aa (si (PW.pt (bQ (aJ (pm0 (pv 0) (eY T) hr)) (bQ (cF (aJ (pf 0))) (bS (aJ (pc (kz T) hr (pa1 (pv 0)))))))) (ae (aj (pc (gs T) hr (pa1 (pv 0))))))
  (ae (aw (ay cv (aL (pa1 (az aM rfl T.cW boot_len (pa1 (pv 3))))) (pv 3)))))))))),?_⟩
 show aP _ _ _ [some (.ref p),some (.int n),some (.int m),none] H;tm_at "ck";tm_at "sx"
 ·rename_i d1
  exact bw k (by unfold xk;rw [if_pos (not_eq d1)]) hs Fr.refl
 rename_i d1;have e:=rZ d1;refine ⟨p,o,s,n,rfl,hs,ok.t e,fun H1 h1 f1=>?_⟩;have oo:=ok.o e;have ol:=ok.l e;unfold xk at k;rw [if_neg (by rw [e];decide)] at k;generalize cA s n=s1 at h1 k oo ol;have sz:sizeLine=16777216:=sizeLine_eq
 try dsimp only
 refine oQ (fun σ' H'=>σ'=[some (V.ref p),some (V.int n),some (V.int m),none]∧H'=H1∧dY s1=0) (fun N hN=>?_) ?_
 ·tm_at "sm"
  rename_i q0 hq0 nq0;refine ⟨_,.inl ⟨_,SqL.of hq0,rfl⟩,?_⟩;rw [px];show if (!(!s1.aH.isEmpty))=true then _ else _;rw [Bool.not_not]
  cases e0:s1.aH.isEmpty with
  | false =>
   refine Ay ?_;tm_at "sm";exact hN _ _ ⟨rfl,rfl,by unfold dY;rw [e0,if_neg Bool.false_ne_true]⟩
  | true =>
   refine DS ?_;tm_at "sx"
   ·rename_i d2
    refine bw k ?_ h1 f1;have er:dY s1 = -4:=by unfold dY;rw [e0,if_pos rfl,if_pos (.inl d2)]
    rw [er,if_pos (by decide)]
   ·rename_i d2 d3
    refine bw k ?_ h1 f1;have er:dY s1 = -4:=by unfold dY;rw [e0,if_pos rfl,if_pos (.inr d3)]
    rw [er,if_pos (by decide)]
   ·rename_i d2 d3 d4
    refine bw k ?_ h1 f1;have er:dY s1 = -6:=by unfold dY;rw [e0,if_pos rfl,if_neg (fun q=>q.elim d2 d3),if_pos (.inl d4)]
    rw [er,if_pos (by decide)]
   ·rename_i d2 d3 d4 d5
    refine bw k ?_ h1 f1;have er:dY s1 = -6:=by unfold dY;rw [e0,if_pos rfl,if_neg (fun q=>q.elim d2 d3),if_pos (.inr d5)]
    rw [er,if_pos (by decide)]
   ·rename_i d2 d3 d4 d5
    exact hN _ _ ⟨rfl,rfl,by unfold dY;rw [e0,if_pos rfl,if_neg (fun q=>q.elim d2 d3),if_neg (fun q=>q.elim d4 d5)]⟩
 rintro σ' H' ⟨rfl,rfl,er⟩;rw [er,if_neg (by decide)] at k;obtain ⟨ws,eo⟩:=h1.two.o;have lD:(nP s1 m).length≤s1.aH.length:=oJ _ _ _
 try dsimp only
 refine bO ?_;tm_at "sm";rename_i q0 hq0 nq0;refine ni hq0 (fun q2 H2 n2 s2 e2=>?_);have e2:ax H2 q2 (nP s1 m):=e2;have h2:=h1.mono s2;have nq2:q2≠o:=(ai eo n2).symm;tm_at "sm"
 try dsimp only
 refine bO ?_;tm_at "sm";rename_i q3 hq3 nq3;refine ni hq3 (fun q4 H4 n4 s4 e4=>?_);have h4:=h2.mono s4;have e24:=e2.mono s4;tm_at "sm";refine xg T h4 e4 (ai (s2 _ _ eo) n4).symm (fun H5 h5 f5=>?_);have h5:Sd a H5 p o (uV s1 m):=h5;have e25:=e24.fr h4.two f5 nq2;have f15:Fr p o H H5:=f1.trans ((aF.fr s2).trans ((aF.fr s4).trans f5));have o5:(uV s1 m).out.length≤1000000:=oo;generalize uV s1 m=s5 at h5 k o5
 try dsimp only
 refine oQ (fun σ' H'=>σ'=[some (V.ref p),some (V.int n),some (V.int m),some (V.ref q2)]∧Sd a H' p o (readA s5)∧Fr p o H5 H') (fun N hN=>?_) ?_
 ·tm_at "sm"
  ·rename_i d2 d3 d4
   refine fP (s:=s5) h5 o5 (fun H9 h9 f9=>?_);refine hN _ _ ⟨rfl,?_,f9⟩;unfold readA;rw [if_pos ⟨d2,not_eq d3,d4⟩];exact h9
  ·rename_i d2 d3 d4
   refine hN _ _ ⟨rfl,?_,Fr.refl⟩;unfold readA;rw [if_neg (fun q=>d4 q.2.2)];exact h5
  ·rename_i d2 d3
   refine hN _ _ ⟨rfl,?_,Fr.refl⟩;unfold readA;rw [if_neg (fun q=>d3 (by rw [q.2.1];rfl))];exact h5
  ·rename_i d2
   refine hN _ _ ⟨rfl,?_,Fr.refl⟩;unfold readA;rw [if_neg (fun q=>d2 q.1)];exact h5
 rintro σ' H6 ⟨rfl,h6,f6⟩;have e26:=e25.fr h5.two f6 nq2;obtain ⟨ws6,eo6⟩:=h6.two.o;tm_at "sx";refine bD (by simp) (fun q7 H7 n7 s7 e7=>?_);have e7:ax H7 q7 [((nP s1 m).length:Int)]:=e7;tm_at "sx";refine cV e7 (e26.mono s7) (by simp;tm_at "ob") (fun q8 H8 n8 s8 e8=>?_);exact k q8 H8 ((h6.mono s7).mono s8) (f15.trans (f6.trans (aF.fr (s7.trans s8)))) e8 (ai (s7 _ _ eo6) n8).symm
noncomputable def Bh (s:PS) (sd:Int) (g:SG):Bool:=if g.oV≠s.mine then false else if s.phase=1 then true else if sd=s.them then decide (g.fF=s.theirs) else false
noncomputable def Em (a:AD):Sp:=fun vs H Q _=>∃(p o q rq dq dx:Addr) (s:PS) (sd:Int) (g:SG),vs=[.ref p,.int sd,.ref q]∧Sd a H p o s∧SegX a H o q rq dq dx g∧Q (.bl (Bh s sd g)) H
theorem uf (T:TX K mg a):Ok P w K mg base a kd 1 (Em a):=by
 refine fo T 91 fun S H hr h=>?_;obtain ⟨p,o,q,rq,dq,dx,s,sd,g,rfl,hs,hg,k⟩:=h;refine ⟨_,(aa (si (ptR vg (pf 2) (pf 0)) (ae (aw iq)))
  (ae (aw (IL (peR bb (pf 0) (pgi T 12)) (iE (fL (peR bb (pv 1) (pf 0)) (iE (peR bb (pf 2) (pf 0))))))))),?_⟩
 show aP _ _ _ [some (.ref p),some (.int sd),some (.ref q)] H;tm_at "ck";have hq:=hg.obj;unfold Bh at k;tm_at "sx"
 ·rename_i d1
  rw [if_pos d1] at k;exact k
 ·rename_i d1 d2
  rw [if_neg d1,if_pos d2] at k;exact k
 ·rename_i d1 d2 d3
  rw [if_neg d1,if_neg d2,if_pos d3] at k;exact k
 ·rename_i d1 d2 d3
  rw [if_neg d1,if_neg d2,if_neg d3] at k;exact k
noncomputable def lu (s:PS) (sd n:Int) (given:List Int):PS×List Int:=if (mC sd && eF n)=false then (s,[-1]) else
 if mB (cA s n)=true then (cA s n,[-4]) else match lF given sd (cA s n).me with
 | none=>(cA s n,[-3])
 | some g=>if Bh (cA s n) sd g=true then (xw (cA s n) sd g,[0]) else (cA s n,[-2])
structure yW (s:PS) (sd n:Int) (given:List Int):Prop where
 t:TOk s n
 b:∀x∈given,0≤x∧x≤255
 c:eF n=true→mB (cA s n)=false→∀g,lF given sd (cA s n).me=some g→Bh (cA s n) sd g=true→yV (cA s n) sd g
noncomputable def xO (a:AD):Sp:=fun vs H Q _=>∃(p o gq:Addr) (s:PS) (sd n:Int) (given:List Int),vs=[.ref p,.int sd,.int n,.ref gq]∧Sd a H p o s∧ax H gq given∧gq≠o∧yW s sd n given∧Ans a H p o (lu s sd n given) Q
theorem ye (T:TX K mg a):Ok P w K mg base a ou 15 (xO a):=by
 refine fo T 92 fun S H hr h=>?_;rename_i Q E;obtain ⟨p,o,gq,s,sd,n,given,rfl,hs,hgv,ng,ok,k⟩:=h;refine ⟨_,(aa (si (cF (PW.pt (bQ (aJ (pc (iX T) hr (pa1 (pv 1)))) (bS (aJ (pc (fq T) hr (pa1 (pv 2)))))))) (ae (aw (aL (pa1 (pgi T 33))))))
  (aa (aj (pc (lK T) hr (af (pv 0) (pa1 (pv 2)))))
  (aa (si (aJ (pc (mw T) hr (pa1 (pv 0)))) (ae (aw (aL (pa1 (pgi T 36))))))
  (aa (sn S 4 (pc (ue T) hr (af (pv 3) (af (pv 1) (pa1 (pf 0))))))
  (aa (si (kM (nT (pv 4))) (ae (aw (aL (pa1 (pgi T 35))))))
  (aa (si (cF (aJ (pc (uf T) hr (af (pv 0) (af (pv 1) (pa1 (pv 4))))))) (ae (aw (aL (pa1 (pgi T 34))))))
  (aa (aj (pc (HE T) hr (af (pv 0) (af (pv 1) (pa1 (pv 4))))))
  (ae (aw (aL (pa1 ag))))))))))),?_⟩
 show aP _ _ _ [some (.ref p),some (.int sd),some (.int n),some (.ref gq),none] H;tm_at "ck";have bad:(mC sd && eF n)=false→AG [V.int (-1)] H Q:=fun e=>bw k (by unfold lu;rw [if_pos e]) hs Fr.refl;tm_at "sx"
 all_goals (first | exact bad (by simp_all) | skip)
 rename_i d1 d2;have et:=rZ d2;refine ⟨p,o,s,n,rfl,hs,ok.t et,fun H1 h1 f1=>?_⟩;have okc:=ok.c et;have okb:=ok.b;have hg1:=hgv.fr hs.two f1 ng;unfold lu at k;rw [if_neg (by rw [d1,et];decide)] at k;generalize cA s n=s1 at h1 k okc;obtain ⟨ws,eo⟩:=h1.two.o;tm_at "sx"
 ·rename_i d3
  exact bw k (by rw [if_pos d3]) h1 f1
 ·rename_i d3
  rw [if_neg d3] at k;have okc:=okc (Bool.not_eq_true _▸d3);refine ⟨gq,given,sd,s1.me,rfl,hg1,okb,fun en H2 s2=>?_,fun g eg H2 sq dx rq dq n1 n2 n3 s2 e1 e2 e3=>?_⟩
  ·rw [en] at k
   tm_at "sx"
   ·exact bw k rfl (h1.mono s2) (f1.trans (aF.fr s2))
   ·rename_i z
    exact (z rfl).elim
  ·rw [eg] at k
   dsimp only at k;have h2:=h1.mono s2;have hx:SegX a H2 o sq rq dq dx g:=⟨e1,e2,(ai eo n2).symm,e3,(ai eo n3).symm⟩;tm_at "sx"
   ·rename_i z
    cases z
   refine ⟨p,o,sq,rq,dq,dx,s1,sd,g,rfl,h2,hx,?_⟩;tm_at "sx"
   ·rename_i d4
    rw [if_neg (by rw [not_eq d4];decide)] at k;exact bw k rfl h2 (f1.trans (aF.fr s2))
   ·rename_i d4
    have d4:=rZ d4;rw [if_pos d4] at k;refine vR h2 hx (okc g eg d4) (fun H9 h9 f9=>?_);tm_at "sx";exact bw k rfl h9 (f1.trans ((aF.fr s2).trans f9))
end
section
variable {P:Program} {w:World} {K:PySem.W.Frag} {mg:Str→Option Value} {base:Heap} {a:AD}
noncomputable def fm (c:Pc):List Int:=c.1::(c.2.length:Int)::c.2
noncomputable def bX (os:List Pc):List Int:=(os.length:Int)::os.flatMap fm
noncomputable def GN:Sp:=fun vs H Q _=>∃(o:Addr) (os:List Pc),vs=[.ref o]∧bj H o o os∧(bX os).length≤10000000∧∀q H',H q=none→aF H H'→ax H' q (bX os)→Q (.ref q) H'
theorem HW (os:List Pc) (i:Nat) (c:Pc) (h:os[i]? = some c):((os.take i).flatMap fm).length+(c.2.length+2)≤(os.flatMap fm).length:=by
 have e:=gZ fm os i c h;have e2:os.flatMap fm=(os.take (i+1)).flatMap fm++(os.drop (i+1)).flatMap fm:=by rw [←List.flatMap_append,List.take_append_drop]
 rw [e2,e,List.length_append,List.length_append];have:(fm c).length=c.2.length+2:=rfl;tm_at "ob"
theorem zI (T:TX K mg a):Ok P w K mg base a qx 1 (GN):=by
 refine fo T 103 fun S H hr h=>?_;obtain ⟨o,os,rfl,ho,hl,k⟩:=h;refine ⟨_,(aa (sn S 1 (aL (pa1 (az aM rfl T.cW boot_len (pa1 (pv 0))))))
  (aa (jY PassesOwn.never rfl (gM (pv 0)) (d8 (i:=2) S.nd rfl (Or.inl rfl)) (aa (aj (jl PySem.F.plainAttrs_list PySem.F.slot_list_append PySem.F.type_list_append dM (pv 1) (pa1 (aY cz (pv 2) ag (fun _ _=>rfl)))))
  (aa (aj (jl PySem.F.plainAttrs_list PySem.F.slot_list_append PySem.F.type_list_append dM (pv 1) (pa1 (az aM rfl T.cW boot_len (pa1 (aY cz (pv 2) ag (fun _ _=>rfl)))))))
  (ae (aj (jl PySem.F.plainAttrs_list PySem.F.slot_list_extend PySem.F.type_list_extend jQ (pv 1) (pa1 (aY cz (pv 2) ag (fun _ _=>rfl)))))))))
  (ae (aw (pv 1))))),?_⟩
 show aP _ _ _ [some (.ref o),none,none] H;tm_at "ck";have sz:sizeLine=16777216:=sizeLine_eq;obtain ⟨vs,ev,pr⟩:=id ho;have ln:=Paired.len pr;refine bO ?_;tm_at "sm";refine bD (by simp) (fun q H1 n1 s1 e1=>?_);have e1:ax H1 q [(os.length:Int)]:=e1;tm_at "sm"
 try dsimp only
 refine bO ?_;tm_at "sm";have hl':1+(os.flatMap fm).length≤10000000:=by unfold bX at hl;rw [List.length_cons] at hl;tm_at "ob"
 refine forL (s1 _ _ ev) (fun i σ H'=>∃v,σ=[some (.ref o),some (.ref q),v]∧aF H H'∧ax H' q ((os.length:Int)::(os.take i).flatMap fm)) ⟨none,rfl,s1,e1⟩ (fun i σ H' _ ⟨_,_,s2,_⟩=>s2 _ _ ev) ?_ ?_
 ·rintro i z σ H' hz ⟨v,rfl,s2,e2⟩
  obtain ⟨c,hc,t,cl,rfl,ht,hcl,ncl⟩:=dh pr hz;have fl:=HW os i c hc;have ht2:=s2 _ _ ht;tm_at "sm";refine bO ?_;tm_at "sm";refine gG e2 ?_;tm_at "sm";refine eT ht2 ?_;tm_at "sm";refine jA e2 (by rw [List.length_map,List.length_cons];tm_at "ob") (fun H3 f3 e3=>?_);have s3:=aF.ny s2 n1 f3;have e3:ax H3 q ((os.length:Int)::(os.take i).flatMap fm++[c.1]):=by show _=some (HO.lst (List.map V.int _));rw [List.map_append];exact e3
  tm_at "sm"
  try dsimp only
  refine bO ?_;tm_at "sm";refine gG e3 ?_;tm_at "sm";refine ig (s3 _ _ ht) ?_;tm_at "sm";refine qA (s3 _ _ hcl) ?_;tm_at "sm";refine jA e3 (by rw [List.length_map];simp only [List.length_append,List.length_cons,List.length_nil];tm_at "ob") (fun H4 f4 e4=>?_);have s4:=aF.ny s3 n1 f4;have e4:ax H4 q ((os.length:Int)::(os.take i).flatMap fm++[c.1]++[(c.2.length:Int)]):=by show _=some (HO.lst (List.map V.int _));rw [List.map_append];exact e4
  tm_at "sm"
  try dsimp only
  tm_at "sm";refine gG e4 ?_;tm_at "sm";refine ig (s4 _ _ ht) ?_;tm_at "sm";refine qB e4 (s4 _ _ hcl) (by simp only [List.length_append,List.length_cons,List.length_nil];tm_at "ob") (fun H5 f5 e5=>?_);refine ⟨_,rfl,aF.ny s4 n1 f5,?_⟩;rw [gZ fm os i c hc];have:(os.length:Int)::((os.take i).flatMap fm++fm c)=(os.length:Int)::(os.take i).flatMap fm++[c.1]++[(c.2.length:Int)]++c.2:=by unfold fm;simp
  rw [this];exact e5
 ·rintro σ H' ⟨v,rfl,s2,e2⟩
  rw [ln,List.take_length] at e2;tm_at "sx";exact k q H' n1 s2 e2
end
section
variable {P:Program} {w:World} {K:PySem.W.Frag} {mg:Str→Option Value} {base:Heap} {a:AD}
inductive cp (s:PS) (row:List Int):Int→List Int→PS×List Int→Prop
 | c1 (x0 x1 x2 x3 x4 x5:Int):s.out.length≤1000000→cp s row 1 [x0,x1,x2,x3,x4,x5] (gE s x0 x1 x2 x3 x4 x5)
 | c2 (x0 x1 x2 x3:Int):cp s row 2 [x0,x1,x2,x3] (ko s x0 x1 x2 x3)
 | c3 (x0 x1:Int):yW s x0 x1 row→cp s row 3 [x0,x1] (lu s x0 x1 row)
 | c4 (x0:Int):uD s x0 row→cp s row 4 [x0] (rJ s x0 row)
 | c5 (x0 x1:Int):yT s x0→cp s row 5 [x0,x1] (xk s x0 x1)
 | c6 (x0:Int):pF s x0→cp s row 6 [x0] (sN s x0)
 | c7 (x0:Int):yS s x0→cp s row 7 [x0] (rR s x0)
 | c8 (x0:Int):TOk s x0→cp s row 8 [x0] (xb s x0)
 | c9 (x0 x1:Int):TOk s x0→cp s row 9 [x0,x1] (su s x0 x1)
 | c10:rF s→cp s row 10 [] (qD s)
 | c11:cp s row 11 [] (ui s)
inductive Runs:List Int→PS→List Int→Prop
 | nil (s:PS):Runs [] s []
 | plain {call:Int} {nums post t:List Int} {s:PS} {y:PS×List Int}:cp (s.gf []) [] call nums y→(call≠3∧call≠4)→(bX y.1.out).length≤10000000→Runs post y.1 t→
   Runs (call::(nums++post)) s (((y.2++bX y.1.out).length:Int)::((y.2++bX y.1.out)++t))
 | IH {call:Int} {nums row post t:List Int} {s:PS} {y:PS×List Int}:cp (s.gf []) row call nums y→(call=3∨call=4)→(bX y.1.out).length≤10000000→Runs post y.1 t→
   Runs (call::(nums++((row.length:Int)::(row++post)))) s (((y.2++bX y.1.out).length:Int)::((y.2++bX y.1.out)++t))
noncomputable def xR (a:AD):Sp:=fun vs H Q _=>∃(p o nq rq:Addr) (s:PS) (call:Int) (nums row:List Int) (y:PS×List Int),vs=[.ref p,.int call,.ref nq,.ref rq]∧Sd a H p o s∧ax H nq nums∧ax H rq row∧rq≠o∧cp s row call nums y∧Ans a H p o y Q
theorem yj (T:TX K mg a):Ok P w K mg base a oH 16 (xR a):=by
 refine fo T 102 fun S H hr h=>?_;obtain ⟨p,o,nq,rq,s,call,nums,row,y,rfl,hs,hn,hrw,nr,ok,k⟩:=h;refine ⟨_,(aa (si (ptR bb (pv 1) (pgi T 45)) (ae (aw (pc (wN T) hr (af (pv 0) (af (aY bc (pv 2) ag (fun _ _=>rfl)) (af (aY bc (pv 2) ag (fun _ _=>rfl)) (af (aY bc (pv 2) ag (fun _ _=>rfl)) (af (aY bc (pv 2) ag (fun _ _=>rfl)) (af (aY bc (pv 2) ag (fun _ _=>rfl)) (pa1 (aY bc (pv 2) ag (fun _ _=>rfl)))))))))))))
  (aa (si (ptR bb (pv 1) (pgi T 46)) (ae (aw (pc (qU T) hr (af (pv 0) (af (aY bc (pv 2) ag (fun _ _=>rfl)) (af (aY bc (pv 2) ag (fun _ _=>rfl)) (af (aY bc (pv 2) ag (fun _ _=>rfl)) (pa1 (aY bc (pv 2) ag (fun _ _=>rfl)))))))))))
  (aa (si (ptR bb (pv 1) (pgi T 47)) (ae (aw (pc (ye T) hr (af (pv 0) (af (aY bc (pv 2) ag (fun _ _=>rfl)) (af (aY bc (pv 2) ag (fun _ _=>rfl)) (pa1 (pv 3)))))))))
  (aa (si (ptR bb (pv 1) (pgi T 48)) (ae (aw (pc (ER T) hr (af (pv 0) (af (aY bc (pv 2) ag (fun _ _=>rfl)) (pa1 (pv 3))))))))
  (aa (si (ptR bb (pv 1) (pgi T 49)) (ae (aw (pc (HC T) hr (af (pv 0) (af (aY bc (pv 2) ag (fun _ _=>rfl)) (pa1 (aY bc (pv 2) ag (fun _ _=>rfl)))))))))
  (aa (si (ptR bb (pv 1) (pgi T 50)) (ae (aw (pc (ET T) hr (af (pv 0) (pa1 (aY bc (pv 2) ag (fun _ _=>rfl))))))))
  (aa (si (ptR bb (pv 1) (pgi T 51)) (ae (aw (pc (ES T) hr (af (pv 0) (pa1 (aY bc (pv 2) ag (fun _ _=>rfl))))))))
  (aa (si (ptR bb (pv 1) (pgi T 52)) (ae (aw (pc (HB T) hr (af (pv 0) (pa1 (aY bc (pv 2) ag (fun _ _=>rfl))))))))
  (aa (si (ptR bb (pv 1) (pgi T 53)) (ae (aw (pc (A5 T) hr (af (pv 0) (af (aY bc (pv 2) ag (fun _ _=>rfl)) (pa1 (aY bc (pv 2) ag (fun _ _=>rfl)))))))))
  (aa (si (ptR bb (pv 1) (pgi T 54)) (ae (aw (pc (zD T) hr (pa1 (pv 0))))))
  (ae (aw (pc (zE T) hr (pa1 (pv 0))))))))))))))),?_⟩
 show aP _ _ _ [some (.ref p),some (.int call),some (.ref nq),some (.ref rq)] H;tm_at "ck"
 cases ok with
 | c1 x0 x1 x2 x3 x4 x5 ok =>
  tm_at "sn"
  all_goals (first | (rename_i z;exact absurd z (by decide)) | skip)
  all_goals (first | (rename_i z;exact absurd rfl z) | skip)
  all_goals (first | (exfalso;tm_at "oa") | skip)
  refine dR (j:=0) hn rfl ?_;tm_at "sn";refine dR (j:=1) hn rfl ?_;tm_at "sn";refine dR (j:=2) hn rfl ?_;tm_at "sn";refine dR (j:=3) hn rfl ?_;tm_at "sn";refine dR (j:=4) hn rfl ?_;tm_at "sn";refine dR (j:=5) hn rfl ?_;tm_at "sn";exact ⟨p,o,s,x0,x1,x2,x3,x4,x5,rfl,hs,ok,k⟩
 | c2 x0 x1 x2 x3 =>
  tm_at "sn"
  all_goals (first | (rename_i z;exact absurd z (by decide)) | skip)
  all_goals (first | (rename_i z;exact absurd rfl z) | skip)
  all_goals (first | (exfalso;tm_at "oa") | skip)
  refine dR (j:=0) hn rfl ?_;tm_at "sn";refine dR (j:=1) hn rfl ?_;tm_at "sn";refine dR (j:=2) hn rfl ?_;tm_at "sn";refine dR (j:=3) hn rfl ?_;tm_at "sn";exact ⟨p,o,s,x0,x1,x2,x3,rfl,hs,k⟩
 | c3 x0 x1 ok =>
  tm_at "sn"
  all_goals (first | (rename_i z;exact absurd z (by decide)) | skip)
  all_goals (first | (rename_i z;exact absurd rfl z) | skip)
  all_goals (first | (exfalso;tm_at "oa") | skip)
  refine dR (j:=0) hn rfl ?_;tm_at "sn";refine dR (j:=1) hn rfl ?_;tm_at "sn";exact ⟨p,o,rq,s,x0,x1,row,rfl,hs,hrw,nr,ok,k⟩
 | c4 x0 ok =>
  tm_at "sn"
  all_goals (first | (rename_i z;exact absurd z (by decide)) | skip)
  all_goals (first | (rename_i z;exact absurd rfl z) | skip)
  all_goals (first | (exfalso;tm_at "oa") | skip)
  refine dR (j:=0) hn rfl ?_;tm_at "sn";exact ⟨p,o,rq,s,x0,row,rfl,hs,hrw,nr,ok,k⟩
 | c5 x0 x1 ok =>
  tm_at "sn"
  all_goals (first | (rename_i z;exact absurd z (by decide)) | skip)
  all_goals (first | (rename_i z;exact absurd rfl z) | skip)
  all_goals (first | (exfalso;tm_at "oa") | skip)
  refine dR (j:=0) hn rfl ?_;tm_at "sn";refine dR (j:=1) hn rfl ?_;tm_at "sn";exact ⟨p,o,s,x0,x1,rfl,hs,ok,k⟩
 | c6 x0 ok =>
  tm_at "sn"
  all_goals (first | (rename_i z;exact absurd z (by decide)) | skip)
  all_goals (first | (rename_i z;exact absurd rfl z) | skip)
  all_goals (first | (exfalso;tm_at "oa") | skip)
  refine dR (j:=0) hn rfl ?_;tm_at "sn";exact ⟨p,o,s,x0,rfl,hs,ok,k⟩
 | c7 x0 ok =>
  tm_at "sn"
  all_goals (first | (rename_i z;exact absurd z (by decide)) | skip)
  all_goals (first | (rename_i z;exact absurd rfl z) | skip)
  all_goals (first | (exfalso;tm_at "oa") | skip)
  refine dR (j:=0) hn rfl ?_;tm_at "sn";exact ⟨p,o,s,x0,rfl,hs,ok,k⟩
 | c8 x0 ok =>
  tm_at "sn"
  all_goals (first | (rename_i z;exact absurd z (by decide)) | skip)
  all_goals (first | (rename_i z;exact absurd rfl z) | skip)
  all_goals (first | (exfalso;tm_at "oa") | skip)
  refine dR (j:=0) hn rfl ?_;tm_at "sn";exact ⟨p,o,s,x0,rfl,hs,ok,k⟩
 | c9 x0 x1 ok =>
  tm_at "sn"
  all_goals (first | (rename_i z;exact absurd z (by decide)) | skip)
  all_goals (first | (rename_i z;exact absurd rfl z) | skip)
  all_goals (first | (exfalso;tm_at "oa") | skip)
  refine dR (j:=0) hn rfl ?_;tm_at "sn";refine dR (j:=1) hn rfl ?_;tm_at "sn";exact ⟨p,o,s,x0,x1,rfl,hs,ok,k⟩
 | c10 ok =>
  tm_at "sn"
  all_goals (first | (rename_i z;exact absurd z (by decide)) | skip)
  all_goals (first | (rename_i z;exact absurd rfl z) | skip)
  all_goals (first | (exfalso;tm_at "oa") | skip)
  exact ⟨p,o,s,rfl,hs,ok,k⟩
 | c11 =>
  tm_at "sn"
  all_goals (first | (rename_i z;exact absurd z (by decide)) | skip)
  all_goals (first | (rename_i z;exact absurd rfl z) | skip)
  all_goals (first | (exfalso;tm_at "oa") | skip)
  exact ⟨p,o,s,rfl,hs,trivial,k⟩
end
noncomputable def DX (K:PySem.W.Frag) (d:Addr) (vs:List (Key×Value)):Prop:=∃o:Obj,K.lookup d=some o∧∀(P:Program) (w:World),o.IsDictOf (kD P w) vs
noncomputable def tMD (K:PySem.W.Frag) (td ty:TE):TE:=fun σ H Q=>td σ H fun x H1=>ty σ H1 fun y H2=>∃d vs i v u,x = .ref d∧y = .int i∧DX K d vs∧valueAt vs (.inl i:Key)=some u∧RelV v u∧Q v H2
theorem EH {X:Cx} {o i:Expr} {pos:Pos} {td ty:TE} (ho:PE X o td) (hi:PE X i ty) (hs:Lq i:=by exact fun _ _=>rfl):PE X (.Subscript o i pos) (tMD X.K td ty):=by
 intro pins s σ H Q I h;refine GJ PySem.F.slot_dict_getitem.lookup hs (thn (ho pins s σ H _ I h) fun u s1 ⟨x,H1,I1,rx,q1⟩=>thn (hi pins s1 σ H1 _ I1 q1) fun iv s2 ⟨y,H2,I2,ry,d,vs,i,v,u',ex,ey,⟨ob,lk,dd⟩,hv,rv,q2⟩=>?_);subst ex ey;obtain rfl:u=Value.ref d:=rx;have D:s2.heap.DictOf (kD X.prog X.w) d vs:=Heap.dictOf_iff.mpr ⟨ob,I2.kIn d ob lk,dd _ _⟩;exact ⟨D.typeIs,wpAny_getItem_of (KQ (k:=.inl i) ry) D.mapOf hv ⟨v,H2,I2.tok _,rv,q2⟩⟩
theorem IP {X:Cx} {x:Str} {q:Addr} {pos:Pos} (hg:Gl X x) (hm:X.mg x=some (.ref q)) (hd:(x == ("__debug__" : Str))=false:=by decide):PE X (.Name x pos) (tC (.ref q)):=B9 (v:=.ref q) hg hm rfl hd
noncomputable def MdR (K:PySem.W.Frag) (x y:V) (H:Hp) (Q:VK):Prop:=∃d vs i v u,x = .ref d∧y = .int i∧DX K d vs∧valueAt vs (.inl i:Key)=some u∧RelV v u∧Q v H
theorem Lg {K:PySem.W.Frag} {td ty:TE} {σ:L2.St} {H:Hp} {Q:VK} (k:td σ H fun x H1=>ty σ H1 fun y H2=>MdR K x y H2 Q):tMD K td ty σ H Q:=k
noncomputable def EU (t1 t2 t3 t4 t5 t6 t7 t8 t9 t10 t11:Tok):List (Key×Value):=[(.inl 1,.int 6 t1),(.inl 2,.int 4 t2),(.inl 3,.int 2 t3),(.inl 4,.int 1 t4),(.inl 5,.int 2 t5),(.inl 6,.int 1 t6),(.inl 7,.int 1 t7),(.inl 8,.int 1 t8),(.inl 9,.int 2 t9),(.inl 10,.int 0 t10),(.inl 11,.int 0 t11)]
theorem cp.num {s:PS} {row nums:List Int} {call:Int} {y:PS×List Int} (h:cp s row call nums y) (t1 t2 t3 t4 t5 t6 t7 t8 t9 t10 t11:Tok):∃u,valueAt (EU t1 t2 t3 t4 t5 t6 t7 t8 t9 t10 t11) (.inl call:Key)=some u∧RelV (.int (nums.length:Int)) u:=by
 cases h <;> exact ⟨_,rfl,_,rfl⟩
theorem HH {K:PySem.W.Frag} {d:Addr} {n:Nat} {k1 k2 k3 k4 k5 k6 k7 k8 k9 k10 k11 t1 t2 t3 t4 t5 t6 t7 t8 t9 t10 t11:Tok} (l:K.lookup d=some ⟨.type "dict",none,.dict #[⟨1,.int 1 k1,.int 6 t1⟩,⟨2,.int 2 k2,.int 4 t2⟩,⟨3,.int 3 k3,.int 2 t3⟩,⟨4,.int 4 k4,.int 1 t4⟩,⟨5,.int 5 k5,.int 2 t5⟩,⟨6,.int 6 k6,.int 1 t6⟩,⟨7,.int 7 k7,.int 1 t7⟩,⟨8,.int 8 k8,.int 1 t8⟩,⟨9,.int 9 k9,.int 2 t9⟩,⟨10,.int 10 k10,.int 0 t10⟩,⟨11,.int 11 k11,.int 0 t11⟩] n,#[]⟩):DX K d (EU t1 t2 t3 t4 t5 t6 t7 t8 t9 t10 t11):=by
 refine ⟨_,l,fun P w=>⟨_,_,⟨rfl,rfl,rfl⟩,rfl,?_,?_,?_⟩⟩
 ·intro e he
  simp only [List.mem_toArray,List.mem_cons,List.not_mem_nil,or_false] at he;rcases he with rfl | rfl | rfl | rfl | rfl | rfl | rfl | rfl | rfl | rfl | rfl
  ·exact ⟨.inl 1,bf 1 k1,rfl⟩
  ·exact ⟨.inl 2,bf 2 k2,rfl⟩
  ·exact ⟨.inl 3,bf 3 k3,rfl⟩
  ·exact ⟨.inl 4,bf 4 k4,rfl⟩
  ·exact ⟨.inl 5,bf 5 k5,rfl⟩
  ·exact ⟨.inl 6,bf 6 k6,rfl⟩
  ·exact ⟨.inl 7,bf 7 k7,rfl⟩
  ·exact ⟨.inl 8,bf 8 k8,rfl⟩
  ·exact ⟨.inl 9,bf 9 k9,rfl⟩
  ·exact ⟨.inl 10,bf 10 k10,rfl⟩
  ·exact ⟨.inl 11,bf 11 k11,rfl⟩
 ·exact (.cons (bf 1 k1) rfl (.cons (bf 2 k2) rfl (.cons (bf 3 k3) rfl (.cons (bf 4 k4) rfl (.cons (bf 5 k5) rfl (.cons (bf 6 k6) rfl (.cons (bf 7 k7) rfl (.cons (bf 8 k8) rfl (.cons (bf 9 k9) rfl (.cons (bf 10 k10) rfl (.cons (bf 11 k11) rfl .nil)))))))))))
 ·show List.Nodup ([.inl 1,.inl 2,.inl 3,.inl 4,.inl 5,.inl 6,.inl 7,.inl 8,.inl 9,.inl 10,.inl 11]:List Key)
  decide
theorem Jf {K:PySem.W.Frag} {d:Addr} {od:Option Addr} {n:Nat} {t1 t2:Tok} {sl:Array (Option Value)} (l:K.lookup d=some ⟨.type "tuple",od,.seq #[.int 3 t1,.int 4 t2] n,sl⟩) (H:Hp):SqT K H d [.int 3,.int 4]:=
 .inr ⟨_,_,_,l,rfl,rfl,(show 2≤sizeLine by decide),.cons ⟨_,rfl⟩ (.cons ⟨_,rfl⟩ .nil)⟩
theorem LC (c:Int):inV (.int c) [.int 3,.int 4]=decide (c=3∨c=4):=by
 show ((3 == c) || ((4 == c) || false))=_;by_cases h3:c=3
 ·subst h3;rfl
 ·by_cases h4:c=4
  ·subst h4;rfl
  ·rw [decide_eq_false (fun h=>h.elim h3 h4),beq_eq_false_iff_ne.mpr (Ne.symm h3),beq_eq_false_iff_ne.mpr (Ne.symm h4)]
   rfl
theorem ze {K:PySem.W.Frag} {H H':Hp} {q:Addr} {xs:List V} (h:SqL K H q xs) (f:aF H H'):SqL K H' q xs:=by
 rcases h with (h | ⟨o,h⟩) | h
 ·exact .inl (.inl (f _ _ h))
 ·exact .inl (.inr ⟨o,f _ _ h⟩)
 ·exact .inr h
theorem Ic (pre m r:List Int) (i j:Int) (hi:i=pre.length) (hj:j=(pre.length:Int)+m.length):eS (pre++(m++r)) (some i) (some j)=m:=by
 subst hi hj;rw [show (pre.length:Int)+m.length=((pre.length+m.length:Nat):Int) by omega,pA,List.drop_left,show pre.length+m.length - pre.length=m.length by omega,List.take_left]
section
variable {K:PySem.W.Frag} {H:Hp} {Q:VK} {q:Addr}
theorem Gg {pre r:List Int} {v i:Int} {l:List Int} (h:SqL K H q (l.map V.int)) (e:l=pre++v::r) (ei:i=pre.length) (k:Q (.int v) H):Hk K (.ref q) (.int i) H Q:=by
 subst e ei;refine ⟨q,_,_,.int v,rfl,rfl,h,?_,k⟩;unfold atI ixN;simp;rw [if_pos (by omega)];simp
theorem FZ {pre m r:List Int} {i j:Int} {l:List Int} (h:SqL K H q (l.map V.int)) (e:l=pre++(m++r)) (hi:i=pre.length) (hj:j=(pre.length:Int)+m.length) (k:∀p H',H p=none→aF H H'→ax H' p m→Q (.ref p) H'):Hi K (.ref q) (some i) (some j) H Q:=
 ⟨q,_,rfl,h,fun p hp=>k p _ hp (fW hp _) (by unfold ax;rw [aG,Ak,e,Ic pre m r i j hi hj])⟩
theorem J2 {l:List Int} (h:SqL K H q (l.map V.int)) (k:Q (.int l.length) H):zw K [V.ref q] H Q:=⟨q,_,rfl,.inl h,by rw [List.length_map];exact k⟩
end
theorem Gi {K:PySem.W.Frag} {H:Hp} {Q:VK} {q:Addr} {c:Int} (h:SqT K H q [.int 3,.int 4]) (k:Q (.bl (decide (c=3∨c=4))) H):rIn K false (.int c) (.ref q) H Q:=⟨q,_,rfl,.inr h,rfl,rfl,by rw [if_neg Bool.false_ne_true,LC];exact k⟩
section
variable {P:Program} {w:World} {K:PySem.W.Frag} {mg:Str→Option Value} {base:Heap} {a:AD}
theorem bj.to {H:Hp} {o q p:Addr} {xs:List (Int×List Int)} (h:bj H o p xs) (n:H q=none):bj H q p xs:=by
 obtain ⟨vs,e,r⟩:=h;exact ⟨vs,e,Paired.imp (fun a b ⟨t,l,e1,e2,e3,e4⟩=>⟨t,l,e1,e2,e3,ai e3 n⟩) r⟩
theorem Ei {H H1:Hp} {p o q:Addr} {s:PS} {N:Hp→Prop} (T:TX K mg a) (h:Sd a H p o s) (nq:H q=none) (sm:aF H H1) (hq:H1 q=some (.lst [])) (k:∀H',Sd a H' p q (s.gf [])→But p H1 H'→N H'):StR K "out" (.ref p) (.ref q) H1 N:=by
 obtain ⟨d,dx,e⟩:=h;have e1:=sm _ _ e.obj;refine ⟨p,a.aE,dx,_,rfl,e1,T.aC,(T.aI 1 _ rfl),fD d s,?_⟩;rw [Jr];have t:Two H1 p q:=⟨⟨_,_,_,e1⟩,⟨_,hq⟩⟩;have f:Fr p q H1 (upd H1 p (.ins a.aE dx (aO { d with out:=q } s))):=ql _;obtain ⟨vh,eh,_⟩:=id e.held;obtain ⟨vp,ep,_⟩:=id e.pieces;have nu:d.aB≠q:=ai e.aB nq;have nr:d.aH≠q:=ai e.aH nq;have nh:d.held≠q:=ai eh nq;have np:d.pieces≠q:=ai ep nq;refine k _ ⟨{ d with out:=q },dx,aG,rfl,(e.aB.mono sm).fr t f nu,nu,(e.held.mono sm).fr t f nh,nh,(e.aH.mono sm).fr t f nr,nr,((e.pieces.to nq).mono sm).fr t f np,np,⟨[],?_,.nil⟩⟩ (But.upd _ _ _);rw [aD (t.lst hq)];exact hq
theorem Sd.off {H H':Hp} {p o q:Addr} {s:PS} {ob:Obj} {u:HO} (h:Sd a H p o s) (hq:H q=some (.frz ob u)) (f:But q H H'):Sd a H' p o s:=by
 obtain ⟨d,dx,e⟩:=h;have no:∀{b:Addr} {x:HO},H b=some x→(∀ob u,x≠.frz ob u)→H' b=some x:=fun {b x} hb n=>f b x hb (iw hb hq (by intro z;cases z;exact n _ _ rfl));have li:∀{b:Addr} {vs:List V},H b=some (.lst vs)→H' b=some (.lst vs):=fun hb=>no hb (fun _ _ z=>by cases z);have tu:∀{b:Addr} {vs:List V},H b=some (.tup vs)→H' b=some (.tup vs):=fun hb=>no hb (fun _ _ z=>by cases z);have pi:∀{b:Addr} {xs:List (Int×List Int)},bj H o b xs→bj H' o b xs:=fun ⟨vs,e,r⟩=>⟨vs,li e,Paired.imp (fun a b ⟨t,l,e1,e2,e3,e4⟩=>⟨t,l,e1,tu e2,li e3,e4⟩) r⟩;obtain ⟨vh,eh,rh⟩:=id e.held;exact ⟨d,dx,no e.obj (fun _ _ z=>by cases z),e.oo,li e.aB,e.cY,⟨vh,li eh,Paired.imp (fun a b ⟨t,e1,e2⟩=>⟨t,e1,tu e2⟩) rh⟩,e.j8,li e.aH,e.dW,pi e.pieces,e.dZ,pi e.out⟩
theorem Aq {H H':Hp} {q:Addr} {x y:HO} (s:∀b z,H b=some z→b≠q→H' b=some z):But q (upd H q x) (upd H' q y):=fun b z h n=>by
 rw [aD n] at h ⊢;exact s b z h n
theorem Eu {H0 H H':Hp} {p:Addr} (s:aF H0 H) (f:But p H H') (n:H0 p=none):aF H0 H':=fun b x h=>f b x (s b x h) (ai h n)
theorem jP {H H':Hp} {q:Addr} (s:aF H H') (n:H' q=none):H q=none:=by
 cases e:H q with
 | none=>rfl
 | some x=>rw [s _ _ e] at n;cases n
noncomputable def mf (K:PySem.W.Frag):Sp:=fun vs H Q _=>∃(cq:Addr) (l tot:List Int),vs=[.ref cq]∧SqL K H cq (l.map V.int)∧Runs l (ps0 0 []) tot∧tot.length≤10000000∧∀q H',ax H' q tot→Q (.ref q) H'
noncomputable def Head (a:AD) (l tot:List Int) (cq p tq:Addr) (H0:Hp) (m:Nat) (σ:L2.St) (H:Hp):Prop:=
 ∃(pre rest tail done:List Int) (s:PS) (o:Addr) (v4 v5 v6 v7 v8:Option V),l=pre++rest∧m=rest.length∧Runs rest s tail∧tot=done++tail∧
  σ=[some (.ref cq),some (.ref p),some (.ref tq),some (.int pre.length),v4,v5,v6,v7,v8]∧(∃ob u,Sd a (upd H tq (.frz ob u)) p o s)∧ax H tq done∧aF H0 H
theorem A6 (T:TX K mg a) {t1 t2 t3 t4 t5 t6 t7 t8 t9 t10 t11:Tok} (TN:DX K a.jR (EU t1 t2 t3 t4 t5 t6 t7 t8 t9 t10 t11)) (TW:∀H,SqT K H a.iU [.int 3,.int 4]):Ok P w K mg base a iP 17 (mf K):=by
 refine fo T 104 fun S H hr h=>?_;obtain ⟨cq,l,tot,rfl,hc,hR,hL,k⟩:=h;have sz:sizeLine=16777216:=sizeLine_eq;refine ⟨_,(aa (sn S 1 (EI T.HI (ym T).r (hr.mono (by decide)) rfl T.JM (T.F 14 _ rfl).b .nil tm))
  (aa (sn S 2 (aL d9))
  (aa (sn S 3 ag)
  (aa (uZ PassesOwn.never (ptR eV (pv 3) (az aM rfl T.cW boot_len (pa1 (pv 0)))) (aa (sn S 4 (aY bc (pv 0) (pv 3) (fun _ _=>rfl)))
  (aa (sn S 5 (ay bt (ay bt (pv 3) ag) (EH (IP rfl T.Ds) (pv 4))))
  (aa (sn S 6 (cG dm (pv 0) (bN (ay bt (pv 3) ag)) (bN (pv 5))))
  (aa (sn S 7 (aL d9))
  (aa (si (B6 Dp (pv 4) (IP rfl T.A7) (by with_unfolding_all rfl)) (aa (sn S 7 (cG dm (pv 0) (bN (ay bt (pv 5) ag)) (bN (ay bt (ay bt (pv 5) ag) (aY bc (pv 0) (pv 5) (fun _ _=>rfl))))))
  (ae (sg S 5 (ay bt ag (az aM rfl T.cW boot_len (pa1 (pv 7)))) Bj))))
  (aa (Hs (sf 1 (aL d9)))
  (aa (sn S 8 (Ht (ay cv (pc (yj T) hr (af (pv 1) (af (pv 4) (af (pv 6) (pa1 (pv 7)))))) (pc (zI T) hr (pa1 (pf 1))))))
  (aa (aj (jl PySem.F.plainAttrs_list PySem.F.slot_list_append PySem.F.type_list_append dM (pv 2) (pa1 (az aM rfl T.cW boot_len (pa1 (pv 8))))))
  (aa (aj (jl PySem.F.plainAttrs_list PySem.F.slot_list_extend PySem.F.type_list_extend jQ (pv 2) (pa1 (pv 8))))
  (ae (sn S 3 (pv 5)))))))))))))
  (ae (aw (pv 2))))))),?_⟩
 show aP _ _ _ [some (.ref cq),none,none,none,none,none,none,none,none] H;tm_at "ck";refine bO ?_;tm_at "sm";refine uz (fun p dx H1 np s1 e1=>⟨p,dx,rfl,e1,fun H2 o no hs f2=>⟨rfl,?_⟩⟩);have s2:aF H H2:=Eu s1 f2 np;have no':H o=none:=jP s1 no;tm_at "sm"
 try dsimp only
 refine bO ?_;tm_at "sm";refine bD (by decide) (fun tq H3 nt s3 e3=>?_);have hs3:∃ob u,Sd a (upd H3 tq (.frz ob u)) p o (ps0 0 []):=⟨default,.lst [],hs.mono (fun b x h=>by rw [aD (ai h nt)];exact s3 _ _ h)⟩;have s03:aF H H3:=fun b x h=>s3 _ _ (s2 b x h);have nt0:H tq=none:=jP s2 nt;tm_at "sm"
 try dsimp only
 refine bO ?_;tm_at "sm"
 try dsimp only
 refine bO ?_;refine ⟨Head a l tot cq p tq H,⟨l.length,[],l,tot,[],ps0 0 [],o,none,none,none,none,none,rfl,rfl,hR,rfl,rfl,hs3,e3,s03⟩,?_⟩;rintro m σ Hx ⟨pre,rest,tail,done,s,ox,v4,v5,v6,v7,v8,el,em,hru,et,rfl,⟨ob0,u0,hsx⟩,htq,s0x⟩;have hcx:=ze hc s0x;tm_at "sm";refine J2 hcx ?_;tm_at "sm"
 ·rename_i hlt
  refine ⟨fun σ' H'=>∃m',m'<m∧Head a l tot cq p tq H m' σ' H',fun _ _ z=>z,?_⟩
  cases hru with
  | nil=>exfalso;rw [el,List.append_nil] at hlt;omega
  | @plain call nums post t _ y A n34 hlay hpost =>
   have tl:(y.2++bX y.1.out).length+1+done.length≤10000000:=by rw [et] at hL;simp only [List.length_append,List.length_cons] at hL ⊢;omega
   obtain ⟨u,hu,ru⟩:=A.num t1 t2 t3 t4 t5 t6 t7 t8 t9 t10 t11;refine bO ?_;tm_at "sm";refine Gg (pre:=pre) hcx el rfl ?_;tm_at "sm"
   try dsimp only
   refine bO ?_;tm_at "sm";refine Lg ?_;tm_at "sm";refine ⟨_,_,_,_,_,rfl,rfl,TN,hu,ru,?_⟩;tm_at "sm"
   try dsimp only
   refine bO ?_;tm_at "sm";refine FZ (pre:=pre++[call]) (m:=nums) hcx (by rw [el];simp only [List.append_assoc,List.cons_append,List.nil_append];rfl) (by simp only [List.length_append,List.length_cons,List.length_nil];omega) (by simp only [List.length_append,List.length_cons,List.length_nil];omega) (fun nq H1 n1 s1 e1=>?_);tm_at "sm"
   try dsimp only
   refine bO ?_;tm_at "sm";refine bD (by decide) (fun rq H2 n2 s2 e2=>?_);tm_at "sm"
   try dsimp only
   refine bO ?_;tm_at "sm";refine Gi (TW _) ?_;tm_at "sm"
   ·rename_i z;exact absurd z (fun z=>z.elim n34.1 n34.2)
   have e_r:ax H2 rq []:=e2;have e_n:=s2 _ _ e1;have sk:aF Hx H2:=fun b x h=>s2 _ _ (s1 b x h);have nrt:rq≠tq:=(ai (s1 _ _ htq) n2).symm;have htk:_=some (HO.lst (List.map V.int done)):=sk _ _ htq;have nnt:nq≠tq:=(ai htq n1).symm
   try dsimp only
   refine bO ?_;refine ⟨tq,_,htk,trivial,fun ob1=>?_⟩;have hsL:=hsx.off (H':=upd H2 tq (.frz ob1 (.lst (List.map V.int done)))) aG (Aq fun b z h _=>sk b z h);tm_at "sm";refine bD (by decide) (fun oq H5 n5 s5 e5=>?_);tm_at "sm";refine Ei T hsL n5 s5 e5 (fun H6 h6 f6=>?_);have nto:tq≠oq:=ai aG n5;have ntp:tq≠p:=(iw hsL.two.p.choose_spec.choose_spec.choose_spec aG (by intro z;cases z)).symm;have n5':H2 oq=none:=by rw [aD (Ne.symm nto)] at n5;exact n5
   have t6:H6 tq=some (.frz ob1 (.lst (List.map V.int done))):=f6 _ _ (s5 _ _ aG) ntp;refine ⟨t6,?_⟩;have noq:H oq=none:=jP s0x (jP sk n5');have k6:∀b x,H2 b=some x→b≠p→b≠tq→H6 b=some x:=fun b x h n1 n2=>f6 _ _ (s5 _ _ (by rw [aD n2];exact h)) n1;have lp:∀b vs,H2 b=some (.lst vs)→b≠tq→b≠p:=fun b vs h n=>hsL.two.lst (vs:=vs) (by rw [aD n];exact h);have e_n6:=k6 _ _ e_n (lp _ _ e_n nnt) nnt;have e_r6:=k6 _ _ e_r (lp _ _ e_r nrt) nrt;have nroq:=ai e_r n5'
   try dsimp only
   refine bO ?_;tm_at "sm";refine ⟨tq,_,aG,trivial,fun ob2=>?_⟩;have h6M:=h6.off (H':=upd (upd H6 tq (.lst (List.map V.int done))) tq (.frz ob2 (.lst (List.map V.int done)))) t6 (fun b z h n=>by rw [aD n,aD n];exact h);tm_at "sm";refine ⟨p,oq,nq,_,s.gf [],call,nums,_,y,rfl,h6M,?_,?_,nroq,A,fun aq H7 h7 f7 e7 n7=>?_⟩
   ·show upd _ _ _ _=_;rw [aD nnt,aD nnt];exact e_n6
   ·show upd _ _ _ _=_;rw [aD nrt,aD nrt];exact e_r6
   have t7:=f7 _ _ aG ntp nto;tm_at "sm";refine uW T h7 ?_;tm_at "sm";obtain ⟨d7,dx7,x7⟩:=id h7;refine ⟨oq,y.1.out,rfl,x7.out,hlay,fun lq H8 n8 s8 e8=>?_⟩;tm_at "sm";refine cV (s8 _ _ e7) e8 (by rw [List.length_append] at tl;omega) (fun wq H9 n9 s9 e9=>?_);have t9:=s9 _ _ (s8 _ _ t7);refine ⟨t9,?_⟩;have nwt:wq≠tq:=(ai (s8 _ _ t7) n9).symm;have h9:=(h7.mono s8).mono s9;have s9':∀b x,H b=some x→H9 b=some x:=fun b x h=>by
    have q1:=ai h nt0;have q2:=ai h np;refine s9 _ _ (s8 _ _ (f7 _ _ ?_ q2 (ai h noq)));rw [aD q1,aD q1];exact k6 _ _ (sk _ _ (s0x _ _ h)) q2 q1
   have e9:ax (upd H9 tq (.lst (List.map V.int done))) wq (y.2++bX y.1.out):=by show upd _ _ _ _=_;rw [aD nwt];exact e9
   tm_at "sm"
   try dsimp only
   refine bO ?_;tm_at "sm";refine gG aG ?_;tm_at "sm";refine jA aG (by rw [List.length_map];omega) (fun H10 f10 e10=>?_);have e10:ax H10 tq (done++[((y.2++bX y.1.out).length:Int)]):=by show _=some (HO.lst (List.map V.int _));rw [List.map_append];exact e10
   have e9w:=f10 _ _ e9 nwt;tm_at "sm"
   try dsimp only
   refine bO ?_;tm_at "sm";refine gG e10 ?_;tm_at "sm";refine qB e10 e9w (by simp only [List.length_append,List.length_cons,List.length_nil] at tl ⊢;omega) (fun H11 f11 e11=>?_);have k11:∀b x,H9 b=some x→b≠tq→H11 b=some x:=fun b x h n=>f11 _ _ (f10 _ _ (by rw [aD n];exact h) n) n;have h11:∃ob u,Sd a (upd H11 tq (.frz ob u)) p oq y.1:=⟨ob2,.lst [],h9.off t9 (fun b x h n=>by rw [aD n];exact k11 b x h n)⟩;have s11:aF H H11:=fun b x h=>k11 _ _ (s9' b x h) (ai h nt0);have e11:ax H11 tq (done++((y.2++bX y.1.out).length:Int)::(y.2++bX y.1.out)):=by rw [List.append_assoc] at e11;exact e11
   tm_at "sm"
   try dsimp only
   tm_at "sm";refine ⟨post.length,?_,pre++call::nums,post,t,done++((y.2++bX y.1.out).length:Int)::(y.2++bX y.1.out),y.1,oq,some (.int call),some (.int ((pre.length:Int)+1+(nums.length:Int))),some (.ref nq),some (.ref rq),some (.ref wq),?_,rfl,hpost,?_,?_,h11,e11,s11⟩
   ·rw [em];simp only [List.length_cons,List.length_append];omega
   ·rw [el];simp only [List.append_assoc,List.cons_append]
   ·rw [et];simp only [List.append_assoc,List.cons_append]
   ·rw [show ((pre++call::nums).length:Int)=(pre.length:Int)+1+(nums.length:Int) by simp only [List.length_append,List.length_cons];omega]
  | @IH call nums row post t _ y A n34 hlay hpost =>
   have tl:(y.2++bX y.1.out).length+1+done.length≤10000000:=by rw [et] at hL;simp only [List.length_append,List.length_cons] at hL ⊢;omega
   obtain ⟨u,hu,ru⟩:=A.num t1 t2 t3 t4 t5 t6 t7 t8 t9 t10 t11;refine bO ?_;tm_at "sm";refine Gg (pre:=pre) hcx el rfl ?_;tm_at "sm"
   try dsimp only
   refine bO ?_;tm_at "sm";refine Lg ?_;tm_at "sm";refine ⟨_,_,_,_,_,rfl,rfl,TN,hu,ru,?_⟩;tm_at "sm"
   try dsimp only
   refine bO ?_;tm_at "sm";refine FZ (pre:=pre++[call]) (m:=nums) hcx (by rw [el];simp only [List.append_assoc,List.cons_append,List.nil_append];rfl) (by simp only [List.length_append,List.length_cons,List.length_nil];omega) (by simp only [List.length_append,List.length_cons,List.length_nil];omega) (fun nq H1 n1 s1 e1=>?_);tm_at "sm"
   try dsimp only
   refine bO ?_;tm_at "sm";refine bD (by decide) (fun rq H2 n2 s2 e2=>?_);tm_at "sm"
   try dsimp only
   refine bO ?_;tm_at "sm";refine Gi (TW _) ?_;tm_at "sm";rotate_left
   ·rename_i z;exact absurd n34 z
   have sk2:aF Hx H2:=fun b x h=>s2 _ _ (s1 b x h);have hc2:=ze hcx sk2;refine bO ?_;tm_at "sm";refine Gg (pre:=pre++call::nums) (v:=(row.length:Int)) (r:=row++post) hc2 (by rw [el];simp only [List.append_assoc,List.cons_append]) (by simp only [List.length_append,List.length_cons];omega) ?_;tm_at "sm";refine FZ (pre:=pre++call::nums++[(row.length:Int)]) (m:=row) (r:=post) hc2 (by rw [el];simp only [List.append_assoc,List.cons_append,List.nil_append]) (by simp only [List.length_append,List.length_cons,List.length_nil];omega) (by simp only [List.length_append,List.length_cons,List.length_nil];omega) (fun rr H3r n3r s3r e_r=>?_);tm_at "sm";have e_n:=s3r _ _ (s2 _ _ e1);have sk:aF Hx H3r:=fun b x h=>s3r _ _ (sk2 b x h);have nrt:rr≠tq:=(ai (sk2 _ _ htq) n3r).symm;have htk:_=some (HO.lst (List.map V.int done)):=sk _ _ htq;have nnt:nq≠tq:=(ai htq n1).symm
   try dsimp only
   refine bO ?_;refine ⟨tq,_,htk,trivial,fun ob1=>?_⟩;have hsL:=hsx.off (H':=upd H3r tq (.frz ob1 (.lst (List.map V.int done)))) aG (Aq fun b z h _=>sk b z h);tm_at "sm";refine bD (by decide) (fun oq H5 n5 s5 e5=>?_);tm_at "sm";refine Ei T hsL n5 s5 e5 (fun H6 h6 f6=>?_);have nto:tq≠oq:=ai aG n5;have ntp:tq≠p:=(iw hsL.two.p.choose_spec.choose_spec.choose_spec aG (by intro z;cases z)).symm;have n5':H3r oq=none:=by rw [aD (Ne.symm nto)] at n5;exact n5
   have t6:H6 tq=some (.frz ob1 (.lst (List.map V.int done))):=f6 _ _ (s5 _ _ aG) ntp;refine ⟨t6,?_⟩;have noq:H oq=none:=jP s0x (jP sk n5');have k6:∀b x,H3r b=some x→b≠p→b≠tq→H6 b=some x:=fun b x h n1 n2=>f6 _ _ (s5 _ _ (by rw [aD n2];exact h)) n1;have lp:∀b vs,H3r b=some (.lst vs)→b≠tq→b≠p:=fun b vs h n=>hsL.two.lst (vs:=vs) (by rw [aD n];exact h);have e_n6:=k6 _ _ e_n (lp _ _ e_n nnt) nnt;have e_r6:=k6 _ _ e_r (lp _ _ e_r nrt) nrt;have nroq:=ai e_r n5'
   try dsimp only
   refine bO ?_;tm_at "sm";refine ⟨tq,_,aG,trivial,fun ob2=>?_⟩;have h6M:=h6.off (H':=upd (upd H6 tq (.lst (List.map V.int done))) tq (.frz ob2 (.lst (List.map V.int done)))) t6 (fun b z h n=>by rw [aD n,aD n];exact h);tm_at "sm";refine ⟨p,oq,nq,_,s.gf [],call,nums,_,y,rfl,h6M,?_,?_,nroq,A,fun aq H7 h7 f7 e7 n7=>?_⟩
   ·show upd _ _ _ _=_;rw [aD nnt,aD nnt];exact e_n6
   ·show upd _ _ _ _=_;rw [aD nrt,aD nrt];exact e_r6
   have t7:=f7 _ _ aG ntp nto;tm_at "sm";refine uW T h7 ?_;tm_at "sm";obtain ⟨d7,dx7,x7⟩:=id h7;refine ⟨oq,y.1.out,rfl,x7.out,hlay,fun lq H8 n8 s8 e8=>?_⟩;tm_at "sm";refine cV (s8 _ _ e7) e8 (by rw [List.length_append] at tl;omega) (fun wq H9 n9 s9 e9=>?_);have t9:=s9 _ _ (s8 _ _ t7);refine ⟨t9,?_⟩;have nwt:wq≠tq:=(ai (s8 _ _ t7) n9).symm;have h9:=(h7.mono s8).mono s9;have s9':∀b x,H b=some x→H9 b=some x:=fun b x h=>by
    have q1:=ai h nt0;have q2:=ai h np;refine s9 _ _ (s8 _ _ (f7 _ _ ?_ q2 (ai h noq)));rw [aD q1,aD q1];exact k6 _ _ (sk _ _ (s0x _ _ h)) q2 q1
   have e9:ax (upd H9 tq (.lst (List.map V.int done))) wq (y.2++bX y.1.out):=by show upd _ _ _ _=_;rw [aD nwt];exact e9
   tm_at "sm"
   try dsimp only
   refine bO ?_;tm_at "sm";refine gG aG ?_;tm_at "sm";refine jA aG (by rw [List.length_map];omega) (fun H10 f10 e10=>?_);have e10:ax H10 tq (done++[((y.2++bX y.1.out).length:Int)]):=by show _=some (HO.lst (List.map V.int _));rw [List.map_append];exact e10
   have e9w:=f10 _ _ e9 nwt;tm_at "sm"
   try dsimp only
   refine bO ?_;tm_at "sm";refine gG e10 ?_;tm_at "sm";refine qB e10 e9w (by simp only [List.length_append,List.length_cons,List.length_nil] at tl ⊢;omega) (fun H11 f11 e11=>?_);have k11:∀b x,H9 b=some x→b≠tq→H11 b=some x:=fun b x h n=>f11 _ _ (f10 _ _ (by rw [aD n];exact h) n) n;have h11:∃ob u,Sd a (upd H11 tq (.frz ob u)) p oq y.1:=⟨ob2,.lst [],h9.off t9 (fun b x h n=>by rw [aD n];exact k11 b x h n)⟩;have s11:aF H H11:=fun b x h=>k11 _ _ (s9' b x h) (ai h nt0);have e11:ax H11 tq (done++((y.2++bX y.1.out).length:Int)::(y.2++bX y.1.out)):=by rw [List.append_assoc] at e11;exact e11
   tm_at "sm"
   try dsimp only
   tm_at "sm";refine ⟨post.length,?_,pre++call::nums++(row.length:Int)::row,post,t,done++((y.2++bX y.1.out).length:Int)::(y.2++bX y.1.out),y.1,oq,some (.int call),some (.int ((pre.length:Int)+1+(nums.length:Int)+(1+(row.length:Int)))),some (.ref nq),some (.ref rr),some (.ref wq),?_,rfl,hpost,?_,?_,h11,e11,s11⟩
   ·rw [em];simp only [List.length_cons,List.length_append];omega
   ·rw [el];simp only [List.append_assoc,List.cons_append]
   ·rw [et];simp only [List.append_assoc,List.cons_append]
   ·rw [show ((pre++call::nums++(row.length:Int)::row).length:Int)=(pre.length:Int)+1+(nums.length:Int)+(1+(row.length:Int)) by simp only [List.length_append,List.length_cons];omega]
 ·rename_i hge
  have er:rest=[]:=List.length_eq_zero_iff.mp (by rw [el,List.length_append] at hge;omega);subst er
  cases hru
  rw [List.append_nil] at et;subst et;tm_at "sx";exact k _ _ htq
end
noncomputable def cI (l:List Nat):List Int:=l.map fun (n:Nat)=>(n:Int)
theorem ba (l:List Nat):(cI l).length=l.length:=List.length_map ..
theorem fz (l m:List Nat):cI (l++m)=cI l++cI m:=List.map_append ..
theorem pC (l:List Nat) (n:Nat):cI (l.take n)=(cI l).take n:=List.map_take ..
theorem mP (l:List Nat) (n:Nat):cI (l.drop n)=(cI l).drop n:=List.map_drop ..
theorem IT {l:List Nat} (h:∀b∈l,b<256):∀x∈cI l,0≤x∧x≤255:=fun x hx=>by
 obtain ⟨n,hn,rfl⟩:=List.mem_map.mp hx;have:=h n hn;tm_at "ob"
theorem cM (n c:Nat):bytesOf (n:Int) c=cI (Sw53.be c n):=by
 unfold bytesOf Sw53.be cI;rw [List.map_map];refine List.map_congr_left fun i hi=>?_;have hi:=List.mem_range.mp hi;unfold sQ;have e:(8*((c:Int) - 1 - i)).toNat=8*(c - 1 - i):=by tm_at "ob"
 have e2:(256:Nat) ^ (c - 1 - i)=2 ^ (8*(c - 1 - i)):=by rw [Nat.pow_mul]
 show (n:Int) / 2 ^ (8*((c:Int) - 1 - i)).toNat % 256=((n / 256 ^ (c - 1 - i) % 256:Nat):Int);rw [e,e2];simp
theorem yI (c n:Nat):(Sw53.be c n).length=c:=by unfold Sw53.be;rw [List.length_map,List.length_range]
theorem mZ (c n:Nat):∀b∈Sw53.be c n,b<256:=fun b hb=>by
 obtain ⟨i,_,rfl⟩:=List.mem_map.mp hb;exact Nat.mod_lt _ (by decide)
theorem EW (l:List Nat):∀acc:Nat,(cI l).foldl (fun n c=>n*256+c) (acc:Int)=((l.foldl (fun n c=>256*n+c) acc:Nat):Int):=by
 induction l with
 | nil=>intro acc;rfl
 | cons x l ih =>
  intro acc;show (cI l).foldl (fun n c=>n*256+c) ((acc:Int)*256+(x:Int))=((l.foldl (fun n c=>256*n+c) (256*acc+x):Nat):Int);rw [←ih (256*acc+x)];congr 1;tm_at "ob"
theorem EV (l:List Nat):EX (cI l)=((Sw53.num l:Nat):Int):=EW l 0
theorem sW:∀l:List Nat,jD (cI l)=(((Sw53.words l).sum:Nat):Int)
 | []=>rfl
 | [a]=>by simp [jD,cI,dD,Sw53.words]
 | [a,b]=>by simp [jD,cI,dD,Sw53.words]
 | a::b::c::r=>by
  have ih:=sW (c::r);simp only [jD,cI,List.map_cons,dD,List.drop_succ_cons,List.drop_zero,List.sum_cons,Sw53.words] at ih ⊢
  cases r with
  | nil=>simp only [List.map_nil,dD,List.sum_nil,List.sum_cons,Sw53.words] at ih ⊢;tm_at "ob"
  | cons d r=>simp only [List.map_cons,dD,List.sum_cons,Sw53.words] at ih ⊢;tm_at "ob"
theorem y0 (x y:Nat) (g:List Nat):wholeOf (x:Int) (y:Int) (cI g)=cI (Sw53.be 4 x++(Sw53.be 4 y++(Sw53.be 2 3++(Sw53.be 2 g.length++g)))):=by
 unfold wholeOf;rw [cM,cM,ba,cM];have e:([0,3]:List Int)=cI (Sw53.be 2 3):=by decide
 rw [e];simp only [←fz,List.append_assoc]
theorem sC (n:Nat):gD (n:Int)=((n % 65536+n / 65536:Nat):Int):=by unfold gD;tm_at "ob"
theorem yY:∀{l:List Nat},(∀b∈l,b<256)→(Sw53.words l).sum≤65535*l.length
 | [],_=>by simp [Sw53.words]
 | [a],h=>by
  have:=h a (by simp);simp [Sw53.words];tm_at "ob"
 | a::b::r,h=>by
  have h1:=h a (by simp);have h2:=h b (by simp);have ih:=yY (l:=r) fun x hx=>h x (by simp [hx]);simp only [Sw53.words,List.sum_cons,List.length_cons];tm_at "ob"
theorem HA {l:List Nat} (h:∀b∈l,b<256) (hl:l.length≤3000):Sw53.ones (Sw53.words l)≤65535:=by
 have:=yY h;have h2:(Sw53.words l).sum<4294967296:=by tm_at "ob"
 unfold Sw53.ones;generalize (Sw53.words l).sum=n at h2;show (((n % 65536+n / 65536) % 65536+(n % 65536+n / 65536) / 65536) % 65536+((n % 65536+n / 65536) % 65536+(n % 65536+n / 65536) / 65536) / 65536)≤65535;tm_at "ob"
theorem zd (x y:Nat) {g:List Nat} (h:∀b∈g,b<256) (hl:g.length≤2000):CP (x:Int) (y:Int) (cI g)=((Sw53.sumOf x y g:Nat):Int):=by
 unfold CP Sw53.sumOf;rw [y0,sW,sC,sC,sC];have hi:∀b∈Sw53.be 4 x++(Sw53.be 4 y++(Sw53.be 2 3++(Sw53.be 2 g.length++g))),b<256:=fun b hb=>by
  simp only [List.mem_append] at hb;rcases hb with hb | hb | hb | hb | hb
  ·exact mZ _ _ b hb
  ·exact mZ _ _ b hb
  ·exact mZ _ _ b hb
  ·exact mZ _ _ b hb
  ·exact h b hb
 have:=HA hi (by simp only [List.length_append,yI];tm_at "ob");unfold Sw53.ones at this ⊢;dsimp only at this ⊢;generalize (Sw53.words (Sw53.be 4 x++(Sw53.be 4 y++(Sw53.be 2 3++(Sw53.be 2 g.length++g))))).sum=n at this ⊢;generalize ((n % 65536+n / 65536) % 65536+(n % 65536+n / 65536) / 65536) % 65536+((n % 65536+n / 65536) % 65536+(n % 65536+n / 65536) / 65536) / 65536=m at this ⊢;split
 ·rename_i e;rw [if_pos (by tm_at "ob")];rfl
 ·rename_i e;rw [if_neg (by tm_at "ob")];tm_at "ob"
noncomputable def cP (r:Nat×Nat):Int×Int:=((r.1:Int),(r.2:Int))
noncomputable def aT (g:Sw53.Seg):SG:=⟨g.src,g.dst,g.number,g.acked,g.flags,g.window,g.ranges.map cP,cI g.data⟩
theorem Fx (g:Sw53.Seg):g.flags≤15:=by
 unfold Sw53.Seg.flags
 cases g.begin_ <;> cases g.end_ <;> cases g.ack <;> cases g.reset <;> decide
theorem pj (g:Sw53.Seg):fE (aT g) 1=g.begin_:=by
 show decide (Builtin.bitAnd ((g.flags:Nat):Int) _≠0)=_;unfold Sw53.Seg.flags
 cases g.begin_ <;> cases g.end_ <;> cases g.ack <;> cases g.reset <;> rfl
theorem o9 (g:Sw53.Seg):fE (aT g) 2=g.end_:=by
 show decide (Builtin.bitAnd ((g.flags:Nat):Int) _≠0)=_;unfold Sw53.Seg.flags
 cases g.begin_ <;> cases g.end_ <;> cases g.ack <;> cases g.reset <;> rfl
theorem uv (g:Sw53.Seg):fE (aT g) 4=g.ack:=by
 show decide (Builtin.bitAnd ((g.flags:Nat):Int) _≠0)=_;unfold Sw53.Seg.flags
 cases g.begin_ <;> cases g.end_ <;> cases g.ack <;> cases g.reset <;> rfl
theorem o8 (g:Sw53.Seg):fE (aT g) 8=g.reset:=by
 show decide (Builtin.bitAnd ((g.flags:Nat):Int) _≠0)=_;unfold Sw53.Seg.flags
 cases g.begin_ <;> cases g.end_ <;> cases g.ack <;> cases g.reset <;> rfl
theorem zu (l:List (Nat×Nat)):(l.map cP).flatMap mm=cI (l.flatMap fun r=>Sw53.be 4 r.1++Sw53.be 4 r.2):=by
 induction l with
 | nil=>rfl
 | cons r l ih =>
  have e:mm (cP r)=cI (Sw53.be 4 r.1++Sw53.be 4 r.2):=by
   show bytesOf (r.1:Int) 4++bytesOf (r.2:Int) 4=_;rw [cM,cM,fz]
  rw [List.map_cons,List.flatMap_cons,List.flatMap_cons,fz,ih,e]
theorem xf (g:Sw53.Seg):startB (aT g)=cI (Sw53.be 2 g.src++(Sw53.be 2 g.dst++(Sw53.be 4 g.number++(Sw53.be 4 g.acked++([g.flags,g.ranges.length]++Sw53.be 2 g.window))))):=by
 unfold startB aT;dsimp only;rw [cM,cM,cM,cM,cM,List.length_map];have e:([((g.flags:Nat):Int),((g.ranges.length:Nat):Int)]:List Int)=cI [g.flags,g.ranges.length]:=rfl;rw [e];simp only [←fz,List.append_assoc]
theorem zt (g:Sw53.Seg):pI (aT g)=cI ([0,0]++((g.ranges.flatMap fun r=>Sw53.be 4 r.1++Sw53.be 4 r.2)++g.data)):=by
 unfold pI aT;dsimp only;rw [zu];have e:([0,0]:List Int)=cI [0,0]:=rfl;rw [e];simp only [←fz,List.append_assoc]
structure rG (g:Sw53.Seg):Prop where
 r:g.ranges.length≤4
 d:g.data.length≤1400
 b:∀x∈g.data,x<256
theorem uX (l:List (Nat×Nat)):(l.flatMap fun r=>Sw53.be 4 r.1++Sw53.be 4 r.2).length=8*l.length:=by
 induction l with
 | nil=>rfl
 | cons r l ih=>rw [List.flatMap_cons,List.length_append,List.length_append,yI,yI,ih,List.length_cons];tm_at "ob"
theorem yZ (g:Sw53.Seg) (n:Nat):(g.with n).length=20+8*g.ranges.length+g.data.length:=by
 unfold Sw53.Seg.with
 simp only [List.length_append,yI,uX,List.length_cons,List.length_nil];tm_at "ob"
theorem BO {g:Sw53.Seg} (h:rG g) (n:Nat):∀b∈g.with n,b<256:=fun b hb=>by
 unfold Sw53.Seg.with at hb;simp only [List.mem_append,List.mem_cons,List.not_mem_nil,or_false,List.mem_flatMap] at hb;have f:=Fx g;have r:=h.r;rcases hb with hb | hb | hb | hb | hb | hb | hb | hb | hb | hb
 ·exact mZ _ _ b hb
 ·exact mZ _ _ b hb
 ·exact mZ _ _ b hb
 ·exact mZ _ _ b hb
 ·rcases hb with rfl | rfl <;> tm_at "ob"
 ·exact mZ _ _ b hb
 ·exact mZ _ _ b hb
 ·rcases hb with rfl | rfl <;> tm_at "ob"
 ·obtain ⟨q,_,hq | hq⟩:=hb
  ·exact mZ _ _ b hq
  ·exact mZ _ _ b hq
 ·exact h.b b hb
theorem uE {g:Sw53.Seg} (h:rG g) (x y:Nat):uF (aT g) (x:Int) (y:Int)=cI (g.bytes x y):=by
 unfold uF Sw53.Seg.bytes;have e0:([0,0]:List Int)=cI (Sw53.be 2 0):=by decide
 have e:startB (aT g)++[0,0]++pI (aT g)=cI (g.with 0):=by
  rw [xf,zt,e0];simp only [←fz,List.append_assoc];rfl
 rw [e,zd x y (BO h 0) (by rw [yZ];have:=h.r;have:=h.d;tm_at "ob"),cM,xf,zt];simp only [←fz,List.append_assoc];rfl
theorem cons_of {n:Nat} {l:List Nat} (h:n+1≤l.length):∃a r,l=a::r∧n≤r.length:=by
 cases l with
 | nil=>simp at h
 | cons a r=>exact ⟨a,r,rfl,by simp at h;omega⟩
theorem be2 (n:Nat):Sw53.be 2 n=[n / 256 % 256,n % 256]:=by
 have e:Sw53.be 2 n=[n / 256 ^ 1 % 256,n / 256 ^ 0 % 256]:=rfl;rw [e];simp
theorem be4 (n:Nat):Sw53.be 4 n=[n / 16777216 % 256,n / 65536 % 256,n / 256 % 256,n % 256]:=by
 have e:Sw53.be 4 n=[n / 256 ^ 3 % 256,n / 256 ^ 2 % 256,n / 256 ^ 1 % 256,n / 256 ^ 0 % 256]:=rfl;rw [e];simp
theorem uy {a b:Nat} (ha:a<256) (hb:b<256):Sw53.be 2 (Sw53.num [a,b])=[a,b]:=by
 rw [be2];show [(256*(256*0+a)+b) / 256 % 256,(256*(256*0+a)+b) % 256]=[a,b];congr 1
 ·omega
 ·congr 1;omega
theorem yH {a b c d:Nat} (ha:a<256) (hb:b<256) (hc:c<256) (hd:d<256):Sw53.be 4 (Sw53.num [a,b,c,d])=[a,b,c,d]:=by
 rw [be4];show [(256*(256*(256*(256*0+a)+b)+c)+d) / 16777216 % 256,(256*(256*(256*(256*0+a)+b)+c)+d) / 65536 % 256,(256*(256*(256*(256*0+a)+b)+c)+d) / 256 % 256,(256*(256*(256*(256*0+a)+b)+c)+d) % 256]=[a,b,c,d];congr 1
 ·omega
 ·congr 1
  ·omega
  ·congr 1
   ·omega
   ·congr 1;omega
theorem As {l:List Nat} (h:l.length=4) (hl:∀x∈l,x<256):Sw53.be 4 (Sw53.num l)=l:=by
 match l,h with
 | [a,b,c,d],_=>exact yH (hl a (by simp)) (hl b (by simp)) (hl c (by simp)) (hl d (by simp))
theorem vd {b r:List Nat} (hr:b.drop 20=r) (hb:∀x∈r,x<256):∀k,8*k≤r.length→
  (((List.range k).map fun i=>(Sw53.part b (20+8*i) 4,Sw53.part b (24+8*i) 4)).flatMap fun q=>Sw53.be 4 q.1++Sw53.be 4 q.2)=r.take (8*k)
 | 0,_=>rfl
 | k+1,h=>by
  rw [List.range_succ,List.map_append,List.flatMap_append,vd hr hb k (by tm_at "ob")];simp only [List.map_cons,List.map_nil,List.flatMap_cons,List.flatMap_nil,List.append_nil];have e1:b.drop (20+8*k)=r.drop (8*k):=by rw [←List.drop_drop,hr]
  have e2:b.drop (24+8*k)=r.drop (8*k+4):=by rw [show 24+8*k=20+(8*k+4) by tm_at "ob",←List.drop_drop,hr]
  unfold Sw53.part;rw [e1,e2,As,As]
  ·rw [show 8*(k+1)=8*k+(4+4) by tm_at "ob",List.take_add,List.take_add,List.drop_drop]
  ·rw [List.length_take,List.length_drop];tm_at "ob"
  ·exact fun x hx=>hb x (List.mem_of_mem_drop (List.mem_of_mem_take hx))
  ·rw [List.length_take,List.length_drop];tm_at "ob"
  ·exact fun x hx=>hb x (List.mem_of_mem_drop (List.mem_of_mem_take hx))
theorem ux (n:Nat):(n % 2 == 1).toNat=n % 2:=by
 rcases Nat.mod_two_eq_zero_or_one n with h | h <;> rw [h] <;> rfl
theorem Ef (x y:Nat) (g:List Nat):Sw53.sumOf x y g<65536:=by
 unfold Sw53.sumOf;dsimp only;split <;> omega
theorem gz (b:List Nat) (i c:Nat):gQ (cI b) i c=((Sw53.part b i c:Nat):Int):=by
 unfold gQ Sw53.part;rw [←mP,←pC,EV]
noncomputable def gJ (b:List Nat):Sw53.Seg:=
 let k:=Sw53.part b 13 1
 let f:=Sw53.part b 12 1
 ⟨Sw53.part b 0 2,Sw53.part b 2 2,Sw53.part b 4 4,Sw53.part b 8 4,f % 2 == 1,f / 2 % 2 == 1,f / 4 % 2 == 1,f / 8 % 2 == 1,Sw53.part b 14 2,(List.range k).map fun i=>(Sw53.part b (20+8*i) 4,Sw53.part b (24+8*i) 4),b.drop (20+8*k)⟩
theorem EB (x y:Nat) (b:List Nat) (hb:∀z∈b,z<256):lF (cI b) (x:Int) (y:Int)=(Sw53.readSeg x y b).map aT:=by
 have er:Sw53.readSeg x y b=if 20≤b.length∧Sw53.part b 13 1≤4∧20+8*Sw53.part b 13 1≤b.length∧(gJ b).data.length≤Sw53.MOST∧(gJ b).bytes x y=b then some (gJ b) else none:=rfl;rw [er];by_cases h20:20≤b.length
 ·obtain ⟨b0,l0,e0_,h0_⟩:=cons_of h20
  obtain ⟨b1,l1,e1_,h1_⟩:=cons_of h0_;obtain ⟨b2,l2,e2_,h2_⟩:=cons_of h1_;obtain ⟨b3,l3,e3_,h3_⟩:=cons_of h2_;obtain ⟨b4,l4,e4_,h4_⟩:=cons_of h3_;obtain ⟨b5,l5,e5_,h5_⟩:=cons_of h4_;obtain ⟨b6,l6,e6_,h6_⟩:=cons_of h5_;obtain ⟨b7,l7,e7_,h7_⟩:=cons_of h6_;obtain ⟨b8,l8,e8_,h8_⟩:=cons_of h7_;obtain ⟨b9,l9,e9_,h9_⟩:=cons_of h8_;obtain ⟨b10,l10,e10_,h10_⟩:=cons_of h9_;obtain ⟨b11,l11,e11_,h11_⟩:=cons_of h10_;obtain ⟨b12,l12,e12_,h12_⟩:=cons_of h11_;obtain ⟨b13,l13,e13_,h13_⟩:=cons_of h12_;obtain ⟨b14,l14,e14_,h14_⟩:=cons_of h13_;obtain ⟨b15,l15,e15_,h15_⟩:=cons_of h14_;obtain ⟨b16,l16,e16_,h16_⟩:=cons_of h15_;obtain ⟨b17,l17,e17_,h17_⟩:=cons_of h16_;obtain ⟨b18,l18,e18_,h18_⟩:=cons_of h17_;obtain ⟨b19,r,e19_,h19_⟩:=cons_of h18_;clear h0_ h1_ h2_ h3_ h4_ h5_ h6_ h7_ h8_ h9_ h10_ h11_ h12_ h13_ h14_ h15_ h16_ h17_ h18_ h19_ h20 er;subst e19_ e18_ e17_ e16_ e15_ e14_ e13_ e12_ e11_ e10_ e9_ e8_ e7_ e6_ e5_ e4_ e3_ e2_ e1_ e0_;generalize hB:b0::b1::b2::b3::b4::b5::b6::b7::b8::b9::b10::b11::b12::b13::b14::b15::b16::b17::b18::b19::r=B at hb ⊢;have i:∀j z,B[j]? = some z→z<256:=fun j z h=>hb z (List.mem_of_getElem? h);have i0:=i 0 b0 (by rw [←hB];rfl);have i1:=i 1 b1 (by rw [←hB];rfl);have i2:=i 2 b2 (by rw [←hB];rfl);have i3:=i 3 b3 (by rw [←hB];rfl);have i4:=i 4 b4 (by rw [←hB];rfl);have i5:=i 5 b5 (by rw [←hB];rfl);have i6:=i 6 b6 (by rw [←hB];rfl);have i7:=i 7 b7 (by rw [←hB];rfl);have i8:=i 8 b8 (by rw [←hB];rfl);have i9:=i 9 b9 (by rw [←hB];rfl);have i10:=i 10 b10 (by rw [←hB];rfl);have i11:=i 11 b11 (by rw [←hB];rfl);have i14:=i 14 b14 (by rw [←hB];rfl);have i15:=i 15 b15 (by rw [←hB];rfl);have i16:=i 16 b16 (by rw [←hB];rfl);have i17:=i 17 b17 (by rw [←hB];rfl);have hr:B.drop 20=r:=by rw [←hB];rfl
  have lr:B.length=r.length+20:=by rw [←hB];rfl
  have hrb:∀z∈r,z<256:=fun z hz=>hb z (by rw [←hr] at hz;exact List.mem_of_mem_drop hz);have ek:Sw53.part B 13 1=b13:=by rw [←hB];show 256*0+b13=b13;tm_at "ob"
  have ef:Sw53.part B 12 1=b12:=by rw [←hB];show 256*0+b12=b12;tm_at "ob"
  have g12:(cI B).getD 12 0=(b12:Int):=by rw [←hB];rfl
  have g13:(cI B).getD 13 0=(b13:Int):=by rw [←hB];rfl
  have g18:(cI B).getD 18 0=(b18:Int):=by rw [←hB];rfl
  have g19:(cI B).getD 19 0=(b19:Int):=by rw [←hB];rfl
  have dr:B.drop (20+8*b13)=r.drop (8*b13):=by rw [←List.drop_drop,hr]
  have ed:(gJ B).data=r.drop (8*b13):=by
   show B.drop (20+8*Sw53.part B 13 1)=_;rw [ek,dr]
  rw [ed,ek,List.length_drop,lr];by_cases hF:b13≤4∧8*b13≤r.length∧r.length - 8*b13≤1400
  ·obtain ⟨f1,f2,f3⟩:=hF
   have efl:(gJ B).flags=b12 % 16:=by
    show (Sw53.part B 12 1 % 2 == 1).toNat+(2*(Sw53.part B 12 1 / 2 % 2 == 1).toNat+(4*(Sw53.part B 12 1 / 4 % 2 == 1).toNat+8*(Sw53.part B 12 1 / 8 % 2 == 1).toNat))=_;rw [ef,ux,ux,ux,ux];tm_at "ob"
   have ew:∀n,(gJ B).with n=b0::b1::b2::b3::b4::b5::b6::b7::b8::b9::b10::b11::(b12 % 16)::b13::b14::b15::(Sw53.be 2 n++(0::0::r)):=fun n=>by
    unfold Sw53.Seg.with
    rw [efl,ed];have e1:(gJ B).src=Sw53.num [b0,b1]:=by rw [←hB];rfl
    have e2:(gJ B).dst=Sw53.num [b2,b3]:=by rw [←hB];rfl
    have e3:(gJ B).number=Sw53.num [b4,b5,b6,b7]:=by rw [←hB];rfl
    have e4:(gJ B).acked=Sw53.num [b8,b9,b10,b11]:=by rw [←hB];rfl
    have e5:(gJ B).window=Sw53.num [b14,b15]:=by rw [←hB];rfl
    have e6:(gJ B).ranges=(List.range b13).map fun i=>(Sw53.part B (20+8*i) 4,Sw53.part B (24+8*i) 4):=by
     show (List.range (Sw53.part B 13 1)).map _=_;rw [ek]
    rw [e1,e2,e3,e4,e5,e6,uy i0 i1,uy i2 i3,yH i4 i5 i6 i7,yH i8 i9 i10 i11,uy i14 i15,vd hr hrb b13 f2,List.take_append_drop,List.length_map,List.length_range];rfl
   have eb:(gJ B).bytes x y=B↔(b12≤15∧b18=0∧b19=0∧Sw53.be 2 (Sw53.sumOf x y ((gJ B).with 0))=[b16,b17]):=by
    unfold Sw53.Seg.bytes;rw [ew (Sw53.sumOf x y ((gJ B).with 0)),be2,←hB];constructor
    ·intro h
     simp only [List.cons_append,List.nil_append,List.cons.injEq,true_and,and_true] at h;obtain ⟨q1,q2,q3,q4,q5⟩:=h;refine ⟨by tm_at "ob",q4.symm,q5.symm,?_⟩;rw [q2,q3]
    ·rintro ⟨q1,q2,q3,q4⟩
     injection q4 with q4 q5;injection q5 with q5;simp only [List.cons_append,List.nil_append,List.cons.injEq,true_and,and_true];exact ⟨by tm_at "ob",q4,q5,q2.symm,q3.symm⟩
   unfold lF;by_cases hz:b12≤15∧b18=0∧b19=0
   ·obtain ⟨z1,z2,z3⟩:=hz
    have hf:eZ (cI B)=true:=by
     unfold eZ;rw [g12,g13,g18,g19,ba,lr,if_neg (by tm_at "ob"),if_neg (by tm_at "ob"),if_neg (by tm_at "ob"),if_pos (by tm_at "ob"),if_pos (by tm_at "ob"),if_pos (by tm_at "ob")];exact decide_eq_true (by tm_at "ob")
    rw [if_pos hf];have e0:(cI B).take 16++[0,0]++(cI B).drop 18=cI ((gJ B).with 0):=by
     rw [ew 0,←hB];have:b12 % 16=b12:=by tm_at "ob"
     rw [this,z2,z3];rfl
    have sin:rG (gJ B):=⟨by show ((List.range (Sw53.part B 13 1)).map _).length≤4;rw [ek,List.length_map,List.length_range];exact f1,by rw [ed,List.length_drop];exact f3,fun z hz=>by rw [ed] at hz;exact hrb z (List.mem_of_mem_drop hz)⟩;rw [e0,zd x y (BO sin 0) (by rw [yZ];have:=sin.r;have:=sin.d;tm_at "ob"),gz];have ep:Sw53.part B 16 2=Sw53.num [b16,b17]:=by rw [←hB];rfl
    rw [ep];have ss:=Ef x y ((gJ B).with 0);have q:(Sw53.be 2 (Sw53.sumOf x y ((gJ B).with 0))=[b16,b17])↔((Sw53.sumOf x y ((gJ B).with 0):Nat):Int)=((Sw53.num [b16,b17]:Nat):Int):=by
     constructor
     ·intro h
      rw [←h,be2];show _=(((256*(256*0+(Sw53.sumOf x y ((gJ B).with 0) / 256 % 256))+Sw53.sumOf x y ((gJ B).with 0) % 256:Nat)):Int);tm_at "ob"
     ·intro h
      rw [Int.ofNat.inj h];exact uy i16 i17
    have eso:qP (cI B)=aT (gJ B):=by
     unfold qP aT;rw [efl,g12,g13,gz,gz,gz,gz,gz,ed];congr 1
     ·tm_at "ob"
     ·unfold kx
      show _=((List.range (Sw53.part B 13 1)).map _).map cP;rw [ek,Int.toNat_natCast,List.map_map];refine List.map_congr_left fun i _=>?_;rw [gz,gz];rfl
     ·rw [Int.toNat_natCast,←mP,dr]
    by_cases hs:Sw53.be 2 (Sw53.sumOf x y ((gJ B).with 0))=[b16,b17]
    ·rw [if_neg (fun h=>h (q.mp hs)),if_pos ⟨by tm_at "ob",f1,by tm_at "ob",f3,eb.mpr ⟨z1,z2,z3,hs⟩⟩,eso]
     rfl
    ·rw [if_pos (fun h=>hs (q.mpr h)),if_neg (fun h=>hs (eb.mp h.2.2.2.2).2.2.2)]
     rfl
   ·have hf:¬eZ (cI B)=true:=by
     intro h;unfold eZ at h;rw [g12,g13,g18,g19,ba,lr] at h;apply hz
     repeat' split at h
     all_goals (first | (cases h;done) | (have:=of_decide_eq_true h;tm_at "ob"))
    rw [if_neg hf,if_neg (fun h=>hz ⟨(eb.mp h.2.2.2.2).1,(eb.mp h.2.2.2.2).2.1,(eb.mp h.2.2.2.2).2.2.1⟩)];rfl
  ·have hf:¬eZ (cI B)=true:=by
    intro h;unfold eZ at h;rw [g12,g13,g18,g19,ba,lr] at h;apply hF
    repeat' split at h
    all_goals (first | (cases h;done) | tm_at "ob")
   unfold lF;rw [if_neg hf,if_neg (fun h=>hF ⟨h.2.1,by tm_at "ob",h.2.2.2.1⟩)];rfl
 ·have hf:¬eZ (cI b)=true:=by
   intro h;unfold eZ at h;rw [ba,if_pos (by tm_at "ob")] at h
   cases h
  unfold lF;rw [if_neg hf,if_neg (fun h=>h20 h.1)];rfl
theorem GY {x y:Nat} {b:List Nat} {g:Sw53.Seg} (hb:∀z∈b,z<256) (h:Sw53.readSeg x y b=some g):rG g∧20+8*g.ranges.length+g.data.length=b.length∧g.number<4294967296∧g.acked<4294967296:=by
 have er:Sw53.readSeg x y b=if 20≤b.length∧Sw53.part b 13 1≤4∧20+8*Sw53.part b 13 1≤b.length∧(gJ b).data.length≤Sw53.MOST∧(gJ b).bytes x y=b then some (gJ b) else none:=rfl;rw [er] at h;split at h
 ·rename_i c
  injection h with h;subst h;have e1:(gJ b).ranges.length=Sw53.part b 13 1:=by show ((List.range (Sw53.part b 13 1)).map _).length=_;rw [List.length_map,List.length_range]
  have e2:(gJ b).data=b.drop (20+8*Sw53.part b 13 1):=rfl;have p4:∀i,Sw53.part b i 4<4294967296:=fun i=>by
   unfold Sw53.part;have hl:((b.drop i).take 4).length≤4:=by rw [List.length_take];tm_at "ob"
   have hm:∀z∈(b.drop i).take 4,z<256:=fun z hz=>hb z (List.mem_of_mem_drop (List.mem_of_mem_take hz));generalize (b.drop i).take 4=l at hl hm
   match l,hl with
   | [],_=>decide
   | [a],_=>have:=hm a (by simp);show 256*0+a<_;tm_at "ob"
   | [a,b],_=>have:=hm a (by simp);have:=hm b (by simp);show 256*(256*0+a)+b<_;tm_at "ob"
   | [a,b,c],_=>have:=hm a (by simp);have:=hm b (by simp);have:=hm c (by simp);show 256*(256*(256*0+a)+b)+c<_;tm_at "ob"
   | [a,b,c,d],_=>have:=hm a (by simp);have:=hm b (by simp);have:=hm c (by simp);have:=hm d (by simp);show 256*(256*(256*(256*0+a)+b)+c)+d<_;tm_at "ob"
  refine ⟨⟨by rw [e1];exact c.2.1,c.2.2.2.1,fun z hz=>by rw [e2] at hz;exact hb z (List.mem_of_mem_drop hz)⟩,?_,p4 4,p4 8⟩;rw [e1,e2,List.length_drop];have:=c.2.2.1;tm_at "ob"
 ·cases h
noncomputable abbrev Rg:=Nat×Nat
noncomputable def vw (una:Nat) (raw:List Rg):List Rg:=raw.map fun r=>(max una r.1,r.2)
structure kl (una top:Nat) (raw:List Rg):Prop where
 s:raw.Pairwise fun a b=>a.2<b.1
 i:∀r∈raw,r.1<r.2∧una<r.2∧r.2≤top
noncomputable def fnd (raw:List Rg) (pl:Nat):Option Rg:=raw.find? fun r=>decide (r.1≤pl) && decide (pl<r.2)
theorem JN {una pl:Nat} (h:una≤pl) (raw:List Rg):(vw una raw).find? (fun r=>decide (r.1≤pl) && decide (pl<r.2))=(fnd raw pl).map fun r=>(max una r.1,r.2):=by
 unfold vw fnd;rw [List.find?_map];congr 2;funext r;show (decide (max una r.1≤pl) && decide (pl<r.2))=(decide (r.1≤pl) && decide (pl<r.2));congr 1;exact decide_eq_decide.mpr ⟨fun _=>by tm_at "ob",fun _=>by tm_at "ob"⟩
noncomputable def bhN (raw:List Rg) (pl:Nat):Nat:=match fnd raw pl with
 | some r=>r.2
 | none=>pl
theorem tL (raw:List Rg) (pl:Nat):gj (raw.map cP) (pl:Int)=((bhN raw pl:Nat):Int):=by
 unfold gj bhN fnd;rw [List.find?_map];have e:((fun r:Int×Int=>decide (r.1≤(pl:Int)) && decide ((pl:Int)<r.2))∘cP)=fun r:Rg=>decide (r.1≤pl) && decide (pl<r.2):=by
  funext r;show (decide ((r.1:Int)≤(pl:Int)) && decide ((pl:Int)<(r.2:Int)))=_;congr 1
  ·exact decide_eq_decide.mpr ⟨fun _=>by tm_at "oa",fun _=>by tm_at "oa"⟩
  ·exact decide_eq_decide.mpr ⟨fun _=>by tm_at "oa",fun _=>by tm_at "oa"⟩
 rw [e]
 cases raw.find? fun r:Rg=>decide (r.1≤pl) && decide (pl<r.2) <;> rfl
theorem Ft {raw:List Rg} {pl:Nat} (h:fnd raw pl=none):∀r∈raw,¬(r.1≤pl∧pl<r.2):=fun r hr c=>by
 have:=List.find?_eq_none.mp h r hr;exact this (by rw [decide_eq_true c.1,decide_eq_true c.2];rfl)
theorem Ai {raw:List Rg} {pl:Nat} (h:∀r∈raw,¬(r.1≤pl∧pl<r.2)):fnd raw pl=none:=by
 refine List.find?_eq_none.mpr fun r hr c=>?_;simp only [Bool.and_eq_true,decide_eq_true_eq] at c;exact h r hr c
theorem Ah {raw:List Rg} {pl:Nat} {r:Rg} (h:fnd raw pl=some r):r∈raw∧r.1≤pl∧pl<r.2:=by
 have h1:=List.find?_some h;simp only [Bool.and_eq_true,decide_eq_true_eq] at h1;exact ⟨List.mem_of_find?_eq_some h,h1⟩
theorem Fp {una top pl:Nat} {raw:List Rg} (o:kl una top raw) (hu:una≤pl) (h:fnd raw pl=none):raw.find? (fun r=>decide (pl≤r.1))=raw.find? (fun r=>decide (pl<max una r.1)):=by
 have n:=Ft h;have i:=o.i;clear o h
 induction raw with
 | nil=>rfl
 | cons r l ih =>
  have c1:=n r (by simp);have c2:=i r (by simp);have e:decide (pl≤r.1)=decide (pl<max una r.1):=decide_eq_decide.mpr ⟨fun _=>by tm_at "ob",fun _=>by tm_at "ob"⟩;rw [List.find?_cons,List.find?_cons,e,ih (fun q hq=>n q (by simp [hq])) (fun q hq=>i q (by simp [hq]))]
noncomputable def tJ (held:List Rg) (pl:Nat):Nat:=match held.find? fun (h:Nat×Nat)=>decide (pl<h.1) with
 | some h=>h.1 - pl
 | none=>Sw53.MOST
theorem y8 {una top pl m:Nat} {raw:List Rg} (o:kl una top raw) (hu:una≤pl) (h:fnd raw pl=none) (hm:m≤1400):upTo (raw.map cP) (pl:Int) (m:Int)=((min m (tJ (vw una raw) pl):Nat):Int):=by
 unfold upTo tJ vw;rw [List.find?_map,List.find?_map];have e:((fun r:Int×Int=>decide ((pl:Int)≤r.1))∘cP)=fun r:Rg=>decide (pl≤r.1):=by
  funext r;exact decide_eq_decide.mpr ⟨fun (h:(pl:Int)≤(r.1:Int))=>by tm_at "ob",fun _=>by show (pl:Int)≤(r.1:Int);tm_at "ob"⟩
 have e':((fun h:Nat×Nat=>decide (pl<h.1))∘fun r:Rg=>(max una r.1,r.2))=fun r:Rg=>decide (pl<max una r.1):=rfl;rw [e,e',Fp o hu h]
 cases q:raw.find? fun r:Rg=>decide (pl<max una r.1) with
 | none=>show (m:Int)=((min m 1400:Nat):Int);tm_at "ob"
 | some r =>
  have:=List.find?_some q;simp only [decide_eq_true_eq] at this;show min (m:Int) ((r.1:Int) - (pl:Int))=((min m (max una r.1 - pl):Nat):Int);tm_at "ob"
theorem xt {x:Nat}:∀{l:List Rg},(∀r∈l,x<r.1)→l.foldl (fun (x:Nat) (h:Nat×Nat)=>if h.1≤x∧x<h.2 then h.2 else x) x=x
 | [],_=>rfl
 | r::l,h=>by
  have c:=h r (by simp);rw [List.foldl_cons,if_neg (by tm_at "ob")];exact xt fun q hq=>h q (by simp [hq])
theorem DG {una top x:Nat} {raw:List Rg} (o:kl una top raw) (hu:una≤x):(vw una raw).foldl (fun (x:Nat) (h:Nat×Nat)=>if h.1≤x∧x<h.2 then h.2 else x) x=bhN raw x:=by
 obtain ⟨s,i⟩:=o
 induction raw with
 | nil=>rfl
 | cons r l ih =>
  have c2:=i r (by simp);rw [List.pairwise_cons] at s;unfold bhN fnd;rw [List.find?_cons];show (vw una l).foldl _ (if max una r.1≤x∧x<r.2 then r.2 else x)=_;by_cases c:r.1≤x∧x<r.2
  ·rw [if_pos (by tm_at "ob")]
   simp only [c.1,c.2,decide_true,Bool.and_true];refine xt fun q hq=>?_;obtain ⟨z,hz,rfl⟩:=List.mem_map.mp hq;have:=s.1 z hz;show r.2<max una z.1;tm_at "ob"
  ·rw [if_neg (by tm_at "ob")]
   have e:(decide (r.1≤x) && decide (x<r.2))=false:=by
    rw [←Bool.not_eq_true];simp only [Bool.and_eq_true,decide_eq_true_eq];exact c
   rw [e];exact ih s.2 fun q hq=>i q (by simp [hq])
theorem FV {una top x:Nat} {raw:List Rg} (o:kl una top raw):fnd raw (bhN raw x)=none∧x≤bhN raw x:=by
 unfold bhN
 cases e:fnd raw x with
 | none=>exact ⟨e,Nat.le_refl _⟩
 | some r =>
  obtain ⟨m,h1,h2⟩:=Ah e;refine ⟨Ai fun q hq c=>?_,Nat.le_of_lt h2⟩;obtain ⟨a,b,rfl⟩:=List.append_of_mem m;have s:=o.s;rw [List.pairwise_append,List.pairwise_cons] at s;have i:=o.i r m;dsimp only at c;rcases List.mem_append.mp hq with hq | hq
  ·have:=s.2.2 q hq r (by simp)
   tm_at "ob"
  ·rcases List.mem_cons.mp hq with rfl | hq
   ·tm_at "ob"
   ·have:=s.2.1.1 q hq
    tm_at "ob"
theorem DO {una a:Nat} (h:una≤a) (raw:List Rg):Sw53.behind a (vw una raw)=vw a (raw.filter fun r=>decide (a<r.2)):=by
 unfold Sw53.behind vw
 induction raw with
 | nil=>rfl
 | cons r l ih =>
  rw [List.map_cons,List.filterMap_cons,List.filter_cons];by_cases c:r.2≤a
  ·rw [if_pos c,if_neg (by simp;tm_at "ob")]
   exact ih
  ·rw [if_neg c,if_pos (by simp;tm_at "ob"),List.map_cons,ih]
   show (max a (max una r.1),r.2)::_=(max a r.1,r.2)::_;rw [show max a (max una r.1)=max a r.1 by tm_at "ob"]
theorem Bn (a:Nat) (raw:List Rg):(raw.map cP).filter (fun r=>decide ((a:Int)<r.2))=(raw.filter fun r=>decide (a<r.2)).map cP:=by
 rw [List.filter_map];congr 2;funext r;exact decide_eq_decide.mpr ⟨fun (h:(a:Int)<(r.2:Int))=>by tm_at "oa",fun _=>by show (a:Int)<(r.2:Int);tm_at "oa"⟩
theorem kl.cut {una top a:Nat} {raw:List Rg} (o:kl una top raw):kl a top (raw.filter fun r=>decide (a<r.2)):=
 ⟨o.s.filter _,fun r hr=>by
  rw [List.mem_filter] at hr;have:=o.i r hr.1;have c:a<r.2:=of_decide_eq_true hr.2;exact ⟨this.1,c,this.2.2⟩⟩
theorem kl.more {una top top':Nat} {raw:List Rg} (o:kl una top raw) (h:top≤top'):kl una top' raw:=⟨o.s,fun r hr=>by have:=o.i r hr;tm_at "ob"⟩
theorem kl.nil (una top:Nat):kl una top []:=⟨.nil,fun r h=>by simp at h⟩
theorem join_cons (f t:Nat) (h:Rg) (l:List Rg):Sw53.join f t (h::l)=if t<h.1 then (f,t)::h::l else if h.2<f then h::Sw53.join f t l else Sw53.join (min f h.1) (max t h.2) l:=rfl
theorem yt {una:Nat}:∀{raw:List Rg} {f t:Nat},una<t→(∀r∈raw,una<r.2)→vw una (Sw53.join f t raw)=Sw53.join (max una f) t (vw una raw)
 | [],f,t,_,_=>rfl
 | r::l,f,t,ht,h=>by
  have c:=h r (by simp);have hl:∀q∈l,una<q.2:=fun q hq=>h q (by simp [hq]);show vw una (Sw53.join f t (r::l))=Sw53.join (max una f) t ((max una r.1,r.2)::vw una l);rw [join_cons,join_cons];dsimp only;by_cases c1:t<r.1
  ·rw [if_pos c1,if_pos (by tm_at "ob")]
   rfl
  ·rw [if_neg c1,if_neg (show ¬t<max una r.1 by tm_at "ob")]
   by_cases c2:r.2<f
   ·rw [if_pos c2,if_pos (by tm_at "ob"),←yt ht hl]
    rfl
   ·rw [if_neg c2,if_neg (by tm_at "ob"),yt (by tm_at "ob") hl]
    rw [show max una (min f r.1)=min (max una f) (max una r.1) by tm_at "ob"]
structure Split (f t:Nat) (raw B T A:List Rg):Prop where
 e:raw=B++T++A
 b:∀r∈B,r.2<f
 m:∀r∈T,¬r.2<f∧¬t<r.1
 a:∀r∈A,t<r.1
theorem zf {f t:Nat}:∀{raw:List Rg},raw.Pairwise (fun a b=>a.2<b.1)→(∀r∈raw,r.1<r.2)→∃B T A,Split f t raw B T A
 | [],_,_=>⟨[],[],[],rfl,by simp,by simp,by simp⟩
 | r::l,s,i=>by
  rw [List.pairwise_cons] at s;have ir:=i r (by simp);obtain ⟨B,T,A,e,b,t',a⟩:=zf (f:=f) (t:=t) s.2 fun q hq=>i q (by simp [hq]);by_cases c1:r.2<f
  ·refine ⟨r::B,T,A,by rw [e];rfl,fun q hq=>?_,t',a⟩
   rcases List.mem_cons.mp hq with rfl | hq
   ·exact c1
   ·exact b q hq
  ·by_cases c2:t<r.1
   ·refine ⟨[],[],r::l,rfl,by simp,by simp,fun q hq=>?_⟩
    rcases List.mem_cons.mp hq with rfl | hq
    ·exact c2
    ·have:=s.1 q hq;tm_at "ob"
   ·have eB:B=[]:=by
     cases B with
     | nil=>rfl
     | cons q B =>
      have m:q∈l:=by rw [e];simp
      have h1:=s.1 q m;have h2:=b q (by simp);have h3:=i q (by simp [m]);tm_at "ob"
    subst eB;refine ⟨[],r::T,A,by rw [e];rfl,by simp,fun q hq=>?_,a⟩;rcases List.mem_cons.mp hq with rfl | hq
    ·exact ⟨c1,c2⟩
    ·exact t' q hq
theorem vA {f t:Nat} (hft:f<t):∀{B l:List Rg},(∀r∈B,r.2<f∧r.1<r.2)→Sw53.join f t (B++l)=B++Sw53.join f t l
 | [],l,_=>rfl
 | r::B,l,h=>by
  have c:=h r (by simp);show Sw53.join f t (r::(B++l))=r::(B++Sw53.join f t l);rw [←vA hft fun q hq=>h q (by simp [hq])]
  conv=>lhs;unfold Sw53.join
  rw [if_neg (by tm_at "ob"),if_pos c.1]
noncomputable def mid (f t:Nat):List Rg→Rg
 | []=>(f,t)
 | r::l=>(min f r.1,max t ((r::l).getLast (by simp)).2)
theorem Aa:∀{T A:List Rg} {f t:Nat},(T++A).Pairwise (fun a b=>a.2<b.1)→(∀r∈T++A,r.1<r.2)→(∀r∈T,¬r.2<f∧¬t<r.1)→(∀r∈A,t<r.1)→Sw53.join f t (T++A)=mid f t T::A
 | [],[],f,t,_,_,_,_=>rfl
 | [],a::A,f,t,_,_,_,ha=>by
  show Sw53.join f t (a::A)=(f,t)::a::A;unfold Sw53.join;rw [if_pos (ha a (by simp))]
 | r::T,A,f,t,s,i,ht,ha=>by
  have s':(∀q∈T++A,r.2<q.1)∧(T++A).Pairwise fun a b=>a.2<b.1:=List.pairwise_cons.mp s;have c:=ht r (by simp);have ir:=i r (by simp);show Sw53.join f t (r::(T++A))=_;unfold Sw53.join;rw [if_neg c.2,if_neg c.1,Aa s'.2 (fun q hq=>i q (by simp at hq ⊢;exact .inr hq)) (fun q hq=>?_) (fun q hq=>?_)]
  ·congr 1
   cases T with
   | nil=>rfl
   | cons z T =>
    have h1:=s'.1 z (by simp);have h2:=i z (by simp);have h3:=s'.1 ((z::T).getLast (by simp)) (by simp only [List.mem_append];exact .inl (List.getLast_mem _));have h4:=i ((z::T).getLast (by simp)) (by simp only [List.cons_append,List.mem_cons,List.mem_append];exact .inr (by have:=List.getLast_mem (l:=z::T) (by simp);simp only [List.mem_cons] at this;rcases this with h | h;exact .inl h;exact .inr (.inl h)));show (min (min f r.1) z.1,max (max t r.2) ((z::T).getLast (by simp)).2)=(min f r.1,max t ((r::z::T).getLast (by simp)).2);rw [List.getLast_cons (a:=r) (l:=z::T) (by simp)];congr 1
    ·tm_at "ob"
    ·tm_at "ob"
  ·have h1:=s'.1 q (by simp [hq])
   have h2:=ht q (by simp [hq]);have h3:=i q (by simp [hq]);exact ⟨by tm_at "ob",by tm_at "ob"⟩
  ·have h1:=s'.1 q (by simp [hq])
   have h2:=ha q hq;tm_at "ob"
theorem JB {una top f t:Nat}:∀{T:List Rg},f<t→una<t→t≤top→(∀r∈T,r.1<r.2∧una<r.2∧r.2≤top)→(mid f t T).1<(mid f t T).2∧una<(mid f t T).2∧(mid f t T).2≤top
 | [],h1,h2,h3,_=>⟨h1,h2,h3⟩
 | r::T,h1,h2,h3,h=>by
  have:=h ((r::T).getLast (by simp)) (List.getLast_mem _);show min f r.1<max t ((r::T).getLast (by simp)).2∧una<max t ((r::T).getLast (by simp)).2∧max t ((r::T).getLast (by simp)).2≤top;omega
theorem zU {f t:Nat} {P:Nat→Prop} {Q:Nat→Prop}:∀{T:List Rg},(P f)→(∀r∈T,P r.1)→Q t→(∀r∈T,Q r.2)→P (mid f t T).1∧Q (mid f t T).2
 | [],h1,_,h3,_=>⟨h1,h3⟩
 | r::T,h1,h2,h3,h4=>by
  constructor
  ·show P (min f r.1)
   rcases Nat.le_total f r.1 with h | h
   ·rw [Nat.min_eq_left h];exact h1
   ·rw [Nat.min_eq_right h];exact h2 r (by simp)
  ·show Q (max t ((r::T).getLast (by simp)).2)
   rcases Nat.le_total t ((r::T).getLast (by simp)).2 with h | h
   ·rw [Nat.max_eq_right h];exact h4 _ (List.getLast_mem _)
   ·rw [Nat.max_eq_left h];exact h3
theorem filter_all {p:Rg→Bool} {l:List Rg} (h:∀r∈l,p r=true):l.filter p=l:=List.filter_eq_self.mpr h
theorem pk {p:Rg→Bool} {l:List Rg} (h:∀r∈l,p r=false):l.filter p=[]:=List.filter_eq_nil_iff.mpr fun r hr=>by rw [h r hr];exact Bool.false_ne_true
theorem wg {una top f t:Nat} {raw:List Rg} (o:kl una top raw) (h1:una<f) (h2:f<t) (h3:t≤top) :
  gw (raw.map cP) (f:Int) (t:Int)=(Sw53.join f t raw).map cP∧kl una top (Sw53.join f t raw)∧(Sw53.join f t raw).length≤raw.length+1:=by
 obtain ⟨B,T,A,sp⟩:=zf (f:=f) (t:=t) o.s fun r hr=>(o.i r hr).1;have i:=o.i;have s:=o.s;have e:=sp.e;subst e;have eb:∀r∈B,r.2<f∧r.1<r.2:=fun r hr=>⟨sp.b r hr,(i r (by simp [hr])).1⟩;have s1:(B++(T++A)).Pairwise fun a b=>a.2<b.1:=by rw [←List.append_assoc];exact s
 have s2:=List.pairwise_append.mp s1;have s3:=List.pairwise_append.mp s2.2.1;have ej:Sw53.join f t (B++T++A)=B++mid f t T::A:=by
  rw [List.append_assoc,vA h2 eb,Aa s2.2.1 (fun r hr=>(i r (by simp at hr ⊢;rcases hr with h | h;exact .inr (.inl h);exact .inr (.inr h))).1) sp.m sp.a]
 have ec:∀(p:Int×Int→Bool) (l:List Rg),(l.map cP).filter p=(l.filter fun r=>p (cP r)).map cP:=fun p l=>List.filter_map;have fb:(B++T++A).filter (fun r=>decide ((cP r).2<(f:Int)))=B:=by
  rw [List.filter_append,List.filter_append,filter_all,pk,pk,List.append_nil,List.append_nil]
  ·intro r hr
   have:=sp.a r hr;have:=(i r (by simp [hr])).1;exact decide_eq_false (by show ¬(r.2:Int)<(f:Int);tm_at "ob")
  ·intro r hr
   have:=(sp.m r hr).1;exact decide_eq_false (by show ¬(r.2:Int)<(f:Int);tm_at "ob")
  ·intro r hr
   have:=sp.b r hr;exact decide_eq_true (by show (r.2:Int)<(f:Int);tm_at "ob")
 have fa:(B++T++A).filter (fun r=>decide ((t:Int)<(cP r).1))=A:=by
  rw [List.filter_append,List.filter_append,pk,pk,filter_all,List.nil_append,List.nil_append]
  ·intro r hr
   have:=sp.a r hr;exact decide_eq_true (by show (t:Int)<(r.1:Int);tm_at "ob")
  ·intro r hr
   have:=(sp.m r hr).2;exact decide_eq_false (by show ¬(t:Int)<(r.1:Int);tm_at "ob")
  ·intro r hr
   have:=eb r hr;exact decide_eq_false (by show ¬(t:Int)<(r.1:Int);tm_at "ob")
 have et:jS ((B++T++A).map cP) (f:Int) (t:Int)=T.map cP:=by
  unfold jS;rw [ec,ec,fb,fa];have e1:(((B++T++A).map cP).length:Int) - ((A.map cP).length:Int)=((B.length+T.length:Nat):Int):=by
   simp only [List.length_map,List.length_append];tm_at "ob"
  rw [e1,List.length_map,pA,List.map_append,List.map_append,List.append_assoc,List.drop_append_of_le_length (by simp),List.drop_of_length_le (by simp),List.nil_append,List.take_append_of_le_length (by simp),List.take_of_length_le (by simp)]
 refine ⟨?_,?_,?_⟩
 ·unfold gw
  rw [ec,ec,fb,fa,et,ej,List.map_append,List.map_cons,List.append_assoc];congr 1;show _::A.map cP=_;congr 1
  cases T with
  | nil=>rfl
  | cons r T =>
   show (min (f:Int) (r.1:Int),max (t:Int) (((r::T).map cP).getLast (by simp)).2)=(((min f r.1:Nat):Int),((max t ((r::T).getLast (by simp)).2:Nat):Int));rw [List.getLast_map];show (min (f:Int) (r.1:Int),max (t:Int) (((r::T).getLast (by simp)).2:Int))=_;congr 1
   ·tm_at "ob"
   ·tm_at "ob"
 ·rw [ej]
  have im:=JB (una:=una) (top:=top) (T:=T) h2 (by tm_at "ob") h3 fun r hr=>i r (by simp [hr]);have me1:=fun b (hb:b∈B)=>(zU (f:=f) (t:=t) (P:=fun n=>b.2<n) (Q:=fun _=>True) (T:=T) (sp.b b hb) (fun r hr=>s2.2.2 b hb r (by simp [hr])) trivial (fun _ _=>trivial)).1;have me2:=fun a (ha:a∈A)=>(zU (f:=f) (t:=t) (P:=fun _=>True) (Q:=fun n=>n<a.1) (T:=T) trivial (fun _ _=>trivial) (sp.a a ha) (fun r hr=>s3.2.2 r hr a ha)).2;refine ⟨List.pairwise_append.mpr ⟨s2.1,List.pairwise_cons.mpr ⟨fun a ha=>me2 a ha,s3.2.1⟩,fun b hb q hq=>?_⟩,fun r hr=>?_⟩
  ·rcases List.mem_cons.mp hq with rfl | hq
   ·exact me1 b hb
   ·exact s2.2.2 b hb q (by simp [hq])
  ·rcases List.mem_append.mp hr with hr | hr
   ·exact i r (by simp [hr])
   ·rcases List.mem_cons.mp hr with rfl | hr
    ·exact im
    ·exact i r (by simp [hr])
 ·rw [ej];simp only [List.length_append,List.length_cons];tm_at "ob"
noncomputable abbrev PcN:=Nat×List Nat
noncomputable def cPc (p:PcN):Pc:=((p.1:Int),cI p.2)
structure kj (next edge:Nat) (ps:List PcN):Prop where
 s:ps.Pairwise fun a b=>a.1+a.2.length<b.1
 i:∀p∈ps,next≤p.1∧0<p.2.length∧p.1+p.2.length≤edge
theorem kj.nil (n e:Nat):kj n e []:=⟨.nil,fun p h=>by simp at h⟩
theorem kj.edge {n e e':Nat} {ps:List PcN} (h:kj n e ps) (he:e≤e'):kj n e' ps:=⟨h.s,fun p hp=>by have:=h.i p hp;tm_at "ob"⟩
theorem vZ (s:Nat) (d:List Nat) (x:PcN) (l:List PcN):Sw53.add s d (x::l)=if s+d.length<x.1 then (s,d)::x::l else if x.1+x.2.length<s then x::Sw53.add s d l
  else Sw53.add (min s x.1) ((if s<x.1 then d.take (x.1 - s) else [])++(x.2++d.drop (x.1+x.2.length - s))) l:=rfl
theorem BQ (s x:Nat) (d:List Nat):(if s<x then d.take (x - s) else [])=d.take (x - s):=by
 split
 ·rfl
 ·rw [show x - s=0 by omega];rfl
theorem tj {bl:List Pc} {pl:Nat} {d:List Nat}:∀{l:List PcN} {ab:List Pc},(∀y∈l,pl+d.length<y.1)→(l.map cPc).foldl bF (bl,ab,(pl:Int),cI d)=(bl,ab++l.map cPc,(pl:Int),cI d)
 | [],ab,_=>by simp
 | y::l,ab,h=>by
  have c:=h y (by simp);have e:bF (bl,ab,(pl:Int),cI d) (cPc y)=(bl,ab++[cPc y],(pl:Int),cI d):=by
   unfold bF cPc;dsimp only;rw [ba,ba,if_neg (by tm_at "ob"),if_pos (by tm_at "ob")]
  rw [List.map_cons,List.foldl_cons,e,tj fun z hz=>h z (by simp [hz])];simp
theorem rL:∀{l:List PcN} {bl:List Pc} {pl:Nat} {d:List Nat},l.Pairwise (fun a b=>a.1+a.2.length<b.1)→
  ((l.map cPc).foldl bF (bl,[],(pl:Int),cI d)).1++[(((l.map cPc).foldl bF (bl,[],(pl:Int),cI d)).2.2.1,((l.map cPc).foldl bF (bl,[],(pl:Int),cI d)).2.2.2)]++((l.map cPc).foldl bF (bl,[],(pl:Int),cI d)).2.1=bl++(Sw53.add pl d l).map cPc
 | [],bl,pl,d,_=>by
  show bl++[((pl:Int),cI d)]++[]=bl++[cPc (pl,d)];rw [List.append_nil];rfl
 | x::l,bl,pl,d,s=>by
  rw [List.pairwise_cons] at s;rw [List.map_cons,List.foldl_cons,vZ];by_cases c1:x.1+x.2.length<pl
  ·have e:bF (bl,[],(pl:Int),cI d) (cPc x)=(bl++[cPc x],[],(pl:Int),cI d):=by
    unfold bF cPc;dsimp only;rw [ba,if_pos (by tm_at "ob")]
   rw [e,rL s.2,if_neg (by tm_at "ob"),if_pos c1];simp
  ·by_cases c2:pl+d.length<x.1
   ·have e:bF (bl,[],(pl:Int),cI d) (cPc x)=(bl,[cPc x],(pl:Int),cI d):=by
     unfold bF cPc;dsimp only;rw [ba,ba,if_neg (by tm_at "ob"),if_pos (by tm_at "ob")];rfl
    rw [e,tj (l:=l) (fun y hy=>by have:=s.1 y hy;tm_at "ob"),if_pos c2];simp only [List.map_cons,List.append_assoc,List.cons_append,List.nil_append];rfl
   ·have e:bF (bl,[],(pl:Int),cI d) (cPc x)=(bl,[],((min pl x.1:Nat):Int),cI ((if pl<x.1 then d.take (x.1 - pl) else [])++(x.2++d.drop (x.1+x.2.length - pl)))):=by
     unfold bF cPc;dsimp only;rw [ba,ba,if_neg (by tm_at "ob"),if_neg (by tm_at "ob"),BQ];have e1:max 0 ((x.1:Int) - (pl:Int))=((x.1 - pl:Nat):Int):=by tm_at "ob"
     have e2:(x.1:Int)+(x.2.length:Int) - (pl:Int)=((x.1+x.2.length - pl:Nat):Int):=by tm_at "ob"
     rw [e1,e2,jL,iR,←pC,←mP,←fz,←fz,List.append_assoc];congr 3;tm_at "ob"
    rw [e,rL s.2,if_neg c2,if_neg c1]
theorem wj {l:List PcN} (pl:Nat) (d:List Nat) (s:l.Pairwise fun a b=>a.1+a.2.length<b.1):ll (l.map cPc) (pl:Int) (cI d)=(Sw53.add pl d l).map cPc:=by
 have:=rL (bl:=[]) (pl:=pl) (d:=d) s;rw [List.nil_append] at this;exact this
theorem yN {m:Nat}:∀{l:List PcN} {s:Nat} {d:List Nat},m<s→(∀z∈l,m<z.1)→∀y∈Sw53.add s d l,m<y.1
 | [],s,d,hs,_,y,hy=>by
  have:y=(s,d):=by simpa [Sw53.add] using hy
  subst this;exact hs
 | x::l,s,d,hs,hl,y,hy=>by
  have hx:=hl x (by simp);have hl':∀z∈l,m<z.1:=fun z hz=>hl z (by simp [hz]);rw [vZ] at hy;split at hy
  ·rcases List.mem_cons.mp hy with rfl | hy
   ·exact hs
   ·exact hl y hy
  ·split at hy
   ·rcases List.mem_cons.mp hy with rfl | hy
    ·exact hx
    ·exact yN hs hl' y hy
   ·exact yN (by tm_at "ob") hl' y hy
theorem BG {n e:Nat}:∀{l:List PcN} {s:Nat} {d:List Nat},kj n e l→n≤s→0<d.length→s+d.length≤e→kj n e (Sw53.add s d l)∧(Sw53.add s d l).length≤l.length+1
 | [],s,d,_,h1,h2,h3=>⟨⟨List.pairwise_singleton ..,fun p hp=>by
   have:p=(s,d):=by simpa [Sw53.add] using hp
   subst this;exact ⟨h1,h2,h3⟩⟩,Nat.le_refl _⟩
 | x::l,s,d,o,h1,h2,h3=>by
  have ss:=List.pairwise_cons.mp o.s;have ix:=o.i x (by simp);have ol:kj n e l:=⟨ss.2,fun p hp=>o.i p (by simp [hp])⟩;rw [vZ];split
  ·rename_i c
   refine ⟨⟨List.pairwise_cons.mpr ⟨fun y hy=>?_,o.s⟩,fun p hp=>?_⟩,by simp⟩
   ·rcases List.mem_cons.mp hy with rfl | hy
    ·exact c
    ·have:=ss.1 y hy;show s+d.length<y.1;omega
   ·rcases List.mem_cons.mp hp with rfl | hp
    ·exact ⟨h1,h2,h3⟩
    ·exact o.i p hp
  ·rename_i c
   split
   ·rename_i c'
    obtain ⟨i1,i2⟩:=BG ol h1 h2 h3;refine ⟨⟨List.pairwise_cons.mpr ⟨yN c' ss.1,i1.s⟩,fun p hp=>?_⟩,by simp only [List.length_cons];omega⟩;rcases List.mem_cons.mp hp with rfl | hp
    ·exact ix
    ·exact i1.i p hp
   ·rename_i c'
    rw [BQ];obtain ⟨i1,i2⟩:=BG (s:=min s x.1) (d:=d.take (x.1 - s)++(x.2++d.drop (x.1+x.2.length - s))) ol (by omega) (by simp only [List.length_append];omega) (by simp only [List.length_append,List.length_take,List.length_drop];omega);exact ⟨i1,by simp only [List.length_cons];omega⟩
noncomputable def Be (ps:List PcN):Nat:=(ps.map fun p=>p.2.length).sum
theorem zX (ps:List PcN):dP (ps.map cPc)=Be ps:=by
 unfold dP Be;rw [List.map_map];congr 1;refine List.map_congr_left fun p _=>?_;exact ba p.2
theorem yq {e:Nat}:∀{ps:List PcN} {n:Nat},kj n e ps→Be ps≤e - n∧ps.length≤Be ps
 | [],_,_=>⟨Nat.zero_le _,Nat.le_refl _⟩
 | p::l,n,o=>by
  have ss:=List.pairwise_cons.mp o.s;have ip:=o.i p (by simp);have ih:=yq (ps:=l) (n:=p.1+p.2.length) ⟨ss.2,fun q hq=>⟨Nat.le_of_lt (ss.1 q hq),(o.i q (by simp [hq])).2⟩⟩;have e1:Be (p::l)=p.2.length+Be l:=by unfold Be;rw [List.map_cons,List.sum_cons]
  rw [e1];simp only [List.length_cons];tm_at "ob"
theorem kj.tail {n e:Nat} {p:PcN} {l:List PcN} (o:kj n e (p::l)):kj (p.1+p.2.length+1) e l:=by
 have ss:=List.pairwise_cons.mp o.s;exact ⟨ss.2,fun q hq=>by have h1:=ss.1 q hq;have h2:=o.i q (by simp [hq]);tm_at "ob"⟩
theorem kj.up {n n' e:Nat} {l:List PcN} (o:kj n e l) (h:∀p∈l,n'≤p.1):kj n' e l:=⟨o.s,fun p hp=>⟨h p hp,(o.i p hp).2⟩⟩
noncomputable abbrev SS:=Sw53.Side
noncomputable def cO (x:Option Nat):Option Int:=x.map fun (n:Nat)=>(n:Int)
structure Rel (s:PS) (t:SS) (os:List Sw53.Out):Prop where
 out:s.out=os.map cPc
 now:s.now=t.now
 phase:s.phase=t.phase
 why:s.why=t.why
 me:s.me=t.me
 mine:s.mine=t.mine
 base:s.base=t.iss
 them:s.them=t.them
 theirs:s.theirs=t.theirs
 aK:s.aK=t.irs
 aB:s.aB=cI t.out
 last:s.last=(t.total:Int)+1
 closing:s.closing=t.closing
 first:s.first=t.una
 au:s.au=t.nxt
 top:s.top=t.top
 room:s.room=t.lim
 held:∃raw:List Rg,s.held=raw.map cP∧t.held=vw t.una raw∧kl t.una t.top raw
 wide:s.wide=t.cwnd
 slow:s.slow=t.slow
 same:s.same=t.dup
 bA:(t.mend=none∧s.bA=0)∨∃m:Nat,t.mend=some m∧s.bA=(m:Int)∧0<m
 anew:s.anew=t.anew
 jJ:s.jJ=t.mean8
 off:s.off=t.off4
 aZ:s.aZ=t.measured
 wait:s.wait=t.wait
 timed:(t.timed=none∧s.bp=0)∨∃p c:Nat,t.timed=some (p,c)∧s.bp=(p:Int)∧s.dU=(c:Int)∧0<p∧c≤t.now
 due:s.due=cO t.due
 tries:s.tries=t.tries
 wanted:s.wanted=t.next
 aH:s.aH=cI t.got
 pieces:s.pieces=t.pieces.map cPc
 cj:s.cj=cO t.endAt
 bg:s.bg=t.ended
 edge:s.edge=t.edge
 owed:s.owed=t.owed
 ack:t.owed≠2→(t.owed=1→∃d:Nat,t.ackDue=some d∧s.fi=some (d:Int))∧(t.owed≠1→t.ackDue=none)
 kept:s.kept=t.still
 heard:3≤t.phase→t.phase≤4→s.heard=t.heard∧s.fg=t.asks
 cf:t.ended=true→if t.closing=true then s.cB=t.firstEnd else s.cB=false
 fe:t.closing=true→t.ended=false→t.firstEnd=true
 cx:t.phase=5→s.aS=some (t.till:Int)
structure Inv (t:SS) (k:Nat):Prop where
 ph:t.phase≤6
 tot:t.total≤1073741824
 wH:t.out.length=t.total+1 - max t.una 1
 zC:t.out.length≤65536
 Dk:∀x∈t.out,x<256
 un:t.una≤t.nxt
 nt:t.nxt≤t.top
 tl:t.top≤t.total+2
 tc:t.top=t.total+2→t.closing=true
 early:t.phase≤3→t.una=0∧t.held=[]∧t.mend=none∧t.tries≤5
 t1:2≤t.phase→t.phase≤3→t.nxt=1∧t.top=1
 p5:t.phase=5→t.una=t.top
 cw:1≤t.cwnd∧t.cwnd≤2000000
 sl:1≤t.slow∧t.slow≤1048576
 ne:t.next≤t.edge+1
 ge:t.got.length+(t.edge - t.next)≤65536
 pc:kj t.next t.edge t.pieces
 ee:∀e,t.endAt=some e→e≤t.edge
 en:t.ended=true→∃e,t.endAt=some e∧e<t.next
 new:t.phase≤2→t.got=[]∧t.pieces=[]∧t.endAt=none∧t.ended=false∧t.edge=0∧t.owed=0∧t.asks=0
 tr:t.tries≤8
 ask:t.asks≤5
 ow:t.owed≤2
 hl:14*t.held.length≤k
noncomputable def U1 (t:SS):Prop:=4≤t.phase→t.phase≤5→1≤t.una
theorem lN (t:SS):t.known=true↔3≤t.phase∧t.phase≤5:=by
 unfold Sw53.Side.known;rw [Bool.and_eq_true,decide_eq_true_eq,decide_eq_true_eq]
theorem Bc (s:PS):gX s=true↔3≤s.phase∧s.phase≤5:=by
 unfold gX;split
 ·rename_i h;rw [decide_eq_true_eq];exact ⟨fun h'=>⟨h,h'⟩,fun h'=>h'.2⟩
 ·rename_i h;exact ⟨fun h'=>by simp at h',fun h'=>absurd h'.1 h⟩
theorem gW {s:PS} {t:SS} (h:s.phase=(t.phase:Int)):gX s=t.known:=by
 rw [Bool.eq_iff_iff,Bc,lN,h];omega
noncomputable def flN (b e r:Bool):Nat:=b.toNat+(2*e.toNat+8*r.toNat)
theorem Fv (b e r:Bool):Builtin.bitOr ((flN b e r:Nat):Int) 4=(((b.toNat+(2*e.toNat+(4*true.toNat+8*r.toNat))):Nat):Int):=by
 cases b <;> cases e <;> cases r <;> rfl
theorem Fw (b e r:Bool):((flN b e r:Nat):Int)=(((b.toNat+(2*e.toNat+(4*false.toNat+8*r.toNat))):Nat):Int):=by
 cases b <;> cases e <;> cases r <;> rfl
theorem xo (b p:Nat):numOf (b:Int) (p:Int)=(((b+p) % Sw53.M:Nat):Int):=by
 unfold numOf;show _=(((b+p) % 4294967296:Nat):Int);tm_at "ob"
theorem zQ {s:PS} {t:SS} (e1:s.wanted=t.next) (e2:s.aH=cI t.got) (hg:t.got.length≤65536):o7 s=((t.next+(Sw53.KEPT - t.got.length) / 64*64:Nat):Int):=by
 unfold o7;rw [e1,e2,ba];show _=((t.next+(65536 - t.got.length) / 64*64:Nat):Int);tm_at "ob"
theorem zr (t:SS):t.room=if t.edge+1400≤t.next+(Sw53.KEPT - t.got.length) / 64*64 then t.next+(Sw53.KEPT - t.got.length) / 64*64 else t.edge:=rfl
theorem sh {s:PS} {t:SS} (e1:s.wanted=t.next) (e2:s.aH=cI t.got) (e3:s.edge=t.edge) (hg:t.got.length≤65536):lQ s=decide (t.edge<t.room)∧dk s=s.nL (t.room:Int):=by
 have h:=zQ e1 e2 hg;unfold dk lQ;rw [h,e3,zr];generalize t.next+(Sw53.KEPT - t.got.length) / 64*64=n;by_cases c:t.edge+1400≤n
 ·rw [if_pos c]
  have c':(1400:Int)≤(n:Int) - (t.edge:Int):=by tm_at "ob"
  rw [decide_eq_true c',decide_eq_true (by tm_at "ob")];exact ⟨rfl,rfl⟩
 ·rw [if_neg c]
  have c':¬(1400:Int)≤(n:Int) - (t.edge:Int):=by tm_at "ob"
  rw [decide_eq_false c',decide_eq_false (by tm_at "ob")];refine ⟨rfl,?_⟩;rw [←e3];rfl
theorem room_in {t:SS} (h1:t.next≤t.edge+1) (h2:t.got.length+(t.edge - t.next)≤65536):t.edge≤t.room∧t.got.length+(t.room - t.next)≤65536:=by
 rw [zr];show t.edge≤(if t.edge+1400≤t.next+(65536 - t.got.length) / 64*64 then t.next+(65536 - t.got.length) / 64*64 else t.edge)∧_+((if t.edge+1400≤t.next+(65536 - t.got.length) / 64*64 then t.next+(65536 - t.got.length) / 64*64 else t.edge) - _)≤_;split <;> tm_at "ob"
noncomputable def BY (t:SS):SS:={ t with edge:=t.room,ackDue:=none,owed:=0 }
noncomputable def Er (t:SS) (place:Nat) (b e r:Bool) (data:List Nat):Sw53.Seg:=
 ⟨t.mine,t.theirs,(t.iss+place) % Sw53.M,(t.irs+t.next) % Sw53.M,b,e,true,r,(t.room - t.next) / 64,(t.pieces.take 4).map fun (p:Nat×Sw53.Bytes)=>((t.irs+p.1) % Sw53.M,(t.irs+p.1+p.2.length) % Sw53.M),data⟩
noncomputable def Jo (t:SS) (place:Nat) (b e r:Bool) (data:List Nat):Sw53.Seg:=
 ⟨t.mine,t.theirs,(t.iss+place) % Sw53.M,0,b,e,false,r,1024,[],data⟩
theorem cu {t:SS} (h:t.known=true) (place:Nat) (b e r:Bool) (data:List Nat):Sw53.says t place b e r data=(BY t,[(t.them,(Er t place b e r data).bytes t.me t.them)]):=by
 unfold Sw53.says;have k:(BY t).known=true:=h;simp only [h,if_true];unfold BY at k;simp only [k,if_true];rfl
theorem bR {t:SS} (h:t.known=false) (place:Nat) (b e r:Bool) (data:List Nat):Sw53.says t place b e r data=(t,[(t.them,(Jo t place b e r data).bytes t.me t.them)]):=by
 unfold Sw53.says;simp only [h,Bool.false_eq_true,if_false];rfl
theorem Inv.got {t:SS} {k:Nat} (I:Inv t k):t.got.length≤65536:=by have:=I.ge;tm_at "ob"
theorem Inv.Lv {t:SS} {k:Nat} (I:Inv t k) (h:t.known=true):Inv (BY t) k:=by
 have r:=room_in I.ne I.ge;have kn:=(lN t).mp h;exact { I with ne:=(by have:=I.ne;show t.next≤t.room+1;tm_at "ob"),ge:=r.2,pc:=I.pc.edge r.1,ee:=(fun e q=>Nat.le_trans (I.ee e q) r.1),new:=(fun (h:t.phase≤2)=>by tm_at "ob"),ow:=Nat.zero_le _ }
theorem CK {s:PS} {t:SS} {os:List Sw53.Out} {k:Nat} (R:Rel s t os) (I:Inv t k) (place:Nat) (b e r:Bool) (data:List Nat) :
  sZ s (wF s (place:Int) ((flN b e r:Nat):Int) (cI data))=aT (Er t place b e r data):=by
 unfold sZ wF aT;rw [(sh R.wanted R.aH R.edge I.got).2,R.mine,R.theirs,R.base,R.aK,R.wanted,R.pieces];show SG.mk _ _ _ _ _ _ _ _=SG.mk _ _ _ _ _ _ _ _;congr 1
 ·exact Fv b e r
 ·show max 0 ((t.room:Int) - (t.next:Int)) / 64=(((t.room - t.next) / 64:Nat):Int)
  tm_at "ob"
 ·show []++((t.pieces.map cPc).take 4).map (jZ (t.irs:Int))=((t.pieces.take 4).map fun (p:Nat×Sw53.Bytes)=>((t.irs+p.1) % Sw53.M,(t.irs+p.1+p.2.length) % Sw53.M)).map cP
  rw [List.nil_append,←List.map_take,List.map_map,List.map_map];refine List.map_congr_left fun p _=>?_;show (numOf (t.irs:Int) (p.1:Int),numOf (t.irs:Int) ((p.1:Int)+((cI p.2).length:Int)))=(_,_);rw [ba,xo,show ((p.1:Int)+(p.2.length:Int))=((p.1+p.2.length:Nat):Int) by tm_at "ob",xo,←Nat.add_assoc]
theorem GS {t:SS} {place:Nat} {b e r:Bool} {data:List Nat} (hd:data.length≤1400) (hb:∀x∈data,x<256):rG (Er t place b e r data):=
 ⟨by show ((t.pieces.take 4).map _).length≤4;rw [List.length_map,List.length_take];tm_at "ob",hd,hb⟩
theorem nN {s:PS} {t:SS} {os:List Sw53.Out} {k:Nat} (R:Rel s t os) (I:Inv t k) (place:Nat) (b e r:Bool) {data:List Nat} (hd:data.length≤1400) (hb:∀x∈data,x<256) :
  Rel (nO s (place:Int) ((flN b e r:Nat):Int) (cI data)) (Sw53.says t place b e r data).1 (os++(Sw53.says t place b e r data).2)∧Inv (Sw53.says t place b e r data).1 k:=by
 unfold nO;by_cases h:t.known=true
 ·rw [gW R.phase,if_pos h,cu h]
  refine ⟨?_,I.Lv h⟩;rw [CK R I];unfold sX;rw [(sh R.wanted R.aH R.edge I.got).2];unfold uU;have e0:s.out++[(s.them,uF (aT (Er t place b e r data)) s.me s.them)]=(os++[(t.them,(Er t place b e r data).bytes t.me t.them)]).map cPc:=by
   rw [R.out,R.them,R.me,uE (GS hd hb),List.map_append];rfl
  exact { R with out:=e0,edge:=rfl,owed:=rfl,ack:=(fun _=>⟨fun (h:(0:Nat)=1)=>by tm_at "oa",fun _=>rfl⟩),cx:=R.cx }
 ·have h':t.known=false:=Bool.not_eq_true _▸h
  rw [gW R.phase,if_neg h,bR h'];refine ⟨?_,I⟩;unfold uU;have e1:(wF s (place:Int) ((flN b e r:Nat):Int) (cI data)).gm 1024=aT (Jo t place b e r data):=by
   unfold wF aT SG.gm;rw [R.mine,R.theirs,R.base];show SG.mk _ _ _ _ _ _ _ _=SG.mk _ _ _ _ _ _ _ _;congr 1
   ·exact Fw b e r
  have e0:s.out++[(s.them,uF ((wF s (place:Int) ((flN b e r:Nat):Int) (cI data)).gm 1024) s.me s.them)]=(os++[(t.them,(Jo t place b e r data).bytes t.me t.them)]).map cPc:=by
   rw [e1,R.out,R.them,R.me,uE ⟨Nat.zero_le _,hd,hb⟩,List.map_append];rfl
  exact { R with out:=e0 }
theorem gy (t:SS) (place:Nat) (b e r:Bool) (data:List Nat):∃ed ad ow,(Sw53.says t place b e r data).1 = { t with edge:=ed,ackDue:=ad,owed:=ow }∧(ow=0∨(ow=t.owed∧t.known=false))∧(Sw53.says t place b e r data).2.length=1:=by
 by_cases h:t.known=true
 ·rw [cu h];exact ⟨_,_,_,rfl,.inl rfl,rfl⟩
 ·have h':t.known=false:=Bool.not_eq_true _▸h
  rw [bR h'];exact ⟨t.edge,t.ackDue,t.owed,rfl,.inr ⟨rfl,h'⟩,rfl⟩
theorem DM {s:PS} {t:SS} {os:List Sw53.Out} {k:Nat} (R:Rel s t os) (I:Inv t k) {place n:Nat} (h1:max t.una 1≤place) (h2:place+n≤t.total+1):cX s (place:Int) (n:Int)=cI (t.bytesAt place n):=by
 have o:=I.wH;unfold cX dj Sw53.Side.bytesAt;rw [R.last,R.aB,ba];have e1:(place:Int) - ((t.total:Int)+1 - (t.out.length:Int))=((place - max t.una 1:Nat):Int):=by tm_at "ob"
 rw [e1,show ((place - max t.una 1:Nat):Int)+(n:Int)=((place - max t.una 1+n:Nat):Int) by tm_at "ob",pA,pC,mP];rw [show place - max t.una 1+n - (place - max t.una 1)=n by tm_at "ob"]
theorem By {t:SS} {k:Nat} (I:Inv t k) (place n:Nat):(t.bytesAt place n).length≤n∧∀x∈t.bytesAt place n,x<256:=by
 unfold Sw53.Side.bytesAt;refine ⟨by rw [List.length_take];tm_at "ob",fun x hx=>I.Dk x (List.mem_of_mem_drop (List.mem_of_mem_take hx))⟩
theorem vH (s:PS):rn s=s.dE (match s.due with | none=>some (s.now+s.wait) | some d=>some d):=by
 unfold rn
 cases e:s.due with
 | none=>exact if_pos (show eC none=V.non from rfl)
 | some d=>exact (if_neg (by intro h;cases h)).trans (show s=s.dE (some d) by rw [←e];rfl)
structure yR (t:SS) (place n:Nat) (e:Bool):Prop where
 p:t.phase=4
 a:max t.una 1≤place
 b:place+n≤t.total+1
 c:n≤1400
 d:e=true→t.closing=true∧place+n=t.total+1
theorem oO (place n:Nat) (e:Bool):mQ (place:Int) (n:Int) e=((place+n+e.toNat:Nat):Int):=by
 unfold mQ
 cases e <;> rfl
theorem FC (e:Bool):KZ e=((flN false e false:Nat):Int):=by cases e <;> rfl
theorem xj {s:PS} {t:SS} {os:List Sw53.Out} {k:Nat} (R:Rel s t os) (I:Inv t k) {place n:Nat} {e:Bool} (h:yR t place n e) :
  Rel (dX s (place:Int) (n:Int) e) (Sw53.sends t place n e).1 (os++(Sw53.sends t place n e).2)∧Inv (Sw53.sends t place n e).1 k:=by
 have bi:=By I place n;obtain ⟨R1,I1⟩:=nN R I place false e false (Nat.le_trans bi.1 h.c) bi.2;obtain ⟨ed,ad,ow,e1,_,_⟩:=gy t place false e false (t.bytesAt place n);unfold dX Sw53.sends;rw [DM R I h.a h.b,FC,oO,R.top];dsimp only;generalize nO s (place:Int) ((flN false e false:Nat):Int) (cI (t.bytesAt place n))=s1 at R1;generalize Sw53.says t place false e false (t.bytesAt place n)=x at R1 I1 e1;obtain ⟨x1,x2⟩:=x;dsimp only at R1 I1 e1 ⊢;subst e1;have hp:=h.p;have hb:=h.b;have hd:=h.d;have tc:max t.top (place+n+e.toNat)=t.total+2→t.closing=true:=fun q=>by
  by_cases c:t.top=t.total+2
  ·exact I.tc c
  ·have:=I.tl
   have:e.toNat≤1:=Bool.toNat_le e;have:e=true:=by cases e;(simp at q;tm_at "ob");rfl
   exact (hd this).1
 have tl:max t.top (place+n+e.toNat)≤t.total+2:=by
  have:=I.tl;have:e.toNat≤1:=Bool.toNat_le e;tm_at "ob"
 have ti:jo (s1.dt (max (t.top:Int) ((place+n+e.toNat:Nat):Int))) (t.top:Int) (place:Int) ((place+n+e.toNat:Nat):Int)
   = (s1.dt ((max t.top (place+n+e.toNat):Nat):Int))∧¬(t.timed=none∧t.top≤place)∨
   jo (s1.dt (max (t.top:Int) ((place+n+e.toNat:Nat):Int))) (t.top:Int) (place:Int) ((place+n+e.toNat:Nat):Int)
   = iy (s1.dt ((max t.top (place+n+e.toNat):Nat):Int)) ((place+n+e.toNat:Nat):Int)∧t.timed=none∧t.top≤place:=by
  rw [show max (t.top:Int) ((place+n+e.toNat:Nat):Int)=((max t.top (place+n+e.toNat):Nat):Int) by tm_at "ob"];unfold jo;have q0:(s1.dt ((max t.top (place+n+e.toNat):Nat):Int)).bp=s1.bp:=rfl;rw [q0];rcases R1.timed with ⟨z1,z2⟩ | ⟨p,c,z1,z2,z3,z4,z5⟩
  ·rw [if_pos z2]
   by_cases c:t.top≤place
   ·rw [if_pos (by tm_at "ob")]
    exact .inr ⟨rfl,z1,c⟩
   ·rw [if_neg (by tm_at "ob")]
    exact .inl ⟨rfl,fun q=>c q.2⟩
  ·rw [if_neg (show ¬s1.bp=0 by tm_at "ob")]
   exact .inl ⟨rfl,fun q=>by rw [show t.timed=some (p,c) from z1] at q;cases q.1⟩
 have hh:∃raw:List Rg,s1.held=raw.map cP∧t.held=vw t.una raw∧kl t.una (max t.top (place+n+e.toNat)) raw:=by
  obtain ⟨raw,q1,q2,q3⟩:=R1.held;exact ⟨raw,q1,q2,q3.more (Nat.le_max_left ..)⟩
 have du:∀s2:PS,s2.due=s1.due→s2.now=s1.now→s2.wait=s1.wait→(match s2.due with | none=>some (s2.now+s2.wait) | some d=>some d)=cO (if t.due=none then some (t.now+t.wait) else t.due):=fun s2 q1 q2 q3=>by
  rw [q1,q2,q3,R1.due,R1.now,R1.wait];show (match cO t.due with | none=>some ((t.now:Int)+(t.wait:Int)) | some d=>some d)=_
  cases t.due with
  | none=>rfl
  | some d=>rfl
 refine ⟨?_,{ I1 with nt:=Nat.le_trans I.nt (Nat.le_max_left ..),tl:=tl,tc:=tc,t1:=fun (q:2≤t.phase) (q':t.phase≤3)=>by tm_at "ob",p5:=fun (q:t.phase=5)=>by tm_at "ob" }⟩;rw [vH];rcases ti with ⟨q,c⟩ | ⟨q,c⟩
 ·rw [q,if_neg c]
  exact { R1 with top:=rfl,held:=hh,due:=du (s1.dt ((max t.top (place+n+e.toNat):Nat):Int)) rfl rfl rfl }
 ·rw [q,if_pos c]
  have pos:0<place+n+e.toNat:=by have:=h.a;tm_at "ob"
  exact { R1 with top:=rfl,held:=hh,due:=du (iy (s1.dt ((max t.top (place+n+e.toNat):Nat):Int)) ((place+n+e.toNat:Nat):Int)) rfl rfl rfl,timed:=.inr ⟨_,_,rfl,rfl,R1.now,pos,Nat.le_refl _⟩ }
theorem mh (t:SS) (place n:Nat) (e:Bool):∃ed ad ow tp ti du,(Sw53.sends t place n e).1 = { t with edge:=ed,ackDue:=ad,owed:=ow,top:=tp,timed:=ti,due:=du }∧(Sw53.sends t place n e).2.length=1∧max t.top (place+n+e.toNat)=tp∧(ow=0∨(ow=t.owed∧t.known=false)):=by
 obtain ⟨ed,ad,ow,e1,h2,h3⟩:=gy t place false e false (t.bytesAt place n);unfold Sw53.sends;dsimp only;rw [e1];exact ⟨ed,ad,ow,_,_,_,rfl,h3,rfl,h2⟩
noncomputable def cnt (raw:List Rg) (g:Rg→Nat) (n:Nat):Nat:=raw.countP fun r=>decide (n<g r)
theorem rA {g:Rg→Nat} {n n':Nat} (h:n≤n') (raw:List Rg):cnt raw g n'≤cnt raw g n:=
 List.countP_mono_left fun r _ q=>decide_eq_true (Nat.lt_of_le_of_lt h (of_decide_eq_true q))
theorem FQ {g:Rg→Nat} {n n':Nat} (h:n≤n') {raw:List Rg} {r:Rg} (hr:r∈raw) (h1:n<g r) (h2:g r≤n'):cnt raw g n'<cnt raw g n:=by
 obtain ⟨a,b,rfl⟩:=List.append_of_mem hr;have e:∀m,cnt (a++r::b) g m=cnt a g m+(cnt b g m+if m<g r then 1 else 0):=fun m=>by
  unfold cnt;rw [List.countP_append,List.countP_cons];simp only [decide_eq_true_eq]
 have m1:=rA (g:=g) h a;have m2:=rA (g:=g) h b;rw [e,e,if_neg (by tm_at "ob"),if_pos h1];tm_at "ob"
noncomputable def mu (raw:List Rg) (lim last nxt:Nat):Nat:=
 cnt raw (fun r=>r.2) nxt+cnt raw (fun r=>r.1) nxt+(last+1 - nxt) / 1400+(if nxt<last then 1 else 0)+(if nxt≤last then 1 else 0)+(if nxt<lim then 1 else 0)
theorem E8 {raw:List Rg} {lim last n n':Nat} (h:n<n')
  (c:(∃r∈raw,n<r.2∧r.2≤n')∨(∃r∈raw,n<r.1∧r.1≤n')∨(n+1400≤n'∧n'≤last+1)∨(n<last∧last≤n')∨(n≤last∧last<n')∨(n<lim∧lim≤n')):mu raw lim last n'<mu raw lim last n:=by
 have m1:=rA (g:=fun r=>r.2) (Nat.le_of_lt h) raw;have m2:=rA (g:=fun r=>r.1) (Nat.le_of_lt h) raw;have m3:(last+1 - n') / 1400≤(last+1 - n) / 1400:=Nat.div_le_div_right (by tm_at "oa");have m4:(if n'<last then 1 else 0)≤(if n<last then 1 else 0):=by split <;> split <;> tm_at "oa"
 have m5:(if n'≤last then 1 else 0)≤(if n≤last then 1 else 0):=by split <;> split <;> tm_at "oa"
 have m6:(if n'<lim then 1 else 0)≤(if n<lim then 1 else 0):=by split <;> split <;> tm_at "oa"
 unfold mu;rcases c with ⟨r,hr,h1,h2⟩ | ⟨r,hr,h1,h2⟩ | ⟨h1,h2⟩ | ⟨h1,h2⟩ | ⟨h1,h2⟩ | ⟨h1,h2⟩
 ·have:=FQ (g:=fun r=>r.2) (Nat.le_of_lt h) hr h1 h2;tm_at "oa"
 ·have:=FQ (g:=fun r=>r.1) (Nat.le_of_lt h) hr h1 h2;tm_at "oa"
 ·tm_at "oa"
 ·have:(if n'<last then 1 else 0)<(if n<last then 1 else 0):=by rw [if_neg (by tm_at "oa"),if_pos h1];tm_at "oa"
  tm_at "oa"
 ·have:(if n'≤last then 1 else 0)<(if n≤last then 1 else 0):=by rw [if_neg (by tm_at "oa"),if_pos h1];tm_at "oa"
  tm_at "oa"
 ·have:(if n'<lim then 1 else 0)<(if n<lim then 1 else 0):=by rw [if_neg (by tm_at "oa"),if_pos h1];tm_at "oa"
  tm_at "oa"
theorem KG (raw:List Rg) (lim last n:Nat):mu raw lim last n≤2*raw.length+(last+1 - n) / 1400+3:=by
 have h1:cnt raw (fun r=>r.2) n≤raw.length:=List.countP_le_length;have h2:cnt raw (fun r=>r.1) n≤raw.length:=List.countP_le_length;unfold mu;split <;> split <;> split <;> tm_at "ob"
noncomputable def eO (t t':SS):Prop:=∃nx ed ad ow tp ti du,t' = { t with nxt:=nx,edge:=ed,ackDue:=ad,owed:=ow,top:=tp,timed:=ti,due:=du }∧(ow=t.owed∨ow=0)
theorem eO.refl (t:SS):eO t t:=⟨t.nxt,t.edge,t.ackDue,t.owed,t.top,t.timed,t.due,rfl,.inl rfl⟩
theorem eO.trans {t u v:SS} (h:eO t u) (g:eO u v):eO t v:=by
 obtain ⟨nx,ed,ad,ow,tp,ti,du,rfl,h1⟩:=h;obtain ⟨nx',ed',ad',ow',tp',ti',du',rfl,h2⟩:=g;refine ⟨nx',ed',ad',ow',tp',ti',du',rfl,?_⟩;rcases h2 with h2 | h2
 ·rw [show ow'=ow from h2];exact h1
 ·exact .inr h2
structure AF (k f:Nat) (s:PS) (t:SS) (os:List Sw53.Out) (x:Sw53.Does):Prop where
 l:wb f s
 r:Rel (mY f s) x.1 (os++x.2)
 i:Inv x.1 k
 s:eO t x.1
 n:x.2.length≤f
theorem lT {s:PS} {t:SS} {os:List Sw53.Out} {k:Nat} (R:Rel s t os) (I:Inv t k) (h:os.length≤1000000):jc s:=
 ⟨by rw [R.aB];exact IT I.Dk,by rw [R.out,List.length_map];exact h⟩
theorem rS {k f:Nat} {s:PS} {t:SS} {os:List Sw53.Out} (R:Rel s t os) (I:Inv t k) (h:os.length≤1000000) (e:bW s=(s,false)):AF k (f+1) s t os (Sw53.done t):=by
 refine ⟨⟨lT R I h,fun q=>by rw [e] at q;cases q⟩,?_,I,.refl t,Nat.zero_le _⟩;unfold mY;rw [e,if_neg Bool.false_ne_true];show Rel s t (os++[]);rw [List.append_nil];exact R
theorem x6 {k f:Nat} {s s':PS} {t t':SS} {os o:List Sw53.Out} {x:Sw53.Does} (R:Rel s t os) (I:Inv t k) (h:os.length≤1000000) (e:bW s=(s',true)) (P:AF k f s' t' (os++o) x) (sm:eO t t') (ho:o.length≤1):AF k (f+1) s t os (x.1,o++x.2):=by
 refine ⟨⟨lT R I h,fun _=>by rw [e];exact P.l⟩,?_,P.i,sm.trans P.s,by have:=P.n;simp only [List.length_append];tm_at "ob"⟩;unfold mY;rw [e,if_pos rfl,←List.append_assoc];exact P.r
theorem o6 (f:Nat) (s:SS):Sw53.push (f+1) s=if s.phase≠4 then Sw53.done s else match s.held.find? fun (h:Nat×Nat)=>decide (h.1≤s.nxt) && decide (s.nxt<h.2) with
  | some h=>Sw53.push f { s with nxt:=h.2 }
  | none =>
   if s.nxt<s.last then
    if min (min Sw53.MOST (s.last - s.nxt)) (min (min (s.una+s.cwnd) s.lim - s.nxt) (s.gap s.nxt))=0∨(min (min Sw53.MOST (s.last - s.nxt)) (min (min (s.una+s.cwnd) s.lim - s.nxt) (s.gap s.nxt))<Sw53.MOST∧s.una<s.nxt∧s.top≤s.nxt∧(s.closing && decide (s.nxt+min (min Sw53.MOST (s.last - s.nxt)) (min (min (s.una+s.cwnd) s.lim - s.nxt) (s.gap s.nxt))=s.last))=false) then Sw53.done s
    else (Sw53.sends s s.nxt (min (min Sw53.MOST (s.last - s.nxt)) (min (min (s.una+s.cwnd) s.lim - s.nxt) (s.gap s.nxt))) (s.closing && decide (s.nxt+min (min Sw53.MOST (s.last - s.nxt)) (min (min (s.una+s.cwnd) s.lim - s.nxt) (s.gap s.nxt))=s.last))).then_ fun (t:Sw53.Side)=>Sw53.push f { t with nxt:=s.nxt+min (min Sw53.MOST (s.last - s.nxt)) (min (min (s.una+s.cwnd) s.lim - s.nxt) (s.gap s.nxt))+(s.closing && decide (s.nxt+min (min Sw53.MOST (s.last - s.nxt)) (min (min (s.una+s.cwnd) s.lim - s.nxt) (s.gap s.nxt))=s.last)).toNat }
   else if s.nxt=s.last∧s.closing=true then (Sw53.sends s s.nxt 0 true).then_ fun (t:Sw53.Side)=>Sw53.push f { t with nxt:=s.nxt+1 }
   else Sw53.done s:=rfl
theorem zO {s:PS} {t:SS} {os:List Sw53.Out} {k n:Nat} (R:Rel s t os) (I:Inv t k) (h4:t.phase=4) (h1:t.una≤n) (h2:n≤t.top):Rel (s.aW (n:Int)) { t with nxt:=n } os∧Inv { t with nxt:=n } k:=
 ⟨{ R with au:=rfl },{ I with un:=h1,nt:=h2,t1:=fun (_:2≤t.phase) (q:t.phase≤3)=>by tm_at "ob" }⟩
theorem mi {s:PS} {t:SS} {os:List Sw53.Out} {k n:Nat} (R:Rel s t os) (I:Inv t k) (u1:1≤t.una) (h4:t.phase=4) (h1:t.nxt+n≤t.total+1) (h2:n≤1400) {e:Bool} (he:(t.closing && decide (t.nxt+n=t.last))=e) :
  Rel (cn s (n:Int)) { (Sw53.sends t t.nxt n e).1 with nxt:=t.nxt+n+e.toNat } (os++(Sw53.sends t t.nxt n e).2)∧Inv { (Sw53.sends t t.nxt n e).1 with nxt:=t.nxt+n+e.toNat } k∧eO t { (Sw53.sends t t.nxt n e).1 with nxt:=t.nxt+n+e.toNat }∧(Sw53.sends t t.nxt n e).2.length=1:=by
 have un:=I.un;have ok:yR t t.nxt n e:=⟨h4,by tm_at "ob",h1,h2,fun q=>by
  rw [←he,Bool.and_eq_true,decide_eq_true_eq] at q;exact ⟨q.1,by rw [q.2];show 1+t.total=_;tm_at "ob"⟩⟩
 obtain ⟨R1,I1⟩:=xj R I ok;obtain ⟨ed,ad,ow,tp,ti,du,e1,e2,e3,e4⟩:=mh t t.nxt n e;have ew:(s.closing && decide (s.au+(n:Int)=s.last))=e:=by
  rw [←he,R.closing,R.au,R.last];congr 1;exact decide_eq_decide.mpr ⟨fun q=>by show t.nxt+n=1+t.total;tm_at "ob",fun q=>by have q:t.nxt+n=1+t.total:=q;tm_at "ob"⟩
 have es:cn s (n:Int)=(dX s (t.nxt:Int) (n:Int) e).aW ((t.nxt+n+e.toNat:Nat):Int):=by
  unfold cn;dsimp only;rw [ew,R.au,oO]
 rw [es];have tp':tp=(Sw53.sends t t.nxt n e).1.top:=by rw [e1]
 have h4':(Sw53.sends t t.nxt n e).1.phase=4:=by rw [e1];exact h4
 have hu':(Sw53.sends t t.nxt n e).1.una=t.una:=by rw [e1]
 obtain ⟨R2,I2⟩:=zO R1 I1 h4' (n:=t.nxt+n+e.toNat) (by rw [hu'];tm_at "ob") (by rw [←tp',←e3];exact Nat.le_max_right ..);refine ⟨R2,I2,?_,e2⟩;rw [e1];refine ⟨_,ed,ad,ow,tp,ti,du,rfl,?_⟩;rcases e4 with e4 | e4
 ·exact .inr e4
 ·exact .inl e4.1
theorem Ce {a b c d n:Nat} (h:min (min a b) (min c d)=n):(n=a∨n=b∨n=c∨n=d)∧n≤a∧n≤b∧n≤c∧n≤d:=by tm_at "ob"
theorem mx0 (u x:Nat):max 0 ((u:Int) - (x:Int))=((u - x:Nat):Int):=by omega
theorem mn0 (u x:Nat):min (u:Int) (x:Int)=((min u x:Nat):Int):=by omega
theorem Ex (a b c d:Nat) (x:Nat):max 0 (min (min (min 1400 ((a:Int)+1 - (x:Int))) ((b:Int)+(c:Int) - (x:Int))) ((d:Int) - (x:Int)))=((min (min 1400 (a+1 - x)) (min (b+c) d - x):Nat):Int):=by
 rw [Int.max_min_distrib_left,Int.max_min_distrib_left,Int.max_min_distrib_left,show (a:Int)+1=((a+1:Nat):Int) from rfl,show (b:Int)+(c:Int)=((b+c:Nat):Int) from rfl,mx0,mx0,mx0,show max (0:Int) 1400=((1400:Nat):Int) from rfl,mn0,mn0,mn0,←Nat.sub_min_sub_right,Nat.min_assoc]
theorem qS {k:Nat}:∀(f:Nat) {s:PS} {t:SS} {os:List Sw53.Out},Rel s t os→Inv t k→t.phase=4→1≤t.una→os.length+f≤1000000→
  (∀raw:List Rg,s.held=raw.map cP→mu raw (min (t.una+t.cwnd) t.lim) (t.total+1) t.nxt<f)→AF k f s t os (Sw53.push f t)
 | 0,s,t,os,R,_,_,_,_,hm=>by
  obtain ⟨raw,e1,_,_⟩:=R.held;exact absurd (hm raw e1) (Nat.not_lt_zero _)
 | f+1,s,t,os,R,I,h4,u1,ho,hm=>by
  obtain ⟨raw,q1,q2,q3⟩:=R.held;have hm0:=hm raw q1;have un:=I.un;have ef:(t.held.find? fun (h:Nat×Nat)=>decide (h.1≤t.nxt) && decide (t.nxt<h.2))=(fnd raw t.nxt).map fun r=>(max t.una r.1,r.2):=by rw [q2,JN un]
  rw [o6,if_neg (fun q=>q h4),ef];have eb:gj s.held s.au=((bhN raw t.nxt:Nat):Int):=by rw [q1,R.au,tL]
  cases hf:fnd raw t.nxt with
  | some r =>
   obtain ⟨mr,r1,r2⟩:=Ah hf;have ir:=q3.i r mr;have eb':bhN raw t.nxt=r.2:=by unfold bhN;rw [hf]
   have es:bW s=(s.aW (r.2:Int),true):=by
    unfold bW;rw [eb,eb',R.au,if_pos (by tm_at "ob")]
   obtain ⟨R1,I1⟩:=zO R I h4 (n:=r.2) (by tm_at "ob") ir.2.2;have P:=qS f R1 I1 h4 u1 (by tm_at "ob") fun raw' q=>by
    have hm':=hm raw' q;have e:raw'.map cP=raw.map cP:=by rw [←q1];exact q.symm
    have rr:raw'=raw:=by
     refine List.map_inj_right (f:=cP) ?_ |>.mp e;intro x y hxy;have h1:(x.1:Int)=(y.1:Int):=congrArg Prod.fst hxy;have h2:(x.2:Int)=(y.2:Int):=congrArg Prod.snd hxy;exact Prod.ext (by tm_at "ob") (by tm_at "ob")
    have:=E8 (raw:=raw) (lim:=min (t.una+t.cwnd) t.lim) (last:=t.total+1) r2 (.inl ⟨r,mr,r2,Nat.le_refl _⟩);show mu raw' (min (t.una+t.cwnd) t.lim) (t.total+1) r.2<f;rw [rr];tm_at "ob"
   have:=x6 (o:=[]) (x:=Sw53.push f { t with nxt:=r.2 }) R I (by tm_at "ob") es (by rw [List.append_nil];exact P) ⟨r.2,t.edge,t.ackDue,t.owed,t.top,t.timed,t.due,rfl,.inl rfl⟩ (Nat.zero_le _);exact this
  | none =>
   have eb':bhN raw t.nxt=t.nxt:=by unfold bhN;rw [hf]
   show AF k (f+1) s t os (if t.nxt<t.last then _ else _);have hl:t.last=t.total+1:=Nat.add_comm ..;have eg:t.gap t.nxt=tJ (vw t.una raw) t.nxt:=by
    show tJ t.held t.nxt=_;rw [q2]
   by_cases cl:t.nxt<t.last
   ·rw [if_pos cl]
    generalize hn:min (min Sw53.MOST (t.last - t.nxt)) (min (min (t.una+t.cwnd) t.lim - t.nxt) (t.gap t.nxt))=n;have hM:Sw53.MOST=1400:=rfl;have hn':=hn;rw [hM,hl,eg] at hn';obtain ⟨hn1,hn2,hn3,hn4,hn5⟩:=Ce hn';have se:fA s=(n:Int):=by
     unfold fA;rw [q1,R.au,R.last,R.first,R.wide,R.room];rw [Ex,y8 q3 un hf (Nat.le_trans (Nat.min_le_left ..) (Nat.min_le_left ..)),Nat.min_assoc,hn']
    clear hn' hn hm0;have hb:iI s (n:Int)=decide (n<1400∧t.una<t.nxt∧t.top≤t.nxt∧(t.closing && decide (t.nxt+n=t.last))=false):=by
     unfold iI;rw [R.closing,R.au,R.last,R.first,R.top,hl]
     cases t.closing with
     | false =>
      rw [if_neg Bool.false_ne_true];by_cases d1:n<1400
      ·rw [if_pos (by tm_at "ob")]
       by_cases d2:t.una<t.nxt
       ·rw [if_pos (by tm_at "ob")]
        exact decide_eq_decide.mpr ⟨fun q=>⟨d1,d2,by tm_at "ob",rfl⟩,fun q=>by tm_at "ob"⟩
       ·rw [if_neg (by tm_at "ob")]
        exact (decide_eq_false fun q=>d2 q.2.1).symm
      ·rw [if_neg (by tm_at "ob")]
       exact (decide_eq_false fun q=>d1 q.1).symm
     | true =>
      rw [if_pos rfl];by_cases d0:t.nxt+n=t.total+1
      ·rw [if_pos (by tm_at "ob")]
       exact (decide_eq_false fun q=>by rw [decide_eq_true d0] at q;exact absurd q.2.2.2 (by decide)).symm
      ·rw [if_neg (by tm_at "ob"),decide_eq_false d0]
       by_cases d1:n<1400
       ·rw [if_pos (by tm_at "ob")]
        by_cases d2:t.una<t.nxt
        ·rw [if_pos (by tm_at "ob")]
         exact decide_eq_decide.mpr ⟨fun q=>⟨d1,d2,by tm_at "ob",rfl⟩,fun q=>by tm_at "ob"⟩
        ·rw [if_neg (by tm_at "ob")]
         exact (decide_eq_false fun q=>d2 q.2.1).symm
       ·rw [if_neg (by tm_at "ob")]
        exact (decide_eq_false fun q=>d1 q.1).symm
    have es0:bW s=if (n:Int)=0 then (s,false) else if iI s (n:Int)=true then (s,false) else (cn s (n:Int),true):=by
     unfold bW;rw [eb,eb',R.au,if_neg (by tm_at "ob"),R.last,if_pos (by tm_at "ob"),se]
    by_cases c0:n=0
    ·rw [if_pos (.inl c0)]
     exact rS R I (by tm_at "ob") (by rw [es0,if_pos (by tm_at "ob")])
    ·by_cases c1:n<1400∧t.una<t.nxt∧t.top≤t.nxt∧(t.closing && decide (t.nxt+n=t.last))=false
     ·rw [if_pos (.inr c1)]
      exact rS R I (by tm_at "ob") (by rw [es0,if_neg (by tm_at "ob"),hb,decide_eq_true c1,if_pos rfl])
     ·rw [if_neg (fun q=>q.elim c0 c1)]
      have es:bW s=(cn s (n:Int),true):=by rw [es0,if_neg (by tm_at "ob"),hb,decide_eq_false c1,if_neg Bool.false_ne_true]
      generalize he:(t.closing && decide (t.nxt+n=t.last))=e;obtain ⟨R1,I1,S1,L1⟩:=mi R I u1 h4 (n:=n) (by tm_at "ob") (by tm_at "ob") he;have S1':=S1;obtain ⟨nx,ed,ad,ow,tp,ti,du,e1,_⟩:=S1';have f1:({ (Sw53.sends t t.nxt n e).1 with nxt:=t.nxt+n+e.toNat }:SS).phase=4:=by rw [e1];exact h4
      have f2:({ (Sw53.sends t t.nxt n e).1 with nxt:=t.nxt+n+e.toNat }:SS).una=t.una:=by rw [e1]
      have f3:({ (Sw53.sends t t.nxt n e).1 with nxt:=t.nxt+n+e.toNat }:SS).cwnd=t.cwnd:=by rw [e1]
      have f4:({ (Sw53.sends t t.nxt n e).1 with nxt:=t.nxt+n+e.toNat }:SS).lim=t.lim:=by rw [e1]
      have f5:({ (Sw53.sends t t.nxt n e).1 with nxt:=t.nxt+n+e.toNat }:SS).total=t.total:=by rw [e1]
      have P:=qS f R1 I1 f1 (by rw [f2];exact u1) (by rw [List.length_append,L1];tm_at "ob") fun raw' q=>by
       obtain ⟨raw2,p1,p2,p3⟩:=R1.held;have hs:(cn s (n:Int)).held=s.held:=by
        unfold cn dX;dsimp only;show (rn _).held=_;rw [vH];show (jo _ _ _ _).held=_;unfold jo;have hsy:∀pl fl d,(nO s pl fl d).held=s.held:=fun pl fl d=>by
         unfold nO;split
         ·show (dk s).held=s.held
          exact (oU s).2.1
         ·rfl
        split
        ·split
         ·exact hsy _ _ _
         ·exact hsy _ _ _
        ·exact hsy _ _ _
       have hm':=hm raw' (by rw [←hs];exact q);rw [f2,f3,f4,f5];show mu raw' _ _ (t.nxt+n+e.toNat)<f;have rr:raw'=raw:=by
        have e:raw'.map cP=raw.map cP:=by rw [←q1,←hs];exact q.symm
        refine List.map_inj_right (f:=cP) ?_ |>.mp e;intro x y hxy;have h1:(x.1:Int)=(y.1:Int):=congrArg Prod.fst hxy;have h2:(x.2:Int)=(y.2:Int):=congrArg Prod.snd hxy;exact Prod.ext (by tm_at "ob") (by tm_at "ob")
       have hte:e.toNat≤1:=Bool.toNat_le e;have:=E8 (raw:=raw') (lim:=min (t.una+t.cwnd) t.lim) (last:=t.total+1) (n:=t.nxt) (n':=t.nxt+n+e.toNat) (by tm_at "ob") ?_
       ·tm_at "ob"
       ·by_cases g1:n=1400
        ·refine .inr (.inr (.inl ⟨by tm_at "ob",?_⟩))
         cases e with
         | false=>simp;tm_at "ob"
         | true =>
          rw [Bool.and_eq_true,decide_eq_true_eq] at he;have:=he.2;simp;tm_at "ob"
        ·by_cases g2:n=t.total+1 - t.nxt
         ·exact .inr (.inr (.inr (.inl ⟨by tm_at "ob",by tm_at "ob"⟩)))
         ·by_cases g3:n=min (t.una+t.cwnd) t.lim - t.nxt
          ·exact .inr (.inr (.inr (.inr (.inr ⟨by tm_at "ob",by tm_at "ob"⟩))))
          ·have g4:n=tJ (vw t.una raw) t.nxt:=by rcases hn1 with g | g | g | g;exact absurd g g1;exact absurd g g2;exact absurd g g3;exact g
           unfold tJ at g4
           cases hg:(vw t.una raw).find? fun (h:Nat×Nat)=>decide (t.nxt<h.1) with
           | none=>rw [hg] at g4;exact absurd g4 g1
           | some h =>
            rw [hg] at g4;have m:=List.mem_of_find?_eq_some hg;obtain ⟨z,hz,rfl⟩:=List.mem_map.mp m;have:=List.find?_some hg;simp only [decide_eq_true_eq] at this;dsimp only at g4;refine .inr (.inl ⟨z,by rw [rr];exact hz,?_,?_⟩)
            ·show t.nxt<z.1;tm_at "ob"
            ·show z.1≤t.nxt+n+e.toNat;tm_at "ob"
      have:=x6 R I (by tm_at "ob") es P S1 (by tm_at "ob");exact this
   ·rw [if_neg cl]
    have es0:bW s=if s.au=s.last then (if s.closing=true then (cn s 0,true) else (s,false)) else (s,false):=by
     unfold bW;rw [eb,eb',R.au,if_neg (by tm_at "ob"),R.last,if_neg (by tm_at "ob")]
    by_cases c:t.nxt=t.last∧t.closing=true
    ·rw [if_pos c]
     have es:bW s=(cn s ((0:Nat):Int),true):=by rw [es0,R.au,R.last,if_pos (by tm_at "ob"),R.closing,if_pos c.2];rfl
     obtain ⟨R1,I1,S1,L1⟩:=mi R I u1 h4 (n:=0) (by tm_at "ob") (by tm_at "ob") (e:=true) (by rw [c.2,decide_eq_true (show t.nxt+0=t.last from c.1)];rfl);have S1':=S1;obtain ⟨nx,ed,ad,ow,tp,ti,du,e1,_⟩:=S1';have f1:({ (Sw53.sends t t.nxt 0 true).1 with nxt:=t.nxt+0+true.toNat }:SS).phase=4:=by rw [e1];exact h4
     have f2:({ (Sw53.sends t t.nxt 0 true).1 with nxt:=t.nxt+0+true.toNat }:SS).una=t.una:=by rw [e1]
     have f3:({ (Sw53.sends t t.nxt 0 true).1 with nxt:=t.nxt+0+true.toNat }:SS).cwnd=t.cwnd:=by rw [e1]
     have f4:({ (Sw53.sends t t.nxt 0 true).1 with nxt:=t.nxt+0+true.toNat }:SS).lim=t.lim:=by rw [e1]
     have f5:({ (Sw53.sends t t.nxt 0 true).1 with nxt:=t.nxt+0+true.toNat }:SS).total=t.total:=by rw [e1]
     have P:=qS f R1 I1 f1 (by rw [f2];exact u1) (by rw [List.length_append,L1];tm_at "ob") fun raw' q=>by
      have hs:(cn s ((0:Nat):Int)).held=s.held:=by
       unfold cn dX;dsimp only;show (rn _).held=_;rw [vH];show (jo _ _ _ _).held=_;unfold jo;have hsy:∀pl fl d,(nO s pl fl d).held=s.held:=fun pl fl d=>by
        unfold nO;split
        ·show (dk s).held=s.held
         exact (oU s).2.1
        ·rfl
       split
       ·split
        ·exact hsy _ _ _
        ·exact hsy _ _ _
       ·exact hsy _ _ _
      have hm':=hm raw' (by rw [←hs];exact q);rw [f2,f3,f4,f5];show mu raw' _ _ (t.nxt+1)<f;have:=E8 (raw:=raw') (lim:=min (t.una+t.cwnd) t.lim) (last:=t.total+1) (n:=t.nxt) (n':=t.nxt+1) (by tm_at "ob") (.inr (.inr (.inr (.inr (.inl ⟨by tm_at "ob",by tm_at "ob"⟩)))));tm_at "ob"
     have:=x6 R I (by tm_at "ob") es P S1 (by tm_at "ob");exact this
    ·rw [if_neg c]
     refine rS R I (by tm_at "ob") ?_;rw [es0,R.au,R.last,R.closing];by_cases c1:(t.nxt:Int)=(t.total:Int)+1
     ·rw [if_pos c1,if_neg (fun q=>c ⟨by tm_at "ob",q⟩)]
     ·rw [if_neg c1]
theorem CD {s:PS} {t:SS} {os:List Sw53.Out} {k:Nat} (R:Rel s t os) (I:Inv t k) (h4:t.phase=4):Rel (xH s) (Sw53.watch t) os∧Inv (Sw53.watch t) k∧eO t (Sw53.watch t):=by
 have hl:t.last=t.total+1:=Nat.add_comm ..;unfold xH Sw53.watch;have ed:=R.due;by_cases c:t.phase=4∧t.due=none∧(t.una<t.top∨t.nxt<t.last)
 ·rw [if_pos c]
  have e0:s.due=none:=by rw [ed,c.2.1];rfl
  have e1:(if eC s.due=V.non then (if s.first<s.top then dH s else if s.au<s.last then dH s else s) else s)=dH s:=by
   rw [e0,if_pos (show eC none=V.non from rfl),R.first,R.top,R.au,R.last];by_cases c1:t.una<t.top
   ·rw [if_pos (by tm_at "oa")]
   ·rw [if_neg (by tm_at "oa"),if_pos (by have:=c.2.2;tm_at "oa")]
  rw [e1];refine ⟨{ R with due:=?_ },{ I with },⟨t.nxt,t.edge,t.ackDue,t.owed,t.top,t.timed,_,rfl,.inl rfl⟩⟩;show some (s.now+s.wait)=some (((t.now+t.wait:Nat)):Int);rw [R.now,R.wait];rfl
 ·rw [if_neg c]
  have e1:(if eC s.due=V.non then (if s.first<s.top then dH s else if s.au<s.last then dH s else s) else s)=s:=by
   rw [ed,R.first,R.top,R.au,R.last]
   cases hd:t.due with
   | none =>
    have c':¬(t.una<t.top∨t.nxt<t.last):=fun q=>c ⟨h4,hd,q⟩;rw [if_pos (show eC (cO none)=V.non from rfl),if_neg (by tm_at "oa"),if_neg (by tm_at "oa")]
   | some d=>rw [if_neg (by intro h;cases h)]
  rw [e1];exact ⟨R,I,.refl t⟩
theorem jk {s:PS} {t:SS} {os:List Sw53.Out} {k:Nat} (R:Rel s t os) (I:Inv t k) (u1:U1 t) (hk:k≤16000) (ho:os.length≤900000) :
  jM s∧Rel (bJ s) (Sw53.pushAll t).1 (os++(Sw53.pushAll t).2)∧Inv (Sw53.pushAll t).1 k∧eO t (Sw53.pushAll t).1∧(Sw53.pushAll t).2.length≤4096:=by
 have e0:Sw53.pushAll t=(Sw53.watch (Sw53.push 4096 t).1,(Sw53.push 4096 t).2++[]):=rfl;rw [e0,List.append_nil];unfold jM bJ;by_cases h4:t.phase=4
 ·have h4':s.phase=4:=by rw [R.phase,h4];rfl
  have hu:=u1 (by tm_at "oa") (by tm_at "oa");have P:=qS (k:=k) 4096 R I h4 hu (by tm_at "oa") fun raw q=>by
   obtain ⟨raw',q1,q2,q3⟩:=R.held;have l1:raw.length=raw'.length:=by rw [←List.length_map (f:=cP) (as:=raw),←q,q1,List.length_map]
   have l2:t.held.length=raw'.length:=by rw [q2];unfold vw;rw [List.length_map]
   have h1:=I.hl;have h2:=I.wH;have h3:=I.zC;have h5:=I.un;have:=KG raw (min (t.una+t.cwnd) t.lim) (t.total+1) t.nxt;tm_at "oa"
  obtain ⟨nx,ed,ad,ow,tp,ti,du,e1,_⟩:=id P.s;obtain ⟨W1,W2,W3⟩:=CD P.r P.i (by rw [e1];exact h4);rw [if_pos h4'];exact ⟨fun _=>P.l,W1,W2,P.s.trans W3,P.n⟩
 ·have h4':¬s.phase=4:=by rw [R.phase];tm_at "oa"
  have e1:Sw53.push 4096 t=Sw53.done t:=by rw [o6,if_pos h4]
  have e2:Sw53.watch t=t:=by unfold Sw53.watch;rw [if_neg (fun q=>h4 q.1)]
  rw [e1];show _∧Rel _ (Sw53.watch t) (os++[])∧Inv (Sw53.watch t) k∧eO t (Sw53.watch t)∧_;rw [e2,if_neg h4',List.append_nil];exact ⟨fun q=>absurd q h4',R,I,.refl t,Nat.zero_le _⟩
theorem AQ (t:SS) (ti:Option (Nat×Nat)) (place:Nat) (b e r:Bool) (data:List Nat):Sw53.says { t with timed:=ti } place b e r data=({ (Sw53.says t place b e r data).1 with timed:=ti },(Sw53.says t place b e r data).2):=by
 by_cases h:t.known=true
 ·rw [cu h,cu (t:={ t with timed:=ti }) h];rfl
 ·have h':t.known=false:=Bool.not_eq_true _▸h
  rw [bR h',bR (t:={ t with timed:=ti }) h'];rfl
theorem zp (t:SS) {place n:Nat} {e:Bool} (h:¬t.top≤place):Sw53.sends { t with timed:=none } place n e=({ (Sw53.sends t place n e).1 with timed:=none },(Sw53.sends t place n e).2):=by
 unfold Sw53.sends;dsimp only;rw [AQ,if_neg (fun q=>h q.2)];rfl
noncomputable def Cz (t t':SS):Prop:=t'.phase=t.phase∧t'.una=t.una∧t'.nxt=t.nxt∧t'.top=t.top∧t'.lim=t.lim
theorem zW {s:PS} {t:SS} {os:List Sw53.Out} (R:Rel s t os) {x:Nat} (hx:t.una≤x):my s (x:Int)=decide (¬((match t.held.getLast? with | some h=>h.1 | none=>t.una+1)≤x∨t.top≤x)):=by
 obtain ⟨raw,q1,q2,q3⟩:=R.held;unfold my;rw [q1,q2,R.top,R.first];unfold vw;rw [List.getLast?_map,List.getLast?_map];by_cases c:t.top≤x
 ·rw [if_pos (by tm_at "ob")]
  exact (decide_eq_false (fun q=>q (.inr c))).symm
 ·rw [if_neg (by tm_at "ob")]
  cases raw.getLast? with
  | none =>
   show decide ((x:Int)=(t.una:Int))=decide (¬(t.una+1≤x∨t.top≤x));exact decide_eq_decide.mpr ⟨fun _=>by tm_at "ob",fun _=>by tm_at "ob"⟩
  | some r =>
   show decide ((x:Int)<(r.1:Int))=decide (¬(max t.una r.1≤x∨t.top≤x));exact decide_eq_decide.mpr ⟨fun _=>by tm_at "ob",fun _=>by tm_at "ob"⟩
theorem C5 (s:SS):Sw53.resend s=if (match s.held.getLast? with | some h=>h.1 | none=>s.una+1)≤(s.held.foldl (fun (x:Nat) (h:Nat×Nat)=>if h.1≤x∧x<h.2 then h.2 else x) (max s.una s.anew))∨s.top≤(s.held.foldl (fun (x:Nat) (h:Nat×Nat)=>if h.1≤x∧x<h.2 then h.2 else x) (max s.una s.anew)) then Sw53.done s else
  (fun x=>(fun n=>(fun e=>(Sw53.sends { s with timed:=none } x n e).then_ fun (t:Sw53.Side)=>Sw53.done { t with anew:=x+n+e.toNat,timed:=none }) (s.closing && (decide (x+n=s.last) && decide (s.last<s.top)))) (min (min Sw53.MOST (s.last - x)) (min (s.top - x) (s.gap x)))) (s.held.foldl (fun (x:Nat) (h:Nat×Nat)=>if h.1≤x∧x<h.2 then h.2 else x) (max s.una s.anew)):=rfl
theorem vX {s:PS} {t:SS} {os:List Sw53.Out} {k:Nat} (R:Rel s t os) (I:Inv t k) (h4:t.phase=4) (u1:1≤t.una) (ho:os.length≤1000000) :
  lg s∧Rel (fV s) (Sw53.resend t).1 (os++(Sw53.resend t).2)∧Inv (Sw53.resend t).1 k∧Cz t (Sw53.resend t).1∧(Sw53.resend t).2.length≤1:=by
 refine ⟨⟨lT R I ho,by rw [R.top,R.last];have:=I.tl;tm_at "oa"⟩,?_⟩;obtain ⟨raw,q1,q2,q3⟩:=id R.held;have hx0:t.una≤max t.una t.anew:=Nat.le_max_left ..;have ex:t.held.foldl (fun (x:Nat) (h:Nat×Nat)=>if h.1≤x∧x<h.2 then h.2 else x) (max t.una t.anew)=bhN raw (max t.una t.anew):=by rw [q2];exact DG q3 hx0
 obtain ⟨fr,lx⟩:=FV (x:=max t.una t.anew) q3;have eX:fK s=((bhN raw (max t.una t.anew):Nat):Int):=by
  unfold fK;rw [q1,R.first,R.anew,show max (t.una:Int) (t.anew:Int)=((max t.una t.anew:Nat):Int) by tm_at "oa",tL]
 rw [C5,ex];unfold fV;rw [eX];generalize bhN raw (max t.una t.anew)=x at fr lx;have hx:t.una≤x:=Nat.le_trans hx0 lx;rw [zW R hx];by_cases c:(match t.held.getLast? with | some h=>h.1 | none=>t.una+1)≤x∨t.top≤x
 ·rw [if_pos c,decide_eq_false (fun q=>q c),if_neg Bool.false_ne_true]
  show Rel s t (os++[])∧_;rw [List.append_nil];exact ⟨R,I,⟨rfl,rfl,rfl,rfl,rfl⟩,Nat.zero_le _⟩
 ·rw [if_neg c,decide_eq_true c,if_pos rfl]
  dsimp only;have ct:¬t.top≤x:=fun q=>c (.inr q);have hl:t.last=t.total+1:=Nat.add_comm ..;have tl:=I.tl;have eg:t.gap x=tJ (vw t.una raw) x:=by
   show tJ t.held x=_;rw [q2]
  generalize hn:min (min Sw53.MOST (t.last - x)) (min (t.top - x) (t.gap x))=n;have hM:Sw53.MOST=1400:=rfl;have hn':=hn;rw [hM,hl,eg] at hn';obtain ⟨_,hn2,hn3,hn4,hn5⟩:=Ce hn';have eN:vY s (x:Int)=(n:Int):=by
   unfold vY;rw [q1,R.last,R.top];have e1:min (min 1400 ((t.total:Int)+1 - (x:Int))) ((t.top:Int) - (x:Int))=((min (min 1400 (t.total+1 - x)) (t.top - x):Nat):Int):=by tm_at "oa"
   rw [e1,y8 q3 hx fr (Nat.le_trans (Nat.min_le_left ..) (Nat.min_le_left ..)),Nat.min_assoc,hn']
  clear hn' hn;have eE:xF s (x:Int)=(t.closing && (decide (x+n=t.last) && decide (t.last<t.top))):=by
   unfold xF;rw [eN,R.closing,R.last,R.top,hl];congr 2
   ·exact decide_eq_decide.mpr ⟨fun _=>by tm_at "oa",fun _=>by tm_at "oa"⟩
   ·exact decide_eq_decide.mpr ⟨fun _=>by tm_at "oa",fun _=>by tm_at "oa"⟩
  rw [eN,eE];generalize he:(t.closing && (decide (x+n=t.last) && decide (t.last<t.top)))=e;have hee:e=true→t.closing=true∧x+n=t.total+1∧t.total+1<t.top:=fun q=>by
   rw [←he,Bool.and_eq_true,Bool.and_eq_true,decide_eq_true_eq,decide_eq_true_eq,hl] at q;exact q
  have ok:yR t x n e:=⟨h4,by tm_at "oa",by tm_at "oa",hn2,fun q=>⟨(hee q).1,(hee q).2.1⟩⟩;obtain ⟨R1,I1⟩:=xj R I ok;obtain ⟨ed,ad,ow,tp,ti,du,e1,e2,e3,e4⟩:=mh t x n e;rw [zp t ct,oO];have tpe:tp=t.top:=by
   rw [←e3];have:x+n+e.toNat≤t.top:=by
    cases hE:e with
    | false=>simp;tm_at "ob"
    | true=>have:=hee hE;simp;tm_at "ob"
   tm_at "oa"
  show Rel _ { (Sw53.sends t x n e).1 with timed:=none,anew:=x+n+e.toNat } (os++((Sw53.sends t x n e).2++[]))∧Inv { (Sw53.sends t x n e).1 with timed:=none,anew:=x+n+e.toNat } k∧Cz t { (Sw53.sends t x n e).1 with timed:=none,anew:=x+n+e.toNat }∧((Sw53.sends t x n e).2++[]).length≤1;rw [List.append_nil];generalize Sw53.sends t x n e=y at R1 I1 e1 e2 ⊢;generalize dX s (x:Int) (n:Int) e=s1 at R1 ⊢;refine ⟨{ R1 with anew:=rfl,timed:=.inl ⟨rfl,rfl⟩ },{ I1 with },?_,by tm_at "oa"⟩;rw [e1];exact ⟨rfl,rfl,rfl,tpe,rfl⟩
theorem jI (t:SS) (a:Nat):∃m o b w ti,Sw53.measure t a = { t with mean8:=m,off4:=o,measured:=b,wait:=w,timed:=ti }:=by
 unfold Sw53.measure;split
 ·exact ⟨t.mean8,t.off4,t.measured,t.wait,t.timed,rfl⟩
 ·split
  ·exact ⟨t.mean8,t.off4,t.measured,t.wait,t.timed,rfl⟩
  ·exact ⟨_,_,_,_,_,rfl⟩
theorem KJ {s:PS} {t:SS} {os:List Sw53.Out} (R:Rel s t os) {mv ov wv:Int} {m o w:Nat} (e1:ov=(o:Int)) (e2:mv=(m:Int)) (e3:wv=(w:Int)) (hm:s.aZ=true):Rel (bG (((s.jE ov).gH mv).eL wv)) { t with mean8:=m,off4:=o,measured:=true,wait:=w,timed:=none } os:=by
 dsimp only [bG,PS.eL,PS.gH,PS.jE];exact { R with off:=e1,jJ:=e2,aZ:=hm,wait:=e3,timed:=.inl ⟨rfl,rfl⟩ }
theorem KI {s:PS} {t:SS} {os:List Sw53.Out} (R:Rel s t os) {mv ov wv:Int} {m o w:Nat} (e1:ov=(o:Int)) (e2:mv=(m:Int)) (e3:wv=(w:Int)):Rel (bG ((((s.dG true).gH mv).jE ov).eL wv)) { t with mean8:=m,off4:=o,measured:=true,wait:=w,timed:=none } os:=by
 dsimp only [bG,PS.eL,PS.gH,PS.jE,PS.dG];exact { R with off:=e1,jJ:=e2,aZ:=rfl,wait:=e3,timed:=.inl ⟨rfl,rfl⟩ }
theorem KH {t:SS} {k:Nat} (I:Inv t k) (m o w:Nat):Inv { t with mean8:=m,off4:=o,measured:=true,wait:=w,timed:=none } k:={ I with }
theorem tG {s:PS} {t:SS} {os:List Sw53.Out} {k:Nat} (R:Rel s t os) (I:Inv t k) (a:Nat):Rel (dO s (a:Int)) (Sw53.measure t a) os∧Inv (Sw53.measure t a) k:=by
 unfold dO Sw53.measure;rcases R.timed with ⟨z1,z2⟩ | ⟨p,c,z1,z2,z3,z4,z5⟩
 ·rw [z1,if_pos z2]
  exact ⟨R,I⟩
 ·rw [z1,if_neg (by tm_at "ob"),z2,z3,R.now]
  dsimp only;by_cases h:a<p
  ·rw [if_pos h,if_pos (by tm_at "ob")]
   exact ⟨R,I⟩
  ·rw [if_neg h,if_neg (by tm_at "ob"),show (t.now:Int) - (c:Int)=((t.now - c:Nat):Int) by tm_at "ob"]
   generalize t.now - c=r;refine ⟨?_,KH I _ _ _⟩;unfold Fc D6 zV;by_cases hm:t.measured=true
   ·have hm':s.aZ=true:=by rw [R.aZ];exact hm
    have e1:s.off+(Iw ((r:Int) - s.jJ / 8) - s.off / 4)=((t.off4 - t.off4 / 4+((t.mean8 / 8 - r)+(r - t.mean8 / 8)):Nat):Int):=by
     rw [R.off,R.jJ];unfold Iw;split <;> tm_at "ob"
    have e2:s.jJ+((r:Int) - s.jJ / 8)=((t.mean8 - t.mean8 / 8+r:Nat):Int):=by rw [R.jJ];tm_at "ob"
    rw [if_pos hm',if_pos hm,if_pos hm];refine KJ R e1 e2 ?_ hm';show min 60000 (max 200 ((s.jJ+((r:Int) - s.jJ / 8)) / 8+max 1 (s.off+(Iw ((r:Int) - s.jJ / 8) - s.off / 4))))=_;rw [e1,e2];generalize t.mean8 - t.mean8 / 8+r=x;generalize t.off4 - t.off4 / 4+((t.mean8 / 8 - r)+(r - t.mean8 / 8))=y;tm_at "ob"
   ·have hm':¬s.aZ=true:=by rw [R.aZ];exact hm
    rw [if_neg hm',if_neg hm,if_neg hm];refine KI R (by tm_at "ob") (by tm_at "ob") ?_;show min 60000 (max 200 (8*(r:Int) / 8+max 1 (2*(r:Int))))=_;tm_at "ob"
noncomputable def wW (t:SS) (a:Nat):SS:={ t with out:=t.out.drop (min a t.last - max t.una 1),una:=a,nxt:=max t.nxt a,held:=Sw53.behind a t.held }
theorem Dv {s:PS} {t:SS} {os:List Sw53.Out} {k:Nat} (R:Rel s t os) (I:Inv t k) (h4:t.phase=4) {a:Nat} (h1:t.una<a) (h2:a≤t.top):Rel (letGo s (a:Int)) (wW t a) os∧Inv (wW t a) k:=by
 obtain ⟨raw,q1,q2,q3⟩:=R.held;have hl:t.last=t.total+1:=Nat.add_comm ..;have ol:=I.wH;have tl:=I.tl;have eu:eS s.aB (some ((a:Int) - dj s)) none=cI (t.out.drop (min a t.last - max t.una 1)):=by
  unfold dj;rw [R.aB,R.last,ba];have e1:(a:Int) - ((t.total:Int)+1 - (t.out.length:Int))=((a - max t.una 1:Nat):Int):=by tm_at "ob"
  rw [e1,iR,←mP,hl];by_cases c:a≤t.total+1
  ·rw [Nat.min_eq_left c]
  ·rw [List.drop_of_length_le (by tm_at "ob"),List.drop_of_length_le (by omega)]
 have eh:s.held.filter (fun r=>decide ((a:Int)<r.2))=(raw.filter fun r=>decide (a<r.2)).map cP:=by rw [q1,Bn]
 have ev:Sw53.behind a t.held=vw a (raw.filter fun r=>decide (a<r.2)):=by rw [q2,DO (Nat.le_of_lt h1)]
 have en:max s.au (a:Int)=((max t.nxt a:Nat):Int):=by rw [R.au];omega
 have g1:(t.out.drop (min a t.last - max t.una 1)).length=t.total+1 - max a 1:=by rw [List.length_drop,hl];omega
 have g2:(t.out.drop (min a t.last - max t.una 1)).length≤65536:=by rw [List.length_drop];have:=I.zC;tm_at "ob"
 have g3:max t.nxt a≤t.top:=by have:=I.nt;omega
 have g4:14*(Sw53.behind a t.held).length≤k:=by
  have h3:=I.hl;have h5:(Sw53.behind a t.held).length≤t.held.length:=List.length_filterMap_le ..;tm_at "ob"
 dsimp only [letGo,wW,PS.jh,PS.jN,PS.aW,PS.gI];exact ⟨{ R with aB:=eu,first:=rfl,au:=en,held:=⟨_,eh,ev,q3.cut⟩ },{ I with wH:=g1,zC:=g2,Dk:=fun x hx=>I.Dk x (List.mem_of_mem_drop hx),un:=Nat.le_max_right ..,nt:=g3,early:=fun (q:t.phase≤3)=>by omega,t1:=fun (_:2≤t.phase) (q:t.phase≤3)=>by omega,p5:=fun (q:t.phase=5)=>by tm_at "ob",hl:=g4 }⟩
noncomputable def nz (t:SS) (a:Nat):SS:={ wW (Sw53.measure t a) a with due:=if a<t.top then some (t.now+(Sw53.measure t a).wait) else none }
theorem HY {s:PS} {t:SS} {os:List Sw53.Out} {k:Nat} (R:Rel s t os) (I:Inv t k) {c:Prop} [Decidable c] {dv:Option Nat} (e:dv=if c then some (t.now+t.wait) else none):Rel (if c then dH s else s.dE none) { t with due:=dv } os∧Inv { t with due:=dv } k:=by
 by_cases h:c
 ·rw [if_pos h] at e ⊢
  have e':some (s.now+s.wait)=cO dv:=by rw [e,R.now,R.wait];rfl
  dsimp only [dH];exact ⟨{ R with due:=e' },{ I with }⟩
 ·rw [if_neg h] at e ⊢
  subst e;dsimp only [PS.dE];exact ⟨{ R with due:=rfl },{ I with }⟩
theorem tF {s:PS} {t:SS} {os:List Sw53.Out} {k:Nat} (R:Rel s t os) (I:Inv t k) (h4:t.phase=4) {a:Nat} (h1:t.una<a) (h2:a≤t.top):Rel (iZ s (a:Int)) (nz t a) os∧Inv (nz t a) k:=by
 obtain ⟨R1,I1⟩:=tG R I a;obtain ⟨m,o,b,w,ti,e⟩:=jI t a;have f1:(Sw53.measure t a).phase=t.phase:=by rw [e]
 have f2:(Sw53.measure t a).una=t.una:=by rw [e]
 have f3:(Sw53.measure t a).top=t.top:=by rw [e]
 have f4:(Sw53.measure t a).now=t.now:=by rw [e]
 obtain ⟨R2,I2⟩:=Dv R1 I1 (f1.trans h4) (f2.symm▸h1) (f3.symm▸h2);have g3:(wW (Sw53.measure t a) a).top=t.top:=f3;have g4:(wW (Sw53.measure t a) a).now=t.now:=f4;have g5:(wW (Sw53.measure t a) a).wait=(Sw53.measure t a).wait:=rfl;unfold nz iZ mx;generalize wW (Sw53.measure t a) a=u at R2 I2 g3 g4 g5 ⊢;generalize (Sw53.measure t a).wait=wt at g5 ⊢;generalize letGo (dO s (a:Int)) (a:Int)=s2 at R2 ⊢;rw [R2.top,g3];refine HY R2 I2 (c:=(a:Int)<(t.top:Int)) ?_;rw [g4,g5];by_cases c:a<t.top
 ·rw [if_pos c,if_pos (by tm_at "ob")]
 ·rw [if_neg c,if_neg (by tm_at "ob")]
theorem Dh {s:PS} {t:SS} {os:List Sw53.Out} {k:Nat} (R:Rel s t os) (I:Inv t k) (n:Nat) (hm:t.mend=none):Rel (eP s (n:Int)) { t with cwnd:=t.grown n,dup:=0 } os∧Inv { t with cwnd:=t.grown n,dup:=0 } k:=by
 have m0:s.bA=0:=by
  rcases R.bA with ⟨_,h⟩ | ⟨m,h,_⟩
  ·exact h
  ·rw [hm] at h;cases h
 have cw:=I.cw;unfold eP;rw [if_pos m0];dsimp only;have eg:t.grown n=min 1048576 (if t.cwnd<t.slow then t.cwnd+min n 1400 else t.cwnd+max 1 (1400*1400 / t.cwnd)):=rfl;have gi:1≤t.grown n∧t.grown n≤2000000:=by rw [eg];split <;> tm_at "oa"
 have ew:(if s.wide<s.slow then widen (s.set_same 0) (min (n:Int) 1400) else widen (s.set_same 0) (max 1 (1400*1400 / s.wide)))=(s.set_same 0).bI ((t.grown n:Nat):Int):=by
  rw [R.wide,R.slow,eg];by_cases c:t.cwnd<t.slow
  ·rw [if_pos (by tm_at "oa"),if_pos c]
   unfold widen PS.bI;have:min 1048576 ((s.set_same 0).wide+min (n:Int) 1400)=((min 1048576 (t.cwnd+min n 1400):Nat):Int):=by
    rw [show (s.set_same 0).wide=(t.cwnd:Int) from R.wide];tm_at "oa"
   rw [this]
  ·rw [if_neg (by tm_at "oa"),if_neg c]
   unfold widen PS.bI;have hd:(1400*1400:Int) / (t.cwnd:Int)=((1400*1400 / t.cwnd:Nat):Int):=by simp
   have:min 1048576 ((s.set_same 0).wide+max 1 (1400*1400 / (t.cwnd:Int)))=((min 1048576 (t.cwnd+max 1 (1400*1400 / t.cwnd)):Nat):Int):=by
    rw [show (s.set_same 0).wide=(t.cwnd:Int) from R.wide,hd];generalize 1400*1400 / t.cwnd=q;tm_at "oa"
   rw [this]
 rw [show (s.set_same 0).wide=s.wide from rfl,show (s.set_same 0).slow=s.slow from rfl,ew];generalize t.grown n=gg at gi;dsimp only [PS.set_same,PS.bI];exact ⟨{ R with wide:=rfl,same:=rfl },{ I with cw:=gi }⟩
theorem Di {s:PS} {t:SS} {os:List Sw53.Out} {k m:Nat} (R:Rel s t os) (I:Inv t k) (n:Nat) {v:Nat} (hv:t.slow=v) (hm:t.mend=some m) (h:m≤t.una):Rel (eP s (n:Int)) { t with mend:=none,cwnd:=v,dup:=0 } os∧Inv { t with mend:=none,cwnd:=v,dup:=0 } k:=by
 subst hv;have m0:s.bA=(m:Int)∧0<m:=by
  rcases R.bA with ⟨h,_⟩ | ⟨m',h,h1,h2⟩
  ·rw [hm] at h;cases h
  ·rw [hm] at h;injection h with h;subst h;exact ⟨h1,h2⟩
 unfold eP;rw [if_neg (by tm_at "ob"),if_pos (by rw [R.first];tm_at "ob")];have sl:=I.sl;dsimp only [PS.set_same,PS.bI,PS.cE];exact ⟨{ R with wide:=R.slow,same:=rfl,bA:=.inl ⟨rfl,rfl⟩ },{ I with cw:=⟨sl.1,by show t.slow≤2000000;tm_at "ob"⟩,early:=fun q=>⟨(I.early q).1,(I.early q).2.1,rfl,(I.early q).2.2.2⟩ }⟩
noncomputable def E9 (t:SS) (n a:Nat):SS:={ t with cwnd:=min 1048576 (max Sw53.MOST (t.cwnd+Sw53.MOST - min n t.cwnd)),anew:=max t.anew a }
theorem EJ {s:PS} {t:SS} {os:List Sw53.Out} {k m:Nat} (R:Rel s t os) (I:Inv t k) (n:Nat) (hm:t.mend=some m) (h:¬m≤t.una):eP s (n:Int)=fV (jF s (n:Int))∧Rel (jF s (n:Int)) (E9 t n t.una) os∧Inv (E9 t n t.una) k:=by
 have m0:s.bA=(m:Int)∧0<m:=by
  rcases R.bA with ⟨h,_⟩ | ⟨m',h,h1,h2⟩
  ·rw [hm] at h;cases h
  ·rw [hm] at h;injection h with h;subst h;exact ⟨h1,h2⟩
 unfold eP;rw [if_neg (by omega),if_neg (by rw [R.first];omega)];refine ⟨rfl,?_⟩;have ew:min 1048576 (max 0 (s.wide - (n:Int))+1400)=((min 1048576 (max 1400 (t.cwnd+1400 - min n t.cwnd)):Nat):Int):=by rw [R.wide];omega
 have ea:max s.anew s.first=((max t.anew t.una:Nat):Int):=by rw [R.anew,R.first];omega
 have cw:1≤min 1048576 (max 1400 (t.cwnd+1400 - min n t.cwnd))∧min 1048576 (max 1400 (t.cwnd+1400 - min n t.cwnd))≤2000000:=by omega
 dsimp only [jF,E9,widen,PS.bI,PS.cR];exact ⟨{ R with wide:=ew,anew:=ea },{ I with cw:=cw }⟩
theorem Cu {s:PS} {t:SS} {os:List Sw53.Out} {k:Nat} (R:Rel s t os) (I:Inv t k) (ho:os.length≤1000000):lg s:=⟨lT R I ho,by rw [R.top,R.last];have:=I.tl;tm_at "oa"⟩
theorem lg.as {s s':PS} (h:lg s) (e1:s'.aB=s.aB) (e2:s'.out=s.out) (e3:s'.top=s.top) (e4:s'.last=s.last):lg s':=⟨⟨by rw [e1];exact h.b.ub,by rw [e2];exact h.b.ol⟩,by rw [e3,e4];exact h.t⟩
theorem CC {s:PS} {t:SS} {os:List Sw53.Out} {k:Nat} (R:Rel s t os) (I:Inv t k):Rel (widen s 1400) { t with cwnd:=min 1048576 (t.cwnd+Sw53.MOST) } os∧Inv { t with cwnd:=min 1048576 (t.cwnd+Sw53.MOST) } k:=by
 have ew:min 1048576 (s.wide+1400)=((min 1048576 (t.cwnd+1400):Nat):Int):=by rw [R.wide];tm_at "ob"
 have cw:1≤min 1048576 (t.cwnd+1400)∧min 1048576 (t.cwnd+1400)≤2000000:=by have:=I.cw;tm_at "ob"
 dsimp only [widen];exact ⟨{ R with wide:=ew },{ I with cw:=cw }⟩
theorem Fb {s:PS} {t:SS} {os:List Sw53.Out} {k:Nat} (R:Rel s t os) (I:Inv t k) (h4:t.phase=4) (u1:1≤t.una) (hd:t.dup+1=3) (ht:t.una<t.top) :
  Rel (gS (s.set_same (s.same+1))) { t with dup:=3,slow:=max ((t.top - t.una) / 2) 2800,cwnd:=max ((t.top - t.una) / 2) 2800+4200,mend:=some t.top,anew:=t.una } os∧Inv { t with dup:=3,slow:=max ((t.top - t.una) / 2) 2800,cwnd:=max ((t.top - t.una) / 2) 2800+4200,mend:=some t.top,anew:=t.una } k:=by
 have es:max 2800 ((s.top - s.first) / 2)=((max ((t.top - t.una) / 2) 2800:Nat):Int):=by rw [R.top,R.first];tm_at "ob"
 have ew:max 2800 ((s.top - s.first) / 2)+3*1400=((max ((t.top - t.una) / 2) 2800+4200:Nat):Int):=by rw [es];tm_at "ob"
 have ed:s.same+1=((3:Nat):Int):=by rw [R.same];tm_at "ob"
 have b1:=I.wH;have b2:=I.zC;have b3:=I.tl;have sl:1≤max ((t.top - t.una) / 2) 2800∧max ((t.top - t.una) / 2) 2800≤1048576:=by tm_at "ob"
 have cw:1≤max ((t.top - t.una) / 2) 2800+4200∧max ((t.top - t.una) / 2) 2800+4200≤2000000:=by tm_at "ob"
 dsimp only [gS,eQ,PS.set_same,PS.bI,PS.cE,PS.cR];exact ⟨{ R with same:=ed,slow:=es,wide:=ew,bA:=.inr ⟨t.top,rfl,R.top,by tm_at "ob"⟩,anew:=R.first },{ I with sl:=sl,cw:=cw,early:=fun (q:t.phase≤3)=>by tm_at "ob" }⟩
theorem Gv (t:SS) {a:Nat} (quiet:Bool) (h:t.una<a):Sw53.acks t a quiet=match t.mend with
  | some r=>if r≤a then Sw53.done { nz t a with mend:=none,cwnd:=t.slow,dup:=0 } else Sw53.resend (E9 (nz t a) (a - t.una) a)
  | none=>Sw53.done { nz t a with cwnd:=t.grown (a - t.una),dup:=0 }:=by
 obtain ⟨m,o,b,w,ti,e⟩:=jI t a;unfold Sw53.acks;rw [if_pos h];unfold nz wW E9;dsimp only;rw [e]
 cases t.mend <;> rfl
theorem DW (t:SS) (a:Nat):(nz t a).mend=t.mend∧(nz t a).cwnd=t.cwnd∧(nz t a).slow=t.slow∧(nz t a).una=a∧(nz t a).phase=t.phase:=by
 obtain ⟨m,o,b,w,ti,e⟩:=jI t a;unfold nz wW;rw [e];exact ⟨rfl,rfl,rfl,rfl,rfl⟩
structure IX (k:Nat) (s:PS) (t:SS) (os:List Sw53.Out) (a:Nat) (quiet:Bool):Prop where
 ok:CA s (a:Int)
 r:Rel (iW s (a:Int) quiet) (Sw53.acks t a quiet).1 (os++(Sw53.acks t a quiet).2)
 i:Inv (Sw53.acks t a quiet).1 k
 p:(Sw53.acks t a quiet).1.phase=t.phase
 u:1≤(Sw53.acks t a quiet).1.una
 n:(Sw53.acks t a quiet).2.length≤1
theorem Gu {s:PS} {t:SS} {os:List Sw53.Out} {k:Nat} (R:Rel s t os) (I:Inv t k) (h45:t.phase=4∨t.phase=5) {a:Nat} (hu:1≤t.una∨1≤a) (h:a≤t.top) (hk:k≤16000) (ho:os.length≤900000) (quiet:Bool):IX k s t os a quiet:=by
 have hh:s.held.length≤100000:=by
  obtain ⟨raw,q1,q2,_⟩:=R.held;have h1:=I.hl;rw [q2] at h1;unfold vw at h1;rw [List.length_map] at h1;rw [q1,List.length_map];tm_at "ob"
 have ao:=Cu R I (by tm_at "ob");have mo:s.first<(a:Int)→Gy s (a:Int):=fun q=>by
  rw [R.first] at q;have h1:t.una<a:=by tm_at "ob"
  have h4:t.phase=4:=by
   rcases h45 with h4 | h5
   ·exact h4
   ·have:=I.p5 h5;tm_at "ob"
  obtain ⟨R2,I2⟩:=tF R I h4 h1 h;have cw:=I2.cw;refine ⟨?_,⟨by rw [R2.wide];tm_at "ob",fun q1 q2=>?_⟩⟩
  ·unfold dO Fc zV
   split
   ·exact hh
   ·split
    ·exact hh
    ·split
     ·dsimp only [bG,PS.eL,PS.gH,PS.jE];exact hh
     ·dsimp only [bG,PS.eL,PS.gH,PS.jE,PS.dG];exact hh
  ·have z:=Cu R2 I2 (by tm_at "ob")
   generalize iZ s (a:Int)=X at z ⊢;exact z.as (by dsimp only [jF,widen,PS.bI,PS.cR]) (by dsimp only [jF,widen,PS.bI,PS.cR]) (by dsimp only [jF,widen,PS.bI,PS.cR]) (by dsimp only [jF,widen,PS.bI,PS.cR])
 have so:(a:Int)=s.first→s.first<s.top→BI s:=fun _ _=>⟨fun _=>ao.as rfl rfl rfl rfl,ao.as (by dsimp only [gS,eQ,PS.set_same,PS.bI,PS.cE,PS.cR]) (by dsimp only [gS,eQ,PS.set_same,PS.bI,PS.cE,PS.cR]) (by dsimp only [gS,eQ,PS.set_same,PS.bI,PS.cE,PS.cR]) (by dsimp only [gS,eQ,PS.set_same,PS.bI,PS.cE,PS.cR])⟩;have aok:CA s (a:Int):=⟨mo,so⟩;by_cases h1:t.una<a
 ·have h4:t.phase=4:=by
   rcases h45 with h4 | h5
   ·exact h4
   ·have:=I.p5 h5;tm_at "ob"
  obtain ⟨R2,I2⟩:=tF R I h4 h1 h;obtain ⟨g1,g2,g3,g4,g5⟩:=DW t a;have en:(a:Int) - s.first=((a - t.una:Nat):Int):=by rw [R.first];tm_at "ob"
  have et:iW s (a:Int) quiet=eP (iZ s (a:Int)) ((a - t.una:Nat):Int):=by
   unfold iW uj;rw [if_pos (by rw [R.first];tm_at "ob"),en]
  have ea:=Gv t quiet h1
  cases hm:t.mend with
  | none =>
   rw [hm] at ea;obtain ⟨R3,I3⟩:=Dh R2 I2 (a - t.una) (g1.trans hm);have eg:(nz t a).grown (a - t.una)=t.grown (a - t.una):=by unfold Sw53.Side.grown;rw [g2,g3]
   rw [eg] at R3 I3;refine ⟨aok,?_,?_,?_,?_,?_⟩
   ·rw [et,ea];show Rel _ _ (os++[]);rw [List.append_nil];exact R3
   ·rw [ea];exact I3
   ·rw [ea];exact g5
   ·rw [ea];show 1≤(nz t a).una;tm_at "ob"
   ·rw [ea];exact Nat.zero_le _
  | some m =>
   rw [hm] at ea;dsimp only at ea;by_cases c:m≤a
   ·rw [if_pos c] at ea
    obtain ⟨R3,I3⟩:=Di R2 I2 (a - t.una) g3 (g1.trans hm) (by tm_at "ob");refine ⟨aok,?_,?_,?_,?_,?_⟩
    ·rw [et,ea];show Rel _ _ (os++[]);rw [List.append_nil];exact R3
    ·rw [ea];exact I3
    ·rw [ea];exact g5
    ·rw [ea];show 1≤(nz t a).una;tm_at "ob"
    ·rw [ea];exact Nat.zero_le _
   ·rw [if_neg c] at ea
    obtain ⟨e1,R3,I3⟩:=EJ R2 I2 (a - t.una) (g1.trans hm) (by tm_at "ob");rw [g4] at R3 I3;obtain ⟨_,R4,I4,S4,L4⟩:=vX R3 I3 (g5.trans h4) (by show 1≤(nz t a).una;tm_at "ob") (by tm_at "ob");refine ⟨aok,?_,?_,?_,?_,?_⟩
    ·rw [et,ea,e1];exact R4
    ·rw [ea];exact I4
    ·rw [ea,S4.1];exact g5
    ·rw [ea,S4.2.1];show 1≤(nz t a).una;tm_at "ob"
    ·rw [ea];exact L4
 ·have qI:Sw53.acks t a quiet=Sw53.done t→iW s (a:Int) quiet=s→(1≤t.una)→IX k s t os a quiet:=fun e1 e2 e3=>by
   refine ⟨aok,?_,?_,?_,?_,?_⟩
   ·rw [e1,e2];show Rel s t (os++[]);rw [List.append_nil];exact R
   ·rw [e1];exact I
   ·rw [e1];rfl
   ·rw [e1];exact e3
   ·rw [e1];exact Nat.zero_le _
  have hu1:1≤t.una:=by tm_at "ob"
  have ea:Sw53.acks t a quiet=if a=t.una∧t.una<t.top∧quiet=true then
    (match t.mend with
    | some _=>Sw53.resend { t with cwnd:=min 1048576 (t.cwnd+Sw53.MOST) }
    | none=>if t.dup+1=3 then Sw53.resend { t with dup:=3,slow:=max ((t.top - t.una) / 2) 2800,cwnd:=max ((t.top - t.una) / 2) 2800+4200,mend:=some t.top,anew:=t.una }
     else Sw53.done { t with dup:=t.dup+1 })
    else Sw53.done t:=by
   unfold Sw53.acks;rw [if_neg h1]
   cases t.mend <;> rfl
  have et:iW s (a:Int) quiet=if (a:Int)=s.first then (if s.first<s.top then (if quiet=true then je s else s) else s) else s:=by
   unfold iW;rw [if_neg (by rw [R.first];tm_at "ob")]
  by_cases c:a=t.una∧t.una<t.top∧quiet=true
  ·rw [if_pos c] at ea
   rw [R.first,R.top,if_pos (by tm_at "ob"),if_pos (by tm_at "ob"),if_pos c.2.2] at et;have h4:t.phase=4:=by
    rcases h45 with h4 | h5
    ·exact h4
    ·have:=I.p5 h5;tm_at "ob"
   cases hm:t.mend with
   | some m =>
    have ea:Sw53.acks t a quiet=Sw53.resend { t with cwnd:=min 1048576 (t.cwnd+Sw53.MOST) }:=by
     rw [ea];split
     ·rfl
     ·rename_i q;rw [hm] at q;cases q
    have m0:0<s.bA:=by
     rcases R.bA with ⟨q,_⟩ | ⟨m',q,q1,q2⟩
     ·rw [hm] at q;cases q
     ·tm_at "ob"
    obtain ⟨R3,I3⟩:=CC R I;obtain ⟨_,R4,I4,S4,L4⟩:=vX R3 I3 h4 hu1 (by tm_at "ob");have et2:je s=fV (widen s 1400):=by unfold je;rw [if_pos m0]
    rw [et2] at et;refine ⟨aok,?_,?_,?_,?_,?_⟩
    ·rw [et,ea];exact R4
    ·rw [ea];exact I4
    ·rw [ea,S4.1]
    ·rw [ea,S4.2.1];exact hu1
    ·rw [ea];exact L4
   | none =>
    have ea:Sw53.acks t a quiet=if t.dup+1=3 then Sw53.resend { t with dup:=3,slow:=max ((t.top - t.una) / 2) 2800,cwnd:=max ((t.top - t.una) / 2) 2800+4200,mend:=some t.top,anew:=t.una } else Sw53.done { t with dup:=t.dup+1 }:=by
     rw [ea];split
     ·rename_i q;rw [hm] at q;cases q
     ·rfl
    have m0:¬0<s.bA:=by
     rcases R.bA with ⟨_,q⟩ | ⟨m',q,q1,q2⟩
     ·tm_at "ob"
     ·rw [hm] at q;cases q
    have et2:je s=if s.same+1=3 then fV (gS (s.set_same (s.same+1))) else s.set_same (s.same+1):=by
     unfold je;rw [if_neg m0];rfl
    rw [et2,R.same] at et;by_cases c3:t.dup+1=3
    ·rw [if_pos c3] at ea
     rw [if_pos (by tm_at "ob")] at et;obtain ⟨R3,I3⟩:=Fb R I h4 hu1 c3 c.2.1;obtain ⟨_,R4,I4,S4,L4⟩:=vX R3 I3 h4 hu1 (by tm_at "ob");rw [R.same] at R4;refine ⟨aok,?_,?_,?_,?_,?_⟩
     ·rw [et,ea];exact R4
     ·rw [ea];exact I4
     ·rw [ea,S4.1]
     ·rw [ea,S4.2.1];exact hu1
     ·rw [ea];exact L4
    ·rw [if_neg c3] at ea
     rw [if_neg (by tm_at "ob")] at et;refine ⟨aok,?_,?_,?_,?_,?_⟩
     ·rw [et,ea]
      show Rel _ _ (os++[]);rw [List.append_nil];dsimp only [PS.set_same,Sw53.done];exact { R with same:=rfl }
     ·rw [ea];exact { I with }
     ·rw [ea];rfl
     ·rw [ea];exact hu1
     ·rw [ea];exact Nat.zero_le _
  ·rw [if_neg c] at ea
   refine qI ea ?_ hu1;rw [et,R.first,R.top];split
   ·split
    ·split
     ·rename_i c1 c2 c3
      exact absurd ⟨by tm_at "ob",by tm_at "ob",c3⟩ c
     ·rfl
    ·rfl
   ·rfl
noncomputable def dOf (t:SS) (p:Nat) (data:List Nat):List Nat:=(data.drop (t.next - p)).take (t.edge - max p t.next)
noncomputable def tkP (t:SS) (p:Nat) (data:List Nat):SS:={ t with pieces:=if dOf t p data=[]∨t.ended=true then t.pieces else Sw53.add (max p t.next) (dOf t p data) t.pieces }
theorem Ia (t:SS) (p:Nat) (data:List Nat):(dOf t p data).length=min (t.edge - max p t.next) (data.length - (t.next - p)):=by unfold dOf;rw [List.length_take,List.length_drop]
theorem yO {s:PS} {t:SS} {os:List Sw53.Out} {k:Nat} (R:Rel s t os) (I:Inv t k) (h3:3≤t.phase) (p:Nat) (data:List Nat):Rel (gc s (cI data) (p:Int)) (tkP t p data) os∧Inv (tkP t p data) k:=by
 have dl:=Ia t p data;unfold gc;rw [ba,R.wanted,R.edge,R.bg];by_cases c:max p t.next<min (p+data.length) t.edge
 ·rw [if_pos (by omega)]
  cases he:t.ended with
  | true =>
   rw [if_neg (by decide)];have e:tkP t p data=t:=by unfold tkP;rw [he,if_pos (.inr rfl),←he]
   rw [e];exact ⟨R,I⟩
  | false =>
   rw [if_pos (show (!false)=true from rfl)];have ne:dOf t p data≠[]:=fun q=>by rw [q] at dl;simp at dl;omega
   have hc:eS (cI data) (some (max (p:Int) (t.next:Int) - (p:Int))) (some (min ((p:Int)+(data.length:Int)) (t.edge:Int) - (p:Int)))=cI (dOf t p data):=by
    rw [show max (p:Int) (t.next:Int) - (p:Int)=((t.next - p:Nat):Int) by tm_at "ob",show min ((p:Int)+(data.length:Int)) (t.edge:Int) - (p:Int)=((min (p+data.length) t.edge - p:Nat):Int) by omega,pA];unfold dOf;rw [pC,mP];by_cases c2:p+data.length≤t.edge
    ·rw [List.take_of_length_le (by rw [List.length_drop,ba];tm_at "ob"),List.take_of_length_le (by rw [List.length_drop,ba];omega)]
    ·rw [show min (p+data.length) t.edge - p - (t.next - p)=t.edge - max p t.next by omega]
   have ep:ll s.pieces (max (p:Int) (t.next:Int)) (cI (dOf t p data))=(Sw53.add (max p t.next) (dOf t p data) t.pieces).map cPc:=by
    rw [R.pieces,show max (p:Int) (t.next:Int)=((max p t.next:Nat):Int) by omega,wj _ _ I.pc.s]
   have ok:=BG (s:=max p t.next) (d:=dOf t p data) I.pc (Nat.le_max_right ..) (by omega) (by tm_at "ob");have e:tkP t p data = { t with pieces:=Sw53.add (max p t.next) (dOf t p data) t.pieces }:=by unfold tkP;rw [if_neg (fun q=>q.elim ne (fun z=>by rw [he] at z;cases z))]
   rw [hc,ep,e];dsimp only [PS.iA];exact ⟨{ R with pieces:=rfl },{ I with pc:=ok.1,new:=fun (q:t.phase≤2)=>by tm_at "ob" }⟩
 ·rw [if_neg (by omega)]
  have hd:dOf t p data=[]:=List.length_eq_zero_iff.mp (by omega);have e:tkP t p data=t:=by unfold tkP;rw [if_pos (.inl hd)]
  rw [e];exact ⟨R,I⟩
noncomputable def tkE (t:SS) (p:Nat) (data:List Nat) (e:Bool):SS:={ tkP t p data with endAt:=if t.endAt=none∧e=true∧t.next≤p+data.length∧p+data.length≤t.edge then some (p+data.length) else t.endAt }
theorem Dy {s:PS} {t:SS} {os:List Sw53.Out} {k:Nat} (R:Rel s t os) (I:Inv t k) (h3:3≤t.phase) (h:Nat) (e:Bool):Rel (if e=true then fv s (h:Int) else s) { t with endAt:=if t.endAt=none∧e=true∧t.next≤h∧h≤t.edge then some h else t.endAt } os∧Inv { t with endAt:=if t.endAt=none∧e=true∧t.next≤h∧h≤t.edge then some h else t.endAt } k:=by
 by_cases c:t.endAt=none∧e=true∧t.next≤h∧h≤t.edge
 ·rw [if_pos c,if_pos c.2.1]
  have he:t.ended=false:=by
   cases q:t.ended with
   | false=>rfl
   | true=>obtain ⟨x,hx,_⟩:=I.en q;rw [c.1] at hx;cases hx
  have el:fv s (h:Int)=s.fU (some (h:Int)):=by
   unfold fv;rw [R.cj,c.1,R.wanted,R.edge,if_pos (show eC (cO none)=V.non from rfl),if_pos (by tm_at "ob"),if_pos (by tm_at "ob")]
  rw [el];dsimp only [PS.fU];exact ⟨{ R with cj:=rfl },{ I with ee:=(fun x q=>by injection q with q;have:=c.2.2.2;show x≤t.edge;tm_at "ob"),en:=(fun q=>by rw [show t.ended=false from he] at q;cases q),new:=fun (q:t.phase≤2)=>by tm_at "ob" }⟩
 ·rw [if_neg c]
  have el:(if e=true then fv s (h:Int) else s)=s:=by
   split
   ·rename_i he
    unfold fv;rw [R.cj,R.wanted,R.edge]
    cases q:t.endAt with
    | some x=>rw [if_neg (by intro z;cases z)]
    | none =>
     rw [if_pos (show eC (cO none)=V.non from rfl)];split
     ·split
      ·rename_i c1 c2
       exact absurd ⟨q,he,by tm_at "ob",by tm_at "ob"⟩ c
      ·rfl
     ·rfl
   ·rfl
  rw [el];exact ⟨R,I⟩
noncomputable def iT (s:SS):SS:=match s.pieces with
  | x::l=>if x.1≤s.next then { s with got:=s.got++x.2.drop (s.next - x.1),next:=max s.next (x.1+x.2.length),pieces:=l } else s
  | []=>s
noncomputable def mT (t:SS):SS:=if t.ended=false∧t.endAt=some t.next then { t with next:=t.next+1,ended:=true } else t
theorem Gs {s:PS} {t:SS} {os:List Sw53.Out} {k:Nat} (R:Rel s t os) (I:Inv t k) (h3:3≤t.phase):Rel (iC s) (iT t) os∧Inv (iT t) k∧kj ((iT t).next+1) (iT t).edge (iT t).pieces:=by
 unfold iC iT;rw [R.pieces]
 cases hp:t.pieces with
 | nil=>exact ⟨R,I,by rw [hp];exact kj.nil _ _⟩
 | cons x l =>
  have pc:=I.pc;rw [hp] at pc;have ix:=pc.i x (by simp);have tl:=pc.tail;rw [List.map_cons];dsimp only;rw [show (cPc x).1=(x.1:Int) from rfl,show (cPc x).2=cI x.2 from rfl,R.wanted,R.aH];by_cases c:x.1≤t.next
  ·have ex:x.1=t.next:=by tm_at "ob"
   rw [if_pos (by tm_at "ob"),if_pos c,ex,Nat.sub_self,List.drop_zero,show max t.next (t.next+x.2.length)=t.next+x.2.length by tm_at "ob",ba];have eu:cI t.got++cI x.2=cI (t.got++x.2):=(fz ..).symm;have ge:=I.ge;have g1:(t.got++x.2).length+(t.edge - (t.next+x.2.length))≤65536:=by rw [List.length_append];tm_at "ob"
   have tl':kj (t.next+x.2.length+1) t.edge l:=by rw [ex] at tl;exact tl
   dsimp only [PS.iA,PS.iz,PS.cZ];refine ⟨{ R with pieces:=rfl,aH:=eu,wanted:=rfl },{ I with ne:=(by show t.next+x.2.length≤t.edge+1;tm_at "ob"),ge:=g1,pc:=⟨tl'.s,fun p hp=>by have:=tl'.i p hp;show t.next+x.2.length≤p.1∧0<p.2.length∧p.1+p.2.length≤t.edge;tm_at "ob"⟩,en:=(fun q=>by obtain ⟨e,h1,h2⟩:=I.en q;exact ⟨e,h1,by show e<t.next+x.2.length;tm_at "ob"⟩),new:=fun (q:t.phase≤2)=>by tm_at "ob" },tl'⟩
  ·rw [if_neg (by tm_at "ob"),if_neg c]
   refine ⟨R,I,?_⟩;rw [hp];refine pc.up fun q hq=>?_;rcases List.mem_cons.mp hq with rfl | hq
   ·tm_at "ob"
   ·have:=(List.pairwise_cons.mp pc.s).1 q hq;tm_at "ob"
theorem Gr {s:PS} {t:SS} {os:List Sw53.Out} {k:Nat} (R:Rel s t os) (I:Inv t k) (h3:3≤t.phase) (pc:kj (t.next+1) t.edge t.pieces):Rel (jO s) (mT t) os∧Inv (mT t) k:=by
 unfold jO mT;rw [R.cj,R.wanted,R.closing];by_cases c:t.ended=false∧t.endAt=some t.next
 ·rw [if_pos c,if_pos (by rw [c.2];rfl)]
  have ne:=I.ee _ c.2;have ge:=I.ge;dsimp only [PS.cZ,PS.kL,PS.iB];refine ⟨{ R with wanted:=rfl,bg:=rfl,cf:=fun _=>?_,fe:=fun _ q=>by cases q },{ I with ne:=(by show t.next+1≤t.edge+1;tm_at "oa"),ge:=(by show t.got.length+(t.edge - (t.next+1))≤65536;tm_at "oa"),pc:=pc,en:=fun _=>⟨t.next,c.2,Nat.lt_succ_self _⟩,new:=fun (q:t.phase≤2)=>by tm_at "oa" }⟩
  cases hc:t.closing with
  | true=>rw [if_pos rfl];exact (R.fe hc c.1).symm
  | false=>rw [if_neg Bool.false_ne_true]
 ·rw [if_neg c]
  have:¬eC (cO t.endAt)=V.int (t.next:Int):=fun q=>by
   cases he:t.endAt with
   | none=>rw [he] at q;cases q
   | some e =>
    rw [he] at q;have q:V.int (e:Int)=V.int (t.next:Int):=q;injection q with q;have en:e=t.next:=by tm_at "oa"
    subst en
    cases hd:t.ended with
    | false=>exact c ⟨hd,he⟩
    | true=>obtain ⟨x,h1,h2⟩:=I.en hd;rw [he] at h1;injection h1 with h1;tm_at "oa"
  rw [if_neg this];exact ⟨R,I⟩
theorem Ed (t:SS) (p:Nat) (data:List Nat) (e:Bool):Sw53.takes t p data e=if data=[]∧e=false then t else
  if t.owed=0∧e=false∧t.pieces=[]∧(mT (iT (tkE t p data e))).pieces=[]∧t.next<(mT (iT (tkE t p data e))).next then { mT (iT (tkE t p data e)) with owed:=1,ackDue:=some (t.now+40) } else { mT (iT (tkE t p data e)) with owed:=2 }:=rfl
theorem AB (t:SS):(mT (iT t)).owed=t.owed∧(mT (iT t)).now=t.now∧(mT (iT t)).phase=t.phase∧(mT (iT t)).una=t.una:=by
 have h1:(iT t).owed=t.owed∧(iT t).now=t.now∧(iT t).phase=t.phase∧(iT t).una=t.una:=by
  unfold iT;split
  ·split <;> exact ⟨rfl,rfl,rfl,rfl⟩
  ·exact ⟨rfl,rfl,rfl,rfl⟩
 unfold mT;split <;> exact h1
theorem FD {l:List Nat} (h:(cI l).isEmpty=true):l=[]:=by cases l with | nil=>rfl | cons x l=>cases h
theorem EY {b:Bool} (h:(!b)=true):b=false:=by cases b;rfl;cases h
structure Kk (k:Nat) (s:PS) (t:SS) (os:List Sw53.Out) (p:Nat) (g:Sw53.Seg):Prop where
 ok:yQ s (aT g) (p:Int)
 r:Rel (jU s (aT g) (p:Int)) (Sw53.takes t p g.data g.end_) os
 i:Inv (Sw53.takes t p g.data g.end_) k
 ph:(Sw53.takes t p g.data g.end_).phase=t.phase
 u:(Sw53.takes t p g.data g.end_).una=t.una
theorem CN {s:PS} {t:SS} {os:List Sw53.Out} {k:Nat} (R:Rel s t os) (I:Inv t k) (h3:3≤t.phase) (p:Nat) {g:Sw53.Seg} (hg:rG g):Kk k s t os p g:=by
 have hd:(aT g).data=cI g.data:=rfl;obtain ⟨R1,I1⟩:=yO R I h3 p g.data;obtain ⟨R2,I2⟩:=Dy R1 I1 h3 (p+g.data.length) g.end_;have e2:jT s (aT g) (p:Int)=if g.end_=true then fv (gc s (cI g.data) (p:Int)) ((p+g.data.length:Nat):Int) else gc s (cI g.data) (p:Int):=by
  unfold jT;rw [o9,hd,ba];rfl
 rw [←e2] at R2;have R2:Rel (jT s (aT g) (p:Int)) (tkE t p g.data g.end_) os:=R2;have I2:Inv (tkE t p g.data g.end_) k:=I2;have l1:=yq I.pc;have l2:=yq I2.pc;have ge:=I.ge;have ge2:=I2.ge;have dd:=hg.d;have ok:yQ s (aT g) (p:Int):=by
  refine ⟨⟨?_,?_⟩,?_⟩
  ·rw [R.pieces,List.length_map];tm_at "ob"
  ·rw [R.pieces,zX,hd,ba];tm_at "ob"
  ·unfold wa
   rw [R2.aH,R2.pieces,zX,ba];tm_at "ob"
 obtain ⟨R3,I3,P3⟩:=Gs R2 I2 h3;have h3':3≤(iT (tkE t p g.data g.end_)).phase:=by
  have:=(AB (tkE t p g.data g.end_)).2.2.1;have e:(mT (iT (tkE t p g.data g.end_))).phase=(iT (tkE t p g.data g.end_)).phase:=by unfold mT;split <;> rfl
  rw [←e,this];exact h3
 obtain ⟨R4,I4⟩:=Gr R3 I3 h3' P3;obtain ⟨s1,s2,s3,s4⟩:=AB (tkE t p g.data g.end_);have s1:(mT (iT (tkE t p g.data g.end_))).owed=t.owed:=s1;have s2:(mT (iT (tkE t p g.data g.end_))).now=t.now:=s2;have s3:(mT (iT (tkE t p g.data g.end_))).phase=t.phase:=s3;have s4:(mT (iT (tkE t p g.data g.end_))).una=t.una:=s4;have et:jU s (aT g) (p:Int)=if g.data=[]∧g.end_=false then s else nU s (jO (iC (jT s (aT g) (p:Int)))) (aT g):=by
  unfold jU uI gT;rw [o9,hd];by_cases c:g.data=[]∧g.end_=false
  ·rw [if_pos c,if_pos (by rw [c.1,c.2];exact ⟨rfl,rfl⟩)]
  ·rw [if_neg c,if_neg (fun q=>c ⟨FD q.1,EY q.2⟩)]
 have eq:=Ed t p g.data g.end_;generalize mT (iT (tkE t p g.data g.end_))=u at R4 I4 eq s1 s2 s3 s4;generalize jO (iC (jT s (aT g) (p:Int)))=s5 at R4 et;clear R1 R2 R3 I1 I2 I3 P3;by_cases c:g.data=[]∧g.end_=false
 ·rw [if_pos c] at eq et
  exact ⟨ok,by rw [eq,et];exact R,by rw [eq];exact I,by rw [eq],by rw [eq]⟩
 ·rw [if_neg c] at eq et
  by_cases c2:t.owed=0∧g.end_=false∧t.pieces=[]∧u.pieces=[]∧t.next<u.next
  ·rw [if_pos c2] at eq
   have eo:nU s s5 (aT g)=(s5.fk 1).jj (some (((t.now+40:Nat)):Int)):=by
    have ii:inOrder s s5=true:=by
     unfold inOrder;rw [R.pieces,R4.pieces,R.wanted,R4.wanted,c2.2.2.1,c2.2.2.2.1,decide_eq_true (by tm_at "ob" : (t.next:Int)<(u.next:Int))];rfl
    unfold nU;rw [R4.owed,s1,c2.1,if_pos (show ((0:Nat):Int)=0 from rfl),ii,if_pos rfl,o9,c2.2.1,if_pos (show (!false)=true from rfl),R4.now,s2];rfl
   refine ⟨ok,?_,?_,?_,?_⟩
   ·rw [et,eq,eo]
    dsimp only [PS.fk,PS.jj];exact { R4 with owed:=rfl,ack:=fun _=>⟨fun _=>⟨_,rfl,rfl⟩,fun q=>absurd rfl q⟩ }
   ·rw [eq];exact { I4 with ow:=(by show (1:Nat)≤2;tm_at "ob"),new:=fun (q:u.phase≤2)=>by tm_at "ob" }
   ·rw [eq];exact s3
   ·rw [eq];exact s4
  ·rw [if_neg c2] at eq
   have eo:nU s s5 (aT g)=s5.fk 2:=by
    unfold nU;rw [R4.owed,s1,o9];by_cases d1:t.owed=0
    ·rw [if_pos (by tm_at "ob")]
     by_cases d2:inOrder s s5=true
     ·rw [if_pos d2]
      by_cases d3:g.end_=false
      ·exfalso
       apply c2;unfold inOrder at d2;rw [R.pieces,R4.pieces,R.wanted,R4.wanted,Bool.and_eq_true,Bool.and_eq_true,decide_eq_true_eq] at d2;refine ⟨d1,d3,?_,?_,by tm_at "ob"⟩
       ·cases hq:t.pieces with
        | nil=>rfl
        | cons x l=>rw [hq] at d2;simp at d2
       ·cases hq:u.pieces with
        | nil=>rfl
        | cons x l=>rw [hq] at d2;simp at d2
      ·rw [if_neg (fun q=>d3 (EY q))]
     ·rw [if_neg d2]
    ·rw [if_neg (by tm_at "ob")]
   refine ⟨ok,?_,?_,?_,?_⟩
   ·rw [et,eq,eo]
    dsimp only [PS.fk];exact { R4 with owed:=rfl,ack:=fun q=>absurd rfl q }
   ·rw [eq];exact { I4 with ow:=Nat.le_refl _,new:=fun (q:u.phase≤2)=>by tm_at "ob" }
   ·rw [eq];exact s3
   ·rw [eq];exact s4
noncomputable def Cd:Option Nat→V
 | some p=>V.int (p:Int)
 | none=>V.non
theorem vb (b ab n:Nat):Sw53.placeOf b ab n=if (n+4294967296 - (b+ab) % 4294967296) % 4294967296<2147483648 then some (ab+(n+4294967296 - (b+ab) % 4294967296) % 4294967296) else if 4294967296≤ab+(n+4294967296 - (b+ab) % 4294967296) % 4294967296 then some (ab+(n+4294967296 - (b+ab) % 4294967296) % 4294967296 - 4294967296) else none:=by
 unfold Sw53.placeOf;have hM:Sw53.M=4294967296:=rfl;simp only [hM]
theorem E7 (n b ab:Nat):∃d:Nat,(n+4294967296 - (b+ab) % 4294967296) % 4294967296=d∧((n:Int) - (b:Int) - (ab:Int)) % 4294967296=(d:Int)∧d<4294967296:=⟨_,rfl,by omega,Nat.mod_lt _ (by decide)⟩
theorem qY (n b ab:Nat):bE (n:Int) (b:Int) (ab:Int)=Cd (Sw53.placeOf b ab n):=by
 obtain ⟨d,e1,e2,hd⟩:=E7 n b ab;rw [vb,e1];unfold bE;rw [e2];by_cases c1:d<2147483648
 ·have c1':¬(2147483648:Int)≤(d:Int):=by omega
  have c2':¬(ab:Int)+(d:Int)<0:=by omega
  rw [if_pos c1];simp only [c1',c2',if_false];rfl
 ·have c1':(2147483648:Int)≤(d:Int):=by omega
  rw [if_neg c1];simp only [c1',if_true];by_cases c2:4294967296≤ab+d
  ·have c2':¬(ab:Int)+((d:Int) - 4294967296)<0:=by omega
   rw [if_pos c2];simp only [c2',if_false];have e3:(ab:Int)+((d:Int) - 4294967296)=((ab+d - 4294967296:Nat):Int):=by omega
   rw [e3];rfl
  ·have c2':(ab:Int)+((d:Int) - 4294967296)<0:=by omega
   rw [if_neg c2];simp only [c2',if_true];rfl
theorem xG {s:PS} {t:SS} {os:List Sw53.Out} (R:Rel s t os) (g:Sw53.Seg):aX s (aT g)=(((Sw53.placeOf t.iss t.top g.acked).getD 0:Nat):Int):=by
 unfold aX;rw [R.base,R.top,show (aT g).acked=(g.acked:Int) from rfl,qY]
 cases Sw53.placeOf t.iss t.top g.acked <;> rfl
theorem Inv.mono {t:SS} {k k':Nat} (I:Inv t k) (h:k≤k'):Inv t k':={ I with hl:=Nat.le_trans I.hl h }
theorem yP {s:PS} {t:SS} {os:List Sw53.Out} {k:Nat} (R:Rel s t os) (I:Inv t k):Rel (bP s) (Sw53.ackNow t).1 (os++(Sw53.ackNow t).2)∧Inv (Sw53.ackNow t).1 k:=by
 have:=nN R I t.top false false false (data:=[]) (Nat.zero_le _) (by simp);unfold bP;rw [R.top];exact this
theorem pD {s:PS} {t:SS} {os:List Sw53.Out} {k:Nat} (R:Rel s t os) (I:Inv t k):Rel (jW s) (Sw53.says t 0 true false false []).1 (os++(Sw53.says t 0 true false false []).2)∧Inv (Sw53.says t 0 true false false []).1 k:=
 nN R I 0 true false false (data:=[]) (Nat.zero_le _) (by simp)
theorem gN {s:PS} {t:SS} {os:List Sw53.Out} {k:Nat} (R:Rel s t os) (I:Inv t k) (w:Nat):Rel (finish s (w:Int)) (Sw53.over t w) os∧Inv (Sw53.over t w) k:=by
 dsimp only [finish,Sw53.over];exact ⟨{ R with phase:=rfl,why:=rfl,due:=rfl,timed:=.inl ⟨rfl,rfl⟩,owed:=rfl,ack:=fun _=>⟨fun (q:(0:Nat)=1)=>by omega,fun _=>rfl⟩,heard:=fun _ (q:(6:Nat)≤4)=>by omega,cx:=fun (q:(6:Nat)=5)=>by omega },
  { I with ph:=Nat.le_refl _,early:=fun (q:(6:Nat)≤3)=>by omega,t1:=fun _ (q:(6:Nat)≤3)=>by omega,p5:=fun (q:(6:Nat)=5)=>by omega,new:=fun (q:(6:Nat)≤2)=>by omega,ow:=Nat.zero_le _ }⟩
theorem Fn {s:PS} {t:SS} {os:List Sw53.Out} {k:Nat} (R:Rel s t os) (I:Inv t k):Rel (jt s) { t with heard:=t.now,asks:=0 } os∧Inv { t with heard:=t.now,asks:=0 } k:=by
 dsimp only [jt];exact ⟨{ R with heard:=fun _ _=>⟨R.now,rfl⟩ },{ I with ask:=Nat.zero_le _,new:=fun q=>let z:=I.new q;⟨z.1,z.2.1,z.2.2.1,z.2.2.2.1,z.2.2.2.2.1,z.2.2.2.2.2.1,rfl⟩ }⟩
noncomputable def sY (pf:Nat→Nat→Nat→Option Nat) (iss top una a:Nat) (r:Rg):Option Rg:=
 Sw53.arrives.match_1 (fun _ _=>Option (Nat×Nat)) (pf iss top r.1) (pf iss top r.2) (fun (f t:Nat)=>if max a una<f∧f<t∧t≤top then some (f,t) else none) (fun _ _=>none)
noncomputable def gY (t:SS) (a:Nat) (l:List Rg):List Rg:=(l.filterMap (sY Sw53.placeOf t.iss t.top t.una a)).foldl (fun (l:List (Nat×Nat)) (r:Nat×Nat)=>Sw53.join r.1 r.2 l) t.held
theorem Fl {s:PS} {t:SS} {os:List Sw53.Out} {k:Nat} (R:Rel s t os) (I:Inv t k) (h4:4≤t.phase) (a:Nat) (r:Rg):∃h,gY t a [r]=h∧Rel (cU s (a:Int) (cP r)) { t with held:=h } os∧Inv { t with held:=h } (k+14):=by
 refine ⟨_,rfl,?_⟩;have qI:gY t a [r]=t.held→cU s (a:Int) (cP r)=s→Rel (cU s (a:Int) (cP r)) { t with held:=gY t a [r] } os∧Inv { t with held:=gY t a [r] } (k+14):=fun e1 e2=>by
  rw [e1,e2];exact ⟨R,I.mono (by omega)⟩
 have en:∀n:Nat,bE (n:Int) s.base s.top=Cd (Sw53.placeOf t.iss t.top n):=fun n=>by rw [R.base,R.top,qY]
 cases h1:Sw53.placeOf t.iss t.top r.1 with
 | none =>
  refine qI (by unfold gY sY;simp [h1]) ?_;unfold cU;rw [show (cP r).1=(r.1:Int) from rfl,en,h1];rfl
 | some f =>
  cases h2:Sw53.placeOf t.iss t.top r.2 with
  | none =>
   refine qI (by unfold gY sY;simp [h1,h2]) ?_;unfold cU;rw [show (cP r).1=(r.1:Int) from rfl,show (cP r).2=(r.2:Int) from rfl,en,en,h1,h2];rfl
  | some b =>
   have eo:cU s (a:Int) (cP r)=if max (a:Int) s.first<(f:Int) then (if (f:Int)<(b:Int) then (if (b:Int)≤s.top then s.gI (gw s.held (f:Int) (b:Int)) else s) else s) else s:=by
    unfold cU;rw [show (cP r).1=(r.1:Int) from rfl,show (cP r).2=(r.2:Int) from rfl,en,en,h1,h2];rfl
   rw [R.first,R.top] at eo;by_cases c:max a t.una<f∧f<b∧b≤t.top
   ·have e1:gY t a [r]=Sw53.join f b t.held:=by unfold gY sY;simp [h1,h2,c]
    rw [if_pos (by omega),if_pos (by omega),if_pos (by omega)] at eo;rw [e1,eo];obtain ⟨raw,q1,q2,q3⟩:=id R.held;obtain ⟨w1,w2,w3⟩:=wg (f:=f) (t:=b) q3 (by omega) c.2.1 c.2.2;have ej:Sw53.join f b t.held=vw t.una (Sw53.join f b raw):=by
     rw [yt (by omega) fun q hq=>(q3.i q hq).2.1,q2,show max t.una f=f by omega]
    have eh:gw s.held (f:Int) (b:Int)=(Sw53.join f b raw).map cP:=by rw [q1,w1]
    have lh:t.held.length=raw.length:=by rw [q2];unfold vw;rw [List.length_map]
    have lj:(Sw53.join f b t.held).length=(Sw53.join f b raw).length:=by rw [ej];unfold vw;rw [List.length_map]
    have hl:=I.hl;dsimp only [PS.gI];exact ⟨{ R with held:=⟨_,eh,ej,w2⟩ },{ I with early:=fun (q:t.phase≤3)=>by omega,hl:=(by show 14*(Sw53.join f b t.held).length≤k+14;omega) }⟩
   ·refine qI (by unfold gY sY;simp [h1,h2,c]) ?_
    rw [eo];split
    ·split
     ·split
      ·rename_i c1 c2 c3
       exact absurd ⟨by omega,by omega,by omega⟩ c
      ·rfl
     ·rfl
    ·rfl
theorem Bk (t:SS) (a:Nat) (r:Rg) (l:List Rg):gY t a (r::l)=gY { t with held:=gY t a [r] } a l:=by
 unfold gY;dsimp only;rw [List.filterMap_cons,List.filterMap_cons,List.filterMap_nil];generalize sY Sw53.placeOf t.iss t.top t.una a r=q
 cases q with
 | none=>rfl
 | some q=>rfl
theorem Ad (a:Nat):∀(l:List Rg) {s:PS} {t:SS} {os:List Sw53.Out} {k:Nat},Rel s t os→Inv t k→4≤t.phase→k+14*l.length≤16000→
  wc (a:Int) (l.map cP) s∧Rel ((l.map cP).foldl (fun s r=>cU s (a:Int) r) s) { t with held:=gY t a l } os∧Inv { t with held:=gY t a l } (k+14*l.length)
 | [],s,t,os,k,R,I,_,_=>⟨trivial,R,I⟩
 | r::l,s,t,os,k,R,I,h4,hk=>by
  obtain ⟨h,e,R1,I1⟩:=Fl R I h4 a r;have hk':k+14+14*l.length≤16000:=by simp only [List.length_cons] at hk;omega
  obtain ⟨H2,R2,I2⟩:=Ad a l R1 I1 h4 hk';have e2:gY t a (r::l)=gY { t with held:=h } a l:=by rw [Bk,e]
  rw [e2];refine ⟨⟨?_,H2⟩,R2,?_⟩
  ·obtain ⟨raw,q1,q2,_⟩:=R.held
   have hl:=I.hl;rw [q2] at hl;unfold vw at hl;rw [List.length_map] at hl;rw [q1,List.length_map];omega
  ·have e3:k+14*(r::l).length=k+14+14*l.length:=by simp only [List.length_cons];omega
   rw [e3];exact I2
theorem AN {s:PS} {t:SS} {os:List Sw53.Out} {k:Nat} (R:Rel s t os) (I:Inv t k):Rel (ja s) (Sw53.settle t) os∧Inv (Sw53.settle t) k∧(Sw53.settle t).una=t.una∧((Sw53.settle t).owed=t.owed∨(Sw53.settle t).owed=0):=by
 have hl:t.last=t.total+1:=Nat.add_comm ..;have tl:=I.tl;have un:=I.un;have nt:=I.nt;by_cases c:t.phase=4∧t.closing=true∧t.una=t.last+1∧t.ended=true
 ·have e2:Sw53.settle t=if t.firstEnd=true then { t with phase:=5,till:=t.now+60000,due:=none } else Sw53.over t 1:=by unfold Sw53.settle;rw [if_pos c]
  obtain ⟨c1,c2,c3,c4⟩:=c;have e1:ja s=if s.cB=true then (cx s).dE none else finish s 1:=by
   unfold ja;rw [if_neg (by rw [R.phase];omega),if_neg (by rw [R.closing,c2];decide),if_neg (by rw [R.first,R.last];omega),if_neg (by rw [R.bg,c4];decide)]
  have cf:=R.cf c4;rw [if_pos c2] at cf;rw [e1,e2,cf];by_cases hf:t.firstEnd=true
  ·rw [if_pos hf,if_pos hf]
   have e1:some (s.now+60000)=some (((t.now+60000:Nat)):Int):=by rw [R.now];rfl
   dsimp only [cx,PS.dE];exact ⟨{ R with phase:=rfl,due:=rfl,heard:=fun _ (q:(5:Nat)≤4)=>by omega,cx:=fun _=>e1 },
    { I with ph:=(by show (5:Nat)≤6;omega),early:=fun (q:(5:Nat)≤3)=>by omega,t1:=fun _ (q:(5:Nat)≤3)=>by omega,p5:=fun _=>(by show t.una=t.top;omega),new:=fun (q:(5:Nat)≤2)=>by omega },rfl,.inl rfl⟩
  ·rw [if_neg hf,if_neg hf]
   have:=gN R I 1;exact ⟨this.1,this.2,rfl,.inr rfl⟩
 ·have e2:Sw53.settle t=t:=by unfold Sw53.settle;rw [if_neg c]
  have e1:ja s=s:=by
   unfold ja;rw [R.phase,R.closing,R.first,R.last,R.bg];split
   ·rfl
   ·split
    ·rfl
    ·split
     ·rfl
     ·split
      ·rfl
      ·rename_i d1 d2 d3 d4
       exact absurd ⟨by omega,by simpa using d2,by omega,by simpa using d4⟩ c
  rw [e1,e2];exact ⟨R,I,rfl,.inl rfl⟩
noncomputable def t3 (t:SS) (a w:Nat):SS:={ t with phase:=if t.phase=3 then 4 else t.phase,tries:=0,lim:=max t.lim (a+64*w) }
theorem Je {s:PS} {t:SS} {os:List Sw53.Out} {k:Nat} (R:Rel s t os) (I:Inv t k) (h3:3≤t.phase) (h5:t.phase≤5) (a:Nat) (g:Sw53.Seg):Rel (tk3 (tk1 s) (aT g) (a:Int)) (t3 t a g.window) os∧Inv (t3 t a g.window) k∧4≤(t3 t a g.window).phase∧(t3 t a g.window).phase≤5:=by
 have el:max s.room ((a:Int)+64*(aT g).window)=((max t.lim (a+64*g.window):Nat):Int):=by
  rw [R.room,show (aT g).window=(g.window:Int) from rfl];tm_at "ob"
 unfold t3 tk3 tk1;by_cases c:t.phase=3
 ·rw [if_pos (by rw [R.phase];tm_at "ob"),if_pos c]
  dsimp only [PS.br,PS.dg,PS.fS];refine ⟨{ R with phase:=rfl,tries:=rfl,room:=el,heard:=fun _ _=>R.heard (by tm_at "ob") (by tm_at "ob"),cx:=fun (q:(4:Nat)=5)=>by tm_at "ob" },{ I with ph:=(by show (4:Nat)≤6;tm_at "ob"),early:=fun (q:(4:Nat)≤3)=>by tm_at "ob",t1:=fun _ (q:(4:Nat)≤3)=>by tm_at "ob",p5:=fun (q:(4:Nat)=5)=>by tm_at "ob",new:=fun (q:(4:Nat)≤2)=>by tm_at "ob",tr:=Nat.zero_le _ },by show (4:Nat)≤4;tm_at "ob",by show (4:Nat)≤5;tm_at "ob"⟩
 ·rw [if_neg (by rw [R.phase];tm_at "ob"),if_neg c]
  dsimp only [PS.dg,PS.fS];refine ⟨{ R with tries:=rfl,room:=el },{ I with early:=fun (q:t.phase≤3)=>by tm_at "ob",tr:=Nat.zero_le _ },by show 4≤t.phase;tm_at "ob",h5⟩
noncomputable def t4 (t:SS) (a:Nat) (g:Sw53.Seg):SS:={ t3 t a g.window with held:=gY (t3 t a g.window) a g.ranges }
noncomputable def qt (t:SS) (a:Nat) (g:Sw53.Seg):Bool:=g.data == [] && (!g.end_ && decide (a+64*g.window≤t.lim))
noncomputable def uC (t:SS) (a place:Nat) (g:Sw53.Seg):Sw53.Does:=
 (Sw53.acks (t4 t a g) a (qt t a g)).then_ fun (u:Sw53.Side) =>
  (Sw53.pushAll (Sw53.takes u place g.data g.end_)).then_ fun (v:Sw53.Side)=>(Sw53.pay v).then_ fun (x:Sw53.Side)=>Sw53.done (Sw53.settle x)
structure df (k:Nat) (s:PS) (os:List Sw53.Out) (x:Sw53.Does) (n:Nat):Prop where
 r:Rel s x.1 (os++x.2)
 i:Inv x.1 k
 u:U1 x.1
 o:x.1.owed≠2
 n:x.2.length≤n
theorem Hw {s:PS} {t:SS} {os:List Sw53.Out} {k:Nat} (R:Rel s t os) (I:Inv t k) (h4:4≤t.phase) (h5:t.phase≤5):Rel (if s.owed=2 then bP s else s) (Sw53.pay t).1 (os++(Sw53.pay t).2)∧Inv (Sw53.pay t).1 k∧(Sw53.pay t).1.phase=t.phase∧(Sw53.pay t).1.una=t.una∧(Sw53.pay t).1.owed≠2∧(Sw53.pay t).2.length≤1:=by
 have kn:t.known=true:=(lN t).mpr ⟨by tm_at "ob",h5⟩;have ow:=I.ow;unfold Sw53.pay;by_cases c:t.owed=2
 ·rw [if_pos (by rw [R.owed];tm_at "ob"),if_pos ⟨by tm_at "ob",kn⟩]
  obtain ⟨R1,I1⟩:=yP R I;refine ⟨R1,I1,?_⟩;unfold Sw53.ackNow;rw [cu kn];exact ⟨rfl,rfl,by show (0:Nat)≠2;tm_at "ob",Nat.le_refl _⟩
 ·rw [if_neg (by rw [R.owed];tm_at "ob"),if_neg (fun q=>c (by tm_at "ob"))]
  show Rel s t (os++[])∧_;rw [List.append_nil];exact ⟨R,I,rfl,rfl,c,Nat.zero_le _⟩
theorem BH {s:PS} {t:SS} {os:List Sw53.Out} {k:Nat} (R:Rel s t os) (I:Inv t k) (U:U1 t) (h3:3≤t.phase) (h5:t.phase≤5) {g:Sw53.Seg} (hg:rG g) (hk:k+14*g.ranges.length≤16000) (ho:os.length≤500000) {a:Nat} (place:Nat)
  (ha:t.phase=3→1≤a) (h2:a≤t.top):lV (tk1 s) (aT g) (a:Int) (place:Int)∧df (k+14*g.ranges.length) (xa (tk1 s) (aT g) (a:Int) (place:Int)) os (uC t a place g) 5000:=by
 obtain ⟨R3,I3,p4,p5⟩:=Je R I h3 h5 a g;obtain ⟨H4,R4,I4⟩:=Ad a g.ranges R3 I3 p4 hk;have R4:Rel (tk4 (tk1 s) (aT g) (a:Int)) (t4 t a g) os:=R4;have I4:Inv (t4 t a g) (k+14*g.ranges.length):=I4;have f1:(t4 t a g).phase=if t.phase=3 then 4 else t.phase:=rfl;have f2:(t4 t a g).una=t.una:=rfl;have f3:(t4 t a g).top=t.top:=rfl;have f4:(t4 t a g).lim=max t.lim (a+64*g.window):=rfl;have p45:(t4 t a g).phase=4∨(t4 t a g).phase=5:=by rw [f1];split <;> tm_at "ob"
 have eq:pV (tk1 s) (aT g) (a:Int)=qt t a g:=by
  unfold pV qt;rw [o9,show (aT g).data=cI g.data from rfl,R4.room,f4];have er:(tk1 s).room=(t.lim:Int):=by unfold tk1;split;exact R.room;exact R.room
  rw [er];congr 1
  ·cases g.data <;> rfl
  ·congr 1
   exact decide_eq_decide.mpr ⟨fun _=>by tm_at "ob",fun _=>by tm_at "ob"⟩
 have A:=Gu R4 I4 p45 (a:=a) (by
  rw [f2];by_cases c:t.phase=3
  ·exact .inr (ha c)
  ·exact .inl (U (by tm_at "ob") h5)) (by rw [f3];exact h2) (by tm_at "ob") (by tm_at "ob") (qt t a g)
 have R5:Rel (tk5 (tk1 s) (aT g) (a:Int)) (Sw53.acks (t4 t a g) a (qt t a g)).1 (os++(Sw53.acks (t4 t a g) a (qt t a g)).2):=by
  unfold tk5;rw [eq];exact A.r
 have q3:3≤(Sw53.acks (t4 t a g) a (qt t a g)).1.phase:=by rw [A.p];tm_at "ob"
 have T:=CN R5 A.i q3 place hg;have An:=A.n;have Ap:=A.p;have Au:=A.u;have Aok:=A.ok;have Tr:=T.r;have Ti:=T.i;have Tp:=T.ph;have Tu:=T.u;have Tok:=T.ok;unfold uC;show _∧df _ _ os ((Sw53.settle (Sw53.pay (Sw53.pushAll (Sw53.takes (Sw53.acks (t4 t a g) a (qt t a g)).1 place g.data g.end_)).1).1),(Sw53.acks (t4 t a g) a (qt t a g)).2++((Sw53.pushAll (Sw53.takes (Sw53.acks (t4 t a g) a (qt t a g)).1 place g.data g.end_)).2++((Sw53.pay (Sw53.pushAll (Sw53.takes (Sw53.acks (t4 t a g) a (qt t a g)).1 place g.data g.end_)).1).2++[]))) 5000;generalize Sw53.acks (t4 t a g) a (qt t a g)=y at R5 q3 An Ap Au Tr Ti Tp Tu Tok ⊢;have e6:jU (tk5 (tk1 s) (aT g) (a:Int)) (aT g) (place:Int)=tk6 (tk1 s) (aT g) (a:Int) (place:Int):=rfl;rw [e6] at Tr;generalize Sw53.takes y.1 place g.data g.end_=z at Tr Ti Tp Tu ⊢;have pz:z.phase=4∨z.phase=5:=by rw [Tp,Ap];exact p45
 obtain ⟨S1,S2,S3,S4,S5⟩:=jk Tr Ti (fun _ _=>by rw [Tu];exact Au) (by tm_at "ob") (by rw [List.length_append];tm_at "ob");have e7:bJ (tk6 (tk1 s) (aT g) (a:Int) (place:Int))=tk7 (tk1 s) (aT g) (a:Int) (place:Int):=rfl;rw [e7] at S2;generalize Sw53.pushAll z=v at S2 S3 S4 S5 ⊢;obtain ⟨nx,ed,ad,ow,tp,ti,du,ev,_⟩:=S4;have vp:v.1.phase=z.phase:=by rw [ev]
 have vu:v.1.una=z.una:=by rw [ev]
 obtain ⟨P1,P2,P3,P4,P5,P6⟩:=Hw S2 S3 (by rw [vp];tm_at "ob") (by rw [vp];tm_at "ob");have e8:(if (tk7 (tk1 s) (aT g) (a:Int) (place:Int)).owed=2 then bP (tk7 (tk1 s) (aT g) (a:Int) (place:Int)) else tk7 (tk1 s) (aT g) (a:Int) (place:Int))=tk8 (tk1 s) (aT g) (a:Int) (place:Int):=rfl;rw [e8] at P1;generalize Sw53.pay v.1=x at P1 P2 P3 P4 P5 P6 ⊢;obtain ⟨E1,E2,E3,E4⟩:=AN P1 P2;refine ⟨⟨H4,Aok,Tok,S1,?_⟩,?_,E2,?_,?_,?_⟩
 ·rw [S2.out,List.length_map,List.length_append,List.length_append];tm_at "ob"
 ·have eo:os++(y.2++(v.2++(x.2++[])))=os++y.2++v.2++x.2:=by simp only [List.append_nil,List.append_assoc]
  show Rel _ _ (os++(y.2++(v.2++(x.2++[]))));rw [eo];exact E1
 ·intro _ _
  show 1≤(Sw53.settle x.1).una;rw [E3,P4,vu,Tu];exact Au
 ·show (Sw53.settle x.1).owed≠2
  rcases E4 with q | q
  ·rw [q];exact P5
  ·rw [q];tm_at "ob"
 ·simp only [List.length_append,List.length_nil];tm_at "ob"
noncomputable def mj (t:SS) (g:Sw53.Seg):Sw53.Seg:=⟨t.mine,g.src,g.acked,0,false,false,false,true,0,[],[]⟩
theorem pU {s:PS} {t:SS} {os:List Sw53.Out} (R:Rel s t os) (sd:Nat) (g:Sw53.Seg):Rel (oZ s (sd:Int) (aT g)) t (os++[(sd,(mj t g).bytes t.me sd)]):=by
 have e:(⟨s.mine,(aT g).fF,(aT g).acked,0,8,0,[],[]⟩:SG)=aT (mj t g):=by rw [R.mine];rfl
 unfold oZ uU;rw [e];have e0:s.out++[((sd:Int),uF (aT (mj t g)) s.me (sd:Int))]=(os++[(sd,(mj t g).bytes t.me sd)]).map cPc:=by
  rw [R.out,R.me,uE ⟨Nat.zero_le _,Nat.zero_le _,by simp [mj]⟩,List.map_append];rfl
 dsimp only [PS.gf];exact { R with out:=e0 }
theorem BX (t:SS) (d:Option Nat) (ti:Option (Nat×Nat)) (place:Nat) (b e r:Bool) (data:List Nat):Sw53.says { t with due:=d,timed:=ti } place b e r data=({ (Sw53.says t place b e r data).1 with due:=d,timed:=ti },(Sw53.says t place b e r data).2):=by
 by_cases h:t.known=true
 ·rw [cu h,cu (t:={ t with due:=d,timed:=ti }) h];rfl
 ·have h':t.known=false:=Bool.not_eq_true _▸h
  rw [bR h',bR (t:={ t with due:=d,timed:=ti }) h'];rfl
theorem uL {s:PS} {t:SS} {os:List Sw53.Out} {k:Nat} (R:Rel s t os) (I:Inv t k) {n w:Nat} (e1:t.now=n) (e2:t.wait=w):Rel (iy (dH s) 1) { t with due:=some (n+w),timed:=some (1,n) } os∧Inv { t with due:=some (n+w),timed:=some (1,n) } k:=by
 subst e1 e2;have e:some (s.now+s.wait)=some (((t.now+t.wait:Nat)):Int):=by rw [R.now,R.wait];rfl
 dsimp only [iy,dH];exact ⟨{ R with due:=e,timed:=.inr ⟨1,t.now,rfl,rfl,R.now,by tm_at "ob",Nat.le_refl _⟩ },{ I with }⟩
noncomputable def js (t:SS) (sd:Nat) (g:Sw53.Seg):SS:={ t with them:=sd,theirs:=g.src,irs:=g.number,next:=1,lim:=1+64*g.window,heard:=t.now }
theorem vy {s:PS} {t:SS} {os:List Sw53.Out} {k:Nat} (R:Rel s t os) (I:Inv t k) (h2:t.phase≤2) (sd:Nat) (g:Sw53.Seg):Rel (fu s (sd:Int) (aT g)) (js t sd g) os∧Inv (js t sd g) k:=by
 obtain ⟨n1,n2,n3,n4,n5,n6,n7⟩:=I.new h2;have er:1+64*(aT g).window=((1+64*g.window:Nat):Int):=by rw [show (aT g).window=(g.window:Int) from rfl];tm_at "ob"
 have ea:((0:Int))=(t.asks:Int):=by rw [n7];rfl
 dsimp only [fu,jt,dJ,PS.ji,PS.fj,PS.cD,PS.cZ,PS.fS,js];exact ⟨{ R with them:=rfl,theirs:=rfl,aK:=rfl,wanted:=rfl,room:=er,heard:=fun _ _=>⟨R.now,ea⟩ },
  { I with ne:=(by show 1≤t.edge+1;tm_at "ob"),ge:=(by show t.got.length+(t.edge - 1)≤65536;have:=I.ge;tm_at "ob"),pc:=(by show kj 1 t.edge t.pieces;rw [n2];exact kj.nil _ _),en:=(fun q=>by rw [show t.ended=true from q] at n4;cases n4) }⟩
theorem AY {s:PS} {t:SS} {os:List Sw53.Out} {k:Nat} (R:Rel s t os) (I:Inv t k) (h2:t.phase≤2) (hh:s.heard=(t.heard:Int)∧s.fg=(t.asks:Int)) (ht:t.nxt=1∧t.top=1):Rel (s.br 3) { t with phase:=3 } os∧Inv { t with phase:=3 } k:=by
 dsimp only [PS.br];exact ⟨{ R with phase:=rfl,heard:=fun _ _=>hh,cx:=fun (q:(3:Nat)=5)=>by tm_at "ob" },{ I with ph:=(by show (3:Nat)≤6;tm_at "ob"),early:=fun _=>I.early (by tm_at "ob"),t1:=fun _ _=>ht,p5:=fun (q:(3:Nat)=5)=>by tm_at "ob",new:=fun (q:(3:Nat)≤2)=>by tm_at "ob" }⟩
theorem bx {s:PS} {t:SS} {os:List Sw53.Out} {k n:Nat} (R:Rel s t os) (I:Inv t k) (U:U1 t) (o:t.owed≠2):df k s os (Sw53.done t) n:=⟨by show Rel s t (os++[]);rw [List.append_nil];exact R,I,U,o,Nat.zero_le _⟩
theorem oY {s:PS} {t:SS} {os:List Sw53.Out} {k n:Nat} (U:U1 t) (o:t.owed≠2) {place:Nat} {b e r:Bool} {data:List Nat} (h:Rel s (Sw53.says t place b e r data).1 (os++(Sw53.says t place b e r data).2)∧Inv (Sw53.says t place b e r data).1 k) (hn:1≤n):df k s os (Sw53.says t place b e r data) n:=by
 obtain ⟨ed,ad,ow,e1,h2,h3⟩:=gy t place b e r data;refine ⟨h.1,h.2,?_,?_,by tm_at "ob"⟩
 ·rw [e1];exact U
 ·rw [e1]
  rcases h2 with q | q
  ·show ow≠2;tm_at "ob"
  ·show ow≠2;rw [q.1];exact o
theorem CF {s:PS} {t:SS} {os:List Sw53.Out} {k:Nat} (R:Rel s t os) (I:Inv t k) (o:t.owed≠2) (h1:t.phase=1) (sd:Nat) {g:Sw53.Seg} (hd:g.dst=t.mine):df k (oK s (sd:Int) (aT g)) os (Sw53.waits t sd g) 1:=by
 have U:U1 t:=fun (q:4≤t.phase)=>by tm_at "ob"
 unfold oK Sw53.waits;rw [o8,uv,pj];by_cases c1:g.reset=true
 ·rw [if_pos c1,if_pos c1];exact bx R I U o
 ·rw [if_neg c1,if_neg c1]
  by_cases c2:g.ack=true
  ·rw [if_pos c2,if_pos c2,hd]
   exact ⟨pU R sd g,I,U,o,Nat.le_refl _⟩
  ·rw [if_neg c2,if_neg c2]
   by_cases c3:g.begin_=true
   ·rw [if_pos c3,if_neg (by rw [c3];decide)]
    obtain ⟨R1,I1⟩:=vy R I (by tm_at "ob") sd g;have hh:(fu s (sd:Int) (aT g)).heard=((js t sd g).heard:Int)∧(fu s (sd:Int) (aT g)).fg=((js t sd g).asks:Int):=by
     obtain ⟨n1,n2,n3,n4,n5,n6,n7⟩:=I.new (by tm_at "ob");dsimp only [fu,jt,dJ,PS.ji,PS.fj,PS.cD,PS.cZ,PS.fS,js];exact ⟨R.now,by rw [n7];rfl⟩
    have f1:(js t sd g).phase=1:=h1;have f2:(js t sd g).now=t.now:=rfl;have f3:(js t sd g).wait=t.wait:=rfl;have f4:(js t sd g).owed=t.owed:=rfl;have hs:{ t with phase:=3,them:=sd,theirs:=g.src,irs:=g.number,next:=1,lim:=1+64*g.window,nxt:=1,top:=1,due:=some (t.now+t.wait),timed:=some (1,t.now),heard:=t.now }=({ ({ js t sd g with nxt:=1,top:=1,phase:=3 }:SS) with due:=some (t.now+t.wait),timed:=some (1,t.now) }:SS):=rfl;rw [hs];unfold sR;generalize fu s (sd:Int) (aT g)=s1 at R1 hh ⊢;generalize js t sd g=t1 at R1 I1 hh f1 f2 f3 f4 ⊢;obtain ⟨y1,y2,y3,y4⟩:=I1.early (by tm_at "ob");have R2:Rel (((s1.br 3).aW 1).dt 1) { t1 with nxt:=1,top:=1,phase:=3 } os:=by
     obtain ⟨raw,q1,q2,q3⟩:=id R1.held;have hn:raw=[]:=by rw [y2] at q2;unfold vw at q2;exact (List.map_eq_nil_iff.mp q2.symm)
     dsimp only [PS.br,PS.aW,PS.dt];exact { R1 with phase:=rfl,au:=rfl,top:=rfl,held:=⟨raw,q1,q2,by rw [hn];exact kl.nil _ _⟩,heard:=fun _ _=>hh,cx:=fun (q:(3:Nat)=5)=>by tm_at "ob" }
    have I2:Inv { t1 with nxt:=1,top:=1,phase:=3 } k:=
     { I1 with ph:=(by show (3:Nat)≤6;tm_at "ob"),un:=(by show t1.una≤1;tm_at "ob"),nt:=Nat.le_refl _,tl:=(by show 1≤t1.total+2;tm_at "ob"),tc:=(fun (q:1=t1.total+2)=>by tm_at "ob"),early:=fun _=>⟨y1,y2,y3,y4⟩,t1:=fun _ _=>⟨rfl,rfl⟩,p5:=fun (q:(3:Nat)=5)=>by tm_at "ob",new:=fun (q:(3:Nat)≤2)=>by tm_at "ob" }
    obtain ⟨R3,I3⟩:=pD R2 I2;rw [BX];obtain ⟨ed,ad,ow,e1,h2,h3⟩:=gy { t1 with nxt:=1,top:=1,phase:=3 } 0 true false false [];have g1:(Sw53.says { t1 with nxt:=1,top:=1,phase:=3 } 0 true false false []).1.now=t.now:=by rw [e1];exact f2
    have g2:(Sw53.says { t1 with nxt:=1,top:=1,phase:=3 } 0 true false false []).1.wait=t.wait:=by rw [e1];exact f3
    have g3:(Sw53.says { t1 with nxt:=1,top:=1,phase:=3 } 0 true false false []).1.phase=3:=by rw [e1]
    have g4:(Sw53.says { t1 with nxt:=1,top:=1,phase:=3 } 0 true false false []).1.owed≠2:=by
     rw [e1];rcases h2 with q | q
     ·show ow≠2;tm_at "ob"
     ·show ow≠2;rw [q.1];show t1.owed≠2;rw [f4];exact o
    generalize Sw53.says { t1 with nxt:=1,top:=1,phase:=3 } 0 true false false []=y at R3 I3 g1 g2 g3 g4 h3 ⊢;obtain ⟨R4,I4⟩:=uL R3 I3 g1 g2;exact ⟨R4,I4,fun (q:4≤y.1.phase)=>by tm_at "ob",g4,by show y.2.length≤1;tm_at "ob"⟩
   ·rw [if_neg c3,if_pos (Bool.not_eq_true _▸c3)]
    exact bx R I U o
theorem C3 {iss n:Nat} (hn:n<4294967296):(bE (n:Int) (iss:Int) ((1:Nat):Int)=V.int 1)↔n=(iss+1) % Sw53.M:=by
 have hM:Sw53.M=4294967296:=rfl;rw [qY,vb,hM];obtain ⟨d,e1,e2,hd⟩:=E7 n iss 1;rw [e1];have e3:d=0↔n=(iss+1) % 4294967296:=by omega
 rw [←e3];by_cases c1:d<2147483648
 ·rw [if_pos c1]
  constructor
  ·intro h
   have h:V.int ((1+d:Nat):Int)=V.int 1:=h;injection h with h;omega
  ·intro h;subst h;rfl
 ·rw [if_neg c1]
  constructor
  ·intro h
   by_cases c2:4294967296≤1+d
   ·rw [if_pos c2] at h
    have h:V.int ((1+d - 4294967296:Nat):Int)=V.int 1:=h;injection h with h;omega
   ·rw [if_neg c2] at h;cases h
  ·intro h;omega
theorem wY {s:PS} {t:SS} {os:List Sw53.Out} (R:Rel s t os) {g:Sw53.Seg} (hg:g.acked<4294967296) (ht:t.top=1):di s (aT g)=(g.ack && g.acked == (t.iss+1) % Sw53.M):=by
 unfold di;rw [uv,R.base,R.top,ht,show (aT g).acked=(g.acked:Int) from rfl];congr 1;rw [Bool.eq_iff_iff,decide_eq_true_eq,C3 hg,beq_iff_eq]
theorem wO (t:SS) (p a:Nat):Sw53.measure { t with phase:=p } a = { Sw53.measure t a with phase:=p }:=by
 unfold Sw53.measure;dsimp only;split
 ·rfl
 ·split <;> rfl
noncomputable def EM (t:SS) (sd:Nat) (g:Sw53.Seg):SS:={ Sw53.measure (js t sd g) 1 with phase:=4,una:=1,due:=none,tries:=0 }
theorem EL {s:PS} {t:SS} {os:List Sw53.Out} {k:Nat} (R:Rel s t os) (I:Inv t k) (h2:t.phase=2) (o:t.owed≠2) (hk:k≤16000) (ho:os.length≤500000) (sd:Nat) (g:Sw53.Seg) :
  yU (fu s (sd:Int) (aT g))∧df k (mR (fu s (sd:Int) (aT g))) os ((Sw53.ackNow (EM t sd g)).then_ Sw53.pushAll) 5000:=by
 obtain ⟨R1,I1⟩:=vy R I (by omega) sd g;have hh:(fu s (sd:Int) (aT g)).heard=((js t sd g).heard:Int)∧(fu s (sd:Int) (aT g)).fg=((js t sd g).asks:Int):=by
  obtain ⟨n1,n2,n3,n4,n5,n6,n7⟩:=I.new (by omega);dsimp only [fu,jt,dJ,PS.ji,PS.fj,PS.cD,PS.cZ,PS.fS,js];exact ⟨R.now,by rw [n7];rfl⟩
 have f1:(js t sd g).phase=2:=h2;have f2:(js t sd g).owed=t.owed:=rfl;unfold mR EM;generalize fu s (sd:Int) (aT g)=s1 at R1 hh ⊢;generalize js t sd g=t1 at R1 I1 hh f1 f2 ⊢;obtain ⟨y1,y2,y3,y4⟩:=I1.early (by omega);obtain ⟨y5,y6⟩:=I1.t1 (by omega) (by omega);have R2:Rel (s1.br 4) { t1 with phase:=4 } os:=by
  dsimp only [PS.br];exact { R1 with phase:=rfl,heard:=fun _ _=>hh,cx:=fun (q:(4:Nat)=5)=>by omega }
 have I2:Inv { t1 with phase:=4 } k:={ I1 with ph:=(by show (4:Nat)≤6;omega),early:=fun (q:(4:Nat)≤3)=>by omega,t1:=fun _ (q:(4:Nat)≤3)=>by omega,p5:=fun (q:(4:Nat)=5)=>by omega,new:=fun (q:(4:Nat)≤2)=>by omega };obtain ⟨R3,I3⟩:=tG R2 I2 1;rw [wO] at R3 I3;obtain ⟨m,o',b,w,ti,em⟩:=jI t1 1;have g1:(Sw53.measure t1 1).una=0:=by rw [em];exact y1
 have g2:(Sw53.measure t1 1).nxt=1:=by rw [em];exact y5
 have g3:(Sw53.measure t1 1).held=[]:=by rw [em];exact y2
 have g4:(Sw53.measure t1 1).owed=t.owed:=by rw [em];exact f2
 have es:pX s1=(((dO (s1.br 4) 1).jN 1).dg 0).dE none:=rfl;have R3:Rel (dO (s1.br 4) 1) { Sw53.measure t1 1 with phase:=4 } os:=R3;have R4:Rel (pX s1) { Sw53.measure t1 1 with phase:=4,una:=1,due:=none,tries:=0 } os:=by
  rw [es];generalize dO (s1.br 4) 1=s3 at R3 ⊢;generalize Sw53.measure t1 1=t3 at R3 g3 ⊢;obtain ⟨raw,q1,q2,q3⟩:=id R3.held;have hn:raw=[]:=by rw [show ({ t3 with phase:=4 }:SS).held=[] from g3] at q2;unfold vw at q2;exact (List.map_eq_nil_iff.mp q2.symm)
  subst hn;dsimp only [PS.jN,PS.dg,PS.dE];exact { R3 with first:=rfl,tries:=rfl,due:=rfl,held:=⟨[],q1,g3,kl.nil _ _⟩ }
 have I4:Inv { Sw53.measure t1 1 with phase:=4,una:=1,due:=none,tries:=0 } k:=by
  generalize Sw53.measure t1 1=t3 at I3 g1 g2 ⊢;have ol:=I3.wH;exact { I3 with wH:=(by show t3.out.length=t3.total+1 - max 1 1;have ol:t3.out.length=t3.total+1 - max t3.una 1:=ol;rw [ol,g1];rfl),un:=(by show 1≤t3.nxt;omega),early:=fun (q:(4:Nat)≤3)=>by omega,t1:=fun _ (q:(4:Nat)≤3)=>by omega,p5:=fun (q:(4:Nat)=5)=>by omega,tr:=Nat.zero_le _ }
 have o4:({ Sw53.measure t1 1 with phase:=4,una:=1,due:=none,tries:=0 }:SS).owed≠2:=by show (Sw53.measure t1 1).owed≠2;rw [g4];exact o
 have f4:({ Sw53.measure t1 1 with phase:=4,una:=1,due:=none,tries:=0 }:SS).phase=4∧({ Sw53.measure t1 1 with phase:=4,una:=1,due:=none,tries:=0 }:SS).una=1:=⟨rfl,rfl⟩;generalize ({ Sw53.measure t1 1 with phase:=4,una:=1,due:=none,tries:=0 }:SS)=t4 at R4 I4 o4 f4 ⊢;obtain ⟨R5,I5⟩:=yP R4 I4;have A:=oY (n:=1) (fun _ _=>by omega) o4 ⟨R5,I5⟩ (by omega);obtain ⟨ed,ad,ow,e1,h2',h3⟩:=gy t4 t4.top false false false [];have p5:(Sw53.ackNow t4).1.phase=4:=by unfold Sw53.ackNow;rw [e1];exact f4.1
 have u5:(Sw53.ackNow t4).1.una=1:=by unfold Sw53.ackNow;rw [e1];exact f4.2
 have l5:(Sw53.ackNow t4).2.length=1:=h3;have o5:(Sw53.ackNow t4).1.owed≠2:=A.o;show yU _∧df k _ os ((Sw53.pushAll (Sw53.ackNow t4).1).1,(Sw53.ackNow t4).2++(Sw53.pushAll (Sw53.ackNow t4).1).2) 5000;have oo:(pX s1).out.length≤1000000:=by rw [R4.out,List.length_map];omega
 obtain ⟨S1,S2,S3,S4,S5⟩:=jk R5 I5 (fun _ _=>by omega) hk (by rw [List.length_append];omega);refine ⟨⟨oo,S1⟩,by rw [←List.append_assoc];exact S2,S3,?_,?_,by simp only [List.length_append];omega⟩
 ·obtain ⟨nx,ed,ad,ow,tp,ti,du,ev,_⟩:=S4
  intro _ _;rw [ev];show 1≤(Sw53.ackNow t4).1.una;omega
 ·obtain ⟨nx,ed,ad,ow,tp,ti,du,ev,hv⟩:=S4
  rw [ev];show ow≠2;rcases hv with q | q
  ·rw [q];exact o5
  ·omega
theorem DP {s:PS} {t:SS} {os:List Sw53.Out} {k:Nat} (R:Rel s t os) (I:Inv t k) (h2:t.phase=2) (o:t.owed≠2) (hk:k≤16000) (ho:os.length≤500000) {g:Sw53.Seg} (ha:g.acked<4294967296) (hs:g.src=t.theirs) :
  yX s (t.them:Int) (aT g)∧df k (lR s (t.them:Int) (aT g)) os (Sw53.begun t g) 5000:=by
 have U:U1 t:=fun (q:4≤t.phase)=>by omega
 have tt:=I.t1 (by omega) (by omega);obtain ⟨O1,O2⟩:=EL R I h2 o hk ho t.them g;refine ⟨⟨by rw [R.out,List.length_map];omega,O1⟩,?_⟩;have er:=wY R ha tt.2;have em:js t t.them g = { t with irs:=g.number,next:=1,lim:=1+64*g.window,heard:=t.now }:=by unfold js;rw [hs]
 unfold lR Sw53.begun;rw [er,o8,uv,pj];dsimp only;generalize hr:(g.ack && g.acked == (t.iss+1) % Sw53.M)=r;have ra:r=true→g.ack=true:=fun q=>by rw [←hr,Bool.and_eq_true] at q;exact q.1
 by_cases c1:g.reset=true
 ·rw [if_pos c1]
  by_cases c2:r=true
  ·have c4:=ra c2
   rw [if_pos c2,if_neg (show ¬(g.ack=true∧r=false) from fun q=>by rw [c2] at q;cases q.2),if_pos c1,if_pos c2];obtain ⟨R1,I1⟩:=gN R I 2;exact bx R1 I1 (fun (_:(4:Nat)≤6) (q:(6:Nat)≤5)=>by omega) (by show (0:Nat)≠2;omega)
  ·rw [if_neg c2]
   have c2':r=false:=Bool.not_eq_true _▸c2;rw [c2'];by_cases c3:g.ack=true
   ·rw [if_pos ⟨c3,rfl⟩,if_pos c1];exact bx R I U o
   ·rw [if_neg (fun q=>c3 q.1),if_pos c1,if_neg Bool.false_ne_true];exact bx R I U o
 ·rw [if_neg c1]
  by_cases c2:g.ack=true∧¬r=true
  ·have c2':r=false:=Bool.not_eq_true _▸c2.2
   rw [if_pos c2,if_pos ⟨c2.1,c2'⟩,if_neg c1];have:=pU R t.them g;have e:mj t g=⟨t.mine,t.theirs,g.acked,0,false,false,false,true,0,[],[]⟩:=by unfold mj;rw [hs]
   rw [e] at this;exact ⟨this,I,U,o,by show 1≤5000;omega⟩
  ·rw [if_neg c2,if_neg (show ¬(g.ack=true∧r=false) from fun q=>c2 ⟨q.1,by rw [q.2];exact Bool.false_ne_true⟩),if_neg c1]
   by_cases c3:g.begin_=true
   ·rw [if_pos c3,if_neg (show ¬g.begin_=false by rw [c3];decide)]
    by_cases c4:r=true
    ·rw [if_pos c4,if_pos c4]
     unfold EM at O2;rw [em] at O2;exact O2
    ·rw [if_neg c4,if_neg c4]
     obtain ⟨R1,I1⟩:=vy R I (by omega) t.them g;have hh:(fu s (t.them:Int) (aT g)).heard=((js t t.them g).heard:Int)∧(fu s (t.them:Int) (aT g)).fg=((js t t.them g).asks:Int):=by
      obtain ⟨n1,n2,n3,n4,n5,n6,n7⟩:=I.new (by omega);dsimp only [fu,jt,dJ,PS.ji,PS.fj,PS.cD,PS.cZ,PS.fS,js];exact ⟨R.now,by rw [n7];rfl⟩
     obtain ⟨R2,I2⟩:=AY R1 I1 (by show t.phase≤2;omega) hh tt;unfold js at R2 I2;dsimp only at R2 I2;rw [hs] at R2 I2;refine oY (t:={ t with irs:=g.number,next:=1,lim:=1+64*g.window,heard:=t.now,phase:=3 }) ?_ ?_ (pD R2 I2) (by omega)
     ·exact fun (q:(4:Nat)≤3)=>by omega
     ·exact o
   ·rw [if_neg c3,if_pos (show g.begin_=false from Bool.not_eq_true _▸c3)]
    exact bx R I U o
theorem Fy {s:PS} {t:SS} {os:List Sw53.Out} (R:Rel s t os) (g:Sw53.Seg) (p:Option Nat):rm s (aT g) (Cd p)=t.fits p (g.data.length+(g.end_.toNat+g.begin_.toNat)):=by
 cases p with
 | none=>rfl
 | some p =>
  have es:xi (aT g)=((g.data.length+(g.end_.toNat+g.begin_.toNat):Nat):Int):=by
   unfold xi;rw [pj,o9,show (aT g).data=cI g.data from rfl,ba]
   cases g.begin_ <;> cases g.end_ <;> simp [b1] <;> omega
  show rm s (aT g) (V.int (p:Int))=_;unfold rm Sw53.Side.fits;dsimp only;rw [es,R.edge,R.wanted];generalize g.data.length+(g.end_.toNat+g.begin_.toNat)=n;by_cases c:n=0
  ·rw [if_neg (by omega),if_pos c]
   by_cases c1:t.next≤p
   ·rw [if_pos (by omega),decide_eq_true c1,Bool.true_and]
    exact decide_eq_decide.mpr ⟨fun _=>by omega,fun _=>by omega⟩
   ·rw [if_neg (by omega),decide_eq_false c1,Bool.false_and]
  ·rw [if_pos (by omega),if_neg c]
   by_cases c1:p<t.edge
   ·rw [if_pos (by omega),decide_eq_true c1,Bool.true_and]
    exact decide_eq_decide.mpr ⟨fun _=>by omega,fun _=>by omega⟩
   ·rw [if_neg (by omega),decide_eq_false c1,Bool.false_and]
theorem CZ (t:SS) (v:Nat) (place:Nat) (b e r:Bool) (data:List Nat):Sw53.says { t with till:=v } place b e r data=({ (Sw53.says t place b e r data).1 with till:=v },(Sw53.says t place b e r data).2):=by
 by_cases h:t.known=true
 ·rw [cu h,cu (t:={ t with till:=v }) h];rfl
 ·have h':t.known=false:=Bool.not_eq_true _▸h
  rw [bR h',bR (t:={ t with till:=v }) h'];rfl
theorem lU {s:PS} {t:SS} {os:List Sw53.Out} {k n:Nat} (R:Rel s t os) (I:Inv t k) (U:U1 t) (o:t.owed≠2) (hn:1≤n):df k (bP s) os (Sw53.ackNow t) n:=oY U o (yP R I) hn
theorem CG {s:PS} {t:SS} {os:List Sw53.Out} {k:Nat} (R:Rel s t os) (I:Inv t k) (U:U1 t) (o:t.owed≠2):df k (if (bP s).phase=5 then cx (bP s) else bP s) os (Sw53.ackNow (if t.phase=5 then { t with till:=t.now+60000 } else t)) 5000:=by
 have D:=lU (n:=5000) R I U o (by omega);obtain ⟨ed,ad,ow,e1,h2,h3⟩:=gy t t.top false false false [];have p1:(Sw53.ackNow t).1.phase=t.phase:=by unfold Sw53.ackNow;rw [e1]
 have n1:(Sw53.ackNow t).1.now=t.now:=by unfold Sw53.ackNow;rw [e1]
 by_cases c:t.phase=5
 ·have ep:(bP s).phase=5:=by rw [D.r.phase,p1];omega
  rw [if_pos ep,if_pos c];have eA:Sw53.ackNow { t with till:=t.now+60000 }=({ (Sw53.ackNow t).1 with till:=t.now+60000 },(Sw53.ackNow t).2):=CZ t _ _ _ _ _ _;rw [eA];obtain ⟨D1,D2,D3,D4,D5⟩:=D;generalize bP s=s1 at D1 ep ⊢;generalize Sw53.ackNow t=y at D1 D2 D3 D4 D5 p1 n1 ⊢;have en:some (s1.now+60000)=some (((t.now+60000:Nat)):Int):=by rw [D1.now,n1];rfl
  have eph:(5:Int)=(y.1.phase:Int):=by rw [p1,c];rfl
  refine ⟨?_,{ D2 with },D3,D4,D5⟩;dsimp only [cx];exact { D1 with phase:=eph,cx:=fun _=>en }
 ·have ep:¬(bP s).phase=5:=by rw [D.r.phase,p1];omega
  rw [if_neg ep,if_neg c];exact D
theorem Kv (t:SS) (a:Nat) (g:Sw53.Seg):t4 t a g = { t with phase:=if t.phase=3 then 4 else t.phase,tries:=0,lim:=max t.lim (a+64*g.window),held:=(g.ranges.filterMap (sY Sw53.placeOf t.iss t.top t.una a)).foldl (fun (l:List (Nat×Nat)) (r:Nat×Nat)=>Sw53.join r.1 r.2 l) t.held }:=by
 unfold t4 gY t3;dsimp only
noncomputable def Kf (t:SS) (place:Nat) (g:Sw53.Seg) (a:Nat):Sw53.Does:=
 if g.reset=true then (if place=t.next then Sw53.done (Sw53.over t 2) else Sw53.ackNow t)
  else if g.begin_=true then Sw53.ackNow t
  else if g.ack=false then Sw53.done t
  else if t.phase=3∧(a=0∨t.top<a) then Sw53.refuse t t.them t.mine t.theirs g.acked
   else if t.top<a then Sw53.ackNow t
   else uC t a place g
theorem BE (t0:SS) (g:Sw53.Seg):Sw53.arrives t0 g=if t0.fits (Sw53.placeOf t0.irs t0.next g.number) (g.data.length+(g.end_.toNat+g.begin_.toNat))=false then (if g.reset=true then Sw53.done t0 else Sw53.ackNow (if t0.phase=5 then { t0 with till:=t0.now+60000 } else t0))
  else Kf { t0 with heard:=t0.now,asks:=0 } ((Sw53.placeOf t0.irs t0.next g.number).getD 0) g ((Sw53.placeOf t0.iss t0.top g.acked).getD 0):=by
 delta Sw53.arrives;extract_lets p len s place a quiet ranges t;have hr:ranges=g.ranges.filterMap (sY Sw53.placeOf s.iss s.top s.una a):=rfl;have ht:t=t4 s a g:=by
  rw [Kv,←hr]
 have hq:quiet=qt s a g:=rfl;rw [ht,hq];rfl
theorem AA {s:PS} {t:SS} {os:List Sw53.Out} {k:Nat} (R:Rel s t os) (I:Inv t k) (U:U1 t) (o:t.owed≠2) (h3:3≤t.phase) (h5:t.phase≤5) {g:Sw53.Seg} (hg:rG g) (hk:k+14*g.ranges.length≤16000) (ho:os.length≤500000) (hs:g.src=t.theirs) :
  BL s (t.them:Int) (aT g)∧df (k+14*g.ranges.length) (kg s (t.them:Int) (aT g)) os (Sw53.arrives t g) 5000:=by
 have I':=I.mono (Nat.le_add_right k (14*g.ranges.length));obtain ⟨R1,I1⟩:=Fn R I;have hol:s.out.length≤1000000:=by rw [R.out,List.length_map];tm_at "ob"
 have en:bE (aT g).number s.aK s.wanted=Cd (Sw53.placeOf t.irs t.next g.number):=by rw [show (aT g).number=(g.number:Int) from rfl,R.aK,R.wanted,qY]
 have ef:=Fy R g (Sw53.placeOf t.irs t.next g.number);have ea:=xG R1 g;have main:∀place:Nat,¬((jt s).phase=3∧¬(1≤aX (jt s) (aT g)∧aX (jt s) (aT g)≤(jt s).top))→¬(jt s).top<aX (jt s) (aT g)→lV (tk1 (jt s)) (aT g) (aX (jt s) (aT g)) (place:Int)∧df (k+14*g.ranges.length) (xa (tk1 (jt s)) (aT g) (aX (jt s) (aT g)) (place:Int)) os (uC { t with heard:=t.now,asks:=0 } ((Sw53.placeOf t.iss t.top g.acked).getD 0) place g) 5000:=fun place c1 c2=>by
  rw [ea,R1.phase,R1.top] at c1;rw [ea,R1.top] at c2;rw [ea];exact BH R1 I1 U h3 h5 hg hk ho place (fun q=>by
   have q:t.phase=3:=q;have c1:¬((t.phase:Int)=3∧¬(1≤(((Sw53.placeOf t.iss t.top g.acked).getD 0:Nat):Int)∧(((Sw53.placeOf t.iss t.top g.acked).getD 0:Nat):Int)≤(t.top:Int))):=c1;show 1≤(Sw53.placeOf t.iss t.top g.acked).getD 0;generalize (Sw53.placeOf t.iss t.top g.acked).getD 0=a at c1;tm_at "ob") (by
   have c2:¬(t.top:Int)<(((Sw53.placeOf t.iss t.top g.acked).getD 0:Nat):Int):=c2;show (Sw53.placeOf t.iss t.top g.acked).getD 0≤t.top;generalize (Sw53.placeOf t.iss t.top g.acked).getD 0=a at c2;tm_at "ob")
 refine ⟨⟨hol,fun pl e1 e2=>⟨hol,?_⟩⟩,?_⟩
 ·cases hp:Sw53.placeOf t.irs t.next g.number with
  | none=>rw [en,hp] at e1;cases e1
  | some p =>
   rw [en,hp] at e1;injection e1 with e1;rw [←e1];exact fun c1 c2=>(main p c1 c2).1
 ·rw [BE]
  unfold kg;rw [en];have unfit:df (k+14*g.ranges.length) (if (!fE (aT g) 8)=true then (if (bP s).phase=5 then cx (bP s) else bP s) else s) os (if g.reset=true then Sw53.done t else Sw53.ackNow (if t.phase=5 then { t with till:=t.now+60000 } else t)) 5000:=by
   rw [o8];by_cases c:g.reset=true
   ·rw [if_pos c,if_neg (by rw [c];decide)]
    exact bx R I' U o
   ·have c':g.reset=false:=Bool.not_eq_true _▸c
    rw [if_neg c,if_pos (by rw [c'];rfl)];exact CG R I' U o
  cases hp:Sw53.placeOf t.irs t.next g.number with
  | none =>
   rw [if_pos (show t.fits none _=false from rfl)];exact unfit
  | some p =>
   rw [hp] at ef;show df _ (if rm s (aT g) (V.int (p:Int))=true then jf (jt s) (t.them:Int) (aT g) (p:Int) else _) os _ 5000;have ef:rm s (aT g) (V.int (p:Int))=t.fits (some p) (g.data.length+(g.end_.toNat+g.begin_.toNat)):=ef;rw [ef]
   cases hfit:t.fits (some p) (g.data.length+(g.end_.toNat+g.begin_.toNat)) with
   | false =>
    rw [if_pos rfl,if_neg Bool.false_ne_true];exact unfit
   | true =>
    rw [if_pos rfl,if_neg (by decide)];have U2:U1 { t with heard:=t.now,asks:=0 }:=U;have I2:=I1.mono (Nat.le_add_right k (14*g.ranges.length));have M:=main p;have f1:({ t with heard:=t.now,asks:=0 }:SS).next=t.next:=rfl;have f2:({ t with heard:=t.now,asks:=0 }:SS).them=t.them∧({ t with heard:=t.now,asks:=0 }:SS).theirs=t.theirs∧({ t with heard:=t.now,asks:=0 }:SS).iss=t.iss∧({ t with heard:=t.now,asks:=0 }:SS).top=t.top∧({ t with heard:=t.now,asks:=0 }:SS).phase=t.phase:=⟨rfl,rfl,rfl,rfl,rfl⟩;have o2:({ t with heard:=t.now,asks:=0 }:SS).owed≠2:=o;generalize ({ t with heard:=t.now,asks:=0 }:SS)=t1 at R1 I2 U2 M f1 f2 o2 ea ⊢;generalize jt s=s1 at R1 M ea ⊢;obtain ⟨f3,f4,f5,f6,f7⟩:=f2;have hol1:True:=trivial;unfold jf;rw [o8,pj,uv,R1.wanted];show df _ _ os (Kf t1 p g _) 5000;unfold Kf;by_cases c1:g.reset=true
    ·rw [if_pos c1,if_pos c1]
     by_cases c2:p=t1.next
     ·rw [if_pos (by tm_at "ob"),if_pos c2]
      obtain ⟨R3,I3⟩:=gN R1 I2 2;exact bx R3 I3 (fun (_:(4:Nat)≤6) (q:(6:Nat)≤5)=>by tm_at "ob") (by show (0:Nat)≠2;tm_at "ob")
     ·rw [if_neg (by tm_at "ob"),if_neg c2]
      exact lU R1 I2 U2 o2 (by tm_at "ob")
    ·rw [if_neg c1,if_neg c1]
     by_cases c2:g.begin_=true
     ·rw [if_pos c2,if_pos c2]
      exact lU R1 I2 U2 o2 (by tm_at "ob")
     ·rw [if_neg c2,if_neg c2]
      by_cases c3:g.ack=true
      ·rw [if_pos c3,if_neg (show ¬g.ack=false by rw [c3];decide)]
       unfold lW;have ea':aX s1 (aT g)=(((Sw53.placeOf t1.iss t1.top g.acked).getD 0:Nat):Int):=xG R1 g;rw [f5,f6] at ea';rw [ea'] at M ⊢;generalize (Sw53.placeOf t.iss t.top g.acked).getD 0=a at M ⊢;rw [R1.phase,R1.top] at M ⊢;by_cases c4:t1.phase=3∧(a=0∨t1.top<a)
       ·rw [if_pos c4,if_pos (show ((t1.phase:Nat):Int)=3∧¬(1≤(a:Int)∧(a:Int)≤(t1.top:Int)) from ⟨by tm_at "ob",by tm_at "ob"⟩)]
        have:=pU R1 t1.them g;have e:mj t1 g=⟨t1.mine,t1.theirs,g.acked,0,false,false,false,true,0,[],[]⟩:=by unfold mj;rw [hs,←f4]
        rw [e] at this;rw [←f3];exact ⟨this,I2,U2,o2,by show 1≤5000;tm_at "ob"⟩
       ·have c4':¬(((t1.phase:Nat):Int)=3∧¬(1≤(a:Int)∧(a:Int)≤(t1.top:Int))):=fun q=>c4 ⟨by tm_at "ob",by tm_at "ob"⟩
        rw [if_neg c4,if_neg c4'];by_cases c5:t1.top<a
        ·rw [if_pos c5,if_pos (show (t1.top:Int)<(a:Int) by tm_at "ob")]
         exact lU R1 I2 U2 o2 (by tm_at "ob")
        ·rw [if_neg c5,if_neg (show ¬(t1.top:Int)<(a:Int) by tm_at "ob")]
         exact (M c4' (by tm_at "ob")).2
      ·rw [if_neg c3,if_pos (show g.ack=false from Bool.not_eq_true _▸c3)]
       exact bx R1 I2 U2 o2
theorem FP {s:PS} {t:SS} {os:List Sw53.Out} {k:Nat} (R:Rel s t os) (I:Inv t k) (U:U1 t) (o:t.owed≠2) (h1:1≤t.phase) (h5:t.phase≤5) {g:Sw53.Seg} (hg:rG g) (ha:g.acked<4294967296) (hk:k+14*g.ranges.length≤16000) (ho:os.length≤500000) {sd:Nat} (hd:g.dst=t.mine) (hs:t.phase≠1→sd=t.them∧g.src=t.theirs) :
  yV s (sd:Int) (aT g)∧df (k+14*g.ranges.length) (xw s (sd:Int) (aT g)) os (if t.phase=1 then Sw53.waits t sd g else if t.phase=2 then Sw53.begun t g else Sw53.arrives t g) 5000:=by
 have hol:s.out.length≤1000000:=by rw [R.out,List.length_map];tm_at "ob"
 have I':=I.mono (Nat.le_add_right k (14*g.ranges.length));unfold xw;rw [R.phase];by_cases c1:t.phase=1
 ·rw [if_pos c1,if_pos (show ((t.phase:Nat):Int)=1 by tm_at "ob")]
  refine ⟨⟨hol,fun q=>by rw [R.phase] at q;tm_at "ob",fun q=>by rw [R.phase] at q;tm_at "ob"⟩,?_⟩;have D:=CF R I' o c1 sd hd;exact ⟨D.r,D.i,D.u,D.o,by have:=D.n;tm_at "ob"⟩
 ·obtain ⟨e1,e2⟩:=hs c1
  subst e1;rw [if_neg c1,if_neg (show ¬((t.phase:Nat):Int)=1 by tm_at "ob")];by_cases c2:t.phase=2
  ·rw [if_pos c2,if_pos (show ((t.phase:Nat):Int)=2 by tm_at "ob")]
   obtain ⟨B1,B2⟩:=DP R I' c2 o hk ho ha e2;exact ⟨⟨hol,fun _=>B1,fun _ q=>by rw [R.phase] at q;tm_at "ob"⟩,B2⟩
  ·rw [if_neg c2,if_neg (show ¬((t.phase:Nat):Int)=2 by tm_at "ob")]
   obtain ⟨B1,B2⟩:=AA R I U o (by tm_at "ob") h5 hg hk ho e2;exact ⟨⟨hol,fun q=>by rw [R.phase] at q;tm_at "ob",fun _ _=>B1⟩,B2⟩
theorem uY:∀(f:Nat) (t:SS),t.due≠none→(Sw53.push f t).1.due=t.due
 | 0,t,_=>rfl
 | f+1,t,h=>by
  have sd:∀place n e,(Sw53.sends t place n e).1.due=t.due:=fun place n e=>by
   unfold Sw53.sends;dsimp only;rw [if_neg h]
  have go:∀place n e v,(Sw53.push f { (Sw53.sends t place n e).1 with nxt:=v }).1.due=t.due:=fun place n e v=>(uY f { (Sw53.sends t place n e).1 with nxt:=v } (show (Sw53.sends t place n e).1.due≠none by rw [sd];exact h)).trans (sd place n e);rw [o6];split
  ·rfl
  ·split
   ·rename_i r _
    exact uY f { t with nxt:=r.2 } h
   ·split
    ·split
     ·rfl
     ·exact go _ _ _ _
    ·split
     ·exact go _ _ _ _
     ·rfl
theorem C9 (f:Nat) (t:SS) (hh:t.held=[]) (h:(Sw53.push (f+1) t).2=[]):(Sw53.push (f+1) t).1=t:=by
 have sl:∀place n e (x:Sw53.Does),(((Sw53.sends t place n e).2++x.2)=[])→False:=fun place n e x q=>by
  obtain ⟨_,_,_,_,_,_,_,e2,_⟩:=mh t place n e;have:=congrArg List.length q;rw [List.length_append,e2] at this;simp at this
 rw [o6] at h ⊢;rw [hh] at h ⊢;rw [List.find?_nil] at h ⊢;split at h
 ·rename_i c;rw [if_pos c];rfl
 ·rename_i c
  rw [if_neg c];dsimp only at h ⊢;split at h
  ·rename_i c1
   rw [if_pos c1];split at h
   ·rename_i c2;rw [if_pos c2];rfl
   ·exact (sl _ _ _ _ h).elim
  ·rename_i c1
   rw [if_neg c1];split at h
   ·exact (sl _ _ _ _ h).elim
   ·rename_i c2;rw [if_neg c2];rfl
theorem C0 (t:SS) (n w:Nat) (d:Option Nat) (ti:Option (Nat×Nat)) (place:Nat) (b e r:Bool) (data:List Nat):Sw53.says { t with tries:=n,wait:=w,due:=d,timed:=ti } place b e r data=({ (Sw53.says t place b e r data).1 with tries:=n,wait:=w,due:=d,timed:=ti },(Sw53.says t place b e r data).2):=by
 by_cases h:t.known=true
 ·rw [cu h,cu (t:={ t with tries:=n,wait:=w,due:=d,timed:=ti }) h];rfl
 ·have h':t.known=false:=Bool.not_eq_true _▸h
  rw [bR h',bR (t:={ t with tries:=n,wait:=w,due:=d,timed:=ti }) h'];rfl
theorem GV (t:SS) (w:Nat) (d:Option Nat) (place:Nat) (b e r:Bool) (data:List Nat):Sw53.says { t with wait:=w,due:=d } place b e r data=({ (Sw53.says t place b e r data).1 with wait:=w,due:=d },(Sw53.says t place b e r data).2):=by
 by_cases h:t.known=true
 ·rw [cu h,cu (t:={ t with wait:=w,due:=d }) h];rfl
 ·have h':t.known=false:=Bool.not_eq_true _▸h
  rw [bR h',bR (t:={ t with wait:=w,due:=d }) h'];rfl
theorem Ep (t:SS) (w v:Nat) (place n:Nat) (e:Bool):Sw53.sends { t with wait:=w,due:=some v } place n e=({ (Sw53.sends t place n e).1 with wait:=w,due:=some v },(Sw53.sends t place n e).2):=by
 unfold Sw53.sends;dsimp only;rw [show ({ t with wait:=w,due:=some v }:SS).bytesAt place n=t.bytesAt place n from rfl,GV,if_neg (show ¬(some v:Option Nat)=none from fun q=>by cases q)]
theorem DU {s:PS} {t:SS} {os:List Sw53.Out} {k:Nat} (R:Rel s t os) (I:Inv t k) (o:t.owed≠2) (h2:2≤t.phase) (h3:t.phase≤3):df k (iS s) os (if t.tries=5 then Sw53.done (Sw53.over t 3) else Sw53.says { t with tries:=t.tries+1,wait:=min 60000 (2*t.wait),due:=some (t.now+min 60000 (2*t.wait)),timed:=none } 0 true false false []) 5000:=by
 have te:=(I.early h3).2.2.2;unfold iS;rw [R.tries];by_cases c:t.tries=5
 ·rw [if_pos c,if_pos (by tm_at "ob")]
  obtain ⟨R3,I3⟩:=gN R I 3;exact bx R3 I3 (fun (_:(4:Nat)≤6) (q:(6:Nat)≤5)=>by tm_at "ob") (by show (0:Nat)≠2;tm_at "ob")
 ·rw [if_neg c,if_neg (by tm_at "ob"),C0]
  obtain ⟨R1,I1⟩:=pD R I;obtain ⟨ed,ad,ow,e1,hv,h3'⟩:=gy t 0 true false false [];have f1:(Sw53.says t 0 true false false []).1.tries=t.tries∧(Sw53.says t 0 true false false []).1.wait=t.wait∧(Sw53.says t 0 true false false []).1.now=t.now∧(Sw53.says t 0 true false false []).1.phase=t.phase:=by rw [e1];exact ⟨rfl,rfl,rfl,rfl⟩
  have f2:(Sw53.says t 0 true false false []).1.owed≠2:=by
   rw [e1];rcases hv with q | q
   ·show ow≠2;tm_at "ob"
   ·show ow≠2;rw [q.1];exact o
  generalize Sw53.says t 0 true false false []=y at R1 I1 f1 f2 h3' ⊢;generalize jW s=s1 at R1 ⊢;obtain ⟨g1,g2,g3,g4⟩:=f1;have et:s1.tries+1=((t.tries+1:Nat):Int):=by rw [R1.tries,g1];rfl
  have ew:min 60000 (2*s1.wait)=((min 60000 (2*t.wait):Nat):Int):=by rw [R1.wait,g2];tm_at "ob"
  have ed:some (s1.now+min 60000 (2*s1.wait))=some (((t.now+min 60000 (2*t.wait):Nat)):Int):=by rw [ew,R1.now,g3];rfl
  refine ⟨?_,?_,fun (q:4≤y.1.phase)=>by tm_at "ob",f2,by show y.2.length≤5000;tm_at "ob"⟩
  ·dsimp only [bG,gk,dH,PS.dg,PS.eL]
   exact { R1 with tries:=et,wait:=ew,due:=ed,timed:=.inl ⟨rfl,rfl⟩ }
  ·exact { I1 with early:=fun q=>⟨(I1.early q).1,(I1.early q).2.1,(I1.early q).2.2.1,by show t.tries+1≤5;tm_at "ob"⟩,tr:=(by show t.tries+1≤8;tm_at "ob") }
noncomputable def cH (t:SS):SS:={ t with slow:=max ((t.top - t.una) / 2) 2800,cwnd:=Sw53.MOST,nxt:=t.una,held:=[],mend:=none,dup:=0,anew:=0,timed:=none,tries:=t.tries+1,wait:=min 60000 (2*t.wait),due:=some (t.now+min 60000 (2*t.wait)) }
theorem Dj {s:PS} {t:SS} {os:List Sw53.Out} {k:Nat} (R:Rel s t os) (I:Inv t k) (h4:t.phase=4) (ht:¬t.tries=8):Rel (fM s) (cH t) os∧Inv (cH t) k:=by
 have es:max 2800 ((s.top - s.first) / 2)=((max ((t.top - t.una) / 2) 2800:Nat):Int):=by rw [R.top,R.first];tm_at "ob"
 have et:s.tries+1=((t.tries+1:Nat):Int):=by rw [R.tries];rfl
 have ew:min 60000 (2*s.wait)=((min 60000 (2*t.wait):Nat):Int):=by rw [R.wait];tm_at "ob"
 have ed:some (s.now+min 60000 (2*s.wait))=some (((t.now+min 60000 (2*t.wait):Nat)):Int):=by rw [ew,R.now];rfl
 have b1:=I.wH;have b2:=I.zC;have b3:=I.tl;have tr:=I.tr;have un:=I.un;have nt:=I.nt;have sl:1≤max ((t.top - t.una) / 2) 2800∧max ((t.top - t.una) / 2) 2800≤1048576:=by tm_at "ob"
 dsimp only [fM,A0,A3,eQ,gk,dH,bG,PS.bI,PS.aW,PS.gI,PS.cE,PS.set_same,PS.cR,PS.dg,PS.eL,cH];exact ⟨{ R with slow:=es,wide:=rfl,au:=R.first,held:=⟨[],rfl,rfl,kl.nil _ _⟩,bA:=.inl ⟨rfl,rfl⟩,same:=rfl,anew:=rfl,timed:=.inl ⟨rfl,rfl⟩,tries:=et,wait:=ew,due:=ed },
  { I with un:=Nat.le_refl _,nt:=(by show t.una≤t.top;tm_at "ob"),early:=fun (q:t.phase≤3)=>by tm_at "ob",t1:=fun _ (q:t.phase≤3)=>by tm_at "ob",cw:=(by show 1≤1400∧1400≤2000000;tm_at "ob"),sl:=sl,tr:=(by show t.tries+1≤8;tm_at "ob"),hl:=Nat.zero_le _ }⟩
theorem HL (t:SS):Sw53.late t=if t.phase=2∨t.phase=3 then (if t.tries=5 then Sw53.done (Sw53.over t 3) else Sw53.says { t with tries:=t.tries+1,wait:=min 60000 (2*t.wait),due:=some (t.now+min 60000 (2*t.wait)),timed:=none } 0 true false false [])
 else if t.phase=4∧t.una<t.top then
  (if t.tries=8 then Sw53.done (Sw53.over t 3) else
   if (Sw53.push Sw53.FUEL (cH t)).2=[]∧(cH t).nxt<(cH t).last then (Sw53.sends (cH t) (cH t).nxt 1 ((cH t).closing && decide ((cH t).nxt+1=(cH t).last))).then_ fun (u:SS)=>Sw53.done { u with nxt:=(cH t).nxt+1+((cH t).closing && decide ((cH t).nxt+1=(cH t).last)).toNat,timed:=none } else Sw53.push Sw53.FUEL (cH t))
 else if t.phase=4∧t.nxt<t.last then
  (Sw53.sends { t with wait:=min 60000 (2*t.wait),due:=some (t.now+min 60000 (2*t.wait)) } t.nxt 1 (t.closing && decide (t.nxt+1=t.last))).then_ fun (u:SS)=>Sw53.done { u with nxt:=t.nxt+1+(t.closing && decide (t.nxt+1=t.last)).toNat,timed:=none }
 else Sw53.done { t with due:=none }:=by
 delta Sw53.late;rfl
theorem Ca {s:PS} {t:SS} {os:List Sw53.Out} {k:Nat} (R:Rel s t os) (I:Inv t k) (u1:1≤t.una) (h4:t.phase=4) (o:t.owed≠2) (hn:t.nxt<t.last) {e:Bool} (he:(t.closing && decide (t.nxt+1=t.last))=e) :
  Rel (oX s) { (Sw53.sends t t.nxt 1 e).1 with nxt:=t.nxt+1+e.toNat,timed:=none } (os++(Sw53.sends t t.nxt 1 e).2)∧Inv { (Sw53.sends t t.nxt 1 e).1 with nxt:=t.nxt+1+e.toNat,timed:=none } k∧(Sw53.sends t t.nxt 1 e).2.length=1∧(Sw53.sends t t.nxt 1 e).1.una=t.una∧(Sw53.sends t t.nxt 1 e).1.phase=4∧(Sw53.sends t t.nxt 1 e).1.owed≠2∧(Sw53.sends t t.nxt 1 e).1.now=t.now∧(Sw53.sends t t.nxt 1 e).1.wait=t.wait:=by
 have hl:t.last=t.total+1:=Nat.add_comm ..;obtain ⟨R1,I1,S1,L1⟩:=mi R I u1 h4 (n:=1) (by tm_at "ob") (by tm_at "ob") he;obtain ⟨ed,ad,ow,tp,ti,du,e1,e2,e3,e4⟩:=mh t t.nxt 1 e;have f1:(Sw53.sends t t.nxt 1 e).1.una=t.una∧(Sw53.sends t t.nxt 1 e).1.phase=4∧(Sw53.sends t t.nxt 1 e).1.owed≠2∧(Sw53.sends t t.nxt 1 e).1.now=t.now∧(Sw53.sends t t.nxt 1 e).1.wait=t.wait:=by
  rw [e1];refine ⟨rfl,h4,?_,rfl,rfl⟩;rcases e4 with q | q
  ·show ow≠2;tm_at "ob"
  ·show ow≠2;rw [q.1];exact o
 have R1:Rel (cn s 1) { (Sw53.sends t t.nxt 1 e).1 with nxt:=t.nxt+1+e.toNat } (os++(Sw53.sends t t.nxt 1 e).2):=R1;unfold oX;generalize cn s 1=s1 at R1 ⊢;generalize Sw53.sends t t.nxt 1 e=y at R1 I1 L1 f1 ⊢;dsimp only [bG];exact ⟨{ R1 with timed:=.inl ⟨rfl,rfl⟩ },{ I1 with },L1,f1⟩
theorem wm {s:PS} {t:SS} {os:List Sw53.Out} {k:Nat} (R:Rel s t os) (I:Inv t k) (o:t.owed≠2) (h4:t.phase=4) (u1:1≤t.una) (ht:t.una<t.top) (hk:k≤16000) (ho:os.length≤500000) :
  (¬t.tries=8→sU s)∧df k (lz s) os (if t.tries=8 then Sw53.done (Sw53.over t 3) else
   if (Sw53.push Sw53.FUEL (cH t)).2=[]∧(cH t).nxt<(cH t).last then (Sw53.sends (cH t) (cH t).nxt 1 ((cH t).closing && decide ((cH t).nxt+1=(cH t).last))).then_ fun (u:SS)=>Sw53.done { u with nxt:=(cH t).nxt+1+((cH t).closing && decide ((cH t).nxt+1=(cH t).last)).toNat,timed:=none } else Sw53.push Sw53.FUEL (cH t)) 5000:=by
 have tr:=I.tr;unfold lz;rw [R.tries];by_cases c:t.tries=8
 ·rw [if_pos c,if_pos (by tm_at "ob")]
  obtain ⟨R3,I3⟩:=gN R I 3;exact ⟨fun q=>absurd c q,bx R3 I3 (fun (_:(4:Nat)≤6) (q:(6:Nat)≤5)=>by tm_at "ob") (by show (0:Nat)≠2;tm_at "ob")⟩
 ·rw [if_neg c,if_neg (by tm_at "ob")]
  obtain ⟨R1,I1⟩:=Dj R I h4 c;have f1:(cH t).phase=4:=h4;have f2:1≤(cH t).una:=u1;have f3:(cH t).owed≠2:=o;have f4:(cH t).held=[]:=rfl;have f5:(cH t).due≠none:=fun q=>by cases q
  have oe:sU s→sU s:=id;obtain ⟨S1,S2,S3,S4,S5⟩:=jk R1 I1 (fun _ _=>f2) hk (by tm_at "ob");have ob:jc (bJ (fM s)):=lT S2 S3 (by rw [List.length_append];tm_at "ob");refine ⟨fun _=>⟨S1,ob⟩,?_⟩;clear ob oe;generalize fM s=s1 at R1 S1 S2 ⊢;generalize cH t=t1 at R1 I1 S2 S3 S4 S5 f1 f2 f3 f4 f5 ⊢;have ef:Sw53.FUEL=4095+1:=rfl;have ep:Sw53.pushAll t1=(Sw53.watch (Sw53.push Sw53.FUEL t1).1,(Sw53.push Sw53.FUEL t1).2++[]):=rfl;have ed:(Sw53.push Sw53.FUEL t1).1.due≠none:=by rw [uY _ _ f5];exact f5
  have ew:Sw53.watch (Sw53.push Sw53.FUEL t1).1=(Sw53.push Sw53.FUEL t1).1:=by unfold Sw53.watch;rw [if_neg (fun q=>ed q.2.1)]
  rw [ew,List.append_nil] at ep;rw [ep] at S2 S3 S4 S5;have ei:(Sw53.push Sw53.FUEL t1).2=[]→(Sw53.push Sw53.FUEL t1).1=t1:=fun q=>by rw [ef] at q ⊢;exact C9 _ _ f4 q
  have hU:U1 (Sw53.push Sw53.FUEL t1).1:=by
   obtain ⟨nx,ed,ad,ow,tp,ti,du,ev,_⟩:=S4;intro _ _;rw [show (Sw53.push Sw53.FUEL t1).1=_ from ev];exact f2
  have hO:(Sw53.push Sw53.FUEL t1).1.owed≠2:=by
   obtain ⟨nx,ed,ad,ow,tp,ti,du,ev,hv⟩:=S4;rw [show (Sw53.push Sw53.FUEL t1).1=_ from ev];show ow≠2;rcases hv with q | q
   ·rw [q];exact f3
   ·tm_at "ob"
  generalize Sw53.push Sw53.FUEL t1=x at S2 S3 S4 S5 ei hU hO ⊢;dsimp only at S2 S3 S4 S5;have el:((bJ s1).out.length:Int)=(s1.out.length:Int)↔x.2=[]:=by
   rw [S2.out,R1.out,List.length_map,List.length_map,List.length_append];constructor
   ·intro q;exact List.length_eq_zero_iff.mp (by tm_at "ob")
   ·intro q;rw [q];simp
  by_cases c1:x.2=[]
  ·have ex:=ei c1
   rw [if_pos (el.mpr c1),S2.au,S2.last];have hl:t1.last=t1.total+1:=Nat.add_comm ..;by_cases c2:t1.nxt<t1.last
   ·rw [if_pos (show x.2=[]∧t1.nxt<t1.last from ⟨c1,c2⟩),if_pos (show ((x.1.nxt:Nat):Int)<(x.1.total:Int)+1 by rw [ex];tm_at "ob")]
    rw [c1,List.append_nil] at S2;have S2':Rel (bJ s1) t1 os:=by rw [←ex];exact S2
    obtain ⟨Z1,Z2,Z3,Z4,Z5,Z6,_,_⟩:=Ca S2' I1 f2 f1 f3 c2 rfl;refine ⟨?_,Z2,?_,Z6,?_⟩
    ·show Rel _ _ (os++((Sw53.sends t1 t1.nxt 1 _).2++[]))
     rw [List.append_nil];exact Z1
    ·intro _ _
     show 1≤(Sw53.sends t1 t1.nxt 1 _).1.una;rw [Z4];exact f2
    ·show ((Sw53.sends t1 t1.nxt 1 _).2++[]).length≤5000
     rw [List.append_nil];tm_at "ob"
   ·rw [if_neg (show ¬(x.2=[]∧t1.nxt<t1.last) from fun q=>c2 q.2),if_neg (show ¬((x.1.nxt:Nat):Int)<(x.1.total:Int)+1 by rw [ex];tm_at "ob")]
    exact ⟨S2,S3,hU,hO,by tm_at "ob"⟩
  ·rw [if_neg (fun q=>c1 (el.mp q)),if_neg (show ¬(x.2=[]∧t1.nxt<t1.last) from fun q=>c1 q.1)]
   exact ⟨S2,S3,hU,hO,by tm_at "ob"⟩
theorem Fi {s:PS} {t:SS} {os:List Sw53.Out} {k:Nat} (R:Rel s t os) (I:Inv t k) (U:U1 t) (o:t.owed≠2) (hk:k≤16000) (ho:os.length≤500000):(t.phase=4→t.una<t.top→¬t.tries=8→sU s)∧df k (FF s) os (Sw53.late t) 5000:=by
 have hl:t.last=t.total+1:=Nat.add_comm ..;rw [HL];unfold FF;rw [R.phase,R.first,R.top,R.au,R.last];by_cases c2:t.phase=2∨t.phase=3
 ·refine ⟨fun q=>by tm_at "ob",?_⟩
  rw [if_pos c2];have D:=DU R I o (by tm_at "ob") (by tm_at "ob");by_cases d:t.phase=2
  ·rw [if_pos (show ((t.phase:Nat):Int)=2 by tm_at "ob")];exact D
  ·rw [if_neg (show ¬((t.phase:Nat):Int)=2 by tm_at "ob"),if_pos (show ((t.phase:Nat):Int)=3 by tm_at "ob")];exact D
 ·rw [if_neg c2,if_neg (show ¬((t.phase:Nat):Int)=2 by tm_at "ob"),if_neg (show ¬((t.phase:Nat):Int)=3 by tm_at "ob")]
  by_cases c4:t.phase=4∧t.una<t.top
  ·rw [if_pos c4,if_pos (show ((t.phase:Nat):Int)=4∧(t.una:Int)<(t.top:Int) by tm_at "ob")]
   obtain ⟨A1,A2⟩:=wm R I o c4.1 (U (by tm_at "ob") (by tm_at "ob")) c4.2 hk ho;exact ⟨fun _ _=>A1,A2⟩
  ·refine ⟨fun q1 q2=>absurd ⟨q1,q2⟩ c4,?_⟩
   rw [if_neg c4,if_neg (show ¬(((t.phase:Nat):Int)=4∧(t.una:Int)<(t.top:Int)) from fun q=>c4 (by tm_at "ob"))];by_cases c5:t.phase=4∧t.nxt<t.last
   ·rw [if_pos c5,if_pos (show ((t.phase:Nat):Int)=4∧(t.nxt:Int)<(t.total:Int)+1 by tm_at "ob"),Ep]
    obtain ⟨Z1,Z2,Z3,Z4,Z5,Z6,Z7,Z8⟩:=Ca R I (U (by tm_at "ob") (by tm_at "ob")) c5.1 o c5.2 rfl;generalize (t.closing && decide (t.nxt+1=t.last))=e at Z1 Z2 Z3 Z4 Z5 Z6 Z7 Z8 ⊢;generalize Sw53.sends t t.nxt 1 e=y at Z1 Z2 Z3 Z4 Z5 Z6 Z7 Z8 ⊢;generalize oX s=s1 at Z1 ⊢;have ew:min 60000 (2*s1.wait)=((min 60000 (2*t.wait):Nat):Int):=by rw [Z1.wait];show min 60000 (2*((y.1.wait:Nat):Int))=_;rw [Z8];tm_at "ob"
    have ed:some (s1.now+min 60000 (2*s1.wait))=some (((t.now+min 60000 (2*t.wait):Nat)):Int):=by rw [ew,Z1.now];show some (((y.1.now:Nat):Int)+_)=_;rw [Z7];rfl
    refine ⟨?_,{ Z2 with },fun _ _=>by show 1≤y.1.una;rw [Z4];exact U (by tm_at "ob") (by tm_at "ob"),Z6,?_⟩
    ·show Rel _ _ (os++(y.2++[]))
     rw [List.append_nil];dsimp only [gk,dH,PS.eL,Sw53.Does.then_,Sw53.done];exact { Z1 with wait:=ew,due:=ed }
    ·show (y.2++[]).length≤5000
     rw [List.append_nil];tm_at "ob"
   ·rw [if_neg c5,if_neg (show ¬(((t.phase:Nat):Int)=4∧(t.nxt:Int)<(t.total:Int)+1) from fun q=>c5 (by tm_at "ob"))]
    dsimp only [PS.dE];exact bx (t:={ t with due:=none }) { R with due:=rfl } { I with } U o
theorem HU {s:PS} {t:SS} {os:List Sw53.Out} {k:Nat} (R:Rel s t os) (I:Inv t k) (n:Nat):Rel (go1 s (n:Int)) { t with now:=max t.now n } os∧Inv { t with now:=max t.now n } k:=by
 have en:max s.now (n:Int)=((max t.now n:Nat):Int):=by rw [R.now];omega
 have et:(t.timed=none∧s.bp=0)∨∃p c:Nat,t.timed=some (p,c)∧s.bp=(p:Int)∧s.dU=(c:Int)∧0<p∧c≤max t.now n:=by
  rcases R.timed with h | ⟨p,c,h1,h2,h3,h4,h5⟩
  ·exact .inl h
  ·exact .inr ⟨p,c,h1,h2,h3,h4,by omega⟩
 dsimp only [go1,PS.oW];exact ⟨{ R with now:=en,timed:=et },{ I with }⟩
theorem HS {s:PS} {t:SS} {os:List Sw53.Out} {k:Nat} (R:Rel s t os) (I:Inv t k) (U:U1 t) (o:t.owed≠2):df k (go2 s) os (Sw53.timeLinger t) 0:=by
 unfold go2 Sw53.timeLinger;by_cases c:t.phase=5∧t.till≤t.now
 ·have el:=R.cx c.1
  rw [if_pos c,if_pos (show s.phase=5∧leO s.aS s.now=true from ⟨by rw [R.phase];tm_at "ob",by rw [el,R.now];exact decide_eq_true (by tm_at "ob")⟩)];obtain ⟨R3,I3⟩:=gN R I 1;exact bx R3 I3 (fun (_:(4:Nat)≤6) (q:(6:Nat)≤5)=>by tm_at "ob") (by show (0:Nat)≠2;tm_at "ob")
 ·rw [if_neg c,if_neg (show ¬(s.phase=5∧leO s.aS s.now=true) from fun q=>by
   have p5:t.phase=5:=by have:=q.1;rw [R.phase] at this;tm_at "ob"
   have q2:=q.2;rw [R.cx p5,R.now] at q2;have:=of_decide_eq_true q2;exact c ⟨p5,by tm_at "ob"⟩)]
  exact bx R I U o
theorem zB {s:PS} {t:SS} {os:List Sw53.Out} (R:Rel s t os):cN s=true↔t.known=true∧t.owed=1:=by
 unfold cN;rw [gW R.phase,R.owed];by_cases c:t.known=true
 ·rw [if_pos c,decide_eq_true_eq]
  constructor
  ·intro h;exact ⟨c,by tm_at "ob"⟩
  ·intro h;tm_at "ob"
 ·rw [if_neg c]
  constructor
  ·intro h;cases h
  ·intro h;exact absurd h.1 c
theorem HR {s:PS} {t:SS} {os:List Sw53.Out} {k:Nat} (R:Rel s t os) (I:Inv t k) (U:U1 t) (o:t.owed≠2):df k (go3 s) os (Sw53.timeAck t) 1∧(cN s=true→∃u,s.fi=some u):=by
 have ra:=R.ack o;have on:=zB R;refine ⟨?_,fun h=>by obtain ⟨d,_,h2⟩:=ra.1 (on.mp h).2;exact ⟨_,h2⟩⟩;unfold go3 Sw53.timeAck;by_cases c1:t.owed=1
 ·obtain ⟨d,h1,h2⟩:=ra.1 c1
  rw [h1,h2,R.now];dsimp only;by_cases c:d≤t.now∧t.known=true
  ·rw [if_pos c,if_pos (show cN s=true∧leO (some (d:Int)) (t.now:Int)=true from ⟨on.mpr ⟨c.2,c1⟩,decide_eq_true (by tm_at "ob")⟩)]
   exact lU R I U o (by tm_at "ob")
  ·rw [if_neg c,if_neg (show ¬(cN s=true∧leO (some (d:Int)) (t.now:Int)=true) from fun q=>c ⟨by have:=of_decide_eq_true q.2;tm_at "ob",(on.mp q.1).1⟩)]
   exact bx R I U o
 ·rw [ra.2 c1]
  dsimp only;rw [if_neg (fun q=>c1 (on.mp q.1).2)];exact bx R I U o
theorem HQ {s:PS} {t:SS} {os:List Sw53.Out} {k:Nat} (R:Rel s t os) (I:Inv t k) (U:U1 t) (o:t.owed≠2) (hk:k≤16000) (ho:os.length≤400000):df k (go4 s) os (Sw53.timeDue t) 5000∧(leO s.due s.now=true→GC s):=by
 obtain ⟨A,D⟩:=Fi R I U o hk (by tm_at "ob");refine ⟨?_,fun _=>⟨by rw [R.out,List.length_map];tm_at "ob",fun h1 h2 h3=>A (by rw [R.phase] at h1;tm_at "ob") (by rw [R.first,R.top] at h2;tm_at "ob") (by rw [R.tries] at h3;tm_at "ob"),fun _=>lT R I (by tm_at "ob")⟩⟩;unfold go4 Sw53.timeDue;rw [R.due,R.now]
 cases t.due with
 | none =>
  rw [if_neg (show ¬leO (cO none) (t.now:Int)=true from Bool.false_ne_true)];exact bx R I U o
 | some d =>
  dsimp only;by_cases c:d≤t.now
  ·rw [if_pos c,if_pos (show leO (cO (some d)) (t.now:Int)=true from decide_eq_true (show (d:Int)≤(t.now:Int) by tm_at "ob"))]
   exact D
  ·rw [if_neg c,if_neg (show ¬leO (cO (some d)) (t.now:Int)=true from fun q=>c (by have q:(d:Int)≤(t.now:Int):=of_decide_eq_true q;tm_at "ob"))]
   exact bx R I U o
theorem HP {s:PS} {t:SS} {os:List Sw53.Out} {k:Nat} (R:Rel s t os) (I:Inv t k) (U:U1 t) (o:t.owed≠2):df k (go5 s) os (Sw53.timeStill t) 1:=by
 have as:=I.ask;have un:=I.un;have nt:=I.nt;unfold go5 Sw53.timeStill;have e:rg s=decide (0<t.still∧t.phase=4∧t.una=t.top∧Sw53.stillAt t≤t.now):=by
  unfold rg eJ;rw [R.kept,R.phase,R.first,R.top,R.now];by_cases c1:t.still=0
  ·rw [if_pos (by tm_at "ob")];exact (decide_eq_false (fun q=>by tm_at "ob")).symm
  ·rw [if_neg (by tm_at "ob")]
   by_cases c2:t.phase=4
   ·rw [if_neg (show ¬((t.phase:Nat):Int)≠4 by tm_at "ob")]
    by_cases c3:t.una=t.top
    ·rw [if_neg (show ¬((t.una:Nat):Int)≠(t.top:Int) by tm_at "ob"),(R.heard (by tm_at "ob") (by tm_at "ob")).1,(R.heard (by tm_at "ob") (by tm_at "ob")).2]
     show decide ((t.heard:Int)+(t.still:Int)+10000*(t.asks:Int)≤(t.now:Int))=_;have es:Sw53.stillAt t=t.heard+t.still+10000*t.asks:=rfl;rw [es];exact decide_eq_decide.mpr ⟨fun _=>by tm_at "ob",fun _=>by tm_at "ob"⟩
    ·rw [if_pos (show ((t.una:Nat):Int)≠(t.top:Int) by tm_at "ob")];exact (decide_eq_false (fun q=>c3 q.2.2.1)).symm
   ·rw [if_pos (show ((t.phase:Nat):Int)≠4 by tm_at "ob")];exact (decide_eq_false (fun q=>c2 q.2.1)).symm
 rw [e];by_cases c:0<t.still∧t.phase=4∧t.una=t.top∧Sw53.stillAt t≤t.now
 ·rw [if_pos c,decide_eq_true c,if_pos rfl]
  have rh:=R.heard (by tm_at "ob") (by tm_at "ob");have u1:=U (by tm_at "ob") (by tm_at "ob");unfold Im;rw [rh.2,R.top];by_cases c5:t.asks=5
  ·rw [if_pos c5,if_pos (by tm_at "ob")]
   obtain ⟨R3,I3⟩:=gN R I 3;exact bx R3 I3 (fun (_:(4:Nat)≤6) (q:(6:Nat)≤5)=>by tm_at "ob") (by show (0:Nat)≠2;tm_at "ob")
  ·rw [if_neg c5,if_neg (by tm_at "ob")]
   have ea:(t.asks:Int)+1=((t.asks+1:Nat):Int):=rfl;have R1:Rel (s.ku ((t.asks:Int)+1)) { t with asks:=t.asks+1 } os:=by
    dsimp only [PS.ku];exact { R with heard:=fun _ _=>⟨rh.1,ea⟩ }
   have I1:Inv { t with asks:=t.asks+1 } k:={ I with ask:=(by show t.asks+1≤5;tm_at "ob"),new:=fun (q:t.phase≤2)=>by tm_at "ob" };have et:(t.top:Int) - 1=((t.top - 1:Nat):Int):=by tm_at "ob"
   rw [et];exact oY (t:={ t with asks:=t.asks+1 }) U o (nN R1 I1 (t.top - 1) false false false (data:=[]) (Nat.zero_le _) (by simp)) (by tm_at "ob")
 ·rw [if_neg c,decide_eq_false c,if_neg Bool.false_ne_true]
  exact bx R I U o
theorem gn {s:PS} {t:SS} {k:Nat} (R:Rel s t []) (I:Inv t k) (U:U1 t) (o:t.owed≠2) (hk:k≤16000) (n:Nat):IB s (n:Int)∧df k (cA s (n:Int)) [] (Sw53.passes t n) 6000:=by
 obtain ⟨R1,I1⟩:=HU R I n;have hl:s.phase=5→∃u,s.aS=some u:=fun q=>⟨_,R.cx (by rw [R.phase] at q;tm_at "ob")⟩;have D2:=HS R1 I1 U o;have U1':U1 { t with now:=max t.now n }:=U;unfold Sw53.passes cA;have goal:∀x,Sw53.timeLinger { t with now:=max t.now n }=x→IB s (n:Int)∧df k (go5 (go4 (go3 (go2 (go1 s (n:Int)))))) [] (x.then_ fun (a:SS)=>(Sw53.timeAck a).then_ fun (b:SS)=>(Sw53.timeDue b).then_ Sw53.timeStill) 6000:=fun x ex=>by
  rw [ex] at D2;have n2:=D2.n;obtain ⟨D3,a3⟩:=HR D2.r D2.i D2.u D2.o;generalize ey:Sw53.timeAck x.1=y at D3;have n3:=D3.n;obtain ⟨D4,d4⟩:=HQ D3.r D3.i D3.u D3.o hk (by simp only [List.length_append,List.length_nil];tm_at "ob");generalize ez:Sw53.timeDue y.1=z at D4;have n4:=D4.n;have D5:=HP D4.r D4.i D4.u D4.o;have n5:=D5.n;refine ⟨⟨hl,a3,?_,d4,?_⟩,?_⟩
  ·rw [D2.r.out,List.length_map];simp only [List.length_append,List.length_nil];tm_at "ob"
  ·rw [D4.r.out,List.length_map];simp only [List.length_append,List.length_nil];tm_at "ob"
  ·show df k _ [] ((Sw53.timeStill (Sw53.timeDue (Sw53.timeAck x.1).1).1).1,x.2++((Sw53.timeAck x.1).2++((Sw53.timeDue (Sw53.timeAck x.1).1).2++(Sw53.timeStill (Sw53.timeDue (Sw53.timeAck x.1).1).1).2))) 6000
   rw [ey,ez];refine ⟨?_,D5.i,D5.u,D5.o,by simp only [List.length_append];tm_at "ob"⟩;have eo:[]++(x.2++(y.2++(z.2++(Sw53.timeStill z.1).2)))=[]++x.2++y.2++z.2++(Sw53.timeStill z.1).2:=by simp only [List.append_assoc]
   show Rel _ _ ([]++(x.2++(y.2++(z.2++(Sw53.timeStill z.1).2))));rw [eo];exact D5.r
 exact goal _ rfl
theorem fQ (n:Nat):eF (n:Int)=Sw53.timeOk n:=by
 unfold eF Sw53.timeOk;rw [if_pos (by omega)];have h:Sw53.TIME=4611686018427387904:=rfl;rw [h];exact decide_eq_decide.mpr ⟨fun _=>by omega,fun _=>by omega⟩
theorem va (n:Nat):qj (n:Int)=Sw53.portOk n:=by
 unfold qj Sw53.portOk;by_cases c:1≤n
 ·rw [if_pos (by omega),decide_eq_true c,Bool.true_and]
  exact decide_eq_decide.mpr ⟨fun _=>by omega,fun _=>by omega⟩
 ·rw [if_neg (by omega),decide_eq_false c,Bool.false_and]
theorem rE (n:Nat):mC (n:Int)=Sw53.addressOk n:=by
 unfold mC Sw53.addressOk;have h:Sw53.M - 1=4294967295:=rfl;rw [h];by_cases c:1≤n
 ·rw [if_pos (by omega),decide_eq_true c,Bool.true_and]
  exact decide_eq_decide.mpr ⟨fun _=>by omega,fun _=>by omega⟩
 ·rw [if_neg (by omega),decide_eq_false c,Bool.false_and]
theorem Av (n:Nat):sv (n:Int)=decide (n<Sw53.M):=by
 unfold sv;have h:Sw53.M=4294967296:=rfl;rw [h,if_pos (by omega)];exact decide_eq_decide.mpr ⟨fun _=>by omega,fun _=>by omega⟩
structure dB (k:Nat) (y:PS×List Int) (x:SS×Sw53.Ans):Prop where
 r:Rel y.1 x.1 x.2.out
 i:Inv x.1 k
 u:U1 x.1
 o:x.1.owed≠2
 a:y.2=x.2.v::cI x.2.l
theorem dF {s:PS} {t:SS} {k:Nat} (R:Rel s t []) (I:Inv t k) (U:U1 t) (o:t.owed≠2) (v:Int):dB k (s,[v]) (Sw53.says_ t v):=⟨R,I,U,o,rfl⟩
theorem dQ {s:PS} {k n:Nat} {x:Sw53.Does} (D:df k s [] x n) (v:Int):dB k (s,[v]) (Sw53.ok v x):=⟨by have:=D.r;rw [List.nil_append] at this;exact this,D.i,D.u,D.o,rfl⟩
theorem Ec {s:PS} {t:SS} {k:Nat} (R:Rel s t []) (I:Inv t k) (U:U1 t) (o:t.owed≠2) (hk:k≤16000) (n:Nat):TOk s (n:Int)∧dB k (xb s (n:Int)) (Sw53.step t (.tick n)):=by
 obtain ⟨G,D⟩:=gn R I U o hk n;refine ⟨fun _=>G,?_⟩;show dB k _ (if Sw53.timeOk n=false then Sw53.says_ t (-1) else Sw53.ok 0 (Sw53.passes t n));unfold xb;rw [fQ];by_cases c:Sw53.timeOk n=false
 ·rw [if_pos c,if_pos c];exact dF R I U o _
 ·rw [if_neg c,if_neg c];exact dQ D 0
theorem Fj {s:PS} {t:SS} {k:Nat} (R:Rel s t []) (I:Inv t k) (U:U1 t) (o:t.owed≠2) (hk:k≤16000) (n m:Nat):TOk s (n:Int)∧dB k (su s (n:Int) (m:Int)) (Sw53.step t (.keep n m)):=by
 obtain ⟨G,D⟩:=gn R I U o hk n;refine ⟨fun _=>G,?_⟩;show dB k _ (if (Sw53.timeOk n && decide (m≤2 ^ 31))=false then Sw53.says_ t (-1) else Sw53.ok 0 ((Sw53.passes t n).then_ fun (t:SS)=>Sw53.done { t with still:=m,heard:=t.now,asks:=0 }));unfold su;have e:keptOk (m:Int)=decide (m≤2 ^ 31):=by
  unfold keptOk;rw [if_pos (by omega)];have h:(2 ^ 31:Nat)=2147483648:=by decide
  rw [h];exact decide_eq_decide.mpr ⟨fun _=>by omega,fun _=>by omega⟩
 rw [fQ,e];by_cases c:(Sw53.timeOk n && decide (m≤2 ^ 31))=false
 ·rw [if_pos c,if_pos c];exact dF R I U o _
 ·rw [if_neg c,if_neg c]
  generalize cA s (n:Int)=s1 at D ⊢;generalize Sw53.passes t n=x at D ⊢;obtain ⟨D1,D2,D3,D4,D5⟩:=D;rw [List.nil_append] at D1;refine ⟨?_,?_,D3,D4,rfl⟩
  ·show Rel _ { x.1 with still:=m,heard:=x.1.now,asks:=0 } (x.2++[])
   rw [List.append_nil];dsimp only [jt,PS.uT];exact { D1 with kept:=rfl,heard:=fun _ _=>⟨D1.now,rfl⟩ }
  ·exact { D2 with ask:=Nat.zero_le _,new:=fun q=>let z:=D2.new q;⟨z.1,z.2.1,z.2.2.1,z.2.2.2.1,z.2.2.2.2.1,z.2.2.2.2.2.1,rfl⟩ }
theorem oh {s:PS} {t:SS} {os:List Sw53.Out} (R:Rel s t os):mB s=decide (t.phase=0∨t.phase=6):=by
 unfold mB;rw [R.phase];by_cases c:t.phase=0
 ·rw [if_pos (by tm_at "ob")];exact (decide_eq_true (.inl c)).symm
 ·rw [if_neg (by tm_at "ob")]
  exact decide_eq_decide.mpr ⟨fun _=>.inr (by tm_at "ob"),fun _=>by tm_at "ob"⟩
theorem C4 {s:PS} {t:SS} {k:Nat} (R:Rel s t []) (I:Inv t k) (U:U1 t) (o:t.owed≠2) (hk:k≤16000) (n:Nat):yS s (n:Int)∧dB k (rR s (n:Int)) (Sw53.step t (.reset n)):=by
 obtain ⟨G,D⟩:=gn R I U o hk n;have dn:=D.n;have ol:(cA s (n:Int)).out.length≤1000000:=by rw [D.r.out,List.length_map];simp only [List.length_append,List.length_nil];tm_at "ob"
 refine ⟨⟨fun _=>G,fun _=>ol⟩,?_⟩;show dB k _ (if Sw53.timeOk n=false then Sw53.says_ t (-1) else if (Sw53.passes t n).1.phase=0∨5≤(Sw53.passes t n).1.phase then Sw53.ok (-4) (Sw53.passes t n) else
   Sw53.ok 0 ((Sw53.passes t n).then_ fun (t:SS)=>(if t.phase=3∨t.phase=4 then Sw53.says t t.top false false true [] else Sw53.done t).then_ fun (u:SS)=>Sw53.done (Sw53.over u 4)))
 unfold rR;rw [fQ];by_cases c:Sw53.timeOk n=false
 ·rw [if_pos c,if_pos c];exact dF R I U o _
 ·rw [if_neg c,if_neg c]
  generalize cA s (n:Int)=s1 at D ⊢;generalize Sw53.passes t n=x at D ⊢;have ph:=D.i.ph;rw [oh D.r,D.r.phase];by_cases c1:x.1.phase=0∨5≤x.1.phase
  ·rw [if_pos c1,if_pos (show decide (x.1.phase=0∨x.1.phase=6)=true∨((x.1.phase:Nat):Int)=5 by rw [decide_eq_true_eq];tm_at "ob")]
   exact dQ D _
  ·rw [if_neg c1,if_neg (show ¬(decide (x.1.phase=0∨x.1.phase=6)=true∨((x.1.phase:Nat):Int)=5) by rw [decide_eq_true_eq];tm_at "ob"),gW D.r.phase,D.r.top]
   by_cases c2:x.1.phase=3∨x.1.phase=4
   ·have kn:x.1.known=true:=(lN _).mpr (by tm_at "ob")
    obtain ⟨R1,I1⟩:=nN D.r D.i x.1.top false false true (data:=[]) (Nat.zero_le _) (by simp);rw [if_pos kn];obtain ⟨R2,I2⟩:=gN R1 I1 4;refine ⟨?_,?_,?_,?_,rfl⟩
    ·show Rel _ (Sw53.over (if x.1.phase=3∨x.1.phase=4 then Sw53.says x.1 x.1.top false false true [] else Sw53.done x.1).1 4) (x.2++((if x.1.phase=3∨x.1.phase=4 then Sw53.says x.1 x.1.top false false true [] else Sw53.done x.1).2++[]))
     rw [if_pos c2,List.append_nil];have R2:=R2;rw [List.nil_append] at R2;exact R2
    ·show Inv (Sw53.over (if x.1.phase=3∨x.1.phase=4 then Sw53.says x.1 x.1.top false false true [] else Sw53.done x.1).1 4) k
     rw [if_pos c2];exact I2
    ·exact fun (_:(4:Nat)≤6) (q:(6:Nat)≤5)=>by tm_at "ob"
    ·show (0:Nat)≠2;tm_at "ob"
   ·have kn:¬x.1.known=true:=fun q=>by have:=(lN _).mp q;tm_at "ob"
    rw [if_neg kn];obtain ⟨R2,I2⟩:=gN D.r D.i 4;refine ⟨?_,?_,?_,?_,rfl⟩
    ·show Rel _ (Sw53.over (if x.1.phase=3∨x.1.phase=4 then Sw53.says x.1 x.1.top false false true [] else Sw53.done x.1).1 4) (x.2++((if x.1.phase=3∨x.1.phase=4 then Sw53.says x.1 x.1.top false false true [] else Sw53.done x.1).2++[]))
     rw [if_neg c2,List.append_nil];show Rel _ _ (x.2++[]);rw [List.append_nil];rw [List.nil_append] at R2;exact R2
    ·show Inv (Sw53.over (if x.1.phase=3∨x.1.phase=4 then Sw53.says x.1 x.1.top false false true [] else Sw53.done x.1).1 4) k
     rw [if_neg c2];exact I2
    ·exact fun (_:(4:Nat)≤6) (q:(6:Nat)≤5)=>by tm_at "ob"
    ·show (0:Nat)≠2;tm_at "ob"
theorem tf {s:PS} {x:Sw53.Does} {k n':Nat} {n:Nat} (D:df k (cA s (n:Int)) [] x n') (c:¬Sw53.timeOk n=false):toWrite s (n:Int)=(cA s (n:Int),if x.1.phase≤1 then -4 else if 5≤x.1.phase∨x.1.closing=true then -6 else 0):=by
 have ph:=D.i.ph;unfold toWrite;rw [fQ,if_neg c,D.r.phase,D.r.closing];congr 1;by_cases c1:x.1.phase≤1
 ·rw [if_pos c1,if_pos (by tm_at "ob")]
 ·rw [if_neg c1,if_neg (by tm_at "ob")]
  by_cases c2:5≤x.1.phase∨x.1.closing=true
  ·rw [if_pos c2,if_pos (by rcases c2 with q | q;(by_cases h5:x.1.phase=5;exact .inl (by tm_at "ob");exact .inr (.inl (by tm_at "ob")));exact .inr (.inr q))]
  ·rw [if_neg c2,if_neg (fun q=>c2 (by rcases q with q | q | q;exact .inl (by tm_at "ob");exact .inl (by tm_at "ob");exact .inr q))]
theorem DI {s:PS} {t:SS} {k:Nat} (R:Rel s t []) (I:Inv t k) (U:U1 t) (o:t.owed≠2) (hk:k≤16000) (n:Nat):pF s (n:Int)∧dB k (sN s (n:Int)) (Sw53.step t (.close n)):=by
 obtain ⟨G,D⟩:=gn R I U o hk n;show pF s (n:Int)∧dB k _ (if Sw53.timeOk n=false then Sw53.says_ t (-1) else if (Sw53.passes t n).1.phase≤1 then Sw53.ok (-4) (Sw53.passes t n) else if 5≤(Sw53.passes t n).1.phase∨(Sw53.passes t n).1.closing=true then Sw53.ok (-6) (Sw53.passes t n) else
   Sw53.ok 0 ((Sw53.passes t n).then_ fun (t:SS)=>Sw53.pushAll { t with closing:=true,firstEnd:=!t.ended }))
 by_cases c:Sw53.timeOk n=false
 ·have ew:toWrite s (n:Int)=(s,-1):=by unfold toWrite;rw [fQ,if_pos c]
  rw [if_pos c];unfold sN;refine ⟨⟨fun _=>G,fun q=>absurd (show (toWrite s (n:Int)).2<0 by rw [ew];dsimp only;decide) q⟩,?_⟩;rw [ew];dsimp only;rw [if_pos (by decide)];exact dF R I U o _
 ·have ew:=tf D c
  rw [if_neg c];unfold sN;have hc:pF s (n:Int)↔pF s (n:Int):=Iff.rfl;generalize hx:Sw53.passes t n=x at D ew ⊢;have dn:=D.n;by_cases c1:x.1.phase≤1
  ·rw [if_pos c1] at ew ⊢
   refine ⟨⟨fun _=>G,fun q=>absurd (show (toWrite s (n:Int)).2<0 by rw [ew];dsimp only;decide) q⟩,?_⟩;rw [ew];dsimp only;rw [if_pos (by decide)];exact dQ D _
  ·rw [if_neg c1] at ew ⊢
   by_cases c2:5≤x.1.phase∨x.1.closing=true
   ·rw [if_pos c2] at ew ⊢
    refine ⟨⟨fun _=>G,fun q=>absurd (show (toWrite s (n:Int)).2<0 by rw [ew];dsimp only;decide) q⟩,?_⟩;rw [ew];dsimp only;rw [if_pos (by decide)];exact dQ D _
   ·rw [if_neg c2] at ew ⊢
    have hcl:x.1.closing=false:=by cases h:x.1.closing with | false=>rfl | true=>exact absurd (.inr h) c2
    obtain ⟨D1,D2,D3,D4,D5⟩:=D;generalize cA s (n:Int)=s1 at D1 ew;have R1:Rel (s1.gx true) { x.1 with closing:=true,firstEnd:=!x.1.ended } ([]++x.2):=by
     have cf:x.1.ended=true→if true=true then s1.cB = !x.1.ended else s1.cB=false:=fun q=>by
      have:=D1.cf q;rw [hcl,if_neg Bool.false_ne_true] at this;rw [if_pos rfl,this,q];rfl
     have fe:true=true→x.1.ended=false→(!x.1.ended)=true:=fun _ q=>by rw [q];rfl
     dsimp only [PS.gx];exact { D1 with closing:=rfl,cf:=cf,fe:=fe }
    have I1:Inv { x.1 with closing:=true,firstEnd:=!x.1.ended } k:={ D2 with tc:=fun _=>rfl };obtain ⟨S1,S2,S3,S4,S5⟩:=jk R1 I1 D3 hk (by simp only [List.length_append,List.length_nil];tm_at "ob");refine ⟨⟨fun _=>G,fun _=>by rw [ew];exact S1⟩,?_⟩;rw [ew];dsimp only;rw [if_neg (by decide)];refine ⟨?_,S3,?_,?_,rfl⟩
    ·show Rel _ _ (x.2++_)
     rw [List.nil_append] at S2;exact S2
    ·obtain ⟨nx,ed,ad,ow,tp,ti,du,ev,_⟩:=S4
     intro q1 q2;have ev':(Sw53.pushAll { x.1 with closing:=true,firstEnd:=!x.1.ended }).1=_:=ev;show 1≤(Sw53.pushAll { x.1 with closing:=true,firstEnd:=!x.1.ended }).1.una;rw [ev'];have q1:4≤(Sw53.pushAll { x.1 with closing:=true,firstEnd:=!x.1.ended }).1.phase:=q1;have q2:(Sw53.pushAll { x.1 with closing:=true,firstEnd:=!x.1.ended }).1.phase≤5:=q2;rw [ev'] at q1 q2;exact D3 q1 q2
    ·obtain ⟨nx,ed,ad,ow,tp,ti,du,ev,hv⟩:=S4
     show (Sw53.pushAll { x.1 with closing:=true,firstEnd:=!x.1.ended }).1.owed≠2;rw [ev];show ow≠2;rcases hv with q | q
     ·rw [q];exact D4
     ·tm_at "ob"
theorem Dc {s:PS} {t:SS} {os:List Sw53.Out} {k:Nat} (R:Rel s t os) (I:Inv t k) (U:U1 t) (o:t.owed≠2) (hk:k≤16000) (ho:os.length≤900000):jM s∧df k (bJ s) os (Sw53.pushAll t) 4096:=by
 obtain ⟨S1,S2,S3,S4,S5⟩:=jk R I U hk ho;refine ⟨S1,S2,S3,?_,?_,S5⟩
 ·obtain ⟨nx,ed,ad,ow,tp,ti,du,ev,_⟩:=S4
  rw [ev];exact U
 ·obtain ⟨nx,ed,ad,ow,tp,ti,du,ev,hv⟩:=S4
  rw [ev];show ow≠2;rcases hv with q | q
  ·rw [q];exact o
  ·tm_at "ob"
theorem CB {s:PS} {t:SS} {k:Nat} (R:Rel s t []) (I:Inv t k) (U:U1 t) (o:t.owed≠2) (hk:k≤16000) (n:Nat) {b:List Nat} (hb:∀x∈b,x<256) (hl:b.length≤16000):uD s (n:Int) (cI b)∧dB k (rJ s (n:Int) (cI b)) (Sw53.step t (.write n b)):=by
 obtain ⟨G,D⟩:=gn R I U o hk n;show uD s (n:Int) (cI b)∧dB k _ (if Sw53.timeOk n=false then Sw53.says_ t (-1) else if (Sw53.passes t n).1.phase≤1 then Sw53.ok (-4) (Sw53.passes t n) else if 5≤(Sw53.passes t n).1.phase∨(Sw53.passes t n).1.closing=true then Sw53.ok (-6) (Sw53.passes t n) else
   Sw53.ok ((min b.length (min (Sw53.KEPT - (Sw53.passes t n).1.out.length) (Sw53.WHOLE - (Sw53.passes t n).1.total)):Nat):Int) ((Sw53.passes t n).then_ fun (u:SS)=>Sw53.pushAll { u with out:=u.out++b.take (min b.length (min (Sw53.KEPT - (Sw53.passes t n).1.out.length) (Sw53.WHOLE - (Sw53.passes t n).1.total))),total:=u.total+min b.length (min (Sw53.KEPT - (Sw53.passes t n).1.out.length) (Sw53.WHOLE - (Sw53.passes t n).1.total)) }))
 by_cases c:Sw53.timeOk n=false
 ·have ew:toWrite s (n:Int)=(s,-1):=by unfold toWrite;rw [fQ,if_pos c]
  rw [if_pos c];unfold rJ;have ok1:=I.zC;refine ⟨⟨fun _=>G,?_,fun q=>absurd (show (toWrite s (n:Int)).2<0 by rw [ew];dsimp only;decide) q⟩,?_⟩
  ·rw [ew];show s.aB.length+(cI b).length≤_;rw [R.aB,ba,ba];tm_at "ob"
  rw [ew];dsimp only;rw [if_pos (by decide)];exact dF R I U o _
 ·have ew:=tf D c
  rw [if_neg c];unfold rJ;generalize Sw53.passes t n=x at D ew ⊢;have dn:=D.n;have ok1:=D.i.zC;have hlen:(toWrite s (n:Int)).1.aB.length+(cI b).length≤1000000:=by rw [ew];show (cA s (n:Int)).aB.length+_≤_;rw [D.r.aB,ba,ba];tm_at "ob"
  by_cases c1:x.1.phase≤1
  ·rw [if_pos c1] at ew ⊢
   refine ⟨⟨fun _=>G,hlen,fun q=>absurd (show (toWrite s (n:Int)).2<0 by rw [ew];dsimp only;decide) q⟩,?_⟩;rw [ew];dsimp only;rw [if_pos (by decide)];exact dQ D _
  ·rw [if_neg c1] at ew ⊢
   by_cases c2:5≤x.1.phase∨x.1.closing=true
   ·rw [if_pos c2] at ew ⊢
    refine ⟨⟨fun _=>G,hlen,fun q=>absurd (show (toWrite s (n:Int)).2<0 by rw [ew];dsimp only;decide) q⟩,?_⟩;rw [ew];dsimp only;rw [if_pos (by decide)];exact dQ D _
   ·rw [if_neg c2] at ew ⊢
    have hcl:x.1.closing=false:=by cases h:x.1.closing with | false=>rfl | true=>exact absurd (.inr h) c2
    obtain ⟨D1,D2,D3,D4,D5⟩:=D;generalize cA s (n:Int)=s1 at D1 ew;have hK:Sw53.KEPT=65536:=rfl;have hW:Sw53.WHOLE=1073741824:=rfl;generalize hm:min b.length (min (Sw53.KEPT - x.1.out.length) (Sw53.WHOLE - x.1.total))=m;rw [hK,hW] at hm;have tot:=D2.tot;have ol:=D2.wH;have tk:jq s1 (cI b)=cI (b.take m):=by
     unfold jq;rw [D1.aB,D1.last,ba,show min (65536 - (x.1.out.length:Int)) (1073741824 - ((x.1.total:Int)+1 - 1))=((min (65536 - x.1.out.length) (1073741824 - x.1.total):Nat):Int) by tm_at "ob",jL,pC];by_cases h:b.length≤min (65536 - x.1.out.length) (1073741824 - x.1.total)
     ·rw [List.take_of_length_le (by rw [ba];exact h),List.take_of_length_le (by rw [ba];tm_at "ob")]
     ·rw [show m=min (65536 - x.1.out.length) (1073741824 - x.1.total) by tm_at "ob"]
    have lm:(b.take m).length=m:=by rw [List.length_take];tm_at "ob"
    have R1:Rel (DZ s1 (jq s1 (cI b))) { x.1 with out:=x.1.out++b.take m,total:=x.1.total+m } ([]++x.2):=by
     have e1:s1.aB++jq s1 (cI b)=cI (x.1.out++b.take m):=by rw [D1.aB,tk,fz]
     have e2:s1.last+((jq s1 (cI b)).length:Int)=((x.1.total+m:Nat):Int)+1:=by rw [D1.last,tk,ba,lm];tm_at "ob"
     dsimp only [DZ,PS.jh,PS.uS];exact { D1 with aB:=e1,last:=e2 }
    have una:=D2.un;have nt:=D2.nt;have tl:=D2.tl;have tc:=D2.tc;have I1:Inv { x.1 with out:=x.1.out++b.take m,total:=x.1.total+m } k:=by
     have ht:x.1.top≤x.1.total+1:=by
      by_cases h:x.1.top=x.1.total+2
      ·have:=tc h;rw [hcl] at this;cases this
      ·tm_at "ob"
     exact { D2 with tot:=(by show x.1.total+m≤1073741824;tm_at "ob"),wH:=(by show (x.1.out++b.take m).length=x.1.total+m+1 - max x.1.una 1;rw [List.length_append,lm,ol];tm_at "ob"),zC:=(by show (x.1.out++b.take m).length≤65536;rw [List.length_append,lm];tm_at "ob"),Dk:=(fun y hy=>by rcases List.mem_append.mp hy with h | h;exact D2.Dk y h;exact hb y (List.mem_of_mem_take h)),tl:=(by show x.1.top≤x.1.total+m+2;tm_at "ob"),tc:=(fun (q:x.1.top=x.1.total+m+2)=>by tm_at "ob") }
    obtain ⟨S1,S2⟩:=Dc R1 I1 D3 D4 hk (by simp only [List.length_append,List.length_nil];tm_at "ob");refine ⟨⟨fun _=>G,hlen,fun _=>by rw [ew];exact S1⟩,?_⟩;rw [ew];dsimp only;rw [if_neg (by decide)];refine ⟨?_,S2.i,S2.u,S2.o,?_⟩
    ·have:=S2.r
     rw [List.nil_append] at this;exact this
    ·show [((jq s1 (cI b)).length:Int)]=_
     rw [tk,ba,lm];rfl
theorem EA {s:PS} {t:SS} {k:Nat} (R:Rel s t []) (I:Inv t k) (U:U1 t) (o:t.owed≠2) (hk:k≤16000) (n m:Nat):yT s (n:Int)∧dB k (xk s (n:Int) (m:Int)) (Sw53.step t (.read n m)):=by
 obtain ⟨G,D⟩:=gn R I U o hk n;have dn:=D.n;have hg:=D.i.got;have ol:(cA s (n:Int)).out.length≤1000000:=by rw [D.r.out,List.length_map];simp only [List.length_append,List.length_nil];tm_at "ob"
 have ul:(cA s (n:Int)).aH.length≤1000000:=by rw [D.r.aH,ba];tm_at "ob"
 refine ⟨⟨fun _=>G,fun _=>ol,fun _=>ul⟩,?_⟩;show dB k _ (if Sw53.timeOk n=false then Sw53.says_ t (-1) else if (Sw53.passes t n).1.phase≤1∧(Sw53.passes t n).1.got=[] then Sw53.ok (-4) (Sw53.passes t n) else if (Sw53.passes t n).1.got=[]∧((Sw53.passes t n).1.ended=true∨(Sw53.passes t n).1.phase=6) then Sw53.ok (-6) (Sw53.passes t n) else
   (fun y:Sw53.Does=>((y.1,(⟨(((Sw53.passes t n).1.got.take m).length:Nat),(Sw53.passes t n).1.got.take m,y.2⟩:Sw53.Ans)):SS×Sw53.Ans)) ((Sw53.passes t n).then_ fun (u:SS)=>(fun v:SS=>if v.known=true∧v.ended=false∧v.edge<v.room then Sw53.ackNow v else Sw53.done v) { u with got:=u.got.drop m }))
 unfold xk;rw [fQ];by_cases c:Sw53.timeOk n=false
 ·rw [if_pos c,if_pos c];exact dF R I U o _
 ·rw [if_neg c,if_neg c]
  generalize cA s (n:Int)=s1 at D ⊢;generalize Sw53.passes t n=x at D hg dn ⊢;have ph:=D.i.ph;have er:dY s1=if x.1.phase≤1∧x.1.got=[] then -4 else if x.1.got=[]∧(x.1.ended=true∨x.1.phase=6) then -6 else 0:=by
   unfold dY;rw [D.r.aH,D.r.phase,D.r.bg]
   cases hgo:x.1.got with
   | cons z l=>rw [if_neg (show ¬(cI (z::l)).isEmpty=true from Bool.false_ne_true),if_neg (fun q=>by cases q.2),if_neg (fun q=>by cases q.1)]
   | nil =>
    rw [if_pos (show (cI []).isEmpty=true from rfl)];by_cases c1:x.1.phase≤1
    ·rw [if_pos (show ((x.1.phase:Nat):Int)=0∨((x.1.phase:Nat):Int)=1 by tm_at "ob"),if_pos ⟨c1,rfl⟩]
    ·rw [if_neg (show ¬(((x.1.phase:Nat):Int)=0∨((x.1.phase:Nat):Int)=1) by tm_at "ob"),if_neg (show ¬(x.1.phase≤1∧([]:List Nat)=[]) from fun q=>c1 q.1)]
     by_cases c2:x.1.ended=true∨x.1.phase=6
     ·have c2':x.1.ended=true∨((x.1.phase:Nat):Int)=6:=by
       rcases c2 with q | q
       ·exact .inl q
       ·exact .inr (by tm_at "ob")
      rw [if_pos c2',if_pos ⟨rfl,c2⟩]
     ·have c2':¬(x.1.ended=true∨((x.1.phase:Nat):Int)=6):=fun q=>c2 (by
       rcases q with q | q
       ·exact .inl q
       ·exact .inr (by tm_at "ob"))
      rw [if_neg c2',if_neg (show ¬(([]:List Nat)=[]∧(x.1.ended=true∨x.1.phase=6)) from fun q=>c2 q.2)]
  by_cases c1:x.1.phase≤1∧x.1.got=[]
  ·rw [if_pos c1] at er ⊢
   rw [er,if_pos (by decide)];exact dQ D _
  ·rw [if_neg c1] at er ⊢
   by_cases c2:x.1.got=[]∧(x.1.ended=true∨x.1.phase=6)
   ·rw [if_pos c2] at er ⊢
    rw [er,if_pos (by decide)];exact dQ D _
   ·rw [if_neg c2] at er ⊢
    rw [er,if_neg (by decide)];obtain ⟨D1,D2,D3,D4,D5⟩:=D;have ed:nP s1 (m:Int)=cI (x.1.got.take m):=by unfold nP;rw [D1.aH,jL,pC]
    have eu:eS s1.aH (some ((nP s1 (m:Int)).length:Int)) none=cI (x.1.got.drop m):=by
     rw [ed,ba,D1.aH,iR,←mP,List.length_take];by_cases h:m≤x.1.got.length
     ·rw [Nat.min_eq_left h]
     ·rw [List.drop_of_length_le (by tm_at "ob"),List.drop_of_length_le (by tm_at "ob")]
    have R1:Rel (uV s1 (m:Int)) { x.1 with got:=x.1.got.drop m } ([]++x.2):=by
     dsimp only [uV,PS.iz];exact { D1 with aH:=eu }
    have I1:Inv { x.1 with got:=x.1.got.drop m } k:={ D2 with ge:=(by show (x.1.got.drop m).length+(x.1.edge - x.1.next)≤65536;rw [List.length_drop];have:=D2.ge;tm_at "ob"),new:=fun q=>let z:=D2.new q;⟨by show x.1.got.drop m=[];rw [z.1];exact List.drop_nil,z.2⟩ };have hg2:({ x.1 with got:=x.1.got.drop m }:SS).got.length≤65536:=I1.got;have D3':U1 { x.1 with got:=x.1.got.drop m }:=D3;have D4':({ x.1 with got:=x.1.got.drop m }:SS).owed≠2:=D4;have ea:((nP s1 (m:Int)).length:Int)::nP s1 (m:Int)=(((x.1.got.take m).length:Nat):Int)::cI (x.1.got.take m):=by rw [ed,ba]
    rw [ea];have hx:Sw53.Does.then_ x (fun (u:SS)=>(fun v:SS=>if v.known=true∧v.ended=false∧v.edge<v.room then Sw53.ackNow v else Sw53.done v) { u with got:=u.got.drop m })=((if ({ x.1 with got:=x.1.got.drop m }:SS).known=true∧({ x.1 with got:=x.1.got.drop m }:SS).ended=false∧({ x.1 with got:=x.1.got.drop m }:SS).edge<({ x.1 with got:=x.1.got.drop m }:SS).room then Sw53.ackNow { x.1 with got:=x.1.got.drop m } else Sw53.done { x.1 with got:=x.1.got.drop m }).1,x.2++(if ({ x.1 with got:=x.1.got.drop m }:SS).known=true∧({ x.1 with got:=x.1.got.drop m }:SS).ended=false∧({ x.1 with got:=x.1.got.drop m }:SS).edge<({ x.1 with got:=x.1.got.drop m }:SS).room then Sw53.ackNow { x.1 with got:=x.1.got.drop m } else Sw53.done { x.1 with got:=x.1.got.drop m }).2):=rfl;rw [hx];generalize uV s1 (m:Int)=s2 at R1 ⊢;generalize ({ x.1 with got:=x.1.got.drop m }:SS)=u at R1 I1 hg2 D3' D4' ⊢;have em:=(sh R1.wanted R1.aH R1.edge hg2).1;have DA:df k (readA s2) ([]++x.2) (if u.known=true∧u.ended=false∧u.edge<u.room then Sw53.ackNow u else Sw53.done u) 1:=by
     unfold readA;rw [gW R1.phase,R1.bg,em];by_cases c3:u.known=true∧u.ended=false∧u.edge<u.room
     ·rw [if_pos c3,if_pos ⟨c3.1,c3.2.1,decide_eq_true c3.2.2⟩]
      exact lU R1 I1 D3' D4' (by tm_at "ob")
     ·rw [if_neg c3,if_neg (fun q=>c3 ⟨q.1,q.2.1,of_decide_eq_true q.2.2⟩)]
      exact bx R1 I1 D3' D4'
    exact ⟨by have:=DA.r;rw [List.nil_append] at this;exact this,DA.i,DA.u,DA.o,rfl⟩
noncomputable def freshT (ph me mine them theirs iss now nx:Nat):SS:={ phase:=ph,me:=me,mine:=mine,them:=them,theirs:=theirs,iss:=iss,now:=now,nxt:=nx,top:=nx }
theorem sA {ph:Nat} (me mine them theirs iss now nx k:Nat) (h:ph≤2) (hx:nx≤1) (h2:ph=2→nx=1):Inv (freshT ph me mine them theirs iss now nx) k:=by
 have z:(freshT ph me mine them theirs iss now nx).phase=ph:=rfl;refine ⟨?_,?_,rfl,?_,?_,?_,?_,?_,?_,?_,?_,?_,?_,?_,?_,?_,kj.nil _ _,?_,?_,?_,?_,?_,?_,?_⟩
 ·show ph≤6;tm_at "ob"
 ·exact Nat.zero_le _
 ·exact Nat.zero_le _
 ·intro x hx;cases hx
 ·exact Nat.zero_le _
 ·exact Nat.le_refl _
 ·show nx≤0+2;tm_at "ob"
 ·show nx=0+2→_;tm_at "ob"
 ·exact fun _=>⟨rfl,rfl,rfl,Nat.zero_le _⟩
 ·intro q _
  have:=h2 (by have q:2≤ph:=q;tm_at "ob");exact ⟨this,this⟩
 ·intro q;have q:ph=5:=q;tm_at "ob"
 ·show 1≤5600∧5600≤2000000;tm_at "ob"
 ·show 1≤1048576∧1048576≤1048576;tm_at "ob"
 ·exact Nat.zero_le _
 ·show 0+(0 - 0)≤65536;tm_at "ob"
 ·intro e q;cases q
 ·intro q;cases q
 ·exact fun _=>⟨rfl,rfl,rfl,rfl,rfl,rfl,rfl⟩
 ·exact Nat.zero_le _
 ·exact Nat.zero_le _
 ·exact Nat.zero_le _
 ·exact Nat.zero_le _
theorem D0 {s:PS} {t:SS} {k:Nat} (R:Rel s t []) (I:Inv t k) (U:U1 t) (o:t.owed≠2) (me mine iss n:Nat):dB k (ko s (me:Int) (mine:Int) (iss:Int) (n:Int)) (Sw53.step t (.wait me mine iss n)):=by
 show dB k _ (if (Sw53.addressOk me && (Sw53.portOk mine && (decide (iss<Sw53.M) && Sw53.timeOk n)))=false then Sw53.says_ t (-1) else if t.phase≠0∧t.phase≠6 then Sw53.says_ t (-4) else Sw53.ok 0 (Sw53.done (freshT 1 me mine 0 0 iss (max t.now n) 0)));have ph:=I.ph;unfold ko jd;rw [rE,va,Av,fQ,oh R];by_cases c:(Sw53.addressOk me && (Sw53.portOk mine && (decide (iss<Sw53.M) && Sw53.timeOk n)))=false
 ·rw [if_pos c,if_pos c];exact dF R I U o _
 ·rw [if_neg c,if_neg c]
  by_cases c1:t.phase≠0∧t.phase≠6
  ·rw [if_pos c1,if_pos (decide_eq_false (by tm_at "ob"))];exact dF R I U o _
  ·rw [if_neg c1,if_neg (show ¬decide (t.phase=0∨t.phase=6)=false by rw [decide_eq_true (show t.phase=0∨t.phase=6 by tm_at "ob")];decide)]
   have en:max s.now (n:Int)=((max t.now n:Nat):Int):=by rw [R.now];tm_at "ob"
   have eo:s.out=[]:=R.out;refine ⟨?_,sA _ _ _ _ _ _ _ _ (by tm_at "ob") (by tm_at "ob") (by tm_at "ob"),fun (q:4≤1)=>by tm_at "ob",by show (0:Nat)≠2;tm_at "ob",rfl⟩;dsimp only [gR,lY,xY,ps0,PS.oW,PS.br,PS.uR,PS.nJ,PS.nM,Sw53.ok,Sw53.done,freshT];exact { out:=eo,now:=en,phase:=rfl,why:=rfl,me:=rfl,mine:=rfl,base:=rfl,them:=rfl,theirs:=rfl,aK:=rfl,aB:=rfl,last:=rfl,closing:=rfl,first:=rfl,au:=rfl,top:=rfl,room:=rfl,held:=⟨[],rfl,rfl,kl.nil _ _⟩,wide:=rfl,slow:=rfl,same:=rfl,bA:=.inl ⟨rfl,rfl⟩,anew:=rfl,jJ:=rfl,off:=rfl,aZ:=rfl,wait:=rfl,timed:=.inl ⟨rfl,rfl⟩,due:=rfl,tries:=rfl,wanted:=rfl,aH:=rfl,pieces:=rfl,cj:=rfl,bg:=rfl,edge:=rfl,owed:=rfl,ack:=fun _=>⟨fun (q:(0:Nat)=1)=>by tm_at "ob",fun _=>rfl⟩,kept:=rfl,heard:=fun (q:(3:Nat)≤1)=>by tm_at "ob",cf:=fun q=>(by cases q),fe:=fun q=>(by cases q),cx:=fun (q:(1:Nat)=5)=>by tm_at "ob" }
theorem Dm {s:PS} {t:SS} (R:Rel s t []) (me mine them theirs iss n:Nat):Rel ((((dJ (gR (lY s (n:Int) 2) (me:Int) (mine:Int) (iss:Int)) (them:Int) (theirs:Int) 0).aW 1).dt 1)) (freshT 2 me mine them theirs iss (max t.now n) 1) []:=by
 have en:max s.now (n:Int)=((max t.now n:Nat):Int):=by rw [R.now];tm_at "oa"
 have eo:s.out=[]:=R.out;dsimp only [dJ,gR,lY,xY,ps0,PS.oW,PS.br,PS.uR,PS.nJ,PS.nM,PS.ji,PS.fj,PS.cD,PS.aW,PS.dt,freshT];exact { out:=eo,now:=en,phase:=rfl,why:=rfl,me:=rfl,mine:=rfl,base:=rfl,them:=rfl,theirs:=rfl,aK:=rfl,aB:=rfl,last:=rfl,closing:=rfl,first:=rfl,au:=rfl,top:=rfl,room:=rfl,held:=⟨[],rfl,rfl,kl.nil _ _⟩,wide:=rfl,slow:=rfl,same:=rfl,bA:=.inl ⟨rfl,rfl⟩,anew:=rfl,jJ:=rfl,off:=rfl,aZ:=rfl,wait:=rfl,timed:=.inl ⟨rfl,rfl⟩,due:=rfl,tries:=rfl,wanted:=rfl,aH:=rfl,pieces:=rfl,cj:=rfl,bg:=rfl,edge:=rfl,owed:=rfl,ack:=fun _=>⟨fun (q:(0:Nat)=1)=>by tm_at "oa",fun _=>rfl⟩,kept:=rfl,heard:=fun (q:(3:Nat)≤2)=>by tm_at "oa",cf:=fun q=>(by cases q),fe:=fun q=>(by cases q),cx:=fun (q:(2:Nat)=5)=>by tm_at "oa" }
theorem Dl {s:PS} {t:SS} {k:Nat} (R:Rel s t []) (I:Inv t k) (U:U1 t) (o:t.owed≠2) (me mine them theirs iss n:Nat):s.out.length≤1000000∧dB k (gE s (me:Int) (mine:Int) (them:Int) (theirs:Int) (iss:Int) (n:Int)) (Sw53.step t (.open_ me mine them theirs iss n)):=by
 refine ⟨by rw [R.out];exact Nat.zero_le _,?_⟩;show dB k _ (if (Sw53.addressOk me && (Sw53.portOk mine && (Sw53.addressOk them && (Sw53.portOk theirs && (decide (iss<Sw53.M) && Sw53.timeOk n)))))=false then Sw53.says_ t (-1) else if t.phase≠0∧t.phase≠6 then Sw53.says_ t (-4) else
  Sw53.ok 0 (Sw53.says { freshT 2 me mine them theirs iss (max t.now n) 1 with due:=some (max t.now n+1000),timed:=some (1,max t.now n) } 0 true false false []))
 have ph:=I.ph;unfold gE gF;rw [rE,rE,va,va,Av,fQ,oh R];by_cases c:(Sw53.addressOk me && (Sw53.portOk mine && (Sw53.addressOk them && (Sw53.portOk theirs && (decide (iss<Sw53.M) && Sw53.timeOk n)))))=false
 ·rw [if_pos c,if_pos c];exact dF R I U o _
 ·rw [if_neg c,if_neg c]
  by_cases c1:t.phase≠0∧t.phase≠6
  ·rw [if_pos c1,if_pos (decide_eq_false (by tm_at "ob"))];exact dF R I U o _
  ·rw [if_neg c1,if_neg (show ¬decide (t.phase=0∨t.phase=6)=false by rw [decide_eq_true (show t.phase=0∨t.phase=6 by tm_at "ob")];decide),BX]
   have R1:=Dm R me mine them theirs iss n;have I1:Inv (freshT 2 me mine them theirs iss (max t.now n) 1) k:=sA _ _ _ _ _ _ _ _ (by tm_at "ob") (by tm_at "ob") (by tm_at "ob");obtain ⟨R2,I2⟩:=pD R1 I1;obtain ⟨ed,ad,ow,e1,hv,h3⟩:=gy (freshT 2 me mine them theirs iss (max t.now n) 1) 0 true false false [];have f1:(Sw53.says (freshT 2 me mine them theirs iss (max t.now n) 1) 0 true false false []).1.now=max t.now n:=by rw [e1];rfl
   have f2:(Sw53.says (freshT 2 me mine them theirs iss (max t.now n) 1) 0 true false false []).1.wait=1000:=by rw [e1];rfl
   have f3:(Sw53.says (freshT 2 me mine them theirs iss (max t.now n) 1) 0 true false false []).1.phase=2:=by rw [e1];rfl
   have f4:(Sw53.says (freshT 2 me mine them theirs iss (max t.now n) 1) 0 true false false []).1.owed≠2:=by
    rw [e1];rcases hv with q | q
    ·show ow≠2;tm_at "ob"
    ·show ow≠2;rw [q.1];show (0:Nat)≠2;tm_at "ob"
   obtain ⟨R3,I3⟩:=uL R2 I2 f1 f2;unfold sR;generalize Sw53.says (freshT 2 me mine them theirs iss (max t.now n) 1) 0 true false false []=y at R3 I3 f3 f4 ⊢;refine ⟨?_,I3,fun (q:4≤y.1.phase)=>by tm_at "ob",f4,rfl⟩;rw [List.nil_append] at R3;exact R3
theorem dB.mono {k k':Nat} {y:PS×List Int} {x:SS×Sw53.Ans} (h:dB k y x) (hk:k≤k'):dB k' y x:=⟨h.r,h.i.mono hk,h.u,h.o,h.a⟩
theorem Ab {s:PS} {t:SS} {os:List Sw53.Out} (R:Rel s t os) (sd:Nat) (g:Sw53.Seg):Bh s (sd:Int) (aT g)=decide (¬(g.dst≠t.mine∨(t.phase≠1∧(sd≠t.them∨g.src≠t.theirs)))):=by
 unfold Bh;rw [R.mine,R.phase,R.them,R.theirs,show (aT g).oV=(g.dst:Int) from rfl,show (aT g).fF=(g.src:Int) from rfl];by_cases c1:g.dst=t.mine
 ·rw [if_neg (show ¬((g.dst:Nat):Int)≠(t.mine:Int) by tm_at "ob")]
  by_cases c2:t.phase=1
  ·rw [if_pos (by tm_at "ob")];exact (decide_eq_true (by tm_at "ob")).symm
  ·rw [if_neg (by tm_at "ob")]
   by_cases c3:sd=t.them
   ·rw [if_pos (by tm_at "ob")]
    exact decide_eq_decide.mpr ⟨fun _=>by tm_at "ob",fun _=>by tm_at "ob"⟩
   ·rw [if_neg (by tm_at "ob")];exact (decide_eq_false (by tm_at "ob")).symm
 ·rw [if_pos (show ((g.dst:Nat):Int)≠(t.mine:Int) by tm_at "ob")];exact (decide_eq_false (by tm_at "ob")).symm
theorem FR {s:PS} {t:SS} {k:Nat} (R:Rel s t []) (I:Inv t k) (U:U1 t) (o:t.owed≠2) (sd n:Nat) {b:List Nat} (hb:∀x∈b,x<256) (hk:k+(4+b.length)≤16000):yW s (sd:Int) (n:Int) (cI b)∧dB (k+(4+b.length)) (lu s (sd:Int) (n:Int) (cI b)) (Sw53.step t (.came sd n b)):=by
 obtain ⟨G,D⟩:=gn R I U o (by tm_at "ob") n;show yW s (sd:Int) (n:Int) (cI b)∧dB _ _ (if (Sw53.addressOk sd && Sw53.timeOk n)=false then Sw53.says_ t (-1) else if (Sw53.passes t n).1.phase=0∨(Sw53.passes t n).1.phase=6 then Sw53.ok (-4) (Sw53.passes t n) else match Sw53.readSeg sd (Sw53.passes t n).1.me b with
   | none=>Sw53.ok (-3) (Sw53.passes t n)
   | some g=>if g.dst≠(Sw53.passes t n).1.mine∨((Sw53.passes t n).1.phase≠1∧(sd≠(Sw53.passes t n).1.them∨g.src≠(Sw53.passes t n).1.theirs)) then Sw53.ok (-2) (Sw53.passes t n) else
    Sw53.ok 0 ((Sw53.passes t n).then_ fun (t:SS)=>if t.phase=1 then Sw53.waits t sd g else if t.phase=2 then Sw53.begun t g else Sw53.arrives t g))
 unfold lu;rw [rE,fQ];generalize hs1:cA s (n:Int)=s1 at D;generalize Sw53.passes t n=x at D ⊢;have ph:=D.i.ph;have dn:=D.n;have er:lF (cI b) (sd:Int) s1.me=(Sw53.readSeg sd x.1.me b).map aT:=by rw [D.r.me];exact EB sd x.1.me b hb
 have main:∀g,Sw53.readSeg sd x.1.me b=some g→¬(x.1.phase=0∨x.1.phase=6)→¬(g.dst≠x.1.mine∨(x.1.phase≠1∧(sd≠x.1.them∨g.src≠x.1.theirs)))→yV s1 (sd:Int) (aT g)∧df (k+(4+b.length)) (xw s1 (sd:Int) (aT g)) ([]++x.2) (if x.1.phase=1 then Sw53.waits x.1 sd g else if x.1.phase=2 then Sw53.begun x.1 g else Sw53.arrives x.1 g) 5000:=fun g eg h0 h1=>by
  obtain ⟨i1,i2,i3,i4⟩:=GY hb eg;have ir:=i1.r;obtain ⟨C1,C2⟩:=FP D.r D.i D.u D.o (by tm_at "ob") (by tm_at "ob") i1 i4 (by tm_at "ob") (by simp only [List.length_append,List.length_nil];tm_at "ob") (sd:=sd) (by tm_at "ob") (fun q=>⟨by tm_at "ob",by tm_at "ob"⟩);exact ⟨C1,C2.r,C2.i.mono (by tm_at "ob"),C2.u,C2.o,C2.n⟩
 refine ⟨⟨fun _=>G,IT hb,fun _ h0 g e1 e2=>?_⟩,?_⟩
 ·rw [hs1] at h0 e1 e2 ⊢
  rw [er] at e1
  cases hr:Sw53.readSeg sd x.1.me b with
  | none=>rw [hr] at e1;cases e1
  | some g' =>
   rw [hr] at e1;injection e1 with e1;subst e1;rw [Ab D.r,decide_eq_true_eq] at e2;rw [oh D.r] at h0;exact (main g' hr (of_decide_eq_false h0) e2).1
 ·try rw [hs1]
  by_cases c:(Sw53.addressOk sd && Sw53.timeOk n)=false
  ·rw [if_pos c,if_pos c];exact (dF R I U o _).mono (by tm_at "ob")
  ·rw [if_neg c,if_neg c,oh D.r]
   by_cases c1:x.1.phase=0∨x.1.phase=6
   ·rw [if_pos c1,if_pos (decide_eq_true c1)];exact (dQ D _).mono (by tm_at "ob")
   ·rw [if_neg c1,if_neg (show ¬decide (x.1.phase=0∨x.1.phase=6)=true by rw [decide_eq_false c1];exact Bool.false_ne_true),er]
    cases hr:Sw53.readSeg sd x.1.me b with
    | none=>exact (dQ D _).mono (by tm_at "ob")
    | some g =>
     show dB _ (if Bh s1 (sd:Int) (aT g)=true then _ else _) (if _ then _ else _);rw [Ab D.r];by_cases c2:g.dst≠x.1.mine∨(x.1.phase≠1∧(sd≠x.1.them∨g.src≠x.1.theirs))
     ·rw [if_pos c2,if_neg (show ¬decide (¬(g.dst≠x.1.mine∨(x.1.phase≠1∧(sd≠x.1.them∨g.src≠x.1.theirs))))=true by rw [decide_eq_false (fun q=>q c2)];exact Bool.false_ne_true)]
      exact (dQ D _).mono (by tm_at "ob")
     ·rw [if_neg c2,if_pos (decide_eq_true c2)]
      obtain ⟨_,M⟩:=main g hr c1 c2;refine ⟨?_,M.i,M.u,M.o,rfl⟩;have:=M.r;rw [List.nil_append] at this;exact this
theorem Ea {s:PS} {t:SS} {k:Nat} (R:Rel s t []) (I:Inv t k) (U:U1 t) (o:t.owed≠2):dB k (ui s) (Sw53.step t .told):=by
 refine ⟨R,I,U,o,?_⟩;show [0,s.phase,s.why]++[s.last - 1,(s.aB.length:Int),s.first,s.au,s.top,s.room]++[s.wide,s.slow,s.wait]++[s.wanted,(s.aH.length:Int),s.edge,(s.pieces.length:Int),if s.bg=true then 1 else 0]=(0:Int)::cI [t.phase,t.why,t.total,t.out.length,t.una,t.nxt,t.top,t.lim,t.cwnd,t.slow,t.wait,t.next,t.got.length,t.edge,t.pieces.length,t.ended.toNat];rw [R.phase,R.why,R.last,R.aB,R.first,R.au,R.top,R.room,R.wide,R.slow,R.wait,R.wanted,R.aH,R.edge,R.pieces,R.bg,ba,ba,List.length_map,show (t.total:Int)+1 - 1=(t.total:Int) by tm_at "ob"]
 cases t.ended <;> rfl
theorem pM:∀(l:List Nat) (x:Nat),(cI l).foldl min (x:Int)=((l.foldl min x:Nat):Int)
 | [],_=>rfl
 | y::l,x=>by
  show (cI l).foldl min (min (x:Int) (y:Int))=((l.foldl min (min x y):Nat):Int);rw [←pM l (min x y),show min (x:Int) (y:Int)=((min x y:Nat):Int) by omega]
theorem CL {s:PS} {t:SS} {os:List Sw53.Out} (R:Rel s t os) (o:t.owed≠2):rF s∧eK s=cI t.next_:=by
 have ra:=R.ack o;have on:=zB R;refine ⟨⟨fun q=>⟨_,R.cx (by rw [R.phase] at q;tm_at "ob")⟩,fun h=>by obtain ⟨d,_,h2⟩:=ra.1 (on.mp h).2;exact ⟨_,h2⟩⟩,?_⟩;unfold eK Sw53.Side.next_;rw [fz,fz,fz];congr 1
 ·congr 1
  ·congr 1
   ·rw [R.phase]
    by_cases c:t.phase=5
    ·rw [if_pos (by tm_at "ob"),if_pos c,R.cx c];rfl
    ·rw [if_neg (by tm_at "ob"),if_neg c];rfl
   ·by_cases c:t.owed=1
    ·obtain ⟨d,h1,h2⟩:=ra.1 c
     rw [h1,h2];by_cases c2:t.known=true
     ·rw [if_pos (on.mpr ⟨c2,c⟩),if_pos c2];rfl
     ·rw [if_neg (fun q=>c2 (on.mp q).1),if_neg c2];rfl
    ·rw [if_neg (fun q=>c (on.mp q).2),ra.2 c]
     split <;> rfl
  ·rw [R.due]
   cases t.due <;> rfl
 ·unfold eJ
  rw [R.kept,R.phase,R.first,R.top];by_cases c:0<t.still∧t.phase=4∧t.una=t.top
  ·rw [if_pos c,if_neg (by tm_at "ob"),if_neg (show ¬((t.phase:Nat):Int)≠4 by tm_at "ob"),if_neg (show ¬((t.una:Nat):Int)≠(t.top:Int) by tm_at "ob"),(R.heard (by tm_at "ob") (by tm_at "ob")).1,(R.heard (by tm_at "ob") (by tm_at "ob")).2]
   rfl
  ·rw [if_neg c]
   by_cases c1:t.still=0
   ·rw [if_pos (by tm_at "ob")];rfl
   ·rw [if_neg (by tm_at "ob")]
    by_cases c2:t.phase=4
    ·rw [if_neg (show ¬((t.phase:Nat):Int)≠4 by tm_at "ob"),if_pos (show ((t.una:Nat):Int)≠(t.top:Int) by tm_at "ob")];rfl
    ·rw [if_pos (show ((t.phase:Nat):Int)≠4 by tm_at "ob")];rfl
theorem FE {s:PS} {t:SS} {k:Nat} (R:Rel s t []) (I:Inv t k) (U:U1 t) (o:t.owed≠2):rF s∧dB k (qD s) (Sw53.step t .due):=by
 obtain ⟨T1,T2⟩:=CL R o;refine ⟨T1,?_⟩;show dB k _ (t,match t.next_ with
  | []=>⟨0,[],[]⟩
  | x::l=>⟨1,[l.foldl min x],[]⟩)
 unfold qD;rw [T2]
 cases t.next_ with
 | nil=>exact ⟨R,I,U,o,rfl⟩
 | cons x l =>
  refine ⟨R,I,U,o,?_⟩;show [(1:Int),(cI l).foldl min (x:Int)]=(1:Int)::[((l.foldl min x:Nat):Int)];rw [pM]
theorem Ie (os:List Sw53.Out):bX (os.map cPc)=cI (os.length::os.flatMap fun (o:Sw53.Out)=>o.1::o.2.length::o.2):=by
 unfold bX;show _::_=(os.length:Int)::cI _;rw [List.length_map];congr 1
 induction os with
 | nil=>rfl
 | cons o os ih =>
  rw [List.map_cons,List.flatMap_cons,List.flatMap_cons,ih,fz];congr 1;show (o.1:Int)::((cI o.2).length:Int)::cI o.2=(o.1:Int)::(o.2.length:Int)::cI o.2;rw [ba]
theorem Kh {k:Nat} {y:PS×List Int} {x:SS×Sw53.Ans} (S:dB k y x):y.2++bX y.1.out=x.2.v::cI x.2.rest:=by
 rw [S.a,S.r.out,Ie];unfold Sw53.Ans.rest;rw [fz];rfl
theorem Rel.vf {s:PS} {t:SS} {os:List Sw53.Out} (R:Rel s t os):Rel (s.gf []) t []:=by
 dsimp only [PS.gf];exact { R with out:=rfl }
theorem C7:Rel (ps0 0 []) Sw53Neutral.start []:=by
 dsimp only [ps0,Sw53Neutral.start];exact { out:=rfl,now:=rfl,phase:=rfl,why:=rfl,me:=rfl,mine:=rfl,base:=rfl,them:=rfl,theirs:=rfl,aK:=rfl,aB:=rfl,last:=rfl,closing:=rfl,first:=rfl,au:=rfl,top:=rfl,room:=rfl,held:=⟨[],rfl,rfl,kl.nil _ _⟩,wide:=rfl,slow:=rfl,same:=rfl,bA:=.inl ⟨rfl,rfl⟩,anew:=rfl,jJ:=rfl,off:=rfl,aZ:=rfl,wait:=rfl,timed:=.inl ⟨rfl,rfl⟩,due:=rfl,tries:=rfl,wanted:=rfl,aH:=rfl,pieces:=rfl,cj:=rfl,bg:=rfl,edge:=rfl,owed:=rfl,ack:=fun _=>⟨fun (q:(0:Nat)=1)=>by tm_at "oa",fun _=>rfl⟩,kept:=rfl,heard:=fun (q:(3:Nat)≤0)=>by tm_at "oa",cf:=fun q=>(by cases q),fe:=fun q=>(by cases q),cx:=fun (q:(0:Nat)=5)=>by tm_at "oa" }
theorem sx (k:Nat):Inv Sw53Neutral.start k:=sA (ph:=0) 0 0 0 0 0 0 0 k (by tm_at "ob") (by tm_at "ob") (by tm_at "ob")
theorem D8:U1 Sw53Neutral.start:=fun (q:4≤0)=>by tm_at "oa"
structure rH (s:PS) (t:SS) (k j:Nat) (c:List (List Int)) (row:List Int) (call:Int) (nums:List Int):Prop where
 go:∃y:PS×List Int,cp (s.gf []) row call nums y∧y.2++bX y.1.out=(Sw53Neutral.step t c).2∧
  (∃os,Rel y.1 (Sw53Neutral.step t c).1 os)∧Inv (Sw53Neutral.step t c).1 (k+j)∧U1 (Sw53Neutral.step t c).1∧(Sw53Neutral.step t c).1.owed≠2
theorem ie {s:PS} {t:SS} {k j:Nat} {c:List (List Int)} {row:List Int} {call:Int} {nums:List Int} {y:PS×List Int} {x:Sw53.Call} (e:Sw53Neutral.callOf c=some x) (A:cp (s.gf []) row call nums y) (S:dB (k+j) y (Sw53.step t x)):rH s t k j c row call nums:=by
 have es:Sw53Neutral.step t c=((Sw53.step t x).1,(Sw53.step t x).2.v::cI (Sw53.step t x).2.rest):=by
  unfold Sw53Neutral.step;rw [e];rfl
 refine ⟨y,A,?_,?_,?_,?_,?_⟩
 ·rw [es];exact Kh S
 ·rw [es];exact ⟨_,S.r⟩
 ·rw [es];exact S.i
 ·rw [es];exact S.u
 ·rw [es];exact S.o
theorem dI {x:Int} (h:PyInside.within 0 18446744073709551615 x=true):∃n:Nat,x=(n:Int):=by
 unfold PyInside.within at h;rw [Bool.and_eq_true,decide_eq_true_eq,decide_eq_true_eq] at h;exact ⟨x.toNat,by tm_at "ob"⟩
theorem vM:∀{r:List Int},r.all (PyInside.within 0 255)=true→∃b:List Nat,r=cI b∧∀x∈b,x<256
 | [],_=>⟨[],rfl,fun x h=>by cases h⟩
 | x::r,h=>by
  rw [List.all_cons,Bool.and_eq_true] at h;obtain ⟨b,e,hb⟩:=vM h.2;have h1:=h.1;unfold PyInside.within at h1;rw [Bool.and_eq_true,decide_eq_true_eq,decide_eq_true_eq] at h1;refine ⟨x.toNat::b,?_,?_⟩
  ·rw [e];show x::cI b=((x.toNat:Nat):Int)::cI b;rw [Int.toNat_of_nonneg h1.1]
  ·intro z hz
   rcases List.mem_cons.mp hz with q | q
   ·tm_at "oa"
   ·exact hb z q
theorem vL (b:List Nat):(cI b).map Int.toNat=b:=by
 unfold cI;rw [List.map_map];exact List.map_id'' (fun n=>Int.toNat_natCast n) b
theorem FU (b:List Nat):(cI b).all (fun (z:Int)=>decide (0≤z))=true:=by
 rw [List.all_eq_true];intro x hx;obtain ⟨n,_,rfl⟩:=List.mem_map.mp hx;exact decide_eq_true (by tm_at "oa")
theorem call_plain {ns:List Nat} {x:Sw53.Call} (h:Sw53.readCall ns=some x):Sw53Neutral.callOf [cI ns]=some x:=by
 show (if (cI ns).all (fun (z:Int)=>decide (0≤z))=true then Sw53.readCall ((cI ns).map Int.toNat) else none)=_;rw [if_pos (FU ns),vL,h]
theorem vK {ns b:List Nat} {x:Sw53.Call} (h:Sw53.readCall (ns++(b.length::b))=some x):Sw53Neutral.callOf [cI ns,cI b]=some x:=by
 show (if (cI ns++cI b).all (fun (z:Int)=>decide (0≤z))=true then Sw53.readCall ((cI ns).map Int.toNat++((cI b).length::(cI b).map Int.toNat)) else none)=_;rw [←fz,if_pos (FU _),vL,vL,ba,h]
section
variable {s:PS} {t:SS} {os:List Sw53.Out} {k:Nat} (R:Rel s t os) (I:Inv t k) (U:U1 t) (o:t.owed≠2) (hk:k≤16000)
include R I U o
theorem K9 (a b c d e f:Nat):rH s t k 0 [[1,a,b,c,d,e,f]] [] 1 [a,b,c,d,e,f]:=by
 obtain ⟨h1,h2⟩:=Dl R.vf I U o a b c d e f;exact ie (call_plain (ns:=[1,a,b,c,d,e,f]) rfl) (.c1 _ _ _ _ _ _ h1) h2
theorem K8 (a b c d:Nat):rH s t k 0 [[2,a,b,c,d]] [] 2 [a,b,c,d]:=
 ie (call_plain (ns:=[2,a,b,c,d]) rfl) (.c2 _ _ _ _) (D0 R.vf I U o a b c d)
theorem K7 (a b:Nat) {l:List Nat} (hl:∀x∈l,x<256) (hn:k+(4+l.length)≤16000):rH s t k (4+l.length) [[3,a,b],cI l] (cI l) 3 [a,b]:=by
 obtain ⟨h1,h2⟩:=FR R.vf I U o a b hl hn;refine ie (vK (ns:=[3,a,b]) (b:=l) ?_) (.c3 _ _ h1) h2;show (if l.length=l.length then some (Sw53.Call.came a b l) else none)=_;rw [if_pos rfl]
include hk
theorem K6 (a:Nat) {l:List Nat} (hl:∀x∈l,x<256) (hn:l.length≤16000):rH s t k 0 [[4,a],cI l] (cI l) 4 [a]:=by
 obtain ⟨h1,h2⟩:=CB R.vf I U o hk a hl hn;refine ie (vK (ns:=[4,a]) (b:=l) ?_) (.c4 _ h1) h2;show (if l.length=l.length then some (Sw53.Call.write a l) else none)=_;rw [if_pos rfl]
theorem K5 (a b:Nat):rH s t k 0 [[5,a,b]] [] 5 [a,b]:=by
 obtain ⟨h1,h2⟩:=EA R.vf I U o hk a b;exact ie (call_plain (ns:=[5,a,b]) rfl) (.c5 _ _ h1) h2
theorem K4 (a:Nat):rH s t k 0 [[6,a]] [] 6 [a]:=by
 obtain ⟨h1,h2⟩:=DI R.vf I U o hk a;exact ie (call_plain (ns:=[6,a]) rfl) (.c6 _ h1) h2
theorem K3 (a:Nat):rH s t k 0 [[7,a]] [] 7 [a]:=by
 obtain ⟨h1,h2⟩:=C4 R.vf I U o hk a;exact ie (call_plain (ns:=[7,a]) rfl) (.c7 _ h1) h2
theorem K2 (a:Nat):rH s t k 0 [[8,a]] [] 8 [a]:=by
 obtain ⟨h1,h2⟩:=Ec R.vf I U o hk a;exact ie (call_plain (ns:=[8,a]) rfl) (.c8 _ h1) h2
theorem K1 (a b:Nat):rH s t k 0 [[9,a,b]] [] 9 [a,b]:=by
 obtain ⟨h1,h2⟩:=Fj R.vf I U o hk a b;exact ie (call_plain (ns:=[9,a,b]) rfl) (.c9 _ _ h1) h2
omit hk
theorem JU:rH s t k 0 [[10]] [] 10 []:=by
 obtain ⟨h1,h2⟩:=FE R.vf I U o;exact ie (call_plain (ns:=[10]) rfl) (.c10 h1) h2
theorem JT:rH s t k 0 [[11]] [] 11 []:=
 ie (call_plain (ns:=[11]) rfl) .c11 (Ea R.vf I U o)
end
theorem ic {p:Int} {r tl:List Int} {c:List (List Int)} {n kk:Nat} (hs:PySw53.shape p=some (n,kk)) (h:PyFlat.call PySw53.shape (p::r)=some (c,tl)):n≤r.length∧∃xs,PyFlat.rows kk (r.drop n)=some (xs,tl)∧c=(p::r.take n)::xs:=by
 unfold PyFlat.call at h;dsimp only at h;rw [hs] at h;dsimp only at h;split at h
 ·cases h
 ·rename_i hl
  refine ⟨by tm_at "oa",?_⟩;split at h
  ·cases h
  ·rename_i xs tl' e
   cases h
   exact ⟨xs,e,rfl⟩
theorem rows0 {r tl:List Int} {xs:List (List Int)} (h:PyFlat.rows 0 r=some (xs,tl)):xs=[]∧tl=r:=by
 cases h
 exact ⟨rfl,rfl⟩
theorem IG {r tl:List Int} {xs:List (List Int)} (h:PyFlat.rows 1 r=some (xs,tl)):∃row:List Int,xs=[row]∧r=(row.length:Int)::(row++tl):=by
 unfold PyFlat.rows at h;split at h
 ·cases h
 ·rename_i x s e
  have h:(match PyFlat.rows 0 s with | none=>none | some (xs,t)=>some (x::xs,t))=some (xs,tl):=h;unfold PyFlat.rows at h
  cases h
  refine ⟨x,rfl,?_⟩
  cases r with
  | nil=>cases e
  | cons n r =>
   unfold PyFlat.row at e;dsimp only at e;by_cases q:0≤n∧n.toNat≤r.length
   ·rw [if_pos q] at e
    cases e
    rw [List.take_append_drop,List.length_take];congr 1;tm_at "ob"
   ·rw [if_neg q] at e
    cases e
theorem Fg:∀{r:List Int},1≤r.length→∃a r',r=a::r'
 | a::r,_=>⟨a,r,rfl⟩
theorem Dx:∀{r:List Int},2≤r.length→∃a b r',r=a::b::r'
 | a::b::r,_=>⟨a,b,r,rfl⟩
 | [_],h=>absurd h (fun q:2≤1=>by omega)
theorem KO {r:List Int} (h:4≤r.length):∃a b c d r',r=a::b::c::d::r':=by
 obtain ⟨a,b,r1,rfl⟩:=Dx (r:=r) (by tm_at "ob");obtain ⟨c,d,r2,rfl⟩:=Dx (r:=r1) (by simp only [List.length_cons] at h;tm_at "ob");exact ⟨a,b,c,d,r2,rfl⟩
theorem LA {r:List Int} (h:6≤r.length):∃a b c d e f r',r=a::b::c::d::e::f::r':=by
 obtain ⟨a,b,c,d,r1,rfl⟩:=KO (r:=r) (by tm_at "ob");obtain ⟨e,f,r2,rfl⟩:=Dx (r:=r1) (by simp only [List.length_cons] at h;tm_at "ob");exact ⟨a,b,c,d,e,f,r2,rfl⟩
noncomputable def IA (s:PS) (t:SS) (k:Nat) (p:Int) (r tl:List Int) (c:List (List Int)):Prop:=
 (∃nums,p≠3∧p≠4∧r=nums++tl∧rH s t k 0 (PySw53.whole c) [] p nums)∨∃nums row,(p=3∨p=4)∧r=nums++((row.length:Int)::(row++tl))∧∃j,j≤nums.length+2+row.length∧rH s t k j (PySw53.whole c) row p nums
theorem dS {a b:Bool} (h:(a && b)=true):a=true∧b=true:=by rwa [Bool.and_eq_true] at h
theorem EO {s:PS} {t:SS} {os:List Sw53.Out} {k:Nat} (R:Rel s t os) (I:Inv t k) (U:U1 t) (o:t.owed≠2) {p:Int} {r tl:List Int} {c:List (List Int)} (hk:k+(r.length+1)≤16000) (h:PyFlat.call PySw53.shape (p::r)=some (c,tl)) (hb:PyInside.call PySw53.bound c=true):IA s t k p r tl c:=by
 have hk':k≤16000:=by tm_at "ob"
 by_cases h1:p=1
 ·subst h1
  obtain ⟨hl,xs,e1,rfl⟩:=ic (n:=6) (kk:=0) rfl h;obtain ⟨rfl,rfl⟩:=rows0 e1;obtain ⟨a,b,c,d,e,f,r',rfl⟩:=LA hl;have hb:=(dS hb).1;have q1:=dS hb;have q2:=dS q1.2;have q3:=dS q2.2;have q4:=dS q3.2;have q5:=dS q4.2;have q6:=dS q5.2;obtain ⟨a,rfl⟩:=dI q1.1;obtain ⟨b,rfl⟩:=dI q2.1;obtain ⟨c,rfl⟩:=dI q3.1;obtain ⟨d,rfl⟩:=dI q4.1;obtain ⟨e,rfl⟩:=dI q5.1;obtain ⟨f,rfl⟩:=dI q6.1;exact .inl ⟨[(a:Int),b,c,d,e,f],by decide,by decide,rfl,K9 R I U o a b c d e f⟩
 by_cases h1:p=2
 ·subst h1
  obtain ⟨hl,xs,e1,rfl⟩:=ic (n:=4) (kk:=0) rfl h;obtain ⟨rfl,rfl⟩:=rows0 e1;obtain ⟨a,b,c,d,r',rfl⟩:=KO hl;have hb:=(dS hb).1;have q1:=dS hb;have q2:=dS q1.2;have q3:=dS q2.2;have q4:=dS q3.2;obtain ⟨a,rfl⟩:=dI q1.1;obtain ⟨b,rfl⟩:=dI q2.1;obtain ⟨c,rfl⟩:=dI q3.1;obtain ⟨d,rfl⟩:=dI q4.1;exact .inl ⟨[(a:Int),b,c,d],by decide,by decide,rfl,K8 R I U o a b c d⟩
 by_cases h1:p=3
 ·subst h1
  obtain ⟨hl,xs,e1,rfl⟩:=ic (n:=2) (kk:=1) rfl h;obtain ⟨row,rfl,er⟩:=IG e1;obtain ⟨a,b,r',rfl⟩:=Dx hl;have er:r'=_:=er;subst er;have q1:=dS (dS hb).1;have q2:=dS q1.2;have q3:=(dS (dS (dS hb).2).1).2;obtain ⟨a,rfl⟩:=dI q1.1;obtain ⟨b,rfl⟩:=dI q2.1;obtain ⟨l,rfl,hlb⟩:=vM q3;have hn:k+(4+l.length)≤16000:=by simp only [List.length_cons,List.length_append,ba] at hk;tm_at "ob"
  refine .inr ⟨[(a:Int),b],cI l,.inl rfl,rfl,4+l.length,?_,K7 R I U o a b hlb hn⟩;rw [ba];exact Nat.le_refl _
 by_cases h1:p=4
 ·subst h1
  obtain ⟨hl,xs,e1,rfl⟩:=ic (n:=1) (kk:=1) rfl h;obtain ⟨row,rfl,er⟩:=IG e1;obtain ⟨a,r',rfl⟩:=Fg hl;have er:r'=_:=er;subst er;have q1:=dS (dS hb).1;have q3:=(dS (dS (dS hb).2).1).2;obtain ⟨a,rfl⟩:=dI q1.1;obtain ⟨l,rfl,hlb⟩:=vM q3;have hn:l.length≤16000:=by simp only [List.length_cons,List.length_append,ba] at hk;tm_at "ob"
  exact .inr ⟨[(a:Int)],cI l,.inr rfl,rfl,0,Nat.zero_le _,K6 R I U o hk' a hlb hn⟩
 by_cases h1:p=5
 ·subst h1
  obtain ⟨hl,xs,e1,rfl⟩:=ic (n:=2) (kk:=0) rfl h;obtain ⟨rfl,rfl⟩:=rows0 e1;obtain ⟨a,b,r',rfl⟩:=Dx hl;have q1:=dS (dS hb).1;have q2:=dS q1.2;obtain ⟨a,rfl⟩:=dI q1.1;obtain ⟨b,rfl⟩:=dI q2.1;exact .inl ⟨[(a:Int),b],by decide,by decide,rfl,K5 R I U o hk' a b⟩
 by_cases h1:p=6
 ·subst h1
  obtain ⟨hl,xs,e1,rfl⟩:=ic (n:=1) (kk:=0) rfl h;obtain ⟨rfl,rfl⟩:=rows0 e1;obtain ⟨a,r',rfl⟩:=Fg hl;obtain ⟨a,rfl⟩:=dI (dS (dS hb).1).1;exact .inl ⟨[(a:Int)],by decide,by decide,rfl,K4 R I U o hk' a⟩
 by_cases h1:p=7
 ·subst h1
  obtain ⟨hl,xs,e1,rfl⟩:=ic (n:=1) (kk:=0) rfl h;obtain ⟨rfl,rfl⟩:=rows0 e1;obtain ⟨a,r',rfl⟩:=Fg hl;obtain ⟨a,rfl⟩:=dI (dS (dS hb).1).1;exact .inl ⟨[(a:Int)],by decide,by decide,rfl,K3 R I U o hk' a⟩
 by_cases h1:p=8
 ·subst h1
  obtain ⟨hl,xs,e1,rfl⟩:=ic (n:=1) (kk:=0) rfl h;obtain ⟨rfl,rfl⟩:=rows0 e1;obtain ⟨a,r',rfl⟩:=Fg hl;obtain ⟨a,rfl⟩:=dI (dS (dS hb).1).1;exact .inl ⟨[(a:Int)],by decide,by decide,rfl,K2 R I U o hk' a⟩
 by_cases h1:p=9
 ·subst h1
  obtain ⟨hl,xs,e1,rfl⟩:=ic (n:=2) (kk:=0) rfl h;obtain ⟨rfl,rfl⟩:=rows0 e1;obtain ⟨a,b,r',rfl⟩:=Dx hl;have q1:=dS (dS hb).1;have q2:=dS q1.2;obtain ⟨a,rfl⟩:=dI q1.1;obtain ⟨b,rfl⟩:=dI q2.1;exact .inl ⟨[(a:Int),b],by decide,by decide,rfl,K1 R I U o hk' a b⟩
 by_cases h1:p=10
 ·subst h1
  obtain ⟨hl,xs,e1,rfl⟩:=ic (n:=0) (kk:=0) rfl h;obtain ⟨rfl,rfl⟩:=rows0 e1;exact .inl ⟨[],by decide,by decide,rfl,JU R I U o⟩
 by_cases h1:p=11
 ·subst h1
  obtain ⟨hl,xs,e1,rfl⟩:=ic (n:=0) (kk:=0) rfl h;obtain ⟨rfl,rfl⟩:=rows0 e1;exact .inl ⟨[],by decide,by decide,rfl,JT R I U o⟩
 ·exfalso
  have e:PySw53.shape p=none:=by
   unfold PySw53.shape;simp only [*,if_false]
  unfold PyFlat.call at h;dsimp only at h;rw [e] at h
  cases h
theorem CJ (a:List Int) (l:List (List Int)):PyFlat.told (a::l)=(a.length:Int)::(a++PyFlat.told l):=by
 unfold PyFlat.told;rw [List.flatMap_cons];rfl
theorem Fh (y:PS×List Int):(bX y.1.out).length≤(y.2++bX y.1.out).length:=by rw [List.length_append];tm_at "ob"
theorem GW:∀(f:Nat) (l:List Int) (raw:List (List (List Int))) (s:PS) (t:SS) (os:List Sw53.Out) (k:Nat),PyFlat.calls PySw53.shape f l=some raw→Rel s t os→Inv t k→U1 t→t.owed≠2→k+l.length≤16000→
  PyInside.calls PySw53.bound raw=true→Sw53Neutral.many t (raw.map PySw53.whole)≤1000000→Runs l s (PyFlat.told (PyFlat.played Sw53Neutral.step t (raw.map PySw53.whole))):=by
 intro f
 induction f with
 | zero =>
  intro l raw s t os k h R I U o hk hb hm
  cases l with
  | nil=>cases h;exact .nil s
  | cons p r=>cases h
 | succ f ih =>
  intro l raw s t os k h R I U o hk hb hm
  cases l with
  | nil=>cases h;exact .nil s
  | cons p r =>
   unfold PyFlat.calls at h;split at h
   ·cases h
   ·rename_i c tl e
    split at h
    ·cases h
    ·rename_i cs e2
     cases h
     have hb':=dS (show (PyInside.call PySw53.bound c && cs.all (PyInside.call PySw53.bound))=true from hb);have hm':(Sw53Neutral.step t (PySw53.whole c)).2.length+Sw53Neutral.many (Sw53Neutral.step t (PySw53.whole c)).1 (cs.map PySw53.whole)≤1000000:=hm;show Runs _ s (PyFlat.told ((Sw53Neutral.step t (PySw53.whole c)).2::PyFlat.played Sw53Neutral.step (Sw53Neutral.step t (PySw53.whole c)).1 (cs.map PySw53.whole)));rw [CJ];rcases EO R I U o hk e hb'.1 with ⟨nums,n3,n4,er,⟨y,A,ey,⟨os',R'⟩,I',U',o'⟩⟩ | ⟨nums,row,n34,er,j,hj,⟨y,A,ey,⟨os',R'⟩,I',U',o'⟩⟩
     ·have t':=ih tl cs y.1 _ os' (k+0) e2 R' I' U' o' (by rw [er] at hk;simp only [List.length_cons,List.length_append] at hk;tm_at "ob") hb'.2 (by tm_at "ob")
      rw [er,←ey];exact .plain A ⟨n3,n4⟩ (by have:=Fh y;rw [ey] at this;tm_at "ob") t'
     ·have t':=ih tl cs y.1 _ os' (k+j) e2 R' I' U' o' (by rw [er] at hk;simp only [List.length_cons,List.length_append] at hk;tm_at "ob") hb'.2 (by tm_at "ob")
      rw [er,←ey];exact .IH A n34 (by have:=Fh y;rw [ey] at this;tm_at "ob") t'
theorem AR {l:List Int} (hl:l.length≤16000) (h:PySw53.answers_asked l=true):Runs l (ps0 0 []) (PySw53.answers l)∧(PySw53.answers l).length≤10000000:=by
 unfold PySw53.answers_asked at h;split at h
 ·cases h
 ·rename_i raw e
  have q1:=dS h;have q2:=dS q1.1;have q3:=dS q2.1;have hs:(PySw53.answers l).length≤10000000:=of_decide_eq_true q1.2;have hm:Sw53Neutral.many Sw53Neutral.start (raw.map PySw53.whole)≤1000000:=of_decide_eq_true (dS q2.2).2;refine ⟨?_,hs⟩;have ea:PySw53.answers l=PyFlat.told (PyFlat.played Sw53Neutral.step Sw53Neutral.start (raw.map PySw53.whole)):=by
   unfold PySw53.answers PySw53.calls;rw [e]
  rw [ea];exact GW l.length l raw (ps0 0 []) Sw53Neutral.start [] 0 e C7 (sx 0) D8 (by decide) (by tm_at "ob") q3.2 hm
theorem GX {P:Program} {w:World} {K:PySem.W.Frag} {mg:Str→Option Value} {a:AD} {fa:Addr} (T:TX K mg a) (hmg:mg "answers" = some (.ref fa)) {t1 t2 t3 t4 t5 t6 t7 t8 t9 t10 t11:Tok} (TN:DX K a.jR (EU t1 t2 t3 t4 t5 t6 t7 t8 t9 t10 t11)) (TW:∀H,SqT K H a.iU [.int 3,.int 4]) :
  ∃fd:FuncData,(∀(s:Shared) (us:List Value),us.length=(["calls"]:List Str).length→BindsTo s fd ⟨us,[]⟩ ((["calls"]:List Str).zip us))∧∀base:Heap,K.In base→base.Ns mainGlobals mg→oS P w K mg base CX0 17 fa fd ["calls"] (mf K):=by
 have e:=hmg.symm.trans (T.F 104 iP rfl).g
 cases e
 refine ⟨yy K iP.f,fun s us hu=>?_,fun base _ _=>(A6 T TN TW).r⟩;obtain ⟨oc,od,kV,doc,pm,an,cdv,ct,osl,ef,lk,hcd⟩:=(T.F 104 iP rfl).k.ex;rw [ef]
 match us,hu with
 | [_],_=>exact .of_eq rfl
theorem AV:∀(as:List Addr) (h:Heap),(rdK as h).In h
 | [],h,a,o,e=>by cases e
 | b::r,h,a,o,e=>by
  unfold rdK at e;rw [List.filterMap_cons] at e
  cases q:h.get? b with
  | none =>
   rw [q] at e;exact AV r h a o e
  | some ob =>
   rw [q] at e;simp only [Option.map_some,List.lookup] at e;split at e
   ·rename_i z
    cases e
    rw [beq_iff_eq.mp z];exact q
   ·exact AV r h a o e
theorem qH {v:Value} {i:Int} (h:stp v = .int i 0):∃t,v = .int i t:=by
 cases v with
 | int j t=>cases h;exact ⟨t,rfl⟩
 | _=>cases h
structure Seen (K:PySem.W.Frag):Prop where
 F:tb.map (fun d=>fnS K d.f)=tb.map (fun d=>fnE d.x d.q d.s)
 G:tb.map (fun d=>gdS K d.x d.c)=tb.map (fun d=>some (some (.ref d.f)))
 nS:qZ.map (gdS K · 2)=qZ.map (fun _=>some none)
 nG:j6.map (gdS K · 1)=j6.map (fun _=>some none)
 gC:lC.map (fun z=>(gdS K z.1 0).map (·.map stp))=lC.map (fun z=>some (some (.int z.2 0)))
 gB:lB.map (gdS K · 0)=lB.map (fun _=>some none)
 gO:lO.map (fun z=>gdS K z.1 0)=lO.map (fun z=>some (some (.ref z.2)))
 kS:clS K adT.aE=clE
 kG:clS K adT.aA=clE
 dN:HZ K adT.jR=JR
 tW:GR K adT.iU=Jm
theorem GU {K:PySem.W.Frag} (h:Obs K=Exs):Seen K:=by
 obtain ⟨h1,h⟩:=Prod.mk.inj h;obtain ⟨h2,h⟩:=Prod.mk.inj h;obtain ⟨h3,h⟩:=Prod.mk.inj h;obtain ⟨h4,h⟩:=Prod.mk.inj h;obtain ⟨h5,h⟩:=Prod.mk.inj h;obtain ⟨h6,h⟩:=Prod.mk.inj h;obtain ⟨h7,h⟩:=Prod.mk.inj h;obtain ⟨h8,h⟩:=Prod.mk.inj h;obtain ⟨h9,h⟩:=Prod.mk.inj h;obtain ⟨ha,hb⟩:=Prod.mk.inj h;exact ⟨h1,h2,h3,h4,h5,h6,h7,h8,h9,ha,hb⟩
theorem qi {α β:Type} {F G:α→β} {l:List α} (h:l.map F=l.map G) (i:Nat) {a:α} (e:l[i]? = some a):F a=G a:=by
 have q:=congrArg (·[i]?) h;simp only [List.getElem?_map,e,Option.map_some] at q;exact Option.some.inj q
section
variable {K:PySem.W.Frag} {h:Heap} {mg:Str→Option Value} {x q:Str} {st:Stmt} {C f:Addr}
theorem Fu (h:fnS K f=fnE x q st):Fun K x q st f (yy K f)∧PySem.W.isFn K (.ref f)=true:=by
 unfold fnS at h;split at h
 ·rename_i c od d sl lk
  obtain ⟨nm,qn,pa,bo,sc,gl,clo,de,kw,dc,pm,an,co,ct,bu⟩:=d;have h:=Option.some.inj h;simp only [Prod.mk.injEq] at h;obtain ⟨rfl,rfl,rfl,rfl,rfl,rfl,rfl,rfl,rfl,hc,rfl⟩:=h;have ef:yy K f=PySem.W.fnOf nm qn (fG st) (eG st) (bB st) .none kw dc pm an co ct:=by unfold yy;rw [lk]
  refine ⟨⟨⟨_,od,kw,dc,pm,an,co,ct,sl,ef,by rw [ef];exact lk,hc⟩,?_⟩,?_⟩
  ·unfold PySem.W.keepIn;dsimp only;rw [lk]
  ·unfold PySem.W.isFn PySem.W.typeIn;dsimp only;rw [lk];rfl
 ·cases h
theorem gok {m:List (Str×Addr)} (X:K.In h) (G:h.Ns mainGlobals mg) (e1:m.map (fun z=>gdS K z.1 0)=m.map (fun z=>some (some (.ref z.2)))) (i:Nat) (e:m[i]? = some (x,f)):mg x=some (.ref f):=PySem.W.mg_of X G (qi e1 i e)
theorem cok {m:List (Str×Int)} {j:Int} (X:K.In h) (G:h.Ns mainGlobals mg) (e1:m.map (fun z=>(gdS K z.1 0).map (·.map stp))=m.map (fun z=>some (some (.int z.2 0)))) (i:Nat) (e:m[i]? = some (x,j)):∃t,mg x=some (.int j t):=by
 have q:=qi e1 i e;obtain ⟨o,h1,h2⟩:=Option.map_eq_some_iff.mp q;obtain ⟨v,h3,h4⟩:=Option.map_eq_some_iff.mp h2;obtain ⟨t,rfl⟩:=qH h4;subst h3;exact ⟨t,PySem.W.mg_of X G h1⟩
theorem bok {m:List Str} (X:K.In h) (G:h.Ns mainGlobals mg) (e1:m.map (gdS K · 0)=m.map (fun _=>some none)) (i:Nat) (e:m[i]? = some x):mg x=none:=PySem.W.mg_none_of X G (qi e1 i e)
theorem clk (h:clS K C=clE):Cls K C:=⟨congrArg (·.1) h,congrArg (·.2.1) h,congrArg (·.2.2.1) h,congrArg (·.2.2.2.1) h⟩
theorem mkk (h:clS K C=clE) (m:BK K C "__init__" f):Mk K C f:=⟨congrArg (·.2.2.2.2.1) h,m.at_,m.fn,congrArg (·.2.2.2.2.2) h⟩
theorem vF {l:List DictEntry} {i j m:Int} {r:List (Int×Value×Value)} (h:l.map HX=(i,.int j 0,.int m 0)::r):∃k t l',l=⟨i,.int j k,.int m t⟩::l'∧l'.map HX=r:=by
 cases l with
 | nil=>cases h
 | cons e l =>
  obtain ⟨a,b,c⟩:=e;have h1:=(List.cons.inj h).1;simp only [HX,Prod.mk.injEq] at h1;obtain ⟨rfl,h2,h3⟩:=h1;obtain ⟨k,rfl⟩:=qH h2;obtain ⟨t,rfl⟩:=qH h3;exact ⟨k,t,l,rfl,(List.cons.inj h).2⟩
theorem JQ (h:HZ K f=JR):∃t1 t2 t3 t4 t5 t6 t7 t8 t9 t10 t11,DX K f (EU t1 t2 t3 t4 t5 t6 t7 t8 t9 t10 t11):=by
 unfold HZ at h;split at h
 ·rename_i c od es n sl lk
  have g:=Option.some.inj h;clear h;simp only [Prod.mk.injEq] at g;obtain ⟨g1,g2,g3,g4⟩:=g;subst g1 g2;obtain ⟨sl⟩:=sl;obtain ⟨es⟩:=es;have g3:sl=[]:=g3;subst g3;obtain ⟨k1,t1,r1,e1,g11⟩:=vF g4;obtain ⟨k2,t2,r2,e2,g12⟩:=vF g11;obtain ⟨k3,t3,r3,e3,g13⟩:=vF g12;obtain ⟨k4,t4,r4,e4,g14⟩:=vF g13;obtain ⟨k5,t5,r5,e5,g15⟩:=vF g14;obtain ⟨k6,t6,r6,e6,g16⟩:=vF g15;obtain ⟨k7,t7,r7,e7,g17⟩:=vF g16;obtain ⟨k8,t8,r8,e8,g18⟩:=vF g17;obtain ⟨k9,t9,r9,e9,g19⟩:=vF g18;obtain ⟨k10,t10,r10,e10,g20⟩:=vF g19;obtain ⟨k11,t11,r11,e11,g21⟩:=vF g20;have e12:=List.map_eq_nil_iff.mp g21;subst e12 e11 e10 e9 e8 e7 e6 e5 e4 e3 e2 e1;exact ⟨_,_,_,_,_,_,_,_,_,_,_,HH lk⟩
 ·cases h
theorem Jl (h:GR K f=Jm) (H:Hp):SqT K H f [.int 3,.int 4]:=by
 unfold GR at h;split at h
 ·rename_i c od xs n sl lk
  have g:=Option.some.inj h;clear h;simp only [Prod.mk.injEq] at g;obtain ⟨g1,g2⟩:=g;subst g1;obtain ⟨xs⟩:=xs;have g2:xs.map stp=[.int 3 0,.int 4 0]:=g2;rcases xs with _ | ⟨u,_ | ⟨v,_ | ⟨w,r⟩⟩⟩
  ·cases g2
  ·cases (List.cons.inj g2).2
  ·have h2:=List.cons.inj (List.cons.inj g2).2
   obtain ⟨t1,e1⟩:=qH (List.cons.inj g2).1;obtain ⟨t2,e2⟩:=qH h2.1;subst e1 e2;exact Jf lk H
  ·cases (List.cons.inj (List.cons.inj g2).2).2
 ·cases h
end
noncomputable def Bd (d:Dn):Prop:=∀K:PySem.W.Frag,Fun K d.x d.q d.s d.f (yy K d.f)→Binds K (yy K d.f) d.ps []
theorem bd1 {d:Dn} (hp:d.ps.length=1:=by rfl) (h:∀(kV doc pm:Value) (an:Option Addr) (cdv ct u0:Value),bindArgs (PySem.W.fnOf d.x d.q (fG d.s) (eG d.s) (bB d.s) .none kV doc pm an cdv ct) ⟨[u0],[]⟩=pure (d.ps.zip [u0]):=by intros;kernel_rfl):Bd d:=fun _ F=>F.binds fun kV doc pm an cdv ct us hl=>match us,hl.trans hp with | [u0],_=>h kV doc pm an cdv ct u0
theorem bd2 {d:Dn} (hp:d.ps.length=2:=by rfl) (h:∀(kV doc pm:Value) (an:Option Addr) (cdv ct u0 u1:Value),bindArgs (PySem.W.fnOf d.x d.q (fG d.s) (eG d.s) (bB d.s) .none kV doc pm an cdv ct) ⟨[u0,u1],[]⟩=pure (d.ps.zip [u0,u1]):=by intros;kernel_rfl):Bd d:=fun _ F=>F.binds fun kV doc pm an cdv ct us hl=>match us,hl.trans hp with | [u0,u1],_=>h kV doc pm an cdv ct u0 u1
theorem bd3 {d:Dn} (hp:d.ps.length=3:=by rfl) (h:∀(kV doc pm:Value) (an:Option Addr) (cdv ct u0 u1 u2:Value),bindArgs (PySem.W.fnOf d.x d.q (fG d.s) (eG d.s) (bB d.s) .none kV doc pm an cdv ct) ⟨[u0,u1,u2],[]⟩=pure (d.ps.zip [u0,u1,u2]):=by intros;kernel_rfl):Bd d:=fun _ F=>F.binds fun kV doc pm an cdv ct us hl=>match us,hl.trans hp with | [u0,u1,u2],_=>h kV doc pm an cdv ct u0 u1 u2
theorem bd4 {d:Dn} (hp:d.ps.length=4:=by rfl) (h:∀(kV doc pm:Value) (an:Option Addr) (cdv ct u0 u1 u2 u3:Value),bindArgs (PySem.W.fnOf d.x d.q (fG d.s) (eG d.s) (bB d.s) .none kV doc pm an cdv ct) ⟨[u0,u1,u2,u3],[]⟩=pure (d.ps.zip [u0,u1,u2,u3]):=by intros;kernel_rfl):Bd d:=fun _ F=>F.binds fun kV doc pm an cdv ct us hl=>match us,hl.trans hp with | [u0,u1,u2,u3],_=>h kV doc pm an cdv ct u0 u1 u2 u3
theorem bd5 {d:Dn} (hp:d.ps.length=5:=by rfl) (h:∀(kV doc pm:Value) (an:Option Addr) (cdv ct u0 u1 u2 u3 u4:Value),bindArgs (PySem.W.fnOf d.x d.q (fG d.s) (eG d.s) (bB d.s) .none kV doc pm an cdv ct) ⟨[u0,u1,u2,u3,u4],[]⟩=pure (d.ps.zip [u0,u1,u2,u3,u4]):=by intros;kernel_rfl):Bd d:=fun _ F=>F.binds fun kV doc pm an cdv ct us hl=>match us,hl.trans hp with | [u0,u1,u2,u3,u4],_=>h kV doc pm an cdv ct u0 u1 u2 u3 u4
theorem bd6 {d:Dn} (hp:d.ps.length=6:=by rfl) (h:∀(kV doc pm:Value) (an:Option Addr) (cdv ct u0 u1 u2 u3 u4 u5:Value),bindArgs (PySem.W.fnOf d.x d.q (fG d.s) (eG d.s) (bB d.s) .none kV doc pm an cdv ct) ⟨[u0,u1,u2,u3,u4,u5],[]⟩=pure (d.ps.zip [u0,u1,u2,u3,u4,u5]):=by intros;kernel_rfl):Bd d:=fun _ F=>F.binds fun kV doc pm an cdv ct us hl=>match us,hl.trans hp with | [u0,u1,u2,u3,u4,u5],_=>h kV doc pm an cdv ct u0 u1 u2 u3 u4 u5
theorem bd7 {d:Dn} (hp:d.ps.length=7:=by rfl) (h:∀(kV doc pm:Value) (an:Option Addr) (cdv ct u0 u1 u2 u3 u4 u5 u6:Value),bindArgs (PySem.W.fnOf d.x d.q (fG d.s) (eG d.s) (bB d.s) .none kV doc pm an cdv ct) ⟨[u0,u1,u2,u3,u4,u5,u6],[]⟩=pure (d.ps.zip [u0,u1,u2,u3,u4,u5,u6]):=by intros;kernel_rfl):Bd d:=fun _ F=>F.binds fun kV doc pm an cdv ct us hl=>match us,hl.trans hp with | [u0,u1,u2,u3,u4,u5,u6],_=>h kV doc pm an cdv ct u0 u1 u2 u3 u4 u5 u6
noncomputable def AllB:List Dn→Prop
 | []=>True
 | d::r=>Bd d∧AllB r
theorem AllB.at:∀{l:List Dn} {i:Nat} {d:Dn},AllB l→l[i]? = some d→Bd d
 | _::_,0,_,h,e=>by cases e;exact h.1
 | _::_,i+1,_,h,e=>AllB.at (i:=i) h.2 e
theorem allB:AllB tb:=⟨bd6,bd2,bd2,bd3,bd3,bd3,bd1,bd3,bd2,bd3,bd3,bd2,bd3,bd3,bd1,bd1,bd4,bd4,bd1,bd1,bd1,bd1,bd1,bd1,bd1,bd2,bd1,bd2,bd1,bd1,bd2,bd3,bd3,bd1,bd1,bd2,bd4,bd1,bd1,bd1,bd3,bd4,bd2,bd1,bd2,bd1,bd1,bd1,bd2,bd1,bd2,bd2,bd2,bd2,bd1,bd1,bd3,bd3,bd3,bd3,bd1,bd3,bd3,bd4,bd2,bd4,bd3,bd3,bd3,bd2,bd1,bd1,bd3,bd2,bd1,bd1,bd1,bd1,bd1,bd1,bd1,bd1,bd1,bd1,bd1,bd1,bd1,bd1,bd3,bd7,bd5,bd3,bd4,bd2,bd3,bd3,bd2,bd2,bd2,bd3,bd1,bd1,bd4,bd1,bd1,trivial⟩
theorem mkT {K:PySem.W.Frag} {h:Heap} {mg:Str→Option Value} (X:K.In h) (G:h.Ns mainGlobals mg) (e:Seen K):TX K mg adT:=by
 have F:∀(i:Nat) (d:Dn),tb[i]? = some d→Td K mg adT d:=fun i d q=>by
  have f:=Fu (qi e.F i q);refine ⟨f.1,allB.at q K f.1,?_⟩;have g:=qi e.G i q;generalize d.c=c at g
  match c,g with
  | 0,g=>exact PySem.W.mg_of X G g
  | 1,g=>exact ⟨⟨g,f.2,f.1.kp⟩,clk e.kG⟩
  | _+2,g=>exact ⟨⟨g,f.2,f.1.kp⟩,clk e.kS⟩
 exact ⟨F,fun i x n q=>cok X G e.gC i q,clk e.kG,mkk e.kG (F 0 _ rfl).g.1,gok X G e.gO 0 rfl,fun i x q=>qi e.nG i q,clk e.kS,mkk e.kS (F 14 _ rfl).g.1,gok X G e.gO 1 rfl,fun i x q=>qi e.nS i q,bok X G e.gB 0 rfl,bok X G e.gB 1 rfl,bok X G e.gB 2 rfl,bok X G e.gB 3 rfl,bok X G e.gB 4 rfl,bok X G e.gB 5 rfl,gok X G e.gO 2 rfl,gok X G e.gO 3 rfl⟩
theorem Ew {P:Program} {w:World} {K:PySem.W.Frag} {h:Heap} {mg:Str→Option Value} {fa:Addr} (X:K.In h) (G:h.Ns mainGlobals mg) (e:Seen K) (hmg:mg "answers" = some (.ref fa)) :
  ∃fd:FuncData,(∀(s:Shared) (us:List Value),us.length=(["calls"]:List Str).length→BindsTo s fd ⟨us,[]⟩ ((["calls"]:List Str).zip us))∧∀base:Heap,K.In base→base.Ns mainGlobals mg→oS P w K mg base CX0 17 fa fd ["calls"] (mf K):=by
 obtain ⟨t1,t2,t3,t4,t5,t6,t7,t8,t9,t10,t11,TN⟩:=JQ e.dN;exact GX (mkT X G e) hmg TN (fun H=>Jl e.tW H)
theorem AH {r:PySem.W.OpenSpec} {k:Nat} {q:Program} {loose:List Str} {XP:(Str→Option Value)→Heap→Prop} {YP:World→Heap→Prop} {d:DefRec} {CX:CXT} {ps:List Str} {sp:PySem.W.Frag→Sp}
  (hwell:r.wellSaid=true) (hdf:d.params.defaults=[]) (hlen:r.args.length=ps.length) (hr:ij k callerA)
  (F:∀(w:World) (mg:Str→Option Value) (fa:Addr) (h:Heap),YP w h→h.Ns mainGlobals mg→mg d.name=some (.ref fa)→∃K:PySem.W.Frag,K.In h∧∃fd:FuncData,(∀(s:Shared) (us:List Value),us.length=ps.length→BindsTo s fd ⟨us,[]⟩ (ps.zip us))∧
   ∀base:Heap,K.In base→base.Ns mainGlobals mg→oS r.prog w K mg base CX k fa fd ps (sp K))
  (hsp:∀(K:PySem.W.Frag) (H:Hp) (xs:List V) (a:PySem.W.Codec.denoteAll r.args),Cy H→PySem.W.Codec.withinAll r.args a=true→PySem.W.Codec.app r.args r.asked a=true→oT K H xs (PySem.W.Codec.encAll r.args a)→
   sp K xs H (fun v H'=>Dw K H' v (r.ret.enc (PySem.W.Codec.app r.args r.f a))) fun _ _ _=>False)
  (hCX:∀(H:Hp) (s:Shared) (e:Value) (s':Shared),CX [] H s (fun _ _ _=>False) e s'→False) :
  PySem.W.WalkOS q loose XP YP r d [] (fun f vs=>PySem.call f vs):=by
 intro w s_0 s₁ mg mb G Y fa o pm cd doc dV kV ho hd hcd hD hmg hg args vals as hpre hlay hrd hwl hlo;obtain ⟨a,e1,e2⟩:=PySem.W.os_pre_some hpre;obtain ⟨e3,hwi⟩:=PySem.W.Codec.encAll_of_decAll r.args args a e1;subst e3;obtain ⟨K,KX,fd,hb,hF⟩:=F w mg fa _ Y G.T.g hmg;refine PySem.W.enter_call (codeAny_mono (CS (R:=[]) (cl:=classAt s_0.heap) (d0:=r.ret.enc (PySem.W.Codec.app r.args r.f a)) KX G.T.g G.T.b G.T.builtins G.T.nolimit hg hwl (xl _ _) (vz hlay) hr hF hb (by rw [vG];exact hlen)
  (fun H xs hO hS=>hsp K H xs a hO hwi e2 hS) fun H e s'=>hCX H s₁ e s') fun r' s' hq=>?_)
 obtain ⟨u,as',rfl,h1,h2,h3,h4⟩:=hq;exact ⟨.inl ⟨u,_,as',rfl,fun _=>rfl,h1,(PySem.W.OpenSpec.post_iff hwell hwi _ _).mpr rfl,fun z=>Bool.noConfusion (show false=true from z)⟩,h2,h3,h4⟩
end Sx
open PySem PySem.W PyProof.Rows
set_option maxRecDepth 100000 in
set_option maxHeartbeats 0 in
theorem PySem.Challenge.cw_streamside_s01_answers_holds : PySem.Challenge.rw_streamside_s01_answers.Holds := by
  refine holds_os (q := Sx.B4) (loose := Sx.xZ) (Xt := fun _ => true) (XP := fun _ _ => True) (Yf := fun s => Sx.Obs (Sx.rdK Sx.asK s.heap)) (Ya := fun _ => Sx.Exs) (YP := fun _ h => ∃ K : Frag, K.In h ∧ Sx.Seen K) (N := 9038)
    Sx.KP (fun w s e => ⟨_, Sx.AV _ _, Sx.GU e⟩) (fun w h h' ⟨K, x, e⟩ k => ⟨K, x.keeps k, e⟩) (fun _ _ => trivial) (fun _ _ _ _ _ => trivial)
    (by rfl) (by rfl) (by rfl) (fun _ _ => recFacts_of rfl) os_shapes Sx.rwW (by decide +kernel) Sx.rwB ⟨[.list []], by decide +kernel, by decide +kernel⟩ ?_
  refine Sx.AH (r := PySem.Challenge.rw_streamside_s01_answers) (k := 17) (CX := L2.CX0) (ps := ["calls"]) (sp := Sx.mf) Sx.rwW rfl rfl ⟨rfl, by decide, by decide⟩ ?F ?S (fun _ _ _ _ z => z)
  case F =>
    intro w mg fa h ⟨K, X, e⟩ G hmg
    exact ⟨K, X, Sx.Ew X G e hmg⟩
  case S =>
    intro K H xs a hO hwi hask hx
    cases hx with
    | cons h1 h2 =>
      cases h2
      cases h1 with
      | lst hs ha =>
        have e := L2.Ci a.1 _ ha
        subst e
        have q : ((Codec.inLen 0 16000 a.1 && a.1.all (Codec.inInt 0 18446744073709551615)) && true) = true := hwi
        rw [Bool.and_eq_true, Bool.and_eq_true] at q
        obtain ⟨r1, r2⟩ := Sx.AR (Codec.inNat_iff.mp q.1.1).2 hask
        exact ⟨_, a.1, _, rfl, hs, r1, r2, fun q H' hq => .lst (L2.SqL.of hq) (L2.Ck _)⟩
