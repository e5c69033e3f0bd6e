import PyProof.Rows.All
import Wide.All
import OpenK.AllK
import Wide.FinOn
import PyProof.EqAt
import PyProof.EqKinds
import PyProof.TupleCall
import KE.BitLaws
import Open.SpecLaws
import KE.OsHead
import KE.OsGo
import PyKcv7
import PySem.Challenge.RW_callruns_s01_answers
set_option Elab.async false
set_option linter.all false
set_option maxRecDepth 100000
noncomputable section
section
namespace L2
open PySem PySem.Spec PyProof.Rows
abbrev Key:=Sum Int Str
noncomputable def keyIs:Key→Value→Bool
 | .inl k,v=>Value.isInt k v
 | .inr x,v=>Value.isStrOf x v
noncomputable def keyH (w:World):Key→Int
 | .inl k=>hashInt k
 | .inr x=>hashStr w x
theorem keyIs_shape:∀{k:Key} {v:Value},keyIs k v=true→(∃i t,k=Sum.inl i∧v=Value.int i t)∨(∃x t,k=Sum.inr x∧v=Value.str x t)
 | .inl i,v,h=>by
  obtain⟨t,e⟩:=Value.isInt_shape (k:=i) (v:=v) h
  exact .inl ⟨i,t,rfl,e⟩
 | .inr x,v,h=>by
  obtain⟨t,e⟩:=Value.isStrOf_shape (x:=x) (v:=v) h
  exact .inr ⟨x,t,rfl,e⟩
theorem keyIs_int (i:Int) (t:Tok):keyIs (.inl i) (.int i t)=true:=by simp [keyIs,Value.isInt]
theorem keyIs_str (x:Str) (t:Tok):keyIs (.inr x) (.str x t)=true:=by simp [keyIs,Value.isStrOf]
theorem key_ll (a b:Int):decide ((Sum.inl a:Key)=Sum.inl b)=(a==b):=by
 by_cases e:a=b
 ·subst e;simp
 ·have h:¬(Sum.inl a:Key)=Sum.inl b:=fun q=>e (Sum.inl.inj q)
  rw[decide_eq_false h]
  exact(beq_eq_false_iff_ne.mpr e).symm
theorem key_rr (a b:Str):decide ((Sum.inr a:Key)=Sum.inr b)=decide (a=b):=by
 by_cases e:a=b
 ·subst e;simp
 ·have h:¬(Sum.inr a:Key)=Sum.inr b:=fun q=>e (Sum.inr.inj q)
  rw[decide_eq_false h,decide_eq_false e]
theorem key_lr (a:Int) (b:Str):decide ((Sum.inl a:Key)=Sum.inr b)=false:=decide_eq_false (fun q=>nomatch q)
theorem key_rl (a:Str) (b:Int):decide ((Sum.inr a:Key)=Sum.inl b)=false:=decide_eq_false (fun q=>nomatch q)
noncomputable def mixKind (prog:Program) (w:World):PySem.KeyKind prog w Key where
 is:=keyIs
 hash:=keyH w
 inj:=fun v a b ha hb=>by
  rcases keyIs_shape ha with ⟨i,t,rfl,rfl⟩|⟨x,t,rfl,rfl⟩
  ·rcases keyIs_shape hb with ⟨j,u,rfl,e⟩|⟨y,u,rfl,e⟩
   ·injection e with e1 _;rw[e1]
   ·exact nomatch e
  ·rcases keyIs_shape hb with ⟨j,u,rfl,e⟩|⟨y,u,rfl,e⟩
   ·exact nomatch e
   ·injection e with e1 _;rw[e1]
 byValue:=fun k v h=>by
  rcases keyIs_shape h with ⟨i,t,rfl,rfl⟩|⟨x,t,rfl,rfl⟩<;>rfl
 pyHash:=fun hv h=>by
  rcases keyIs_shape hv with ⟨i,t,rfl,rfl⟩|⟨x,t,rfl,rfl⟩
  ·exact wpAny_pyHash_int h
  ·exact wpAny_pyHash_str h
 eqBool:=fun hu hv h=>by
  rcases keyIs_shape hu with ⟨i,t,rfl,rfl⟩|⟨x,t,rfl,rfl⟩
  ·rcases keyIs_shape hv with ⟨j,u,rfl,rfl⟩|⟨y,u,rfl,rfl⟩
   ·rw[key_ll] at h;exact wpAny_eqBool_int h
   ·rw[key_lr] at h;exact SeqAt.EqAt.int_str i t y u _ _ _ _ h
  ·rcases keyIs_shape hv with ⟨j,u,rfl,rfl⟩|⟨y,u,rfl,rfl⟩
   ·rw[key_rl] at h;exact SeqAt.EqAt.str_int x t j u _ _ _ _ h
   ·rw[key_rr] at h;exact wpAny_eqBool_str h
 «strs»:=fun k x t v h=>by
  rcases keyIs_shape h with ⟨i,u,rfl,e⟩|⟨y,u,rfl,e⟩
  ·exact nomatch e
  ·injection e with e1 _
   subst e1
   cases v<;>rfl
theorem mixKind_int (prog:Program) (w:World) (i:Int) (t:Tok):(mixKind prog w).is (.inl i) (.int i t)=true:=keyIs_int i t
theorem mixKind_str (prog:Program) (w:World) (x:Str) (t:Tok):(mixKind prog w).is (.inr x) (.str x t)=true:=keyIs_str x t
end L2
namespace L2
open PySem PySem.Spec PyProof.Rows
inductive V where
 |non|bl (b:Bool)|int (i:Int)|str (x:Str)|byt (b:Array UInt8)|flt (b:UInt64)|ref (a:Addr)|ty (n:String)
 deriving DecidableEq
def RelV:V→Value→Prop
 | .non,u=>u=Value.none
 | .bl b,u=>u=Value.bool b
 | .int i,u=>∃t,u=Value.int i t
 | .str x,u=>∃t,u=Value.str x t
 | .byt b,u=>∃t,u=Value.bytes b t
 | .flt b,u=>∃t,u=Value.float b t
 | .ref a,u=>u=Value.ref a
 | .ty n,u=>u=Value.type n
abbrev Vals:List V→List Value→Prop:=Paired RelV
theorem Vals.length {xs:List V} {us:List Value} (r:Vals xs us):xs.length=us.length:=Paired.length r
theorem Vals.get:∀{xs:List V} {us:List Value} {i:Nat} {x:V},Vals xs us→xs[i]?=some x→∃u,us[i]?=some u∧RelV x u
 |_,_,_,_,.nil,e=>by simp at e
 |_,_,0,_,.cons r _,e=>by simp at e;subst e;exact⟨_,rfl,r⟩
 |_,_,i+1,x,.cons _ t,e=>by
  obtain⟨u,h1,h2⟩:=Vals.get (i:=i) (x:=x) t (by simpa using e)
  exact⟨u,by simpa using h1,h2⟩
theorem Vals.set {x:V} {u:Value} (r:RelV x u):∀{xs:List V} {us:List Value} (i:Nat),Vals xs us→Vals (xs.set i x) (us.set i u)
 |_,_,_,.nil=> .nil
 |_,_,0,.cons _ t=> .cons r t
 |_,_,i+1,.cons q t=> .cons q (Vals.set r i t)
theorem Vals.append:∀{xs ys:List V} {us ws:List Value},Vals xs us→Vals ys ws→Vals (xs++ys) (us++ws)
 |_,_,_,_,.nil,s=>s
 |_,_,_,_,.cons r t,s=> .cons r (Vals.append t s)
theorem Vals.take:∀{xs:List V} {us:List Value} (n:Nat),Vals xs us→Vals (xs.take n) (us.take n)
 |_,_,0,_=> .nil
 |_,_,_+1,.nil=> .nil
 |_,_,n+1,.cons r t=> .cons r (Vals.take n t)
theorem Vals.drop:∀{xs:List V} {us:List Value} (n:Nat),Vals xs us→Vals (xs.drop n) (us.drop n)
 |_,_,0,r=>r
 |_,_,_+1,.nil=> .nil
 |_,_,n+1,.cons _ t=>Vals.drop n t
def RelO:Option V→Option Value→Prop
 |some v,some u=>RelV v u
 |none,none=>True
 |_,_=>False
def KV {κ:Type}:List (κ×V)→List (κ×Value)→Prop:=Paired fun(p:κ×V) (q:κ×Value)=>p.1=q.1∧RelV p.2 q.2
noncomputable def kV:Key→V
 | .inl i=> .int i
 | .inr x=> .str x
inductive HO where
 |lst (xs:List V)
 |tup (xs:List V)
 |dK (kvs:List (Key×V))|dT (kvs:List (List Key×V))
 |set (S:Int→Bool) (n:Nat)
 |ins (C dx:Addr) (fs:List (Str×V))
 |own (x:Addr)
 |xd (fs:List (Str×V))
 |met (f x:Addr)
 |rng (lo hi:Int)
 |frz (o:Obj) (u:HO)
 |tbl (ps:Array Value)
 |ext (φ:Heap→Prop)
abbrev Hp:=Addr→Option HO
noncomputable def upd (H:Hp) (a:Addr) (o:HO):Hp:=fun b=>if b=a then some o else H b
theorem upd_same {H:Hp} {a:Addr} {o:HO}:upd H a o a=some o:=by unfold upd;rw[if_pos rfl]
theorem upd_ne {H:Hp} {a b:Addr} {o:HO} (h:b≠a):upd H a o b=H b:=by unfold upd;rw[if_neg h]
theorem upd_upd {H:Hp} {a:Addr} {o u:HO}:upd (upd H a o) a u=upd H a u:=by
 funext b;unfold upd;split<;>rfl
theorem ne_of {H:Hp} {a b:Addr} {o u:HO} (h:H a=some o) (h':H b=some u) (d:o≠u):a≠b:=by
 intro e;subst e;rw[h] at h';exact d (Option.some.inj h')
theorem ne_of_none {H:Hp} {a b:Addr} {o:HO} (h:H a=some o) (h':H b=none):a≠b:=by
 intro e;subst e;rw[h] at h';cases h'
section
variable (P:Program) (w:World)
def ObjOk (H:Hp) (h:Heap) (a:Addr):HO→Prop
 | .lst xs=>xs.length≤sizeLine∧∃(its:List Value) (n:Nat),Vals xs its∧h.get? a=some {cls:= .type "list",data:= .seq its.toArray n}
 | .tup xs=>xs.length≤sizeLine∧∃its:List Value,Vals xs its∧IsTup h a its.toArray
 | .dK kvs=>kvs.length≤sizeLine∧(a==sysModules)=false∧∃vs,KV kvs vs∧h.DictOf (mixKind P w) a vs
 | .dT kvs=>kvs.length≤sizeLine∧(a==sysModules)=false∧∃xs:List (List Key×Addr×Value),
   Paired (fun(p:List Key×V) (q:List Key×Addr×Value)=>p.1=q.1∧H q.2.1=some (.tup (p.1.map kV))∧RelV p.2 q.2.2) kvs xs∧
   ∃o es ep,h.get? a=some o∧o.ExactDict∧o.data= .dict es ep∧es.toList=xs.map (entryOfKey (tupleKind (mixKind P w)))∧(xs.map (·.1)).Nodup
 | .set S n=>h.SetOf (intKind P w) a S n
 | .ins C dx fs=>H dx=some (.own a)∧fs.length≤1000∧dx≠a∧h.get? a=some (PySem.W.instObj C dx)∧
   ∃mA,h.Ns1 dx mA∧(∀f,RelO (fs.lookup f) (mA f))∧PySem.Within mA (fs.map (·.1))
 | .own _=>∃o,h.get? a=some o
 | .xd fs=>∃mA,h.Ns1 a mA∧∀f,RelO (fs.lookup f) (mA f)
 | .rng lo hi=>∃t u v,h.get? a=some {cls:= .type "range",data:= .fields #[.int lo t,.int hi u,.int 1 v]}
 | .frz o u=>h.get? a=some o∧ObjOk H h a u
 | .tbl ps=>h.get? a=some {cls:= .none,data:= .fields ps}
 | .met f x=>h.get? a=some (PySem.W.methodObj (.ref f) (.ref x))
 | .ext φ=>φ h∧(∃o,h.get? a=some o)∧∀h1 h2:Heap,φ h1→(∀o,h1.get? a=some o→h2.get? a=some o)→φ h2
def HOk (H:Hp) (h:Heap):Prop:=∀a o,H a=some o→ObjOk P w H h a o
end
section
variable {P:Program} {w:World} {H H':Hp} {h h':Heap} {a:Addr} {o:HO}
theorem ObjOk.lt (x:ObjOk P w H h a o):a<h.objs.size:=by
 cases o with
 |lst xs=>obtain⟨_,_,_,_,e⟩:=x;exact Heap.lt_size e
 |tup xs=>obtain⟨_,_,_,p⟩:=x;exact p.lt
 |dK kvs=>obtain⟨_,_,_,_,o,_,_,e,_⟩:=x;exact Heap.lt_size e
 |dT kvs=>obtain⟨_,_,_,_,o,_,_,e,_⟩:=x;exact Heap.lt_size e
 |set S n=>obtain⟨o,_,_,_,e,_⟩:=x;exact Heap.lt_size e
 |ins C dx fs=>obtain⟨_,_,_,e,_⟩:=x;exact Heap.lt_size e
 |own y=>obtain⟨_,e⟩:=x;exact Heap.lt_size e
 |xd fs=>obtain⟨_,⟨_,_,_,e,_⟩,_⟩:=x;exact Heap.lt_size e
 |rng lo hi=>obtain⟨_,_,_,e⟩:=x;exact Heap.lt_size e
 |frz ob u=>obtain⟨e,_⟩:=x;exact Heap.lt_size e
 |tbl ps=>exact Heap.lt_size (show h.get? a=some _ from x)
 |met f y=>exact Heap.lt_size (show h.get? a=some _ from x)
 |ext φ=>obtain⟨_,⟨_,e⟩,_⟩:=x;exact Heap.lt_size e
theorem Paired.mapP {α β:Type} {F G:α→β→Prop}:∀{l₁:List α} {l₂:List β},Paired F l₁ l₂→(∀a b,F a b→G a b)→Paired G l₁ l₂
 |_,_,.nil,_=> .nil
 |_,_,.cons r t,f=> .cons (f _ _ r) (Paired.mapP t f)
theorem ObjOk.stay (x:ObjOk P w H h a o) (k:∀b u,(b=a∨H b=some (.own a))→h.get? b=some u→h'.get? b=some u)
  (ho:∀b,H b=some (.own a)→H' b=some (.own a)) (ht:∀b xs,H b=some (.tup xs)→H' b=some (.tup xs)):ObjOk P w H' h' a o:=by
 induction o with
 |lst xs=>obtain⟨z,its,n,r,e⟩:=x;exact⟨z,its,n,r,k _ _ (.inl rfl) e⟩
 |tup xs=>obtain⟨z,its,r,ob,e,c⟩:=x;exact⟨z,its,r,ob,k _ _ (.inl rfl) e,c⟩
 |dK kvs=>obtain⟨z,y,vs,r,ob,es,ep,e,c⟩:=x;exact⟨z,y,vs,r,ob,es,ep,k _ _ (.inl rfl) e,c⟩
 |dT kvs=>
  obtain⟨z,y,xs,r,ob,es,ep,e,c⟩:=x
  exact⟨z,y,xs,Paired.mapP r fun p q z=>⟨z.1,ht _ _ z.2.1,z.2.2⟩,ob,es,ep,k _ _ (.inl rfl) e,c⟩
 |set S n=>obtain⟨ob,es,ep,t,e,c⟩:=x;exact⟨ob,es,ep,t,k _ _ (.inl rfl) e,c⟩
 |ins C dx fs=>
  obtain⟨d,z,ne,e,mA,⟨od,es,ep,e2,c⟩,r⟩:=x
  exact⟨ho _ d,z,ne,k _ _ (.inl rfl) e,mA,⟨od,es,ep,k _ _ (.inr d) e2,c⟩,r⟩
 |own y=>obtain⟨ob,e⟩:=x;exact⟨ob,k _ _ (.inl rfl) e⟩
 |xd fs=>obtain⟨mA,⟨od,es,ep,e,c⟩,r⟩:=x;exact⟨mA,⟨od,es,ep,k _ _ (.inl rfl) e,c⟩,r⟩
 |rng lo hi=>obtain⟨t,u,v,e⟩:=x;exact⟨t,u,v,k _ _ (.inl rfl) e⟩
 |frz ob u ih=>obtain⟨e,q⟩:=x;exact⟨k _ _ (.inl rfl) e,ih q⟩
 |tbl ps=>
  have e:h.get? a=some {cls:= .none,data:= .fields ps}:=x
  show h'.get? a=some {cls:= .none,data:= .fields ps}
  exact k a _ (.inl rfl) e
 |met f y=>
  have e:h.get? a=some (PySem.W.methodObj (.ref f) (.ref y)):=x
  show h'.get? a=some (PySem.W.methodObj (.ref f) (.ref y))
  exact k a _ (.inl rfl) e
 |ext φ=>obtain⟨p,⟨o,e⟩,st⟩:=x;exact⟨st _ _ p fun o q=>k _ _ (.inl rfl) q,⟨o,k _ _ (.inl rfl) e⟩,st⟩
theorem HOk.lt (x:HOk P w H h) (e:H a=some o):a<h.objs.size:=(x a o e).lt
theorem HOk.fresh (x:HOk P w H h) (e:h.objs.size≤a):H a=none:=by
 cases q:H a with
 |none=>rfl
 |some u=>exact absurd (Nat.lt_of_lt_of_le (x.lt q) e) (Nat.lt_irrefl _)
theorem HOk.kept (x:HOk P w H h) (k:∀b u,h.get? b=some u→h'.get? b=some u):HOk P w H h':=fun a o e=>
 (x a o e).stay (fun b u _ q=>k b u q) (fun _ q=>q) fun _ _ q=>q
theorem HOk.laid (x:HOk P w H h) (k:∀b u,h.get? b=some u→h'.get? b=some u) (hp:h.objs.size≤a) (new:ObjOk P w (upd H a o) h' a o):HOk P w (upd H a o) h':=fun b u e=>by
 have hn:=x.fresh hp
 by_cases hb:b=a
 ·subst hb;rw[upd_same] at e;cases e;exact new
 ·rw[upd_ne hb] at e
  exact(x b u e).stay (fun c v _ q=>k c v q) (fun c q=>by rw[upd_ne (ne_of_none q hn)];exact q) fun c xs q=>by rw[upd_ne (ne_of_none q hn)];exact q
end
def Rd (H:Hp) (a:Addr) (u:HO):Prop:=H a=some u∨∃o,H a=some (.frz o u)
theorem Rd.ok {P:Program} {w:World} {H:Hp} {h:Heap} {a:Addr} {u:HO} (r:Rd H a u) (x:HOk P w H h):ObjOk P w H h a u:=by
 rcases r with r|⟨o,r⟩
 ·exact x a u r
 ·obtain⟨_,q⟩:=x a _ r
  exact q
def Mut:Option HO→Prop
 |some (.lst _)=>True
 |some (.dK _)=>True
 |some (.dT _)=>True
 |some (.set _ _)=>True
 |some (.ins _ _ _)=>True
 |some (.ext _)=>True
 |_=>False
section
variable {P:Program} {w:World} {H:Hp} {h h':Heap} {x e:Addr} {o':HO}
theorem HOk.write (ok:HOk P w H h) (mu:Mut (H x)) (he:e=x∨H e=some (.own x)) (k:∀b u,b≠e→h.get? b=some u→h'.get? b=some u) (heo:∃u,h'.get? e=some u)
  (new:ObjOk P w (upd H x o') h' x o'):HOk P w (upd H x o') h':=fun b u q=>by
 have nown:∀c y,H c=some (.own y)→c≠x:=fun c y r z=>by subst z;rw[r] at mu;exact mu
 have ntup:∀c xs,H c=some (.tup xs)→c≠x:=fun c xs r z=>by subst z;rw[r] at mu;exact mu
 by_cases hb:b=x
 ·subst hb;rw[upd_same] at q;cases q;exact new
 ·rw[upd_ne hb] at q
  by_cases hbe:b=e
  ·have q':H b=some (.own x):=by
    rcases he with z|z
    ·exact absurd (hbe.trans z) hb
    ·rw[hbe];exact z
   rw[q] at q';cases q'
   obtain⟨v,hv⟩:=heo
   exact⟨v,by rw[hbe];exact hv⟩
  ·refine(ok b u q).stay (fun c v hc r=>k c v ?_ r) (fun c r=>by rw[upd_ne (nown c b r)];exact r) fun c xs r=>by rw[upd_ne (ntup c xs r)];exact r
   rcases hc with rfl|hc
   ·exact hbe
   ·rintro rfl
    rcases he with z|z
    ·exact nown c b hc z
    ·rw[hc] at z;cases z;exact hb rfl
end
structure Un (fs ex:List Addr) (H H':Hp) (h h':Heap):Prop where
 keep:∀b o,h.get? b=some o→H b=none→b∉fs→b∉ex→h'.get? b=some o
 slot:∀b o,h.get? b=some o→H b=none→b∈fs→b∉ex→∃sl,h'.get? b=some {o with slots:=sl}
 free:∀b o,h.get? b=some o→H b=none→b∉ex→H' b=none
 there:∀b o,h.get? b=some o→b∉ex→∃o',h'.get? b=some o'
 tups:∀b xs,H b=some (.tup xs)→H' b=some (.tup xs)
 frzs:∀b o u,H b=some (.frz o u)→H' b=some (.frz o u)
 tbls:∀b ps,H b=some (.tbl ps)→∃more,H' b=some (.tbl (ps++more))
section
variable {fs fs' ex ex':List Addr} {H H1 H2:Hp} {h h1 h2 h':Heap} {a x e:Addr} {o:HO}
theorem Un.any (u:Un fs ex H H1 h h1) {b:Addr} {ob:Obj} (q:h.get? b=some ob) (n:H b=none) (hx:b∉ex):∃sl,h1.get? b=some {ob with slots:=sl}:=by
 by_cases hb:b∈fs
 ·exact u.slot b ob q n hb hx
 ·exact⟨ob.slots,u.keep b ob q n hb hx⟩
theorem Un.kept (k:∀b u,h.get? b=some u→h'.get? b=some u):Un fs ex H H h h':=
 ⟨fun b ob q _ _ _=>k b ob q,fun b ob q _ _ _=>⟨ob.slots,k b ob q⟩,fun _ _ _ n _=>n,fun b ob q _=>⟨ob,k b ob q⟩,fun _ _ q=>q,fun _ _ _ q=>q,fun _ ps q=>⟨#[],by rw[q];simp⟩⟩
theorem Un.refl:Un fs ex H H h h:=Un.kept fun _ _ q=>q
theorem Un.laid (k:∀b u,h.get? b=some u→h'.get? b=some u) (hp:h.objs.size≤a) (hn:H a=none):Un fs ex H (upd H a o) h h' where
 keep:=fun b u q _ _ _=>k b u q
 slot:=fun b u q _ _ _=>⟨u.slots,k b u q⟩
 free:=fun b u q n _=>by rw[upd_ne (Nat.ne_of_lt (Nat.lt_of_lt_of_le (Heap.lt_size q) hp))];exact n
 there:=fun b u q _=>⟨u,k b u q⟩
 tups:=fun b xs q=>by rw[upd_ne (ne_of_none q hn)];exact q
 frzs:=fun b u xs q=>by rw[upd_ne (ne_of_none q hn)];exact q
 tbls:=fun b ps q=>⟨#[],by rw[upd_ne (ne_of_none q hn),q];simp⟩
theorem Un.write (mu:Mut (H x)) (he:e=x∨H e=some (.own x)) (k:∀b u,b≠e→h.get? b=some u→h'.get? b=some u) (heo:∃u,h'.get? e=some u):Un fs ex H (upd H x o) h h':=by
 have hx:∀b,H b=none→b≠x:=fun b n z=>by subst z;rw[n] at mu;exact mu
 have hb:∀b,H b=none→b≠e:=fun b n z=>by
  subst z
  rcases he with r|r
  ·exact hx b n r
  ·rw[n] at r;cases r
 have hm:∀b u,H b=some u→¬Mut (some u)→b≠x:=fun b u q nm z=>by subst z;rw[q] at mu;exact nm mu
 refine⟨fun b u q n _ _=>k b u (hb b n) q,fun b u q n _ _=>⟨u.slots,k b u (hb b n) q⟩,fun b u q n _=>by rw[upd_ne (hx b n)];exact n,fun b u q _=> ?_,
  fun b xs q=>by rw[upd_ne (hm b _ q fun z=>z)];exact q,fun b u xs q=>by rw[upd_ne (hm b _ q fun z=>z)];exact q,fun b ps q=>⟨#[],by rw[upd_ne (hm b _ q fun z=>z),q];simp⟩⟩
 by_cases hbe:b=e
 ·subst hbe;exact heo
 ·exact⟨u,k b u hbe q⟩
end
noncomputable def trk (h:Heap) (H:Hp):List Addr:=(List.range h.objs.size).filter fun a=>(H a).isSome
noncomputable def hidT (h:Heap) (H:Hp):Heap:=PySem.W.hideAll h (trk h H)
theorem hidT_size (h:Heap) (H:Hp):(hidT h H).objs.size=h.objs.size:=PySem.W.hideAll_size _ _
theorem hidT_get {h:Heap} {H:Hp} {b:Addr} {o:Obj} (e:h.get? b=some o) (n:H b=none):(hidT h H).get? b=some o:=
 PySem.W.hideAll_get _ e fun hm=>by
  have q:(H b).isSome=true:=(List.mem_filter.mp hm).2
  rw[n] at q;simp at q
theorem of_hidT {h:Heap} {H:Hp} {b:Addr} {o:Obj} (e:(hidT h H).get? b=some o):h.get? b=some o∧H b=none:=by
 have e':h.get? b=some o:=PySem.W.of_hideAll (trk h H) e
 refine⟨e',?_⟩
 cases q:H b with
 |none=>rfl
 |some x=>
  have hm:b∈trk h H:=List.mem_filter.mpr ⟨List.mem_range.mpr (Heap.lt_size e'),by simp [q]⟩
  have z:(hidT h H).get? b=none:=PySem.W.hideAll_none (trk h H) hm
  rw[z] at e;cases e
end L2
namespace L2
open PySem PySem.Spec PyProof.Rows
structure Mod (K:PySem.W.Frag) (mg:Str→Option Value) (base:Heap):Prop where
 kin:K.In base
 glob:base.Ns mainGlobals mg
 blt:∃mb,base.Ns builtinsNs mb∧∀x:Str,x≠ "__name__" →mb x=bootBuiltins x
 nolimit:base.NoLimit
structure Cx where
 prog:Program
 w:World
 K:PySem.W.Frag
 mg:Str→Option Value
 base:Heap
 A:Around
 N:List Str
 s_0:Shared
 H_0:Hp
 env:Env
 outer:List Env
 stack:List Env
 ex:List Addr
 fn:Str→Bool
 calm:Bool
 pn:List (Addr×Obj)
 xe:Value→Shared→Prop
noncomputable def frs (l:List Env):List Addr:=l.filterMap (·.frame)
abbrev Cx.fs (X:Cx):List Addr:=frs X.outer
def Vis (sc:Scope) (x:Str):Prop:=sc.names.lookup x=some .local∨sc.names.lookup x=some .cell∨sc.names.lookup x=some .free
def Loc (sc:Scope) (x:Str):Prop:=sc.names.lookup x=some .local∨sc.names.lookup x=some .cell
def Look (env:Env) (h:Heap) (m:Str→Option Value) (x:Str) (u:Value):Prop:=
 (env.kindOf x=some .local∧m x=some u)∨((env.kindOf x=some .cell∨env.kindOf x=some .free)∧∃c,env.cells.lookup x=some c∧h.IsCell c (some u))
structure Cx.Ok (X:Cx):Prop where
 mod:Mod X.K X.mg X.base
 kind:X.env.scope.kind= .function
 glob:X.env.globals=mainGlobals
 blt:X.env.builtins=builtinsNs
 above:X.s_0.heap.objs.size≤X.env.locals
 inj:∀x y c,X.env.cells.lookup x=some c→X.env.cells.lookup y=some c→x=y
 has:∀x,(X.env.kindOf x=some .cell∨X.env.kindOf x=some .free)→∃c,X.env.cells.lookup x=some c
 cab:∀x c,X.fn x=true→X.env.cells.lookup x=some c→X.s_0.heap.objs.size≤c
 hd:X.calm=true→X.A.handled=none
 frames:X.A.frames=some X.stack
 stk:X.stack=X.outer∨(X.stack=X.env::X.outer∧X.env.frame=some X.env.locals)
 exf:∀b∈X.ex,b≠X.env.locals∧∀x c,X.env.cells.lookup x=some c→c≠b
 bs:∀b o,X.base.get? b=some o→X.s_0.heap.get? b=some o∧X.H_0 b=none
 bsz:X.base.objs.size≤X.s_0.heap.objs.size
 noex:∀b o,X.base.get? b=some o→b∉X.ex
 exfs:∀b∈X.ex,b∉X.fs
 funs:X.s_0.heap.FunFrames X.base X.outer
 frf:∀b∈X.fs,X.H_0 b=none
structure Inv (X:Cx) (pins:List (Addr×Obj)) (σ:List (Option V)) (H:Hp) (s:Shared):Prop where
 ok:X.Ok
 os:s.os=X.s_0.os
 bare:AllBare s.gens
 base:Un X.fs X.ex X.H_0 H X.s_0.heap s.heap
 loc:∃m,s.heap.Ns X.env.locals m∧∀(i:Nat) (x:Str) (v:V),X.N[i]?=some x→σ[i]?=some (some v)→Vis X.env.scope x→∃u,RelV v u∧Look X.env s.heap m x u
 cell:∀x c,X.env.cells.lookup x=some c→∃v,s.heap.IsCell c v
 free:H X.env.locals=none
 freeC:∀x c,X.env.cells.lookup x=some c→H c=none
 pin:∀p∈X.pn++pins,s.heap.get? p.1=some p.2∧H p.1=none∧p.1≠X.env.locals∧p.1∉X.fs∧∀v,p.2.data≠ .cell v
 hok:HOk X.prog X.w H s.heap
 len:σ.length=X.N.length
section
variable {X:Cx} {pins:List (Addr×Obj)} {σ:List (Option V)} {H H':Hp} {s:Shared} {h':Heap}
theorem Cx.Ok.nofr (ok:X.Ok) {b:Addr} {o:Obj} (e:X.base.get? b=some o):b∉X.fs:=fun hb=>by
 have:=(ok.funs.mem hb).1
 rw[e] at this;cases this
theorem Inv.bs (I:Inv X pins σ H s):∀b o,X.base.get? b=some o→s.heap.get? b=some o∧H b=none:=fun b o e=>
 ⟨I.base.keep b o (I.ok.bs b o e).1 (I.ok.bs b o e).2 (I.ok.nofr e) (I.ok.noex b o e),I.base.free b o (I.ok.bs b o e).1 (I.ok.bs b o e).2 (I.ok.noex b o e)⟩
theorem Inv.bk (I:Inv X pins σ H s):∀b o,X.base.get? b=some o→s.heap.get? b=some o:=fun b o e=>(I.bs b o e).1
theorem Inv.mod (I:Inv X pins σ H s):Mod X.K X.mg X.base:=I.ok.mod
theorem Inv.kIn (I:Inv X pins σ H s):X.K.In s.heap:=I.ok.mod.kin.keeps I.bk
theorem Inv.lt (I:Inv X pins σ H s):X.env.locals<s.heap.objs.size:=let ⟨_,hn,_⟩:=I.loc;hn.lt
theorem Inv.sz (I:Inv X pins σ H s):X.s_0.heap.objs.size≤s.heap.objs.size:=Nat.le_trans I.ok.above (Nat.le_of_lt I.lt)
theorem Inv.nofs (I:Inv X pins σ H s) {a:Addr} (h:s.heap.objs.size≤a):a∉X.fs:=fun hb=>by
 obtain⟨_,o,ho,_⟩:=I.ok.funs.mem hb
 exact absurd (Nat.lt_of_lt_of_le (Heap.lt_size ho) (Nat.le_trans I.sz h)) (Nat.lt_irrefl _)
theorem Inv.cne (I:Inv X pins σ H s):∀x c,X.env.cells.lookup x=some c→c≠X.env.locals:=fun x c e z=>by
 obtain⟨v,o,ho,hd⟩:=I.cell x c e
 obtain⟨m,⟨o',es,ep,ho',hd',_⟩,_⟩:=I.loc
 rw[z,ho'] at ho;cases ho;rw[hd'] at hd;cases hd
theorem Inv.funs (I:Inv X pins σ H s):s.heap.FunFrames X.base X.outer:=by
 have all:∀(l:List Env),(∀b∈frs l,b∈X.fs)→X.s_0.heap.FunFrames X.base l→s.heap.FunFrames X.base l:=by
  intro l
  induction l with
  |nil=>intro _ _;trivial
  |cons env r ih=>
   intro hs hl
   obtain⟨hk,⟨L,o,hf,hn,ho,hd⟩,hr⟩:=hl
   have hL:L∈X.fs:=hs L (by unfold frs;rw[List.filterMap_cons,hf];exact List.mem_cons_self)
   obtain⟨sl,e⟩:=I.base.slot L o ho (I.ok.frf L hL) hL fun z=>I.ok.exfs L z hL
   exact⟨hk,⟨L,_,hf,hn,e,hd⟩,ih (fun b hb=>hs b (by unfold frs;rw[List.filterMap_cons,hf];exact List.mem_cons_of_mem _ hb)) hr⟩
 exact all X.outer (fun _ hb=>hb) I.ok.funs
theorem Inv.stack (I:Inv X pins σ H s):s.heap.FunFrames X.base X.stack:=by
 rcases I.ok.stk with e|⟨e,hf⟩
 ·rw[e];exact I.funs
 ·rw[e]
  obtain⟨m,hn,_⟩:=I.loc
  refine .cons (by rw[I.ok.kind];decide) hf hn ?_ I.funs
  exact Heap.get?_none_of_le (Nat.le_trans I.ok.bsz I.ok.above)
theorem Inv.stkSub (I:Inv X pins σ H s):∀b∈frs X.stack,b∈X.env.locals::X.fs:=fun b hb=>by
 rcases I.ok.stk with e|⟨e,hf⟩
 ·rw[e] at hb;exact List.mem_cons_of_mem _ hb
 ·rw[e] at hb
  unfold frs at hb
  rw[List.filterMap_cons,hf] at hb
  exact hb
theorem Inv.stkFree (I:Inv X pins σ H s):∀b∈frs X.stack,H b=none:=fun b hb=>by
 rcases List.mem_cons.mp (I.stkSub b hb) with e|hb
 ·rw[e];exact I.free
 ·obtain⟨_,o,ho,_⟩:=I.ok.funs.mem hb
  exact I.base.free b o ho (I.ok.frf b hb) fun z=>I.ok.exfs b z hb
theorem Inv.step {g':Array GenState} {t':Nat} {d':Drawn} {ch:List Addr} (I:Inv X pins σ H s)
  (hch:∀b∈ch,(b∈X.ex∨X.s_0.heap.objs.size≤b)∧b≠X.env.locals∧(∀x c,X.env.cells.lookup x=some c→c≠b)∧∀p∈X.pn++pins,p.1≠b)
  (keep:∀b o,b≠X.env.locals→b∉X.fs→b∉ch→s.heap.get? b=some o→H b=none→h'.get? b=some o)
  (slot:∀b o,b≠X.env.locals→b∈X.fs→b∉ch→s.heap.get? b=some o→H b=none→∃sl,h'.get? b=some {o with slots:=sl}) (free:∀b o,b∉ch→s.heap.get? b=some o→H b=none→H' b=none)
  (there:∀b o,b∉ch→s.heap.get? b=some o→∃o',h'.get? b=some o')
  (tups:∀b xs,H b=some (.tup xs)→H' b=some (.tup xs)) (frzs:∀b o u,H b=some (.frz o u)→H' b=some (.frz o u)) (tbls:∀b ps,H b=some (.tbl ps)→∃more,H' b=some (.tbl (ps++more)))
  (ns:∀m,s.heap.Ns X.env.locals m→h'.Ns X.env.locals m) (hok:HOk X.prog X.w H' h') (hg:AllBare g'):
  Inv X pins σ H' {s with heap:=h',gens:=g',drawn:=d',toks:=t'}:=by
 have neL:∀b o,X.s_0.heap.get? b=some o→b≠X.env.locals:=fun b o e=>Nat.ne_of_lt (Nat.lt_of_lt_of_le (Heap.lt_size e) I.ok.above)
 have neC:∀b o,X.s_0.heap.get? b=some o→b∉X.ex→b∉ch:=fun b o e hx hb=>by
  rcases(hch b hb).1 with z|z
  ·exact hx z
  ·exact absurd (Nat.lt_of_lt_of_le (Heap.lt_size e) z) (Nat.lt_irrefl _)
 have cellK:∀x c,X.env.cells.lookup x=some c→∀v,s.heap.IsCell c v→h'.IsCell c v:=fun x c e v ⟨o,ho,hd⟩=>by
  have nch:c∉ch:=fun z=>(hch c z).2.2.1 x c e rfl
  by_cases hc:c∈X.fs
  ·obtain⟨sl,q⟩:=slot c o (I.cne x c e) hc nch ho (I.freeC x c e)
   exact⟨_,q,hd⟩
  ·exact⟨o,keep c o (I.cne x c e) hc nch ho (I.freeC x c e),hd⟩
 refine⟨I.ok,I.os,hg,⟨fun b o e n hb hx=> ?_,fun b o e n hb hx=> ?_,fun b o e n hx=> ?_,fun b o e hx=> ?_,fun b xs e=>tups b xs (I.base.tups b xs e),fun b o xs e=>frzs b o xs (I.base.frzs b o xs e),fun b ps e=> ?_⟩,?_,fun x c e=> ?_,?_,fun x c e=> ?_,fun p hp=> ?_,hok,I.len⟩
 ·exact keep b o (neL b o e) hb (neC b o e hx) (I.base.keep b o e n hb hx) (I.base.free b o e n hx)
 ·obtain⟨sl,e1⟩:=I.base.slot b o e n hb hx
  obtain⟨sl',e2⟩:=slot b _ (neL b o e) hb (neC b o e hx) e1 (I.base.free b o e n hx)
  exact⟨sl',e2⟩
 ·obtain⟨o',e1⟩:=I.base.there b o e hx
  exact free b o' (neC b o e hx) e1 (I.base.free b o e n hx)
 ·obtain⟨o',e1⟩:=I.base.there b o e hx
  exact there b o' (neC b o e hx) e1
 ·obtain⟨m1,e1⟩:=I.base.tbls b ps e
  obtain⟨m2,e2⟩:=tbls b _ e1
  exact⟨m1++m2,by rw[e2,Array.append_assoc]⟩
 ·obtain⟨m,hn,hl⟩:=I.loc
  refine⟨m,ns m hn,fun i x v e1 e2 e3=> ?_⟩
  obtain⟨u,r,l⟩:=hl i x v e1 e2 e3
  refine⟨u,r,?_⟩
  rcases l with l|⟨k,c,e,z⟩
  ·exact .inl l
  ·exact .inr ⟨k,c,e,cellK x c e _ z⟩
 ·obtain⟨v,z⟩:=I.cell x c e
  exact⟨v,cellK x c e v z⟩
 ·obtain⟨m,⟨o,_,_,ho,_⟩,_⟩:=I.loc
  exact free _ o (fun z=>(hch _ z).2.1 rfl) ho I.free
 ·obtain⟨v,o,ho,hd⟩:=I.cell x c e
  exact free c o (fun z=>(hch c z).2.2.1 x c e rfl) ho (I.freeC x c e)
 ·obtain⟨e,n,ne,nf,d⟩:=I.pin p hp
  have nch:p.1∉ch:=fun z=>(hch p.1 z).2.2.2 p hp rfl
  exact⟨keep p.1 p.2 ne nf nch e n,free p.1 p.2 nch e n,ne,nf,d⟩
theorem Inv.un {t':Nat} (I:Inv X pins σ H s) (u:Un X.fs [] H H' s.heap h') (hok:HOk X.prog X.w H' h'):Inv X pins σ H' {s with heap:=h',toks:=t'}:=by
 obtain⟨m,⟨o,es,ep,ho,r⟩,_⟩:=id I.loc
 obtain⟨sl,hL⟩:=u.any ho I.free (by simp)
 exact I.step (g':=s.gens) (d':=s.drawn) (ch:= []) (fun _ z=>nomatch z) (fun b o _ hb _ e n=>u.keep b o e n hb (by simp)) (fun b o _ hb _ e n=>u.slot b o e n hb (by simp)) (fun b o _ e n=>u.free b o e n (by simp)) (fun b o _ e=>u.there b o e (by simp)) u.tups u.frzs u.tbls (fun m' hm=>by
  obtain⟨o',es',ep',ho',r'⟩:=hm
  rw[ho] at ho';cases ho'
  exact⟨_,es',ep',hL,r'⟩) hok I.bare
theorem Inv.call {g':Array GenState} {t':Nat} {d':Drawn} {ch:List Addr} (I:Inv X pins σ H s) (u:Un (frs X.stack) ch H H' s.heap h') (hok:HOk X.prog X.w H' h') (hg:AllBare g')
  (hch:∀b∈ch,(b∈X.ex∨X.s_0.heap.objs.size≤b)∧b≠X.env.locals∧(∀x c,X.env.cells.lookup x=some c→c≠b)∧∀p∈X.pn++pins,p.1≠b):
  Inv X pins σ H' {s with heap:=h',gens:=g',drawn:=d',toks:=t'}:=by
 obtain⟨m,⟨o,es,ep,ho,r⟩,_⟩:=id I.loc
 obtain⟨sl,hL⟩:=u.any ho I.free fun z=>(hch _ z).2.1 rfl
 exact I.step (ch:=ch) hch (fun b o hL hb hc e n=>u.keep b o e n (fun z=>(List.mem_cons.mp (I.stkSub b z)).elim hL hb) hc) (fun b o _ _ hc e n=>u.any e n hc) (fun b o hc e n=>u.free b o e n hc) (fun b o hc e=>u.there b o e hc) u.tups u.frzs u.tbls (fun m' hm=>by
  obtain⟨o',es',ep',ho',r'⟩:=hm
  rw[ho] at ho';cases ho'
  exact⟨_,es',ep',hL,r'⟩) hok hg
theorem Inv.turned {t':Nat} {it:Addr} (I:Inv X pins σ H s) (k:∀b o,b≠it→s.heap.get? b=some o→h'.get? b=some o) (hn:H it=none) (hL:it≠X.env.locals)
  (h1:it∈X.ex∨X.s_0.heap.objs.size≤it) (h2:∀x c,X.env.cells.lookup x=some c→c≠it) (h3:∀p∈X.pn++pins,p.1≠it):Inv X pins σ H {s with heap:=h',toks:=t'}:=by
 have nit:∀b u,H b=some u→b≠it:=fun b u e z=>by rw[z,hn] at e;cases e
 refine I.step (g':=s.gens) (d':=s.drawn) (ch:= [it]) (fun b hb=> ?_) (fun b o _ _ hc e _=>k b o (fun z=>hc (by simp [z])) e) (fun b o _ _ hc e _=>⟨o.slots,k b o (fun z=>hc (by simp [z])) e⟩) (fun _ _ _ _ n=>n)
  (fun b o hc e=>⟨o,k b o (fun z=>hc (by simp [z])) e⟩) (fun _ _ e=>e) (fun _ _ _ e=>e) (fun b ps e=>⟨#[],by rw[e];simp⟩) (fun m hm=> ?_) (fun b u e=> ?_) I.bare
 ·have e:b=it:=by simpa using hb
  subst e
  exact⟨h1,hL,h2,h3⟩
 ·obtain⟨o,es,ep,ho,r⟩:=hm
  exact⟨o,es,ep,k _ o (Ne.symm hL) ho,r⟩
 ·refine(I.hok b u e).stay (fun c v hc q=>k c v ?_ q) (fun _ q=>q) fun _ _ q=>q
  rcases hc with z|z
  ·rw[z];exact nit b u e
  ·exact nit c _ z
theorem Inv.tok (I:Inv X pins σ H s) (t:Nat):Inv X pins σ H {s with toks:=t}:=I.un (h':=s.heap) (t':=t) Un.refl I.hok
theorem Inv.kept {t':Nat} (I:Inv X pins σ H s) (k:∀b u,s.heap.get? b=some u→h'.get? b=some u):Inv X pins σ H {s with heap:=h',toks:=t'}:=I.un (Un.kept k) (I.hok.kept k)
theorem Inv.laid {a:Addr} {o:HO} {t':Nat} (I:Inv X pins σ H s) (k:∀b u,s.heap.get? b=some u→h'.get? b=some u) (hp:s.heap.objs.size≤a) (new:ObjOk X.prog X.w (upd H a o) h' a o):
  Inv X pins σ (upd H a o) {s with heap:=h',toks:=t'}:=I.un (Un.laid k hp (I.hok.fresh hp)) (I.hok.laid k hp new)
theorem Inv.write {x e:Addr} {o:HO} {t':Nat} (I:Inv X pins σ H s) (mu:Mut (H x)) (he:e=x∨H e=some (.own x)) (k:∀b u,b≠e→s.heap.get? b=some u→h'.get? b=some u) (heo:∃u,h'.get? e=some u)
  (new:ObjOk X.prog X.w (upd H x o) h' x o):Inv X pins σ (upd H x o) {s with heap:=h',toks:=t'}:=I.un (Un.write mu he k heo) (I.hok.write mu he k heo new)
theorem Inv.weak {σ':List (Option V)} (I:Inv X pins σ H s) (hl:σ'.length=σ.length) (w:∀(i:Nat) v,σ'[i]?=some (some v)→σ[i]?=some (some v)):Inv X pins σ' H s:=
 ⟨I.ok,I.os,I.bare,I.base,let ⟨m,hn,hl'⟩:=I.loc;⟨m,hn,fun i x v e1 e2 e3=>hl' i x v e1 (w i v e2) e3⟩,I.cell,I.free,I.freeC,I.pin,I.hok,hl.trans I.len⟩
theorem Inv.pins_of {pins':List (Addr×Obj)} (I:Inv X pins σ H s) (h:∀p∈pins',s.heap.get? p.1=some p.2∧H p.1=none∧p.1≠X.env.locals∧p.1∉X.fs∧∀v,p.2.data≠ .cell v):Inv X pins' σ H s:=
 ⟨I.ok,I.os,I.bare,I.base,I.loc,I.cell,I.free,I.freeC,fun p hp=>(List.mem_append.mp hp).elim (fun z=>I.pin p (List.mem_append_left _ z)) (h p),I.hok,I.len⟩
theorem nodup_ix {N:List Str} (hN:N.Nodup) {i j:Nat} {x:Str} (a:N[i]?=some x) (b:N[j]?=some x):i=j:=by
 obtain⟨h1,e1⟩:=List.getElem?_eq_some_iff.mp a
 obtain⟨h2,e2⟩:=List.getElem?_eq_some_iff.mp b
 exact(List.getElem_inj hN).mp (e1.trans e2.symm)
theorem store_ok2 {M:Model} {A:Around} {E:Value→Shared→Prop} {i:Nat} {x:Str} {v:V} {u:Value} {Q:Unit→Shared→Prop} (I:Inv X pins σ H s) (hN:X.N.Nodup) (hi:X.N[i]?=some x) (hx:Loc X.env.scope x) (r:RelV v u)
  (h:∀s',Inv X pins (σ.set i (some v)) H s'→(∃a,Heap.SameBut a s.heap s'.heap∧(a=X.env.locals∨X.env.cells.lookup x=some a))→Q () s') (hf:X.fn x=true∨X.env.scope.names.lookup x=some .local:=by first|exact .inl rfl|exact .inr rfl|assumption):wpAny M A (storeName X.env x u) Q E s:=by
 obtain⟨m,hn,hl⟩:=id I.loc
 have hcls:(X.env.scope.kind== .class||(X.env.scope.kind== .module&&X.env.locals !=X.env.globals))=false:=by rw[I.ok.kind];rfl
 have hiσ:i<σ.length:=by rw[I.len];exact(List.getElem?_eq_some_iff.mp hi).1
 have cne:=I.cne
 have tracked:∀{a:Addr} {h':Heap},(∃o,s.heap.get? a=some o∧H a=none)→Heap.SameBut a s.heap h'→HOk X.prog X.w H h':=fun {a h'} ha hs b ob e=>by
  obtain⟨_,_,hfree⟩:=ha
  refine(I.hok b ob e).stay (fun c w' hc q=>(hs.2 c ?_).trans q) (fun _ q=>q) fun _ _ q=>q
  rintro rfl
  rcases hc with rfl|hc
  ·rw[hfree] at e;cases e
  ·rw[hfree] at hc;cases hc
 rcases hx with hk|hk
 ·refine wpAny_storeName_local hk hn (fun h' hn' hs=> ?_) hcls
  obtain⟨oL,_,_,hoL,_⟩:=id hn
  refine h _ ⟨I.ok,I.os,I.bare,⟨fun b o e n hb hx=> ?_,fun b o e n hb hx=> ?_,I.base.free,fun b o e hx=> ?_,I.base.tups,I.base.frzs,I.base.tbls⟩,⟨_,hn',fun j y v' e1 e2 e3=> ?_⟩,fun y c e=> ?_,I.free,I.freeC,fun p hp=> ?_,tracked ⟨oL,hoL,I.free⟩ hs,by simpa using I.len⟩ ⟨_,hs,.inl rfl⟩
  ·exact(hs.2 b (Nat.ne_of_lt (Nat.lt_of_lt_of_le (Heap.lt_size e) I.ok.above))).trans (I.base.keep b o e n hb hx)
  ·obtain⟨sl,e1⟩:=I.base.slot b o e n hb hx
   exact⟨sl,(hs.2 b (Nat.ne_of_lt (Nat.lt_of_lt_of_le (Heap.lt_size e) I.ok.above))).trans e1⟩
  ·obtain⟨o',e1⟩:=I.base.there b o e hx
   exact⟨o',(hs.2 b (Nat.ne_of_lt (Nat.lt_of_lt_of_le (Heap.lt_size e) I.ok.above))).trans e1⟩
  ·by_cases hj:j=i
   ·subst hj
    rw[hi] at e1;cases e1
    rw[List.getElem?_set_self hiσ] at e2
    cases e2
    exact⟨u,r,.inl ⟨hk,by simp⟩⟩
   ·rw[List.getElem?_set_ne (Ne.symm hj)] at e2
    obtain⟨u',r',q⟩:=hl j y v' e1 e2 e3
    refine⟨u',r',?_⟩
    rcases q with ⟨k,e⟩|⟨k,c,e,z⟩
    ·refine .inl ⟨k,?_⟩
     have:y≠x:=fun e=>hj (nodup_ix hN e1 (e▸hi))
     simp [this,e]
    ·exact .inr ⟨k,c,e,z.sameBut hs (cne y c e)⟩
  ·obtain⟨w',z⟩:=I.cell y c e
   exact⟨w',z.sameBut hs (cne y c e)⟩
  ·obtain⟨e,n,ne,nf,d⟩:=I.pin p hp
   exact⟨(hs.2 p.1 ne).trans e,n,ne,nf,d⟩
 ·have hfn:X.fn x=true:=by
   rcases hf with z|z
   ·exact z
   ·rw[z] at hk;cases hk
  obtain⟨c,hc⟩:=I.ok.has x (.inl hk)
  obtain⟨w',z⟩:=I.cell x c hc
  refine wpAny_storeName_cell I.ok.kind hk hc z (fun h' hc' hs=> ?_)
  obtain⟨oc,hoc,hocd⟩:=id z
  refine h {s with heap:=h'} ⟨I.ok,I.os,I.bare,⟨fun b o e n hb hx=> ?_,fun b o e n hb hx=> ?_,I.base.free,fun b o e hx=> ?_,I.base.tups,I.base.frzs,I.base.tbls⟩,⟨m,hn.sameBut hs (Ne.symm (cne x c hc)),fun j y v' e1 e2 e3=> ?_⟩,fun y c' e=> ?_,I.free,I.freeC,fun p hp=> ?_,tracked ⟨oc,hoc,I.freeC x c hc⟩ hs,by simpa using I.len⟩ ⟨c,hs,.inr hc⟩
  ·exact(hs.2 b (Nat.ne_of_lt (Nat.lt_of_lt_of_le (Heap.lt_size e) (I.ok.cab x c hfn hc)))).trans (I.base.keep b o e n hb hx)
  ·obtain⟨sl,e1⟩:=I.base.slot b o e n hb hx
   exact⟨sl,(hs.2 b (Nat.ne_of_lt (Nat.lt_of_lt_of_le (Heap.lt_size e) (I.ok.cab x c hfn hc)))).trans e1⟩
  ·obtain⟨o',e1⟩:=I.base.there b o e hx
   exact⟨o',(hs.2 b (Nat.ne_of_lt (Nat.lt_of_lt_of_le (Heap.lt_size e) (I.ok.cab x c hfn hc)))).trans e1⟩
  ·by_cases hj:j=i
   ·subst hj
    rw[hi] at e1;cases e1
    rw[List.getElem?_set_self hiσ] at e2
    cases e2
    exact⟨u,r,.inr ⟨.inl hk,c,hc,hc'⟩⟩
   ·rw[List.getElem?_set_ne (Ne.symm hj)] at e2
    obtain⟨u',r',q⟩:=hl j y v' e1 e2 e3
    refine⟨u',r',?_⟩
    rcases q with q|⟨k,c',e,z'⟩
    ·exact .inl q
    ·refine .inr ⟨k,c',e,z'.sameBut hs ?_⟩
     rintro rfl
     exact hj (nodup_ix hN e1 (I.ok.inj _ _ _ e hc▸hi))
  ·by_cases hcc:c'=c
   ·subst hcc;exact⟨_,hc'⟩
   ·obtain⟨w2,z2⟩:=I.cell y c' e
    exact⟨w2,z2.sameBut hs hcc⟩
  ·obtain⟨e,n,ne,nf,d⟩:=I.pin p hp
   refine⟨(hs.2 p.1 ?_).trans e,n,ne,nf,d⟩
   intro q
   rw[q,hoc] at e
   have q':oc=p.2:=Option.some.inj e
   exact d w' (by rw[←q'];exact hocd)
theorem store_ok {M:Model} {A:Around} {E:Value→Shared→Prop} {i:Nat} {x:Str} {v:V} {u:Value} {Q:Unit→Shared→Prop} (I:Inv X pins σ H s) (hN:X.N.Nodup) (hi:X.N[i]?=some x) (hx:Loc X.env.scope x) (r:RelV v u)
  (h:∀s',Inv X pins (σ.set i (some v)) H s'→Q () s') (hf:X.fn x=true∨X.env.scope.names.lookup x=some .local:=by first|exact .inl rfl|exact .inr rfl|assumption):wpAny M A (storeName X.env x u) Q E s:=
 store_ok2 I hN hi hx r (fun s' I' _=>h s' I') hf
theorem Inv.call' {s':Shared} {ch:List Addr} (I:Inv X pins σ H s) (ho:s'.os=s.os) (u:Un (frs X.stack) ch H H' s.heap s'.heap) (hok:HOk X.prog X.w H' s'.heap) (hg:AllBare s'.gens)
  (hch:∀b∈ch,(b∈X.ex∨X.s_0.heap.objs.size≤b)∧b≠X.env.locals∧(∀x c,X.env.cells.lookup x=some c→c≠b)∧∀p∈X.pn++pins,p.1≠b):Inv X pins σ H' s':=by
 obtain⟨h',g',d',t',o'⟩:=s'
 have e:o'=s.os:=ho
 subst e
 exact I.call (g':=g') (t':=t') (d':=d') u hok hg hch
end
abbrev XK:=Value→Option Addr→Hp→Prop
abbrev St:=List (Option V)
abbrev VK:=V→Hp→Prop
abbrev TE:=St→Hp→VK→Prop
abbrev TT:=St→Hp→(Bool→Hp→Prop)→Prop
abbrev TA:=St→Hp→(List V→Hp→Prop)→Prop
structure Ends where
 nx:St→Hp→Prop
 rt:VK
 bk:St→Hp→Prop:=fun _ _=>False
 ct:St→Hp→Prop:=fun _ _=>False
abbrev TS:=Ends→St→Hp→Prop
def EP (X:Cx) (pins:List (Addr×Obj)) (σ:St) (Q:VK) (u:Value) (s':Shared):Prop:=∃v H',Inv X pins σ H' s'∧RelV v u∧Q v H'
def TP (X:Cx) (pins:List (Addr×Obj)) (σ:St) (Q:Bool→Hp→Prop) (b:Bool) (s':Shared):Prop:=∃H',Inv X pins σ H' s'∧Q b H'
def AP (X:Cx) (pins:List (Addr×Obj)) (σ:St) (Q:List V→Hp→Prop) (us:List Value) (s':Shared):Prop:=∃vs H',Inv X pins σ H' s'∧Vals vs us∧Q vs H'
def SP (X:Cx) (pins:List (Addr×Obj)) (D:Ends) (f:Flow) (s':Shared):Prop:=
 match f with
 | .next=>∃σ' H',Inv X pins σ' H' s'∧D.nx σ' H'
 | .brk=>∃σ' H',Inv X pins σ' H' s'∧D.bk σ' H'
 | .cont=>∃σ' H',Inv X pins σ' H' s'∧D.ct σ' H'
 | .ret u=>∃v σ' H',Inv X pins σ' H' s'∧RelV v u∧D.rt v H'
def PE (X:Cx) (e:Expr) (t:TE):Prop:=
 ∀(pins:List (Addr×Obj)) (s:Shared) (σ:St) (H:Hp) (Q:VK),Inv X pins σ H s→t σ H Q→wpAny (model X.prog X.w) X.A (eval e X.env) (EP X pins σ Q) X.xe s
def PT (X:Cx) (e:Expr) (t:TT):Prop:=
 ∀(pins:List (Addr×Obj)) (s:Shared) (σ:St) (H:Hp) (Q:Bool→Hp→Prop),Inv X pins σ H s→t σ H Q→wpAny (model X.prog X.w) X.A (isTrue e X.env (eval e X.env)) (TP X pins σ Q) X.xe s
def PW (X:Cx) (e:Expr) (t:TT):Prop:=
 ∀(whole:Sem Value) (pins:List (Addr×Obj)) (s:Shared) (σ:St) (H:Hp) (Q:Bool→Hp→Prop),Inv X pins σ H s→t σ H Q→wpAny (model X.prog X.w) X.A (isTrue e X.env whole) (TP X pins σ Q) X.xe s
theorem PW.pt {X:Cx} {e:Expr} {t:TT} (h:PW X e t):PT X e t:=h _
def PA (X:Cx) (es:List Expr) (t:TA):Prop:=
 ∀(pos:Pos) (pins:List (Addr×Obj)) (s:Shared) (σ:St) (H:Hp) (Q:List V→Hp→Prop),Inv X pins σ H s→t σ H Q→wpAny (model X.prog X.w) X.A (spliced (backTo pos (starEach es X.env))) (AP X pins σ Q) X.xe s
def PS (X:Cx) (st:Stmt) (t:TS):Prop:=
 ∀(pins:List (Addr×Obj)) (s:Shared) (σ:St) (H:Hp) (D:Ends),Inv X pins σ H s→t D σ H→wpAny (model X.prog X.w) X.A (exec st X.env) (SP X pins D) X.xe s
def PSs (X:Cx) (st:List Stmt) (t:TS):Prop:=
 ∀(pins:List (Addr×Obj)) (s:Shared) (σ:St) (H:Hp) (D:Ends),Inv X pins σ H s→t D σ H→wpAny (model X.prog X.w) X.A (execs st X.env) (SP X pins D) X.xe s
theorem thn {α:Type} {t:Sem α} {Q Q':α→Shared→Prop} {M:Model} {A:Around} {E:Value→Shared→Prop} {s:Shared} (h:wpAny M A t Q E s) (hQ:∀a s,Q a s→Q' a s):wpAny M A t Q' E s:=wpAny_mono h hQ fun _ _ x=>x
end L2
namespace L2
open PySem PySem.Spec PyProof.Rows
section
variable {X:Cx}
def tVar (i:Nat):TE:=fun σ H Q=>∃v,σ[i]?=some (some v)∧Q v H
def tC (v:V):TE:=fun _ H Q=>Q v H
theorem pe_var {i:Nat} {x:Str} {pos:Pos} (hN:X.N[i]?=some x) (hv:Vis X.env.scope x) (hd:(x==("__debug__" :Str))=false:=by decide) (hcd:(x==("__classdict__" :Str))=false:=by decide):PE X (.Name x pos) (tVar i):=by
 intro pins s σ H Q I h
 obtain⟨v,e,h⟩:=h
 obtain⟨m,hn,hl⟩:=I.loc
 obtain⟨u,r,l⟩:=hl i x v hN e hv
 have fin:EP X pins σ Q u s:=⟨v,H,I,r,h⟩
 rcases l with ⟨hk,hm⟩|⟨hk,c,hc,hcell⟩
 ·exact wpAny_Name (wpAny_loadName_local I.ok.kind hk hn hm fin) hd
 ·rcases hk with hk|hk
  ·exact wpAny_Name (wpAny_loadName_cell I.ok.kind hk hc hcell fin) hd
  ·exact wpAny_Name (wpAny_loadName_free I.ok.kind hk hc hcell fin hcd) hd
theorem pe_int {i j pos}:PE X (.Constant (.int i) j pos) (tC (.int i)):=fun _ _ _ H _ I h=>wpAny_Constant_int ⟨.int i,H,I.tok _,⟨_,rfl⟩,h⟩
theorem pe_bl {b j pos}:PE X (.Constant (.bool b) j pos) (tC (.bl b)):=fun _ _ _ H _ I h=>Constant_bool ⟨.bl b,H,I,rfl,h⟩
theorem pe_non {j pos}:PE X (.Constant .none j pos) (tC .non):=fun _ _ _ H _ I h=>Constant_none ⟨.non,H,I,rfl,h⟩
def Gl (X:Cx) (x:Str):Prop:=X.env.kindOf x=some .globalImplicit
theorem ld_glob {E:Value→Shared→Prop} {pins:List (Addr×Obj)} {s:Shared} {σ:St} {H:Hp} {x:Str} {u:Value} {pos:Pos} {Q:Value→Shared→Prop} (I:Inv X pins σ H s) (hg:Gl X x) (hm:X.mg x=some u) (h:Q u s)
  (hd:(x==("__debug__" :Str))=false:=by decide):wpAny (model X.prog X.w) X.A (eval (.Name x pos) X.env) Q E s:=
 Calls.Name_function_global I.ok.kind hg (Calls.loadGlobal_global (by rw[I.ok.glob];exact I.mod.glob.keeps I.bk) hm h) hd
theorem ld_blt {E:Value→Shared→Prop} {pins:List (Addr×Obj)} {s:Shared} {σ:St} {H:Hp} {x:Str} {u:Value} {pos:Pos} {Q:Value→Shared→Prop} (I:Inv X pins σ H s) (hg:Gl X x) (hm:X.mg x=none) (hv:bootBuiltins x=some u) (h:Q u s)
  (hn:x≠ "__name__" :=by decide) (hd:(x==("__debug__" :Str))=false:=by decide):wpAny (model X.prog X.w) X.A (eval (.Name x pos) X.env) Q E s:=by
 obtain⟨mb,h1,h2⟩:=I.mod.blt
 exact Calls.Name_function_global I.ok.kind hg (Calls.loadGlobal_builtin (by rw[I.ok.glob];exact I.mod.glob.keeps I.bk) hm (by rw[I.ok.blt];exact h1.keeps I.bk) ((h2 x hn).trans hv) h) hd
theorem pe_glob {x:Str} {v:V} {u:Value} {pos:Pos} (hg:Gl X x) (hm:X.mg x=some u) (r:RelV v u) (hd:(x==("__debug__" :Str))=false:=by decide):PE X (.Name x pos) (tC v):=
 fun _ _ _ H _ I h=>ld_glob I hg hm ⟨v,H,I,r,h⟩ hd
variable {a b:Expr} {ta tb:TE} {pos:Pos}
def PC (X:Cx) (op:CmpOp) (a b:Expr) (t:TE):Prop:=
 ∀(pins:List (Addr×Obj)) (s:Shared) (σ:St) (H:Hp) (Q:VK),Inv X pins σ H s→t σ H Q→
  wpAny (model X.prog X.w) X.A (eval a X.env) (fun v s₁=>wpAny (model X.prog X.w) X.A (eval b X.env) (fun u s₂=>wpAny (model X.prog X.w) X.A (compareOp op v u) (EP X pins σ Q) X.xe s₂) X.xe s₁) X.xe s
def tB (t:TE):TT:=fun σ H Q=>t σ H fun x H1=>∃c,x= .bl c∧Q c H1
theorem pe_cmp {op:CmpOp} {t:TE} (h:PC X op a b t) (h1:behindInMarks op b=false:=by first|exact nobehind _ (by decide) (by decide)|rfl):PE X (.Compare a [op] [b] pos) t:=fun pins s σ H Q I hw=>wpAny_Compare1 (h pins s σ H Q I hw) h1
theorem pt_cmp {op:CmpOp} {t:TE} (h:PC X op a b t) (h1:behindInMarks op b=false:=by first|exact nobehind _ (by decide) (by decide)|rfl):PT X (.Compare a [op] [b] pos) (tB t):=by
 intro pins s σ H Q I hw
 refine wpAny_isTrue_Compare1 (thn (h pins s σ H _ I hw) fun v s1 h1=>thn h1 fun u s2 h2=>thn h2 fun c s3 ⟨x,H1,I1,r1,q1⟩=> ?_) h1
 obtain⟨d,rfl,q⟩:=q1
 cases r1
 exact wpAny_truthy_bool ⟨H1,I1,q⟩
theorem pt_val {e:Expr} {t:TE} (h:PE X e t) (he:∀whole,isTrue e X.env whole=(do let v←whole;standAt e.pos;holding [v] (truthy v)):=by intro _;rfl):PT X e (tB t):=by
 intro pins s σ H Q I hw
 refine isTrue_plain (thn (h pins s σ H _ I hw) fun v s1 ⟨x,H1,I1,r1,q1⟩=> ?_) (he _)
 obtain⟨d,rfl,q⟩:=q1
 cases r1
 exact wpAny_truthy_bool ⟨H1,I1,q⟩
variable {tA tB':TT} {rest:List Expr}
def tAnd (t u:TT):TT:=fun σ H Q=>t σ H fun c H1=>if c=true then u σ H1 Q else Q false H1
def tOr (t u:TT):TT:=fun σ H Q=>t σ H fun c H1=>if c=true then Q true H1 else u σ H1 Q
def tNot (t:TT):TT:=fun σ H Q=>t σ H fun c H1=>Q (!c) H1
theorem pw_and1 (ha:PT X a tA):PW X (.BoolOp .And [a] pos) tA:=by
 intro wh pins s σ H Q I h
 refine isTrue_and (thn (ha pins s σ H Q I h) fun c s1 e=> ?_)
 cases c with
 |true=>exact isTrue_and_nil e
 |false=>exact e
theorem pw_or1 (ha:PT X a tA):PW X (.BoolOp .Or [a] pos) tA:=by
 intro wh pins s σ H Q I h
 refine isTrue_or (thn (ha pins s σ H Q I h) fun c s1 e=> ?_)
 cases c with
 |false=>exact isTrue_or_nil e
 |true=>exact e
theorem pw_and (ha:PT X a tA) (hb:PW X (.BoolOp .And (b::rest) pos) tB'):PW X (.BoolOp .And (a::b::rest) pos) (tAnd tA tB'):=by
 intro wh pins s σ H Q I h
 refine isTrue_and (thn (ha pins s σ H _ I h) fun c s1 ⟨H1,I1,q1⟩=> ?_)
 cases c with
 |true=>exact hb wh pins s1 σ H1 Q I1 q1
 |false=>exact⟨H1,I1,q1⟩
theorem pw_or (ha:PT X a tA) (hb:PW X (.BoolOp .Or (b::rest) pos) tB'):PW X (.BoolOp .Or (a::b::rest) pos) (tOr tA tB'):=by
 intro wh pins s σ H Q I h
 refine isTrue_or (thn (ha pins s σ H _ I h) fun c s1 ⟨H1,I1,q1⟩=> ?_)
 cases c with
 |true=>exact⟨H1,I1,q1⟩
 |false=>exact hb wh pins s1 σ H1 Q I1 q1
theorem pt_not (ha:PT X a tA):PT X (.UnaryOp .Not a pos) (tNot tA):=by
 intro pins s σ H Q I h
 exact isTrue_not (ha pins s σ H (fun c H1=>Q (!c) H1) I h)
def tAndV (ta tb:TE):TE:=fun σ H Q=>ta σ H fun x H1=>∃c,x= .bl c∧if c=true then tb σ H1 Q else Q (.bl false) H1
def tOrV (ta tb:TE):TE:=fun σ H Q=>ta σ H fun x H1=>∃c,x= .bl c∧if c=true then Q (.bl true) H1 else tb σ H1 Q
theorem pe_one {op} {t:TE} (h:PE X a t):PE X (.BoolOp op [a] pos) t:=fun pins s σ H Q I hw=>BoolOp_one (h pins s σ H Q I hw)
theorem pe_and (ha:PE X a ta) (hb:PE X (.BoolOp .And (b::rest) pos) tb):PE X (.BoolOp .And (a::b::rest) pos) (tAndV ta tb):=by
 intro pins s σ H Q I h
 refine BoolOp_and (thn (ha pins s σ H _ I h) fun v s1 ⟨x,H1,I1,r1,q1⟩=> ?_)
 obtain⟨c,rfl,q1⟩:=q1
 cases r1
 refine wpAny_truthy_bool ?_
 cases c with
 |true=>exact hb pins s1 σ H1 Q I1 q1
 |false=>exact⟨.bl false,H1,I1,rfl,q1⟩
theorem pe_or (ha:PE X a ta) (hb:PE X (.BoolOp .Or (b::rest) pos) tb):PE X (.BoolOp .Or (a::b::rest) pos) (tOrV ta tb):=by
 intro pins s σ H Q I h
 refine BoolOp_or (thn (ha pins s σ H _ I h) fun v s1 ⟨x,H1,I1,r1,q1⟩=> ?_)
 obtain⟨c,rfl,q1⟩:=q1
 cases r1
 refine wpAny_truthy_bool ?_
 cases c with
 |false=>exact hb pins s1 σ H1 Q I1 q1
 |true=>exact⟨.bl true,H1,I1,rfl,q1⟩
def tIf (t:TT) (ta tb:TE):TE:=fun σ H Q=>t σ H fun c H1=>if c=true then ta σ H1 Q else tb σ H1 Q
theorem pe_ifExp {c:Expr} (hc:PT X c tA) (ha:PE X a ta) (hb:PE X b tb):PE X (.IfExp c a b pos) (tIf tA ta tb):=by
 intro pins s σ H Q I h
 refine wpAny_IfExp (thn (hc pins s σ H _ I h) fun d s1 ⟨H1,I1,q1⟩=> ?_)
 cases d with
 |true=>exact ha pins s1 σ H1 Q I1 q1
 |false=>exact hb pins s1 σ H1 Q I1 q1
end
end L2
namespace L2
open PySem PySem.Spec PyProof.Rows
def SqL (K:PySem.W.Frag) (H:Hp) (a:Addr) (xs:List V):Prop:=
 Rd H a (.lst xs)∨
  ∃(o:Obj) (its:Array Value) (n:Nat),K.lookup a=some o∧o.cls= .type "list" ∧o.dict=none∧o.data= .seq its n∧its.size≤sizeLine∧Vals xs its.toList
def SqT (K:PySem.W.Frag) (H:Hp) (a:Addr) (xs:List V):Prop:=
 Rd H a (.tup xs)∨
  ∃(o:Obj) (its:Array Value) (n:Nat),K.lookup a=some o∧o.cls= .type "tuple" ∧o.data= .seq its n∧its.size≤sizeLine∧Vals xs its.toList
noncomputable def absV:Value→Option V
 | .none=>some .non
 | .bool b=>some (.bl b)
 | .int i _=>some (.int i)
 | .str x _=>some (.str x)
 | .bytes b _=>some (.byt b)
 | .float b _=>some (.flt b)
 | .ref a=>some (.ref a)
 | .type n=>some (.ty n)
 |_=>none
theorem RelV.abs {x:V} {u:Value} (r:RelV x u):absV u=some x:=by
 cases x with
 |non=>cases r;rfl
 |bl _=>cases r;rfl
 |int _=>obtain⟨t,rfl⟩:=r;rfl
 |str _=>obtain⟨t,rfl⟩:=r;rfl
 |byt _=>obtain⟨t,rfl⟩:=r;rfl
 |flt _=>obtain⟨t,rfl⟩:=r;rfl
 |ref _=>cases r;rfl
 |ty _=>cases r;rfl
theorem RelV.inj {x y:V} {u:Value} (r:RelV x u) (q:RelV y u):x=y:=Option.some.inj (r.abs.symm.trans q.abs)
theorem Vals.inj:∀{xs ys:List V} {us:List Value},Vals xs us→Vals ys us→xs=ys
 |_,_,_,.nil,.nil=>rfl
 |_,_,_,.cons r t,.cons r' t'=>by rw[r.inj r',Vals.inj t t']
section
variable {X:Cx} {pins:List (Addr×Obj)} {σ:St} {H:Hp} {s:Shared} {a:Addr} {xs ys:List V}
theorem SqL.of {K:PySem.W.Frag} (h:H a=some (.lst xs)):SqL K H a xs:= .inl (.inl h)
theorem SqT.of {K:PySem.W.Frag} (h:H a=some (.tup xs)):SqT K H a xs:= .inl (.inl h)
theorem Inv.list (I:Inv X pins σ H s) (h:SqL X.K H a xs):∃its:List Value,Vals xs its∧PlainL s.heap a its.toArray∧xs.length≤sizeLine:=by
 rcases h with h|⟨o,its,n,hk,hc,hd,hs,hz,r⟩
 ·obtain⟨z,its,n,r,e⟩:=h.ok I.hok
  exact⟨its,r,⟨_,n,e,rfl,rfl,rfl⟩,z⟩
 ·refine⟨its.toList,r,⟨o,n,I.kIn a o hk,hc,hd,by simpa using hs⟩,?_⟩
  have e:=r.length
  simp only[Array.length_toList] at e
  omega
theorem Inv.tuple (I:Inv X pins σ H s) (h:SqT X.K H a xs):∃its:List Value,Vals xs its∧IsTup s.heap a its.toArray∧xs.length≤sizeLine:=by
 rcases h with h|⟨o,its,n,hk,hc,hs,hz,r⟩
 ·obtain⟨z,its,r,p⟩:=h.ok I.hok
  exact⟨its,r,p,z⟩
 ·refine⟨its.toList,r,⟨o,I.kIn a o hk,hc,n,by simpa using hs⟩,?_⟩
  have e:=r.length
  simp only[Array.length_toList] at e
  omega
theorem Inv.list_inj (I:Inv X pins σ H s) (h:SqL X.K H a xs) (h':SqL X.K H a ys):xs=ys:=by
 obtain⟨its,r,⟨o,n,e,_,_,d⟩,_⟩:=I.list h
 obtain⟨its',r',⟨o',n',e',_,_,d'⟩,_⟩:=I.list h'
 rw[e] at e';cases e'
 rw[d] at d'
 injection d' with d1 _
 have:its=its':=by simpa using congrArg Array.toList d1
 subst this
 exact r.inj r'
end
abbrev Cx.wish (X:Cx) (E:Value→Shared→Prop):Cx:={X with xe:=E}
abbrev Cx.nox (X:Cx):Cx:=X.wish fun _ _=>False
theorem Cx.Ok.wish {X:Cx} (ok:X.Ok) (E:Value→Shared→Prop):(X.wish E).Ok:=
 ⟨ok.mod,ok.kind,ok.glob,ok.blt,ok.above,ok.inj,ok.has,ok.cab,ok.hd,ok.frames,ok.stk,ok.exf,ok.bs,ok.bsz,ok.noex,ok.exfs,ok.funs,ok.frf⟩
theorem Cx.Ok.unwish {X:Cx} {E:Value→Shared→Prop} (ok:(X.wish E).Ok):X.Ok:=
 ⟨ok.mod,ok.kind,ok.glob,ok.blt,ok.above,ok.inj,ok.has,ok.cab,ok.hd,ok.frames,ok.stk,ok.exf,ok.bs,ok.bsz,ok.noex,ok.exfs,ok.funs,ok.frf⟩
section
variable {X:Cx} {pins:List (Addr×Obj)} {σ:St} {H:Hp} {s:Shared} {E:Value→Shared→Prop}
theorem Inv.wish (I:Inv X pins σ H s) (E:Value→Shared→Prop):Inv (X.wish E) pins σ H s:=⟨I.ok.wish E,I.os,I.bare,I.base,I.loc,I.cell,I.free,I.freeC,I.pin,I.hok,I.len⟩
theorem Inv.unwish (I:Inv (X.wish E) pins σ H s):Inv X pins σ H s:=⟨I.ok.unwish,I.os,I.bare,I.base,I.loc,I.cell,I.free,I.freeC,I.pin,I.hok,I.len⟩
theorem SP.unwish {D:Ends} {f:Flow} {s':Shared} (h:SP (X.wish E) pins D f s'):SP X pins D f s':=by
 cases f with
 |next=>obtain⟨σ',H',I,q⟩:=h;exact⟨σ',H',I.unwish,q⟩
 |brk=>obtain⟨σ',H',I,q⟩:=h;exact⟨σ',H',I.unwish,q⟩
 |cont=>obtain⟨σ',H',I,q⟩:=h;exact⟨σ',H',I.unwish,q⟩
 |ret u=>obtain⟨v,σ',H',I,r,q⟩:=h;exact⟨v,σ',H',I.unwish,r,q⟩
theorem PSs.nox {st:List Stmt} {t:TS} (h:PSs X.nox st t):PSs X st t:=fun pins s σ H D I hw=>
 wpAny_mono (h pins s σ H D (I.wish _) hw) (fun _ _ q=>q.unwish) fun _ _ z=>False.elim z
end
section
variable {X:Cx} {st:Stmt} {rest:List Stmt} {t u:TS} {e:Expr} {te:TE} {pos:Pos}
def tNext:TS:=fun D σ H=>D.nx σ H
def tSeq (t u:TS):TS:=fun D σ H=>t {D with nx:=u D} σ H
theorem pss_nil:PSs X [] tNext:=fun _ _ σ H _ I h=>wpAny_execs_nil ⟨σ,H,I,h⟩
theorem pss_cons (h1:PS X st t) (h2:PSs X rest u):PSs X (st::rest) (tSeq t u):=by
 intro pins s σ H D I h
 refine wpAny_execs_cons (thn (h1 pins s σ H {D with nx:=u D} I h) fun f s1 q=> ?_)
 cases f with
 |next=>
  obtain⟨σ',H',I',q⟩:=q
  exact h2 pins s1 σ' H' D I' q
 |ret v=>exact q
 |brk=>exact q
 |cont=>exact q
theorem pss_one (h1:PS X st t):PSs X [st] t:=by
 intro pins s σ H D I h
 refine wpAny_execs_cons (thn (h1 pins s σ H D I h) fun f s1 q=> ?_)
 cases f with
 |next=>exact wpAny_execs_nil q
 |ret v=>exact q
 |brk=>exact q
 |cont=>exact q
theorem Inv.quiet {pins:List (Addr×Obj)} {σ:St} {H:Hp} {s:Shared} (I:Inv X pins σ H s):interactive X.env=false:=by simp [interactive,I.ok.kind]
def tDrop (te:TE):TS:=fun D σ H=>te σ H fun _ H1=>D.nx σ H1
theorem ps_expr (he:PE X e te) (hs:swapsWith e none pos.line X.env=pure false:=by rfl):PS X (.Expr e pos) (tDrop te):=by
 intro pins s σ H D I h
 exact wpAny_Expr_any (thn (he pins s σ H _ I h) fun v s1 ⟨x,H1,I1,r1,q1⟩=>⟨σ,H1,I1,q1⟩) I.quiet hs
def tRet (te:TE):TS:=fun D σ H=>te σ H D.rt
theorem ps_ret (he:PE X e te):PS X (.Return (some e) pos) (tRet te):=by
 intro pins s σ H D I h
 exact wpAny_Return_some (thn (he pins s σ H _ I h) fun v s1 ⟨x,H1,I1,r1,q1⟩=>⟨x,σ,H1,I1,r1,q1⟩)
def tIfS (c:TT) (t u:TS):TS:=fun D σ H=>c σ H fun b H1=>if b=true then t D σ H1 else u D σ H1
theorem ps_if {c:Expr} {a b:List Stmt} {tc:TT} (hc:PT X c tc) (ha:PSs X a t) (hb:PSs X b u):PS X (.If c a b pos) (tIfS tc t u):=by
 intro pins s σ H D I h
 refine wpAny_If (thn (hc pins s σ H _ I h) fun d s1 ⟨H1,I1,q1⟩=> ?_)
 cases d with
 |true=>exact ha pins s1 σ H1 D I1 q1
 |false=>exact hb pins s1 σ H1 D I1 q1
end
abbrev TG:=V→St→Hp→(St→Hp→Prop)→Prop
abbrev TGs:=List V→St→Hp→(St→Hp→Prop)→Prop
def PG (X:Cx) (target:Expr) (t:TG):Prop:=
 ∀(pins:List (Addr×Obj)) (s:Shared) (σ:St) (H:Hp) (v:V) (u:Value) (Q:St→Hp→Prop),Inv X pins σ H s→RelV v u→t v σ H Q→
  wpAny (model X.prog X.w) X.A (assign target X.env u) (fun _ s'=>∃σ' H',Inv X pins σ' H' s'∧Q σ' H') X.xe s
def PGs (X:Cx) (ts:List Expr) (t:TGs):Prop:=
 ∀(pins:List (Addr×Obj)) (s:Shared) (σ:St) (H:Hp) (vs:List V) (us:List Value) (Q:St→Hp→Prop),Inv X pins σ H s→Vals vs us→t vs σ H Q→
  wpAny (model X.prog X.w) X.A (assignInOrder ((assignEach ts X.env).map (·.2)) us) (fun _ s'=>∃σ' H',Inv X pins σ' H' s'∧Q σ' H') X.xe s
abbrev TSet:=V→V→V→Hp→(Hp→Prop)→Prop
def PSet (X:Cx) (t:TSet):Prop:=
 ∀(pins:List (Addr×Obj)) (s:Shared) (σ:St) (H:Hp) (o i v:V) (ov iv u:Value) (Q:Hp→Prop),Inv X pins σ H s→RelV o ov→RelV i iv→RelV v u→t o i v H Q→
  wpAny (model X.prog X.w) X.A (setItem ov iv u) (fun _ s'=>∃H',Inv X pins σ H' s'∧Q H') X.xe s
abbrev TIp:=V→V→Hp→VK→Prop
def PIp (X:Cx) (op:Operator) (t:TIp):Prop:=
 ∀(pins:List (Addr×Obj)) (s:Shared) (σ:St) (H:Hp) (x y:V) (v u:Value) (Q:VK),Inv X pins σ H s→RelV x v→RelV y u→t x y H Q→
  wpAny (model X.prog X.w) X.A (inplaceOp op v u) (EP X pins σ Q) X.xe s
section
variable {X:Cx} {pos:Pos}
def gName (i:Nat):TG:=fun v σ H Q=>Q (σ.set i (some v)) H
theorem pg_name {i:Nat} {x:Str} (hN:X.N.Nodup) (hi:X.N[i]?=some x) (hx:Loc X.env.scope x) (hf:X.fn x=true∨X.env.scope.names.lookup x=some .local:=by first|exact .inl rfl|exact .inr rfl|assumption):PG X (.Name x pos) (gName i):=by
 intro pins s σ H v u Q I r h
 exact wpAny_assign_Name (store_ok I hN hi hx r (fun s' I'=>⟨_,H,I',h⟩) hf)
def gNil:TGs:=fun vs σ H Q=>vs= []∧Q σ H
def gCons (t:TG) (u:TGs):TGs:=fun vs σ H Q=>∃v r,vs=v::r∧t v σ H fun σ' H'=>u r σ' H' Q
theorem pgs_nil:PGs X [] gNil:=by
 intro pins s σ H vs us Q I r h
 obtain⟨e,h⟩:=h
 subst e
 cases r
 exact assignInOrder_nil ⟨σ,H,I,h⟩
theorem pgs_cons {e:Expr} {es:List Expr} {t:TG} {u:TGs} (h1:PG X e t) (h2:PGs X es u)
  (hs:(assignEach (e::es) X.env).map (·.2)=assign e X.env::(assignEach es X.env).map (·.2):=by rfl):PGs X (e::es) (gCons t u):=by
 intro pins s σ H vs us Q I r h
 obtain⟨v,vr,e1,h⟩:=h
 subst e1
 cases r with
 |cons r rr=>
  rw[hs]
  refine assignInOrder_cons (thn (h1 pins s σ H _ _ _ I r h) fun _ s1 ⟨σ1,H1,I1,q1⟩=> ?_)
  exact h2 pins s1 σ1 H1 _ _ Q I1 rr q1
def gTup (K:PySem.W.Frag) (n:Nat) (t:TGs):TG:=fun v σ H Q=>∃a xs,v= .ref a∧SqT K H a xs∧xs.length=n∧t xs σ H Q
theorem pg_tup {es:List Expr} {k:Nat} {t:TGs} {n:Nat} (hc:X.calm=true) (h:PGs X es t)
  (hn:(assignEach es X.env).length=n:=by rfl) (hst:(assignEach es X.env).findIdx? (·.1)=none:=by rfl):PG X (.Tuple es k pos) (gTup X.K n t):=by
 intro pins s σ H v u Q I r hw
 obtain⟨a,xs,e1,hq,hl,hw⟩:=hw
 subst e1
 cases r
 obtain⟨its,rv,ht,hz⟩:=I.tuple hq
 refine assign_Tuple_tuple (I.ok.hd hc) ht (by simp [hn,←hl,rv.length]) hst fun h' hx=> ?_
 have I1:Inv X pins σ H {s with heap:=h'}:=I.kept (t':=s.toks) fun b o e=>hx b o (Nat.ne_of_lt (Heap.lt_size e)) e
 exact h pins _ σ H xs _ Q I1 (by simpa using rv) hw
def gSub (to ti:TE) (t:TSet):TG:=fun v σ H Q=>to σ H fun o H1=>ti σ H1 fun i H2=>t o i v H2 fun H3=>Q σ H3
theorem pg_sub {o i:Expr} {to ti:TE} {t:TSet} (ho:PE X o to) (hi:PE X i ti) (hs:PSet X t)
  (ha:∀v,assign (.Subscript o i pos) X.env v=(do
   let ov←holding [v] (eval o X.env)
   let iv←holding [v,ov] (eval i X.env)
   standAt pos
   holding [v,ov,iv] (setItem ov iv v)
   release [v,ov,iv] []):=by intro _;rfl):PG X (.Subscript o i pos) (gSub to ti t):=by
 intro pins s σ H v u Q I r h
 rw[ha]
 refine wpAny_bind (wpAny_holding (thn (ho pins s σ H _ I h) fun ov s1 ⟨x,H1,I1,r1,q1⟩=> ?_))
 refine wpAny_bind (wpAny_holding (thn (hi pins s1 σ H1 _ I1 q1) fun iv s2 ⟨y,H2,I2,r2,q2⟩=> ?_))
 refine wpAny_bind (wpAny_standAt (wpAny_bind (wpAny_holding (thn (hs pins s2 σ H2 x y v ov iv u _ I2 r1 r2 r q2) fun _ s3 ⟨H3,I3,q3⟩=> ?_))))
 exact wpAny_release ⟨σ,H3,I3,q3⟩
def tAsg (te:TE) (g:TG):TS:=fun D σ H=>te σ H fun x H1=>g x σ H1 D.nx
theorem ps_asg {tg e:Expr} {te:TE} {g:TG} (he:PE X e te) (hg:PG X tg g) (hs:swapsWithSole [tg] e pos.line X.env=pure false:=by rfl) (hw:swappedStores [tg] e X.env=pure none:=by rfl)
  (h1:(assignEach [tg] X.env).map (·.2)= [assign tg X.env]:=by rfl):PS X (.Assign [tg] e pos) (tAsg te g):=by
 intro pins s σ H D I h
 refine wpAny_Assign_stores (thn (he pins s σ H _ I h) fun v s1 ⟨x,H1,I1,r1,q1⟩=> ?_) hs hw
 rw[h1]
 exact thn (hg pins s1 σ H1 x v _ I1 r1 q1) fun _ s2 q=>q
theorem ps_set {i:Nat} {x:Str} {e:Expr} {te:TE} {pos':Pos} (hN:X.N.Nodup) (hi:X.N[i]?=some x) (hx:Loc X.env.scope x) (he:PE X e te) (hs:swapsWith e (some (.Name x pos')) pos.line X.env=pure false:=by rfl) (hf:X.fn x=true∨X.env.scope.names.lookup x=some .local:=by first|exact .inl rfl|exact .inr rfl|assumption):
  PS X (.Assign [.Name x pos'] e pos) (tAsg te (gName i)):=by
 intro pins s σ H D I h
 refine wpAny_Assign_Name (thn (he pins s σ H _ I h) fun v s1 ⟨y,H1,I1,r1,q1⟩=> ?_) hs
 exact store_ok I1 hN hi hx r1 (fun s2 I2=>⟨_,H1,I2,q1⟩) hf
def tAug (i:Nat) (te:TE) (ti:TIp):TS:=fun D σ H=>∃x,σ[i]?=some (some x)∧te σ H fun y H1=>ti x y H1 fun z H2=>D.nx (σ.set i (some z)) H2
theorem ps_aug {i:Nat} {x:Str} {e:Expr} {te:TE} {op:Operator} {ti:TIp} {pos':Pos} (hN:X.N.Nodup) (hi:X.N[i]?=some x) (hx:Loc X.env.scope x) (he:PE X e te) (ho:PIp X op ti) (hf:X.fn x=true∨X.env.scope.names.lookup x=some .local:=by first|exact .inl rfl|exact .inr rfl|assumption):
  PS X (.AugAssign (.Name x pos') op e pos) (tAug i te ti):=by
 intro pins s σ H D I h
 obtain⟨v,e1,h⟩:=h
 obtain⟨m,hn,hl⟩:=I.loc
 have vis:Vis X.env.scope x:=by rcases hx with k|k;exact .inl k;exact .inr (.inl k)
 obtain⟨u,r,l⟩:=hl i x v hi e1 vis
 refine wpAny_AugAssign_Name ?_
 have go:wpAny (model X.prog X.w) X.A (eval e X.env) (fun w s₂=>wpAny (model X.prog X.w) X.A (inplaceOp op u w) (fun r s₃=>wpAny (model X.prog X.w) X.A (storeName X.env x r) (fun _=>SP X pins D .next) X.xe s₃) X.xe s₂) X.xe s:=by
  refine thn (he pins s σ H _ I h) fun w s1 ⟨y,H1,I1,r1,q1⟩=> ?_
  refine thn (ho pins s1 σ H1 v y u w _ I1 r r1 q1) fun z s2 ⟨zv,H2,I2,r2,q2⟩=> ?_
  exact store_ok I2 hN hi hx r2 (fun s3 I3=>⟨_,H2,I3,q2⟩) hf
 rcases l with ⟨hk,hm⟩|⟨hk,c,hc,hcell⟩
 ·exact wpAny_loadName_local I.ok.kind hk hn hm go
 ·rcases hk with hk|hk
  ·exact wpAny_loadName_cell I.ok.kind hk hc hcell go
  ·rcases hx with k|k
   ·have:X.env.scope.names.lookup x=some .free:=hk
    rw[k] at this;cases this
   ·have:X.env.scope.names.lookup x=some .free:=hk
    rw[k] at this;cases this
def ipI (f:Int→Int→Int):TIp:=fun x y H Q=>∃i j,x= .int i∧y= .int j∧Q (.int (f i j)) H
theorem ip_sub:PIp X .Sub (ipI fun i j=>i-j):=by
 intro pins s σ H x y v u Q I r1 r2 h
 obtain⟨i,j,e1,e2,q⟩:=h
 subst e1;subst e2
 obtain⟨t,rfl⟩:=r1
 obtain⟨t',rfl⟩:=r2
 exact isub_int ⟨.int _,H,I.tok _,⟨_,rfl⟩,q⟩
end
section
variable {X:Cx} {pos:Pos}
def tWhile (c:TT) (tb:TS):TS:=fun D σ H=>∃W:Nat→St→Hp→Prop,(∃m,W m σ H)∧∀m σ H,W m σ H→
 c σ H fun b H1=>if b=true then∃N:St→Hp→Prop,(∀σ' H',N σ' H'→∃m',m'<m∧W m' σ' H')∧tb {D with nx:=N,ct:=N,bk:=D.nx} σ H1 else D.nx σ H1
theorem ps_while {c:Expr} {body:List Stmt} {tc:TT} {tb:TS} (hp:PassesOwn (model X.prog X.w) X.A X.env X.xe) (hc:PT X c tc) (hb:PSs X body tb):PS X (.While c body [] pos) (tWhile tc tb):=by
 intro pins s σ H D I h
 obtain⟨W,⟨m0,w0⟩,turn⟩:=h
 refine wpAny_While (codeAny_whileLoop (fun n s'=>∃σ' H',Inv X pins σ' H' s'∧W n σ' H') ?_ m0 ⟨σ,H,I,w0⟩)
 rintro n s1 ⟨σ1,H1,I1,w1⟩
 refine wpAny_passesOwn hp (thn (hc pins s1 σ1 H1 _ I1 (turn n σ1 H1 w1)) fun b s2 ⟨H2,I2,q2⟩=> ?_)
 cases b with
 |true=>
  obtain⟨N,hN,q2⟩:=q2
  rw[if_pos rfl]
  refine wpAny_passesOwn hp (thn (hb pins s2 σ1 H2 _ I2 q2) fun f s3 q3=> ?_)
  cases f with
  |next=>
   obtain⟨σ3,H3,I3,n3⟩:=q3
   obtain⟨m',hm,w3⟩:=hN σ3 H3 n3
   exact⟨m',hm,σ3,H3,I3,w3⟩
  |cont=>
   obtain⟨σ3,H3,I3,n3⟩:=q3
   obtain⟨m',hm,w3⟩:=hN σ3 H3 n3
   exact⟨m',hm,σ3,H3,I3,w3⟩
  |brk=>exact q3
  |ret v=>exact q3
 |false=>
  rw[if_neg Bool.false_ne_true]
  exact wpAny_execs_nil ⟨σ1,H2,I2,q2⟩
end
structure It where
 go:Nat→Hp→Prop
 yld:Nat→Hp→V→Hp→Prop
 stop:Nat→Hp→Prop
def FpOk (X:Cx) (pins:List (Addr×Obj)) (H:Hp) (b:Addr):Prop:=
 H b=none∧b≠X.env.locals∧b∉X.fs∧(b∈X.ex∨X.s_0.heap.objs.size≤b)∧(∀x c,X.env.cells.lookup x=some c→c≠b)∧∀p∈X.pn++pins,p.1≠b
theorem Inv.fpOk {X:Cx} {pins:List (Addr×Obj)} {σ:St} {H H':Hp} {s:Shared} {b:Addr} (I:Inv X pins σ H s) (hb:s.heap.objs.size≤b) (hn:H' b=none):FpOk X pins H' b:=by
 refine⟨hn,Nat.ne_of_gt (Nat.lt_of_lt_of_le I.lt hb),I.nofs hb,.inr (Nat.le_trans I.sz hb),fun x c e z=> ?_,fun p hp z=> ?_⟩
 ·obtain⟨v,q⟩:=I.cell x c e
  exact absurd (Nat.lt_of_lt_of_le q.lt (by rw[z];exact hb)) (Nat.lt_irrefl _)
 ·exact absurd (Nat.lt_of_lt_of_le (Heap.lt_size (I.pin p hp).1) (by rw[z];exact hb)) (Nat.lt_irrefl _)
structure Turn (P:Program) (w:World) (K:PySem.W.Frag) (tg:Expr) (J:It) (fp:List Addr) (it:Addr) (tn:Nat→Heap→Prop):Prop where
 mem:it∈fp
 obj:∀i h,tn i h→∀b∈fp,∃o,h.get? b=some o∧∀v,o.data≠ .cell v
 keep:∀i h h',tn i h→(∀b∈fp,∀o,h.get? b=some o→h'.get? b=some o)→tn i h'
 item:∀(X:Cx),X.prog=P→X.w=w→X.K=K→X.calm=true→∀(i:Nat) (pins:List (Addr×Obj)) (s:Shared) (σ:St) (H:Hp) (E:Value→Shared→Prop),Inv X pins σ H s→(∀b∈fp,FpOk X pins H b)→tn i s.heap→J.go i H→
  wpAny (model P w) X.A (pyNext (.ref it)) (fun r s1=>∃u,r=some u∧
   wpAny (model P w) X.A (letOwnedTupleGo tg (.ref it) u) (fun _ s2=>∃x H',Inv X pins σ H' s2∧RelV x u∧J.yld i H x H'∧tn (i+1) s2.heap∧∀b∈fp,H' b=none) E s1) E s
 done:∀(X:Cx),X.prog=P→X.w=w→X.K=K→X.calm=true→∀(i:Nat) (pins:List (Addr×Obj)) (s:Shared) (σ:St) (H:Hp) (E:Value→Shared→Prop),Inv X pins σ H s→(∀b∈fp,FpOk X pins H b)→tn i s.heap→J.stop i H→
  wpAny (model P w) X.A (pyNext (.ref it)) (fun r s1=>r=none∧Inv X pins σ H s1) E s
 self:∀(A:Around) (i:Nat) (s:Shared) (Q:Value→Shared→Prop) (E:Value→Shared→Prop),tn i s.heap→Q (.ref it) s→wpAny (model P w) A (pyIter (.ref it)) Q E s
abbrev TI:=St→Hp→(It→Hp→Prop)→Prop
def PIE (X:Cx) (pins:List (Addr×Obj)) (σ:St) (tg:Expr) (R:It→Hp→Prop) (itv:Value) (s2:Shared):Prop:=
 ∃(it:Addr) (fp:List Addr) (tn:Nat→Heap→Prop) (J:It) (H':Hp),itv= .ref it∧Inv X pins σ H' s2∧Turn X.prog X.w X.K tg J fp it tn∧tn 0 s2.heap∧(∀b∈fp,FpOk X pins H' b)∧R J H'
def PI (X:Cx) (tg iter:Expr) (wi:TI):Prop:=
 ∀(pins:List (Addr×Obj)) (s:Shared) (σ:St) (H:Hp) (R:It→Hp→Prop),Inv X pins σ H s→wi σ H R→
  wpAny (model X.prog X.w) X.A (eval iter X.env) (fun v s1=>wpAny (model X.prog X.w) X.A (pyIter v) (PIE X pins σ tg R) X.xe s1) X.xe s
theorem go_of {M:Model} {A:Around} {E:Value→Shared→Prop} {s:Shared} {tg:Expr} {it:Addr} {u:Value} {o:Obj} {n:String} {vs:Array Value} {Q:Unit→Shared→Prop} (ho:s.heap.get? it=some o) (hc:o.cls= .type n) (hd:o.data= .fields vs)
  (hn: ["enumerate","zip","dict_itemiterator","dict_reverseitemiterator","odict_iterator","itertools.zip_longest","itertools.pairwise"].contains n=false) (hQ:Q () s):wpAny M A (letOwnedTupleGo tg (.ref it) u) Q E s:=by
 unfold letOwnedTupleGo
 cases tg<;>first
  |exact wpAny_pure hQ
  |(cases u<;>first
    |exact wpAny_pure hQ
    |(refine wpAny_bind (wpAny_load ho ?_)
      rw[hc,hd]
      show wpAny M A (if (["enumerate","zip","dict_itemiterator","dict_reverseitemiterator","odict_iterator","itertools.zip_longest","itertools.pairwise"].contains n&&vs[0]?==some (rawInt _))=true then _ else _) Q E s
      rw[if_neg (by intro h;rw[hn,Bool.false_and] at h;cases h)]
      exact wpAny_pure hQ))
noncomputable def Itl (K:PySem.W.Frag) (a:Addr):It:=
 ⟨fun i H=>∃xs x,SqL K H a xs∧xs[i]?=some x,fun i H x H'=>H'=H∧∀xs,SqL K H a xs→xs[i]?=some x,fun i H=>∃xs,SqL K H a xs∧xs.length≤i⟩
noncomputable def Itr (lo:Int) (n:Nat):It:=⟨fun i _=>i<n,fun i H x H'=>H'=H∧x= .int (lo+i),fun i _=>n≤i⟩
theorem turn_list {P:Program} {w:World} {K:PySem.W.Frag} {tg:Expr} (a it:Addr):Turn P w K tg (Itl K a) [it] it (fun i h=>h.IsListIter it a i) where
 mem:=by simp
 obj:=fun i h st b hb=>by
  have e:b=it:=by simpa using hb
  subst e
  obtain⟨o,e,c,d⟩:=st
  exact⟨o,e,fun v z=>by rw[d] at z;cases z⟩
 keep:=fun i h h' st k=>st.at fun o e=>k it (by simp) o e
 item:=by
  intro X hP hw hK hc i pins s σ H E I hf st hg
  subst hP hw hK
  obtain⟨xs,x,hq,hx⟩:=hg
  obtain⟨its,rv,p,hz⟩:=I.list hq
  obtain⟨u,hu,ru⟩:=rv.get hx
  obtain⟨f0,f1,f2,f3,f4,f5⟩:=hf it (by simp)
  refine wpAny_pyNext_list_item st p.isList (x:=u) (by simpa using hu) fun h' st' sb=> ?_
  have I1:Inv X pins σ H {s with heap:=h'}:=I.turned (t':=s.toks) (fun b o hb e=>(sb.2 b hb).trans e) f0 f1 f3 f4 f5
  obtain⟨o,e,c,d⟩:=id st'
  exact⟨u,rfl,go_of (s:={s with heap:=h'}) e c d (by decide) ⟨x,H,I1,ru,⟨rfl,fun ys hy=>by rw[I.list_inj hy hq];exact hx⟩,st',fun b hb=>(hf b hb).1⟩⟩
 done:=by
  intro X hP hw hK hc i pins s σ H E I hf st hg
  subst hP hw hK
  obtain⟨xs,hq,hx⟩:=hg
  obtain⟨its,rv,p,hz⟩:=I.list hq
  obtain⟨f0,f1,f2,f3,f4,f5⟩:=hf it (by simp)
  have hl:=rv.length
  exact wpAny_pyNext_list_end (I.ok.hd hc) st p.isList (by simp;omega) fun h' eb=>⟨rfl,I.turned (t':=s.toks) (fun b o hb e=>eb b o hb e) f0 f1 f3 f4 f5⟩
 self:=fun _ _ _ _ _ st h=>wpAny_pyIter_listiter st h
theorem turn_range {P:Program} {w:World} {K:PySem.W.Frag} {tg:Expr} (it:Addr) (lo:Int) (n:Nat):Turn P w K tg (Itr lo n) [it] it (fun i h=>IsRangeIter h it (lo+(i:Nat)*1) ((n:Int)-(i:Nat)) 1) where
 mem:=by simp
 obj:=fun i h st b hb=>by
  have e:b=it:=by simpa using hb
  subst e
  exact⟨_,st,fun v z=>by
   have z':Data.fields _=Data.cell v:=z
   cases z'⟩
 keep:=fun i h h' st k=>k it (by simp) _ st
 item:=by
  intro X hP hw hK hc i pins s σ H E I hf st hg
  subst hP hw hK
  obtain⟨f0,f1,f2,f3,f4,f5⟩:=hf it (by simp)
  have W:=Walks.range (prog:=X.prog) (w:=X.w) (I.ok.hd hc) it lo 1 n
  refine W.item i s _ _ hg st fun v h' tk hv st' kk=> ?_
  obtain⟨t,rfl⟩:=hv
  have I1:Inv X pins σ H {s with heap:=h',toks:=tk}:=I.turned (fun b o hb e=>kk b o (by simpa using hb) e) f0 f1 f3 f4 f5
  refine⟨_,rfl,go_of (s:={s with heap:=h',toks:=tk}) (n:= "range_iterator") st' rfl rfl (by decide) ⟨.int (lo+i),H,I1,⟨t,?_⟩,⟨rfl,rfl⟩,st',fun b hb=>(hf b hb).1⟩⟩
  rw[Int.mul_one]
 done:=by
  intro X hP hw hK hc i pins s σ H E I hf st hg
  subst hP hw hK
  obtain⟨f0,f1,f2,f3,f4,f5⟩:=hf it (by simp)
  exact wpAny_pyNext_range_end (I.ok.hd hc) st (by have:n≤i:=hg;omega) fun h' eb=>⟨rfl,I.turned (t':=s.toks) (fun b o hb e=>eb b o hb e) f0 f1 f3 f4 f5⟩
 self:=fun _ _ _ _ _ st h=>wpAny_pyIter_rangeiter st h
end L2
namespace L2
open PySem PySem.Spec PyProof.Rows
section
variable {X:Cx} {tg:Expr}
def iList (K:PySem.W.Frag) (tl:TE):TI:=fun σ H R=>tl σ H fun x H1=>∃a,x= .ref a∧(∃xs,SqL K H1 a xs)∧R (Itl K a) H1
theorem pi_list {l:Expr} {tl:TE} (hl:PE X l tl):PI X tg l (iList X.K tl):=by
 intro pins s σ H R I h
 refine thn (hl pins s σ H _ I h) fun v s1 ⟨x,H1,I1,r1,q1⟩=> ?_
 obtain⟨a,e,⟨xs,hq⟩,q⟩:=q1
 subst e
 cases r1
 obtain⟨its,rv,p,hz⟩:=I1.list hq
 refine wpAny_pyIter_list p.isList ?_
 refine⟨s1.heap.objs.size,[s1.heap.objs.size],_,_,H1,rfl,I1.kept (t':=s1.toks) fun b o e=>Heap.get?_push_of_some _ e,turn_list a _,⟨_,Heap.get?_push_size _ rfl,rfl,rfl⟩,fun b hb=> ?_,q⟩
 have e:b=s1.heap.objs.size:=by simpa using hb
 subst e
 exact I1.fpOk (Nat.le_refl _) (I1.hok.fresh (Nat.le_refl _))
theorem range_it {pins:List (Addr×Obj)} {σ:St} {H:Hp} {s:Shared} {R:It→Hp→Prop} {E:Value→Shared→Prop} {lo hi:Int} {t u v:Tok} {tk:Nat} (I:Inv X pins σ H s) (h1: -(2^62)≤lo) (h2:lo<2^62) (h3: -(2^62)≤hi) (h4:hi<2^62)
  (q:R (Itr lo (hi-lo).toNat) H):wpAny (model X.prog X.w) X.A (pyIter (.ref s.heap.objs.size)) (PIE X pins σ tg R) E {s with heap:=s.heap.push {cls:= .type "range",data:= .fields #[.int lo t,.int hi u,.int 1 v]},toks:=tk}:=by
 refine wpAny_pyIter_range (IsRange.new ..) (small_one h1 h2 h3 h4) ?_
 have I1:Inv X pins σ H {s with heap:=s.heap.push {cls:= .type "range",data:= .fields #[.int lo t,.int hi u,.int 1 v]},toks:=tk}:=I.kept fun b o e=>Heap.get?_push_of_some _ e
 refine⟨(s.heap.push {cls:= .type "range",data:= .fields #[.int lo t,.int hi u,.int 1 v]}).objs.size,[(s.heap.push {cls:= .type "range",data:= .fields #[.int lo t,.int hi u,.int 1 v]}).objs.size],_,_,H,rfl,
  I1.kept (t':=tk) fun b o e=>Heap.get?_push_of_some _ e,turn_range _ lo (hi-lo).toNat,?_,fun b hb=> ?_,q⟩
 ·have e1:lo+((0:Nat):Int)*1=lo:=by simp
  have e2:(((hi-lo).toNat:Nat):Int)-((0:Nat):Int)=Builtin.Range.rangeSize lo hi 1:=by rw[rangeSize_one];split<;>omega
  show IsRangeIter _ _ (lo+((0:Nat):Int)*1) ((((hi-lo).toNat:Nat):Int)-((0:Nat):Int)) 1
  rw[e1,e2]
  exact Heap.get?_push_size _ rfl
 ·have e:b=(s.heap.push {cls:= .type "range",data:= .fields #[.int lo t,.int hi u,.int 1 v]}).objs.size:=by simpa using hb
  subst e
  exact I1.fpOk (Nat.le_refl _) (I1.hok.fresh (Nat.le_refl _))
def iRng1 (ta:TA):TI:=fun σ H R=>ta σ H fun vs H1=>∃j:Int,vs= [.int j]∧-(2^62)≤j∧j<2^62∧R (Itr 0 j.toNat) H1
theorem pi_range1 {a:Expr} {ta:TA} {p pos:Pos} (hg:Gl X "range") (hm:X.mg "range" =none) (ha:PA X [a] ta) (hs:starEach [a] X.env= [(false,eval a X.env)]:=by rfl):PI X tg (.Call (.Name "range" p) [a] [] pos) (iRng1 ta):=by
 intro pins s σ H R I h
 refine Call_ (ld_blt I hg hm boot_range (PyProof.Rows.callWith_type1 (thn (ha pos pins s σ H _ I h) fun us s1 ⟨vs,H1,I1,r1,q1⟩=> ?_) hs rfl))
 obtain⟨j,e,q1,q2,q⟩:=q1
 subst e
 cases r1 with
 |cons r rr=>
  cases rr
  obtain⟨t,rfl⟩:=r
  exact call_range_1 (range_it I1 (by omega) (by omega) q1 q2 (by simpa using q))
def tFor (wi:TI) (g:TG) (tb:TS):TS:=fun D σ H=>wi σ H fun J H1=>∃W:Nat→Nat→St→Hp→Prop,(∃m,W 0 m σ H1)∧∀i m σ H,W i m σ H→
 (J.stop i H∧D.nx σ H)∨(J.go i H∧∃N:St→Hp→Prop,(∀σ' H',N σ' H'→∃m',m'<m∧W (i+1) m' σ' H')∧∀x H',J.yld i H x H'→g x σ H' fun σ2 H2=>tb {D with nx:=N,ct:=N,bk:=D.nx} σ2 H2)
noncomputable def pinsAt (fp:List Addr) (h:Heap):List (Addr×Obj):=fp.filterMap fun b=>(h.get? b).map fun o=>(b,o)
theorem mem_pinsAt {fp:List Addr} {h:Heap} {b:Addr} {o:Obj} (hb:b∈fp) (e:h.get? b=some o):(b,o)∈pinsAt fp h:=List.mem_filterMap.mpr ⟨b,hb,by rw[e];rfl⟩
theorem of_pinsAt {fp:List Addr} {h:Heap} {p:Addr×Obj} (hp:p∈pinsAt fp h):p.1∈fp∧h.get? p.1=some p.2:=by
 obtain⟨b,hb,e⟩:=List.mem_filterMap.mp hp
 cases q:h.get? b with
 |none=>rw[q] at e;cases e
 |some o=>
  rw[q] at e
  have e':(b,o)=p:=Option.some.inj e
  subst e'
  exact⟨hb,q⟩
theorem Inv.pinned {pins:List (Addr×Obj)} {σ:St} {H:Hp} {s:Shared} {fp:List Addr} (I:Inv X pins σ H s) (hf:∀b∈fp,FpOk X pins H b) (ho:∀b∈fp,∃o,s.heap.get? b=some o∧∀v,o.data≠ .cell v):Inv X (pins++pinsAt fp s.heap) σ H s:=
 I.pins_of fun p hp=>(List.mem_append.mp hp).elim (fun z=>I.pin p (List.mem_append_right _ z)) fun z=>by
  obtain⟨hb,e⟩:=of_pinsAt z
  obtain⟨f0,f1,f2,_⟩:=hf p.1 hb
  obtain⟨o,e',d⟩:=ho p.1 hb
  rw[e] at e';cases e'
  exact⟨e,f0,f1,f2,d⟩
theorem Inv.unpinned {pins pl:List (Addr×Obj)} {σ:St} {H:Hp} {s:Shared} (I:Inv X (pins++pl) σ H s):Inv X pins σ H s:=I.pins_of fun p hp=>I.pin p (List.mem_append_right _ (List.mem_append_left _ hp))
theorem ps_for {iter:Expr} {body:List Stmt} {wi:TI} {g:TG} {tb:TS} {pos:Pos} (hp:PassesOwn (model X.prog X.w) X.A X.env X.xe) (hc:X.calm=true) (hi:PI X tg iter wi) (hg:PG X tg g) (hb:PSs X body tb)
  (hs:∀x,foldedSetIterable iter X.env x=pure x:=by intro _;rfl):PS X (.For tg iter body [] pos) (tFor wi g tb):=by
 intro pins s σ H D I h
 refine wpAny_For (thn (hi pins s σ H _ I h) fun v s1 h1=>thn h1 fun itv s2 h2=> ?_) hs
 obtain⟨it,fp,tn,J,H2,e,I2,T,st2,f2,W,⟨m0,w0⟩,turn⟩:=h2
 subst e
 have stat:∀{H':Hp},(∀b∈fp,H' b=none)→∀b∈fp,FpOk X pins H' b:=fun hn b hb=>⟨hn b hb,(f2 b hb).2⟩
 refine codeAny_forLoop_any (fun n s'=>∃i σ' H',Inv X pins σ' H' s'∧tn i s'.heap∧(∀b∈fp,H' b=none)∧W i n σ' H') ?_ m0 ⟨0,σ,H2,I2,st2,fun b hb=>(f2 b hb).1,w0⟩
 rintro n s3 ⟨i,σ3,H3,I3,st3,fr3,w3⟩
 rcases turn i n σ3 H3 w3 with ⟨stop,qn⟩|⟨go,N,hN,step⟩
 ·refine wpAny_passesOwn hp (thn (T.done X rfl rfl rfl hc i pins s3 σ3 H3 X.xe I3 (stat fr3) st3 stop) fun r s4 ⟨hr,I4⟩=> ?_)
  subst hr
  exact wpAny_execs_nil ⟨σ3,H3,I4,qn⟩
 ·refine wpAny_passesOwn hp (thn (T.item X rfl rfl rfl hc i pins s3 σ3 H3 X.xe I3 (stat fr3) st3 go) fun r s4 ⟨u,hr,h4⟩=> ?_)
  subst hr
  refine wpAny_passesOwn hp (thn h4 fun _ s5 ⟨x,H5,I5,r5,y5,st5,fr5⟩=> ?_)
  have I5':=I5.pinned (stat fr5) (T.obj _ _ st5)
  refine wpAny_passesOwn hp (thn (hg _ s5 σ3 H5 x u _ I5' r5 (step x H5 y5)) fun _ s6 ⟨σ6,H6,I6,q6⟩=> ?_)
  refine wpAny_passesOwn hp (thn (hb _ s6 σ6 H6 _ I6 q6) fun f s7 q7=> ?_)
  have again:∀{σ7:St} {H7:Hp},Inv X (pins++pinsAt fp s5.heap) σ7 H7 s7→N σ7 H7→∃m,m<n∧∃i σ' H',Inv X pins σ' H' s7∧tn i s7.heap∧(∀b∈fp,H' b=none)∧W i m σ' H':=fun {σ7 H7} I7 n7=>by
   obtain⟨m',hm,w7⟩:=hN σ7 H7 n7
   refine⟨m',hm,i+1,σ7,H7,I7.unpinned,T.keep _ _ _ st5 fun b hb o e=>(I7.pin (b,o) (List.mem_append_right _ (List.mem_append_right _ (mem_pinsAt hb e)))).1,fun b hb=> ?_,w7⟩
   obtain⟨o,e,d⟩:=T.obj _ _ st5 b hb
   exact(I7.pin (b,o) (List.mem_append_right _ (List.mem_append_right _ (mem_pinsAt hb e)))).2.1
  cases f with
  |next=>obtain⟨σ7,H7,I7,n7⟩:=q7;exact again I7 n7
  |cont=>obtain⟨σ7,H7,I7,n7⟩:=q7;exact again I7 n7
  |brk=>obtain⟨σ7,H7,I7,q7⟩:=q7;exact⟨σ7,H7,I7.unpinned,q7⟩
  |ret v=>obtain⟨x7,σ7,H7,I7,r7,q7⟩:=q7;exact⟨x7,σ7,H7,I7.unpinned,r7,q7⟩
end
theorem for_list {K:PySem.W.Frag} {a:Addr} {xs:List V} {g:TG} {tb:TS} {D:Ends} {σ:St} {H:Hp} (Pv:Nat→St→Hp→Prop) (h0:Pv 0 σ H) (hl:∀i σ H,i≤xs.length→Pv i σ H→SqL K H a xs)
  (hs:∀i x σ H,xs[i]?=some x→Pv i σ H→g x σ H fun σ2 H2=>tb {D with nx:=Pv (i+1),ct:=Pv (i+1),bk:=D.nx} σ2 H2) (hd:∀σ H,Pv xs.length σ H→D.nx σ H):
  ∃W:Nat→Nat→St→Hp→Prop,(∃m,W 0 m σ H)∧∀i m σ H,W i m σ H→
   ((Itl K a).stop i H∧D.nx σ H)∨((Itl K a).go i H∧∃N:St→Hp→Prop,(∀σ' H',N σ' H'→∃m',m'<m∧W (i+1) m' σ' H')∧∀x H',(Itl K a).yld i H x H'→g x σ H' fun σ2 H2=>tb {D with nx:=N,ct:=N,bk:=D.nx} σ2 H2):=by
 refine⟨fun i m σ H=>m=xs.length-i∧i≤xs.length∧Pv i σ H,⟨xs.length,by simp,Nat.zero_le _,h0⟩,?_⟩
 rintro i m σ H ⟨rfl,hi,p⟩
 have q:=hl i σ H hi p
 by_cases hlt:i<xs.length
 ·refine .inr ⟨⟨xs,xs[i],q,by simp [hlt]⟩,Pv (i+1),fun σ' H' p'=>⟨xs.length-(i+1),by omega,rfl,hlt,p'⟩,fun x H' y=> ?_⟩
  obtain⟨e,y⟩:=y
  subst e
  exact hs i x σ _ (y xs q) p
 ·have e:i=xs.length:=by omega
  subst e
  exact .inl ⟨⟨xs,q,Nat.le_refl _⟩,hd σ H p⟩
theorem for_range {lo:Int} {n:Nat} {g:TG} {tb:TS} {D:Ends} {σ:St} {H:Hp} (Pv:Nat→St→Hp→Prop) (h0:Pv 0 σ H)
  (hs:∀i σ H,i<n→Pv i σ H→g (.int (lo+i)) σ H fun σ2 H2=>tb {D with nx:=Pv (i+1),ct:=Pv (i+1),bk:=D.nx} σ2 H2) (hd:∀σ H,Pv n σ H→D.nx σ H):
  ∃W:Nat→Nat→St→Hp→Prop,(∃m,W 0 m σ H)∧∀i m σ H,W i m σ H→
   ((Itr lo n).stop i H∧D.nx σ H)∨((Itr lo n).go i H∧∃N:St→Hp→Prop,(∀σ' H',N σ' H'→∃m',m'<m∧W (i+1) m' σ' H')∧∀x H',(Itr lo n).yld i H x H'→g x σ H' fun σ2 H2=>tb {D with nx:=N,ct:=N,bk:=D.nx} σ2 H2):=by
 refine⟨fun i m σ H=>m=n-i∧i≤n∧Pv i σ H,⟨n,by simp,Nat.zero_le _,h0⟩,?_⟩
 rintro i m σ H ⟨rfl,hi,p⟩
 by_cases hlt:i<n
 ·refine .inr ⟨hlt,Pv (i+1),fun σ' H' p'=>⟨n-(i+1),by omega,rfl,hlt,p'⟩,fun x H' y=> ?_⟩
  obtain⟨e,y⟩:=y
  subst e y
  exact hs i σ _ hlt p
 ·have e:i=n:=by omega
  subst e
  exact .inl ⟨Nat.le_refl _,hd σ H p⟩
end L2
namespace L2
open PySem PySem.Spec PyProof.Rows
abbrev R2:=V→V→Hp→VK→Prop
def OpR (X:Cx) (f:Value→Value→Sem Value) (r:R2):Prop:=
 ∀(pins:List (Addr×Obj)) (s:Shared) (σ:St) (H:Hp) (x y:V) (v u:Value) (Q:VK),Inv X pins σ H s→RelV x v→RelV y u→r x y H Q→
  wpAny (model X.prog X.w) X.A (f v u) (EP X pins σ Q) X.xe s
def CallR (X:Cx) (f:Value) (r:List V→Hp→VK→Prop):Prop:=
 ∀(pins:List (Addr×Obj)) (s:Shared) (σ:St) (H:Hp) (xs:List V) (us:List Value) (Q:VK),Inv X pins σ H s→Vals xs us→r xs H Q→
  wpAny (model X.prog X.w) X.A (call f us) (EP X pins σ Q) X.xe s
def tOp (r:R2) (ta tb:TE):TE:=fun σ H Q=>ta σ H fun x H1=>tb σ H1 fun y H2=>r x y H2 Q
def rI (C:Int→Int→Prop) (g:Int→Int→V):R2:=fun x y H Q=>∃i j,x= .int i∧y= .int j∧C i j∧Q (g i j) H
def rI0 (g:Int→Int→V):R2:=fun x y H Q=>∃i j,x= .int i∧y= .int j∧Q (g i j) H
section
variable {X:Cx} {a b c:Expr} {ta tb tc:TE} {pos:Pos}
theorem binT (ha:PE X a ta) (hb:PE X b tb) {pins:List (Addr×Obj)} {s:Shared} {σ:St} {H:Hp} {R:V→V→Hp→Prop} (I:Inv X pins σ H s)
  (h:ta σ H fun x H1=>tb σ H1 fun y H2=>R x y H2) {Q:Value→Shared→Prop} {f:Value→Value→Sem Value}
  (hf:∀v u s2 x y H2,Inv X pins σ H2 s2→RelV x v→RelV y u→R x y H2→wpAny (model X.prog X.w) X.A (f v u) Q X.xe s2):
  wpAny (model X.prog X.w) X.A (eval a X.env) (fun v s₁=>wpAny (model X.prog X.w) X.A (eval b X.env) (fun u s₂=>wpAny (model X.prog X.w) X.A (f v u) Q X.xe s₂) X.xe s₁) X.xe s:=by
 refine thn (ha pins s σ H _ I h) fun v s1 ⟨x,H1,I1,r1,q1⟩=> ?_
 refine thn (hb pins s1 σ H1 _ I1 q1) fun u s2 ⟨y,H2,I2,r2,q2⟩=> ?_
 exact hf v u s2 x y H2 I2 r1 r2 q2
theorem pe_op {op:Operator} {r:R2} (ho:OpR X (binaryOp op) r) (ha:PE X a ta) (hb:PE X b tb):PE X (.BinOp a op b pos) (tOp r ta tb):=by
 intro pins s σ H Q I h
 exact wpAny_BinOp (binT ha hb I h fun v u s2 x y H2 I2 rx ry q=>ho pins s2 σ H2 x y v u Q I2 rx ry q)
theorem opI {f:Value→Value→Sem Value} {C:Int→Int→Prop} {g:Int→Int→Int}
  (rule:∀(i j:Int) (t u:Tok) (s:Shared) (Q:Value→Shared→Prop) (E:Value→Shared→Prop),C i j→Q (.int (g i j) s.toks) {s with toks:=s.toks+1}→wpAny (model X.prog X.w) X.A (f (.int i t) (.int j u)) Q E s):
  OpR X f (rI C fun i j=> .int (g i j)):=by
 intro pins s σ H x y v u Q I rx ry h
 obtain⟨i,j,rfl,rfl,hc,q⟩:=h
 obtain⟨t,rfl⟩:=rx
 obtain⟨t',rfl⟩:=ry
 exact rule i j t t' s _ _ hc ⟨.int (g i j),H,I.tok _,⟨_,rfl⟩,q⟩
theorem opI0 {f:Value→Value→Sem Value} {g:Int→Int→Int}
  (rule:∀(i j:Int) (t u:Tok) (s:Shared) (Q:Value→Shared→Prop) (E:Value→Shared→Prop),Q (.int (g i j) s.toks) {s with toks:=s.toks+1}→wpAny (model X.prog X.w) X.A (f (.int i t) (.int j u)) Q E s):
  OpR X f (rI0 fun i j=> .int (g i j)):=by
 intro pins s σ H x y v u Q I rx ry h
 obtain⟨i,j,rfl,rfl,q⟩:=h
 obtain⟨t,rfl⟩:=rx
 obtain⟨t',rfl⟩:=ry
 exact rule i j t t' s _ _ ⟨.int (g i j),H,I.tok _,⟨_,rfl⟩,q⟩
theorem opB0 {f:Value→Value→Sem Value} {g:Int→Int→Bool}
  (rule:∀(i j:Int) (t u:Tok) (s:Shared) (Q:Value→Shared→Prop) (E:Value→Shared→Prop),Q (.bool (g i j)) s→wpAny (model X.prog X.w) X.A (f (.int i t) (.int j u)) Q E s):
  OpR X f (rI0 fun i j=> .bl (g i j)):=by
 intro pins s σ H x y v u Q I rx ry h
 obtain⟨i,j,rfl,rfl,q⟩:=h
 obtain⟨t,rfl⟩:=rx
 obtain⟨t',rfl⟩:=ry
 exact rule i j t t' s _ _ ⟨.bl (g i j),H,I,rfl,q⟩
def CDiv (i j:Int):Prop:=0<j∧j<1073741824
def CMul (i j:Int):Prop:=(-(2^64)<i∧i<2^64)∨(-(2^64)<j∧j<2^64)
theorem CMul.ok {i j:Int} (h:CMul i j):IntMulOk i j:=by
 rcases h with ⟨h1,h2⟩|⟨h1,h2⟩
 ·exact .of_left (intBits_le_64 h1 h2)
 ·exact .of_right (intBits_le_64 h1 h2)
theorem op_add:OpR X (binaryOp .Add) (rI0 fun i j=> .int (i+j)):=opI0 fun _ _ _ _ _ _ _ q=>add_int q
theorem op_sub:OpR X (binaryOp .Sub) (rI0 fun i j=> .int (i-j)):=opI0 fun _ _ _ _ _ _ _ q=>sub_int q
theorem op_mul:OpR X (binaryOp .Mult) (rI CMul fun i j=> .int (i*j)):=opI fun _ _ _ _ _ _ _ hc q=>mul_int q hc.ok
theorem op_fdiv:OpR X (binaryOp .FloorDiv) (rI CDiv fun i j=> .int (i/j)):=opI fun i j _ _ _ _ _ hc q=>by
 have h1:(0:Int)<j:=hc.1
 have h2:j<1073741824:=hc.2
 exact floordiv_int (by omega) (by rw[Int.fdiv_eq_ediv_of_nonneg i (by omega)];exact q) (.inl (PyProof.noPylong_small (by omega)))
end
noncomputable def scal:V→V→Bool
 | .non,.non=>true| .non,.int _=>true| .int _,.non=>true| .non,.bl _=>true| .bl _,.non=>true| .non,.str _=>true| .str _,.non=>true
 | .int _,.int _=>true| .bl _,.bl _=>true| .str _,.str _=>true| .byt _,.byt _=>true
 | .int _,.str _=>true| .str _,.int _=>true| .bl _,.str _=>true| .str _,.bl _=>true
 |_,_=>false
def rEq:R2:=fun x y H Q=>scal x y=true∧Q (.bl (decide (x=y))) H
theorem dec_int {i j:Int}:decide (V.int i=V.int j)=(i==j):=by
 rw[Bool.eq_iff_iff]
 simp
theorem dec_bl {i j:Bool}:decide (V.bl i=V.bl j)=(i==j):=by
 rw[Bool.eq_iff_iff]
 simp
theorem dec_str {i j:Str}:decide (V.str i=V.str j)=(i==j):=by
 rw[Bool.eq_iff_iff]
 simp
theorem dec_byt {i j:Array UInt8}:decide (V.byt i=V.byt j)=(i.toList==j.toList):=by
 rw[Bool.eq_iff_iff]
 cases i
 cases j
 simp
section
variable {X:Cx} {a b c:Expr} {ta tb tc:TE} {pos:Pos}
theorem fin_bl {pins:List (Addr×Obj)} {σ:St} {H:Hp} {s:Shared} {Q:VK} {k k':Bool} (I:Inv X pins σ H s) (q:Q (.bl k) H) (e:k=k'):EP X pins σ Q (.bool k') s:=by
 subst e
 exact⟨.bl k,H,I,rfl,q⟩
theorem op_eq:OpR X (compareOp .Eq) rEq:=by
 intro pins s σ H x y v u Q I rx ry h
 obtain⟨hs,q⟩:=h
 cases x with
 |non=>
  cases rx
  cases y with
  |non=>cases ry;exact PySem.EqNone.eq_none_none (fin_bl I q (by simp))
  |bl j=>cases ry;exact PySem.EqNone.eq_none_bool (fin_bl I q (by simp))
  |int j=>obtain⟨t',rfl⟩:=ry;exact PySem.EqNone.eq_none_int (fin_bl I q (by simp))
  |str j=>obtain⟨t',rfl⟩:=ry;exact PySem.EqNone.eq_none_str (fin_bl I q (by simp))
  |_=>exact absurd (show false=true from hs) Bool.false_ne_true
 |bl i=>
  cases rx
  cases y with
  |non=>cases ry;exact PySem.EqNone.eq_bool_none (fin_bl I q (by simp))
  |bl j=>cases ry;exact eq_bool (fin_bl I q dec_bl)
  |str j=>obtain⟨t',rfl⟩:=ry;exact PySem.EqMixed.eq_bool_str (fin_bl I q (by simp))
  |_=>exact absurd (show false=true from hs) Bool.false_ne_true
 |int i=>
  obtain⟨t,rfl⟩:=rx
  cases y with
  |non=>cases ry;exact PySem.EqNone.eq_int_none (fin_bl I q (by simp))
  |int j=>obtain⟨t',rfl⟩:=ry;exact eq_int (fin_bl I q dec_int)
  |str j=>obtain⟨t',rfl⟩:=ry;exact PySem.EqMixed.eq_int_str (fin_bl I q (by simp))
  |_=>exact absurd (show false=true from hs) Bool.false_ne_true
 |str i=>
  obtain⟨t,rfl⟩:=rx
  cases y with
  |non=>cases ry;exact PySem.EqNone.eq_str_none (fin_bl I q (by simp))
  |bl j=>cases ry;exact PySem.EqMixed.eq_str_bool (fin_bl I q (by simp))
  |int j=>obtain⟨t',rfl⟩:=ry;exact PySem.EqMixed.eq_str_int (fin_bl I q (by simp))
  |str j=>obtain⟨t',rfl⟩:=ry;exact eq_str (fin_bl I q dec_str)
  |_=>exact absurd (show false=true from hs) Bool.false_ne_true
 |byt i=>
  obtain⟨t,rfl⟩:=rx
  cases y with
  |byt j=>obtain⟨t',rfl⟩:=ry;exact PySem.W.eq_bytes (fin_bl I q dec_byt)
  |_=>exact absurd (show false=true from hs) Bool.false_ne_true
 |_=>cases y<;>exact absurd (show false=true from hs) Bool.false_ne_true
theorem op_lt:OpR X (compareOp .Lt) (rI0 fun i j=> .bl (decide (i<j))):=opB0 fun _ _ _ _ _ _ _ q=>lt_int q
theorem op_le:OpR X (compareOp .LtE) (rI0 fun i j=> .bl (decide (i≤j))):=opB0 fun _ _ _ _ _ _ _ q=>le_int q
theorem op_gt:OpR X (compareOp .Gt) (rI0 fun i j=> .bl (decide (j<i))):=opB0 fun _ _ _ _ _ _ _ q=>gt_int q
theorem op_ge:OpR X (compareOp .GtE) (rI0 fun i j=> .bl (decide (j≤i))):=opB0 fun _ _ _ _ _ _ _ q=>ge_int q
theorem op_isN:OpR X (compareOp .Is) (fun x y H Q=>y= .non∧Q (.bl (decide (x= .non))) H):=by
 intro pins s σ H x y v u Q I rx ry h
 obtain⟨rfl,q⟩:=h
 cases ry
 refine is_none_gen (fin_bl I q ?_)
 cases x<;>first
  |(cases rx;rfl)
  |(obtain⟨t,rfl⟩:=rx;rfl)
theorem op_notN:OpR X (compareOp .IsNot) (fun x y H Q=>y= .non∧Q (.bl (!decide (x= .non))) H):=by
 intro pins s σ H x y v u Q I rx ry h
 obtain⟨rfl,q⟩:=h
 cases ry
 refine isnot_none_gen (fin_bl I q ?_)
 cases x<;>first
  |(cases rx;rfl)
  |(obtain⟨t,rfl⟩:=rx;rfl)
theorem nomark (b:Expr) {op:CmpOp} (h:op≠ .In:=by decide) (h2:op≠ .NotIn:=by decide):behindInMarks op b=false:=by
 have e1:(op==CmpOp.In)=false:=by cases op<;>first|rfl|exact absurd rfl h
 have e2:(op==CmpOp.NotIn)=false:=by cases op<;>first|rfl|exact absurd rfl h2
 cases b<;>simp [behindInMarks,e1,e2]
theorem pe_cmpR {op:CmpOp} {r:R2} (ho:OpR X (compareOp op) r) (ha:PE X a ta) (hb:PE X b tb) (hm:behindInMarks op b=false):PE X (.Compare a [op] [b] pos) (tOp r ta tb):=by
 intro pins s σ H Q I h
 exact wpAny_Compare1 (binT ha hb I h fun v u s2 x y H2 I2 rx ry q=>ho pins s2 σ H2 x y v u Q I2 rx ry q) hm
def tTest (t:TE):TT:=fun σ H Q=>t σ H fun x H'=>∃k,x= .bl k∧Q k H'
theorem pt_cmpR {op:CmpOp} {r:R2} (ho:OpR X (compareOp op) r) (ha:PE X a ta) (hb:PE X b tb) (hm:behindInMarks op b=false):PT X (.Compare a [op] [b] pos) (tTest (tOp r ta tb)):=by
 intro pins s σ H Q I h
 refine wpAny_isTrue_Compare1 (thn (ha pins s σ H _ I h) fun v s1 ⟨x,H1,I1,r1,q1⟩=>thn (hb pins s1 σ H1 _ I1 q1) fun u s2 ⟨y,H2,I2,r2,q2⟩=>
  thn (ho pins s2 σ H2 x y v u _ I2 r1 r2 q2) fun c s3 ⟨z,H3,I3,r3,k,e,q3⟩=> ?_) hm
 subst e
 cases r3
 exact wpAny_truthy_bool ⟨H3,I3,q3⟩
def tChain (r r':R2) (ta tb tc:TE):TE:=fun σ H Q=>ta σ H fun x H1=>tb σ H1 fun y H2=>r x y H2 fun z H3=>∃k,z= .bl k∧
 (if k=true then tc σ H3 fun w' H4=>r' y w' H4 Q else Q (.bl false) H3)
theorem pt_chain {op op':CmpOp} {r r':R2} (ho:OpR X (compareOp op) r) (ho':OpR X (compareOp op') r') (ha:PE X a ta) (hb:PE X b tb) (hc:PE X c tc)
  (hm:lastMarks [op,op'] [b,c]=false:=by with_unfolding_all rfl):PT X (.Compare a [op,op'] [b,c] pos) (tTest (tChain r r' ta tb tc)):=by
 intro pins s σ H Q I h
 refine isTrue_chain (thn (ha pins s σ H _ I h) fun v s1 ⟨x,H1,I1,r1,q1⟩=>test_link (thn (hb pins s1 σ H1 _ I1 q1) fun u s2 ⟨y,H2,I2,r2,q2⟩=>
  thn (ho pins s2 σ H2 x y v u _ I2 r1 r2 q2) fun d s3 ⟨z,H3,I3,r3,k,e,q3⟩=> ?_)) hm
 subst e
 cases r3
 refine wpAny_truthy_bool ?_
 cases k with
 |false=>
  obtain⟨k',e',q'⟩:=q3
  cases e'
  exact ite_ff ⟨H3,I3,q'⟩
 |true=>
  refine ite_tt (test_last (thn (hc pins s3 σ H3 _ I3 q3) fun w' s4 ⟨z',H4,I4,r4,q4⟩=>thn (ho' pins s4 σ H4 y z' u w' _ I4 r2 r4 q4) fun d' s5 ⟨z2,H5,I5,r5,k2,e2,q5⟩=> ?_))
  subst e2
  cases r5
  exact wpAny_truthy_bool ⟨H5,I5,q5⟩
theorem line63:(sizeLine:Nat)<2^63:=by rw[sizeLine_eq];decide
theorem vals1 {x:V} {us:List Value} (r:Vals [x] us):∃u,us= [u]∧RelV x u:=by
 cases r with
 |cons r1 r2=>cases r2;exact⟨_,rfl,r1⟩
theorem vals2 {x y:V} {us:List Value} (r:Vals [x,y] us):∃u w',us= [u,w']∧RelV x u∧RelV y w':=by
 cases r with
 |cons r1 r2=>
  cases r2 with
  |cons r3 r4=>cases r4;exact⟨_,_,rfl,r1,r3⟩
theorem call_min2 (hc:X.calm=true):CallR X (.builtin "min") (fun xs H Q=>∃i j,xs= [.int i,.int j]∧Q (.int (if j<i then j else i)) H):=by
 intro pins s σ H xs us Q I r h
 obtain⟨i,j,rfl,q⟩:=h
 obtain⟨u,w',rfl,⟨t,rfl⟩,⟨t',rfl⟩⟩:=vals2 r
 refine min_two_ints (I.ok.hd hc) fun h' tk k=>⟨_,H,I.kept k,?_,q⟩
 by_cases hj:j<i
 ·rw[if_pos hj,if_pos hj];exact⟨_,rfl⟩
 ·rw[if_neg hj,if_neg hj];exact⟨_,rfl⟩
theorem call_divmod:CallR X (.builtin "divmod") (fun xs H Q=>∃i j,xs= [.int i,.int j]∧CDiv i j∧∀p,H p=none→Q (.ref p) (upd H p (.tup [.int (i/j),.int (i%j)]))):=by
 intro pins s σ H xs us Q I r h
 obtain⟨i,j,rfl,⟨h1,h2⟩,q⟩:=h
 obtain⟨u,w',rfl,⟨t,rfl⟩,⟨t',rfl⟩⟩:=vals2 r
 refine divmod_int (by omega) ?_ (.inl (PyProof.noPylong_small (by omega)))
 rw[Int.fdiv_eq_ediv_of_nonneg i (by omega),Int.fmod_eq_emod_of_nonneg i (by omega)]
 have hn:H s.heap.objs.size=none:=I.hok.fresh (Nat.le_refl _)
 refine⟨.ref s.heap.objs.size,_,?_,rfl,q _ hn⟩
 refine I.laid (fun b o e=>Heap.get?_push_of_some _ e) (Nat.le_refl _) ⟨by simp only[List.length_cons,List.length_nil];rw[sizeLine_eq];decide,[.int (i/j) s.toks,.int (i%j) (s.toks+1)],.cons ⟨_,rfl⟩ (.cons ⟨_,rfl⟩ .nil),?_⟩
 exact⟨_,Heap.get?_push_size s.heap rfl,rfl,0,rfl⟩
end
end L2
namespace L2
open PySem PySem.Spec PyProof.Rows
structure ObjM (h:Heap) (x dx C:Addr) (mA:Str→Option Value):Prop where
 obj:h.get? x=some (PySem.W.instObj C dx)
 ns:h.Ns1 dx mA
 ne:dx≠x
theorem lookIn_ns {h:Heap} {dx:Addr} {mA:Str→Option Value} (n:h.Ns1 dx mA):∃od,h.get? dx=some od∧∀name,PySem.W.lookIn name od=some (mA name):=by
 obtain⟨o,es,ep,ho,hd,hk,_,hm⟩:=n
 refine⟨o,ho,fun name=> ?_⟩
 have e:=hm name
 unfold nsFind findBy at e
 rw[←Array.find?_toList] at e
 unfold PySem.W.lookIn
 rw[hd]
 dsimp only
 split
 ·rename_i y q
  rw[q] at e
  exact congrArg some e
 ·rename_i q
  rw[q] at e
  have a:es.toList.any (·.refKey)=false:=by
   rw[List.any_eq_false]
   intro y hy
   obtain⟨z,t,hkey⟩:=hk y (Array.mem_toList_iff.mp hy)
   simp [DictEntry.refKey,hkey]
  have a':¬es.toList.any (·.refKey)=true:=by rw[a];exact Bool.false_ne_true
  rw[if_neg a']
  exact congrArg some e
theorem ObjM.look {h:Heap} {x dx C:Addr} {mA:Str→Option Value} (I:ObjM h x dx C mA):∃od,PySem.W.InstAt h x (PySem.W.instObj C dx) C (some od)∧∀name,PySem.W.lookIn name od=some (mA name):=
 let ⟨od,ho,hl⟩:=lookIn_ns I.ns
 ⟨od,⟨I.obj,rfl,rfl,ho⟩,hl⟩
section
variable {prog:Program} {w:World} {A:Around} {E:Value→Shared→Prop} {s:Shared} {K:PySem.W.Frag} {x dx C f:Addr} {mA:Str→Option Value} {name:Str} {v:Value}
theorem get_map {expr:Bool} {Q:Value→Shared→Prop} (X:K.In s.heap) (I:ObjM s.heap x dx C mA) (hg:PySem.W.plainGet K C name=true) (hh:PySem.W.hasDictIn K C=true)
  (ha:PySem.W.findIn K (.ref C) name=some none) (hv:mA name=some v) (hv':PySem.W.handedIn v=true) (h:Q v {s with toks:=s.toks+1}):
  wpAny (model prog w) A (getAttr (.ref x) name expr) Q E s:=by
 obtain⟨od,J,hl⟩:=I.look
 exact PySem.W.get_value X J (PySem.W.plainGet_of hg).1 (PySem.W.findObj_own hh ha rfl (by rw[hl,hv])) hv' h
theorem get_meth {pl:Sem Bool} {Q:Value×List Value→Shared→Prop} (X:K.In s.heap) (I:ObjM s.heap x dx C mA) (hg:PySem.W.plainGet K C name=true)
  (hf:PySem.W.findIn K (.ref C) name=some (some (.ref f))) (ht:PySem.W.isFn K (.ref f)=true) (hv:mA name=none) (h:Q (.ref f,[.ref x]) s):
  wpAny (model prog w) A (getMethod (.ref x) name pl) Q E s:=by
 obtain⟨od,J,hl⟩:=I.look
 exact PySem.W.method_fn X J (PySem.W.plainGet_of hg).1 (PySem.W.plainGet_of hg).2 hf (beq_iff_eq.mp ht) (by show (PySem.W.lookIn name od).map (·.isSome)=some false;rw[hl,hv];rfl) h
theorem set_map {ns:List Str} {Q:Unit→Shared→Prop} (X:K.In s.heap) (I:ObjM s.heap x dx C mA)
  (hs:PySem.W.findIn K (.ref C) "__setattr__" =some (some (.builtin "object.__setattr__"))) (hp:PySem.W.plainOver K C=true) (ht:PySem.W.takerIn K C name=some none) (hh:PySem.W.hasDictIn K C=true)
  (hw:PySem.Within mA ns) (hsz:ns.length≤sizeLine)
  (h:∀h',ObjM h' x dx C (fun y=>if y=name then some v else mA y)→Heap.SameBut dx s.heap h'→Q () {s with heap:=h',toks:=s.toks+2}):
  wpAny (model prog w) A (setAttr (.ref x) name v) Q E s:=by
 obtain⟨od,J,hl⟩:=I.look
 refine PySem.W.set_plain X J hs (PySem.W.osa_open (s:={s with toks:=s.toks+1}) (r:=none) X J hp ht fun b=> ?_)
 obtain⟨cd,hc,hd'⟩:=PySem.W.any_some hh
 have hx:s.heap.get? x=some ⟨.ref C,some dx,.plain, #[]⟩:=I.obj
 refine wpAny_bind (wpAny_pure (wpAny_bind (wpAny_bind (wpAny_loadPart hx (wpAny_bind (PySem.W.Looks.here (s:={s with toks:=s.toks+1}) (PySem.W.looks_clsIn X hc) ?_))))))
 rw[hd']
 refine wpAny_pure (a:=some dx) (wpAny_bind (wpAny_pure (wpAny_bind ?_)))
 refine wpAny_nsSet1 (s:={s with toks:=s.toks+1}) I.ns fun h' hn2 hs2=> ?_
 obtain⟨oD,esD,epD,hoD,hdD,hcD⟩:=hn2.count (PySem.Within.cons name v hw)
 refine wpAny_bind (wpAny_lookBehind hoD (by rw[hdD];exact pastItsLine_dict (Nat.le_trans hcD (by rw[List.length_cons];omega))) ?_)
 exact wpAny_pure (h _ ⟨(hs2.2 _ (Ne.symm I.ne)).trans I.obj,hn2,I.ne⟩ hs2)
theorem make_map {R:Result→Shared→Prop} {vs:List Value} {kw:List (Str×Value)} (X:K.In s.heap) (hm:PySem.W.makesIn K C=true)
  (hi:PySem.W.findIn K (.ref C) "__init__" =some (some (.ref f))) (hf:PySem.W.typeIn K (.ref f)=some (.type "function"))
  (h:codeAny (model prog w) (A.under (.builtin "type.__call__" ⟨.ref C::vs,kw⟩)) (.call (.ref f) ⟨.ref (s.heap.objs.size+1)::vs,kw⟩) (PySem.W.InitBack (s.heap.objs.size+1) R)
   {s with heap:=(s.heap.push PySem.W.emptyDict).push (PySem.W.instObj C s.heap.objs.size)}):
  codeAny (model prog w) A (.call (.ref C) ⟨vs,kw⟩) R s:=by
 obtain⟨hh,g,d,t,os⟩:=s
 exact PySem.W.make_core (PySem.W.makes_of X hm) (PySem.W.looks_findIn X hi) (fun self=>PySem.W.bind_fn X self hf) (.inl rfl) h
end
noncomputable def putF (f:Str) (v:V):List (Str×V)→List (Str×V)
 | []=> [(f,v)]
 |(g,x)::r=>if g=f then(g,v)::r else(g,x)::putF f v r
theorem lookup_putF (f g:Str) (v:V):∀fs:List (Str×V),(putF f v fs).lookup g=if g=f then some v else fs.lookup g
 | []=>by
  show List.lookup g [(f,v)]=_
  by_cases h:g=f
  ·have hb:(g==f)=true:=beq_iff_eq.mpr h
   simp only[List.lookup,hb,if_pos h]
  ·have hb:(g==f)=false:=beq_eq_false_iff_ne.mpr h
   simp only[List.lookup,hb,if_neg h]
 |(k,x)::r=>by
  have ih:=lookup_putF f g v r
  rw[show putF f v ((k,x)::r)=(if k=f then(k,v)::r else(k,x)::putF f v r) from rfl]
  by_cases hk:k=f
  ·rw[if_pos hk]
   by_cases h:g=k
   ·have hb:(g==k)=true:=beq_iff_eq.mpr h
    simp only[List.lookup,hb,if_pos (h.trans hk)]
   ·have hb:(g==k)=false:=beq_eq_false_iff_ne.mpr h
    simp only[List.lookup,hb,if_neg (fun e:g=f=>h (e.trans hk.symm))]
  ·rw[if_neg hk]
   by_cases h:g=k
   ·have hb:(g==k)=true:=beq_iff_eq.mpr h
    simp only[List.lookup,hb,if_neg (fun e:g=f=>hk (h.symm.trans e))]
   ·have hb:(g==k)=false:=beq_eq_false_iff_ne.mpr h
    simp only[List.lookup,hb]
    exact ih
theorem keys_putF (f:Str) (v:V):∀fs:List (Str×V),f∈(putF f v fs).map (·.1)∧∀g,g∈fs.map (·.1)→g∈(putF f v fs).map (·.1)
 | []=>⟨by simp [putF],fun g h=>by simp at h⟩
 |(k,x)::r=>by
  obtain⟨i1,i2⟩:=keys_putF f v r
  rw[show putF f v ((k,x)::r)=(if k=f then(k,v)::r else(k,x)::putF f v r) from rfl]
  by_cases hk:k=f
  ·rw[if_pos hk]
   subst hk
   exact⟨by simp,fun g h=>by simpa using h⟩
  ·rw[if_neg hk]
   refine⟨?_,fun g h=> ?_⟩
   ·rw[List.map_cons]
    exact List.mem_cons_of_mem _ i1
   ·rw[List.map_cons] at h⊢
    rcases List.mem_cons.mp h with e|e
    ·exact List.mem_cons.mpr (.inl e)
    ·exact List.mem_cons_of_mem _ (i2 g e)
theorem length_putF (f:Str) (v:V):∀fs:List (Str×V),(putF f v fs).length≤fs.length+1
 | []=>by simp [putF]
 |(k,x)::r=>by
  have ih:=length_putF f v r
  rw[show putF f v ((k,x)::r)=(if k=f then(k,v)::r else(k,x)::putF f v r) from rfl]
  by_cases hk:k=f
  ·rw[if_pos hk,List.length_cons,List.length_cons];omega
  ·rw[if_neg hk,List.length_cons,List.length_cons];omega
theorem RelO.some_of {v:V} {o:Option Value} (r:RelO (some v) o):∃u,o=some u∧RelV v u:=by
 cases o with
 |none=>exact(show False from r).elim
 |some u=>exact⟨u,rfl,r⟩
theorem RelO.none_of {o:Option Value} (r:RelO none o):o=none:=by
 cases o with
 |none=>rfl
 |some u=>exact(show False from r).elim
theorem handed_of {v:V} {u:Value} (r:RelV v u):PySem.W.handedIn u=true:=by
 cases v with
 |non=>cases (show u=Value.none from r);rfl
 |bl b=>cases (show u=Value.bool b from r);rfl
 |int i=>obtain⟨t,e⟩:=(show∃t,u=Value.int i t from r);cases e;rfl
 |str x=>obtain⟨t,e⟩:=(show∃t,u=Value.str x t from r);cases e;rfl
 |byt b=>obtain⟨t,e⟩:=(show∃t,u=Value.bytes b t from r);cases e;rfl
 |flt b=>obtain⟨t,e⟩:=(show∃t,u=Value.float b t from r);cases e;rfl
 |ref a=>cases (show u=Value.ref a from r);rfl
 |ty n=>cases (show u=Value.type n from r);rfl
section
variable {P:Program} {w:World} {H H':Hp} {h h':Heap} {a C dx:Addr} {fs fs':List (Str×V)}
theorem ins_get (hok:HOk P w H h) (e:H a=some (.ins C dx fs)):∃mA,ObjM h a dx C mA∧(∀f,RelO (fs.lookup f) (mA f))∧PySem.Within mA (fs.map (·.1))∧fs.length≤1000∧H dx=some (.own a):=by
 obtain⟨d,z,ne,ob,mA,n,r,q⟩:=(show ObjOk P w H h a (.ins C dx fs) from hok a _ e)
 exact⟨mA,⟨ob,n,ne⟩,r,q,z,d⟩
end
structure Cls (K:PySem.W.Frag) (C:Addr):Prop where
 pg:PySem.W.plainGet K C Str.empty=true
 hd:PySem.W.hasDictIn K C=true
 po:PySem.W.plainOver K C=true
 sa:PySem.W.findIn K (.ref C) "__setattr__" =some (some (.builtin "object.__setattr__"))
theorem Cls.get {K:PySem.W.Frag} {C:Addr} (c:Cls K C) (f:Str):PySem.W.plainGet K C f=true:=c.pg
def NoAttr (K:PySem.W.Frag) (C:Addr) (f:Str):Prop:=PySem.W.findIn K (.ref C) f=some none
theorem NoAttr.taker {K:PySem.W.Frag} {C:Addr} {f:Str} (n:NoAttr K C f):PySem.W.takerIn K C f=some none:=by
 unfold PySem.W.takerIn
 rw[show PySem.W.findIn K (.ref C) f=some none from n]
 rfl
structure Meth (K:PySem.W.Frag) (C:Addr) (m:Str) (f:Addr):Prop where
 at_:PySem.W.findIn K (.ref C) m=some (some (.ref f))
 fn:PySem.W.isFn K (.ref f)=true
 kp:PySem.W.keepIn K (.ref f)=true
section
variable {X:Cx} {pins:List (Addr×Obj)} {σ:St} {H:Hp} {s:Shared} {a C dx:Addr} {fs:List (Str×V)} {f:Str} {v:V} {A:Around} {E:Value→Shared→Prop}
theorem getattr_ok {b:Bool} {Q:Value→Shared→Prop} (I:Inv X pins σ H s) (e:H a=some (.ins C dx fs)) (c:Cls X.K C) (n:NoAttr X.K C f) (l:fs.lookup f=some v)
  (h:∀u s',Inv X pins σ H s'→RelV v u→Q u s'):wpAny (model X.prog X.w) A (getAttr (.ref a) f b) Q E s:=by
 obtain⟨mA,O,r,_,_,_⟩:=ins_get I.hok e
 obtain⟨u,hu,ru⟩:=RelO.some_of (v:=v) (o:=mA f) (by rw[←l];exact r f)
 exact get_map I.kIn O (c.get f) c.hd n hu (handed_of ru) (h u _ (I.tok _) ru)
theorem getmeth_ok {m:Str} {g:Addr} {pl:Sem Bool} {Q:Value×List Value→Shared→Prop} (I:Inv X pins σ H s) (e:H a=some (.ins C dx fs)) (c:Cls X.K C) (k:Meth X.K C m g) (l:fs.lookup m=none)
  (h:Q (.ref g,[.ref a]) s):wpAny (model X.prog X.w) A (getMethod (.ref a) m pl) Q E s:=by
 obtain⟨mA,O,r,_,_,_⟩:=ins_get I.hok e
 have hn:mA m=none:=RelO.none_of (by rw[←l];exact r m)
 exact get_meth I.kIn O (c.get m) k.at_ k.fn hn h
theorem setattr_ok {y:V} {u:Value} {Q:Unit→Shared→Prop} (I:Inv X pins σ H s) (e:H a=some (.ins C dx fs)) (c:Cls X.K C) (n:NoAttr X.K C f) (hl:fs.length<1000) (ry:RelV y u)
  (h:∀s',Inv X pins σ (upd H a (.ins C dx (putF f y fs))) s'→Q () s'):wpAny (model X.prog X.w) A (setAttr (.ref a) f u) Q E s:=by
 obtain⟨mA,O,r,wi,_,ho⟩:=ins_get I.hok e
 have hz:(fs.map (·.1)).length≤sizeLine:=by rw[List.length_map,sizeLine_eq];omega
 refine set_map I.kIn O c.sa c.po n.taker c.hd wi hz fun h' O' sb=>h _ ?_
 have hd:∃o,h'.get? dx=some o:=let ⟨o,_,_,e',_⟩:=O'.ns;⟨o,e'⟩
 refine I.write (x:=a) (e:=dx) (by rw[e];exact True.intro) (.inr ho) (fun b q hb z=>(sb.2 b hb).trans z) hd ?_
 refine⟨by rw[upd_ne O.ne];exact ho,?_,O.ne,O'.obj,_,O'.ns,fun g=> ?_,fun g hg=> ?_⟩
 ·have:=length_putF f y fs;omega
 ·show RelO ((putF f y fs).lookup g) (if g=f then some u else mA g)
  rw[lookup_putF]
  by_cases q:g=f
  ·rw[if_pos q,if_pos q];exact ry
  ·rw[if_neg q,if_neg q];exact r g
 ·by_cases q:g=f
  ·rw[q];exact(keys_putF f y fs).1
  ·refine(keys_putF f y fs).2 g (wi g fun z=>hg ?_)
   show (if g=f then some u else mA g)=none
   rw[if_neg q];exact z
theorem Inv.made (I:Inv X pins σ H s):Inv X pins σ (upd (upd H s.heap.objs.size (.own (s.heap.objs.size+1))) (s.heap.objs.size+1) (.ins C s.heap.objs.size []))
  {s with heap:=(s.heap.push PySem.W.emptyDict).push (PySem.W.instObj C s.heap.objs.size)}:=by
 have e1:(s.heap.push PySem.W.emptyDict).get? s.heap.objs.size=some PySem.W.emptyDict:=Heap.get?_push_size s.heap rfl
 have e2:((s.heap.push PySem.W.emptyDict).push (PySem.W.instObj C s.heap.objs.size)).get? (s.heap.objs.size+1)=some (PySem.W.instObj C s.heap.objs.size):=by
  have:=Heap.get?_push_size (s.heap.push PySem.W.emptyDict) (o:=PySem.W.instObj C s.heap.objs.size) rfl
  rwa [Heap.size_push] at this
 have e3:(s.heap.push PySem.W.emptyDict).Ns s.heap.objs.size (fun _=>none):=⟨PySem.W.emptyDict, #[],_,e1,rfl,(fun e he=>absurd he (by simp)),fun _=>rfl⟩
 have I1:=I.laid (a:=s.heap.objs.size) (o:= .own (s.heap.objs.size+1)) (h':=s.heap.push PySem.W.emptyDict) (t':=s.toks) (fun b u q=>Heap.get?_push_of_some _ q) (Nat.le_refl _) ⟨_,e1⟩
 refine I1.laid (a:=s.heap.objs.size+1) (o:= .ins C s.heap.objs.size []) (t':=s.toks) (fun b u q=>Heap.get?_push_of_some _ q) (Nat.le_of_eq (Heap.size_push _ _)) ?_
 have ne:s.heap.objs.size≠s.heap.objs.size+1:=Nat.ne_of_lt (Nat.lt_succ_self _)
 refine⟨by rw[upd_ne ne,upd_same],Nat.zero_le _,ne,e2,fun _=>none,(Heap.Ns1.of_empty e3).at fun o q=>Heap.get?_push_of_some _ q,fun _=>True.intro,fun y hy=>absurd rfl hy⟩
theorem attr_of {prog:Program} {w:World} {env:Env} {e:Expr} {f:Str} {pos:Pos} {s:Shared} {Q:Value→Shared→Prop} (hb:attributeBase e f env (eval e env)=eval e env)
  (h:wpAny (model prog w) A (eval e env) (fun o s₁=>wpAny (model prog w) A (getAttr o f true) Q E s₁) E s):wpAny (model prog w) A (eval (.Attribute e f pos) env) Q E s:=
 Attribute_any_ h (by rw[arm_eval_Attribute,hb])
end
def tFld (K:PySem.W.Frag) (ta:TE) (f:Str):TE:=fun σ H Q=>ta σ H fun x H1=>∃a C dx fs v,x= .ref a∧H1 a=some (.ins C dx fs)∧Cls K C∧NoAttr K C f∧fs.lookup f=some v∧Q v H1
def sFld (K:PySem.W.Frag) (ta tv:TE) (f:Str):TS:=fun D σ H=>tv σ H fun y H1=>ta σ H1 fun x H2=>∃a C dx fs,x= .ref a∧H2 a=some (.ins C dx fs)∧Cls K C∧NoAttr K C f∧fs.length<1000∧
 D.nx σ (upd H2 a (.ins C dx (putF f y fs)))
def InOp (X:Cx) (op:Operator) (rd:V→V→Hp→VK→Prop):Prop:=
 ∀(pins:List (Addr×Obj)) (s:Shared) (σ:St) (H:Hp) (x y:V) (u v:Value) (Q:VK),Inv X pins σ H s→RelV x u→RelV y v→rd x y H Q→wpAny (model X.prog X.w) X.A (inplaceOp op u v) (EP X pins σ Q) X.xe s
def sFldAug (K:PySem.W.Frag) (ta tv:TE) (rd:V→V→Hp→VK→Prop) (f:Str):TS:=fun D σ H=>ta σ H fun x H1=>∃a C dx fs v,x= .ref a∧H1 a=some (.ins C dx fs)∧Cls K C∧NoAttr K C f∧fs.lookup f=some v∧
 tv σ H1 fun y H2=>rd v y H2 fun z H3=>∃dx' fs',H3 a=some (.ins C dx' fs')∧fs'.length<1000∧D.nx σ (upd H3 a (.ins C dx' (putF f z fs')))
section
variable {X:Cx} {o e value:Expr} {f:Str} {pos pos' tpos:Pos} {ta tv:TE}
theorem pe_fld (he:PE X e ta) (hb:attributeBase e f X.env (eval e X.env)=eval e X.env):PE X (.Attribute e f pos) (tFld X.K ta f):=by
 intro pins s σ H Q I h
 refine attr_of hb (thn (he pins s σ H _ I h) fun u s1 ⟨x,H1,I1,rx,a,C,dx,fs,v,ex,ea,c,n,l,q⟩=> ?_)
 subst ex
 obtain rfl:u=Value.ref a:=rx
 exact getattr_ok I1 ea c n l fun u' s2 I2 ru=>⟨v,H1,I2,ru,q⟩
theorem ps_fld (ha:PE X o ta) (hv:PE X value tv) (hs:swapsWith value (some (.Attribute o f pos')) pos.line X.env=pure false):PS X (.Assign [.Attribute o f pos'] value pos) (sFld X.K ta tv f):=by
 intro pins s σ H D I h
 refine plainObj_wpAny_Assign_Attribute (thn (hv pins s σ H _ I h) fun u s1 ⟨y,H1,I1,ry,q⟩=>thn (ha pins s1 σ H1 _ I1 q) fun ov s2 ⟨x,H2,I2,rx,a,C,dx,fs,ex,ea,c,n,l,q2⟩=> ?_) hs
 subst ex
 obtain rfl:ov=Value.ref a:=rx
 exact setattr_ok I2 ea c n l ry fun s3 I3=>⟨σ,_,I3,q2⟩
theorem ps_fldaug {op:Operator} {rd:V→V→Hp→VK→Prop} (ha:PE X o ta) (hv:PE X value tv) (hop:InOp X op rd):PS X (.AugAssign (.Attribute o f tpos) op value pos) (sFldAug X.K ta tv rd f):=by
 intro pins s σ H D I h
 refine wpAny_AugAssign_AttributeAny (thn (ha pins s σ H _ I h) fun ov s1 ⟨x,H1,I1,rx,a,C,dx,fs,v,ex,ea,c,n,l,q⟩=> ?_)
 subst ex
 obtain rfl:ov=Value.ref a:=rx
 refine getattr_ok I1 ea c n l fun u s2 I2 ru=>thn (hv pins s2 σ H1 _ I2 q) fun w3 s3 ⟨y,H2,I3,ry,q3⟩=>thn (hop pins s3 σ H2 v y u w3 _ I3 ru ry q3) fun w4 s4 ⟨z,H3,I4,rz,dx',fs',ea',l',q4⟩=> ?_
 exact setattr_ok I4 ea' c n l' rz fun s5 I5=>⟨σ,_,I5,q4⟩
def rAdd:V→V→Hp→VK→Prop:=fun x y H Q=>∃i j,x= .int i∧y= .int j∧Q (.int (i+j)) H
def rSub:V→V→Hp→VK→Prop:=fun x y H Q=>∃i j,x= .int i∧y= .int j∧Q (.int (i-j)) H
theorem in_add:InOp X .Add rAdd:=by
 rintro pins s σ H x y u v Q I rx ry ⟨i,j,rfl,rfl,q⟩
 obtain⟨t,rfl⟩:=(show∃t,u=Value.int i t from rx)
 obtain⟨t',rfl⟩:=(show∃t',v=Value.int j t' from ry)
 exact PyProof.Rows.iadd_int ⟨.int (i+j),H,I.tok _,⟨_,rfl⟩,q⟩
theorem in_sub:InOp X .Sub rSub:=by
 rintro pins s σ H x y u v Q I rx ry ⟨i,j,rfl,rfl,q⟩
 obtain⟨t,rfl⟩:=(show∃t,u=Value.int i t from rx)
 obtain⟨t',rfl⟩:=(show∃t',v=Value.int j t' from ry)
 exact PyProof.Rows.isub_int ⟨.int (i-j),H,I.tok _,⟨_,rfl⟩,q⟩
end
end L2
namespace L2
open PySem PySem.Spec PyProof.Rows
structure Room (k:Nat) (A:Around):Prop where
 hd:A.handled=none
 dp:A.depth+3*k+5<recursionLimit
 un:A.units+16*k+200<cLine
theorem Room.mono {j k:Nat} {A:Around} (r:Room k A) (h:j≤k):Room j A:=⟨r.hd,by have:=r.dp;omega,by have:=r.un;omega⟩
theorem Room.deeper {k:Nat} {A:Around} (r:Room (k+1) A) (env:Env):Room k (A.deeper env):=
 ⟨r.hd,by have:=r.dp;show A.depth+1+3*k+5<_;omega,by have:=r.un;show A.units+3+16*k+200<_;omega⟩
theorem make_depth {A:Around} {C:Addr} {us:List Value} {kw:List (Str×Value)}:(A.under (.builtin "type.__call__" ⟨.ref C::us,kw⟩)).depth=A.depth+1:=by
 first|rfl|simp [Around.under,Code.weight,Code.isCreation,Code.isGuard,Code.isCaller,Code.frames,Code.isFrame,guardIds]
theorem make_units {A:Around} {C:Addr} {us:List Value} {kw:List (Str×Value)}:(A.under (.builtin "type.__call__" ⟨.ref C::us,kw⟩)).units=A.units+1:=by
 first|rfl|simp [Around.under,Code.cUnits,Code.frames,Code.isFrame]
theorem Room.make {k:Nat} {A:Around} (r:Room (k+1) A) (C:Addr) (us:List Value) (kw:List (Str×Value)):Room k (A.under (.builtin "type.__call__" ⟨.ref C::us,kw⟩)):=
 ⟨r.hd,by have:=r.dp;rw[make_depth];omega,by have:=r.un;rw[make_units];omega⟩
theorem Room.depth {k:Nat} {A:Around} (r:Room k A):A.depth<recursionLimit:=by have:=r.dp;omega
theorem Room.units {k:Nat} {A:Around} (r:Room k A):A.units+64<cLine:=by have:=r.un;omega
def tNil:TA:=fun _ H Q=>Q [] H
def tCons (ta:TE) (tr:TA):TA:=fun σ H Q=>ta σ H fun x H1=>tr σ H1 fun xs H2=>Q (x::xs) H2
section
variable {X:Cx} {e:Expr} {es:List Expr} {te:TE} {t:TA} {pos:Pos}
theorem pa_nil:PA X [] tNil:=fun _ _ _ _ H Q I h=>Calls.spliced_nil ⟨[],H,I,.nil,h⟩
theorem pa_cons (ha:PE X e te) (hr:PA X es t) (hs:starEach (e::es) X.env=(false,eval e X.env)::starEach es X.env:=by rfl):PA X (e::es) (tCons te t):=by
 intro pos pins s σ H Q I h
 rw[hs]
 show wpAny _ _ (spliced ((false,eval e X.env)::backTo pos (starEach es X.env))) _ _ s
 refine Calls.spliced_cons (thn (ha pins s σ H _ I h) fun u s1 ⟨x,H1,I1,r1,q1⟩=> ?_)
 exact thn (hr pos pins s1 σ H1 _ I1 q1) fun us s2 ⟨xs,H2,I2,r2,q2⟩=>⟨x::xs,H2,I2,.cons r1 r2,q2⟩
def tTup (t:TA):TE:=fun σ H Q=>t σ H fun xs H1=>xs.length≤sizeLine∧∀p,H1 p=none→Q (.ref p) (upd H1 p (.tup xs))
def tLst (t:TA):TE:=fun σ H Q=>t σ H fun xs H1=>xs.length≤sizeLine∧∀p,H1 p=none→Q (.ref p) (upd H1 p (.lst xs))
theorem pe_tup {x1} (h:PA X es t):PE X (.Tuple es x1 pos) (tTup t):=by
 intro pins s σ H Q I hq
 refine wpAny_Tuple_spliced (thn (h pos pins s σ H _ I hq) fun us s1 ⟨xs,H1,I1,r,z,q⟩=>⟨by rw[←r.length];exact z,?_⟩)
 have hf:H1 s1.heap.objs.size=none:=I1.hok.fresh (Nat.le_refl _)
 refine⟨.ref s1.heap.objs.size,upd H1 s1.heap.objs.size (.tup xs),I1.laid (t':=s1.toks) (fun b u e=>Heap.get?_push_of_some _ e) (Nat.le_refl _) ?_,rfl,q _ hf⟩
 exact⟨z,us,r,⟨_,Heap.get?_push_size _ rfl,rfl,_,rfl⟩⟩
theorem pe_lst (h:PA X es t):PE X (.List es pos) (tLst t):=by
 intro pins s σ H Q I hq
 refine wpAny_List_spliced (thn (h pos pins s σ H _ I hq) fun us s1 ⟨xs,H1,I1,r,z,q⟩=>⟨by rw[←r.length];exact z,?_⟩)
 have hf:H1 s1.heap.objs.size=none:=I1.hok.fresh (Nat.le_refl _)
 refine⟨.ref s1.heap.objs.size,upd H1 s1.heap.objs.size (.lst xs),I1.laid (t':=s1.toks) (fun b u e=>Heap.get?_push_of_some _ e) (Nat.le_refl _) ?_,rfl,q _ hf⟩
 exact⟨z,us,0,r,Heap.get?_push_size _ rfl⟩
end
abbrev Sp:=List V→Hp→VK→XK→Prop
abbrev CXT:=List Env→Hp→Shared→XK→Value→Shared→Prop
structure Env0 (P:Program) (w:World) (K:PySem.W.Frag) (mg:Str→Option Value) (base:Heap) (A:Around) (outer:List Env) (s:Shared) (H:Hp):Prop where
 frames:A.frames=some outer
 mod:Mod K mg base
 bs:∀b o,base.get? b=some o→s.heap.get? b=some o∧H b=none
 bsz:base.objs.size≤s.heap.objs.size
 funs:s.heap.FunFrames base outer
 frf:∀b∈frs outer,H b=none
 hok:HOk P w H s.heap
 bare:AllBare s.gens
def CE (outer:List Env) (P:Program) (w:World) (H:Hp) (s:Shared) (Q:VK) (u:Value) (s':Shared):Prop:=
 ∃v H',s'.os=s.os∧AllBare s'.gens∧Un (frs outer) [] H H' s.heap s'.heap∧HOk P w H' s'.heap∧RelV v u∧Q v H'
def CR (CX:CXT) (outer:List Env) (P:Program) (w:World) (H:Hp) (s:Shared) (Q:VK) (E:XK) (r:Result) (s':Shared):Prop:=
 match r with
 | .ok (.ret u)=>CE outer P w H s Q u s'
 | .ok _=>False
 | .error e=>CX outer H s E e s'
structure FnOk (P:Program) (w:World) (K:PySem.W.Frag) (mg:Str→Option Value) (base:Heap) (CX:CXT) (k:Nat) (f:Addr) (fd:FuncData) (ps:List Str) (sp:Sp):Prop where
 len:∀vs H Q E,sp vs H Q E→vs.length=ps.length
 run:∀(A:Around) (outer:List Env) (s:Shared) (H:Hp) (args:Args) (us:List Value) (vs:List V) (Q:VK) (E:XK),Room k A→Env0 P w K mg base A outer s H→BindsTo s fd args (ps.zip us)→Vals vs us→sp vs H Q E→
  codeAny (model P w) A (.call (.ref f) args) (CR CX outer P w H s Q E) s
theorem Env0.make {P:Program} {w:World} {K:PySem.W.Frag} {mg:Str→Option Value} {base:Heap} {A:Around} {outer:List Env} {s:Shared} {H:Hp} (e:Env0 P w K mg base A outer s H) (C:Addr) (us:List Value) (kw:List (Str×Value)):
  Env0 P w K mg base (A.under (.builtin "type.__call__" ⟨.ref C::us,kw⟩)) outer s H:=⟨by first|exact e.frames|(simpa [Around.under,Code.envs,Code.isFrame,pushEnvs] using e.frames),e.mod,e.bs,e.bsz,e.funs,e.frf,e.hok,e.bare⟩
section
variable {X:Cx} {pins:List (Addr×Obj)} {σ:St} {H:Hp} {s s':Shared}
theorem Inv.env0 (I:Inv X pins σ H s):Env0 X.prog X.w X.K X.mg X.base X.A X.stack s H:=
 ⟨I.ok.frames,I.ok.mod,I.bs,Nat.le_trans I.ok.bsz I.sz,I.stack,I.stkFree,I.hok,I.bare⟩
theorem Inv.after {Q:VK} {u:Value} (I:Inv X pins σ H s) (h:CE X.stack X.prog X.w H s Q u s'):EP X pins σ Q u s':=by
 obtain⟨v,H',os,bare,un,hok,r,q⟩:=h
 obtain⟨hh,g,d,t,os'⟩:=s'
 obtain rfl:os'=s.os:=os
 exact⟨v,H',I.call (h':=hh) (g':=g) (d':=d) (t':=t) (ch:= []) un hok bare (fun b z=>absurd z (by simp)),r,q⟩
end
def tCall (sp:Sp) (dvs:List V) (E:XK) (t:TA):TE:=fun σ H Q=>t σ H fun vs H1=>sp (vs++dvs) H1 Q E
def tMeth (C:Addr) (m:Str) (sp:Sp) (dvs:List V) (E:XK) (ta:TE) (t:TA):TE:=fun σ H Q=>ta σ H fun x H1=>∃a dx fs,x= .ref a∧H1 a=some (.ins C dx fs)∧fs.lookup m=none∧
 t σ H1 fun vs H2=>sp (x::(vs++dvs)) H2 Q E
def tMake (C:Addr) (sp:Sp) (dvs:List V) (E:XK) (t:TA):TE:=fun σ H Q=>t σ H fun vs H1=>∀x dx,H1 x=none→H1 dx=none→dx≠x→
 sp (.ref x::(vs++dvs)) (upd (upd H1 dx (.own x)) x (.ins C dx [])) (fun v H2=>v= .non∧Q (.ref x) H2) E
def Binds (K:PySem.W.Frag) (fd:FuncData) (ps:List Str) (ds:List Value):Prop:=
 ∀(s:Shared) (us:List Value),K.In s.heap→(us++ds).length=ps.length→BindsTo s fd ⟨us,[]⟩ (ps.zip (us++ds))
theorem Binds.all {K:PySem.W.Frag} {fd:FuncData} {ps:List Str} (h:∀us:List Value,us.length=ps.length→bindArgs fd ⟨us,[]⟩=pure (ps.zip us)):Binds K fd ps []:=fun s us _ hl=>by
 rw[List.append_nil] at hl⊢
 exact .of_eq (h us hl)
def Passes (CX:CXT) (X:Cx) (E:XK):Prop:=∀(pins:List (Addr×Obj)) (σ:St) (H:Hp) (s:Shared) (e:Value) (s':Shared),Inv X pins σ H s→CX X.stack H s E e s'→X.xe e s'
section
variable {X:Cx} {CX:CXT} {k:Nat} {f C:Addr} {fd:FuncData} {ps:List Str} {sp:Sp} {dvs:List V} {ds:List Value} {E:XK} {x m:Str} {p pos apos:Pos} {e o:Expr} {es:List Expr} {ta:TE} {t:TA}
theorem run_fn {pins:List (Addr×Obj)} {σ:St} {H:Hp} {s:Shared} {Q:VK} {us:List Value} {vs:List V} (F:FnOk X.prog X.w X.K X.mg X.base CX k f fd ps sp) (hr:Room k X.A) (hb:Binds X.K fd ps ds) (hd:Vals dvs ds) (hx:Passes CX X E)
  (I:Inv X pins σ H s) (r:Vals vs us) (h:sp (vs++dvs) H Q E):wpAny (model X.prog X.w) X.A (call (.ref f) us) (EP X pins σ Q) X.xe s:=by
 have r2:Vals (vs++dvs) (us++ds):=r.append hd
 have hl:(us++ds).length=ps.length:=by rw[←r2.length];exact F.len _ _ _ _ h
 refine wpAny_call (codeAny_mono (F.run X.A X.stack s H ⟨us,[]⟩ (us++ds) (vs++dvs) Q E hr I.env0 (hb s us I.kIn hl) r2 h) fun r s' hq=> ?_)
 cases r with
 |error e=>exact hx pins σ H s e s' I hq
 |ok fl=>
  cases fl with
  |ret u=>exact I.after hq
  |next=>exact False.elim hq
  |brk=>exact False.elim hq
  |cont=>exact False.elim hq
theorem pe_call (F:FnOk X.prog X.w X.K X.mg X.base CX k f fd ps sp) (hr:Room k X.A) (hg:Gl X x) (hm:X.mg x=some (.ref f)) (hk:PySem.W.keepIn X.K (.ref f)=true) (hb:Binds X.K fd ps ds) (hd:Vals dvs ds) (hx:Passes CX X E)
  (ha:PA X (e::es) t) (hdb:(x==("__debug__" :Str))=false:=by decide) (he:starEach (e::es) X.env=(false,eval e X.env)::starEach es X.env:=by rfl) (hpl:(backTo pos (starEach es X.env)).any (·.1)=false:=by rfl):
  PE X (.Call (.Name x p) (e::es) [] pos) (tCall sp dvs E t):=by
 intro pins s σ H Q I h
 refine wpAny_Call_Name_kw (ld_glob I hg hm ?_ hdb)
 refine PySem.W.callWith_K (h₀:=X.base) I.ok.mod.kin hk (thn (ha pos pins s σ H _ I h) fun us s1 ⟨vs,H1,I1,r,q⟩=>⟨I1.kIn,?_⟩) he hpl
 exact run_fn F hr hb hd hx I1 r q
theorem pe_meth {pl:Sem Bool} (he:PE X o ta) (c:Cls X.K C) (hm:Meth X.K C m f) (F:FnOk X.prog X.w X.K X.mg X.base CX k f fd ps sp) (hr:Room k X.A) (hb:Binds X.K fd ps ds) (hd:Vals dvs ds) (hx:Passes CX X E) (ha:PA X (e::es) t)
  (hst:starEach (e::es) X.env=(false,eval e X.env)::starEach es X.env:=by rfl) (hpl:(backTo pos (starEach es X.env)).any (·.1)=false:=by rfl)
  (ht:eval (.Call (.Attribute o m apos) (e::es) [] pos) X.env=(do
   let ov←eval o X.env
   standAt apos.atName
   let (f,first)←holding [ov] (getMethod ov m pl)
   callWith pos f first (backTo pos (starEach (e::es) X.env)) (backToKw pos (keywordEach [] X.env))):=by rfl):
  PE X (.Call (.Attribute o m apos) (e::es) [] pos) (tMeth C m sp dvs E ta t):=by
 intro pins s σ H Q I h
 refine PySem.W.methodCall_KW (pl:=pl) (thn (he pins s σ H _ I h) fun u s1 ⟨x,H1,I1,rx,a,dx,fs,ex,ea,l,q⟩=> ?_) ht
 subst ex
 obtain rfl:u=Value.ref a:=rx
 refine getmeth_ok I1 ea c hm l ?_
 refine PySem.W.callWith_K (first:= [.ref a]) (h₀:=X.base) I.ok.mod.kin hm.kp (thn (ha pos pins s1 σ H1 _ I1 q) fun us s2 ⟨vs,H2,I2,r,q2⟩=>⟨I2.kIn,?_⟩) hst hpl
 exact run_fn (us:= .ref a::us) (vs:= .ref a::vs) F hr hb hd hx I2 (.cons rfl r) q2
theorem pe_meth0 {pl:Sem Bool} (he:PE X o ta) (c:Cls X.K C) (hm:Meth X.K C m f) (F:FnOk X.prog X.w X.K X.mg X.base CX k f fd ps sp) (hr:Room k X.A) (hb:Binds X.K fd ps ds) (hd:Vals dvs ds) (hx:Passes CX X E)
  (ht:eval (.Call (.Attribute o m apos) [] [] pos) X.env=(do
   let ov←eval o X.env
   standAt apos.atName
   let (f,first)←holding [ov] (getMethod ov m pl)
   callWith pos f first (backTo pos (starEach [] X.env)) (backToKw pos (keywordEach [] X.env))):=by rfl):
  PE X (.Call (.Attribute o m apos) [] [] pos) (tMeth C m sp dvs E ta tNil):=by
 intro pins s σ H Q I h
 refine PySem.W.methodCall_KW (pl:=pl) (thn (he pins s σ H _ I h) fun u s1 ⟨x,H1,I1,rx,a,dx,fs,ex,ea,l,q⟩=> ?_) ht
 subst ex
 obtain rfl:u=Value.ref a:=rx
 refine getmeth_ok I1 ea c hm l ?_
 exact PySem.W.callWith_K0 (first:= [.ref a]) I1.kIn hm.kp (run_fn (us:= [.ref a]) (vs:= [.ref a]) F hr hb hd hx I1 (.cons rfl .nil) q)
structure Mk (K:PySem.W.Frag) (C f:Addr):Prop where
 makes:PySem.W.makesIn K C=true
 init:PySem.W.findIn K (.ref C) "__init__" =some (some (.ref f))
 fn:PySem.W.isFn K (.ref f)=true
 kp:PySem.W.keepIn K (.ref C)=true
theorem run_make {pins:List (Addr×Obj)} {σ:St} {H:Hp} {s:Shared} {Q:VK} {us:List Value} {vs:List V} (M:Mk X.K C f) (F:FnOk X.prog X.w X.K X.mg X.base CX k f fd ps sp) (hr:Room (k+1) X.A) (hb:Binds X.K fd ps ds) (hd:Vals dvs ds)
  (hx:Passes CX X E) (I:Inv X pins σ H s) (r:Vals vs us)
  (h:∀x dx,H x=none→H dx=none→dx≠x→sp (.ref x::(vs++dvs)) (upd (upd H dx (.own x)) x (.ins C dx [])) (fun v H2=>v= .non∧Q (.ref x) H2) E):
  wpAny (model X.prog X.w) X.A (call (.ref C) us) (EP X pins σ Q) X.xe s:=by
 have hq:=h (s.heap.objs.size+1) s.heap.objs.size (I.hok.fresh (Nat.le_succ _)) (I.hok.fresh (Nat.le_refl _)) (Nat.ne_of_lt (Nat.lt_succ_self _))
 have I2:=Inv.made (C:=C) I
 have r2:Vals (V.ref (s.heap.objs.size+1)::(vs++dvs)) (Value.ref (s.heap.objs.size+1)::(us++ds)):= .cons rfl (r.append hd)
 have hl:(Value.ref (s.heap.objs.size+1)::us++ds).length=ps.length:=by
  have e:=r2.length
  rw[F.len _ _ _ _ hq] at e
  exact e.symm
 refine wpAny_call (make_map (f:=f) I.kIn M.makes M.init (beq_iff_eq.mp M.fn) (codeAny_mono (F.run _ X.stack _ _ ⟨Value.ref (s.heap.objs.size+1)::us,[]⟩ (Value.ref (s.heap.objs.size+1)::(us++ds)) _ _ E (hr.make C us [])
  (I2.env0.make C us []) (hb _ (Value.ref (s.heap.objs.size+1)::us) I2.kIn hl) r2 hq) fun r s' hq'=> ?_))
 cases r with
 |error e=>exact hx pins σ _ _ e s' I2 hq'
 |ok fl=>
  cases fl with
  |ret u=>
   obtain⟨v,H',I3,rv,ev,q3⟩:=I2.after hq'
   subst ev
   exact⟨rv,⟨V.ref (s.heap.objs.size+1),H',I3,rfl,q3⟩⟩
  |next=>exact False.elim hq'
  |brk=>exact False.elim hq'
  |cont=>exact False.elim hq'
theorem pe_make (M:Mk X.K C f) (F:FnOk X.prog X.w X.K X.mg X.base CX k f fd ps sp) (hr:Room (k+1) X.A) (hg:Gl X x) (hm:X.mg x=some (.ref C)) (hb:Binds X.K fd ps ds) (hd:Vals dvs ds) (hx:Passes CX X E)
  (ha:PA X (e::es) t) (hdb:(x==("__debug__" :Str))=false:=by decide) (he:starEach (e::es) X.env=(false,eval e X.env)::starEach es X.env:=by rfl) (hpl:(backTo pos (starEach es X.env)).any (·.1)=false:=by rfl):
  PE X (.Call (.Name x p) (e::es) [] pos) (tMake C sp dvs E t):=by
 intro pins s σ H Q I h
 refine wpAny_Call_Name_kw (ld_glob I hg hm ?_ hdb)
 refine PySem.W.callWith_K (h₀:=X.base) I.ok.mod.kin M.kp (thn (ha pos pins s σ H _ I h) fun us s1 ⟨vs,H1,I1,r,q⟩=>⟨I1.kIn,?_⟩) he hpl
 exact run_make M F hr hb hd hx I1 r q
theorem pe_make0 (M:Mk X.K C f) (F:FnOk X.prog X.w X.K X.mg X.base CX k f fd ps sp) (hr:Room (k+1) X.A) (hg:Gl X x) (hm:X.mg x=some (.ref C)) (hb:Binds X.K fd ps ds) (hd:Vals dvs ds) (hx:Passes CX X E)
  (hdb:(x==("__debug__" :Str))=false:=by decide):PE X (.Call (.Name x p) [] [] pos) (tMake C sp dvs E tNil):=by
 intro pins s σ H Q I h
 refine wpAny_Call_Name_kw (ld_glob I hg hm ?_ hdb)
 exact PySem.W.callWith_K0 I.kIn M.kp (run_make (us:= []) M F hr hb hd hx I .nil h)
end
structure FnScope (N P:List Str) (sc:Scope):Prop where
 kind:sc.kind= .function
 co:sc.isCoroutine=false
 gen:sc.isGenerator=false
 nd:N.Nodup
 pre:N.take P.length=P
 par:∀x∈P,sc.names.lookup x=some .local∨sc.names.lookup x=some .cell
 nofree:∀y∈sc.names,y.2≠ .free
theorem bindL_out {kindOf:Str→Option NameKind} {x:Str}:∀{binds:List (Str×Value)} {m:Str→Option Value},(∀v,(x,v)∉binds)→bindL kindOf binds m x=m x
 | [],_,_=>rfl
 |(n,v)::r,m,h=>by
  unfold bindL
  rw[bindL_out fun w hw=>h w (List.mem_cons_of_mem _ hw)]
  split
  ·have:x≠n:=by rintro rfl;exact h v List.mem_cons_self
   simp [this]
  ·rfl
theorem bindC_out {kindOf:Str→Option NameKind} {x:Str}:∀{binds:List (Str×Value)} {m:Str→Option Value},(∀v,(x,v)∉binds)→bindC kindOf binds m x=m x
 | [],_,_=>rfl
 |(n,v)::r,m,h=>by
  unfold bindC
  rw[bindC_out fun w hw=>h w (List.mem_cons_of_mem _ hw)]
  split
  ·rfl
  ·have:x≠n:=by rintro rfl;exact h v List.mem_cons_self
   simp [this]
theorem bindL_get {kindOf:Str→Option NameKind} {x:Str} {v:Value}:∀{P:List Str} {vs:List Value} {i:Nat} {m:Str→Option Value},P.Nodup→P[i]?=some x→vs[i]?=some v→kindOf x=some .local→
  bindL kindOf (P.zip vs) m x=some v
 | [],_,_,_,_,h,_,_=>by simp at h
 |_::_,[],_,_,_,_,h,_=>by simp at h
 |p::P,w::vs,0,m,nd,h1,h2,hk=>by
  simp at h1 h2;subst h1;subst h2
  show bindL kindOf ((p,w)::P.zip vs) m p=_
  unfold bindL
  rw[bindL_out fun v hv=>(List.nodup_cons.mp nd).1 (List.of_mem_zip hv).1,if_pos hk]
  simp
 |p::P,w::vs,i+1,m,nd,h1,h2,hk=>by
  show bindL kindOf ((p,w)::P.zip vs) m x=_
  unfold bindL
  exact bindL_get (i:=i) (List.nodup_cons.mp nd).2 (by simpa using h1) (by simpa using h2) hk
theorem bindC_get {kindOf:Str→Option NameKind} {x:Str} {v:Value}:∀{P:List Str} {vs:List Value} {i:Nat} {m:Str→Option Value},P.Nodup→P[i]?=some x→vs[i]?=some v→kindOf x≠some .local→
  bindC kindOf (P.zip vs) m x=some v
 | [],_,_,_,_,h,_,_=>by simp at h
 |_::_,[],_,_,_,_,h,_=>by simp at h
 |p::P,w::vs,0,m,nd,h1,h2,hk=>by
  simp at h1 h2;subst h1;subst h2
  show bindC kindOf ((p,w)::P.zip vs) m p=_
  unfold bindC
  rw[bindC_out fun v hv=>(List.nodup_cons.mp nd).1 (List.of_mem_zip hv).1,if_neg hk]
  simp
 |p::P,w::vs,i+1,m,nd,h1,h2,hk=>by
  show bindC kindOf ((p,w)::P.zip vs) m x=_
  unfold bindC
  exact bindC_get (i:=i) (List.nodup_cons.mp nd).2 (by simpa using h1) (by simpa using h2) hk
noncomputable def start (N:List Str) (vs:List V):St:=vs.map some++List.replicate (N.length-vs.length) none
noncomputable def cxOf (CX:CXT) (P:Program) (w:World) (K:PySem.W.Frag) (mg:Str→Option Value) (base:Heap) (N:List Str) (qual:Str) (scope:Scope) (f:Addr) (cd:Value) (A:Around) (outer:List Env) (s:Shared) (H:Hp) (E:XK):Cx where
 prog:=P
 w:=w
 K:=K
 mg:=mg
 base:=base
 A:=A.deeper (envOfC qual scope s.heap.objs.size f cd)
 N:=N
 s_0:=s
 H_0:=H
 env:=envOfC qual scope s.heap.objs.size f cd
 outer:=outer
 stack:=envOfC qual scope s.heap.objs.size f cd::outer
 ex:= []
 calm:=true
 fn:=fun _=>true
 pn:= []
 xe:=fun e s'=>wpAny (model P w) (A.deeper (envOfC qual scope s.heap.objs.size f cd)) (leaving (envOfC qual scope s.heap.objs.size f cd) e) (fun _ s''=>CX outer H s E e s'') (fun e' s''=>CX outer H s E e' s'') s'
theorem cell_has {sc:Scope} {n:Nat} {x:Str} (h:sc.names.lookup x=some .cell):∃c,(cellsFrom n sc.names []).lookup x=some c:=by
 have q:=PySem.W.cellsFrom_some sc.names n [] (.inl h)
 exact Option.isSome_iff_exists.mp q
theorem inv_start {CX:CXT} {P:Program} {w:World} {K:PySem.W.Frag} {mg:Str→Option Value} {base:Heap} {N ps:List Str} {qual:Str} {scope:Scope} {f:Addr} {cd:Value} {A:Around} {outer:List Env} {s s1:Shared} {H:Hp} {E:XK} {us:List Value} {vs:List V}
  (S:FnScope N ps scope) (hd:A.handled=none) (e0:Env0 P w K mg base A outer s H) (hl:vs.length=ps.length) (r:Vals vs us)
  (x:InCallC s s.heap.objs.size (bindL (envOfC qual scope s.heap.objs.size f cd).kindOf (ps.zip us) fun _=>none) (cellsFrom (s.heap.objs.size+1) scope.names []) (bindC (envOfC qual scope s.heap.objs.size f cd).kindOf (ps.zip us) fun _=>none) s1):
  Inv (cxOf CX P w K mg base N qual scope f cd A outer s H E) [] (start N vs) H s1:=by
 have hpl:ps.length≤N.length:=by have:=congrArg List.length S.pre;rw[List.length_take] at this;omega
 obtain⟨h1,tk,rfl,hk⟩:=x.done
 have noA:∀b:Addr,b∉(cxOf CX P w K mg base N qual scope f cd A outer s H E).ex:=fun b z=>absurd (show b∈([]:List Addr) from z) (by simp)
 refine⟨⟨e0.mod,S.kind,rfl,rfl,Nat.le_refl _,fun y z c h1 h2=> ?_,fun y hy=> ?_,fun y c _ h=> ?_,fun _=>hd,Around.frames_deeper e0.frames,.inr ⟨rfl,rfl⟩,fun b z=>absurd z (noA b),e0.bs,e0.bsz,fun b _ _=>noA b,fun b z=>absurd z (noA b),e0.funs,e0.frf⟩,
  rfl,e0.bare,Un.kept hk,⟨_,x.toInCall.ns,fun i y v h1 h2 h3=> ?_⟩,fun y c h=>⟨_,x.cell y c h⟩,e0.hok.fresh (Nat.le_refl _),fun y c h=> ?_,fun p hp=>absurd (show p∈([]:List (Addr×Obj)) from hp) (by simp),e0.hok.kept hk,?_⟩
 ·exact name_of_addr x.apart (PySem.mem_of_lookup h1) (PySem.mem_of_lookup h2)
 ·have hy:scope.names.lookup y=some .cell∨scope.names.lookup y=some .free:=hy
  rcases hy with hy|hy
  ·exact cell_has hy
  ·exact absurd rfl (S.nofree _ (PySem.mem_of_lookup hy))
 ·exact Nat.le_of_lt (x.above y c (PySem.mem_of_lookup h))
 ·have hi:i<vs.length:=by
   unfold start at h2
   by_cases hi:i<vs.length
   ·exact hi
   ·rw[List.getElem?_append_right (by simpa using hi)] at h2
    rw[List.getElem?_replicate] at h2
    split at h2<;>cases h2
  have ha:vs[i]?=some v:=by
   unfold start at h2
   rw[List.getElem?_append_left (by simpa using hi),List.getElem?_map] at h2
   cases e:vs[i]? with
   |none=>rw[e] at h2;cases h2
   |some a=>rw[e] at h2;cases h2;rfl
  obtain⟨u,hu,rv⟩:=r.get ha
  have hp:ps[i]?=some y:=by
   rw[←S.pre,List.getElem?_take_of_lt (by omega)];exact h1
  have ndP:ps.Nodup:=by rw[←S.pre];exact S.nd.sublist (List.take_sublist _ _)
  refine⟨u,rv,?_⟩
  rcases S.par y (List.mem_of_getElem? hp) with k|k
  ·exact .inl ⟨k,bindL_get ndP hp hu k⟩
  ·obtain⟨c,e⟩:=cell_has (n:=s.heap.objs.size+1) k
   refine .inr ⟨.inl k,c,e,?_⟩
   have q:=x.cell y c e
   rw[bindC_get ndP hp hu (by show scope.names.lookup y≠_;rw[k];decide)] at q
   exact q
 ·exact e0.hok.fresh (Nat.le_of_lt (x.above y c (PySem.mem_of_lookup h)))
 ·unfold start
  show _=N.length
  rw[List.length_append,List.length_map,List.length_replicate]
  omega
theorem fn_of {CX:CXT} {P:Program} {w:World} {K:PySem.W.Frag} {mg:Str→Option Value} {base:Heap} {k:Nat} {f:Addr} {name qual:Str} {params:Arguments} {body:List Stmt} {scope:Scope} {dV kV doc pm cdv ct oc:Value} {an od:Option Addr}
  {osl:Array (Option Value)} {N ps:List Str} {sp:Sp} (lk:K.lookup f=some ⟨oc,od,.func (PySem.W.fnOf name qual params body scope dV kV doc pm an cdv ct),osl⟩) (hcd:PySem.W.codeIn K cdv qual=true) (S:FnScope N ps scope)
  (len:∀vs H Q E,sp vs H Q E→vs.length=ps.length)
  (hbody:∀(A:Around) (outer:List Env) (s:Shared) (H:Hp) (vs:List V) (Q:VK) (E:XK),Room k (A.deeper (envOfC qual scope s.heap.objs.size f cdv))→sp vs H Q E→
   ∃t,PSs (cxOf CX P w K mg base N qual scope f cdv A outer s H E) body t∧t {nx:=fun _ H'=>Q .non H',rt:=Q} (start N vs) H):
  FnOk P w K mg base CX (k+1) f (PySem.W.fnOf name qual params body scope dV kV doc pm an cdv ct) ps sp:=by
 refine⟨len,fun A outer s H args us vs Q E hr e0 hb r hsp=> ?_⟩
 have hl:=len _ _ _ _ hsp
 have KX:K.In s.heap:=e0.mod.kin.keeps fun b o e=>(e0.bs b o e).1
 have lim:s.heap.NoLimit:=e0.mod.nolimit.keeps fun b o e=>(e0.bs b o e).1
 have hkind:∀y∈ps.zip us,scope.names.lookup y.1=some .local∨(scope.names.lookup y.1=some .cell∧((cellsFrom (s.heap.objs.size+1) scope.names []).lookup y.1).isSome=true):=fun⟨n,v⟩ hy=>by
  rcases S.par n (List.of_mem_zip hy).1 with q|q
  ·exact .inl q
  ·exact .inr ⟨q,PySem.W.cellsFrom_some _ _ _ (.inl q)⟩
 refine codeAny_call_function hr.depth (KX _ _ lk) rfl S.co S.gen rfl (PySem.W.codeRec_of KX hcd) (hb _ _ _ _ ?_)
 refine wpAny_newFunctionEnv_cells S.kind hkind fun env he s1 x=> ?_
 subst he
 refine⟨lim.keeps x.toInCall.keep,codeAny_func ?_⟩
 obtain⟨t,ht,hq⟩:=hbody A outer s H vs Q E (hr.deeper _) hsp
 have I:Inv (cxOf CX P w K mg base N qual scope f cdv A outer s H E) [] (start N vs) H s1:=inv_start S hr.hd e0 hl r x
 refine wpAny_mono (ht [] s1 (start N vs) H _ I hq) (fun fl s' hs=> ?_) fun e s' hs=>hs
 have fin:∀{σ':St} {H':Hp} {v:V} {u:Value},Inv (cxOf CX P w K mg base N qual scope f cdv A outer s H E) [] σ' H' s'→RelV v u→Q v H'→CE outer P w H s Q u s':=
  fun {σ' H' v u} J rv q=>⟨v,H',J.os,J.bare,J.base,J.hok,rv,q⟩
 cases fl with
 |ret u=>
  obtain⟨v,σ',H',J,rv,q⟩:=hs
  exact fin J rv q
 |next=>
  obtain⟨σ',H',J,q⟩:=hs
  exact fin (v:=V.non) (u:=Value.none) J rfl q
 |brk=>
  obtain⟨_,_,_,q⟩:=hs
  exact False.elim q
 |cont=>
  obtain⟨_,_,_,q⟩:=hs
  exact False.elim q
end L2
namespace L2
open PySem PySem.Spec PyProof.Rows
section
variable {X:Cx} {x:Str} {p pos:Pos} {e:Expr} {es:List Expr} {t:TA} {id T:String} {r:List V→Hp→VK→Prop}
def tCB (r:List V→Hp→VK→Prop) (t:TA):TE:=fun σ H Q=>t σ H fun vs H1=>r vs H1 Q
theorem pe_callB (hc:CallR X (.builtin id) r) (hg:Gl X x) (hm:X.mg x=none) (hv:bootBuiltins x=some (.builtin id)) (ha:PA X (e::es) t) (hn:x≠ "__name__" :=by decide) (hdb:(x==("__debug__" :Str))=false:=by decide)
  (he:starEach (e::es) X.env=(false,eval e X.env)::starEach es X.env:=by rfl) (hpl:(backTo pos (starEach es X.env)).any (·.1)=false:=by rfl):PE X (.Call (.Name x p) (e::es) [] pos) (tCB r t):=by
 intro pins s σ H Q I h
 refine wpAny_Call_Name_kw (ld_blt I hg hm hv ?_ hn hdb)
 exact PyProof.Rows.callWith_builtin1 (thn (ha pos pins s σ H _ I h) fun us s1 ⟨vs,H1,I1,r1,q1⟩=>hc pins s1 σ H1 vs us Q I1 r1 q1) he hpl
theorem pe_callTy (hc:CallR X (.type T) r) (hg:Gl X x) (hm:X.mg x=none) (hv:bootBuiltins x=some (.type T)) (ha:PA X (e::es) t) (hn:x≠ "__name__" :=by decide) (hdb:(x==("__debug__" :Str))=false:=by decide)
  (he:starEach (e::es) X.env=(false,eval e X.env)::starEach es X.env:=by rfl) (hpl:(backTo pos (starEach es X.env)).any (·.1)=false:=by rfl):PE X (.Call (.Name x p) (e::es) [] pos) (tCB r t):=by
 intro pins s σ H Q I h
 refine wpAny_Call_Name_kw (ld_blt I hg hm hv ?_ hn hdb)
 exact PyProof.Rows.callWith_type1 (thn (ha pos pins s σ H _ I h) fun us s1 ⟨vs,H1,I1,r1,q1⟩=>hc pins s1 σ H1 vs us Q I1 r1 q1) he hpl
end
end L2
namespace HT
open PySem PyProof.Rows
noncomputable def lexLt:List Int→List Int→Bool
 | [],[]=>false
 | [],_::_=>true
 |_::_,[]=>false
 |x::xs,y::ys=>if x=y then lexLt xs ys else decide (x<y)
theorem lexLt_cons (x y:Int) (xs ys:List Int):lexLt (x::xs) (y::ys)=if x=y then lexLt xs ys else decide (x<y):=rfl
theorem lexLt_nil_nil:lexLt [] []=false:=rfl
theorem lexLt_nil_cons (y:Int) (ys:List Int):lexLt [] (y::ys)=true:=rfl
theorem lexLt_cons_nil (x:Int) (xs:List Int):lexLt (x::xs) []=false:=rfl
theorem eqAt_int (A:Around) (s:Shared) (a:Int) (t:Tok) (c:Int) (u:Tok):∃e,SeqAt.EqAt A s (.int a t) (.int c u) e∧(e=true↔a=c):=
 ⟨(a==c),SeqAt.EqAt.int_int a t c u,by simp⟩
theorem rcLt_int (A:Around) (s:Shared) (a:Int) (t:Tok) (c:Int) (u:Tok) (prog:Program) (w:World) (E:Value→Shared→Prop) (Q:Value→Shared→Prop) (h:Q (.bool (decide (a<c))) s):
  wpAny (model prog w) A (richCompare .Lt (.int a t) (.int c u)) Q E s:=
 (PyProof.Rows.lt_int h:wpAny (model prog w) A (compareOp .Lt (.int a t) (.int c u)) Q E s)
section
open PySem.SeqAt
open PySem.AutoSeq1 (wpAny_loadPart')
open PySem.MeetsSeq PySem.MeetsSeq2 PySem.MeetsSeq3
theorem tuple_lt_ints (l b:Addr) (items items2:Array Value) (n n2:Nat) (dd dd2:Option Addr) (sl sl2:Array (Option Value)) (ns ms:List Int) (hi:IntsAre items.toList ns) (hj:IntsAre items2.toList ms):
  Meets (Builtin.«tuple.__lt__» ⟨[.ref l,.ref b],[]⟩)
   (fun _ R s=>s.heap.get? l=some {cls:= .type "tuple",dict:=dd,data:= .seq items n,slots:=sl}∧s.heap.get? b=some {cls:= .type "tuple",dict:=dd2,data:= .seq items2 n2,slots:=sl2}∧
    R (.ok (.ret (.bool (lexLt ns ms)))) s):=
 .of_wp fun prog w A R s h=>by
  obtain⟨hp,g,d,tk,os⟩:=s;obtain⟨hl,hb,h⟩:=h
  have f2:=AutoSeq1.sub_tuple_tuple
  have z1:items.size=ns.length:=by rw[←hi.length];simp
  have z2:items2.size=ms.length:=by rw[←hj.length];simp
  wp_walk using wpAny_loadPart' hl,wpAny_loadPart' hb,wpAny_forIn_list _ (fun rest b s'=>b.1=none∧s'=⟨hp,g,d,tk,os⟩∧∃(vs ws:List Value) (ns' ms':List Int),rest=vs.zip ws∧
   IntsAre vs ns'∧IntsAre ws ms'∧ns'.length+items2.size=ms'.length+items.size∧R (.ok (.ret (.bool (lexLt ns' ms')))) ⟨hp,g,d,tk,os⟩) _
  case turn=>
   rintro⟨y,x⟩ rest b s' ⟨hb',rfl,vs,ws,ns',ms',hz,hvi,hwi,hlen,hR⟩
   cases hvi with
   |nil=>rw[List.zip_nil_left] at hz;cases hz
   |cons a t hvi'=>
    cases hwi with
    |nil=>rw[List.zip_nil_right] at hz;cases hz
    |cons c u hwi'=>
     rw[List.zip_cons_cons] at hz
     injection hz with hyx hrest
     injection hyx with hy hx
     subst hy hx
     rw[lexLt_cons] at hR
     simp only[List.length_cons] at hlen
     obtain⟨e,he,hiff⟩:=eqAt_int A.in1 ⟨hp,g,d,tk,os⟩ a t c u
     refine wpAny_bind (he prog w _ _ ?_)
     cases e with
     |true=>
      rw[if_pos (hiff.mp rfl)] at hR
      wp_walk
      exact⟨rfl,rfl,_,_,_,_,hrest,hvi',hwi',by omega,hR⟩
     |false=>
      rw[if_neg (fun q=>absurd (hiff.mpr q) Bool.false_ne_true)] at hR
      have hri:=rcLt_int A.in1 ⟨hp,g,d,tk,os⟩ a t c u prog w
      wp_walk using hri
      exact⟨_,rfl,by simpa using hR⟩
  case fin=>
   rintro⟨b1,b2⟩ s' ⟨hb',rfl,vs,ws,ns',ms',hz,hvi,hwi,hlen,hR⟩
   simp only at hb'
   subst hb'
   have hv:lexLt ns' ms'=decide (items.size<items2.size):=by
    cases hvi with
    |nil=>
     cases hwi with
     |nil=>
      simp only[List.length_nil] at hlen
      rw[lexLt_nil_nil]
      exact(decide_eq_false (by omega)).symm
     |cons c u hw=>
      simp only[List.length_nil,List.length_cons] at hlen
      rw[lexLt_nil_cons]
      exact(decide_eq_true (by omega)).symm
    |cons a t hv=>
     cases hwi with
     |nil=>
      simp only[List.length_nil,List.length_cons] at hlen
      rw[lexLt_cons_nil]
      exact(decide_eq_false (by omega)).symm
     |cons c u hw=>
      rw[List.zip_cons_cons] at hz
      cases hz
   rw[hv] at hR
   wp_walk
   exact⟨_,rfl,by simpa [Builtin.Tuple.tupleCompareSizes] using hR⟩
  case h=>
   exact⟨rfl,rfl,items.toList,items2.toList,ns,ms,rfl,hi,hj,by omega,h⟩
end
section
variable {prog:Program} {w:World} {A:Around} {E:Value→Shared→Prop} {s:Shared}
theorem lt_tupInts {l b:Addr} {items items2:Array Value} {ns ms:List Int} {Q:Value→Shared→Prop} (hl:IsTup s.heap l items) (hb:IsTup s.heap b items2) (hi:IntsAre items.toList ns) (hj:IntsAre items2.toList ms)
  (hu:A.units<cLine) (h:Q (.bool (lexLt ns ms)) s):wpAny (model prog w) A (compareOp .Lt (.ref l) (.ref b)) Q E s:=by
 obtain⟨⟨cls,dd,data,sl⟩,ho,hc,n,hd⟩:=id hl
 obtain⟨⟨cls2,dd2,data2,sl2⟩,ho2,hc2,n2,hd2⟩:=id hb
 simp only at hc hd hc2 hd2
 subst hc hd hc2 hd2
 exact richCompare_meets_room (op:= .Lt) ⟨_,ho,rfl⟩ ⟨_,ho2,rfl⟩ PySem.F.slot_tuple_lt PySem.F.entry_tuple_lt (PySem.F.args_tuple_lt_2 _ _) (tuple_lt_ints l b items items2 n n2 dd dd2 sl sl2 ns ms hi hj)
  ⟨ho,ho2,show Value.bool (lexLt ns ms)≠Value.notImplemented∧Q (.bool (lexLt ns ms)) s from⟨(fun x=>nomatch x),h⟩⟩ hu
noncomputable def sIx (n d:Nat):Option Int→Nat
 |none=>d
 |some v=>if v<0 then(v+(n:Int)).toNat else min v.toNat n
theorem sIx_nat (n d k:Nat):sIx n d (some (k:Int))=min k n:=by
 show (if (k:Int)<0 then((k:Int)+(n:Int)).toNat else min (k:Int).toNat n)=min k n
 rw[if_neg (by omega),Int.toNat_natCast]
end
end HT
namespace L2
open PySem PySem.Spec PyProof.Rows
abbrev TO:=St→Hp→(Option Int→Hp→Prop)→Prop
def PO (X:Cx) (e:Option Expr) (t:TO):Prop:=
 ∀(pins:List (Addr×Obj)) (s:Shared) (σ:St) (H:Hp) (Q:Option Int→Hp→Prop),Inv X pins σ H s→t σ H Q→
  wpAny (model X.prog X.w) X.A (evalPart e X.env) (fun u s'=>∃o H',Inv X pins σ H' s'∧IsPart u o∧Q o H') X.xe s
def tPart (t:TE):TO:=fun σ H Q=>t σ H fun x H1=>∃i,x= .int i∧Q (some i) H1
section
variable {X:Cx} {e:Expr} {te:TE} {lo hi:Option Expr} {tl th:TO} {pos p2:Pos}
theorem po_some (h:PE X e te):PO X (some e) (tPart te):=by
 intro pins s σ H Q I hw
 rw[evalPart_some]
 refine thn (h pins s σ H _ I hw) fun u s1 ⟨x,H1,I1,r1,q1⟩=> ?_
 obtain⟨i,rfl,q⟩:=q1
 obtain⟨t,rfl⟩:=r1
 exact⟨some i,H1,I1,.int i t,q⟩
def SlR (X:Cx) (r:V→Option Int→Option Int→Hp→VK→Prop):Prop:=
 ∀(pins:List (Addr×Obj)) (s:Shared) (σ:St) (H:Hp) (x:V) (v vl vu:Value) (lo hi:Option Int) (sl:Addr) (Q:VK),Inv X pins σ H s→RelV x v→s.heap.IsSliceOf sl vl vu .none→IsPart vl lo→IsPart vu hi→r x lo hi H Q→
  ∃T id,typeLookup (.type T) "__getitem__" =pure (some (.builtin id))∧s.TypeIs v T∧wpAny (model X.prog X.w) X.A (getItem v (.ref sl)) (EP X pins σ Q) X.xe s
def tSl (r:V→Option Int→Option Int→Hp→VK→Prop) (te:TE) (tl th:TO):TE:=fun σ H Q=>te σ H fun x H1=>tl σ H1 fun l H2=>th σ H2 fun u H3=>r x l u H3 Q
theorem pe_slice {r:V→Option Int→Option Int→Hp→VK→Prop} (hr:SlR X r) (he:PE X e te) (hl:PO X lo tl) (hu:PO X hi th):PE X (.Subscript e (.Slice lo hi none p2) pos) (tSl r te tl th):=by
 intro pins s σ H Q I h
 refine Subscript_ (thn (he pins s σ H _ I h) fun v s1 ⟨x,H1,I1,r1,q1⟩=> ?_)
 refine wpAny_Slice (thn (hl pins s1 σ H1 _ I1 q1) fun vl s2 ⟨l,H2,I2,pl,q2⟩=>thn (hu pins s2 σ H2 _ I2 q2) fun vu s3 ⟨u,H3,I3,pu,q3⟩=> ?_)
 rw[evalPart_none]
 refine wpAny_pure ?_
 have I4:Inv X pins σ H3 {s3 with heap:=s3.heap.push {cls:= .type "slice",data:= .fields #[vl,vu,.none]}}:=I3.kept (t':=s3.toks) fun b ob q=>Heap.get?_push_of_some _ q
 obtain⟨T,id,hT,ht,hg⟩:=hr pins {s3 with heap:=s3.heap.push {cls:= .type "slice",data:= .fields #[vl,vu,.none]}} σ H3 x v vl vu l u s3.heap.objs.size Q I4 r1 (Heap.IsSliceOf.new ..) pl pu q3
 show wpAny (model X.prog X.w) X.A (subscriptTail e (.Slice lo hi none p2) v (.ref s3.heap.objs.size)) (EP X pins σ Q) X.xe {s3 with heap:=s3.heap.push {cls:= .type "slice",data:= .fields #[vl,vu,.none]}}
 exact tail_any (ops:= [.ref s3.heap.objs.size,v]) ht hT hg (by with_unfolding_all rfl)
noncomputable def cutV (xs:List V) (lo hi:Option Int):List V:=(xs.drop (HT.sIx xs.length 0 lo)).take (HT.sIx xs.length xs.length hi-HT.sIx xs.length 0 lo)
theorem cutV_length (xs:List V) (lo hi:Option Int):(cutV xs lo hi).length≤xs.length:=by
 unfold cutV
 rw[List.length_take,List.length_drop]
 omega
end
end L2
namespace L2
open PySem PySem.Spec PyProof.Rows
noncomputable def ixN (n:Nat) (i:Int):Option Nat:=if 0≤i then(if i<n then some i.toNat else none) else if-(n:Int)≤i then some (i+n).toNat else none
noncomputable def atI {α:Type} (xs:List α) (i:Int):Option α:=(ixN xs.length i).bind fun j=>xs[j]?
theorem ixN_seq {n:Nat} {i:Int} {j:Nat} (h:ixN n i=some j):seqIndex? i n=some j∧j<n∧-(n:Int)≤i∧i<n:=by
 unfold ixN at h
 by_cases h0:0≤i
 ·rw[if_pos h0] at h
  by_cases h1:i<n
  ·rw[if_pos h1] at h
   have e:i.toNat=j:=Option.some.inj h
   exact⟨by rw[seqIndex_of h0 h1,e],by omega,by omega,h1⟩
  ·rw[if_neg h1] at h;cases h
 ·rw[if_neg h0] at h
  by_cases h1: -(n:Int)≤i
  ·rw[if_pos h1] at h
   have e:(i+n).toNat=j:=Option.some.inj h
   exact⟨by rw[seqIndex_neg (by omega) h1,e],by omega,h1,by omega⟩
  ·rw[if_neg h1] at h;cases h
theorem atI_get {α:Type} {xs:List α} {i:Int} {v:α} (h:atI xs i=some v):∃j,seqIndex? i xs.length=some j∧xs[j]?=some v∧j<xs.length∧-(xs.length:Int)≤i∧i<xs.length:=by
 unfold atI at h
 cases e:ixN xs.length i with
 |none=>rw[e] at h;cases h
 |some j=>
  rw[e] at h
  obtain⟨h1,h2,h3,h4⟩:=ixN_seq e
  exact⟨j,h1,h,h2,h3,h4⟩
theorem atI_nat {α:Type} {xs:List α} {j:Nat} {v:α} (h:xs[j]?=some v):atI xs (j:Int)=some v:=by
 have hj:j<xs.length:=(List.getElem?_eq_some_iff.mp h).1
 have e:ixN xs.length (j:Int)=some j:=by
  unfold ixN
  rw[if_pos (by omega),if_pos (by omega)];simp
 unfold atI;rw[e];exact h
def PlainIx (b:Expr):Prop:=∀o i,subscripted b false o i=operate [o,i] (getItem o i)
def IxR (X:Cx) (r:R2):Prop:=
 ∀(value slice:Expr) (pins:List (Addr×Obj)) (s:Shared) (σ:St) (H:Hp) (x y:V) (v u:Value) (Q:VK),Inv X pins σ H s→RelV x v→RelV y u→r x y H Q→
  subscripted slice false v u=operate [v,u] (getItem v u)→wpAny (model X.prog X.w) X.A (subscriptTail value slice v u) (EP X pins σ Q) X.xe s
def MtR (X:Cx) (id:String) (r:V→List V→Hp→VK→Prop):Prop:=
 ∀(pins:List (Addr×Obj)) (s:Shared) (σ:St) (H:Hp) (x:V) (xs:List V) (v:Value) (us:List Value) (Q:VK),Inv X pins σ H s→RelV x v→Vals xs us→r x xs H Q→
  wpAny (model X.prog X.w) X.A (call (.builtin id) (v::us)) (EP X pins σ Q) X.xe s
section
variable {X:Cx} {a b:Expr} {ta tb:TE} {pos:Pos}
theorem pe_ix {r:R2} (hr:IxR X r) (ha:PE X a ta) (hb:PE X b tb) (hs:PlainIx b):PE X (.Subscript a b pos) (tOp r ta tb):=by
 intro pins s σ H Q I h
 exact Subscript_ (binT ha hb I h fun v u s2 x y H2 I2 rx ry q=>hr a b pins s2 σ H2 x y v u Q I2 rx ry q (hs _ _))
def rIxL (K:PySem.W.Frag):R2:=fun x y H Q=>∃p xs i v,x= .ref p∧y= .int i∧SqL K H p xs∧atI xs i=some v∧Q v H
def rIxT (K:PySem.W.Frag):R2:=fun x y H Q=>∃p xs i v,x= .ref p∧y= .int i∧SqT K H p xs∧atI xs i=some v∧Q v H
theorem ix_list:IxR X (rIxL X.K):=by
 intro value slice pins s σ H x y v u Q I rx ry h hs
 obtain⟨p,xs,i,z,rfl,rfl,hq,he,q⟩:=h
 cases rx
 obtain⟨t,rfl⟩:=ry
 obtain⟨its,r,pl,hz⟩:=I.list hq
 obtain⟨j,h1,h2,h3,h4,h5⟩:=atI_get he
 obtain⟨w,ew,rw'⟩:=r.get h2
 have hl:=r.length
 have hn:=line63
 have fin:EP X pins σ Q w s:=⟨z,H,I,rw',q⟩
 by_cases h0:0≤i
 ·have hj:i.toNat=j:=by
   rw[seqIndex_of h0 h5] at h1
   exact Option.some.inj h1
  exact item_listR pl.isList h0 (by omega) (by rw[hj];simpa using ew) fin hs
 ·have hj:(i+(its.toArray.size:Int)).toNat=j:=by
   rw[seqIndex_neg (by omega) h4] at h1
   rw[List.size_toArray,←hl]
   exact Option.some.inj h1
  exact subscriptTail_builtinR (x:=w) pl.isList.typeIs slot_list_getitem.lookup
   (wpAny_getItem_list_neg (Q:=fun r s'=>r=w∧EP X pins σ Q r s') pl.isList (by omega) (by rw[List.size_toArray]<;>omega) (by omega) (by rw[hj];simpa using ew) ⟨rfl,fin⟩) hs
theorem ix_tup:IxR X (rIxT X.K):=by
 intro value slice pins s σ H x y v u Q I rx ry h hs
 obtain⟨p,xs,i,z,rfl,rfl,hq,he,q⟩:=h
 cases rx
 obtain⟨t,rfl⟩:=ry
 obtain⟨its,r,pl,hz⟩:=I.tuple hq
 obtain⟨j,h1,h2,h3,h4,h5⟩:=atI_get he
 obtain⟨w,ew,rw'⟩:=r.get h2
 have hl:=r.length
 have hn:=line63
 have fin:EP X pins σ Q w s:=⟨z,H,I,rw',q⟩
 exact subscriptTail_builtinR (x:=w) pl.typeIs slot_tuple_getitem.lookup
  (getItem_tuple (j:=j) (Q:=fun r s'=>r=w∧EP X pins σ Q r s') pl (by omega) (by omega) (by rw[List.size_toArray,←hl];exact h1) (by simpa using ew) ⟨rfl,fin⟩) hs
theorem mapSeq_set (its:List Value) (n j:Nat) (u:Value):Obj.mapSeq (·.setIfInBounds j u) {cls:= .type "list",data:= .seq its.toArray n}={cls:= .type "list",data:= .seq (its.set j u).toArray n}:=by
 simp [Obj.mapSeq]
theorem Inv.lst {pins:List (Addr×Obj)} {σ:St} {H:Hp} {s:Shared} {p:Addr} {xs:List V} (I:Inv X pins σ H s) (h:H p=some (.lst xs)):
  ∃(its:List Value) (n:Nat),Vals xs its∧s.heap.get? p=some {cls:= .type "list",data:= .seq its.toArray n}∧xs.length≤sizeLine:=by
 obtain⟨z,its,n,r,e⟩:=I.hok p _ h
 exact⟨its,n,r,e,z⟩
theorem Inv.lstUpd {pins:List (Addr×Obj)} {σ:St} {H:Hp} {s:Shared} {p:Addr} {xs ys:List V} {its its':List Value} {n n':Nat} {f:Obj→Obj} (I:Inv X pins σ H s) (h:H p=some (.lst xs))
  (ho:s.heap.get? p=some {cls:= .type "list",data:= .seq its.toArray n}) (hf:f {cls:= .type "list",data:= .seq its.toArray n}={cls:= .type "list",data:= .seq its'.toArray n'}) (r:Vals ys its') (hz:ys.length≤sizeLine) (t:Nat):
  Inv X pins σ (upd H p (.lst ys)) {s with heap:=s.heap.update p f,toks:=t}:=by
 have e:(s.heap.update p f).get? p=some {cls:= .type "list",data:= .seq its'.toArray n'}:=by
  rw[Heap.get?_update_self f ho (by rw[hf]<;>rfl),hf]
 refine I.write (x:=p) (e:=p) (by rw[h];trivial) (.inl rfl) (fun b u hb q=>(Heap.get?_update_other _ _ (Ne.symm hb)).trans q) ⟨_,e⟩ ?_
 exact⟨hz,its',n',r,e⟩
def rSetL:V→V→V→Hp→(Hp→Prop)→Prop:=fun o i v H Q=>∃p xs k j,o= .ref p∧i= .int k∧H p=some (.lst xs)∧ixN xs.length k=some j∧Q (upd H p (.lst (xs.set j v)))
theorem set_list:PSet X rSetL:=by
 intro pins s σ H o i v ov iv u Q I ro ri rv h
 obtain⟨p,xs,k,j,rfl,rfl,hp,hj,q⟩:=h
 cases ro
 obtain⟨t,rfl⟩:=ri
 obtain⟨its,n,r,ho,hz⟩:=I.lst hp
 obtain⟨h1,h2,h3,h4⟩:=ixN_seq hj
 have hl:=r.length
 have hn:=line63
 have I':Inv X pins σ (upd H p (.lst (xs.set j v))) {s with heap:=s.heap.update p (Obj.mapSeq (·.setIfInBounds j u))}:=
  I.lstUpd hp ho (mapSeq_set its n j u) (r.set rv j) (by rw[List.length_set];exact hz) s.toks
 by_cases h0:0≤k
 ·have hk:k.toNat=j:=by
   rw[seqIndex_of h0 h4] at h1
   exact Option.some.inj h1
  exact PySem.W.ki_setAt ho h0 (by omega) (by rw[List.size_toArray,←hl];exact h4) (by rw[hk];exact⟨_,I',q⟩)
 ·have hk:(k+(its.toArray.size:Int)).toNat=j:=by
   rw[seqIndex_neg (by omega) h3] at h1
   rw[List.size_toArray,←hl]
   exact Option.some.inj h1
  exact PySem.W.ki_setBack ho (by omega) (by rw[List.size_toArray,←hl];exact h3) (by omega) (by rw[hk];exact⟨_,I',q⟩)
theorem slice_bounds (lo hi:Option Int) (n:Nat):(sliceBounds lo hi none n).1=((HT.sIx n 0 lo:Nat):Int)∧(sliceBounds lo hi none n).2.1=((HT.sIx n n hi:Nat):Int)∧(sliceBounds lo hi none n).2.2=1:=by
 refine⟨?_,?_,rfl⟩
 ·cases lo with
  |none=>simp [sliceBounds,HT.sIx]
  |some i=>
   simp only[sliceBounds,HT.sIx,Option.getD_none,show (1:Int)>0 by decide,if_true]
   by_cases h:i<0
   ·simp only[h,if_true]<;>omega
   ·simp only[h,if_false]<;>omega
 ·cases hi with
  |none=>simp [sliceBounds,HT.sIx]
  |some i=>
   simp only[sliceBounds,HT.sIx,Option.getD_none,show (1:Int)>0 by decide,if_true]
   by_cases h:i<0
   ·simp only[h,if_true]<;>omega
   ·simp only[h,if_false]<;>omega
theorem slicePick_cut (its:List Value) (lo hi:Option Int):slicePick its.toArray lo hi none=((its.drop (HT.sIx its.length 0 lo)).take (HT.sIx its.length its.length hi-HT.sIx its.length 0 lo)).toArray:=by
 obtain⟨h1,h2,h3⟩:=slice_bounds lo hi its.toArray.size
 unfold slicePick
 rw[h1,h2,h3]
 simp only[sliceRange_one,pick_run,List.size_toArray]<;>rfl
def rSlL (K:PySem.W.Frag):V→Option Int→Option Int→Hp→VK→Prop:=fun x lo hi H Q=>∃a xs,x= .ref a∧SqL K H a xs∧∀p,H p=none→Q (.ref p) (upd H p (.lst (cutV xs lo hi)))
theorem sl_list:SlR X (rSlL X.K):=by
 intro pins s σ H x v vl vu lo hi sl Q I rx hs pl pu h
 obtain⟨a,xs,rfl,hx,q⟩:=h
 cases rx
 obtain⟨its,r,ht,hz⟩:=I.list hx
 have hlen:=r.length
 refine⟨"list",_,slot_list_getitem.lookup,ht.isList.typeIs,?_⟩
 refine wpAny_getItem_list_slice ht.isList hs pl pu .none (by simp) ?_ (by rw[List.size_toArray]<;>omega)
 rw[slicePick_cut,←hlen]
 refine⟨.ref s.heap.objs.size,_,I.laid (t':=s.toks) (o:= .lst (cutV xs lo hi)) (fun b ob q=>Heap.get?_push_of_some _ q) (Nat.le_refl _) ?_,rfl,q _ (I.hok.fresh (Nat.le_refl _))⟩
 exact⟨Nat.le_trans (cutV_length xs lo hi) hz,_,0,(r.drop (HT.sIx xs.length 0 lo)).take (HT.sIx xs.length xs.length hi-HT.sIx xs.length 0 lo),Heap.get?_push_size _ rfl⟩
theorem call_len_seq:CallR X (.builtin "len") (fun xs H Q=>∃p ys,xs= [.ref p]∧(SqL X.K H p ys∨SqT X.K H p ys)∧Q (.int ys.length) H):=by
 intro pins s σ H xs us Q I r h
 obtain⟨p,ys,rfl,hq,q⟩:=h
 obtain⟨u,rfl,rx⟩:=vals1 r
 cases rx
 have hn:=line63
 rcases hq with hq|hq
 ·obtain⟨its,r',pl,hz⟩:=I.list hq
  have hlen:=r'.length
  exact Calls.call_len_list pl.isList (by simp only[List.size_toArray]<;>omega) ⟨.int ys.length,H,I.tok _,⟨s.toks+1,by rw[List.size_toArray,hlen]⟩,q⟩
 ·obtain⟨its,r',pl,hz⟩:=I.tuple hq
  have hlen:=r'.length
  exact len_tuple pl (by simp only[List.size_toArray]<;>omega) ⟨.int ys.length,H,I.tok _,⟨s.toks+1,by rw[List.size_toArray,hlen]⟩,q⟩
theorem call_list_of:CallR X (.type "list") (fun xs H Q=>∃p ys,xs= [.ref p]∧(SqL X.K H p ys∨SqT X.K H p ys)∧∀l,H l=none→Q (.ref l) (upd H l (.lst ys))):=by
 intro pins s σ H xs us Q I r h
 obtain⟨p,ys,rfl,hq,q⟩:=h
 obtain⟨u,rfl,rx⟩:=vals1 r
 cases rx
 have fin:∀(its:List Value),Vals ys its→ys.length≤sizeLine→∀(h':Heap) (c':Nat),(∀b o',s.heap.get? b=some o'→h'.get? b=some o')→
   h'.get? s.heap.objs.size=some {cls:= .type "list",dict:=none,data:= .seq its.toArray c',slots:= #[]}→EP X pins σ Q (.ref s.heap.objs.size) {s with heap:=h'}:=fun its r' hz h' c' kp e=>
  ⟨.ref s.heap.objs.size,_,I.laid (t':=s.toks) kp (Nat.le_refl _) (show ObjOk X.prog X.w _ h' _ (.lst ys) from⟨hz,its,c',r',e⟩),rfl,q _ (I.hok.fresh (Nat.le_refl _))⟩
 rcases hq with hq|hq
 ·obtain⟨its,r',pl,hz⟩:=I.list hq
  have hlen:=r'.length
  obtain⟨o,ho,hc,n,hd⟩:=pl.isList
  exact call_list_seq p (.inl rfl) ho hc hd (fun h' c' kp e=>fin its r' hz h' c' kp e) (by simp only[List.size_toArray]<;>omega)
 ·obtain⟨its,r',pl,hz⟩:=I.tuple hq
  have hlen:=r'.length
  obtain⟨o,ho,hc,n,hd⟩:=pl
  exact call_list_seq p (.inr rfl) ho hc hd (fun h' c' kp e=>fin its r' hz h' c' kp e) (by simp only[List.size_toArray]<;>omega)
def tyV (K:PySem.W.Frag) (T:String) (x:V) (H:Hp):Prop:=match x with
 | .str _=>T= "str"
 | .int _=>T= "int"
 | .ref p=>(T= "list" ∧∃xs,SqL K H p xs)∨(T= "tuple" ∧∃o,K.lookup p=some o∧o.cls= .type "tuple" ∧o.dict=none)∨
   (T= "dict" ∧((∃kvs,H p=some (.dK kvs))∨∃kvs,H p=some (.dT kvs)))∨(T= "set" ∧∃S n,H p=some (.set S n))
 |_=>False
theorem tyV_is {pins:List (Addr×Obj)} {σ:St} {H:Hp} {s:Shared} {T:String} {x:V} {v:Value} (I:Inv X pins σ H s) (r:RelV x v) (ty:tyV X.K T x H):
  s.TypeIs v T∧∀a,v= .ref a→∃ob,s.heap.get? a=some ob∧ob.dict=none:=by
 cases x with
 |str z=>
  obtain⟨t,rfl⟩:=r
  cases (show T= "str" from ty)
  exact⟨typeIs_str s z t,fun _ e=>nomatch e⟩
 |int i=>
  obtain⟨t,rfl⟩:=r
  cases (show T= "int" from ty)
  exact⟨typeIs_int s i t,fun _ e=>nomatch e⟩
 |ref p=>
  cases r
  rcases ty with ⟨rfl,xs,hq⟩|⟨rfl,o,hk,hc,hd⟩|⟨rfl,hk⟩|⟨rfl,S,n,hk⟩
  ·obtain⟨its,_,pl,_⟩:=I.list hq
   refine⟨pl.isList.typeIs,fun a e=> ?_⟩
   cases e
   obtain⟨o,n,e,c,hd,_⟩:=pl
   exact⟨o,e,hd⟩
  ·refine⟨⟨o,I.kIn p o hk,hc⟩,fun a e=> ?_⟩
   cases e
   exact⟨o,I.kIn _ o hk,hd⟩
  ·have z:∃o,s.heap.get? p=some o∧o.ExactDict:=by
    rcases hk with ⟨kvs,hk⟩|⟨kvs,hk⟩
    ·obtain⟨_,_,_,_,o,_,_,e,ex,_⟩:=I.hok p _ hk
     exact⟨o,e,ex⟩
    ·obtain⟨_,_,_,_,o,_,_,e,ex,_⟩:=I.hok p _ hk
     exact⟨o,e,ex⟩
   obtain⟨o,e,ex⟩:=z
   refine⟨⟨o,e,ex.1⟩,fun a e2=> ?_⟩
   cases e2
   exact⟨o,e,ex.2.1⟩
  ·obtain⟨o,_,_,_,e,ex,_⟩:=I.hok p _ hk
   refine⟨⟨o,e,ex.1⟩,fun a e2=> ?_⟩
   cases e2
   exact⟨o,e,ex.2.1⟩
 |_=>exact False.elim ty
def tBM0 (K:PySem.W.Frag) (T:String) (r:V→List V→Hp→VK→Prop) (to:TE):TE:=fun σ H Q=>to σ H fun x H1=>tyV K T x H1∧r x [] H1 Q
def tBM (K:PySem.W.Frag) (T:String) (r:V→List V→Hp→VK→Prop) (to:TE) (t:TA):TE:=fun σ H Q=>to σ H fun x H1=>tyV K T x H1∧t σ H1 fun xs H2=>r x xs H2 Q
variable {o e:Expr} {es:List Expr} {to:TE} {t:TA} {name:Str} {apos cpos:Pos} {T id:String} {r:V→List V→Hp→VK→Prop}
theorem pe_bm0 (pa:PlainAttrs T) (slot:Slot T name id) (hty:typeOf (.builtin id)=pure (.type "method_descriptor")) (hm:MtR X id r) (ho:PE X o to)
  (hbase:attributeBase o name X.env (eval o X.env)=eval o X.env:=by rfl) (hline:(apos.endLine==cpos.line)=true:=by rfl):PE X (.Call (.Attribute o name apos) [] [] cpos) (tBM0 X.K T r to):=by
 intro pins s σ H Q I h
 refine wpAny_Call_method0_late hbase hline (thn (ho pins s σ H _ I h) fun v s1 ⟨x,H1,I1,r1,ty,q1⟩=> ?_)
 obtain⟨h1,h2⟩:=tyV_is I1 r1 ty
 exact⟨T,id,pa,slot,hty,h1,h2,Calls.callWith_builtin rfl (PySem.evalArgs_none (hm pins s1 σ H1 x [] v [] Q I1 r1 .nil q1))⟩
theorem pe_bm (pa:PlainAttrs T) (slot:Slot T name id) (hty:typeOf (.builtin id)=pure (.type "method_descriptor")) (hm:MtR X id r) (ho:PE X o to) (ha:PA X (e::es) t)
  (hbase:attributeBase o name X.env (eval o X.env)=eval o X.env:=by rfl)
  (hfew:((backTo cpos (starEach (e::es) X.env)).all (fun x=> !x.1)&&(backToKw cpos (keywordEach [] X.env)).all (fun x=>x.1.isSome)
   &&decide ((e::es).length+([]:List Keyword).length+(if ([]:List Keyword).isEmpty then 0 else 1)<30))=true:=by rfl)
  (hline:(apos.endLine==cpos.line)=true:=by rfl) (hs:starEach (e::es) X.env=(false,eval e X.env)::starEach es X.env:=by rfl) (hplain:(backTo cpos (starEach es X.env)).any (·.1)=false:=by rfl):
  PE X (.Call (.Attribute o name apos) (e::es) [] cpos) (tBM X.K T r to t):=by
 intro pins s σ H Q I h
 refine wpAny_Call_method_late hbase hfew hline rfl (thn (ho pins s σ H _ I h) fun v s1 ⟨x,H1,I1,r1,ty,q1⟩=> ?_)
 obtain⟨h1,h2⟩:=tyV_is I1 r1 ty
 refine⟨T,id,pa,slot,hty,h1,h2,?_⟩
 have hA:=ha cpos pins s1 σ H1 _ I1 q1
 rw[hs] at hA⊢
 refine Calls.callWith_builtin (by show (false||(backTo cpos (starEach es X.env)).any (·.1))=false;rw[hplain]<;>rfl) (Calls.evalArgs_plain ?_)
 exact thn hA fun us s2 ⟨vs,H2,I2,r2,q2⟩=>hm pins s2 σ H2 x vs v us Q I2 r1 r2 q2
end
end L2
namespace L2
open PySem PySem.Spec PyProof.Rows
def MtM (X:Cx) (id:String) (r:V→List V→Hp→VK→Prop):Prop:=
 ∀(pins:List (Addr×Obj)) (s:Shared) (σ:St) (H:Hp) (x:V) (xs:List V) (v:Value) (us:List Value) (Q:VK),Inv X pins σ H s→RelV x v→Vals xs us→r x xs H Q→
  wpAny (model X.prog X.w) X.A (call (.builtin id) (v::us)) (EP X pins σ Q) X.xe s
theorem Vals.one:∀{x:V} {us:List Value},Vals [x] us→∃u,us= [u]∧RelV x u
 |_,_,.cons r .nil=>⟨_,rfl,r⟩
theorem Vals.zero:∀{us:List Value},Vals [] us→us= []
 |_,.nil=>rfl
theorem Vals.dropLast {xs:List V} {us:List Value} (h:Vals xs us):Vals xs.dropLast us.dropLast:=by
 induction h with
 |nil=>exact .nil
 |cons r t ih=>
  cases t with
  |nil=>exact .nil
  |cons q t'=>exact .cons r ih
theorem erase_last {α:Type} (l:List α):l.eraseIdx (l.length-1)=l.dropLast:=by
 induction l with
 |nil=>rfl
 |cons a r ih=>
  cases r with
  |nil=>rfl
  |cons b r=>
   have e:(a::b::r).length-1=((b::r).length-1)+1:=by
    have h1:(a::b::r).length=r.length+2:=rfl
    have h2:(b::r).length=r.length+1:=rfl
    omega
   rw[e,List.eraseIdx_cons_succ,ih]
   all_goals rfl
section
variable {X:Cx} {pins:List (Addr×Obj)} {σ:St} {H:Hp} {s:Shared} {l b:Addr} {xs ys zs:List V}
theorem Inv.lset {its its':List Value} {n:Nat} {f:Array Value→Array Value} {t':Nat} (I:Inv X pins σ H s) (hH:H l=some (.lst xs))
  (e:s.heap.get? l=some {cls:= .type "list",data:= .seq its.toArray n}) (hf:f its.toArray=its'.toArray) (hv:Vals ys its') (hz:ys.length≤sizeLine):
  Inv X pins σ (upd H l (.lst ys)) {s with heap:=s.heap.update l (Obj.mapSeq f),toks:=t'}:=by
 have q:=PySem.IsL.update e f
 rw[hf] at q
 refine I.write (x:=l) (e:=l) (by rw[hH];exact trivial) (.inl rfl) (fun b' u hb hu=>(Heap.get?_update_other s.heap (Obj.mapSeq f) (Ne.symm hb)).trans hu) ⟨_,q⟩ ?_
 exact⟨hz,its',_,hv,q⟩
theorem Inv.lnew {its:List Value} {t':Nat} (I:Inv X pins σ H s) (hv:Vals ys its) (hz:ys.length≤sizeLine):
  Inv X pins σ (upd H s.heap.objs.size (.lst ys)) {s with heap:=s.heap.push {cls:= .type "list",data:= .seq its.toArray},toks:=t'}:=
 I.laid (fun _ _ q=>Heap.get?_push_of_some _ q) (Nat.le_refl _) ⟨hz,its,0,hv,Heap.get?_push_size _ rfl⟩
theorem Inv.fresh (I:Inv X pins σ H s):H s.heap.objs.size=none:=I.hok.fresh (Nat.le_refl _)
theorem Inv.lstM (I:Inv X pins σ H s) (hH:H l=some (.lst xs)):xs.length≤sizeLine∧∃(its:List Value) (n:Nat),Vals xs its∧xs.length=its.length∧s.heap.get? l=some {cls:= .type "list",data:= .seq its.toArray n}:=by
 obtain⟨z,its,n,r,e⟩:=I.hok l _ hH
 exact⟨z,its,n,r,r.length,e⟩
theorem notLongL {n:Nat} (h:n≤sizeLine):Builtin.List.listTooLong n=false:=by
 unfold Builtin.List.listTooLong
 exact decide_eq_false (by omega)
end
section
variable {X:Cx}
def rAppend:V→List V→Hp→VK→Prop:=fun x vs H Q=>∃l xs y,x= .ref l∧vs= [y]∧H l=some (.lst xs)∧xs.length<sizeLine∧Q .non (upd H l (.lst (xs++ [y])))
theorem mt_append:MtM X "list.append" rAppend:=by
 intro pins s σ H x vs v us Q I rx rv h
 obtain⟨l,xs,y,rfl,rfl,hH,hz,q⟩:=h
 cases rx
 obtain⟨u,rfl,ru⟩:=rv.one
 obtain⟨z,its,n,r,hl,e⟩:=I.lstM hH
 refine call_meets F.slot_list_append ⟨_,e,rfl⟩ F.entry_list_append (F.args_list_append_2 _ _) (PySem.list_append l its.toArray n u (by rw[List.size_toArray];omega)) ⟨e,?_⟩
 refine⟨.non,_,I.lset (its':=its++ [u]) hH e (by simp) (r.append (.cons ru .nil)) ?_,rfl,q⟩
 rw[List.length_append,List.length_singleton]
 omega
def rExtend:V→List V→Hp→VK→Prop:=fun x vs H Q=>∃l b xs zs,x= .ref l∧vs= [.ref b]∧H l=some (.lst xs)∧H b=some (.lst zs)∧xs.length+zs.length≤sizeLine∧Q .non (upd H l (.lst (xs++zs)))
theorem mt_extend:MtM X "list.extend" rExtend:=by
 intro pins s σ H x vs v us Q I rx rv h
 obtain⟨l,b,xs,zs,rfl,rfl,hH,hB,hz,q⟩:=h
 cases rx
 obtain⟨u,rfl,ru⟩:=rv.one
 cases ru
 obtain⟨z,its,n,r,hl,e⟩:=I.lstM hH
 obtain⟨z2,its2,n2,r2,hl2,e2⟩:=I.lstM hB
 have hsz:its.toArray.size+its2.toArray.size≤sizeLine:=by rw[List.size_toArray,List.size_toArray];omega
 have hlong:¬(!its.toArray.isEmpty&&Builtin.List.listTooLong (its.toArray.size+its2.toArray.size))=true:=by
  rw[notLongL hsz,Bool.and_false]
  exact Bool.false_ne_true
 refine call_meets F.slot_list_extend ⟨_,e,rfl⟩ F.entry_list_extend (F.args_list_extend_2 _ _)
  (AutoSeq1.list_extend_list_list_0 l its.toArray n b its2.toArray n2 hlong (by rw[List.size_toArray];omega) (by omega)) ⟨e,e2,?_⟩
 refine⟨.non,_,I.lset (its':=its++its2) hH e (by simp) (r.append r2) ?_,rfl,q⟩
 rw[List.length_append]
 omega
def rPop:V→List V→Hp→VK→Prop:=fun x vs H Q=>∃l xs y,x= .ref l∧vs= []∧H l=some (.lst xs)∧xs[xs.length-1]?=some y∧Q y (upd H l (.lst xs.dropLast))
theorem mt_pop:MtM X "list.pop" rPop:=by
 intro pins s σ H x vs v us Q I rx rv h
 obtain⟨l,xs,y,rfl,rfl,hH,hy,q⟩:=h
 cases rx
 have hus:=rv.zero
 subst hus
 obtain⟨z,its,n,r,hl,e⟩:=I.lstM hH
 obtain⟨u,hu,ru⟩:=r.get hy
 have hy':its.toArray[its.toArray.size-1]?=some u:=by
  show its.toArray[its.length-1]?=some u
  rw[←Array.getElem?_toList,←hl]
  exact hu
 refine call_meets F.slot_list_pop ⟨_,e,rfl⟩ F.entry_list_pop (F.args_list_pop_1 _) (MeetsSeq.list_pop_last l its.toArray n u hy' (by rw[List.size_toArray];omega)) ⟨e,?_⟩
 refine⟨y,_,I.lset (its':=its.dropLast) hH e ?_ r.dropLast ?_,ru,q⟩
 ·show its.toArray.eraseIdxIfInBounds (its.toArray.size-1)=its.dropLast.toArray
  rw[List.size_toArray,List.eraseIdxIfInBounds_toArray,erase_last]
 ·rw[List.length_dropLast]
  omega
def rCat:R2:=fun x y H Q=>∃l b xs zs,x= .ref l∧y= .ref b∧H l=some (.lst xs)∧H b=some (.lst zs)∧xs.length+zs.length≤sizeLine∧∀p,H p=none→Q (.ref p) (upd H p (.lst (xs++zs)))
theorem op_cat:OpR X (binaryOp .Add) rCat:=by
 intro pins s σ H x y v u Q I rx ry h
 obtain⟨l,b,xs,zs,rfl,rfl,hH,hB,hz,q⟩:=h
 cases rx
 cases ry
 obtain⟨z,its,n,r,hl,e⟩:=I.lstM hH
 obtain⟨z2,its2,n2,r2,hl2,e2⟩:=I.lstM hB
 refine PySem.P.add_list e e2 ?_ (by rw[List.size_toArray,List.size_toArray];omega)
 have ea:its.toArray++its2.toArray=(its++its2).toArray:=by simp
 rw[ea]
 exact⟨.ref _,_,I.lnew (t':=s.toks) (r.append r2) (by rw[List.length_append];omega),rfl,q _ I.fresh⟩
end
section
variable {prog:Program} {w:World} {A:Around} {E:Value→Shared→Prop} {s:Shared}
set_option maxRecDepth 100000 in
end
end L2
namespace L2
open PySem PySem.Spec PyProof.Rows
theorem Vals.int2 {i j:Int} {us:List Value} (r:Vals [V.int i,V.int j] us):∃t u,us= [Value.int i t,Value.int j u]:=by
 cases r with
 |cons r t=>
  cases t with
  |cons r2 t2=>
   cases t2
   obtain⟨t,rfl⟩:=r
   obtain⟨u,rfl⟩:=r2
   exact⟨t,u,rfl⟩
end L2
namespace L2
open PySem PySem.Spec PyProof.Rows
abbrev CellAt (h:Heap) (c:Addr) (v:Option Value):Prop:=h.IsCell c v
noncomputable def relS (scope sc:Scope):Scope:=
 {scope with names:=scope.names.map fun(n,k)=>if (k== .free&&sc.kind== .function&&sc.names.lookup n==some .cell) then(n,.cell) else(n,k)}
noncomputable def cloFrom (cells:List (Str×Addr)):List (Str×NameKind)→List (Str×Addr)→List (Str×Addr)
 | [],acc=>acc
 |(n,k)::r,acc=>if k== .free then cloFrom cells r ((n,(cells.lookup n).getD 0)::acc) else cloFrom cells r acc
theorem closure_loop (env:Env) (f:Str×NameKind→List (Str×Addr)→Sem (ForInStep (List (Str×Addr))))
  (hf:∀n k c,f (n,k) c=if k== .free then(do let a←cellOf env n;pure (.yield ((n,a)::c))) else pure (.yield c)):
  ∀(names:List (Str×NameKind)) (acc:List (Str×Addr)),(∀y∈names,y.2= .free→∃c,env.cells.lookup y.1=some c)→forIn names acc f=pure (cloFrom env.cells names acc)
 | [],acc,_=>by rw[List.forIn_nil];rfl
 |(n,k)::r,acc,h=>by
  rw[List.forIn_cons,hf]
  have ih:=fun acc=>closure_loop env f hf r acc fun y hy=>h y (List.mem_cons_of_mem _ hy)
  unfold cloFrom
  by_cases hk:(k==NameKind.free)=true
  ·rw[if_pos hk,if_pos hk]
   obtain⟨c,hc⟩:=h (n,k) List.mem_cons_self (by simpa using hk)
   have e:cellOf env n=pure c:=by unfold cellOf;rw[hc]
   rw[e]
   have e2:(env.cells.lookup n).getD 0=c:=by rw[hc];rfl
   rw[e2]
   exact ih _
  ·rw[if_neg hk,if_neg hk]
   exact ih _
theorem closure_ok {scope:Scope} {env:Env} (h:∀y∈scope.names,y.2= .free→∃c,env.cells.lookup y.1=some c):closureFor scope env=pure (cloFrom env.cells scope.names []):=by
 simp only[closureFor]
 rw[closure_loop env _ (fun n k c=>rfl) scope.names [] h]
 rfl
theorem mem_lookup {α:Type}:∀{l:List (Str×α)} {n:Str} {c:α},(n,c)∈l→∃c',l.lookup n=some c'
 |(k,v)::r,n,c,h=>by
  rw[List.lookup_cons]
  cases hb:n==k with
  |true=>exact⟨_,rfl⟩
  |false=>
   rcases List.mem_cons.mp h with e|h
   ·cases e;simp at hb
   ·exact mem_lookup h
theorem cloFrom_mem {cells:List (Str×Addr)}:∀{names:List (Str×NameKind)} {acc:List (Str×Addr)} {n:Str} {c:Addr},(n,c)∈cloFrom cells names acc→(n,c)∈acc∨((n,.free)∈names∧c=(cells.lookup n).getD 0)
 | [],_,_,_,h=> .inl h
 |(m,k)::r,acc,n,c,h=>by
  unfold cloFrom at h
  split at h
  ·rename_i hk
   have hk:k= .free:=by simpa using hk
   rcases cloFrom_mem h with h|⟨h1,h2⟩
   ·rcases List.mem_cons.mp h with e|h
    ·cases e;exact .inr ⟨hk▸List.mem_cons_self,rfl⟩
    ·exact .inl h
   ·exact .inr ⟨List.mem_cons_of_mem _ h1,h2⟩
  ·rcases cloFrom_mem h with h|⟨h1,h2⟩
   ·exact .inl h
   ·exact .inr ⟨List.mem_cons_of_mem _ h1,h2⟩
theorem cloFrom_acc {cells:List (Str×Addr)}:∀{names:List (Str×NameKind)} {acc:List (Str×Addr)} {p:Str×Addr},p∈acc→p∈cloFrom cells names acc
 | [],_,_,h=>h
 |(m,k)::r,acc,p,h=>by
  unfold cloFrom
  split
  ·exact cloFrom_acc (List.mem_cons_of_mem _ h)
  ·exact cloFrom_acc h
theorem cloFrom_has {cells:List (Str×Addr)}:∀{names:List (Str×NameKind)} {acc:List (Str×Addr)} {n:Str},(n,.free)∈names→(n,(cells.lookup n).getD 0)∈cloFrom cells names acc
 |(m,k)::r,acc,n,h=>by
  unfold cloFrom
  rcases List.mem_cons.mp h with e|h
  ·cases e
   exact cloFrom_acc List.mem_cons_self
  ·split
   ·exact cloFrom_has h
   ·exact cloFrom_has h
theorem cells_mem:∀{names:List (Str×NameKind)} {h:Heap} {acc:List (Str×Addr)} {x:Str} {c:Addr},(x,c)∈cellsFrom h.objs.size names acc→
  (x,c)∈acc∨((x,.cell)∈names∧h.objs.size≤c∧CellAt (pushCells h names) c none)
 | [],_,_,_,_,h=> .inl h
 |(n,k)::r,h,acc,x,c,hm=>by
  unfold cellsFrom at hm
  unfold pushCells
  split at hm
  ·rename_i hk
   rw[if_pos hk]
   have hk:k= .cell:=by simpa using hk
   rw[←Heap.size_push h {cls:= .type "cell",data:= .cell none}] at hm
   rcases cells_mem hm with hm|⟨h1,h2,h3⟩
   ·rcases List.mem_cons.mp hm with e|hm
    ·cases e
     exact .inr ⟨hk▸List.mem_cons_self,Nat.le_refl _,_,pushCells_keeps r _ _ _ (Heap.get?_push_size _ rfl),rfl⟩
    ·exact .inl hm
   ·rw[Heap.size_push] at h2
    exact .inr ⟨List.mem_cons_of_mem _ h1,Nat.le_of_succ_le h2,h3⟩
  ·rename_i hk
   rw[if_neg hk]
   rcases cells_mem hm with hm|⟨h1,h2,h3⟩
   ·exact .inl hm
   ·exact .inr ⟨List.mem_cons_of_mem _ h1,h2,h3⟩
theorem cells_acc:∀{names:List (Str×NameKind)} {n:Nat} {acc:List (Str×Addr)} {p:Str×Addr},p∈acc→p∈cellsFrom n names acc
 | [],_,_,_,h=>h
 |(m,k)::r,n,acc,p,h=>by
  unfold cellsFrom
  split
  ·exact cells_acc (List.mem_cons_of_mem _ h)
  ·exact cells_acc h
theorem cells_has:∀{names:List (Str×NameKind)} {n:Nat} {acc:List (Str×Addr)} {x:Str},(x,.cell)∈names→∃c,(x,c)∈cellsFrom n names acc
 |(m,k)::r,n,acc,x,h=>by
  unfold cellsFrom
  rcases List.mem_cons.mp h with e|h
  ·cases e
   exact⟨n,cells_acc List.mem_cons_self⟩
  ·split
   ·exact cells_has h
   ·exact cells_has h
theorem cells_inj:∀{names:List (Str×NameKind)} {h:Heap} {acc:List (Str×Addr)} {x y:Str} {c:Addr},(∀p∈acc,p.2<h.objs.size)→(∀x y c,(x,c)∈acc→(y,c)∈acc→x=y)→
  (x,c)∈cellsFrom h.objs.size names acc→(y,c)∈cellsFrom h.objs.size names acc→x=y
 | [],_,_,_,_,_,_,hi,h1,h2=>hi _ _ _ h1 h2
 |(n,k)::r,h,acc,x,y,c,hl,hi,h1,h2=>by
  unfold cellsFrom at h1 h2
  split at h1
  ·rename_i hk
   rw[if_pos hk] at h2
   rw[←Heap.size_push h {cls:= .type "cell",data:= .cell none}] at h1 h2
   refine cells_inj (h:=h.push _) (fun p hp=> ?_) (fun x y c a b=> ?_) h1 h2
   ·rw[Heap.size_push]
    rcases List.mem_cons.mp hp with rfl|hp
    ·exact Nat.lt_succ_self _
    ·exact Nat.lt_succ_of_lt (hl p hp)
   ·rcases List.mem_cons.mp a with e|a<;>rcases List.mem_cons.mp b with e'|b
    ·cases e;cases e';rfl
    ·cases e;exact absurd (hl _ b) (Nat.lt_irrefl _)
    ·cases e';exact absurd (hl _ a) (Nat.lt_irrefl _)
    ·exact hi _ _ _ a b
  ·rename_i hk
   rw[if_neg hk] at h2
   exact cells_inj hl hi h1 h2
theorem newEnv_comp {M:Model} {A:Around} {E:Value→Shared→Prop} {s:Shared} {scope:Scope} {globals:Addr} {closure:List (Str×Addr)} {qual:Str} {func:Option Addr} {code:Value} {around:Env} {builtins:Addr} {Q:Env→Shared→Prop}
  (h:Q (newEnv scope s.heap.objs.size globals (cellsFrom (s.heap.objs.size+1) scope.names closure) qual func code (some around) builtins)
   {s with heap:=pushCells (s.heap.push {cls:= .type "dict",data:= .dict #[]}) scope.names}):
  wpAny M A (newFunctionEnv scope globals closure [] qual func code (some around) builtins) Q E s:=by
 simp only[newFunctionEnv,Option.isSome_some,if_true]
 refine wpAny_bind (wpAny_alloc ?_)
 refine wpAny_bind (wpAny_layCells _ (fun n k c=>rfl) scope.names closure _ _ ?_)
 rw[show ({s with heap:=s.heap.push {cls:= .type "dict",data:= .dict #[]}}:Shared).heap.objs.size=s.heap.objs.size+1 from Heap.size_push ..]
 rw[List.forIn_nil]
 exact wpAny_bind (wpAny_pure (wpAny_pure h))
theorem lookup_relS {sc:Scope}:∀{names:List (Str×NameKind)} {x:Str} {k:NameKind},
  (names.map fun(n,k)=>if (k==NameKind.free&&sc.kind== .function&&sc.names.lookup n==some .cell) then(n,NameKind.cell) else(n,k)).lookup x=some k→
  ∃k',names.lookup x=some k'∧(k=k'∨(k'= .free∧k= .cell))
 | [],_,_,h=>by simp at h
 |(n,k₀)::r,x,k,h=>by
  have ih:= @lookup_relS sc r x k
  have h':List.lookup x ((if (k₀==NameKind.free&&sc.kind== .function&&sc.names.lookup n==some .cell)=true then(n,NameKind.cell) else(n,k₀))::(r.map _))=some k:=h
  cases hx:x==n with
  |true=>
   simp only[List.lookup_cons,hx]
   by_cases hc:(k₀==NameKind.free&&sc.kind== .function&&sc.names.lookup n==some .cell)=true
   ·rw[if_pos hc] at h'
    simp only[List.lookup_cons,hx] at h'
    cases h'
    simp only[Bool.and_eq_true,beq_iff_eq] at hc
    exact⟨k₀,rfl,.inr ⟨hc.1.1,rfl⟩⟩
   ·rw[if_neg hc] at h'
    simp only[List.lookup_cons,hx] at h'
    cases h'
    exact⟨_,rfl,.inl rfl⟩
  |false=>
   simp only[List.lookup_cons,hx]
   by_cases hc:(k₀==NameKind.free&&sc.kind== .function&&sc.names.lookup n==some .cell)=true
   ·rw[if_pos hc] at h'
    simp only[List.lookup_cons,hx] at h'
    exact ih h'
   ·rw[if_neg hc] at h'
    simp only[List.lookup_cons,hx] at h'
    exact ih h'
structure BlkOk (N:List Str) (sc scope:Scope) (own:List (Str×Nat)):Prop where
 kind:scope.kind= .function
 uniq:∀y∈scope.names,scope.names.lookup y.1=some y.2
 ix:∀p∈own,N[p.2]?=some p.1
 free:∀y∈scope.names,y.2= .free→sc.names.lookup y.1=some .cell∨sc.names.lookup y.1=some .free
 own:∀y∈scope.names,y.2= .local∨y.2= .cell→y.1∈own.map (·.1)∨y.1∉N
noncomputable def wipe (σ:St):List Nat→St
 | []=>σ
 |v::vs=>(wipe σ vs).set v none
theorem wipe_length (σ:St):∀vs:List Nat,(wipe σ vs).length=σ.length
 | []=>rfl
 |v::vs=>by unfold wipe;rw[List.length_set,wipe_length σ vs]
theorem wipe_some {σ:St} {i:Nat} {x:V}:∀{vs:List Nat},(wipe σ vs)[i]?=some (some x)→σ[i]?=some (some x)∧i∉vs
 | [],h=>⟨h,by simp⟩
 |v::vs,h=>by
  unfold wipe at h
  by_cases hi:v=i
  ·subst hi
   by_cases hv:v<(wipe σ vs).length
   ·rw[List.getElem?_set_self hv] at h;cases h
   ·rw[List.getElem?_eq_none (by simpa using hv)] at h;cases h
  ·rw[List.getElem?_set_ne hi] at h
   obtain⟨h1,h2⟩:=wipe_some h
   exact⟨h1,by simp only[List.mem_cons,not_or];exact⟨fun e=>hi e.symm,h2⟩⟩
abbrev Cx.blk (X:Cx) (s:Shared) (H:Hp) (scope:Scope) (cenv:Env) (fp:List Addr):Cx:={X with s_0:=s,H_0:=H,env:=cenv,outer:=X.stack,ex:=fp,fn:=fun x=>scope.names.lookup x==some .cell,pn:= [],xe:=fun _ _=>False}
section
variable {X:Cx} {pins:List (Addr×Obj)} {σ:St} {H:Hp} {s:Shared}
theorem block_start {scope:Scope} {own:List (Str×Nat)} {fp:List Addr} (I:Inv X pins σ H s) (ok:BlkOk X.N X.env.scope scope own) (hN:X.N.Nodup) (hfp:∀b∈fp,FpOk X pins H b∧b<s.heap.objs.size):
  Inv (X.blk s H scope (compEnvC scope (cellsFrom (s.heap.objs.size+1) scope.names (cloFrom X.env.cells scope.names [])) s.heap.objs.size X.env) fp) [] (wipe σ (own.map (·.2))) H {s with heap:=pushCells (s.heap.push {cls:= .type "dict",data:= .dict #[]}) scope.names}:=by
 have hfree:∀y∈scope.names,y.2= .free→∃c,X.env.cells.lookup y.1=some c:=fun y hy e=>by
  rcases ok.free y hy e with k|k
  ·exact I.ok.has _ (.inl k)
  ·exact I.ok.has _ (.inr k)
 generalize hcenv:compEnvC scope (cellsFrom (s.heap.objs.size+1) scope.names (cloFrom X.env.cells scope.names [])) s.heap.objs.size X.env=cenv
 have kp:∀b o,s.heap.get? b=some o→(pushCells (s.heap.push {cls:= .type "dict",data:= .dict #[]}) scope.names).get? b=some o:=fun b o e=>pushCells_keeps _ _ _ _ (Heap.get?_push_of_some _ e)
 have hL:cenv.locals=s.heap.objs.size:=by rw[←hcenv];rfl
 have hcl:cenv.cells=cellsFrom (s.heap.objs.size+1) scope.names (cloFrom X.env.cells scope.names []):=by rw[←hcenv];rfl
 have hsc:cenv.scope=relS scope X.env.scope:=by rw[←hcenv];rfl
 rw[←Heap.size_push s.heap {cls:= .type "dict",data:= .dict #[]}] at hcl
 have cm:∀{y c},(y,c)∈cloFrom X.env.cells scope.names []→X.env.cells.lookup y=some c∧c<s.heap.objs.size:=fun {y c} hm=>by
  rcases cloFrom_mem hm with hm|⟨h1,rfl⟩
  ·cases hm
  ·obtain⟨c,hc⟩:=hfree _ h1 rfl
   rw[hc]
   obtain⟨w,z⟩:=I.cell _ _ hc
   exact⟨rfl,z.lt⟩
 have mem:∀{y c},cenv.cells.lookup y=some c→(X.env.cells.lookup y=some c∧c<s.heap.objs.size)∨(s.heap.objs.size+1≤c∧CellAt (pushCells (s.heap.push {cls:= .type "dict",data:= .dict #[]}) scope.names) c none):=fun {y c} e=>by
  rw[hcl] at e
  rcases cells_mem (PySem.mem_of_lookup e) with hm|⟨_,h2,h3⟩
  ·exact .inl (cm hm)
  ·rw[Heap.size_push] at h2;exact .inr ⟨h2,h3⟩
 have look:∀{y},scope.names.lookup y=some .free→∃c,cenv.cells.lookup y=some c∧X.env.cells.lookup y=some c:=fun {y} hl=>by
  have hy:(y,NameKind.free)∈scope.names:=PySem.mem_of_lookup hl
  obtain⟨c',e'⟩:=mem_lookup (cells_acc (names:=scope.names) (n:=(s.heap.push {cls:= .type "dict",data:= .dict #[]}).objs.size) (cloFrom_has (cells:=X.env.cells) (acc:= []) hy))
  rw[←hcl] at e'
  refine⟨c',e',?_⟩
  rw[hcl] at e'
  rcases cells_mem (PySem.mem_of_lookup e') with hm|⟨h1,_,_⟩
  ·exact(cm hm).1
  ·have:=ok.uniq _ h1
   rw[hl] at this;cases this
 have okB:(X.blk s H scope cenv fp).Ok:=by
  refine⟨I.ok.mod,by show cenv.scope.kind=_;rw[hsc];exact ok.kind,by show cenv.globals=_;rw[←hcenv];exact I.ok.glob,by show cenv.builtins=_;rw[←hcenv];exact I.ok.blt,by show s.heap.objs.size≤cenv.locals;rw[hL];exact Nat.le_refl _,
   fun y z c e1 e2=> ?_,fun y hy=> ?_,fun y c z e=> ?_,I.ok.hd,I.ok.frames,.inl rfl,fun b hb=>⟨?_,fun y c e z=> ?_⟩,I.bs,Nat.le_trans I.ok.bsz I.sz,fun b o e hb=> ?_,fun b hb z=> ?_,I.stack,I.stkFree⟩
  ·have e1:cenv.cells.lookup y=some c:=e1
   have e2:cenv.cells.lookup z=some c:=e2
   rw[hcl] at e1 e2
   refine cells_inj (fun p hp=> ?_) (fun y z c a b=>I.ok.inj y z c (cm a).1 (cm b).1) (PySem.mem_of_lookup e1) (PySem.mem_of_lookup e2)
   rw[Heap.size_push]
   exact Nat.lt_succ_of_lt (cm (y:=p.1) (c:=p.2) hp).2
  ·show∃c,cenv.cells.lookup y=some c
   have key:∀k,cenv.kindOf y=some k→(k= .cell∨k= .free)→∃c,cenv.cells.lookup y=some c:=fun k hk hk'=>by
    unfold Env.kindOf at hk
    rw[hsc] at hk
    obtain⟨k',e,r⟩:=lookup_relS hk
    have:k'= .cell∨k'= .free:=by
     rcases r with rfl|⟨rfl,_⟩
     ·exact hk'
     ·exact .inr rfl
    rcases this with rfl|rfl
    ·obtain⟨c,hm⟩:=cells_has (n:=(s.heap.push {cls:= .type "dict",data:= .dict #[]}).objs.size) (acc:=cloFrom X.env.cells scope.names []) (PySem.mem_of_lookup e)
     obtain⟨c',e'⟩:=mem_lookup hm
     exact⟨c',by rw[hcl];exact e'⟩
    ·obtain⟨c,h1,_⟩:=look e
     exact⟨c,h1⟩
   rcases hy with hy|hy
   ·exact key _ hy (.inl rfl)
   ·exact key _ hy (.inr rfl)
  ·have z:(scope.names.lookup y==some NameKind.cell)=true:=z
   have z:scope.names.lookup y=some .cell:=by simpa using z
   have e:cenv.cells.lookup y=some c:=e
   rw[hcl] at e
   rcases cells_mem (PySem.mem_of_lookup e) with hm|⟨_,h2,_⟩
   ·rcases cloFrom_mem hm with hm|⟨h1,_⟩
    ·cases hm
    ·have q:=ok.uniq _ h1
     rw[z] at q;cases q
   ·rw[Heap.size_push] at h2
    exact Nat.le_of_succ_le h2
  ·show b≠cenv.locals
   rw[hL];exact Nat.ne_of_lt (hfp b hb).2
  ·have e:cenv.cells.lookup y=some c:=e
   rcases mem e with ⟨h1,_⟩|⟨h1,_⟩
   ·exact(hfp b hb).1.2.2.2.2.1 y c h1 z
   ·have h2:s.heap.objs.size+1≤b:=by rw[←z];exact h1
    exact absurd (Nat.lt_of_lt_of_le (hfp b hb).2 (Nat.le_of_succ_le h2)) (Nat.lt_irrefl _)
  ·rcases(hfp b hb).1.2.2.2.1 with z|z
   ·exact I.ok.noex b o e z
   ·exact absurd (Nat.lt_of_lt_of_le (Heap.lt_size e) (Nat.le_trans I.ok.bsz z)) (Nat.lt_irrefl _)
  ·rcases List.mem_cons.mp (I.stkSub b z) with z|z
   ·exact(hfp b hb).1.2.1 z
   ·exact(hfp b hb).1.2.2.1 z
 refine⟨okB,rfl,I.bare,Un.kept kp,⟨fun _=>none,?_,fun i y av e1 e2 e3=> ?_⟩,fun y c e=> ?_,?_,fun y c e=> ?_,fun p hp=> ?_,I.hok.kept kp,by rw[wipe_length];exact I.len⟩
 ·show Heap.Ns _ cenv.locals _
  rw[hL]
  exact Heap.Ns.keeps (Heap.Ns.new ..) fun b o e=>pushCells_keeps _ _ _ _ e
 ·obtain⟨e2,hne⟩:=wipe_some e2
  have hfr:scope.names.lookup y=some .free∧(cenv.kindOf y=some .cell∨cenv.kindOf y=some .free):=by
   have key:∀k,cenv.scope.names.lookup y=some k→k= .local∨k= .cell∨k= .free→scope.names.lookup y=some .free∧(cenv.kindOf y=some .cell∨cenv.kindOf y=some .free):=fun k hk hk'=>by
    have hk0:=hk
    rw[hsc] at hk
    obtain⟨k',e,r⟩:=lookup_relS hk
    have no:¬(k'= .local∨k'= .cell):=fun hh=>by
     rcases ok.own _ (PySem.mem_of_lookup e) hh with e'|e'
     ·obtain⟨p,hp,hpy⟩:=List.mem_map.mp e'
      have e3:=ok.ix p hp
      have:p.1=y:=hpy
      rw[this] at e3
      exact hne (List.mem_map.mpr ⟨p,hp,nodup_ix hN e3 e1⟩)
     ·exact e' (List.mem_of_getElem? e1)
    rcases r with rfl|⟨rfl,rfl⟩
    ·rcases hk' with rfl|rfl|rfl
     ·exact absurd (.inl rfl) no
     ·exact absurd (.inr rfl) no
     ·exact⟨e,.inr hk0⟩
    ·exact⟨e,.inl hk0⟩
   have e3:Vis cenv.scope y:=e3
   rcases e3 with e3|e3|e3
   ·exact key _ e3 (.inl rfl)
   ·exact key _ e3 (.inr (.inl rfl))
   ·exact key _ e3 (.inr (.inr rfl))
  obtain⟨m,hn,hl⟩:=I.loc
  have hvis:Vis X.env.scope y:=(ok.free _ (PySem.mem_of_lookup hfr.1) rfl).elim (fun k=> .inr (.inl k)) (fun k=> .inr (.inr k))
  obtain⟨w,r,q⟩:=hl i y av e1 e2 hvis
  refine⟨w,r,.inr ⟨hfr.2,?_⟩⟩
  obtain⟨c,h1,h2⟩:=look hfr.1
  rcases q with ⟨k,_⟩|⟨_,c',e',z⟩
  ·have k:X.env.scope.names.lookup y=some .local:=k
   rcases ok.free _ (PySem.mem_of_lookup hfr.1) rfl with k'|k'<;>rw[show X.env.scope.names.lookup y=_ from k'] at k<;>cases k
  ·rw[h2] at e';cases e'
   exact⟨c,h1,z.keeps kp⟩
 ·have e:cenv.cells.lookup y=some c:=e
  rcases mem e with ⟨h1,_⟩|⟨_,z⟩
  ·obtain⟨w,z⟩:=I.cell y c h1
   exact⟨w,z.keeps kp⟩
  ·exact⟨_,z⟩
 ·show H cenv.locals=none
  rw[hL];exact I.hok.fresh (Nat.le_refl _)
 ·have e:cenv.cells.lookup y=some c:=e
  rcases mem e with ⟨h1,_⟩|⟨h1,_⟩
  ·exact I.freeC y c h1
  ·exact I.hok.fresh (Nat.le_of_succ_le h1)
 ·exact absurd (show p∈([]:List (Addr×Obj))++ [] from hp) (by simp)
theorem app_ok {E:Value→Shared→Prop} {D:Addr} {xs:List V} {y:V} {v:Value} {Q:Value→Shared→Prop} (I:Inv X pins σ H s) (hD:H D=some (.lst xs)) (hz:xs.length<sizeLine) (r:RelV y v)
  (h:∀s',Inv X pins σ (upd H D (.lst (xs++ [y]))) s'→Q .none s'):wpAny (model X.prog X.w) X.A (call (.builtin "list.append") [.ref D,v]) Q E s:=by
 obtain⟨hz',its,n,ri,e⟩:=I.hok D _ hD
 have hl:=ri.length
 refine append_at (hsz:=by rw[List.size_toArray];omega) e fun h' sb ho'=> ?_
 refine h {s with heap:=h'} (I.write (t':=s.toks) (by rw[hD];trivial) (.inl rfl) (fun b u hb q=>(sb.2 b hb).trans q) ⟨_,ho'⟩ ⟨by rw[List.length_append];exact hz,its++ [v],n+1,ri.append (.cons r .nil),?_⟩)
 rw[ho']
 simp
def PTs (X:Cx) (ifs:List Expr) (t:TT):Prop:=
 ∀(pins:List (Addr×Obj)) (s:Shared) (σ:St) (H:Hp) (Q:Bool→Hp→Prop),Inv X pins σ H s→t σ H Q→
  wpAny (model X.prog X.w) X.A (forIn ifs true fun c r=>if r=true then do let ok←isTrue c X.env (eval c X.env);pure (ForInStep.yield ok) else pure (ForInStep.yield r)) (TP X pins σ Q) X.xe s
def tYes:TT:=fun _ H Q=>Q true H
theorem pts_nil:PTs X [] tYes:=fun _ _ _ H _ I h=>wpAny_tests_nil ⟨H,I,h⟩
theorem pts_one {c:Expr} {t:TT} (h:PT X c t):PTs X [c] t:=fun pins s σ H Q I hw=>wpAny_tests_one (h pins s σ H Q I hw)
end
theorem thnF {α:Type} {t:Sem α} {Q Q':α→Shared→Prop} {M:Model} {A:Around} {E:Value→Shared→Prop} {s:Shared} (h:wpAny M A t Q (fun _ _=>False) s) (hQ:∀a s,Q a s→Q' a s):wpAny M A t Q' E s:=wpAny_mono h hQ fun _ _ z=>False.elim z
theorem compLoop_any {prog:Program} {w:World} {A:Around} {R:Result→Shared→Prop} {s:Shared} {elt target iter:Expr} {ifs:List Expr} {scope:Scope} {pos:Pos} {it acc:Value} {env:Env} (I:Nat→Shared→Prop)
  (turn:∀n s,I n s→wpAny (model prog w) A (pyNext it) (fun r s₁=>match r with
   |none=>R (.ok .next) s₁
   |some v=>wpAny (model prog w) A (letOwnedTupleGo target it v) (fun _ s₁'=>wpAny (model prog w) A (assign target env v) (fun _ s₂=>
     wpAny (model prog w) A (forIn ifs true fun c r=>if r=true then do let ok←isTrue c env (eval c env);pure (ForInStep.yield ok) else pure (ForInStep.yield r)) (fun ok s₃=>
      if ok=true then wpAny (model prog w) A (eval elt env) (fun x s₄=>
       wpAny (model prog w) A (call (.builtin "list.append") [acc,x]) (fun _ s₅=>∃m,m<n∧I m s₅) (notedBy (model prog w) A env fun e s'=>R (.error e) s') s₄) (notedBy (model prog w) A env fun e s'=>R (.error e) s') s₃
      else∃m,m<n∧I m s₃) (notedBy (model prog w) A env fun e s'=>R (.error e) s') s₂) (notedBy (model prog w) A env fun e s'=>R (.error e) s') s₁') (notedBy (model prog w) A env fun e s'=>R (.error e) s') s₁) (notedBy (model prog w) A env fun e s'=>R (.error e) s') s)
  (n:Nat) (h:I n s):
  codeAny (model prog w) A (.compLoop (.ListComp elt [⟨target,iter,ifs,0⟩] scope pos) 0 it acc env) R s:=by
 refine codeAny_loop rfl I (fun n s hI=> ?_) n h
 show wpAny _ A ((compTurn (.ListComp elt [⟨target,iter,ifs,0⟩] scope pos) 0 it acc env).onRaise (fun x=>do noteFrame x env;theTreesLotGoes x)) _ _ s
 refine wpAny_noted ?_
 rw[compTurn_list]
 refine wpAny_bind (wpAny_standAt (wpAny_bind (wpAny_mono (turn n s hI) (fun r s₁ h₁=> ?_) fun _ _ h'=>h')))
 cases r with
 |none=>exact wpAny_pure h₁
 |some v=>
  refine wpAny_bind (wpAny_mono h₁ (fun _ s₁' h₁'=> ?_) fun _ _ h'=>h')
  refine wpAny_bind (wpAny_mono h₁' (fun _ s₂ h₂=>wpAny_bind (wpAny_mono h₂ (fun ok s₃ h₃=> ?_) fun _ _ h'=>h')) fun _ _ h'=>h')
  cases ok with
  |false=>exact wpAny_pure ⟨rfl,h₃⟩
  |true=>
   exact wpAny_bind (wpAny_bind (wpAny_mono h₃ (fun x s₄ h₄=>wpAny_bind (wpAny_mono h₄ (fun _ s₅ h₅=>wpAny_pure (wpAny_pure ⟨rfl,h₅⟩)) fun _ _ h'=>h')) fun _ _ h'=>h'))
section
variable {X:Cx}
def tLc (wi:TI) (g:TG) (tt:TT) (te:TE) (vs:List Nat):TE:=fun σ H Q=>wi σ H fun J H1=>∀D,H1 D=none→∃W:Nat→Nat→Hp→Prop,(∃m,W 0 m (upd H1 D (.lst [])))∧∀i m H,W i m H→
 (J.stop i H∧Q (.ref D) H)∨(J.go i H∧∃Nx:Hp→Prop,(∀H',Nx H'→∃m',m'<m∧W (i+1) m' H')∧∀x H',J.yld i H x H'→g x (wipe σ vs) H' fun σ2 H2=>wipe σ2 vs=wipe σ vs∧tt σ2 H2 fun b H3=>
  if b=true then te σ2 H3 fun y H4=>∃acc,H4 D=some (.lst acc)∧acc.length<sizeLine∧Nx (upd H4 D (.lst (acc++ [y]))) else Nx H3)
theorem lc_core {pins:List (Addr×Obj)} {s:Shared} {σ:St} {H:Hp} {Q:VK} {elt tg iter:Expr} {ifs:List Expr} {scope:Scope} {own:List (Str×Nat)} {pos pos':Pos} {wi:TI} {g:TG} {tt:TT} {te:TE} {use:Option (Value→Sem Unit)} {Qf:Value→Shared→Prop}
  (hc:X.calm=true) (hN:X.N.Nodup) (I:Inv X pins σ H s) (hi:PI X tg iter wi) (ok:BlkOk X.N X.env.scope scope own)
  (hg:∀(s:Shared) (H:Hp) (C:Addr) (cl:List (Str×Addr)) (fp:List Addr),PG (X.blk s H scope (compEnvC scope cl C X.env) fp) tg g) (ht:∀(s:Shared) (H:Hp) (C:Addr) (cl:List (Str×Addr)) (fp:List Addr),PTs (X.blk s H scope (compEnvC scope cl C X.env) fp) ifs tt)
  (he:∀(s:Shared) (H:Hp) (C:Addr) (cl:List (Str×Addr)) (fp:List Addr),PE (X.blk s H scope (compEnvC scope cl C X.env) fp) elt te) (hs:∀x,foldedSetIterable iter X.env x=pure x)
  (h:tLc wi g tt te (own.map (·.2)) σ H Q)
  (hRR:∀D C s' m H',Inv X pins σ H' s'→Q (.ref D) H'→s'.heap.Ns C m→FpOk X pins H' C→compPost (model X.prog X.w) X.A X.xe use Qf (.ref D) C (.ok .next) s'):
  wpAny (model X.prog X.w) X.A (comprehension (.ListComp elt [⟨tg,iter,ifs,0⟩] scope pos) scope X.env pos' (newList []) false (eval iter X.env) use) Qf X.xe s:=by
 have hfree:∀y∈scope.names,y.2= .free→∃c,X.env.cells.lookup y.1=some c:=fun y hy e=>by
  rcases ok.free y hy e with k|k
  ·exact I.ok.has _ (.inl k)
  ·exact I.ok.has _ (.inr k)
 refine wpAny_comprehension_free (use:=use) rfl hs (closure_ok hfree) ok.kind (fun y hy e=>by rw[ok.uniq y hy,e])
  (thn (hi pins s σ H _ I h) fun xv s1 hx=>thn hx fun itv s2 h2=> ?_)
 obtain⟨it,fp,tn,J,H2,e,I2,T,st2,f2,q⟩:=h2
 subst e
 refine wpAny_newObj_type (newEnv_comp ?_) (by show 0≤sizeLine;decide)
 generalize hD:s2.heap.objs.size=D
 have hDn:H2 D=none:=I2.hok.fresh (Nat.le_of_eq hD)
 obtain⟨W,⟨m0,w0⟩,turn⟩:=q D hDn
 generalize hs3:({s2 with heap:=s2.heap.push {cls:= .type "list",data:= .seq ([]:List Value).toArray}}:Shared)=s3
 have I3:Inv X pins σ (upd H2 D (.lst [])) s3:=by
  rw[←hs3]
  refine I2.laid (t':=s2.toks) (fun b o e=>Heap.get?_push_of_some _ e) (Nat.le_of_eq hD) ⟨Nat.zero_le _,[],0,.nil,?_⟩
  rw[←hD]
  exact Heap.get?_push_size _ rfl
 have h3:s3.heap=s2.heap.push {cls:= .type "list",data:= .seq ([]:List Value).toArray}:=by rw[←hs3]
 have sz:∀b∈fp,b<s2.heap.objs.size:=fun b hb=>by
  obtain⟨o,e,_⟩:=T.obj _ _ st2 b hb
  exact Heap.lt_size e
 have f3:∀b∈fp,FpOk X pins (upd H2 D (.lst [])) b∧b<s3.heap.objs.size:=fun b hb=>by
  have hlt:=sz b hb
  refine⟨⟨?_,(f2 b hb).2⟩,by rw[h3,Heap.size_push];exact Nat.lt_succ_of_lt hlt⟩
  rw[upd_ne (by rw[←hD];exact Nat.ne_of_lt hlt)]
  exact(f2 b hb).1
 have st3:tn 0 s3.heap:=T.keep _ _ _ st2 fun b _ o e=>by rw[h3];exact Heap.get?_push_of_some _ e
 have I4:=block_start I3 ok hN f3
 have pg:=hg s3 (upd H2 D (.lst [])) s3.heap.objs.size (cellsFrom (s3.heap.objs.size+1) scope.names (cloFrom X.env.cells scope.names [])) fp
 have pt:=ht s3 (upd H2 D (.lst [])) s3.heap.objs.size (cellsFrom (s3.heap.objs.size+1) scope.names (cloFrom X.env.cells scope.names [])) fp
 have pe:=he s3 (upd H2 D (.lst [])) s3.heap.objs.size (cellsFrom (s3.heap.objs.size+1) scope.names (cloFrom X.env.cells scope.names [])) fp
 show codeAny _ _ (.compStart (.ListComp elt [⟨tg,iter,ifs,0⟩] scope pos) 0 (.ref it) (.ref D) (compEnvC scope (cellsFrom (s3.heap.objs.size+1) scope.names (cloFrom X.env.cells scope.names [])) s3.heap.objs.size X.env)) (compPost (model X.prog X.w) X.A X.xe use Qf (.ref D) s3.heap.objs.size) {s3 with heap:=pushCells (s3.heap.push {cls:= .type "dict",data:= .dict #[]}) scope.names}
 have nfp:∀b∈fp,(upd H2 D (.lst [])) b=none:=fun b hb=>(f3 b hb).1.1
 generalize hce:compEnvC scope (cellsFrom (s3.heap.objs.size+1) scope.names (cloFrom X.env.cells scope.names [])) s3.heap.objs.size X.env=ce at I4 pg pt pe⊢
 have cL:ce.locals=s3.heap.objs.size:=by subst hce;rfl
 generalize hH3:upd H2 D (.lst [])=H3 at I3 I4 pg pt pe w0 nfp f3
 generalize hs4:({s3 with heap:=pushCells (s3.heap.push {cls:= .type "dict",data:= .dict #[]}) scope.names}:Shared)=s4 at I4⊢
 have st4:tn 0 s4.heap:=T.keep _ _ _ st3 fun b _ o e=>by rw[←hs4];exact pushCells_keeps _ _ _ _ (Heap.get?_push_of_some _ e)
 have stat:∀{σ':St} {H':Hp} {s':Shared},Inv (X.blk s3 H3 scope ce fp) [] σ' H' s'→(∀b∈fp,H' b=none)→∀b∈fp,FpOk (X.blk s3 H3 scope ce fp) [] H' b:=fun {σ' H' s'} I' hn b hb=>
  ⟨hn b hb,(I'.ok.exf b hb).1,I'.ok.exfs b hb,.inl hb,fun x c e=>(I'.ok.exf b hb).2 x c e,fun p hp=>absurd (show p∈([]:List (Addr×Obj))++ [] from hp) (by simp)⟩
 have loop:codeAny (model X.prog X.w) X.A (.compLoop (.ListComp elt [⟨tg,iter,ifs,0⟩] scope pos) 0 (.ref it) (.ref D) ce) (compPost (model X.prog X.w) X.A X.xe use Qf (.ref D) s3.heap.objs.size) s4:=by
  refine compLoop_any (fun n s'=>∃i H',Inv (X.blk s3 H3 scope ce fp) [] (wipe σ (own.map (·.2))) H' s'∧tn i s'.heap∧(∀b∈fp,H' b=none)∧W i n H') ?_ m0 ⟨0,H3,I4,st4,nfp,w0⟩
  rintro n s5 ⟨i,H5,I5,st5,n5,w5⟩
  rcases turn i n H5 w5 with ⟨stop,qq⟩|⟨go,Nx,hNx,step⟩
  ·have td:=T.done (X.blk s3 H3 scope ce fp) rfl rfl rfl hc i [] s5 _ H5 (fun _ _=>False) I5 (stat I5 n5) st5 stop
   refine thnF td fun r s6 ⟨hr,I6⟩=> ?_
   subst hr
   have I7:Inv X pins σ H5 s6:=I3.call' (ch:=fp) I6.os I6.base I6.hok I6.bare fun b hb=>⟨(f3 b hb).1.2.2.2.1,(f3 b hb).1.2.1,(f3 b hb).1.2.2.2.2.1,(f3 b hb).1.2.2.2.2.2⟩
   have nC:H5 s3.heap.objs.size=none:=by
    have z:H5 ce.locals=none:=I6.free
    rw[cL] at z
    exact z
   obtain⟨m,hn,_⟩:=I6.loc
   have hn:s6.heap.Ns ce.locals m:=hn
   rw[cL] at hn
   exact hRR D s3.heap.objs.size s6 m H5 I7 qq hn (I3.fpOk (Nat.le_refl _) nC)
  ·have ti:=T.item (X.blk s3 H3 scope ce fp) rfl rfl rfl hc i [] s5 _ H5 (fun _ _=>False) I5 (stat I5 n5) st5 go
   refine thnF ti fun r s6 ⟨u,hr,h6⟩=> ?_
   subst hr
   refine thnF h6 fun _ s7 ⟨x,H7,I7,r7,y7,st7,n7⟩=> ?_
   have I7':=I7.pinned (stat I7 n7) (T.obj _ _ st7)
   refine thnF (pg _ s7 _ H7 x u _ I7' r7 (step x H7 y7)) fun _ s8 ⟨σ8,H8,I8,hw8,q8⟩=> ?_
   refine thnF (pt _ s8 σ8 H8 _ I8 q8) fun b s9 ⟨H9,I9,q9⟩=> ?_
   have fin:∀{s':Shared} {H':Hp},Inv (X.blk s3 H3 scope ce fp) ([]++pinsAt fp s7.heap) σ8 H' s'→Nx H'→∃m,m<n∧∃i H',Inv (X.blk s3 H3 scope ce fp) [] (wipe σ (own.map (·.2))) H' s'∧tn i s'.heap∧(∀b∈fp,H' b=none)∧W i m H':=fun {s' H'} I' nx=>by
    obtain⟨m',hm,w'⟩:=hNx H' nx
    have pin':∀b∈fp,∀o,s7.heap.get? b=some o→s'.heap.get? b=some o∧H' b=none:=fun b hb o e=>
     let z:=I'.pin (b,o) (List.mem_append_right _ (List.mem_append_right _ (mem_pinsAt hb e)))
     ⟨z.1,z.2.1⟩
    have hl:(wipe σ (own.map (·.2))).length=σ8.length:=by rw[←hw8,wipe_length]
    refine⟨m',hm,i+1,H',(I'.unpinned (pins:= [])).weak hl (fun j v e=> ?_),T.keep _ _ _ st7 fun b hb o e=>(pin' b hb o e).1,fun b hb=> ?_,w'⟩
    ·rw[←hw8] at e
     exact(wipe_some e).1
    ·obtain⟨o,e,_⟩:=T.obj _ _ st7 b hb
     exact(pin' b hb o e).2
   cases b with
   |false=>
    simp only[Bool.false_eq_true,if_false] at q9⊢
    exact fin I9 q9
   |true=>
    simp only[if_true] at q9⊢
    refine thnF (pe _ s9 σ8 H9 _ I9 q9) fun z s10 ⟨yv,H10,I10,r10,acc,hD10,hz10,nx⟩=> ?_
    exact app_ok (X:=X.blk s3 H3 scope ce fp) I10 hD10 hz10 r10 fun s11 I11=>fin I11 nx
 exact codeAny_compStart_list loop (T.self X.A 0 _ _ _ st4 loop)
theorem pe_lc {elt tg iter:Expr} {ifs:List Expr} {scope:Scope} {own:List (Str×Nat)} {pos:Pos} {wi:TI} {g:TG} {tt:TT} {te:TE} (hc:X.calm=true) (hN:X.N.Nodup) (hi:PI X tg iter wi) (ok:BlkOk X.N X.env.scope scope own)
  (hg:∀(s:Shared) (H:Hp) (C:Addr) (cl:List (Str×Addr)) (fp:List Addr),PG (X.blk s H scope (compEnvC scope cl C X.env) fp) tg g) (ht:∀(s:Shared) (H:Hp) (C:Addr) (cl:List (Str×Addr)) (fp:List Addr),PTs (X.blk s H scope (compEnvC scope cl C X.env) fp) ifs tt)
  (he:∀(s:Shared) (H:Hp) (C:Addr) (cl:List (Str×Addr)) (fp:List Addr),PE (X.blk s H scope (compEnvC scope cl C X.env) fp) elt te) (hs:∀x,foldedSetIterable iter X.env x=pure x:=by intro _;rfl):
  PE X (.ListComp elt [⟨tg,iter,ifs,0⟩] scope pos) (tLc wi g tt te (own.map (·.2))):=by
 intro pins s σ H Q I h
 rw[eval_ListComp]
 refine lc_core hc hN I hi ok hg ht he hs h fun D C s' m H' I' q hn f=>⟨m,hn,fun h'' sb=> ?_⟩
 obtain⟨f0,f1,f2,f3,f4,f5⟩:=f
 exact⟨.ref D,H',I'.turned (t':=s'.toks) (fun b o hb e=>(sb.2 b hb).trans e) f0 f1 f3 f4 f5,rfl,q⟩
theorem ps_setLc {i:Nat} {y:Str} {py:Pos} {elt tg iter:Expr} {ifs:List Expr} {scope:Scope} {own:List (Str×Nat)} {pos spos:Pos} {wi:TI} {g:TG} {tt:TT} {te:TE} (hc:X.calm=true) (hN:X.N.Nodup) (hy:X.N[i]?=some y) (hyl:X.env.scope.names.lookup y=some .local)
  (hsw:swapsWith (.ListComp elt [⟨tg,iter,ifs,0⟩] scope pos) (some (.Name y py)) spos.line X.env=pure true) (hi:PI X tg iter wi) (ok:BlkOk X.N X.env.scope scope own)
  (hg:∀(s:Shared) (H:Hp) (C:Addr) (cl:List (Str×Addr)) (fp:List Addr),PG (X.blk s H scope (compEnvC scope cl C X.env) fp) tg g) (ht:∀(s:Shared) (H:Hp) (C:Addr) (cl:List (Str×Addr)) (fp:List Addr),PTs (X.blk s H scope (compEnvC scope cl C X.env) fp) ifs tt)
  (he:∀(s:Shared) (H:Hp) (C:Addr) (cl:List (Str×Addr)) (fp:List Addr),PE (X.blk s H scope (compEnvC scope cl C X.env) fp) elt te) (hs:∀x,foldedSetIterable iter X.env x=pure x:=by intro _;rfl):
  PS X (.Assign [.Name y py] (.ListComp elt [⟨tg,iter,ifs,0⟩] scope pos) spos) (tAsg (tLc wi g tt te (own.map (·.2))) (gName i)):=by
 intro pins s σ H D I h
 rw[exec_Assign_Name_used _ _ _ _ hsw]
 refine wpAny_bind (wpAny_standAt (wpAny_bind ?_))
 show wpAny _ X.A (do let _←comprehension (.ListComp elt [⟨tg,iter,ifs,0⟩] scope pos) scope X.env (firstIterPos [⟨tg,iter,ifs,0⟩] pos) (newList []) false (eval iter X.env) (some (assign (.Name y py) X.env))) _ _ s
 have h:tLc wi g tt te (own.map (·.2)) σ H (fun x H1=>gName i x σ H1 D.nx):=h
 refine wpAny_bind (thn (lc_core (Qf:=fun _ s'=>SP X pins D .next s') hc hN I hi ok hg ht he hs h fun L C s' m H' I' q hn f=> ?_) fun _ s' hq=>wpAny_pure (wpAny_pure hq))
 show wpAny _ _ (assign (.Name y py) X.env (.ref L)) _ _ _
 refine wpAny_assign_Name (store_ok2 (v:=V.ref L) I' hN hy (.inl hyl) rfl (fun s2 I2 ⟨a,sb,ha⟩=> ?_) (.inr hyl))
 obtain⟨f0,f1,f2,f3,f4,f5⟩:=f
 have haC:C≠a:=by
  rcases ha with z|z
  ·rw[z];exact f1
  ·exact fun e=>f4 y a z e.symm
 refine⟨m,hn.sameBut sb haC,fun h3 sb3=> ?_⟩
 exact⟨_,H',I2.turned (t':=s2.toks) (fun b o hb e=>(sb3.2 b hb).trans e) f0 f1 f3 f4 f5,q⟩
theorem sw_true {elt:Expr} {gs:List Comprehension} {scope:Scope} {pos py:Pos} {y:Str} {l:Nat} {env:Env} (hk:env.scope.kind= .function) (hy:env.scope.names.lookup y=some .local) (hl:(py.line==pos.line)=true)
  (ha:(scope.names.any fun(n,k)=>n==y&&(k== .local||k== .cell))=false):swapsWith (.ListComp elt gs scope pos) (some (.Name y py)) l env=pure true:=by
 have ky:env.kindOf y=some .local:=hy
 have hb:env.blockKind= .function:=by unfold Env.blockKind;rw[hk];rfl
 unfold swapsWith
 simp only[hb,ky,ha,Expr.pos,hl]
 rfl
end
theorem lc_range {lo:Int} {n:Nat} {g:TG} {tt:TT} {te:TE} {vs:List Nat} {σ:St} {H1:Hp} {D:Addr} {Qd:Hp→Prop} (Pv:Nat→Hp→Prop) (h0:Pv 0 (upd H1 D (.lst [])))
  (hs:∀i H,i<n→Pv i H→g (.int (lo+i)) (wipe σ vs) H fun σ2 H2=>wipe σ2 vs=wipe σ vs∧tt σ2 H2 fun b H3=>
   if b=true then te σ2 H3 fun y H4=>∃acc,H4 D=some (.lst acc)∧acc.length<sizeLine∧Pv (i+1) (upd H4 D (.lst (acc++ [y]))) else Pv (i+1) H3) (hd:∀H,Pv n H→Qd H):
  ∃W:Nat→Nat→Hp→Prop,(∃m,W 0 m (upd H1 D (.lst [])))∧∀i m H,W i m H→
   ((Itr lo n).stop i H∧Qd H)∨((Itr lo n).go i H∧∃Nx:Hp→Prop,(∀H',Nx H'→∃m',m'<m∧W (i+1) m' H')∧∀x H',(Itr lo n).yld i H x H'→g x (wipe σ vs) H' fun σ2 H2=>wipe σ2 vs=wipe σ vs∧tt σ2 H2 fun b H3=>
    if b=true then te σ2 H3 fun y H4=>∃acc,H4 D=some (.lst acc)∧acc.length<sizeLine∧Nx (upd H4 D (.lst (acc++ [y]))) else Nx H3):=by
 refine⟨fun i m H=>m=n-i∧i≤n∧Pv i H,⟨n,by simp,Nat.zero_le _,h0⟩,?_⟩
 rintro i m H ⟨rfl,hi,p⟩
 by_cases hlt:i<n
 ·refine .inr ⟨hlt,Pv (i+1),fun H' p'=>⟨n-(i+1),by omega,rfl,hlt,p'⟩,fun x H' y=> ?_⟩
  obtain⟨e,y⟩:=y
  subst e y
  exact hs i _ hlt p
 ·have e:i=n:=by omega
  subst e
  exact .inl ⟨Nat.le_refl _,hd H p⟩
theorem lc_list {K:PySem.W.Frag} {a:Addr} {xs:List V} {g:TG} {tt:TT} {te:TE} {vs:List Nat} {σ:St} {H1:Hp} {D:Addr} {Qd:Hp→Prop} (Pv:Nat→Hp→Prop) (h0:Pv 0 (upd H1 D (.lst []))) (hl:∀i H,i≤xs.length→Pv i H→SqL K H a xs)
  (hs:∀i x H,xs[i]?=some x→Pv i H→g x (wipe σ vs) H fun σ2 H2=>wipe σ2 vs=wipe σ vs∧tt σ2 H2 fun b H3=>
   if b=true then te σ2 H3 fun y H4=>∃acc,H4 D=some (.lst acc)∧acc.length<sizeLine∧Pv (i+1) (upd H4 D (.lst (acc++ [y]))) else Pv (i+1) H3) (hd:∀H,Pv xs.length H→Qd H):
  ∃W:Nat→Nat→Hp→Prop,(∃m,W 0 m (upd H1 D (.lst [])))∧∀i m H,W i m H→
   ((Itl K a).stop i H∧Qd H)∨((Itl K a).go i H∧∃Nx:Hp→Prop,(∀H',Nx H'→∃m',m'<m∧W (i+1) m' H')∧∀x H',(Itl K a).yld i H x H'→g x (wipe σ vs) H' fun σ2 H2=>wipe σ2 vs=wipe σ vs∧tt σ2 H2 fun b H3=>
    if b=true then te σ2 H3 fun y H4=>∃acc,H4 D=some (.lst acc)∧acc.length<sizeLine∧Nx (upd H4 D (.lst (acc++ [y]))) else Nx H3):=by
 refine⟨fun i m H=>m=xs.length-i∧i≤xs.length∧Pv i H,⟨xs.length,by simp,Nat.zero_le _,h0⟩,?_⟩
 rintro i m H ⟨rfl,hi,p⟩
 have q:=hl i H hi p
 by_cases hlt:i<xs.length
 ·refine .inr ⟨⟨xs,xs[i],q,by simp [hlt]⟩,Pv (i+1),fun H' p'=>⟨xs.length-(i+1),by omega,rfl,hlt,p'⟩,fun x H' y=> ?_⟩
  obtain⟨e,y⟩:=y
  subst e
  exact hs i x _ (y xs q) p
 ·have e:i=xs.length:=by omega
  subst e
  exact .inl ⟨⟨xs,q,Nat.le_refl _⟩,hd H p⟩
noncomputable def blkC (N:List Str) (sc scope:Scope) (own:List (Str×Nat)):Bool:=
 (match scope.kind with| .function=>true|_=>false)&&(scope.names.all fun y=>decide (scope.names.lookup y.1=some y.2))&&(own.all fun p=>decide (N[p.2]?=some p.1))&&
  (scope.names.all fun y=>match y.2 with
   | .free=>(match sc.names.lookup y.1 with|some .cell=>true|some .free=>true|_=>false)
   | .local=>decide (y.1∈own.map (·.1))||decide (y.1∉N)
   | .cell=>decide (y.1∈own.map (·.1))||decide (y.1∉N)
   |_=>true)
theorem blkOk_by {N:List Str} {sc scope:Scope} {own:List (Str×Nat)} (h:blkC N sc scope own=true):BlkOk N sc scope own:=by
 unfold blkC at h
 simp only[Bool.and_eq_true,List.all_eq_true,decide_eq_true_eq] at h
 obtain⟨⟨⟨h1,h2⟩,h3⟩,h4⟩:=h
 refine⟨?_,h2,h3,fun y hy e=> ?_,fun y hy e=> ?_⟩
 ·split at h1
  ·assumption
  ·cases h1
 ·have q:=h4 y hy
  simp only[e] at q
  split at q<;>first|exact .inl (by assumption)|exact .inr (by assumption)|cases q
 ·have q:=h4 y hy
  rcases e with e|e<;>(simp only[e,Bool.or_eq_true,decide_eq_true_eq] at q;exact q)
end L2
namespace L2
open PySem PySem.Spec PyProof.Rows
section
variable {κ:Type} [DecidableEq κ]
noncomputable def valV (kvs:List (κ×V)) (k:κ):Option V:=(kvs.find? fun kv=>decide (kv.1=k)).map (·.2)
noncomputable def putK (kvs:List (κ×V)) (k:κ) (v:V):List (κ×V):=
 if (kvs.any fun kv=>decide (kv.1=k))=true then kvs.map (fun kv=>if kv.1=k then(kv.1,v) else kv) else kvs++ [(k,v)]
theorem valV_pos {p:κ×V} {r:List (κ×V)} {k:κ} (e:p.1=k):valV (p::r) k=some p.2:=by simp [valV,List.find?_cons,e]
theorem valV_neg {p:κ×V} {r:List (κ×V)} {k:κ} (e:¬p.1=k):valV (p::r) k=valV r k:=by simp [valV,List.find?_cons,e]
theorem valV_any (k:κ):∀kvs:List (κ×V),(kvs.any fun kv=>decide (kv.1=k))=(valV kvs k).isSome
 | []=>rfl
 |p::r=>by
  rw[List.any_cons]
  by_cases e:p.1=k
  ·simp only[valV_pos e,decide_eq_true e,Bool.true_or,Option.isSome_some]
  ·rw[valV_neg e,decide_eq_false e,Bool.false_or];exact valV_any k r
theorem length_putK (kvs:List (κ×V)) (k:κ) (v:V):(putK kvs k v).length≤kvs.length+1:=by
 unfold putK
 split
 ·rw[List.length_map];omega
 ·rw[List.length_append,List.length_cons,List.length_nil];omega
theorem RelO.isSome_eq {o:Option V} {u:Option Value} (r:RelO o u):o.isSome=u.isSome:=by
 cases o with
 |none=>cases u with
  |none=>rfl
  |some _=>exact(show False from r).elim
 |some _=>cases u with
  |none=>exact(show False from r).elim
  |some _=>rfl
theorem RelO.getD {o:Option V} {u:Option Value} {d:V} {d':Value} (r:RelO o u) (rd:RelV d d'):RelV (o.getD d) (u.getD d'):=by
 cases o with
 |none=>cases u with
  |none=>exact rd
  |some _=>exact(show False from r).elim
 |some _=>cases u with
  |none=>exact(show False from r).elim
  |some _=>exact r
theorem KV.val {kvs:List (κ×V)} {vs:List (κ×Value)} (r:KV kvs vs) (k:κ):RelO (valV kvs k) (valueAt vs k):=by
 unfold KV at r
 induction r with
 |nil=>exact True.intro
 | @cons p q ps qs h t ih=>
  obtain⟨h1,h2⟩:=h
  by_cases e:p.1=k
  ·have e':q.1=k:=h1.symm.trans e
   have b:valueAt (q::qs) k=some q.2:=by simp [valueAt,List.find?_cons,e']
   rw[valV_pos e,b];exact h2
  ·have e':¬q.1=k:=fun z=>e (h1.trans z)
   have b:valueAt (q::qs) k=valueAt qs k:=by simp [valueAt,List.find?_cons,e']
   rw[valV_neg e,b];exact ih
theorem KV.any {kvs:List (κ×V)} {vs:List (κ×Value)} (r:KV kvs vs) (k:κ):(kvs.any fun kv=>decide (kv.1=k))=vs.any fun kv=>decide (kv.1=k):=by
 unfold KV at r
 induction r with
 |nil=>rfl
 |cons h t ih=>rw[List.any_cons,List.any_cons,ih,h.1]
theorem KV.repl {kvs:List (κ×V)} {vs:List (κ×Value)} (r:KV kvs vs) (k:κ) {y:V} {u:Value} (ry:RelV y u):
  KV (kvs.map fun kv=>if kv.1=k then(kv.1,y) else kv) (vs.map fun kv=>if kv.1=k then(kv.1,u) else kv):=by
 unfold KV at r⊢
 induction r with
 |nil=>exact .nil
 | @cons p q ps qs h t ih=>
  rw[List.map_cons,List.map_cons]
  refine .cons ?_ ih
  obtain⟨h1,h2⟩:=h
  by_cases e:p.1=k
  ·rw[if_pos e,if_pos (h1.symm.trans e)];exact⟨h1,ry⟩
  ·rw[if_neg e,if_neg (fun z=>e (h1.trans z))];exact⟨h1,h2⟩
theorem KV.put {kvs:List (κ×V)} {vs:List (κ×Value)} (r:KV kvs vs) (k:κ) {y:V} {u:Value} (ry:RelV y u):KV (putK kvs k y) (stored vs k u):=by
 unfold putK stored
 rw[r.any k]
 by_cases e:(vs.any fun kv=>decide (kv.1=k))=true
 ·rw[if_pos e,if_pos e];exact r.repl k ry
 ·rw[if_neg e,if_neg e];exact Paired.snoc r ⟨rfl,ry⟩
theorem KV.length {kvs:List (κ×V)} {vs:List (κ×Value)} (r:KV kvs vs):kvs.length=vs.length:=Paired.length r
end
theorem kV_is {P:Program} {w:World} {k:Key} {u:Value} (r:RelV (kV k) u):(mixKind P w).is k u=true:=by
 cases k with
 |inl i=>obtain⟨t,e⟩:=(show∃t,u=Value.int i t from r);subst e;exact mixKind_int P w i t
 |inr x=>obtain⟨t,e⟩:=(show∃t,u=Value.str x t from r);subst e;exact mixKind_str P w x t
theorem items_are {P:Program} {w:World}:∀{ks:List Key} {us:List Value},Vals (ks.map kV) us→ItemsAre (mixKind P w) ks us
 | [],_,r=>by rw[List.map_nil] at r;cases r;exact .nil
 |k::ks,_,r=>by
  rw[List.map_cons] at r
  cases r with
  |cons h t=>exact .cons (kV_is h) (items_are t)
abbrev KT (H:Hp):List (List Key×V)→List (List Key×Addr×Value)→Prop:=Paired fun p q=>p.1=q.1∧H q.2.1=some (.tup (p.1.map kV))∧RelV p.2 q.2.2
theorem KT.val {H:Hp} {kvs:List (List Key×V)} {xs:List (List Key×Addr×Value)} (r:KT H kvs xs) (k:List Key):RelO (valV kvs k) ((atKey xs k).map (·.2)):=by
 induction r with
 |nil=>exact True.intro
 | @cons p q ps qs h t ih=>
  obtain⟨h1,_,h2⟩:=h
  by_cases e:p.1=k
  ·have e':q.1=k:=h1.symm.trans e
   have b:atKey (q::qs) k=some q.2:=by simp [atKey,List.find?_cons,e']
   rw[valV_pos e,b];exact h2
  ·have e':¬q.1=k:=fun z=>e (h1.trans z)
   have b:atKey (q::qs) k=atKey qs k:=by simp [atKey,List.find?_cons,e']
   rw[valV_neg e,b];exact ih
theorem KT.repl {H:Hp} {kvs:List (List Key×V)} {xs:List (List Key×Addr×Value)} (r:KT H kvs xs) (k:List Key) {y:V} {u:Value} (ry:RelV y u):
  KT H (kvs.map fun kv=>if kv.1=k then(kv.1,y) else kv) (xs.map (putAt k u)):=by
 induction r with
 |nil=>exact .nil
 | @cons p q ps qs h t ih=>
  rw[List.map_cons,List.map_cons]
  refine .cons ?_ ih
  obtain⟨h1,h2,h3⟩:=h
  unfold putAt
  by_cases e:p.1=k
  ·rw[if_pos e,if_pos (h1.symm.trans e)];exact⟨h1,h2,ry⟩
  ·rw[if_neg e,if_neg (fun z=>e (h1.trans z))];exact⟨h1,h2,h3⟩
theorem KT.put {H:Hp} {kvs:List (List Key×V)} {xs:List (List Key×Addr×Value)} (r:KT H kvs xs) (k:List Key) {b:Addr} {y:V} {u:Value} (hb:H b=some (.tup (k.map kV))) (ry:RelV y u):
  KT H (putK kvs k y) (storedH xs k b u):=by
 have e:(kvs.any fun kv=>decide (kv.1=k))=(atKey xs k).isSome:=by
  rw[valV_any,(r.val k).isSome_eq,Option.isSome_map]
 unfold putK storedH
 rw[e]
 by_cases q:(atKey xs k).isSome=true
 ·rw[if_pos q,if_pos q];exact r.repl k ry
 ·rw[if_neg q,if_neg q];exact Paired.snoc r ⟨rfl,hb,ry⟩
theorem KT.keeps {H H':Hp} {kvs:List (List Key×V)} {xs:List (List Key×Addr×Value)} (r:KT H kvs xs) (ht:∀b ys,H b=some (.tup ys)→H' b=some (.tup ys)):KT H' kvs xs:=
 Paired.mapP r fun _ _ z=>⟨z.1,ht _ _ z.2.1,z.2.2⟩
section
variable {P:Program} {w:World} {H:Hp} {h:Heap} {a:Addr}
theorem rd_of {u:HO} (ok:HOk P w H h) (e:Rd H a u):ObjOk P w H h a u:=e.ok ok
theorem dk_rd {kvs:List (Key×V)} (ok:HOk P w H h) (e:Rd H a (.dK kvs)):kvs.length≤sizeLine∧(a==sysModules)=false∧∃vs,KV kvs vs∧h.DictOf (mixKind P w) a vs:=
 show ObjOk P w H h a (.dK kvs) from rd_of ok e
theorem dk_of {kvs:List (Key×V)} (ok:HOk P w H h) (e:H a=some (.dK kvs)):kvs.length≤sizeLine∧(a==sysModules)=false∧∃vs,KV kvs vs∧h.DictOf (mixKind P w) a vs:=dk_rd ok (.inl e)
theorem key_of {ks:List Key} (ok:HOk P w H h) (e:H a=some (.tup (ks.map kV))):(tupleKind (mixKind P w)).is h ks a:=by
 obtain⟨_,its,r,o,h1,h2,n,h3⟩:=(show ObjOk P w H h a (.tup (ks.map kV)) from ok a _ e)
 exact⟨o,its.toArray,n,h1,h2,h3,by simpa using items_are r⟩
theorem dt_rd {kvs:List (List Key×V)} (ok:HOk P w H h) (e:Rd H a (.dT kvs)):kvs.length≤sizeLine∧(a==sysModules)=false∧
  ∃xs,KT H kvs xs∧h.DictOfH (tupleKind (mixKind P w)) a xs:=by
 obtain⟨z,y,xs,r,o,es,ep,h1,h2,h3,h4,h5⟩:=(show ObjOk P w H h a (.dT kvs) from rd_of ok e)
 refine⟨z,y,xs,r,o,es,ep,h1,h2,h3,h4,fun x hx=> ?_,h5⟩
 have all:∀{l:List (List Key×V)} {m:List (List Key×Addr×Value)},KT H l m→∀x∈m,(tupleKind (mixKind P w)).is h x.1 x.2.1:=by
  intro l m q
  induction q with
  |nil=>intro x hx;exact nomatch hx
  | @cons p q ps qs hq t ih=>
   intro x hx
   rcases List.mem_cons.mp hx with e|hx
   ·subst e
    exact key_of ok (by rw[←hq.1];exact hq.2.1)
   ·exact ih x hx
 exact all r x hx
theorem dt_of {kvs:List (List Key×V)} (ok:HOk P w H h) (e:H a=some (.dT kvs)):kvs.length≤sizeLine∧(a==sysModules)=false∧
  ∃xs,KT H kvs xs∧h.DictOfH (tupleKind (mixKind P w)) a xs:=dt_rd ok (.inl e)
end
def DGet (H:Hp) (a:Addr) (y:V) (r:Option V):Prop:=
 (∃kvs k,Rd H a (.dK kvs)∧y=kV k∧r=valV kvs k)∨∃kvs k b,Rd H a (.dT kvs)∧y= .ref b∧H b=some (.tup (k.map kV))∧r=valV kvs k
def DPut (H:Hp) (a:Addr) (y v:V) (H':Hp):Prop:=
 (∃kvs k,H a=some (.dK kvs)∧y=kV k∧kvs.length<sizeLine∧H'=upd H a (.dK (putK kvs k v)))∨
 ∃kvs k b,H a=some (.dT kvs)∧y= .ref b∧H b=some (.tup (k.map kV))∧kvs.length<sizeLine∧H'=upd H a (.dT (putK kvs k v))
theorem DGet.t {H:Hp} {a b:Addr} {kvs:List (List Key×V)} {k:List Key} (e:H a=some (.dT kvs)) (eb:H b=some (.tup (k.map kV))):DGet H a (.ref b) (valV kvs k):= .inr ⟨kvs,k,b,.inl e,rfl,eb,rfl⟩
theorem DPut.k {H:Hp} {a:Addr} {kvs:List (Key×V)} {k:Key} {v:V} (e:H a=some (.dK kvs)) (hl:kvs.length<sizeLine):DPut H a (kV k) v (upd H a (.dK (putK kvs k v))):= .inl ⟨kvs,k,e,rfl,hl,rfl⟩
theorem DPut.t {H:Hp} {a b:Addr} {kvs:List (List Key×V)} {k:List Key} {v:V} (e:H a=some (.dT kvs)) (eb:H b=some (.tup (k.map kV))) (hl:kvs.length<sizeLine):
  DPut H a (.ref b) v (upd H a (.dT (putK kvs k v))):= .inr ⟨kvs,k,b,e,rfl,eb,hl,rfl⟩
section
variable {X:Cx} {pins:List (Addr×Obj)} {σ:St} {H:Hp} {s:Shared} {a:Addr} {y v:V} {u r:Value} {o:Option V} {A:Around} {E:Value→Shared→Prop}
theorem Inv.big (I:Inv X pins σ H s):sysModules<s.heap.objs.size:=by
 have h:mainGlobals<s.heap.objs.size:=(I.mod.glob.keeps I.bk).lt
 exact Nat.lt_trans (by decide) h
theorem d_getItem {Q:Value→Shared→Prop} (hu:A.units+1<cLine) (I:Inv X pins σ H s) (g:DGet H a y (some v)) (ry:RelV y u) (h:∀w' s',Inv X pins σ H s'→RelV v w'→Q w' s'):
  wpAny (model X.prog X.w) A (getItem (.ref a) u) Q E s:=by
 rcases g with ⟨kvs,k,e,ey,l⟩|⟨kvs,k,b,e,ey,eb,l⟩
 ·subst ey
  obtain⟨z,hd,vs,rel,dd⟩:=dk_rd I.hok e
  obtain⟨w',hw,rw'⟩:=RelO.some_of (v:=v) (o:=valueAt vs k) (by rw[l];exact rel.val k)
  exact wpAny_getItem_of (kV_is ry) dd.mapOf hw (h w' _ (I.tok _) rw')
 ·subst ey
  cases (show u=Value.ref b from ry)
  obtain⟨z,hd,xs,rel,dd⟩:=dt_rd I.hok e
  obtain⟨w',hw,rw'⟩:=RelO.some_of (v:=v) (o:=(atKey xs k).map (·.2)) (by rw[l];exact rel.val k)
  obtain⟨p,hp,hp2⟩:=Option.map_eq_some_iff.mp hw
  refine wpAny_getItem_heap (tupleKind_room_in1 hu) (key_of I.hok eb) dd hp ?_
  rw[hp2]
  exact h w' _ (I.tok _) rw'
theorem d_in {Q:Value→Shared→Prop} (hu:A.units+1<cLine) (I:Inv X pins σ H s) (g:DGet H a y o) (ry:RelV y u) (h:∀s',Inv X pins σ H s'→Q (.bool o.isSome) s'):
  wpAny (model X.prog X.w) A (compareOp .In u (.ref a)) Q E s:=by
 rcases g with ⟨kvs,k,e,ey,l⟩|⟨kvs,k,b,e,ey,eb,l⟩
 ·subst ey
  obtain⟨z,hd,vs,rel,dd⟩:=dk_rd I.hok e
  refine wpAny_in_of (kV_is ry) hd dd.mapOf ?_
  rw[←(rel.val k).isSome_eq,←l]
  exact h _ (I.tok _)
 ·subst ey
  cases (show u=Value.ref b from ry)
  obtain⟨z,hd,xs,rel,dd⟩:=dt_rd I.hok e
  refine wpAny_in_heap (tupleKind_room_in1 hu) (key_of I.hok eb) hd dd ?_
  have q:=(rel.val k).isSome_eq
  rw[Option.isSome_map] at q
  rw[←q,←l]
  exact h _ (I.tok _)
theorem d_notIn {Q:Value→Shared→Prop} (hu:A.units+1<cLine) (I:Inv X pins σ H s) (g:DGet H a y o) (ry:RelV y u) (h:∀s',Inv X pins σ H s'→Q (.bool (!o.isSome)) s'):
  wpAny (model X.prog X.w) A (compareOp .NotIn u (.ref a)) Q E s:=by
 rcases g with ⟨kvs,k,e,ey,l⟩|⟨kvs,k,b,e,ey,eb,l⟩
 ·subst ey
  obtain⟨z,hd,vs,rel,dd⟩:=dk_rd I.hok e
  refine wpAny_notIn_of (kV_is ry) hd dd.mapOf ?_
  rw[←(rel.val k).isSome_eq,←l]
  exact h _ (I.tok _)
 ·subst ey
  cases (show u=Value.ref b from ry)
  obtain⟨z,hd,xs,rel,dd⟩:=dt_rd I.hok e
  refine wpAny_notIn_heap (tupleKind_room_in1 hu) (key_of I.hok eb) hd dd ?_
  have q:=(rel.val k).isSome_eq
  rw[Option.isSome_map] at q
  rw[←q,←l]
  exact h _ (I.tok _)
theorem d_write {h':Heap} {t':Nat} {ob:HO} (I:Inv X pins σ H s) (mu:Mut (H a)) (hs:Heap.SameBut a s.heap h') (he:∃q,h'.get? a=some q) (new:ObjOk X.prog X.w (upd H a ob) h' a ob):
  Inv X pins σ (upd H a ob) {s with heap:=h',toks:=t'}:=
 I.write (x:=a) (e:=a) mu (.inl rfl) (fun b q hb z=>(hs.2 b hb).trans z) he new
theorem dk_new {P:Program} {w:World} {H':Hp} {h':Heap} {kvs:List (Key×V)} {vs:List (Key×Value)} (z:kvs.length≤sizeLine) (hd:(a==sysModules)=false) (rel:KV kvs vs) (dd:h'.DictOf (mixKind P w) a vs):
  ObjOk P w H' h' a (.dK kvs):=⟨z,hd,vs,rel,dd⟩
theorem d_setItem {H':Hp} {Q:Unit→Shared→Prop} (hu:A.units+1<cLine) (I:Inv X pins σ H s) (g:DPut H a y v H') (ry:RelV y u) (rv:RelV v r) (h:∀s',Inv X pins σ H' s'→Q () s'):
  wpAny (model X.prog X.w) A (setItem (.ref a) u r) Q E s:=by
 rcases g with ⟨kvs,k,e,ey,l,eH⟩|⟨kvs,k,b,e,ey,eb,l,eH⟩
 ·subst ey eH
  obtain⟨z,hd,vs,rel,dd⟩:=dk_of I.hok e
  have hz:vs.length≤sizeLine:=by rw[←rel.length];exact z
  have hl:(putK kvs k v).length≤sizeLine:=by have:=length_putK kvs k v;omega
  refine wpAny_setItem_pairs (hsz:=hz) (kV_is ry) dd fun h' dd' hs=>h _ ?_
  have he:∃q,h'.get? a=some q:=let ⟨q,_,_,hq,_⟩:=dd';⟨q,hq⟩
  exact d_write I (by rw[e];exact True.intro) hs he (dk_new hl hd (rel.put k rv) dd')
 ·subst ey eH
  cases (show u=Value.ref b from ry)
  obtain⟨z,hd,xs,rel,dd⟩:=dt_of I.hok e
  have hz:xs.length≤sizeLine:=by rw[←Paired.length rel];exact z
  have hl:(putK kvs k v).length≤sizeLine:=by have:=length_putK kvs k v;omega
  refine wpAny_setItem_heap (hsz:=hz) (tupleKind_room_in1 hu) (key_of I.hok eb) dd fun h' dd' hs=>h _ ?_
  obtain⟨q,es,ep,hq,h2,h3,h4,_,h5⟩:=dd'
  refine d_write I (by rw[e];exact True.intro) hs ⟨q,hq⟩ ⟨hl,hd,_,(rel.put k eb rv).keeps fun c ys ec=> ?_,q,es,ep,hq,h2,h3,h4,h5⟩
  rw[upd_ne (ne_of ec e (fun z=>nomatch z))]
  exact ec
end
def NoSl (i:Expr):Prop:=∀ov iv,subscripted i false ov iv=operate [ov,iv] (getItem ov iv)
theorem subD_of {prog:Program} {w:World} {A:Around} {E:Value→Shared→Prop} {s:Shared} {env:Env} {value slice:Expr} {pos:Pos} {T id:String} {Q:Value→Shared→Prop}
  (hl:typeLookup (.type T) "__getitem__" =pure (some (.builtin id))) (hs:NoSl slice)
  (h:wpAny (model prog w) A (eval value env) (fun o s₁=>wpAny (model prog w) A (eval slice env) (fun i s₂=>s₂.TypeIs o T∧wpAny (model prog w) A (getItem o i) Q E s₂) E s₁) E s):
  wpAny (model prog w) A (eval (.Subscript value slice pos) env) Q E s:=by
 refine Subscript_ (wpAny_mono h (fun o s₁ h₁=>wpAny_mono h₁ (fun i s₂ h₂=> ?_) fun _ _ x=>x) fun _ _ x=>x)
 obtain⟨hT,h₂⟩:=h₂
 unfold subscriptTail
 refine wpAny_bind ?_
 rw[getitemInPython_of_ne hT.not_modules]
 refine wpAny_bind (wpAny_specialOf hT hl ?_)
 have fin:wpAny (model prog w) A (subscripted slice false o i) (fun r s₃=>wpAny (model prog w) A (letTemporaryGo value o r>>=fun _=>pure r) Q E s₃) E s₂:=by
  rw[hs o i]
  exact wpAny_operating (wpAny_mono h₂ (fun r s₃ h₃=>wpAny_bind (wpAny_letTemporaryGo (wpAny_pure h₃))) fun _ _ x=>x)
 first
  |exact wpAny_pure (wpAny_bind fin)
  |exact wpAny_bind (wpAny_pure (wpAny_bind fin))
  |exact wpAny_bind fin
theorem dict_typeIs {X:Cx} {pins:List (Addr×Obj)} {σ:St} {H:Hp} {s:Shared} {a:Addr} {y:V} {o:Option V} (I:Inv X pins σ H s) (g:DGet H a y o):s.TypeIs (.ref a) "dict" :=by
 rcases g with ⟨kvs,k,e,_,_⟩|⟨kvs,k,b,e,_,_,_⟩
 ·obtain⟨_,_,vs,_,dd⟩:=dk_rd I.hok e
  exact dd.typeIs
 ·obtain⟨_,_,xs,_,dd⟩:=dt_rd I.hok e
  exact dd.typeIs
def tDGet (td ty:TE):TE:=fun σ H Q=>td σ H fun x H1=>ty σ H1 fun y H2=>∃a v,x= .ref a∧DGet H2 a y (some v)∧Q v H2
def tDIn (ty td:TE):TE:=fun σ H Q=>ty σ H fun y H1=>td σ H1 fun x H2=>∃a o,x= .ref a∧DGet H2 a y o∧Q (.bl o.isSome) H2
def tDNotIn (ty td:TE):TE:=fun σ H Q=>ty σ H fun y H1=>td σ H1 fun x H2=>∃a o,x= .ref a∧DGet H2 a y o∧Q (.bl (!o.isSome)) H2
def sDPut (td ty tv:TE):TS:=fun D σ H=>tv σ H fun v H1=>td σ H1 fun x H2=>ty σ H2 fun y H3=>∃a H4,x= .ref a∧DPut H3 a y v H4∧D.nx σ H4
def sDAug (td ty tv:TE) (rd:V→V→Hp→VK→Prop):TS:=fun D σ H=>td σ H fun x H1=>ty σ H1 fun y H2=>∃a v,x= .ref a∧DGet H2 a y (some v)∧
 tv σ H2 fun y2 H3=>rd v y2 H3 fun z H4=>∃H5,DPut H4 a y z H5∧D.nx σ H5
section
variable {X:Cx} {o i e value:Expr} {pos pos' tpos:Pos} {td ty tv:TE}
theorem pe_dget (hu:X.A.units+1<cLine) (ho:PE X o td) (hi:PE X i ty) (hs:NoSl i):PE X (.Subscript o i pos) (tDGet td ty):=by
 intro pins s σ H Q I h
 refine subD_of PySem.F.slot_dict_getitem.lookup hs (thn (ho pins s σ H _ I h) fun u s1 ⟨x,H1,I1,rx,q1⟩=>thn (hi pins s1 σ H1 _ I1 q1) fun iv s2 ⟨y,H2,I2,ry,a,v,ex,g,q2⟩=> ?_)
 subst ex
 obtain rfl:u=Value.ref a:=rx
 exact⟨dict_typeIs I2 g,d_getItem hu I2 g ry fun w' s3 I3 rw'=>⟨v,H2,I3,rw',q2⟩⟩
theorem pc_din (hu:X.A.units+1<cLine) (hi:PE X i ty) (ho:PE X o td):PC X .In i o (tDIn ty td):=by
 intro pins s σ H Q I h
 refine thn (hi pins s σ H _ I h) fun iv s1 ⟨y,H1,I1,ry,q1⟩=>thn (ho pins s1 σ H1 _ I1 q1) fun u s2 ⟨x,H2,I2,rx,a,ov,ex,g,q2⟩=> ?_
 subst ex
 obtain rfl:u=Value.ref a:=rx
 exact d_in hu I2 g ry fun s3 I3=>⟨.bl ov.isSome,H2,I3,rfl,q2⟩
theorem pc_dnotin (hu:X.A.units+1<cLine) (hi:PE X i ty) (ho:PE X o td):PC X .NotIn i o (tDNotIn ty td):=by
 intro pins s σ H Q I h
 refine thn (hi pins s σ H _ I h) fun iv s1 ⟨y,H1,I1,ry,q1⟩=>thn (ho pins s1 σ H1 _ I1 q1) fun u s2 ⟨x,H2,I2,rx,a,ov,ex,g,q2⟩=> ?_
 subst ex
 obtain rfl:u=Value.ref a:=rx
 exact d_notIn hu I2 g ry fun s3 I3=>⟨.bl (!ov.isSome),H2,I3,rfl,q2⟩
theorem ps_dput (hu:X.A.units+1<cLine) (ho:PE X o td) (hi:PE X i ty) (hv:PE X value tv) (hs:swapsWith value (some (.Subscript o i pos')) pos.line X.env=pure false):
  PS X (.Assign [.Subscript o i pos'] value pos) (sDPut td ty tv):=by
 intro pins s σ H D I h
 refine wpAny_Assign_Subscript (thn (hv pins s σ H _ I h) fun r s1 ⟨v,H1,I1,rv,q1⟩=>thn (ho pins s1 σ H1 _ I1 q1) fun u s2 ⟨x,H2,I2,rx,q2⟩=>thn (hi pins s2 σ H2 _ I2 q2) fun iv s3 ⟨y,H3,I3,ry,a,H4,ex,g,q3⟩=> ?_) hs
 subst ex
 obtain rfl:u=Value.ref a:=rx
 exact d_setItem hu I3 g ry rv fun s4 I4=>⟨σ,H4,I4,q3⟩
theorem ps_daug {op:Operator} {rd:V→V→Hp→VK→Prop} (hu:X.A.units+1<cLine) (ho:PE X o td) (hi:PE X i ty) (hv:PE X value tv) (hop:InOp X op rd)
  (ha:∀ov iv new,augStore i ov iv new=(do holding [new,ov,iv] (setItem ov iv new);release [new,ov,iv] [];pure .next)):PS X (.AugAssign (.Subscript o i tpos) op value pos) (sDAug td ty tv rd):=by
 intro pins s σ H D I h
 refine wpAny_AugAssign_SubscriptAny (thn (ho pins s σ H _ I h) fun u s1 ⟨x,H1,I1,rx,q1⟩=>thn (hi pins s1 σ H1 _ I1 q1) fun iv s2 ⟨y,H2,I2,ry,a,v,ex,g,q2⟩=> ?_) ha
 subst ex
 obtain rfl:u=Value.ref a:=rx
 refine d_getItem hu I2 g ry fun w' s3 I3 rw'=>thn (hv pins s3 σ H2 _ I3 q2) fun w2 s4 ⟨y2,H3,I4,ry2,q3⟩=>thn (hop pins s4 σ H3 v y2 w' w2 _ I4 rw' ry2 q3) fun w3 s5 ⟨z,H4,I5,rz,H5,g5,q4⟩=> ?_
 exact d_setItem hu I5 g5 ry rz fun s6 I6=>⟨σ,H5,I6,q4⟩
end
theorem dk_empty {P:Program} {w:World} {H:Hp} (h:Heap) (hb:sysModules<h.objs.size):ObjOk P w H (h.push {cls:= .type "dict",data:= .dict #[]}) h.objs.size (.dK []):=
 ⟨Nat.zero_le _,beq_eq_false_iff_ne.mpr (Ne.symm (Nat.ne_of_lt hb)),[],.nil,Heap.DictOf.new h⟩
theorem dt_empty {P:Program} {w:World} {H:Hp} (h:Heap) (hb:sysModules<h.objs.size):ObjOk P w H (h.push {cls:= .type "dict",data:= .dict #[]}) h.objs.size (.dT []):=
 ⟨Nat.zero_le _,beq_eq_false_iff_ne.mpr (Ne.symm (Nat.ne_of_lt hb)),[],.nil,_, #[],0,Heap.get?_push_size _ rfl,⟨rfl,rfl,rfl⟩,rfl,rfl,List.nodup_nil⟩
def tDNewK:TE:=fun _ H Q=>∀p,H p=none→Q (.ref p) (upd H p (.dK []))
def tDNewT:TE:=fun _ H Q=>∀p,H p=none→Q (.ref p) (upd H p (.dT []))
section
variable {X:Cx} {pos:Pos}
theorem pe_dnewK:PE X (.Dict [] [] pos) tDNewK:=fun pins s σ H Q I h=>
 wpAny_Dict_empty ⟨.ref s.heap.objs.size,_,I.laid (a:=s.heap.objs.size) (o:= .dK []) (t':=s.toks) (fun _ _ q=>Heap.get?_push_of_some _ q) (Nat.le_refl _) (dk_empty s.heap I.big),rfl,h _ (I.hok.fresh (Nat.le_refl _))⟩
theorem pe_dnewT:PE X (.Dict [] [] pos) tDNewT:=fun pins s σ H Q I h=>
 wpAny_Dict_empty ⟨.ref s.heap.objs.size,_,I.laid (a:=s.heap.objs.size) (o:= .dT []) (t':=s.toks) (fun _ _ q=>Heap.get?_push_of_some _ q) (Nat.le_refl _) (dt_empty s.heap I.big),rfl,h _ (I.hok.fresh (Nat.le_refl _))⟩
end
structure M1 (X:Cx) (o:Expr) (m:Str) (apos:Pos) (e:Expr) (cpos:Pos):Prop where
 base:attributeBase o m X.env (eval o X.env)=eval o X.env
 few:((backTo cpos (starEach [e] X.env)).all (fun x=> !x.1)&&(backToKw cpos (keywordEach [] X.env)).all (fun x=>x.1.isSome)
  &&decide (([e]:List Expr).length+([]:List Keyword).length+(if ([]:List Keyword).isEmpty then 0 else 1)<30))=true
 line:(apos.endLine==cpos.line)=true
 trees:backTo cpos (starEach [e] X.env)= [(false,eval e X.env)]
structure M2 (X:Cx) (o:Expr) (m:Str) (apos:Pos) (e f:Expr) (cpos:Pos):Prop where
 base:attributeBase o m X.env (eval o X.env)=eval o X.env
 few:((backTo cpos (starEach [e,f] X.env)).all (fun x=> !x.1)&&(backToKw cpos (keywordEach [] X.env)).all (fun x=>x.1.isSome)
  &&decide (([e,f]:List Expr).length+([]:List Keyword).length+(if ([]:List Keyword).isEmpty then 0 else 1)<30))=true
 line:(apos.endLine==cpos.line)=true
 trees:backTo cpos (starEach [e,f] X.env)= [(false,eval e X.env),(false,eval f X.env)]
def IsD (H:Hp) (a:Addr):Prop:=(∃kvs,Rd H a (.dK kvs))∨∃kvs,Rd H a (.dT kvs)
theorem isD_at {X:Cx} {pins:List (Addr×Obj)} {σ:St} {H:Hp} {s:Shared} {a:Addr} (I:Inv X pins σ H s) (d:IsD H a):
  s.TypeIs (.ref a) "dict" ∧(∀b,Value.ref a= .ref b→∃ob,s.heap.get? b=some ob∧ob.dict=none)∧(a==sysModules)=false:=by
 rcases d with ⟨kvs,e⟩|⟨kvs,e⟩
 ·obtain⟨_,hd,vs,_,dd⟩:=dk_rd I.hok e
  refine⟨dd.typeIs,fun b q=> ?_,hd⟩
  cases q
  obtain⟨ob,_,_,h1,h2,_⟩:=dd
  exact⟨ob,h1,h2.2.1⟩
 ·obtain⟨_,hd,xs,_,dd⟩:=dt_rd I.hok e
  refine⟨dd.typeIs,fun b q=> ?_,hd⟩
  cases q
  obtain⟨ob,_,_,h1,h2,_⟩:=dd
  exact⟨ob,h1,h2.2.1⟩
section
variable {X:Cx} {pins:List (Addr×Obj)} {σ:St} {H:Hp} {s:Shared} {a:Addr} {y d:V} {u r:Value} {o:Option V} {A:Around} {E:Value→Shared→Prop}
theorem d_get1 {Q:Value→Shared→Prop} (hu:A.units+1<cLine) (I:Inv X pins σ H s) (g:DGet H a y o) (ry:RelV y u) (h:∀w' s',Inv X pins σ H s'→RelV (o.getD .non) w'→Q w' s'):
  wpAny (model X.prog X.w) A (call (.builtin "dict.get") [.ref a,u]) Q E s:=by
 rcases g with ⟨kvs,k,e,ey,l⟩|⟨kvs,k,b,e,ey,eb,l⟩
 ·subst ey
  obtain⟨z,hd,vs,rel,dd⟩:=dk_rd I.hok e
  refine call_meetsIn PySem.F.slot_dict_get dd.typeIs PySem.F.entry_dict_get (PySem.F.args_dict_get_2 _ _) (meets_dict_get (mixKind X.prog X.w) a (kV_is ry) hd) ⟨_,dd.mapOf,h _ _ (I.tok _) ?_⟩
  rw[l]
  exact(rel.val k).getD rfl
 ·subst ey
  cases (show u=Value.ref b from ry)
  obtain⟨z,hd,xs,rel,dd⟩:=dt_rd I.hok e
  refine call_meetsIn PySem.F.slot_dict_get dd.typeIs PySem.F.entry_dict_get (PySem.F.args_dict_get_2 _ _) (meetsH_dict_get (tupleKind (mixKind X.prog X.w)) a b hd) ⟨tupleKind_room_in1 hu,k,xs,key_of I.hok eb,dd,h _ _ (I.tok _) ?_⟩
  rw[l]
  exact(rel.val k).getD rfl
theorem d_get2 {Q:Value→Shared→Prop} (hu:A.units+1<cLine) (I:Inv X pins σ H s) (g:DGet H a y o) (ry:RelV y u) (rd:RelV d r) (h:∀w' s',Inv X pins σ H s'→RelV (o.getD d) w'→Q w' s'):
  wpAny (model X.prog X.w) A (call (.builtin "dict.get") [.ref a,u,r]) Q E s:=by
 rcases g with ⟨kvs,k,e,ey,l⟩|⟨kvs,k,b,e,ey,eb,l⟩
 ·subst ey
  obtain⟨z,hd,vs,rel,dd⟩:=dk_rd I.hok e
  refine call_meetsIn PySem.F.slot_dict_get dd.typeIs PySem.F.entry_dict_get (PySem.F.args_dict_get_3 _ _ _) (meets_dict_get_default (mixKind X.prog X.w) a (kV_is ry) hd r) ⟨_,dd.mapOf,h _ _ (I.tok _) ?_⟩
  rw[l]
  exact(rel.val k).getD rd
 ·subst ey
  cases (show u=Value.ref b from ry)
  obtain⟨z,hd,xs,rel,dd⟩:=dt_rd I.hok e
  refine call_meetsIn PySem.F.slot_dict_get dd.typeIs PySem.F.entry_dict_get (PySem.F.args_dict_get_3 _ _ _) (meetsH_dict_get_default (tupleKind (mixKind X.prog X.w)) a b hd r) ⟨tupleKind_room_in1 hu,k,xs,key_of I.hok eb,dd,h _ _ (I.tok _) ?_⟩
  rw[l]
  exact(rel.val k).getD rd
end
def tDGet1 (td ty:TE):TE:=fun σ H Q=>td σ H fun x H1=>∃a,x= .ref a∧IsD H1 a∧ty σ H1 fun y H2=>∃o,DGet H2 a y o∧Q (o.getD .non) H2
def tDGet2 (td ty tx:TE):TE:=fun σ H Q=>td σ H fun x H1=>∃a,x= .ref a∧IsD H1 a∧ty σ H1 fun y H2=>tx σ H2 fun z H3=>∃o,DGet H3 a y o∧Q (o.getD z) H3
section
variable {X:Cx} {o e f:Expr} {apos cpos:Pos} {td ty tx:TE}
theorem pe_dget1 (hu:X.A.units+1<cLine) (ho:PE X o td) (he:PE X e ty) (m:M1 X o "get" apos e cpos):PE X (.Call (.Attribute o "get" apos) [e] [] cpos) (tDGet1 td ty):=by
 intro pins s σ H Q I h
 refine wpAny_Call_method m.base m.few m.line PySem.F.plainAttrs_dict PySem.F.slot_dict_get PySem.F.type_dict_get (thn (ho pins s σ H _ I h) fun u s1 ⟨x,H1,I1,rx,a,ex,d,q1⟩=> ?_)
 subst ex
 obtain rfl:u=Value.ref a:=rx
 obtain⟨t1,t2,_⟩:=isD_at I1 d
 refine⟨t1,t2,?_⟩
 rw[m.trees]
 refine Calls.callWith_builtin rfl (Calls.evalArgs_plain (Calls.spliced_cons (thn (he pins s1 σ H1 _ I1 q1) fun iv s2 ⟨y,H2,I2,ry,ov,g,q2⟩=>Calls.spliced_nil ?_)))
 exact d_get1 hu I2 g ry fun w' s3 I3 rw'=>⟨_,H2,I3,rw',q2⟩
theorem pe_dget2 (hu:X.A.units+1<cLine) (ho:PE X o td) (he:PE X e ty) (hf:PE X f tx) (m:M2 X o "get" apos e f cpos):PE X (.Call (.Attribute o "get" apos) [e,f] [] cpos) (tDGet2 td ty tx):=by
 intro pins s σ H Q I h
 refine wpAny_Call_method m.base m.few m.line PySem.F.plainAttrs_dict PySem.F.slot_dict_get PySem.F.type_dict_get (thn (ho pins s σ H _ I h) fun u s1 ⟨x,H1,I1,rx,a,ex,d,q1⟩=> ?_)
 subst ex
 obtain rfl:u=Value.ref a:=rx
 obtain⟨t1,t2,_⟩:=isD_at I1 d
 refine⟨t1,t2,?_⟩
 rw[m.trees]
 refine Calls.callWith_builtin rfl (Calls.evalArgs_plain (Calls.spliced_cons (thn (he pins s1 σ H1 _ I1 q1) fun iv s2 ⟨y,H2,I2,ry,q2⟩=>
  Calls.spliced_cons (thn (hf pins s2 σ H2 _ I2 q2) fun fv s3 ⟨z,H3,I3,rz,ov,g,q3⟩=>Calls.spliced_nil ?_))))
 exact d_get2 hu I3 g ry rz fun w' s4 I4 rw'=>⟨_,H3,I4,rw',q3⟩
end
end L2
namespace L2
open PySem PySem.Spec PyProof.Rows
section
variable {X:Cx} {pins:List (Addr×Obj)} {σ:St} {H:Hp} {s:Shared} {h':Heap}
theorem Inv.turnedNew {t':Nat} {ch:List Addr} {T:Addr} {ob:HO} (I:Inv X pins σ H s) (k:∀b o,b∉ch→s.heap.get? b=some o→h'.get? b=some o) (hf:∀b∈ch,FpOk X pins H b) (hT:s.heap.objs.size≤T)
  (new:ObjOk X.prog X.w (upd H T ob) h' T ob):Inv X pins σ (upd H T ob) {s with heap:=h',toks:=t'}:=by
 have hn:H T=none:=I.hok.fresh hT
 have nit:∀b u,H b=some u→b∉ch:=fun b u e z=>by
  have q:=(hf b z).1
  rw[q] at e;cases e
 refine I.step (g':=s.gens) (d':=s.drawn) (ch:=ch) (fun b hb=>⟨(hf b hb).2.2.2.1,(hf b hb).2.1,(hf b hb).2.2.2.2.1,(hf b hb).2.2.2.2.2⟩) (fun b o _ _ hc e _=>k b o hc e) (fun b o _ _ hc e _=>⟨o.slots,k b o hc e⟩)
  (fun b o _ e n=> ?_) (fun b o hc e=>⟨o,k b o hc e⟩) (fun b xs e=> ?_) (fun b o u e=> ?_) (fun b ps e=>⟨#[],?_⟩) (fun m hm=> ?_) (fun b u e=> ?_) I.bare
 ·rw[upd_ne (Nat.ne_of_lt (Nat.lt_of_lt_of_le (Heap.lt_size e) hT))];exact n
 ·rw[upd_ne (ne_of_none e hn)];exact e
 ·rw[upd_ne (ne_of_none e hn)];exact e
 ·rw[upd_ne (ne_of_none e hn),e];simp
 ·obtain⟨o,es,ep,ho,r⟩:=hm
  exact⟨o,es,ep,k _ o (fun z=>(hf _ z).2.1 rfl) ho,r⟩
 ·by_cases hb:b=T
  ·subst hb
   rw[upd_same] at e
   cases e
   exact new
  ·rw[upd_ne hb] at e
   refine(I.hok b u e).stay (fun c v hc q=>k c v ?_ q) (fun c q=>by rw[upd_ne (ne_of_none q hn)];exact q) fun c xs q=>by rw[upd_ne (ne_of_none q hn)];exact q
   rcases hc with z|z
   ·rw[z];exact nit b u e
   ·exact nit c _ z
theorem Inv.lock {d:Addr} {u:HO} (I:Inv X pins σ H s) (h:H d=some u) (mu:Mut (some u)):∃od,Inv X pins σ (upd H d (.frz od u)) s:=by
 have x:=I.hok d u h
 have ex:∃od,s.heap.get? d=some od:=by
  cases u with
  |lst xs=>obtain⟨_,_,_,_,e⟩:=x;exact⟨_,e⟩
  |dK kvs=>obtain⟨_,_,_,_,o,_,_,e,_⟩:=x;exact⟨o,e⟩
  |dT kvs=>obtain⟨_,_,_,_,o,_,_,e,_⟩:=x;exact⟨o,e⟩
  |set S n=>obtain⟨o,_,_,_,e,_⟩:=x;exact⟨o,e⟩
  |ins C dx fs=>obtain⟨_,_,_,e,_⟩:=x;exact⟨_,e⟩
  |ext φ=>obtain⟨_,⟨_,e⟩,_⟩:=x;exact⟨_,e⟩
  |_=>exact False.elim mu
 obtain⟨od,e⟩:=ex
 have new:ObjOk X.prog X.w (upd H d (.frz od u)) s.heap d (.frz od u):=by
  refine⟨e,x.stay (fun b v _ q=>q) (fun b q=> ?_) fun b xs q=> ?_⟩
  ·rw[upd_ne (fun z=>by rw[z,h] at q;cases q;exact mu)];exact q
  ·rw[upd_ne (fun z=>by rw[z,h] at q;cases q;exact mu)];exact q
 exact⟨od,I.write (x:=d) (e:=d) (t':=s.toks) (h':=s.heap) (by rw[h];exact mu) (.inl rfl) (fun b v _ q=>q) ⟨od,e⟩ new⟩
theorem Inv.unlock {d:Addr} {od:Obj} {u:HO} (I:Inv X pins σ H s) (h:H d=some (.frz od u)) (hn:∀o' u',X.H_0 d≠some (.frz o' u')):Inv X pins σ (upd H d u) s:=by
 have neH:∀b o,H b=some o→(∀o' u',o≠ .frz o' u')→b≠d:=fun b o e hne z=>by
  rw[z,h] at e
  cases e
  exact hne _ _ rfl
 have neN:∀b,H b=none→b≠d:=fun b e z=>by rw[z,h] at e;cases e
 refine⟨I.ok,I.os,I.bare,⟨I.base.keep,I.base.slot,fun b o e n hx=> ?_,I.base.there,fun b xs e=> ?_,fun b o x e=> ?_,fun b ps e=> ?_⟩,I.loc,I.cell,?_,fun x c e=> ?_,fun p hp=> ?_,fun b o e=> ?_,I.len⟩
 ·rw[upd_ne (neN b (I.base.free b o e n hx))];exact I.base.free b o e n hx
 ·have q:=I.base.tups b xs e
  rw[upd_ne (neH b _ q (fun _ _ z=>nomatch z))];exact q
 ·have q:=I.base.frzs b o x e
  rw[upd_ne (fun z=>by rw[z] at e;exact hn _ _ e)];exact q
 ·obtain⟨m,q⟩:=I.base.tbls b ps e
  exact⟨m,by rw[upd_ne (neH b _ q (fun _ _ z=>nomatch z))];exact q⟩
 ·rw[upd_ne (neN _ I.free)];exact I.free
 ·rw[upd_ne (neN c (I.freeC x c e))];exact I.freeC x c e
 ·obtain⟨e,n,r⟩:=I.pin p hp
  exact⟨e,by rw[upd_ne (neN _ n)];exact n,r⟩
 ·by_cases hb:b=d
  ·rw[hb,upd_same] at e
   cases e
   rw[hb]
   obtain⟨_,x⟩:=I.hok d _ h
   exact x.stay (fun c v _ q=>q) (fun c q=>by rw[upd_ne (neH c _ q (fun _ _ z=>nomatch z))];exact q) fun c xs q=>by rw[upd_ne (neH c _ q (fun _ _ z=>nomatch z))];exact q
  ·rw[upd_ne hb] at e
   exact(I.hok b o e).stay (fun c v _ q=>q) (fun c q=>by rw[upd_ne (neH c _ q (fun _ _ z=>nomatch z))];exact q) fun c xs q=>by rw[upd_ne (neH c _ q (fun _ _ z=>nomatch z))];exact q
end
section
variable {X:Cx}
theorem pi_one {tg:Expr} {pins:List (Addr×Obj)} {σ:St} {H:Hp} {s:Shared} {R:It→Hp→Prop} {J:It} {tn:Nat→Heap→Prop} {tk:Nat} (I:Inv X pins σ H s) (o:Obj)
  (T:Turn X.prog X.w X.K tg J [s.heap.objs.size] s.heap.objs.size tn) (st:tn 0 (s.heap.push o)) (q:R J H):PIE X pins σ tg R (.ref s.heap.objs.size) {s with heap:=s.heap.push o,toks:=tk}:=by
 refine⟨s.heap.objs.size,[s.heap.objs.size],tn,J,H,rfl,I.kept fun b ob e=>Heap.get?_push_of_some _ e,T,st,fun b hb=> ?_,q⟩
 have e:b=s.heap.objs.size:=by simpa using hb
 subst e
 exact I.fpOk (Nat.le_refl _) (I.hok.fresh (Nat.le_refl _))
end
section
variable {prog:Program} {w:World} {A:Around} {E:Value→Shared→Prop} {s:Shared}
theorem iter_keys {d:Addr} {o:Obj} {es:Array DictEntry} {ep:Nat} {Q:Value→Shared→Prop} (hd:(d==sysModules)=false) (ho:s.heap.get? d=some o) (hc:o.ExactDict) (hdat:o.data= .dict es ep)
  (hQ:Q (.ref s.heap.objs.size) {s with heap:=s.heap.push {cls:= .type "dict_keyiterator",data:= .fields #[.ref d,.int 0 0,.int es.size 0,.int ep 0]}}):
  wpAny (model prog w) A (pyIter (.ref d)) Q E s:=by
 have hT:s.TypeIs (.ref d) "dict" :=⟨o,ho,hc.1⟩
 refine wpAny_pyIter_slot hT F.slot_dict_iter (wpAny_call_entry F.slot_dict_iter hT F.entry_dict_iter ?_ (F.args_dict_iter_1 _))
 unfold Builtin.«dict.__iter__»
 refine wpAny_bind ?_
 unfold Builtin.Dict.dictSlotNone
 refine wpAny_bind (wpAny_notOrdered_dict hT ?_)
 show wpAny _ _ (pure (Value.ref d)) _ _ s
 refine wpAny_pure ?_
 show wpAny _ _ (Builtin.Dict.showsAll d>>=_) _ _ s
 unfold Builtin.Dict.showsAll
 rw[if_neg (by rw[hd];exact Bool.false_ne_true)]
 refine wpAny_bind (wpAny_pure ?_)
 refine wpAny_bind (wpAny_dictEntries ho hdat ?_)
 refine wpAny_bind (wpAny_dictEpoch ho hdat ?_)
 refine wpAny_bind (wpAny_newObj_type (wpAny_pure ⟨_,rfl,"dict_keyiterator",_,⟨_,Heap.get?_push_size _ rfl,rfl⟩,F.slot_dict_keyiterator_next.lookup,?_⟩))
 simpa [rawInt] using hQ
theorem next_key_item {it d:Addr} {i n ep:Nat} {od:Obj} {es:Array DictEntry} {en:DictEntry} {Q:Option Value→Shared→Prop} (hit:s.heap.IsKeyIter it d i n ep) (hod:s.heap.get? d=some od) (hdd:od.data= .dict es ep)
  (hsz:es.size=n) (hx:es[i]?=some en) (hQ:∀h',h'.IsKeyIter it d (i+1) n ep→Heap.SameBut it s.heap h'→Q (some en.key) {s with heap:=h'}):wpAny (model prog w) A (pyNext (.ref it)) Q E s:=by
 obtain⟨o,ho,hc,hd⟩:=id hit
 unfold pyNext
 refine wpAny_bind (wpAny_attempt (wpAny_callSpecial?_slot (name:=Str.ofString "__next__") hit.typeIs F.slot_dict_keyiterator_next
  (wpAny_call_entry F.slot_dict_keyiterator_next hit.typeIs F.entry_dict_keyiterator_next ?_ (F.args_dict_keyiterator_next_1 _))))
 refine wpAny_bind (wpAny_pure ?_)
 refine wpAny_bind ?_
 refine wpAny_bind ?_
 first|refine wpAny_bind (wpAny_typeNameOfWhole_keyiter hit.typeIs (wpAny_pure ?_))|refine wpAny_bind (wpAny_typeNameOf_keyiter hit.typeIs (wpAny_pure ?_))
 refine wpAny_bind (wpAny_fieldsOf ho hd ?_)
 have hown:Builtin.Dict_items.ownsTuple "dict_keyiterator" =false:=by decide
 simp only[hown,Bool.false_eq_true,if_false]
 show wpAny _ _ (if (Value.ref d==Value.none)=true then _ else _) _ _ s
 rw[if_neg (show¬((Value.ref d==Value.none)=true) from Bool.false_ne_true)]
 refine wpAny_bind (wpAny_pure ?_)
 refine wpAny_bind (wpAny_dictEntries hod hdd ?_)
 rw[if_neg (by rw[hsz];simp)]
 refine wpAny_bind (wpAny_pure ?_)
 refine wpAny_bind (wpAny_dictEpoch hod hdd ?_)
 rw[if_neg (by simp)]
 refine wpAny_pure ?_
 obtain⟨hlt',hen⟩:=Array.getElem?_eq_some_iff.mp hx
 simp only[show¬((i:Int)<0) from by omega,if_false,Int.toNat_natCast,Array.getElem?_eq_getElem hlt']
 refine wpAny_bind ?_
 first|refine wpAny_bind (wpAny_typeNameOfWhole_keyiter hit.typeIs (wpAny_pure ?_))|refine wpAny_bind (wpAny_typeNameOf_keyiter hit.typeIs (wpAny_pure ?_))
 refine wpAny_bind (wpAny_isOneOf_keyiter hit.typeIs ?_)
 show wpAny _ _ (setField (.ref it) 1 (rawInt ((i:Int)+1))>>=_) _ _ s
 refine wpAny_bind (wpAny_setField ho hd (by simp) ?_)
 have hit':(s.heap.update it (Obj.mapFields (·.setIfInBounds 1 (rawInt ((i:Int)+1))))).IsKeyIter it d (i+1) n ep:=
  ⟨_,Heap.get?_update_self _ ho (Obj.isFreed_of_fields (Obj.data_mapFields hd _)),(Obj.cls_mapFields ..).trans hc,by rw[Obj.data_mapFields hd];simp [rawInt]⟩
 refine wpAny_bind (wpAny_holding ?_)
 refine wpAny_bind (wpAny_isOneOf_keyiter (s:={s with heap:=s.heap.update it (Obj.mapFields (·.setIfInBounds 1 (rawInt ((i:Int)+1))))}) hit'.typeIs ?_)
 show wpAny _ _ (pure es[i].key) _ _ _
 rw[hen]
 exact wpAny_pure (wpAny_pure ⟨_,rfl,wpAny_pure (hQ _ hit' (Heap.SameBut.update ..))⟩)
theorem next_key_end {it d:Addr} {i n ep:Nat} {od:Obj} {es:Array DictEntry} {Q:Option Value→Shared→Prop} (hh:A.handled=none) (hit:s.heap.IsKeyIter it d i n ep) (hod:s.heap.get? d=some od) (hdd:od.data= .dict es ep)
  (hsz:es.size=n) (hge:n≤i) (hQ:∀h',Heap.ExtBut it s.heap h'→Q none {s with heap:=h'}):wpAny (model prog w) A (pyNext (.ref it)) Q E s:=by
 obtain⟨o,ho,hc,hd⟩:=id hit
 unfold pyNext
 refine wpAny_bind (wpAny_attempt (wpAny_callSpecial?_slot (name:=Str.ofString "__next__") hit.typeIs F.slot_dict_keyiterator_next
  (wpAny_call_entry F.slot_dict_keyiterator_next hit.typeIs F.entry_dict_keyiterator_next ?_ (F.args_dict_keyiterator_next_1 _))))
 refine wpAny_bind (wpAny_pure ?_)
 refine wpAny_bind ?_
 refine wpAny_bind ?_
 first|refine wpAny_bind (wpAny_typeNameOfWhole_keyiter hit.typeIs (wpAny_pure ?_))|refine wpAny_bind (wpAny_typeNameOf_keyiter hit.typeIs (wpAny_pure ?_))
 refine wpAny_bind (wpAny_fieldsOf ho hd ?_)
 have hown:Builtin.Dict_items.ownsTuple "dict_keyiterator" =false:=by decide
 simp only[hown,Bool.false_eq_true,if_false]
 show wpAny _ _ (if (Value.ref d==Value.none)=true then _ else _) _ _ s
 rw[if_neg (show¬((Value.ref d==Value.none)=true) from Bool.false_ne_true)]
 refine wpAny_bind (wpAny_pure ?_)
 refine wpAny_bind (wpAny_dictEntries hod hdd ?_)
 rw[if_neg (by rw[hsz];simp)]
 refine wpAny_bind (wpAny_pure ?_)
 refine wpAny_bind (wpAny_dictEpoch hod hdd ?_)
 rw[if_neg (by simp)]
 refine wpAny_pure ?_
 have hge':es.size≤i:=by rw[hsz];exact hge
 simp only[show¬((i:Int)<0) from by omega,if_false,Int.toNat_natCast,Array.getElem?_eq_none hge']
 refine wpAny_bind ?_
 first|refine wpAny_bind (wpAny_typeNameOfWhole_keyiter hit.typeIs (wpAny_pure ?_))|refine wpAny_bind (wpAny_typeNameOf_keyiter hit.typeIs (wpAny_pure ?_))
 show wpAny _ _ (setField (.ref it) 0 .none>>=_) _ _ s
 refine wpAny_bind (wpAny_setField ho hd (by simp) ?_)
 show wpAny _ _ (newExc (.type "StopIteration") []>>=_) _ _ _
 refine wpAny_bind ?_
 simp only[newExc,newTuple]
 refine wpAny_bind (wpAny_newObj_type ?_ (by size_fits))
 refine wpAny_bind (m:=firstArgMember _ _) (wpAny_of_eq (a:=Value.none) (by first|rfl|(simp only[firstArgMember];rfl)) ?_)
 refine wpAny_newObj_type ?_ (by size_fits)
 simp only[raiseNew]
 refine wpAny_bind (wpAny_handled ?_)
 rw[show A.in1.handled=none from hh]
 refine wpAny_bind (wpAny_pure (wpAny_throw ?_))
 refine wpAny_bind (wpAny_isInstance (T:= "StopIteration") (b:=true) ⟨_,Heap.get?_push_size _ rfl,rfl⟩ isSubtype_stop ?_)
 exact wpAny_pure (hQ _ (((Heap.SameBut.update ..).extBut.push _).push _))
end
theorem kv_get {κ:Type} {kvs:List (κ×V)} {vs:List (κ×Value)} (h:KV kvs vs):∀{i:Nat} {k:κ} {v:V},kvs[i]?=some (k,v)→∃u,vs[i]?=some (k,u)∧RelV v u:=by
 unfold KV at h
 induction h with
 |nil=>intro i k v e;simp at e
 | @cons a b l₁ l₂ r t ih=>
  intro i k v e
  cases i with
  |zero=>
   simp only[List.getElem?_cons_zero,Option.some.injEq] at e
   subst e
   refine⟨b.2,?_,r.2⟩
   simp only[List.getElem?_cons_zero]
   exact congrArg some (Prod.ext r.1.symm rfl)
  |succ j=>
   simp only[List.getElem?_cons_succ] at e⊢
   exact ih e
theorem paired_get {α β:Type} {G:α→β→Prop} {l₁:List α} {l₂:List β} (h:Paired G l₁ l₂):∀{i:Nat} {a:α},l₁[i]?=some a→∃b,l₂[i]?=some b∧G a b:=by
 induction h with
 |nil=>intro i a e;simp at e
 | @cons a b l₁ l₂ r t ih=>
  intro i a' e
  cases i with
  |zero=>
   simp only[List.getElem?_cons_zero,Option.some.injEq] at e
   subst e
   exact⟨b,rfl,r⟩
  |succ j=>
   simp only[List.getElem?_cons_succ] at e⊢
   exact ih e
theorem relV_key {k:Key} {u:Value} (h:keyIs k u=true):RelV (kV k) u:=by
 rcases keyIs_shape h with ⟨i,t,rfl,rfl⟩|⟨x,t,rfl,rfl⟩
 ·exact⟨t,rfl⟩
 ·exact⟨t,rfl⟩
section
variable {X:Cx} {pins:List (Addr×Obj)} {σ:St} {H:Hp} {s:Shared} {d:Addr} {o:Obj}
theorem Inv.frzK {kvs:List (Key×V)} (I:Inv X pins σ H s) (h:H d=some (.frz o (.dK kvs))):
  (d==sysModules)=false∧s.heap.get? d=some o∧o.ExactDict∧∃(es:Array DictEntry) (ep:Nat) (vs:List (Key×Value)),o.data= .dict es ep∧es.size=kvs.length∧KV kvs vs∧s.heap.DictAt (mixKind X.prog X.w) d vs ep:=by
 obtain⟨hd,z,hs,vs,kv,o',es,ep,ho,hx,hdt,r⟩:=I.hok d _ h
 rw[hd] at ho
 cases ho
 refine⟨hs,hd,hx,es,ep,vs,hdt,?_,kv,o,es,hd,hx,hdt,r⟩
 have l1:=r.2.1.length
 have l2:kvs.length=vs.length:=Paired.length kv
 rw[Array.length_toList] at l1
 omega
theorem Inv.frzT {kvs:List (List Key×V)} (I:Inv X pins σ H s) (h:H d=some (.frz o (.dT kvs))):
  (d==sysModules)=false∧s.heap.get? d=some o∧o.ExactDict∧∃(es:Array DictEntry) (ep:Nat),o.data= .dict es ep∧es.size=kvs.length∧
   ∀(i:Nat) (k:List Key) (v:V),kvs[i]?=some (k,v)→∃(en:DictEntry) (q:Addr),es[i]?=some en∧en.key= .ref q∧H q=some (.tup (k.map kV)):=by
 obtain⟨hd,z,hs,xs,pr,o',es,ep,ho,hx,hdt,he,_⟩:=I.hok d _ h
 rw[hd] at ho
 cases ho
 refine⟨hs,hd,hx,es,ep,hdt,?_,fun i k v e=> ?_⟩
 ·have l1:es.size=xs.length:=size_of_entries he
  have l2:kvs.length=xs.length:=Paired.length pr
  omega
 ·obtain⟨b,hb,e1,e2,_⟩:=paired_get pr e
  have q:=entry_at he i
  rw[hb] at q
  exact⟨_,b.2.1,q,rfl,e2⟩
end
noncomputable def Itkt (d:Addr) (o:Obj) (kvs:List (List Key×V)):It:=
 ⟨fun i H=>H d=some (.frz o (.dT kvs))∧i<kvs.length,fun i H x H'=>H'=H∧∃(k:List Key) (v:V) (q:Addr),kvs[i]?=some (k,v)∧x= .ref q∧H q=some (.tup (k.map kV)),fun i H=>H d=some (.frz o (.dT kvs))∧kvs.length≤i⟩
noncomputable def Iti (d:Addr) (o:Obj) (kvs:List (Key×V)):It:=
 ⟨fun i H=>H d=some (.frz o (.dK kvs))∧i<kvs.length,fun i H x H'=>∃T k v,kvs[i]?=some (k,v)∧x= .ref T∧H T=none∧H'=upd H T (.tup [kV k,v]),fun i H=>H d=some (.frz o (.dK kvs))∧kvs.length≤i⟩
theorem dict_ep {o:Obj} {es es':Array DictEntry} {ep ep':Nat} (h:o.data= .dict es ep) (h':o.data= .dict es' ep'):es'=es∧ep'=ep:=by
 rw[h] at h'
 cases h'
 exact⟨rfl,rfl⟩
section
variable {P:Program} {w:World} {K:PySem.W.Frag} {tg:Expr} {d:Addr} {o:Obj} {es:Array DictEntry} {ep:Nat}
theorem turn_keysT {kvs:List (List Key×V)} (it:Addr) (hod:o.data= .dict es ep):Turn P w K tg (Itkt d o kvs) [it] it (fun i h=>h.IsKeyIter it d i kvs.length ep) where
 mem:=by simp
 obj:=fun i h st b hb=>by
  have e:b=it:=by simpa using hb
  subst e
  obtain⟨oi,e,c,dd⟩:=st
  exact⟨oi,e,fun v z=>by rw[dd] at z;cases z⟩
 keep:=fun i h h' st k=>st.at fun oi e=>k it (by simp) oi e
 item:=by
  intro X hP hw hK hc i pins s σ H E I hf st hg
  subst hP hw hK
  obtain⟨hd,hi⟩:=hg
  obtain⟨f0,f1,f2,f3,f4,f5⟩:=hf it (by simp)
  obtain⟨hs,hgd,hx,es',ep',hdt,hsz,ent⟩:=I.frzT hd
  obtain⟨rfl,rfl⟩:=dict_ep hod hdt
  obtain⟨⟨k,v⟩,hkv⟩:∃p,kvs[i]?=some p:=⟨kvs[i],List.getElem?_eq_getElem hi⟩
  obtain⟨en,q,hen,hkey,hq⟩:=ent i k v hkv
  refine next_key_item st hgd hdt hsz hen fun h' st' sb=> ?_
  have I1:Inv X pins σ H {s with heap:=h'}:=I.turned (t':=s.toks) (fun b ob hb e=>(sb.2 b hb).trans e) f0 f1 f3 f4 f5
  obtain⟨oi,e,c,dd⟩:=id st'
  exact⟨en.key,rfl,go_of (s:={s with heap:=h'}) e c dd (by decide) ⟨.ref q,H,I1,hkey,⟨rfl,k,v,q,hkv,rfl,hq⟩,st',fun b hb=>(hf b hb).1⟩⟩
 done:=by
  intro X hP hw hK hc i pins s σ H E I hf st hg
  subst hP hw hK
  obtain⟨hd,hi⟩:=hg
  obtain⟨f0,f1,f2,f3,f4,f5⟩:=hf it (by simp)
  obtain⟨hs,hgd,hx,es',ep',hdt,hsz,ent⟩:=I.frzT hd
  obtain⟨rfl,rfl⟩:=dict_ep hod hdt
  exact next_key_end (I.ok.hd hc) st hgd hdt hsz hi fun h' eb=>⟨rfl,I.turned (t':=s.toks) (fun b ob hb e=>eb b ob hb e) f0 f1 f3 f4 f5⟩
 self:=fun A i s Q E st h=>by
  refine wpAny_pyIter_slot st.typeIs F.slot_dict_keyiterator_iter (wpAny_call_entry F.slot_dict_keyiterator_iter st.typeIs F.entry_dict_keyiterator_iter ?_ (F.args_dict_keyiterator_iter_1 _))
  show wpAny _ _ (ret (.ref it)) _ _ s
  exact wpAny_pure ⟨_,rfl,"dict_keyiterator",_,st.typeIs,F.slot_dict_keyiterator_next.lookup,h⟩
theorem turn_items {kvs:List (Key×V)} {elts:List Expr} {kk:Nat} {tpos:Pos} (it:Addr) (hod:o.data= .dict es ep):
  Turn P w K (.Tuple elts kk tpos) (Iti d o kvs) [it] it (fun i h=>∃ok ov,IsItemIter h it d i kvs.length ep ok ov) where
 mem:=by simp
 obj:=fun i h st b hb=>by
  have e:b=it:=by simpa using hb
  subst e
  obtain⟨ok,ov,e⟩:=st
  exact⟨_,e,fun v z=>nomatch z⟩
 keep:=fun i h h' st k=>let ⟨ok,ov,e⟩:=st;⟨ok,ov,k it (by simp) _ e⟩
 item:=by
  intro X hP hw hK hc i pins s σ H E I hf st hg
  subst hP hw hK
  obtain⟨hd,hi⟩:=hg
  obtain⟨hs,hgd,hx,es',ep',vs,hdt,hsz,kv,hm⟩:=I.frzK hd
  obtain⟨rfl,rfl⟩:=dict_ep hod hdt
  obtain⟨⟨k,v⟩,hkv⟩:∃p,kvs[i]?=some p:=⟨kvs[i],List.getElem?_eq_getElem hi⟩
  obtain⟨u,hu,ru⟩:=kv_get kv hkv
  have hl:kvs.length=vs.length:=Paired.length kv
  obtain⟨ok,ov,he⟩:=st
  rw[hl] at he
  have hlt:it<s.heap.objs.size:=Heap.lt_size he
  refine wpAny_pyNext_items_item he hm hu fun key h' hkey ho hT hz hk=> ?_
  refine⟨_,rfl,wpAny_letOwnedTupleGo_items (s:={s with heap:=h'}) ho fun h'' he' sb=> ?_⟩
  have hT2:h''.get? s.heap.objs.size=some {cls:= .type "tuple",data:= .seq #[key,u]}:=(sb.2 _ (Nat.ne_of_gt hlt)).trans hT
  have new:ObjOk X.prog X.w (upd H s.heap.objs.size (.tup [kV k,v])) h'' s.heap.objs.size (.tup [kV k,v]):=
   ⟨by show 2≤sizeLine;decide,[key,u],.cons (relV_key (show keyIs k key=true from hkey)) (.cons ru .nil),⟨_,hT2,rfl,_,rfl⟩⟩
  have I1:Inv X pins σ (upd H s.heap.objs.size (.tup [kV k,v])) {s with heap:=h''}:=
   I.turnedNew (t':=s.toks) (ch:= [it]) (fun b ob hb e=>(sb.2 b (by simpa using hb)).trans (hk b ob (by simpa using hb) e)) hf (Nat.le_refl _) new
  refine⟨.ref s.heap.objs.size,_,I1,rfl,⟨_,k,v,hkv,rfl,I.hok.fresh (Nat.le_refl _),rfl⟩,⟨key,u,?_⟩,fun b hb=> ?_⟩
  ·rw[hl];exact he'
  ·have e:b=it:=by simpa using hb
   rw[e,upd_ne (Nat.ne_of_lt hlt)]
   exact(hf it (by simp)).1
 done:=by
  intro X hP hw hK hc i pins s σ H E I hf st hg
  subst hP hw hK
  obtain⟨hd,hi⟩:=hg
  obtain⟨f0,f1,f2,f3,f4,f5⟩:=hf it (by simp)
  obtain⟨hs,hgd,hx,es',ep',vs,hdt,hsz,kv,hm⟩:=I.frzK hd
  obtain⟨rfl,rfl⟩:=dict_ep hod hdt
  have hl:kvs.length=vs.length:=Paired.length kv
  obtain⟨ok,ov,he⟩:=st
  rw[hl] at he
  exact wpAny_pyNext_items_end (I.ok.hd hc) he hm (List.getElem?_eq_none (by omega)) fun h' eb=>⟨rfl,I.turned (t':=s.toks) (fun b ob hb e=>eb b ob hb e) f0 f1 f3 f4 f5⟩
 self:=fun A i s Q E st h=>let ⟨_,_,e⟩:=st;PySem.W.kcp_self e h
end
end L2
namespace L2
open PySem PySem.Spec PyProof.Rows
noncomputable def inClass (s:Stmt) (j:Nat):Stmt:=match s with
 | .ClassDef _ _ _ body _ _ _ _ _ _ _=>body.getD j (.Pass ⟨0,0,0,0⟩)
 |_=> .Pass ⟨0,0,0,0⟩
noncomputable def defArgs (s:Stmt):Arguments:=match s with
 | .FunctionDef _ a _ _ _ _ _ _ _ _=>a
 |_=>{posonlyargs:= [],args:= [],vararg:=none,kwonlyargs:= [],kw_defaults:= [],kwarg:=none,defaults:= []}
noncomputable def defBody (s:Stmt):List Stmt:=match s with
 | .FunctionDef _ _ b _ _ _ _ _ _ _=>b
 |_=> []
noncomputable def defScope (s:Stmt):Scope:=match s with
 | .FunctionDef _ _ _ _ _ _ sc _ _ _=>sc
 |_=>{kind:= .function,names:= [],isGenerator:=false,isCoroutine:=false}
abbrev CX0:CXT:=fun _ _ _ _ _ _=>False
abbrev E0:XK:=fun _ _ _=>False
theorem pass0 {X:Cx}:Passes CX0 X E0:=fun _ _ _ _ _ _ _ h=>h.elim
structure Fun (K:PySem.W.Frag) (x qual:Str) (st:Stmt) (f:Addr) (fd:FuncData):Prop where
 ex:∃(oc:Value) (od:Option Addr) (kV doc pm:Value) (an:Option Addr) (cdv ct:Value) (osl:Array (Option Value)),
  fd=PySem.W.fnOf x qual (defArgs st) (defBody st) (defScope st) .none kV doc pm an cdv ct∧K.lookup f=some ⟨oc,od,.func fd,osl⟩∧PySem.W.codeIn K cdv qual=true
 kp:PySem.W.keepIn K (.ref f)=true
section
variable {P:Program} {w:World} {K:PySem.W.Frag} {mg:Str→Option Value} {base:Heap}
theorem Fun.ok {x qual:Str} {st:Stmt} {f:Addr} {fd:FuncData} {N ps:List Str} {k:Nat} {sp:Sp} (F:Fun K x qual st f fd) (S:FnScope N ps (defScope st)) (len:∀vs H Q E,sp vs H Q E→vs.length=ps.length)
  (hbody:∀(cdv:Value) (A:Around) (outer:List Env) (s:Shared) (H:Hp) (vs:List V) (Q:VK) (E:XK),Room k (A.deeper (envOfC qual (defScope st) s.heap.objs.size f cdv))→sp vs H Q E→
   ∃t,PSs (cxOf CX0 P w K mg base N qual (defScope st) f cdv A outer s H E).nox (defBody st) t∧t {nx:=fun _ H'=>Q .non H',rt:=Q} (start N vs) H):FnOk P w K mg base CX0 (k+1) f fd ps sp:=by
 obtain⟨oc,od,kV,doc,pm,an,cdv,ct,osl,rfl,lk,hcd⟩:=F.ex
 refine fn_of lk hcd S len fun A outer s H vs Q E hr hsp=> ?_
 obtain⟨t,h,q⟩:=hbody cdv A outer s H vs Q E hr hsp
 exact⟨t,h.nox,q⟩
theorem Fun.binds {x qual:Str} {st:Stmt} {f:Addr} {fd:FuncData} {ps:List Str} (F:Fun K x qual st f fd)
  (h:∀(kV doc pm:Value) (an:Option Addr) (cdv ct:Value) (us:List Value),us.length=ps.length→bindArgs (PySem.W.fnOf x qual (defArgs st) (defBody st) (defScope st) .none kV doc pm an cdv ct) ⟨us,[]⟩=pure (ps.zip us)):Binds K fd ps []:=by
 obtain⟨oc,od,kV,doc,pm,an,cdv,ct,osl,rfl,lk,hcd⟩:=F.ex
 exact .all (h kV doc pm an cdv ct)
theorem fun_mk {x qual:Str} {st:Stmt} {f:Addr} {oc:Value} {od an:Option Addr} {osl:Array (Option Value)} {kV doc pm cdv ct:Value} (l:K.lookup f=some ⟨oc,od,.func (PySem.W.fnOf x qual (defArgs st) (defBody st) (defScope st) .none kV doc pm an cdv ct),osl⟩)
  (c:PySem.W.codeIn K cdv qual=true) (k:PySem.W.keepIn K (.ref f)=true):Fun K x qual st f (PySem.W.fnOf x qual (defArgs st) (defBody st) (defScope st) .none kV doc pm an cdv ct):=⟨⟨oc,od,kV,doc,pm,an,cdv,ct,osl,rfl,l,c⟩,k⟩
end
theorem hu_of {A:Around} {k:Nat} (hr:Room k A):A.units+1<cLine:=Nat.lt_of_le_of_lt (Nat.add_le_add_left (by decide:1≤64) _) hr.units
section
variable {X:Cx}
theorem pv (i:Nat) {x:Str} {pos:Pos} (hN:X.N[i]?=some x:=by rfl) (hv:Vis X.env.scope x:=by first|exact Or.inl rfl|exact Or.inr (Or.inl rfl)|exact Or.inr (Or.inr rfl)) (hd:(x==("__debug__" :Str))=false:=by decide)
  (hcd:(x==("__classdict__" :Str))=false:=by decide):PE X (.Name x pos) (tVar i):=pe_var hN hv hd hcd
end
theorem iteF {A B:Prop} (h:B):if false=true then A else B:=by
 rw[if_neg Bool.false_ne_true]
 exact h
theorem iteT {A B:Prop} (h:A):if true=true then A else B:=by
 rw[if_pos rfl]
 exact h
theorem ite2 {c A B:Prop} [Decidable c] (h1:c→A) (h2:¬c→B):if c then A else B:=by
 by_cases h:c
 ·rw[if_pos h]
  exact h1 h
 ·rw[if_neg h]
  exact h2 h
def Same (H H':Hp):Prop:=∀b o,H b=some o→H' b=some o
theorem Same.free {H H':Hp} (e:Same H H') {l:Addr} (h:H' l=Option.none):H l=Option.none:=by
 cases q:H l with
 |none=>rfl
 |some o=>
  rw[e l o q] at h
  cases h
theorem Same.seq {K:PySem.W.Frag} {H H':Hp} {a:Addr} {xs:List V} (e:Same H H') (h:SqL K H a xs):SqL K H' a xs:=by
 rcases h with (h|⟨o,h⟩)|h
 ·exact .inl (.inl (e _ _ h))
 ·exact .inl (.inr ⟨o,e _ _ h⟩)
 ·exact .inr h
theorem at_of {xs:List V} {z:Int} {j:Nat} {v:V} (e:z=(j:Int)) (h:xs[j]?=some v):atI xs z=some v:=by
 rw[e]
 exact atI_nat h
theorem nd_ix {α:Type} {l:List α} (hN:l.Nodup) {i j:Nat} {x:α} (a:l[i]?=some x) (b:l[j]?=some x):i=j:=by
 obtain⟨h1,e1⟩:=List.getElem?_eq_some_iff.mp a
 obtain⟨h2,e2⟩:=List.getElem?_eq_some_iff.mp b
 exact(List.getElem_inj hN).mp (e1.trans e2.symm)
end L2
section
set_option maxHeartbeats 2000000
namespace L2
open PySem PySem.Spec PyProof.Rows
open PySem.W (WData Codec OpenSpec Well WellAll ReadsW ReadsAllW)
mutual
inductive Dw (K:PySem.W.Frag) (H:Hp):V→WData→Prop
 |non:Dw K H .non .none
 |bl (b:Bool):Dw K H (.bl b) (.bool b)
 |int (i:Int):Dw K H (.int i) (.int i)
 |str (x:Str):Dw K H (.str x) (.str x)
 |byt (b:Array UInt8):Dw K H (.byt b) (.bytes b.toList)
 |lst {a:Addr} {xs:List V} {ds:List WData}:SqL K H a xs→DwAll K H xs ds→Dw K H (.ref a) (.list ds)
 |tup {a:Addr} {xs:List V} {ds:List WData}:SqT K H a xs→DwAll K H xs ds→Dw K H (.ref a) (.tuple ds)
inductive DwAll (K:PySem.W.Frag) (H:Hp):List V→List WData→Prop
 |nil:DwAll K H [] []
 |cons {v:V} {vs:List V} {d:WData} {ds:List WData}:Dw K H v d→DwAll K H vs ds→DwAll K H (v::vs) (d::ds)
end
theorem dw_ints {K:PySem.W.Frag} {H:Hp}:∀ns:List Int,DwAll K H (ns.map V.int) (ns.map WData.int)
 | []=> .nil
 |n::r=> .cons (.int n) (dw_ints r)
theorem ints_dw {K:PySem.W.Frag} {H:Hp}:∀(ns:List Int) (xs:List V),DwAll K H xs (ns.map WData.int)→xs=ns.map V.int
 | [],xs,h=>by
  cases h
  rfl
 |n::r,xs,h=>by
  cases h with
  |cons h1 h2=>
   cases h1
   rw[ints_dw r _ h2]<;>rfl
section
variable {P:Program} {w:World} {K:PySem.W.Frag} {H:Hp} {h:Heap} {R:PySem.W.WRecords} {cl:Str→Option Addr}
theorem sqL_at {a:Addr} {xs:List V} (hok:HOk P w H h) (KX:K.In h) (q:SqL K H a xs):∃(its:List Value) (o:Obj) (n:Nat),Vals xs its∧h.get? a=some o∧o.cls= .type "list" ∧o.data= .seq its.toArray n:=by
 rcases q with q|⟨o,its,n,e,hc,_,hd,_,hv⟩
 ·obtain⟨_,its,n,hv,e⟩:=(show ObjOk P w H h a (.lst xs) from q.ok hok)
  exact⟨its,_,n,hv,e,rfl,rfl⟩
 ·exact⟨its.toList,o,n,hv,KX _ _ e,hc,by simp [hd]⟩
theorem sqT_at {a:Addr} {xs:List V} (hok:HOk P w H h) (KX:K.In h) (q:SqT K H a xs):∃(its:List Value) (o:Obj) (n:Nat),Vals xs its∧h.get? a=some o∧o.cls= .type "tuple" ∧o.data= .seq its.toArray n:=by
 rcases q with q|⟨o,its,n,e,hc,hd,_,hv⟩
 ·obtain⟨_,its,hv,o,e,hc,n,hd⟩:=(show ObjOk P w H h a (.tup xs) from q.ok hok)
  exact⟨its,o,n,hv,e,hc,hd⟩
 ·exact⟨its.toList,o,n,hv,KX _ _ e,hc,by simp [hd]⟩
mutual
theorem Dw.reads (hok:HOk P w H h) (KX:K.In h):∀(d:WData) (v:V) (u:Value),Dw K H v d→RelV v u→∃as,ReadsW R cl h u d as
 | .none,_,_,x,r=>by
  cases x
  cases r
  exact⟨_,ReadsW.none⟩
 | .bool b,_,_,x,r=>by
  cases x
  cases r
  exact⟨_,ReadsW.bool b⟩
 | .int i,_,_,x,r=>by
  cases x
  obtain⟨t,rfl⟩:=r
  exact⟨_,ReadsW.int i t⟩
 | .str s,_,_,x,r=>by
  cases x
  obtain⟨t,rfl⟩:=r
  exact⟨_,ReadsW.str s t⟩
 | .bytes b,_,_,x,r=>by
  cases x
  obtain⟨t,rfl⟩:=r
  exact⟨_,ReadsW.bytes _ t⟩
 | .list ds,_,_,x,r=>by
  cases x with
  |lst hs ha=>
   cases r
   obtain⟨its,o,n,rv,ho,hc,hd⟩:=sqL_at hok KX hs
   obtain⟨as,hr⟩:=Dw.readsAll hok KX ds _ its ha rv
   exact⟨_,ReadsW.list ho hc hd hr⟩
 | .tuple ds,_,_,x,r=>by
  cases x with
  |tup hs ha=>
   cases r
   obtain⟨its,o,n,rv,ho,hc,hd⟩:=sqT_at hok KX hs
   obtain⟨as,hr⟩:=Dw.readsAll hok KX ds _ its ha rv
   exact⟨_,ReadsW.tuple ho hc hd hr⟩
 | .float _,_,_,x,_=>by cases x
 | .dict _,_,_,x,_=>by cases x
 | .bytearray _,_,_,x,_=>by cases x
 | .set _,_,_,x,_=>by cases x
 | .frozenset _,_,_,x,_=>by cases x
 | .obj _ _,_,_,x,_=>by cases x
theorem Dw.readsAll (hok:HOk P w H h) (KX:K.In h):∀(ds:List WData) (vs:List V) (us:List Value),DwAll K H vs ds→Vals vs us→∃as,ReadsAllW R cl h us ds as
 | [],_,_,x,r=>by
  cases x
  cases r
  exact⟨_,ReadsAllW.nil⟩
 |d::ds,_,_,x,r=>by
  cases x with
  |cons h1 h2=>
   cases r with
   |cons r1 r2=>
    obtain⟨as,q1⟩:=Dw.reads hok KX d _ _ h1 r1
    obtain⟨bs,q2⟩:=Dw.readsAll hok KX ds _ _ h2 r2
    exact⟨_,ReadsAllW.cons q1 q2⟩
end
end
mutual
noncomputable def plW:WData→Bool
 | .none=>true
 | .bool _=>true
 | .int _=>true
 | .str _=>true
 | .bytes _=>true
 | .list xs=>plWs xs
 | .tuple xs=>plWs xs
 |_=>false
noncomputable def plWs:List WData→Bool
 | []=>true
 |x::r=>plW x&&plWs r
end
theorem plWs_map {α:Type} {f:α→WData} (h:∀a,plW (f a)=true):∀l:List α,plWs (l.map f)=true
 | []=>rfl
 |x::r=>by
  show (plW (f x)&&plWs (r.map f))=true
  rw[h x,plWs_map h r]<;>rfl
theorem pl_enc:∀(c:Codec) (a:c.denote),plW (c.enc a)=true
 | .unit,_=>rfl
 | .bool,_=>rfl
 | .int _ _,_=>rfl
 | .nat _ _,_=>rfl
 | .u8,_=>rfl
 | .bytes _ _,_=>rfl
 | .text _ _ _ _,_=>rfl
 | .list _ _ c,a=>plWs_map (fun x=>pl_enc c x) a
 | .pair c d,a=>by
  show (plW (c.enc a.1)&&(plW (d.enc a.2)&&true))=true
  rw[pl_enc c a.1,pl_enc d a.2]<;>rfl
 | .triple c d e,a=>by
  show (plW (c.enc a.1)&&(plW (d.enc a.2.1)&&(plW (e.enc a.2.2)&&true)))=true
  rw[pl_enc c a.1,pl_enc d a.2.1,pl_enc e a.2.2]<;>rfl
 | .option c,none=>rfl
 | .option c,some x=>pl_enc c x
theorem pl_encAll:∀(cs:List Codec) (a:Codec.denoteAll cs),plWs (Codec.encAll cs a)=true
 | [],_=>rfl
 |c::cs,a=>by
  show (plW (c.enc a.1)&&plWs (Codec.encAll cs a.2))=true
  rw[pl_enc c a.1,pl_encAll cs a.2]<;>rfl
theorem weight_mem:∀{xs:List WData} {d:WData},d∈xs→d.weight≤WData.weightAll xs
 | [],d,h=>absurd h (by simp)
 |x::r,d,h=>by
  show d.weight≤x.weight+1+WData.weightAll r
  rcases List.mem_cons.mp h with e|m
  ·rw[e]
   omega
  ·have z:=weight_mem m
   omega
noncomputable def toV:Value→V
 | .none=> .non
 | .bool b=> .bl b
 | .int i _=> .int i
 | .str x _=> .str x
 | .bytes b _=> .byt b
 | .ref a=> .ref a
 |_=> .non
def OkU (A:List Addr):Value→Prop
 | .none=>True
 | .bool _=>True
 | .int _ _=>True
 | .str _ _=>True
 | .bytes _ _=>True
 | .ref a=>a∈A
 |_=>False
theorem OkU.mono {A B:List Addr} (h:∀a∈A,a∈B):∀{u:Value},OkU A u→OkU B u:=fun {u} x=>by
 cases u with
 |ref a=>exact h a x
 |none=>trivial
 |bool b=>trivial
 |int i t=>trivial
 |str s t=>trivial
 |bytes b t=>trivial
 |_=>exact False.elim x
theorem relV_toV {A:List Addr} {u:Value} (x:OkU A u):RelV (toV u) u:=by
 cases u with
 |ref a=>rfl
 |none=>rfl
 |bool b=>rfl
 |int i t=>exact⟨t,rfl⟩
 |str s t=>exact⟨t,rfl⟩
 |bytes b t=>exact⟨t,rfl⟩
 |_=>exact False.elim x
theorem vals_toV {A:List Addr}:∀{vs:List Value},(∀u∈vs,OkU A u)→Vals (vs.map toV) vs
 | [],_=> .nil
 |u::r,h=> .cons (relV_toV (h u (List.mem_cons_self ..))) (vals_toV fun x hx=>h x (List.mem_cons_of_mem _ hx))
def ArgOb (h:Heap) (A:List Addr) (a:Addr):Prop:=∃vs:List Value,vs.length≤sizeLine∧(∀u∈vs,OkU A u)∧
 (h.get? a=some {cls:= .type "list",data:= .seq vs.toArray}∨h.get? a=some {cls:= .type "tuple",data:= .seq vs.toArray})
theorem ArgOb.mono {h:Heap} {A B:List Addr} {a:Addr} (k:∀a∈A,a∈B) (x:ArgOb h A a):ArgOb h B a:=by
 obtain⟨vs,h1,h2,h3⟩:=x
 exact⟨vs,h1,fun u hu=>(h2 u hu).mono k,h3⟩
theorem wellAll_len {P:Params} {h:Heap}:∀{vs:List Value} {ds:List WData},WellAll P h vs ds→vs.length=ds.length
 |_,_,.nil=>rfl
 |_,_,.cons _ b=>by
  show _+1=_+1
  rw[wellAll_len b]
theorem well_list {P:Params} {h:Heap} {v:Value} {ds:List WData} (x:Well P h v (.list ds)):∃(a:Addr) (vs:List Value),v= .ref a∧h.get? a=some {cls:= .type "list",data:= .seq vs.toArray}∧WellAll P h vs ds:=by
 cases x with
 |list ho hall=>exact⟨_,_,rfl,ho,hall⟩
theorem well_tuple {P:Params} {h:Heap} {v:Value} {ds:List WData} (x:Well P h v (.tuple ds)):∃(a:Addr) (vs:List Value),v= .ref a∧h.get? a=some {cls:= .type "tuple",data:= .seq vs.toArray}∧WellAll P h vs ds:=by
 cases x with
 |tuple ho hall=>exact⟨_,_,rfl,ho,hall⟩
theorem well_cons {P:Params} {h:Heap} {us:List Value} {d:WData} {ds:List WData} (x:WellAll P h us (d::ds)):∃(v:Value) (vs:List Value),us=v::vs∧Well P h v d∧WellAll P h vs ds:=by
 cases x with
 |cons a b=>exact⟨_,_,rfl,a,b⟩
theorem line_of {n:Nat} (h:n≤1048576):n≤sizeLine:=Nat.le_trans h (by decide)
section
variable {P:Params} {h:Heap}
mutual
theorem area_one:∀(d:WData) (v:Value),Well P h v d→plW d=true→d.weight≤1048576→∃A:List Addr,OkU A v∧∀a∈A,ArgOb h A a
 | .none,_,x,_,_=>by
  cases x
  exact⟨[],trivial,fun a m=>absurd m (by simp)⟩
 | .bool b,_,x,_,_=>by
  cases x
  exact⟨[],trivial,fun a m=>absurd m (by simp)⟩
 | .int i,_,x,_,_=>by
  cases x
  exact⟨[],trivial,fun a m=>absurd m (by simp)⟩
 | .str s,_,x,_,_=>by
  cases x
  exact⟨[],trivial,fun a m=>absurd m (by simp)⟩
 | .bytes b,_,x,_,_=>by
  cases x
  exact⟨[],trivial,fun a m=>absurd m (by simp)⟩
 | .list ds,_,x,p,z=>by
  obtain⟨a,vs,rfl,ho,hall⟩:=well_list x
  have z2:WData.weightAll ds≤1048576:=z
  obtain⟨A,h1,h2⟩:=area_all ds _ hall p fun d hd=>Nat.le_trans (weight_mem hd) z2
  have k:∀b∈A,b∈a::A:=fun b hb=>List.mem_cons_of_mem _ hb
  refine⟨a::A,List.mem_cons_self ..,fun b hb=> ?_⟩
  rcases List.mem_cons.mp hb with e|m
  ·rw[e]
   exact⟨vs,line_of (by rw[wellAll_len hall];exact Nat.le_trans (PySem.W.length_le_weightAllW ds) z2),fun u hu=>(h1 u hu).mono k,.inl ho⟩
  ·exact(h2 b m).mono k
 | .tuple ds,_,x,p,z=>by
  obtain⟨a,vs,rfl,ho,hall⟩:=well_tuple x
  have z2:WData.weightAll ds≤1048576:=z
  obtain⟨A,h1,h2⟩:=area_all ds _ hall p fun d hd=>Nat.le_trans (weight_mem hd) z2
  have k:∀b∈A,b∈a::A:=fun b hb=>List.mem_cons_of_mem _ hb
  refine⟨a::A,List.mem_cons_self ..,fun b hb=> ?_⟩
  rcases List.mem_cons.mp hb with e|m
  ·rw[e]
   exact⟨vs,line_of (by rw[wellAll_len hall];exact Nat.le_trans (PySem.W.length_le_weightAllW ds) z2),fun u hu=>(h1 u hu).mono k,.inr ho⟩
  ·exact(h2 b m).mono k
 | .float _,_,_,p,_=>Bool.noConfusion (show false=true from p)
 | .dict _,_,_,p,_=>Bool.noConfusion (show false=true from p)
 | .bytearray _,_,_,p,_=>Bool.noConfusion (show false=true from p)
 | .set _,_,_,p,_=>Bool.noConfusion (show false=true from p)
 | .frozenset _,_,_,p,_=>Bool.noConfusion (show false=true from p)
 | .obj _ _,_,_,p,_=>Bool.noConfusion (show false=true from p)
theorem area_all:∀(ds:List WData) (vs:List Value),WellAll P h vs ds→plWs ds=true→(∀d∈ds,d.weight≤1048576)→∃A:List Addr,(∀u∈vs,OkU A u)∧∀a∈A,ArgOb h A a
 | [],_,x,_,_=>by
  cases x
  exact⟨[],fun u m=>absurd m (by simp),fun a m=>absurd m (by simp)⟩
 |d::ds,_,x,p,z=>by
  obtain⟨v,vs,rfl,x1,x2⟩:=well_cons x
  have q:plW d=true∧plWs ds=true:=Bool.and_eq_true_iff.mp p
  obtain⟨A,a1,a2⟩:=area_one d v x1 q.1 (z d (List.mem_cons_self ..))
  obtain⟨B,b1,b2⟩:=area_all ds vs x2 q.2 fun e he=>z e (List.mem_cons_of_mem _ he)
  have kA:∀b∈A,b∈A++B:=fun b hb=>List.mem_append.mpr (.inl hb)
  have kB:∀b∈B,b∈A++B:=fun b hb=>List.mem_append.mpr (.inr hb)
  refine⟨A++B,fun u hu=> ?_,fun b hb=> ?_⟩
  ·rcases List.mem_cons.mp hu with e|m
   ·rw[e]
    exact a1.mono kA
   ·exact(b1 u m).mono kB
  ·rcases List.mem_append.mp hb with m|m
   ·exact(a2 b m).mono kA
   ·exact(b2 b m).mono kB
end
end
noncomputable def hoOf (o:Obj):Option HO:=match o.data with
 | .seq vs _=>if (o.cls==Value.type "list")=true then some (.frz o (.lst (vs.toList.map toV))) else some (.frz o (.tup (vs.toList.map toV)))
 |_=>none
noncomputable def argH (K:PySem.W.Frag) (h:Heap) (A:List Addr):Hp:=fun b=>if b∈A then(if (K.lookup b).isNone=true then(h.get? b).bind hoOf else none) else none
def OnlyF (H:Hp):Prop:=∀b,H b=none∨∃o u,H b=some (.frz o u)
theorem hoOf_lst (vs:List Value):hoOf {cls:= .type "list",data:= .seq vs.toArray}=some (.frz {cls:= .type "list",data:= .seq vs.toArray} (.lst (vs.map toV))):=by
 show (if (Value.type "list" ==Value.type "list")=true then some (HO.frz {cls:= .type "list",data:= .seq vs.toArray} (.lst (vs.toArray.toList.map toV))) else some (HO.frz {cls:= .type "list",data:= .seq vs.toArray} (.tup (vs.toArray.toList.map toV))))=_
 rw[if_pos (beq_self_eq_true _)]
theorem hoOf_tup (vs:List Value):hoOf {cls:= .type "tuple",data:= .seq vs.toArray}=some (.frz {cls:= .type "tuple",data:= .seq vs.toArray} (.tup (vs.map toV))):=by
 show (if (Value.type "tuple" ==Value.type "list")=true then some (HO.frz {cls:= .type "tuple",data:= .seq vs.toArray} (.lst (vs.toArray.toList.map toV))) else some (HO.frz {cls:= .type "tuple",data:= .seq vs.toArray} (.tup (vs.toArray.toList.map toV))))=_
 rw[if_neg (by decide)]
section
variable {P:Program} {w:World} {K:PySem.W.Frag} {h:Heap} {A:List Addr}
theorem argH_at {b:Addr} {o:Obj} (hb:b∈A) (hk:K.lookup b=none) (e:h.get? b=some o):argH K h A b=hoOf o:=by
 unfold argH
 rw[if_pos hb,hk,if_pos (show (none:Option Obj).isNone=true from rfl),e]<;>rfl
theorem of_argH {b:Addr} {u:HO} (q:argH K h A b=some u):b∈A∧K.lookup b=none:=by
 unfold argH at q
 by_cases hb:b∈A
 ·rw[if_pos hb] at q
  cases hk:K.lookup b with
  |none=>exact⟨hb,rfl⟩
  |some o=>
   rw[hk,if_neg (by simp)] at q
   cases q
 ·rw[if_neg hb] at q
  cases q
theorem argH_is (ar:∀a∈A,ArgOb h A a) {b:Addr} {u:HO} (q:argH K h A b=some u):K.lookup b=none∧∃vs:List Value,vs.length≤sizeLine∧(∀u∈vs,OkU A u)∧
  ((h.get? b=some {cls:= .type "list",data:= .seq vs.toArray}∧u= .frz {cls:= .type "list",data:= .seq vs.toArray} (.lst (vs.map toV)))∨
   (h.get? b=some {cls:= .type "tuple",data:= .seq vs.toArray}∧u= .frz {cls:= .type "tuple",data:= .seq vs.toArray} (.tup (vs.map toV)))):=by
 obtain⟨hb,hk⟩:=of_argH q
 obtain⟨vs,h1,h2,h3⟩:=ar b hb
 refine⟨hk,vs,h1,h2,?_⟩
 rcases h3 with e|e
 ·rw[argH_at hb hk e,hoOf_lst] at q
  exact .inl ⟨e,(Option.some.inj q).symm⟩
 ·rw[argH_at hb hk e,hoOf_tup] at q
  exact .inr ⟨e,(Option.some.inj q).symm⟩
theorem argH_only (ar:∀a∈A,ArgOb h A a):OnlyF (argH K h A):=fun b=>by
 cases q:argH K h A b with
 |none=>exact .inl rfl
 |some u=>
  obtain⟨_,vs,_,_,⟨_,e⟩|⟨_,e⟩⟩:=argH_is ar q
  ·exact .inr ⟨_,_,by rw[e]⟩
  ·exact .inr ⟨_,_,by rw[e]⟩
theorem argH_ok (ar:∀a∈A,ArgOb h A a):HOk P w (argH K h A) h:=fun b u q=>by
 obtain⟨_,vs,h1,h2,⟨e,rfl⟩|⟨e,rfl⟩⟩:=argH_is ar q
 ·exact⟨e,by rw[List.length_map];exact h1,vs,_,vals_toV h2,e⟩
 ·exact⟨e,by rw[List.length_map];exact h1,vs,vals_toV h2,_,e,rfl,_,rfl⟩
theorem seq_inj {c c':Value} {vs us:List Value} (e:(some {cls:=c,data:= .seq vs.toArray}:Option Obj)=some {cls:=c',data:= .seq us.toArray}):c=c'∧vs=us:=by
 have e1:=Option.some.inj e
 have e2:c=c':=congrArg Obj.cls e1
 have e3:Data.seq vs.toArray=Data.seq us.toArray:=congrArg Obj.data e1
 injection e3 with e4
 refine⟨e2,?_⟩
 have e5:=congrArg Array.toList e4
 simpa using e5
theorem argL (KX:K.In h) (ar:∀a∈A,ArgOb h A a) {a:Addr} {vs:List Value} (ha:a∈A) (e:h.get? a=some {cls:= .type "list",data:= .seq vs.toArray}):(∀u∈vs,OkU A u)∧SqL K (argH K h A) a (vs.map toV):=by
 obtain⟨us,h1,h2,h3⟩:=ar a ha
 have hu:us=vs:=by
  rcases h3 with q|q
  ·rw[e] at q
   exact(seq_inj q).2.symm
  ·rw[e] at q
   exact absurd (Value.type.inj (seq_inj q).1) (by decide)
 subst hu
 refine⟨h2,?_⟩
 cases hk:K.lookup a with
 |none=>exact .inl (.inr ⟨_,by rw[argH_at ha hk e,hoOf_lst]⟩)
 |some o=>
  have e2:=KX a o hk
  rw[e] at e2
  obtain rfl:=Option.some.inj e2
  exact .inr ⟨_,us.toArray,_,hk,rfl,rfl,rfl,by rw[List.size_toArray];exact h1,by simpa using vals_toV h2⟩
theorem argT (KX:K.In h) (ar:∀a∈A,ArgOb h A a) {a:Addr} {vs:List Value} (ha:a∈A) (e:h.get? a=some {cls:= .type "tuple",data:= .seq vs.toArray}):(∀u∈vs,OkU A u)∧SqT K (argH K h A) a (vs.map toV):=by
 obtain⟨us,h1,h2,h3⟩:=ar a ha
 have hu:us=vs:=by
  rcases h3 with q|q
  ·rw[e] at q
   exact absurd (Value.type.inj (seq_inj q).1) (by decide)
  ·rw[e] at q
   exact(seq_inj q).2.symm
 subst hu
 refine⟨h2,?_⟩
 cases hk:K.lookup a with
 |none=>exact .inl (.inr ⟨_,by rw[argH_at ha hk e,hoOf_tup]⟩)
 |some o=>
  have e2:=KX a o hk
  rw[e] at e2
  obtain rfl:=Option.some.inj e2
  exact .inr ⟨_,us.toArray,_,hk,rfl,rfl,by rw[List.size_toArray];exact h1,by simpa using vals_toV h2⟩
mutual
theorem dw_one {Pm:Params} (KX:K.In h) (ar:∀a∈A,ArgOb h A a):∀(d:WData) (v:Value),Well Pm h v d→plW d=true→OkU A v→Dw K (argH K h A) (toV v) d
 | .none,_,x,_,_=>by
  cases x
  exact .non
 | .bool b,_,x,_,_=>by
  cases x
  exact .bl b
 | .int i,_,x,_,_=>by
  cases x
  exact .int i
 | .str s,_,x,_,_=>by
  cases x
  exact .str s
 | .bytes b,_,x,_,_=>by
  cases x
  have z:=Dw.byt (K:=K) (H:=argH K h A) b.toArray
  exact z
 | .list ds,_,x,p,hu=>by
  obtain⟨a,vs,rfl,ho,hall⟩:=well_list x
  obtain⟨h2,hs⟩:=argL KX ar hu ho
  exact .lst hs (dw_all KX ar ds _ hall p h2)
 | .tuple ds,_,x,p,hu=>by
  obtain⟨a,vs,rfl,ho,hall⟩:=well_tuple x
  obtain⟨h2,hs⟩:=argT KX ar hu ho
  exact .tup hs (dw_all KX ar ds _ hall p h2)
 | .float _,_,_,p,_=>Bool.noConfusion (show false=true from p)
 | .dict _,_,_,p,_=>Bool.noConfusion (show false=true from p)
 | .bytearray _,_,_,p,_=>Bool.noConfusion (show false=true from p)
 | .set _,_,_,p,_=>Bool.noConfusion (show false=true from p)
 | .frozenset _,_,_,p,_=>Bool.noConfusion (show false=true from p)
 | .obj _ _,_,_,p,_=>Bool.noConfusion (show false=true from p)
theorem dw_all {Pm:Params} (KX:K.In h) (ar:∀a∈A,ArgOb h A a):∀(ds:List WData) (vs:List Value),WellAll Pm h vs ds→plWs ds=true→(∀u∈vs,OkU A u)→DwAll K (argH K h A) (vs.map toV) ds
 | [],_,x,_,_=>by
  cases x
  exact .nil
 |d::ds,_,x,p,hu=>by
  obtain⟨v,vs,rfl,x1,x2⟩:=well_cons x
  have q:plW d=true∧plWs ds=true:=Bool.and_eq_true_iff.mp p
  exact .cons (dw_one KX ar d v x1 q.1 (hu _ (List.mem_cons_self ..))) (dw_all KX ar ds vs x2 q.2 fun u m=>hu u (List.mem_cons_of_mem _ m))
end
end
theorem spec_call {P:Program} {w:World} {K:PySem.W.Frag} {mg mb:Str→Option Value} {CX:CXT} {k:Nat} {fa:Addr} {fd:FuncData} {ps:List Str} {sp:Sp} {s₁:Shared} {vals:List Value} {ds:List WData} {R:PySem.W.WRecords} {cl:Str→Option Addr} {d0:WData}
  (KX:K.In s₁.heap) (hns:s₁.heap.Ns mainGlobals mg) (hb:s₁.heap.Ns builtinsNs mb) (hbb:∀x:Str,x≠ "__name__" →mb x=bootBuiltins x) (hlim:s₁.heap.NoLimit) (hg:s₁.gens= #[])
  (hwl:WellAll w.params s₁.heap vals ds) (hpl:plWs ds=true) (hwt:∀d∈ds,d.weight≤1048576) (hr:Room k callerA)
  (F:∀base:Heap,K.In base→base.Ns mainGlobals mg→FnOk P w K mg base CX k fa fd ps sp) (hbind:∀(s:Shared) (us:List Value),us.length=ps.length→BindsTo s fd ⟨us,[]⟩ (ps.zip us)) (hlen:ds.length=ps.length)
  (hsp:∀(H:Hp) (xs:List V),OnlyF H→DwAll K H xs ds→sp xs H (fun v H'=>Dw K H' v d0) fun _ _ _=>False)
  (hCX:∀H e s',CX [] H s₁ (fun _ _ _=>False) e s'→False):
  codeAny (model P w) callerA (.call (.ref fa) ⟨vals,[]⟩) (fun r s'=>∃u as,r= .ok (.ret u)∧ReadsW R cl s'.heap u d0 as∧OldK s₁.heap s'.heap∧s'.os=s₁.os∧AllBare s'.gens) s₁:=by
 obtain⟨A,ho,ar⟩:=area_all ds vals hwl hpl hwt
 have hO:OnlyF (argH K s₁.heap A):=argH_only ar
 have hok:HOk P w (argH K s₁.heap A) s₁.heap:=argH_ok ar
 have hS:=dw_all KX ar ds vals hwl hpl ho
 have hV:=vals_toV ho
 have hK:∀b u,argH K s₁.heap A b=some u→K.lookup b=none:=fun b u q=>(argH_is ar q).1
 have noA:∀{b:Addr} {o:Obj} {es:Array DictEntry} {ep:Nat},s₁.heap.get? b=some o→o.data= .dict es ep→argH K s₁.heap A b=none:=fun {b o es ep} e d=>by
  cases q:argH K s₁.heap A b with
  |none=>rfl
  |some u=>
   obtain⟨_,vs,_,_,⟨e2,_⟩|⟨e2,_⟩⟩:=argH_is ar q
   ·rw[e2] at e
    cases e
    have d':Data.seq vs.toArray _=Data.dict es ep:=d
    cases d'
   ·rw[e2] at e
    cases e
    have d':Data.seq vs.toArray _=Data.dict es ep:=d
    cases d'
 generalize argH K s₁.heap A=H at hO hok hS hK noA
 have base_of:∀{b:Addr} {o:Obj},s₁.heap.get? b=some o→H b=none→(hidT s₁.heap H).get? b=some o:=fun e n=>hidT_get e n
 have nsK:∀{b:Addr} {m:Str→Option Value},s₁.heap.Ns b m→(hidT s₁.heap H).Ns b m:=fun {b m} ⟨o,es,ep,e,d,r⟩=>⟨o,es,ep,base_of e (noA e d),d,r⟩
 have nK:∀b o,K.lookup b=some o→H b=none:=fun b o e=>by
  cases q:H b with
  |none=>rfl
  |some u=>
   rw[hK b u q] at e
   cases e
 have hKb:K.In (hidT s₁.heap H):=fun b o e=>base_of (KX b o e) (nK b o e)
 have hM:Mod K mg (hidT s₁.heap H):=⟨hKb,nsK hns,⟨mb,nsK hb,hbb⟩,let ⟨mc,h1,h2⟩:=hlim;⟨mc,nsK h1,h2⟩⟩
 have e0:Env0 P w K mg (hidT s₁.heap H) callerA [] s₁ H:=⟨rfl,hM,fun b o e=>of_hidT e,Nat.le_of_eq (hidT_size _ _),trivial,fun b hb=>absurd (show b∈([]:List Addr) from hb) (by simp),hok,.of_eq hg⟩
 have hl:vals.length=ps.length:=by rw[wellAll_len hwl];exact hlen
 refine codeAny_mono ((F _ hKb (nsK hns)).run callerA [] s₁ H ⟨vals,[]⟩ vals (vals.map toV) _ _ hr e0 (hbind s₁ vals hl) hV (hsp H _ hO hS)) fun r s' x=> ?_
 cases r with
 |error e=>exact(hCX H e s' x).elim
 |ok fl=>
  cases fl with
  |next=>exact False.elim x
  |brk=>exact False.elim x
  |cont=>exact False.elim x
  |ret u=>
   obtain⟨v,H',os,bare,un,hok',r',q⟩:=x
   have kept:∀b o,s₁.heap.get? b=some o→s'.heap.get? b=some o:=fun b o e=>by
    cases q2:H b with
    |none=>exact un.keep b o e q2 (by intro z;exact absurd (show b∈([]:List Addr) from z) (by simp)) (by simp)
    |some u2=>
     rcases hO b with z|⟨ob,u3,z⟩
     ·rw[q2] at z
      cases z
     ·have z2:=un.frzs b ob _ z
      obtain⟨e1,_⟩:=hok b _ z
      obtain⟨e2,_⟩:=hok' b _ z2
      rw[e] at e1
      cases e1
      exact e2
   have KX':K.In s'.heap:=fun b o e=>kept b o (KX b o e)
   obtain⟨as,hrd⟩:=Dw.reads (R:=R) (cl:=cl) hok' KX' d0 v u q r'
   exact⟨u,as,rfl,hrd,OldK.of_keep kept,os,bare⟩
theorem layable_weight {ds:List WData} (h:WData.layableAll ds=true):∀d∈ds,d.weight≤1048576:=fun d hd=>
 (PySem.W.layableW_iff.mp (List.all_eq_true.mp h d hd)).2.2
theorem encAll_len:∀(cs:List Codec) (a:Codec.denoteAll cs),(Codec.encAll cs a).length=cs.length
 | [],_=>rfl
 |c::cs,a=>by
  show (Codec.encAll cs a.2).length+1=cs.length+1
  rw[encAll_len cs a.2]
theorem walk_spec {r:OpenSpec} {k:Nat} {q:Program} {loose:List Str} {XP:(Str→Option Value)→Heap→Prop} {YP:World→Heap→Prop} {d:DefRec} {K:Params→PySem.W.Frag} {CX:World→CXT} {ps:List Str} {sp:World→Sp}
  (hwell:r.wellSaid=true) (hdf:d.params.defaults= []) (hlen:r.args.length=ps.length) (hr:Room k callerA)
  (hY:∀(w:World) (h:Heap),YP w h→(K w.params).In h)
  (F:∀(w:World) (mg:Str→Option Value) (fa:Addr) (h:Heap),YP w h→(K w.params).In h→h.Ns mainGlobals mg→mg d.name=some (.ref fa)→
   ∃fd:FuncData,(∀(s:Shared) (us:List Value),us.length=ps.length→BindsTo s fd ⟨us,[]⟩ (ps.zip us))∧
    ∀base:Heap,(K w.params).In base→base.Ns mainGlobals mg→FnOk r.prog w (K w.params) mg base (CX w) k fa fd ps (sp w))
  (hsp:∀(w:World) (H:Hp) (xs:List V) (a:Codec.denoteAll r.args),OnlyF H→Codec.withinAll r.args a=true→Codec.app r.args r.asked a=true→DwAll (K w.params) H xs (Codec.encAll r.args a)→
   sp w xs H (fun v H'=>Dw (K w.params) H' v (r.ret.enc (Codec.app r.args r.f a))) fun _ _ _=>False)
  (hCX:∀(w:World) (H:Hp) (s:Shared) (e:Value) (s':Shared),CX w [] H s (fun _ _ _=>False) e s'→False):
  PySem.W.WalkOS q loose XP YP r d [] (fun f vs=>PySem.call f vs):=by
 intro w s_0 s₁ mg mb G Y fa o pm cd doc dV kV ho hd hcd hD hmg hg args vals as hpre hlay hrd hwl hlo
 obtain⟨a,e1,e2⟩:=PySem.W.os_pre_some hpre
 obtain⟨e3,hwi⟩:=Codec.encAll_of_decAll r.args args a e1
 subst e3
 have KX:=hY w _ Y
 obtain⟨fd,hb,hF⟩:=F w mg fa _ Y KX G.T.g hmg
 refine PySem.W.enter_call (codeAny_mono (spec_call (R:= []) (cl:=classAt s_0.heap) (d0:=r.ret.enc (Codec.app r.args r.f a)) KX G.T.g G.T.b G.T.builtins G.T.nolimit hg hwl (pl_encAll _ _) (layable_weight hlay) hr hF hb (by rw[encAll_len];exact hlen)
  (fun H xs hO hS=>hsp w H xs a hO hwi e2 hS) fun H e s'=>hCX w H s₁ e s') fun r' s' hq=> ?_)
 obtain⟨u,as',rfl,h1,h2,h3,h4⟩:=hq
 exact⟨.inl ⟨u,_,as',rfl,fun _=>rfl,h1,(OpenSpec.post_iff hwell hwi _ _).mpr rfl,fun z=>Bool.noConfusion (show false=true from z)⟩,h2,h3,h4⟩
theorem walk_specK {r:OpenSpec} {k:Nat} {q:Program} {loose:List Str} {XP:(Str→Option Value)→Heap→Prop} {YP:World→Heap→Prop} {d:DefRec} {K:Params→PySem.W.Frag} {CX:CXT} {ps:List Str} {sp:PySem.W.Frag→Sp}
  (hwell:r.wellSaid=true) (hdf:d.params.defaults= []) (hlen:r.args.length=ps.length) (hr:Room k callerA)
  (hY:∀(w:World) (h:Heap),YP w h→(K w.params).In h)
  (F:∀(w:World) (mg:Str→Option Value) (fa:Addr) (h:Heap),YP w h→(K w.params).In h→h.Ns mainGlobals mg→mg d.name=some (.ref fa)→
   ∃fd:FuncData,(∀(s:Shared) (us:List Value),us.length=ps.length→BindsTo s fd ⟨us,[]⟩ (ps.zip us))∧
    ∀base:Heap,(K w.params).In base→base.Ns mainGlobals mg→FnOk r.prog w (K w.params) mg base CX k fa fd ps (sp (K w.params)))
  (hsp:∀(K:PySem.W.Frag) (H:Hp) (xs:List V) (a:Codec.denoteAll r.args),OnlyF H→Codec.withinAll r.args a=true→Codec.app r.args r.asked a=true→DwAll K H xs (Codec.encAll r.args a)→
   sp K xs H (fun v H'=>Dw K H' v (r.ret.enc (Codec.app r.args r.f a))) fun _ _ _=>False)
  (hCX:∀(H:Hp) (s:Shared) (e:Value) (s':Shared),CX [] H s (fun _ _ _=>False) e s'→False):
  PySem.W.WalkOS q loose XP YP r d [] (fun f vs=>PySem.call f vs):=
 walk_spec (K:=K) (CX:=fun _=>CX) (sp:=fun w=>sp (K w.params)) hwell hdf hlen hr hY F (fun w H xs a h1 h2 h3 h4=>hsp (K w.params) H xs a h1 h2 h3 h4) fun _ H s e s'=>hCX H s e s'
end L2
end
end
section
namespace KTh
open Kcv7
def IsMin (S:Nat→Prop):Few→Prop
 |none=>∀n,¬S n
 |some n=>S n∧∀m,S m→n≤m
theorem IsMin.uniq {S:Nat→Prop}:∀{a b:Few},IsMin S a→IsMin S b→a=b
 |none,none,_,_=>rfl
 |none,some n,h,h'=>absurd h'.1 (h n)
 |some n,none,h,h'=>absurd h.1 (h' n)
 |some n,some m,h,h'=>by
  have:=h.2 m h'.1
  have:=h'.2 n h.1
  congr 1
  omega
theorem IsMin.congr {S T:Nat→Prop} (e:∀n,S n↔T n):∀{a:Few},IsMin S a→IsMin T a
 |none,h=>fun n q=>h n ((e n).2 q)
 |some n,h=>⟨(e n).1 h.1,fun m q=>h.2 m ((e m).2 q)⟩
theorem IsMin.congr_le {S T:Nat→Prop} (e:∀n,S n→T n) (f:∀n,T n→∃m,S m∧m≤n):∀{a:Few},IsMin S a→IsMin T a
 |none,h=>fun n q=>by obtain⟨m,hm,_⟩:=f n q;exact h m hm
 |some n,h=>⟨e n h.1,fun m q=>by obtain⟨k,hk,hl⟩:=f m q;exact Nat.le_trans (h.2 k hk) hl⟩
theorem isMin_ex {S:Nat→Prop}:∀n,S n→∃m,S m∧m≤n∧∀k,S k→m≤k:=by
 intro n
 induction n using Nat.strongRecOn with
 |_ n ih=>
  intro h
  by_cases q:∃k,S k∧k<n
  ·obtain⟨k,hk,hl⟩:=q
   obtain⟨m,h1,h2,h3⟩:=ih k hl hk
   exact⟨m,h1,by omega,h3⟩
  ·exact⟨n,h,Nat.le_refl _,fun k hk=>by
    rcases Nat.lt_or_ge k n with z|z
    ·exact absurd ⟨k,hk,z⟩ q
    ·exact z⟩
theorem isMin_some (n:Nat):IsMin (fun m=>m=n) (some n):=⟨rfl,fun m h=>by omega⟩
theorem isMin_none:IsMin (fun _=>False) none:=fun _ h=>h
theorem IsMin.least {S T:Nat→Prop}:∀{a b:Few},IsMin S a→IsMin T b→IsMin (fun n=>S n∨T n) (least a b)
 |none,none,h,h'=>fun n q=>q.elim (h n) (h' n)
 |none,some m,h,h'=>⟨.inr h'.1,fun k q=>q.elim (fun z=>absurd z (h k)) (h'.2 k)⟩
 |some n,none,h,h'=>⟨.inl h.1,fun k q=>q.elim (h.2 k) (fun z=>absurd z (h' k))⟩
 |some n,some m,h,h'=>by
  show IsMin _ (some (if m<n then m else n))
  split
  ·exact⟨.inr h'.1,fun k q=>q.elim (fun z=>by have:=h.2 k z;omega) (h'.2 k)⟩
  ·exact⟨.inl h.1,fun k q=>q.elim (h.2 k) (fun z=>by have:=h'.2 k z;omega)⟩
theorem IsMin.plus {S T:Nat→Prop}:∀{a b:Few},IsMin S a→IsMin T b→IsMin (fun n=>∃x y,S x∧T y∧n=x+y) (plus a b)
 |none,none,h,h'=>fun n ⟨x,y,hx,_,_⟩=>h x hx
 |none,some m,h,h'=>fun n ⟨x,y,hx,_,_⟩=>h x hx
 |some n,none,h,h'=>fun n ⟨x,y,_,hy,_⟩=>h' y hy
 |some n,some m,h,h'=>⟨⟨n,m,h.1,h'.1,rfl⟩,fun k ⟨x,y,hx,hy,e⟩=>by
   have:=h.2 x hx
   have:=h'.2 y hy
   omega⟩
theorem isMin_foldl:∀(l:List Few) (S:Nat→Prop) (a:Few),IsMin S a→IsMin (fun n=>S n∨some n∈l) (l.foldl Kcv7.least a)
 | [],S,a,h=>h.congr (by simp)
 |b::l,S,a,h=>by
  have hb:IsMin (fun n=>some n=b) b:=by
   cases b with
   |none=>exact fun n q=>by cases q
   |some m=>exact(isMin_some m).congr (by intro n;constructor<;>(intro e;cases e;rfl))
  refine(isMin_foldl l _ (Kcv7.least a b) (h.least hb)).congr fun n=> ?_
  simp [or_assoc]
theorem isMin_leastOf (l:List Few):IsMin (fun n=>some n∈l) (leastOf l):=
 (isMin_foldl l _ none isMin_none).congr (by simp)
theorem isMin_leastOf_map {α:Type} (l:List α) (f:α→Few) (S:α→Nat→Prop) (h:∀x∈l,IsMin (S x) (f x)):
  IsMin (fun n=>∃x∈l,S x n) (leastOf (l.map f)):=by
 refine(isMin_leastOf (l.map f)).congr_le (fun n q=> ?_) (fun n ⟨x,hx,q⟩=> ?_)
 ·obtain⟨x,hx,e⟩:=List.mem_map.mp q
  have:=h x hx
  rw[e] at this
  exact⟨x,hx,this.1⟩
 ·have:=h x hx
  cases e:f x with
  |none=>rw[e] at this;exact absurd q (this n)
  |some m=>
   rw[e] at this
   exact⟨m,List.mem_map.mpr ⟨x,hx,e⟩,this.2 n q⟩
theorem countP_lt {α:Type} {P Q:α→Bool}:∀{l:List α},(∀x∈l,P x=true→Q x=true)→(∃y∈l,Q y=true∧P y=false)→l.countP P<l.countP Q
 | [],_,⟨y,hy,_⟩=>absurd hy (by simp)
 |a::l,h,⟨y,hy,q1,q2⟩=>by
  have hm:l.countP P≤l.countP Q:=List.countP_mono_left (fun x hx=>h x (List.mem_cons_of_mem _ hx))
  rw[List.countP_cons,List.countP_cons]
  rcases List.mem_cons.mp hy with rfl|hy
  ·rw[q1,q2]
   simp
   omega
  ·have ih:=countP_lt (P:=P) (Q:=Q) (l:=l) (fun x hx=>h x (List.mem_cons_of_mem _ hx)) ⟨y,hy,q1,q2⟩
   cases ep:P a with
   |false=>simp;omega
   |true=>rw[h a List.mem_cons_self ep];simp;omega
structure WF (p:Prog):Prop where
 vpos:0<p.values
 vle:p.values≤4
 ppos:0<p.points
 ple:p.points≤32
 ent:∀x∈p.entries,x<p.points
 pt:∀r∈p.rules,r.point<p.points
 set_:∀r∈p.rules,r.set<p.values∨r.set=4
 kind_:∀r∈p.rules,r.kind≤2
 to0:∀r∈p.rules,r.kind=0→r.to_<p.points
 to1:∀r∈p.rules,r.kind=1→r.to_<p.entries.length∧r.next<p.points
theorem WF.after4 {p:Prog} (h:WF p) {r:Rule} (hr:r∈p.rules) {v:Nat} (hv:v<4):after r v<4:=by
 unfold after
 have:=h.set_ r hr
 have:=h.vle
 have:VALUES=4:=rfl
 split<;>omega
theorem WF.afterV {p:Prog} (h:WF p) {r:Rule} (hr:r∈p.rules) {v:Nat} (hv:v<p.values):after r v<p.values:=by
 unfold after
 have:=h.set_ r hr
 have:=h.vle
 have:VALUES=4:=rfl
 split<;>omega
theorem WF.entry {p:Prog} (h:WF p) (f:Nat):entry p f<p.points:=by
 unfold Kcv7.entry
 rw[List.getD_eq_getElem?_getD]
 cases e:p.entries[f]? with
 |none=>exact h.ppos
 |some x=>exact h.ent x (List.mem_of_getElem? e)
def By (p:Prog) (B:Nat→Nat→Nat→Nat→Prop) (r:Rule) (v w n:Nat):Prop:=
 (r.kind=2∧after r v=w∧n=1)∨(r.kind=0∧∃m,B (after r v) r.to_ w m∧n=1+m)∨
 (r.kind≠2∧r.kind≠0∧∃x a b,x<4∧B (after r v) (entry p r.to_) x a∧B x r.next w b∧n=1+(a+b))
def Bd (p:Prog):Nat→Nat→Nat→Nat→Nat→Prop
 |0,_,_,_,_=>False
 |k+1,v,i,w,n=>∃r∈p.rules,fits r v i=true∧By p (Bd p k) r v w n
def Bk (p:Prog) (v i w n:Nat):Prop:=∃k,Bd p k v i w n
theorem By.mono {p:Prog} {B B':Nat→Nat→Nat→Nat→Prop} (h:∀v i w n,B v i w n→B' v i w n) {r:Rule} {v w n:Nat} (q:By p B r v w n):By p B' r v w n:=by
 rcases q with q|⟨h1,m,h2,h3⟩|⟨h1,h2,x,a,b,h3,h4,h5,h6⟩
 ·exact .inl q
 ·exact .inr (.inl ⟨h1,m,h _ _ _ _ h2,h3⟩)
 ·exact .inr (.inr ⟨h1,h2,x,a,b,h3,h _ _ _ _ h4,h _ _ _ _ h5,h6⟩)
theorem Bd.succ {p:Prog}:∀{k v i w n:Nat},Bd p k v i w n→Bd p (k+1) v i w n
 |0,_,_,_,_,h=>h.elim
 |k+1,_,_,_,_,⟨r,hr,hf,q⟩=>⟨r,hr,hf,q.mono fun _ _ _ _ z=>Bd.succ z⟩
theorem Bd.mono {p:Prog} {k l v i w n:Nat} (h:Bd p k v i w n) (hl:k≤l):Bd p l v i w n:=by
 induction hl with
 |refl=>exact h
 |step _ ih=>exact ih.succ
theorem Bk.unfold {p:Prog} {v i w n:Nat} (h:Bk p v i w n):∃r∈p.rules,fits r v i=true∧By p (Bk p) r v w n:=by
 obtain⟨k,h⟩:=h
 cases k with
 |zero=>exact h.elim
 |succ k=>
  obtain⟨r,hr,hf,q⟩:=h
  exact⟨r,hr,hf,q.mono fun _ _ _ _ z=>⟨k,z⟩⟩
theorem Bk.fold {p:Prog} {v i w n:Nat} {r:Rule} (hr:r∈p.rules) (hf:fits r v i=true) (q:By p (Bk p) r v w n):Bk p v i w n:=by
 rcases q with q|⟨h1,m,⟨k,h2⟩,h3⟩|⟨h1,h2,x,a,b,h3,⟨k,h4⟩,⟨l,h5⟩,h6⟩
 ·exact⟨1,r,hr,hf,.inl q⟩
 ·exact⟨k+1,r,hr,hf,.inr (.inl ⟨h1,m,h2,h3⟩)⟩
 ·exact⟨k+l+1,r,hr,hf,.inr (.inr ⟨h1,h2,x,a,b,h3,h4.mono (by omega),h5.mono (by omega),h6⟩)⟩
theorem fits_pt {r:Rule} {v i:Nat} (h:fits r v i=true):r.point=i:=by
 unfold fits at h
 rw[Bool.and_eq_true] at h
 exact eq_of_beq h.1
theorem Bk.rec_on {p:Prog} {M:Nat→Nat→Nat→Nat→Prop}
  (step:∀r∈p.rules,∀v i w n,fits r v i=true→By p (fun v i w n=>Bk p v i w n∧M v i w n) r v w n→M v i w n) {v i w n:Nat} (h:Bk p v i w n):M v i w n:=by
 obtain⟨k,h⟩:=h
 induction k generalizing v i w n with
 |zero=>exact h.elim
 |succ k ih=>
  obtain⟨r,hr,hf,q⟩:=h
  exact step r hr v i w n hf (q.mono fun _ _ _ _ z=>⟨⟨k,z⟩,ih z⟩)
theorem Bk.pt {p:Prog} (W:WF p) {v i w n:Nat} (h:Bk p v i w n):i<p.points:=by
 obtain⟨r,hr,hf,_⟩:=h.unfold
 have:=W.pt r hr
 rw[fits_pt hf] at this
 exact this
theorem Bk.pos {p:Prog} {v i w n:Nat} (h:Bk p v i w n):0<n:=by
 obtain⟨r,hr,hf,q⟩:=h.unfold
 rcases q with q|⟨h1,m,h2,h3⟩|⟨h1,h2,x,a,b,h3,h4,h5,h6⟩<;>omega
theorem Bk.w4 {p:Prog} (W:WF p) {v i w n:Nat} (h:Bk p v i w n):v<4→w<4:=by
 refine Bk.rec_on (M:=fun v i w n=>v<4→w<4) (fun r hr v i w n hf q hv=> ?_) h
 have ha:=W.after4 hr hv
 rcases q with ⟨_,e,_⟩|⟨h1,m,h2,h3⟩|⟨h1,h2,x,a,b,h3,h4,h5,h6⟩
 ·omega
 ·exact h2.2 ha
 ·exact h5.2 h3
theorem Bk.wV {p:Prog} (W:WF p) {v i w n:Nat} (h:Bk p v i w n):v<p.values→w<p.values:=by
 refine Bk.rec_on (M:=fun v i w n=>v<p.values→w<p.values) (fun r hr v i w n hf q hv=> ?_) h
 have ha:=W.afterV hr hv
 rcases q with ⟨_,e,_⟩|⟨h1,m,h2,h3⟩|⟨h1,h2,x,a,b,h3,h4,h5,h6⟩
 ·omega
 ·exact h2.2 ha
 ·exact h5.2 (h4.2 ha)
def Mn (p:Prog) (v i w n:Nat):Prop:=Bk p v i w n∧∀m,Bk p v i w m→n≤m
theorem Mn.uniq {p:Prog} {v i w n m:Nat} (h:Mn p v i w n) (h':Mn p v i w m):n=m:=by
 have:=h.2 m h'.1
 have:=h'.2 n h.1
 omega
theorem Mn.unfold {p:Prog} {v i w n:Nat} (h:Mn p v i w n):∃r∈p.rules,fits r v i=true∧By p (Mn p) r v w n:=by
 obtain⟨r,hr,hf,q⟩:=h.1.unfold
 refine⟨r,hr,hf,?_⟩
 rcases q with q|⟨h1,m,h2,h3⟩|⟨h1,h2,x,a,b,h3,h4,h5,h6⟩
 ·exact .inl q
 ·obtain⟨m',e1,e2,e3⟩:=isMin_ex m h2
  have:=h.2 _ (Bk.fold hr hf (.inr (.inl ⟨h1,m',e1,rfl⟩)))
  have:m'=m:=by omega
  subst this
  exact .inr (.inl ⟨h1,m',⟨e1,e3⟩,h3⟩)
 ·obtain⟨a',e1,e2,e3⟩:=isMin_ex a h4
  obtain⟨b',f1,f2,f3⟩:=isMin_ex b h5
  have:=h.2 _ (Bk.fold hr hf (.inr (.inr ⟨h1,h2,x,a',b',h3,e1,f1,rfl⟩)))
  have:a'=a:=by omega
  have:b'=b:=by omega
  subst a' b'
  exact .inr (.inr ⟨h1,h2,x,a,b,h3,⟨e1,e3⟩,⟨f1,f3⟩,h6⟩)
open Classical in
noncomputable def rankP (p:Prog) (n:Nat):Nat→Bool:=fun c=>decide (∃m,m<n∧Mn p (c%4) (c/4%32) (c/128) m)
open Classical in
theorem rankP_iff {p:Prog} {n c:Nat}:rankP p n c=true↔∃m,m<n∧Mn p (c%4) (c/4%32) (c/128) m:=by
 unfold rankP
 exact decide_eq_true_iff
noncomputable def rank (p:Prog) (n:Nat):Nat:=(List.range 512).countP (rankP p n)
theorem code {v i w:Nat} (hv:v<4) (hi:i<32) (hw:w<4):∃c,c<512∧c%4=v∧c/4%32=i∧c/128=w:=⟨v+4*i+128*w,by omega,by omega,by omega,by omega⟩
theorem rank_lt {p:Prog} (W:WF p) {v i w n m:Nat} (hv:v<4) (h:Mn p v i w m) (hl:m<n):rank p m<rank p n:=by
 have hi:i<32:=Nat.lt_of_lt_of_le (h.1.pt W) W.ple
 have hw:=h.1.w4 W hv
 obtain⟨c,hc,e1,e2,e3⟩:=code hv hi hw
 refine countP_lt (fun x _ q=> ?_) ⟨c,List.mem_range.mpr hc,?_,?_⟩
 ·obtain⟨k,hk,z⟩:=rankP_iff.mp q
  exact rankP_iff.mpr ⟨k,by omega,z⟩
 ·exact rankP_iff.mpr ⟨m,hl,by rw[e1,e2,e3];exact h⟩
 ·cases q:rankP p m c with
  |false=>rfl
  |true=>
  obtain⟨k,hk,z⟩:=rankP_iff.mp q
  rw[e1,e2,e3] at z
  have:=z.uniq h
  omega
theorem rank_top {p:Prog} (W:WF p) {v i w n:Nat} (hv:v<4) (h:Mn p v i w n):rank p n<512:=by
 have h1:=rank_lt W hv h (show n<n+1 by omega)
 have h2:rank p (n+1)≤512:=by
  have:=List.countP_le_length (p:=rankP p (n+1)) (l:=List.range 512)
  rw[List.length_range] at this
  exact this
 omega
theorem Mn.depth {p:Prog} (W:WF p):∀n v i w:Nat,v<4→Mn p v i w n→Bd p (rank p n+1) v i w n:=by
 have rl:∀{v i w n m:Nat},v<4→Mn p v i w m→m<n→rank p m<rank p n:=fun hv h hl=>rank_lt W hv h hl
 generalize rank p=rk at rl⊢
 intro n
 induction n using Nat.strongRecOn with
 |_ n ih=>
  intro v i w hv h
  obtain⟨r,hr,hf,q⟩:=h.unfold
  have ha:=W.after4 hr hv
  refine⟨r,hr,hf,?_⟩
  rcases q with q|⟨h1,m,h2,h3⟩|⟨h1,h2,x,a,b,h3,h4,h5,h6⟩
  ·exact .inl q
  ·refine .inr (.inl ⟨h1,m,(ih m (by omega) _ _ _ ha h2).mono ?_,h3⟩)
   have:=rl ha h2 (show m<n by omega)
   omega
  ·have:=h4.1.pos
   have:=h5.1.pos
   refine .inr (.inr ⟨h1,h2,x,a,b,h3,(ih a (by omega) _ _ _ ha h4).mono ?_,(ih b (by omega) _ _ _ h3 h5).mono ?_,h6⟩)
   ·have:=rl ha h4 (show a<n by omega)
    omega
   ·have:=rl h3 h5 (show b<n by omega)
    omega
theorem Bk.depth {p:Prog} (W:WF p) {v i w n:Nat} (hv:v<4) (h:Bk p v i w n):∃m,Bd p 512 v i w m∧m≤n:=by
 obtain⟨m,h1,h2,h3⟩:=isMin_ex n h
 refine⟨m,(Mn.depth W m v i w hv ⟨h1,h3⟩).mono ?_,h2⟩
 have:=rank_top W hv ⟨h1,h3⟩
 omega
end KTh
end
section
namespace KTh
open Kcv7
noncomputable def iter (p:Prog):Nat→Table
 |0=> []
 |k+1=>round p (iter p k)
theorem alike_eq:∀{a b:Few},alike a b=true→a=b
 |none,none,_=>rfl
 |some x,some y,h=>congrArg some (eq_of_beq h)
 |none,some _,h=>by cases h
 |some _,none,h=>by cases h
theorem alike_refl:∀(a:Few),alike a a=true
 |none=>rfl
 |some x=>beq_self_eq_true x
theorem alikeAll_eq:∀{a b:List Few},alikeAll a b=true→a=b
 | [],[],_=>rfl
 |a::l,b::m,h=>by
  have h:(alike a b&&alikeAll l m)=true:=h
  rw[Bool.and_eq_true] at h
  rw[alike_eq h.1,alikeAll_eq h.2]
 | [],_::_,h=>by cases h
 |_::_,[],h=>by cases h
theorem sameTable_eq:∀{a b:Table},sameTable a b=true→a=b
 | [],[],_=>rfl
 |a::l,b::m,h=>by
  have h:(alikeAll a b&&sameTable l m)=true:=h
  rw[Bool.and_eq_true] at h
  rw[alikeAll_eq h.1,sameTable_eq h.2]
 | [],_::_,h=>by cases h
 |_::_,[],h=>by cases h
theorem iter_fix {p:Prog} {m:Nat} (h:iter p m=iter p (m+1)):∀d,iter p (m+d)=iter p m
 |0=>rfl
 |d+1=>by
  show round p (iter p (m+d))=iter p m
  rw[iter_fix h d]
  exact h.symm
theorem settle_iter (p:Prog):∀(f k:Nat),∃m,settle p f (iter p k)=iter p m∧k+f≤m
 |0,k=>⟨k,rfl,Nat.le_refl _⟩
 |f+1,k=>by
  show∃m,(if sameTable (iter p k) (round p (iter p k)) then iter p k else settle p f (round p (iter p k)))=iter p m∧_
  split
  ·rename_i h
   exact⟨k+(f+1),(iter_fix (sameTable_eq h) (f+1)).symm,Nat.le_refl _⟩
  ·obtain⟨m,h1,h2⟩:=settle_iter p f (k+1)
   exact⟨m,h1,by omega⟩
theorem table_iter (p:Prog):∃m,table p=iter p m∧513≤m:=by
 obtain⟨m,h1,h2⟩:=settle_iter p (POINTS*VALUES*VALUES+1) 0
 exact⟨m,h1,by have:POINTS*VALUES*VALUES+1=513:=rfl;omega⟩
theorem getD_map_range {α:Type} {n h:Nat} {d:α} (f:Nat→α) (hh:h<n):((List.range n).map f).getD h d=f h:=by
 rw[List.getD_eq_getElem?_getD,List.getElem?_map,List.getElem?_range hh]
 rfl
theorem getD_map_range_out {α:Type} {n h:Nat} {d:α} (f:Nat→α) (hh:¬h<n):((List.range n).map f).getD h d=d:=by
 rw[List.getD_eq_getElem?_getD,List.getElem?_eq_none (by rw[List.length_map,List.length_range];omega)]
 rfl
theorem head_lt {p:Prog} {v i:Nat} (hv:v<4) (hi:i<p.points):head v i<p.points*4:=by
 show i*4+v<p.points*4
 omega
theorem head_mod {v i:Nat} (hv:v<4):head v i%4=v:=by
 show (i*4+v)%4=v
 omega
theorem head_div {v i:Nat} (hv:v<4):head v i/4=i:=by
 show (i*4+v)/4=i
 omega
theorem look_round {p:Prog} {t:Table} {v i w:Nat} (hv:v<4) (hi:i<p.points) (hw:w<4):look (round p t) v i w=backBy p t v i w:=by
 unfold look Kcv7.round
 rw[getD_map_range (n:=p.points*VALUES) _ (head_lt hv hi),getD_map_range (n:=VALUES) _ hw]
 show backBy p t (head v i%4) (head v i/4) w=_
 rw[head_mod hv,head_div hv]
theorem look_round_out {p:Prog} {t:Table} {v i w:Nat} (hv:v<4) (h:¬(i<p.points∧w<4)):look (round p t) v i w=none:=by
 unfold look Kcv7.round
 by_cases hi:i<p.points
 ·rw[getD_map_range (n:=p.points*VALUES) _ (head_lt hv hi),getD_map_range_out (n:=VALUES) _ (fun z=>h ⟨hi,z⟩)]
 ·rw[getD_map_range_out (n:=p.points*VALUES) _ (by show¬i*4+v<p.points*4;omega)]
  rfl
theorem isMin_iter {p:Prog} (W:WF p):∀(k v i w:Nat),v<4→IsMin (Bd p k v i w) (look (iter p k) v i w)
 |0,v,i,w,hv=>by
  have e:look (iter p 0) v i w=none:=by simp [look,iter]
  rw[e]
  exact fun n h=>h
 |k+1,v,i,w,hv=>by
  by_cases hh:i<p.points∧w<4
  ·obtain⟨hi,hw⟩:=hh
   show IsMin _ (look (round p (iter p k)) v i w)
   rw[look_round hv hi hw]
   unfold backBy
   refine(isMin_leastOf_map p.rules _ (fun r n=>fits r v i=true∧By p (Bd p k) r v w n) fun r hr=> ?_).congr fun n=>Iff.rfl
   have ha:=W.after4 hr hv
   by_cases hf:fits r v i=true
   ·rw[if_neg (by rw[hf];decide)]
    dsimp only
    by_cases h2:r.kind=2
    ·rw[if_pos h2]
     by_cases hu:after r v=w
     ·rw[if_pos hu]
      refine(isMin_some 1).congr fun n=>⟨fun e=>⟨hf,.inl ⟨h2,hu,e⟩⟩,?_⟩
      rintro⟨_,⟨_,_,e⟩|⟨e,_⟩|⟨e,_⟩⟩
      ·exact e
      ·omega
      ·exact absurd h2 e
     ·rw[if_neg hu]
      refine isMin_none.congr fun n=>⟨fun e=>e.elim,?_⟩
      rintro⟨_,⟨_,e,_⟩|⟨e,_⟩|⟨e,_⟩⟩
      ·exact hu e
      ·omega
      ·exact absurd h2 e
    ·rw[if_neg h2]
     by_cases h0:r.kind=0
     ·rw[if_pos h0]
      refine((isMin_some 1).plus (isMin_iter W k _ r.to_ w ha)).congr fun n=> ?_
      constructor
      ·rintro⟨x,y,rfl,hy,rfl⟩
       exact⟨hf,.inr (.inl ⟨h0,y,hy,rfl⟩)⟩
      ·rintro⟨_,⟨e,_⟩|⟨_,m,hm,e⟩|⟨_,e,_⟩⟩
       ·omega
       ·exact⟨1,m,rfl,hm,e⟩
       ·exact absurd h0 e
     ·rw[if_neg h0]
      refine((isMin_some 1).plus (isMin_leastOf_map (List.range VALUES) _ (fun x n=>∃a b,Bd p k (after r v) (entry p r.to_) x a∧Bd p k x r.next w b∧n=a+b) fun x hx=> ?_)).congr fun n=> ?_
      ·have hx4:x<4:=List.mem_range.mp hx
       exact(isMin_iter W k _ _ x ha).plus (isMin_iter W k x _ w hx4)
      ·constructor
       ·rintro⟨_,_,rfl,⟨x,hx,a,b,h1,h3,rfl⟩,rfl⟩
        exact⟨hf,.inr (.inr ⟨h2,h0,x,a,b,List.mem_range.mp hx,h1,h3,rfl⟩)⟩
       ·rintro⟨_,⟨e,_⟩|⟨e,_⟩|⟨_,_,x,a,b,hx,h1,h3,e⟩⟩
        ·exact absurd e h2
        ·exact absurd e h0
        ·exact⟨1,_,rfl,⟨x,List.mem_range.mpr hx,a,b,h1,h3,rfl⟩,e⟩
   ·rw[if_pos (by simpa using hf)]
    exact isMin_none.congr fun n=>⟨fun e=>e.elim,fun e=>hf e.1⟩
  ·show IsMin _ (look (round p (iter p k)) v i w)
   rw[look_round_out hv hh]
   intro n h
   have hB:Bk p v i w n:=⟨k+1,h⟩
   exact hh ⟨hB.pt W,hB.w4 W hv⟩
theorem isMin_table {p:Prog} (W:WF p) {v i w:Nat} (hv:v<4):IsMin (Bk p v i w) (look (table p) v i w):=by
 obtain⟨m,e,hm⟩:=table_iter p
 rw[e]
 refine(isMin_iter W m v i w hv).congr_le (fun n h=>⟨m,h⟩) fun n h=> ?_
 obtain⟨k,h1,h2⟩:=h.depth W hv
 exact⟨k,h1.mono (by omega),h2⟩
end KTh
end
section
namespace KTh
open Kcv7
def Ed (p:Prog) (t:Table) (g c h:Nat):Prop:=∃x∈nexts p t (g%4) (g/4),head x.2.1 x.2.2=h∧x.1=c
def Pd (E:Nat→Nat→Nat→Prop) (S:Nat→Nat→Prop):Nat→Nat→Nat→Prop
 |0,h,n=>S h n
 |k+1,h,n=>Pd E S k h n∨∃g m c,Pd E S k g m∧E g c h∧n=m+c
def Pt (E:Nat→Nat→Nat→Prop) (S:Nat→Nat→Prop) (h n:Nat):Prop:=∃k,Pd E S k h n
section
variable {E:Nat→Nat→Nat→Prop} {S:Nat→Nat→Prop}
theorem Pd.mono {k l h n:Nat} (q:Pd E S k h n) (hl:k≤l):Pd E S l h n:=by
 induction hl with
 |refl=>exact q
 |step _ ih=>exact .inl ih
theorem Pt.start {h n:Nat} (q:S h n):Pt E S h n:=⟨0,q⟩
theorem Pt.step {g h m c:Nat} (q:Pt E S g m) (e:E g c h):Pt E S h (m+c):=by
 obtain⟨k,q⟩:=q
 exact⟨k+1,.inr ⟨g,m,c,q,e,rfl⟩⟩
theorem Pt.ind {M:Nat→Nat→Prop} (h0:∀h n,S h n→M h n) (h1:∀g m c h,Pt E S g m→M g m→E g c h→M h (m+c)) {h n:Nat} (q:Pt E S h n):M h n:=by
 obtain⟨k,q⟩:=q
 induction k generalizing h n with
 |zero=>exact h0 h n q
 |succ k ih=>
  rcases q with q|⟨g,m,c,q,e,rfl⟩
  ·exact ih q
  ·exact h1 g m c h ⟨k,q⟩ (ih q) e
theorem Pt.last {h n:Nat} (q:Pt E S h n):S h n∨∃g m c,Pt E S g m∧E g c h∧n=m+c:=by
 refine Pt.ind (M:=fun h n=>S h n∨∃g m c,Pt E S g m∧E g c h∧n=m+c) (fun h n z=> .inl z) (fun g m c h z _ e=> .inr ⟨g,m,c,z,e,rfl⟩) q
open Classical in
noncomputable def prP (E:Nat→Nat→Nat→Prop) (S:Nat→Nat→Prop) (n:Nat):Nat→Bool:=fun g=>decide (∃m,m<n∧Pt E S g m)
open Classical in
theorem prP_iff {n g:Nat}:prP E S n g=true↔∃m,m<n∧Pt E S g m:=by
 unfold prP
 exact decide_eq_true_iff
noncomputable def prank (E:Nat→Nat→Nat→Prop) (S:Nat→Nat→Prop) (N n:Nat):Nat:=(List.range N).countP (prP E S n)
theorem prank_lt {N g n m:Nat} (hg:g<N) (h:Pt E S g m) (hm:∀k,Pt E S g k→m≤k) (hl:m<n):prank E S N m<prank E S N n:=by
 refine countP_lt (fun x _ q=> ?_) ⟨g,List.mem_range.mpr hg,?_,?_⟩
 ·obtain⟨k,hk,z⟩:=prP_iff.mp q
  exact prP_iff.mpr ⟨k,by omega,z⟩
 ·exact prP_iff.mpr ⟨m,hl,h⟩
 ·cases q:prP E S m g with
  |false=>rfl
  |true=>
   obtain⟨k,hk,z⟩:=prP_iff.mp q
   have:=hm k z
   omega
theorem Pt.depth {N:Nat} (hN:∀h n,Pt E S h n→h<N) (hE:∀g c h,E g c h→0<c):∀n h,Pt E S h n→(∀m,Pt E S h m→n≤m)→Pd E S (prank E S N n) h n:=by
 have rl:∀{g n m:Nat},Pt E S g m→(∀k,Pt E S g k→m≤k)→m<n→prank E S N m<prank E S N n:=fun h hm hl=>prank_lt (hN _ _ h) h hm hl
 generalize prank E S N=rk at rl⊢
 intro n
 induction n using Nat.strongRecOn with
 |_ n ih=>
  intro h q hm
  rcases q.last with z|⟨g,m,c,z,e,rfl⟩
  ·exact(show Pd E S 0 h n from z).mono (Nat.zero_le _)
  ·have hc:=hE g c h e
   have hg:∀k,Pt E S g k→m≤k:=fun k hk=>by
    have:=hm _ (hk.step e)
    omega
   have h1:=ih m (by omega) g z hg
   have h2:=rl z hg (show m<m+c by omega)
   exact(show Pd E S (rk m+1) h (m+c) from .inr ⟨g,m,c,h1,e,rfl⟩).mono (by omega)
theorem Pt.short {N:Nat} (hN:∀h n,Pt E S h n→h<N) (hE:∀g c h,E g c h→0<c) {h n:Nat} (q:Pt E S h n):∃m,Pd E S N h m∧m≤n:=by
 obtain⟨m,h1,h2,h3⟩:=isMin_ex n q
 refine⟨m,(Pt.depth hN hE m h h1 h3).mono ?_,h2⟩
 have:=List.countP_le_length (p:=prP E S m) (l:=List.range N)
 rw[List.length_range] at this
 exact this
end
theorem getD_set {l:List Few} {i h:Nat} {x:Few} (hh:h<l.length):(l.set i x).getD h none=if h=i then x else l.getD h none:=by
 rw[List.getD_eq_getElem?_getD,List.getD_eq_getElem?_getD,List.getElem?_set]
 by_cases e:i=h
 ·subst e
  rw[if_pos rfl,if_pos hh,if_pos rfl]
  rfl
 ·rw[if_neg e,if_neg (fun z=>e z.symm)]
noncomputable def put (n:Nat) (e:List Few) (x:Nat×Nat×Nat):List Few:=e.set (head x.2.1 x.2.2) (least (e.getD (head x.2.1 x.2.2) none) (some (n+x.1)))
theorem put_fold (n:Nat):∀(xs:List (Nat×Nat×Nat)) (e:List Few) (S:Nat→Nat→Prop),(∀h,h<e.length→IsMin (S h) (e.getD h none))→
  (xs.foldl (put n) e).length=e.length∧∀h,h<e.length→IsMin (fun m=>S h m∨∃x∈xs,head x.2.1 x.2.2=h∧m=n+x.1) ((xs.foldl (put n) e).getD h none)
 | [],e,S,H=>⟨rfl,fun h hh=>(H h hh).congr (by simp)⟩
 |x::xs,e,S,H=>by
  have hl:(put n e x).length=e.length:=List.length_set
  have H1:∀h,h<(put n e x).length→IsMin (fun m=>S h m∨(head x.2.1 x.2.2=h∧m=n+x.1)) ((put n e x).getD h none):=by
   intro h hh
   rw[hl] at hh
   unfold put
   rw[getD_set hh]
   by_cases q:h=head x.2.1 x.2.2
   ·rw[if_pos q,←q]
    exact((H h hh).least (isMin_some (n+x.1))).congr fun m=>⟨fun z=>z.elim .inl fun z=> .inr ⟨rfl,z⟩,fun z=>z.elim .inl fun z=> .inr z.2⟩
   ·rw[if_neg q]
    exact(H h hh).congr fun m=>⟨.inl,fun z=>z.elim id fun z=>absurd z.1.symm q⟩
  obtain⟨h1,h2⟩:=put_fold n xs (put n e x) _ H1
  refine⟨h1.trans hl,fun h hh=>(h2 h (by rw[hl];exact hh)).congr fun m=> ?_⟩
  simp [or_assoc]
noncomputable def roundS (p:Prog) (t:Table) (d:List Few) (e:List Few) (h:Nat):List Few:=match d.getD h none with
 |none=>e
 |some n=>(nexts p t (h%VALUES) (h/VALUES)).foldl (put n) e
theorem round_fold (p:Prog) (t:Table) (d:List Few):∀(hs:List Nat) (e:List Few) (S:Nat→Nat→Prop),(∀h,h<e.length→IsMin (S h) (e.getD h none))→
  (hs.foldl (roundS p t d) e).length=e.length∧∀h,h<e.length→IsMin (fun m=>S h m∨∃g∈hs,∃n c,d.getD g none=some n∧Ed p t g c h∧m=n+c) ((hs.foldl (roundS p t d) e).getD h none)
 | [],e,S,H=>⟨rfl,fun h hh=>(H h hh).congr (by simp)⟩
 |g::hs,e,S,H=>by
  have H0:(roundS p t d e g).length=e.length∧∀h,h<e.length→IsMin (fun m=>S h m∨∃n c,d.getD g none=some n∧Ed p t g c h∧m=n+c) ((roundS p t d e g).getD h none):=by
   unfold roundS
   cases q:d.getD g none with
   |none=>exact⟨rfl,fun h hh=>(H h hh).congr (by simp)⟩
   |some n=>
    obtain⟨h1,h2⟩:=put_fold n (nexts p t (g%VALUES) (g/VALUES)) e S H
    refine⟨h1,fun h hh=>(h2 h hh).congr fun m=>or_congr Iff.rfl ?_⟩
    constructor
    ·rintro⟨x,hx,e1,e2⟩
     exact⟨n,x.1,rfl,⟨x,hx,e1,rfl⟩,e2⟩
    ·rintro⟨n',c,z,⟨x,hx,e1,e2⟩,e3⟩
     cases z
     exact⟨x,hx,e1,by rw[e3,e2]⟩
  obtain⟨h1,h2⟩:=round_fold p t d hs (roundS p t d e g) _ (fun h hh=>H0.2 h (by rw[←H0.1];exact hh))
  refine⟨h1.trans H0.1,fun h hh=>(h2 h (by rw[H0.1];exact hh)).congr fun m=> ?_⟩
  simp [or_assoc]
noncomputable def rnd (p:Prog) (t:Table) (d:List Few):List Few:=(List.range (p.points*VALUES)).foldl (roundS p t d) d
theorem spread_succ (p:Prog) (t:Table) (f:Nat) (d:List Few):spread p t (f+1) d=if alikeAll d (rnd p t d) then d else spread p t f (rnd p t d):=rfl
noncomputable def iterS (p:Prog) (t:Table) (d:List Few):Nat→List Few
 |0=>d
 |k+1=>rnd p t (iterS p t d k)
theorem iterS_fix {p:Prog} {t:Table} {d:List Few} {m:Nat} (h:iterS p t d m=iterS p t d (m+1)):∀k,iterS p t d (m+k)=iterS p t d m
 |0=>rfl
 |k+1=>by
  show rnd p t (iterS p t d (m+k))=_
  rw[iterS_fix h k]
  exact h.symm
theorem spread_iter (p:Prog) (t:Table) (d:List Few):∀(f k:Nat),∃m,spread p t f (iterS p t d k)=iterS p t d m∧k+f≤m
 |0,k=>⟨k,rfl,Nat.le_refl _⟩
 |f+1,k=>by
  rw[spread_succ]
  split
  ·rename_i h
   exact⟨k+(f+1),(iterS_fix (alikeAll_eq h) (f+1)).symm,Nat.le_refl _⟩
  ·obtain⟨m,h1,h2⟩:=spread_iter p t d f (k+1)
   exact⟨m,h1,by omega⟩
theorem nexts_pos {p:Prog} {t:Table} {v i:Nat} {x:Nat×Nat×Nat} (h:x∈nexts p t v i):0<x.1:=by
 unfold nexts at h
 obtain⟨r,hr,h⟩:=List.mem_flatMap.mp h
 split at h
 ·cases h
 ·dsimp only at h
  split at h
  ·cases h
  ·split at h
   ·simp at h;rw[h];exact Nat.one_pos
   ·rcases List.mem_cons.mp h with rfl|h
    ·exact Nat.one_pos
    ·obtain⟨y,hy,e⟩:=List.mem_filterMap.mp h
     split at e
     ·cases e
     ·cases e
      show 0<1+_
      omega
theorem mem_nexts {p:Prog} {t:Table} {v i c u k:Nat}:(c,u,k)∈nexts p t v i↔∃r∈p.rules,fits r v i=true∧
  ((r.kind=0∧c=1∧u=after r v∧k=r.to_)∨(r.kind≠2∧r.kind≠0∧((c=1∧u=after r v∧k=entry p r.to_)∨(u<4∧k=r.next∧∃n,look t (after r v) (entry p r.to_) u=some n∧c=1+n)))):=by
 unfold nexts
 rw[List.mem_flatMap]
 refine exists_congr fun r=>and_congr Iff.rfl ?_
 by_cases hf:fits r v i=true
 ·rw[if_neg (by rw[hf];decide)]
  dsimp only
  by_cases h2:r.kind=2
  ·rw[if_pos h2]
   simp [h2]
  ·rw[if_neg h2]
   by_cases h0:r.kind=0
   ·rw[if_pos h0]
    simp [h0,hf]
   ·rw[if_neg h0,List.mem_cons,List.mem_filterMap]
    simp only[hf,h0,h2,true_and,false_and,false_or,ne_eq,not_false_eq_true,Prod.mk.injEq]
    refine or_congr Iff.rfl ?_
    constructor
    ·rintro⟨x,hx,e⟩
     split at e
     ·cases e
     ·rename_i n q
      cases e
      exact⟨List.mem_range.mp hx,rfl,n,q,rfl⟩
    ·rintro⟨hu,rfl,n,q,rfl⟩
     refine⟨u,List.mem_range.mpr hu,?_⟩
     rw[q]
 ·rw[if_pos (by simpa using hf)]
  simp [hf]
theorem nexts_in {p:Prog} (W:WF p) {t:Table} {v i:Nat} (hv:v<4) {x:Nat×Nat×Nat} (h:x∈nexts p t v i):x.2.1<4∧x.2.2<p.points:=by
 obtain⟨c,u,k⟩:=x
 obtain⟨r,hr,hf,q⟩:=mem_nexts.mp h
 have ha:=W.after4 hr hv
 have hk:=W.kind_ r hr
 rcases q with ⟨h0,rfl,rfl,rfl⟩|⟨h2,h0,⟨rfl,rfl,rfl⟩|⟨hu,rfl,_⟩⟩
 ·exact⟨ha,W.to0 r hr h0⟩
 ·exact⟨ha,W.entry _⟩
 ·exact⟨hu,(W.to1 r hr (by omega)).2⟩
theorem Ed.pos {p:Prog} {t:Table} {g c h:Nat} (e:Ed p t g c h):0<c:=by
 obtain⟨x,hx,_,rfl⟩:=e
 exact nexts_pos hx
theorem Ed.lt {p:Prog} (W:WF p) {t:Table} {g c h:Nat} (e:Ed p t g c h):h<p.points*4:=by
 obtain⟨x,hx,rfl,_⟩:=e
 obtain⟨h1,h2⟩:=nexts_in W (Nat.mod_lt _ (by decide)) hx
 exact head_lt h1 h2
theorem isMin_spread {p:Prog} (W:WF p) (t:Table) (S:Nat→Nat→Prop) (hS:∀h n,S h n→h<p.points*4) (d:List Few) (hd:d.length=p.points*4) (H:∀h,h<p.points*4→IsMin (S h) (d.getD h none)):
  ∀h,h<p.points*4→IsMin (Pt (Ed p t) S h) ((spread p t (POINTS*VALUES+1) d).getD h none):=by
 have hN:∀h n,Pt (Ed p t) S h n→h<p.points*4:=fun h n q=>Pt.ind (M:=fun h n=>h<p.points*4) hS (fun g m c h _ _ e=>e.lt W) q
 have key:∀k,(iterS p t d k).length=p.points*4∧∀h,h<p.points*4→IsMin (Pd (Ed p t) S k h) ((iterS p t d k).getD h none):=by
  intro k
  induction k with
  |zero=>exact⟨hd,H⟩
  |succ k ih=>
   obtain⟨hl,hk⟩:=ih
   obtain⟨h1,h2⟩:=round_fold p t (iterS p t d k) (List.range (p.points*VALUES)) (iterS p t d k) (Pd (Ed p t) S k) (by rw[hl];exact hk)
   refine⟨h1.trans hl,fun h hh=> ?_⟩
   refine(h2 h (by rw[hl];exact hh)).congr_le (fun n q=> ?_) fun n q=> ?_
   ·rcases q with q|⟨g,hg,m,c,e1,e2,rfl⟩
    ·exact .inl q
    ·have hg':g<p.points*4:=List.mem_range.mp hg
     have:=hk g hg'
     rw[e1] at this
     exact .inr ⟨g,m,c,this.1,e2,rfl⟩
   ·rcases q with q|⟨g,m,c,q,e,rfl⟩
    ·exact⟨n,.inl q,Nat.le_refl _⟩
    ·have hg:=hN g m ⟨k,q⟩
     have hm:=hk g hg
     cases z:(iterS p t d k).getD g none with
     |none=>rw[z] at hm;exact absurd q (hm m)
     |some m'=>
      rw[z] at hm
      have:=hm.2 m q
      exact⟨m'+c,.inr ⟨g,List.mem_range.mpr hg,m',c,z,e,rfl⟩,by omega⟩
 obtain⟨m,e,hm⟩:=spread_iter p t d (POINTS*VALUES+1) 0
 have e:spread p t (POINTS*VALUES+1) d=iterS p t d m:=e
 rw[e]
 intro h hh
 refine((key m).2 h hh).congr_le (fun n q=>⟨m,q⟩) fun n q=> ?_
 obtain⟨k,h1,h2⟩:=q.short hN (fun g c h e=>e.pos)
 have:=W.ple
 have:POINTS*VALUES+1=129:=rfl
 exact⟨k,h1.mono (by omega),h2⟩
def Rc (p:Prog) (v i h n:Nat):Prop:=Pt (Ed p (table p)) (fun h n=>h=head v i∧n=0) h n
theorem from_len (p:Prog) (v i:Nat):((List.range (p.points*VALUES)).map fun h=>if h=head v i then some 0 else(none:Few)).length=p.points*4:=by
 rw[List.length_map,List.length_range]
 rfl
theorem isMin_from {p:Prog} (W:WF p) {v i:Nat} (hv:v<4) (hi:i<p.points) {h:Nat} (hh:h<p.points*4):IsMin (Rc p v i h) ((from_ p (table p) v i).getD h none):=by
 refine isMin_spread W (table p) _ (fun h n q=>by rw[q.1];exact head_lt hv hi) _ (from_len p v i) (fun h hh=> ?_) h hh
 rw[getD_map_range (n:=p.points*VALUES) _ hh]
 by_cases e:h=head v i
 ·rw[if_pos e]
  exact(isMin_some 0).congr fun n=>⟨fun z=>⟨e,z⟩,fun z=>z.2⟩
 ·rw[if_neg e]
  exact isMin_none.congr fun n=>⟨fun z=>z.elim,fun z=>e z.1⟩
noncomputable def setAll (e:List Few) (x:Nat×Nat×Nat):List Few:=e.set (head x.2.1 x.2.2) (some 0)
theorem setAll_fold:∀(xs:List (Nat×Nat×Nat)) (e:List Few) (S:Nat→Nat→Prop),(∀h n,S h n→n=0)→(∀h,h<e.length→IsMin (S h) (e.getD h none))→
  (xs.foldl setAll e).length=e.length∧∀h,h<e.length→IsMin (fun m=>S h m∨((∃x∈xs,head x.2.1 x.2.2=h)∧m=0)) ((xs.foldl setAll e).getD h none)
 | [],e,S,h0,H=>⟨rfl,fun h hh=>(H h hh).congr (by simp)⟩
 |x::xs,e,S,h0,H=>by
  have hl:(setAll e x).length=e.length:=List.length_set
  have H1:∀h,h<(setAll e x).length→IsMin (fun m=>S h m∨(head x.2.1 x.2.2=h∧m=0)) ((setAll e x).getD h none):=by
   intro h hh
   rw[hl] at hh
   unfold setAll
   rw[getD_set hh]
   by_cases q:h=head x.2.1 x.2.2
   ·rw[if_pos q]
    exact(isMin_some 0).congr fun m=>⟨fun z=> .inr ⟨q.symm,z⟩,fun z=>z.elim (h0 h m) fun z=>z.2⟩
   ·rw[if_neg q]
    exact(H h hh).congr fun m=>⟨.inl,fun z=>z.elim id fun z=>absurd z.1.symm q⟩
  obtain⟨h1,h2⟩:=setAll_fold xs (setAll e x) _ (fun h n z=>z.elim (h0 h n) fun z=>z.2) H1
  refine⟨h1.trans hl,fun h hh=>(h2 h (by rw[hl];exact hh)).congr fun m=> ?_⟩
  constructor
  ·rintro((z|⟨z,rfl⟩)|⟨⟨y,hy,z⟩,rfl⟩)
   ·exact .inl z
   ·exact .inr ⟨⟨x,List.mem_cons_self,z⟩,rfl⟩
   ·exact .inr ⟨⟨y,List.mem_cons_of_mem _ hy,z⟩,rfl⟩
  ·rintro(z|⟨⟨y,hy,z⟩,rfl⟩)
   ·exact .inl (.inl z)
   ·rcases List.mem_cons.mp hy with rfl|hy
    ·exact .inl (.inr ⟨z,rfl⟩)
    ·exact .inr ⟨⟨y,hy,z⟩,rfl⟩
def On (p:Prog) (g h n:Nat):Prop:=Pt (Ed p (table p)) (fun h n=>(∃c,Ed p (table p) g c h)∧n=0) h n
theorem isMin_onward {p:Prog} (W:WF p) {g h:Nat} (hh:h<p.points*4):IsMin (On p g h) ((onward p (table p) g).getD h none):=by
 have key:=setAll_fold (nexts p (table p) (g%VALUES) (g/VALUES)) (List.replicate (p.points*VALUES) none) (fun _ _=>False) (fun _ _ z=>z.elim) (fun h hh=>by
  rw[List.length_replicate] at hh
  have e:(List.replicate (p.points*VALUES) (none:Few)).getD h none=none:=by
   rw[List.getD_eq_getElem?_getD,List.getElem?_replicate]
   split<;>rfl
  rw[e]
  exact isMin_none)
 have hl:(List.replicate (p.points*VALUES) (none:Few)).length=p.points*4:=List.length_replicate
 rw[hl] at key
 refine isMin_spread W (table p) _ (fun h n q=>by obtain⟨⟨c,e⟩,_⟩:=q;exact e.lt W) _ key.1 (fun h hh=>(key.2 h hh).congr fun n=> ?_) h hh
 constructor
 ·rintro(z|⟨⟨x,hx,e⟩,rfl⟩)
  ·exact z.elim
  ·exact⟨⟨x.1,x,hx,e,rfl⟩,rfl⟩
 ·rintro⟨⟨c,x,hx,e,_⟩,rfl⟩
  exact .inr ⟨⟨x,hx,e⟩,rfl⟩
inductive St (p:Prog):Nat→Nat→Prop where
 |refl (g:Nat):St p g g
 |tail {g h k c:Nat}:St p g h→Ed p (table p) h c k→St p g k
theorem Rc.iff {p:Prog} {v i h:Nat}:(∃n,Rc p v i h n)↔St p (head v i) h:=by
 constructor
 ·rintro⟨n,q⟩
  exact Pt.ind (M:=fun h n=>St p (Kcv7.head v i) h) (fun h n z=>by rw[z.1];exact .refl _) (fun g m c h _ ih e=>ih.tail e) q
 ·intro q
  generalize e:Kcv7.head v i=g at q
  induction q with
  |refl=>exact⟨0,Pt.start ⟨e.symm,rfl⟩⟩
  |tail _ e2 ih=>
   obtain⟨n,z⟩:=ih
   exact⟨_,Pt.step z e2⟩
theorem On.iff {p:Prog} {g h:Nat}:(∃n,On p g h n)↔∃c k,Ed p (table p) g c k∧St p k h:=by
 constructor
 ·rintro⟨n,q⟩
  exact Pt.ind (M:=fun h n=>∃c k,Ed p (table p) g c k∧St p k h) (fun h n z=>by obtain⟨⟨c,e⟩,_⟩:=z;exact⟨c,h,e,.refl _⟩) (fun g' m c h _ ih e=>by
   obtain⟨c',k,e1,e2⟩:=ih
   exact⟨c',k,e1,e2.tail e⟩) q
 ·rintro⟨c,k,e,q⟩
  induction q with
  |refl=>exact⟨0,Pt.start ⟨⟨c,e⟩,rfl⟩⟩
  |tail _ e2 ih=>
   obtain⟨n,z⟩:=ih
   exact⟨_,Pt.step z e2⟩
theorem isMin_isSome {S:Nat→Prop}:∀{a:Few},IsMin S a→(a.isSome=true↔∃n,S n)
 |none,h=>⟨fun z=>(by cases z),fun⟨n,q⟩=>absurd q (h n)⟩
 |some n,h=>⟨fun _=>⟨n,h.1⟩,fun _=>rfl⟩
theorem St.lt {p:Prog} (W:WF p) {g h:Nat} (hg:g<p.points*4) (q:St p g h):h<p.points*4:=by
 cases q with
 |refl=>exact hg
 |tail _ e=>exact e.lt W
theorem forever_iff {p:Prog} (W:WF p) {v i:Nat} (hv:v<4) (hi:i<p.points):forever p (table p) v i=true↔∃h c k,St p (head v i) h∧Ed p (table p) h c k∧St p k h:=by
 unfold Kcv7.forever
 dsimp only
 rw[List.any_eq_true]
 constructor
 ·rintro⟨h,hh,q⟩
  have hh:h<p.points*4:=List.mem_range.mp hh
  rw[Bool.and_eq_true,isMin_isSome (isMin_from W hv hi hh),isMin_isSome (isMin_onward W hh),Rc.iff,On.iff] at q
  obtain⟨q1,c,k,q2,q3⟩:=q
  exact⟨h,c,k,q1,q2,q3⟩
 ·rintro⟨h,c,k,q1,q2,q3⟩
  have hh:h<p.points*4:=q1.lt W (head_lt hv hi)
  refine⟨h,List.mem_range.mpr hh,?_⟩
  rw[Bool.and_eq_true,isMin_isSome (isMin_from W hv hi hh),isMin_isSome (isMin_onward W hh),Rc.iff,On.iff]
  exact⟨q1,c,k,q2,q3⟩
theorem stuck_iff {p:Prog} (W:WF p) {v i:Nat} (hv:v<4) (hi:i<p.points):stuck p (table p) v i=true↔∃h,St p (head v i) h∧∀r∈p.rules,fits r (h%4) (h/4)=false:=by
 unfold Kcv7.stuck
 dsimp only
 rw[List.any_eq_true]
 have e:∀h,(!(p.rules.any fun r=>fits r (h%VALUES) (h/VALUES)))=true↔∀r∈p.rules,fits r (h%4) (h/4)=false:=fun h=>by
  rw[Bool.not_eq_true',List.any_eq_false]
  exact⟨fun z r hr=>eq_false_of_ne_true (z r hr),fun z r hr=>ne_true_of_eq_false (z r hr)⟩
 constructor
 ·rintro⟨h,hh,q⟩
  have hh:h<p.points*4:=List.mem_range.mp hh
  rw[Bool.and_eq_true,isMin_isSome (isMin_from W hv hi hh),Rc.iff,e] at q
  exact⟨h,q⟩
 ·rintro⟨h,q1,q2⟩
  have hh:h<p.points*4:=q1.lt W (head_lt hv hi)
  refine⟨h,List.mem_range.mpr hh,?_⟩
  rw[Bool.and_eq_true,isMin_isSome (isMin_from W hv hi hh),Rc.iff,e]
  exact⟨q1,q2⟩
end KTh
end
section
namespace KTh
open Kcv7
def Lf (p:Prog) (w j:Nat):List Nat→Nat→Nat→Prop
 | [],_,_=>False
 |i::st,v,n=>Rc p v i (head w j) n∨∃u a b,u<4∧Bk p v i u a∧Lf p w j st u b∧n=a+b
theorem far_get {p:Prog} {t:Table} {v i:Nat} (hv:v<4) (hi:i<p.points):(far p t).getD (head v i) []=from_ p t v i:=by
 unfold far
 rw[getD_map_range (n:=p.points*VALUES) _ (head_lt hv hi)]
 show from_ p t (head v i%4) (head v i/4)=_
 rw[head_mod hv,head_div hv]
theorem isMin_left {p:Prog} (W:WF p) {w j:Nat} (hw:w<4) (hj:j<p.points):∀(st:List Nat) (v:Nat),(∀x∈st,x<p.points)→v<4→IsMin (Lf p w j st v) ((left (table p) (far p (table p)) w j st).getD v none)
 | [],v,_,hv=>by
  show IsMin _ (([]:List Few).getD v none)
  rw[List.getD_nil]
  exact fun n h=>h
 |i::st,v,hs,hv=>by
  have hi:i<p.points:=hs i List.mem_cons_self
  unfold left
  dsimp only
  rw[getD_map_range (n:=VALUES) _ hv,far_get hv hi]
  refine((isMin_from W hv hi (head_lt hw hj)).least (isMin_leastOf_map (List.range VALUES) _ (fun u n=>∃a b,Bk p v i u a∧Lf p w j st u b∧n=a+b) fun u hu=> ?_)).congr fun n=> ?_
  ·exact(isMin_table W hv).plus (isMin_left W hw hj st u (fun x hx=>hs x (List.mem_cons_of_mem _ hx)) (List.mem_range.mp hu))
  ·refine or_congr Iff.rfl ⟨?_,?_⟩
   ·rintro⟨u,hu,a,b,h1,h2,h3⟩
    exact⟨u,a,b,List.mem_range.mp hu,h1,h2,h3⟩
   ·rintro⟨u,a,b,hu,h1,h2,h3⟩
    exact⟨u,List.mem_range.mpr hu,a,b,h1,h2,h3⟩
theorem does_iff {p:Prog} {r:Rule} {v i:Nat} {st:List Nat} {x:State}:does p r ⟨v,i::st⟩=some x↔fits r v i=true∧
  x=(if r.kind=0 then⟨after r v,r.to_::st⟩ else if r.kind=1 then⟨after r v,entry p r.to_::r.next::st⟩ else⟨after r v,st⟩):=by
 unfold does
 dsimp only
 by_cases hf:fits r v i=true
 ·rw[if_neg (by rw[hf];decide)]
  constructor
  ·intro e
   exact⟨hf,(Option.some.inj e).symm⟩
  ·rintro⟨_,rfl⟩
   rfl
 ·rw[if_pos (by simpa using hf)]
  exact⟨fun e=>(by cases e),fun e=>absurd e.1 hf⟩
end KTh
end
section
namespace KH
structure Ord {α:Type} (lt:α→α→Bool):Prop where
 irr:∀a,lt a a=false
 tr:∀{a b c},lt a b=true→lt b c=true→lt a c=true
 ntr:∀{a b c},lt b a=false→lt c b=false→lt c a=false
section
variable {α:Type} {lt:α→α→Bool} (O:Ord lt) (d:α)
include O
theorem le_trans {a b c:α} (h1:lt b a=false) (h2:lt c b=false):lt c a=false:=O.ntr h1 h2
theorem lt_le {a b:α} (h:lt a b=true):lt b a=false:=by
 cases e:lt b a with
 |false=>rfl
 |true=>have:=O.tr h e;rw[O.irr] at this;cases this
end
section
variable {α:Type} {d:α}
theorem getD_set {l:List α} {i j:Nat} {x:α} (hj:j<l.length):(l.set i x).getD j d=if j=i then x else l.getD j d:=by
 rw[List.getD_eq_getElem?_getD,List.getD_eq_getElem?_getD,List.getElem?_set]
 by_cases e:i=j
 ·subst e;rw[if_pos rfl,if_pos hj,if_pos rfl];rfl
 ·rw[if_neg e,if_neg (fun z=>e z.symm)]
theorem mem_getD {l:List α} {x:α}:x∈l↔∃i,i<l.length∧l.getD i d=x:=by
 constructor
 ·intro h
  obtain⟨i,hi,e⟩:=List.mem_iff_getElem.mp h
  exact⟨i,hi,by rw[List.getD_eq_getElem?_getD,List.getElem?_eq_getElem hi];exact e⟩
 ·rintro⟨i,hi,e⟩
  rw[List.getD_eq_getElem?_getD,List.getElem?_eq_getElem hi] at e
  exact List.mem_iff_getElem.mpr ⟨i,hi,e⟩
theorem mem_swap {l:List α} {i j:Nat} (hi:i<l.length) (hj:j<l.length) (x y:α):y∈(l.set i (l.getD j d)).set j x↔y∈l.set i x:=by
 by_cases e:i=j
 ·subst e
  rw[List.set_set]
 ·rw[mem_getD (d:=d),mem_getD (d:=d)]
  simp only[List.length_set]
  constructor
  ·rintro⟨k,hk,q⟩
   rw[getD_set (by rw[List.length_set];exact hk),getD_set hk] at q
   by_cases k1:k=j
   ·rw[if_pos k1] at q
    exact⟨i,hi,by rw[getD_set hi,if_pos rfl];exact q⟩
   ·rw[if_neg k1] at q
    by_cases k2:k=i
    ·rw[if_pos k2] at q
     exact⟨j,hj,by rw[getD_set hj,if_neg (fun z=>e z.symm)];exact q⟩
    ·rw[if_neg k2] at q
     exact⟨k,hk,by rw[getD_set hk,if_neg k2];exact q⟩
  ·rintro⟨k,hk,q⟩
   rw[getD_set hk] at q
   by_cases k1:k=i
   ·rw[if_pos k1] at q
    exact⟨j,hj,by rw[getD_set (by rw[List.length_set];exact hj),if_pos rfl];exact q⟩
   ·rw[if_neg k1] at q
    by_cases k2:k=j
    ·subst k2
     exact⟨i,hi,by rw[getD_set (by rw[List.length_set];exact hi),if_neg e,getD_set hi,if_pos rfl];exact q⟩
    ·exact⟨k,hk,by rw[getD_set (by rw[List.length_set];exact hk),if_neg k2,getD_set hk,if_neg k1];exact q⟩
end
section
variable {α:Type} (lt:α→α→Bool) (d:α)
def Hp (h:List α):Prop:=∀i,0<i→i<h.length→lt (h.getD i d) (h.getD ((i-1)/2) d)=false
variable {lt d} (O:Ord lt)
include O
theorem Hp.least {h:List α} (H:Hp lt d h):∀i,i<h.length→lt (h.getD i d) (h.getD 0 d)=false:=by
 intro i
 induction i using Nat.strongRecOn with
 |_ i ih=>
  intro hi
  by_cases e:i=0
  ·subst e;exact O.irr _
  ·exact le_trans O (ih ((i-1)/2) (by omega) (by omega)) (H i (by omega) hi)
theorem Hp.least_mem {h:List α} (H:Hp lt d h) {x:α} (hx:x∈h):lt x (h.getD 0 d)=false:=by
 obtain⟨i,hi,rfl⟩:=(mem_getD (d:=d)).mp hx
 exact H.least O i hi
omit O
structure Up (lt:α→α→Bool) (d:α) (h0 h:List α) (e:α) (k:Nat):Prop where
 lk:k<h.length
 ln:h.length=h0.length
 ord:∀i,0<i→i<h.length→i≠k→(i-1)/2≠k→lt (h.getD i d) (h.getD ((i-1)/2) d)=false
 kid:∀i,0<i→i<h.length→(i-1)/2=k→lt (h.getD i d) e=false∧(0<k→lt (h.getD i d) (h.getD ((k-1)/2) d)=false)
 mem:∀y,y∈h.set k e↔y∈h0
include O
theorem Up.start {h:List α} {e:α} (H:Hp lt d h):Up lt d (h++ [e]) (h++ [e]) e h.length where
 lk:=by simp
 ln:=rfl
 ord:=fun i h1 h2 h3 h4=>by
  rw[List.length_append,List.length_singleton] at h2
  have:=H i h1 (by omega)
  rw[List.getD_eq_getElem?_getD,List.getD_eq_getElem?_getD,List.getElem?_append_left (by omega),List.getElem?_append_left (by omega),←List.getD_eq_getElem?_getD,←List.getD_eq_getElem?_getD]
  exact this
 kid:=fun i h1 h2 h3=>by
  rw[List.length_append,List.length_singleton] at h2
  omega
 mem:=fun y=>by
  have:(h++ [e]).set h.length e=h++ [e]:=by simp
  rw[this]
theorem Up.step {h0 h:List α} {e:α} {k:Nat} (U:Up lt d h0 h e k) (hk:0<k) (hl:lt e (h.getD ((k-1)/2) d)=true):Up lt d h0 (h.set k (h.getD ((k-1)/2) d)) e ((k-1)/2) where
 lk:=by have:=U.lk;rw[List.length_set];omega
 ln:=by rw[List.length_set];exact U.ln
 ord:=fun i h1 h2 h3 h4=>by
  have lk:=U.lk
  rw[List.length_set] at h2
  rw[getD_set h2,getD_set (by omega)]
  by_cases e1:i=k
  ·exact absurd (by rw[e1]) h4
  ·rw[if_neg e1]
   by_cases e2:(i-1)/2=k
   ·rw[if_pos e2]
    exact(U.kid i h1 h2 e2).2 hk
   ·rw[if_neg e2]
    exact U.ord i h1 h2 e1 e2
 kid:=fun i h1 h2 h3=>by
  have lk:=U.lk
  rw[List.length_set] at h2
  have hpar:∀(hp:0<(k-1)/2),lt (h.getD ((k-1)/2) d) (h.getD (((k-1)/2-1)/2) d)=false:=fun hp=>U.ord ((k-1)/2) hp (by omega) (by omega) (by omega)
  by_cases e1:i=k
  ·rw[getD_set h2,if_pos e1]
   refine⟨lt_le O hl,fun hp=> ?_⟩
   rw[getD_set (by omega),if_neg (by omega)]
   exact hpar hp
  ·rw[getD_set h2,if_neg e1]
   have h5:=U.ord i h1 h2 e1 (by omega)
   rw[h3] at h5
   refine⟨le_trans O (lt_le O hl) h5,fun hp=> ?_⟩
   rw[getD_set (by omega),if_neg (by omega)]
   exact le_trans O (hpar hp) h5
 mem:=fun y=>by
  have lk:=U.lk
  rw[mem_swap lk (by omega)]
  exact U.mem y
theorem Up.done {h0 h:List α} {e:α} {k:Nat} (U:Up lt d h0 h e k) (hs:k=0∨lt e (h.getD ((k-1)/2) d)=false):Hp lt d (h.set k e)∧(h.set k e).length=h0.length∧∀y,y∈h.set k e↔y∈h0:=by
 refine⟨fun i h1 h2=> ?_,by rw[List.length_set];exact U.ln,U.mem⟩
 have lk:=U.lk
 rw[List.length_set] at h2
 rw[getD_set h2,getD_set (by omega)]
 by_cases e1:i=k
 ·rw[if_pos e1,if_neg (by omega)]
  subst e1
  exact hs.resolve_left (by omega)
 ·rw[if_neg e1]
  by_cases e2:(i-1)/2=k
  ·rw[if_pos e2]
   exact(U.kid i h1 h2 e2).1
  ·rw[if_neg e2]
   exact U.ord i h1 h2 e1 e2
omit O
structure Dn (lt:α→α→Bool) (d:α) (h0 h:List α) (e:α) (k:Nat):Prop where
 lk:k<h.length
 ln:h.length=h0.length
 ord:∀i,0<i→i<h.length→i≠k→(i-1)/2≠k→lt (h.getD i d) (h.getD ((i-1)/2) d)=false
 par:0<k→lt e (h.getD ((k-1)/2) d)=false
 kid:∀i,0<i→i<h.length→(i-1)/2=k→0<k→lt (h.getD i d) (h.getD ((k-1)/2) d)=false
 mem:∀y,y∈h.set k e↔y∈h0.set 0 e
theorem Dn.start {h:List α} {e:α} (H:Hp lt d h) (hp:0<h.length):Dn lt d h h e 0 where
 lk:=hp
 ln:=rfl
 ord:=fun i h1 h2 _ _=>H i h1 h2
 par:=fun z=>absurd z (by omega)
 kid:=fun i _ _ _ z=>absurd z (by omega)
 mem:=fun y=>Iff.rfl
def Kid (lt:α→α→Bool) (d:α) (h:List α) (k c:Nat):Prop:=
 c=(if 2*k+1+1<h.length∧lt (h.getD (2*k+1+1) d) (h.getD (2*k+1) d)=true then 2*k+1+1 else 2*k+1)
include O
theorem Dn.step {h0 h:List α} {e:α} {k c:Nat} (D:Dn lt d h0 h e k) (hc:Kid lt d h k c) (hl:c<h.length) (hlt:lt (h.getD c d) e=true):Dn lt d h0 (h.set k (h.getD c d)) e c:=by
 have lk:=D.lk
 have hck:(c-1)/2=k∧0<c∧c≠k:=by
  unfold Kid at hc
  split at hc<;>omega
 obtain⟨c1,c2,c3⟩:=hck
 have hmin:∀i,0<i→i<h.length→(i-1)/2=k→lt (h.getD i d) (h.getD c d)=false:=fun i h1 h2 h3=>by
  unfold Kid at hc
  have hi:i=2*k+1∨i=2*k+1+1:=by omega
  split at hc
  ·rename_i z
   rcases hi with rfl|rfl
   ·rw[hc];exact lt_le O z.2
   ·rw[hc];exact O.irr _
  ·rename_i z
   rcases hi with rfl|rfl
   ·rw[hc];exact O.irr _
   ·rw[hc]
    cases q:lt (h.getD (2*k+1+1) d) (h.getD (2*k+1) d) with
    |false=>rfl
    |true=>exact absurd ⟨h2,q⟩ z
 refine⟨by rw[List.length_set];exact hl,by rw[List.length_set];exact D.ln,fun i h1 h2 h3 h4=> ?_,fun _=> ?_,fun i h1 h2 h3 _=> ?_,fun y=> ?_⟩
 ·rw[List.length_set] at h2
  rw[getD_set h2,getD_set (by omega)]
  by_cases e1:i=k
  ·rw[if_pos e1,if_neg (by omega)]
   subst e1
   exact D.kid c c2 hl c1 h1
  ·rw[if_neg e1]
   by_cases e2:(i-1)/2=k
   ·rw[if_pos e2]
    exact hmin i h1 h2 e2
   ·rw[if_neg e2]
    exact D.ord i h1 h2 e1 e2
 ·rw[c1,getD_set lk,if_pos rfl]
  exact lt_le O hlt
 ·rw[List.length_set] at h2
  rw[c1,getD_set lk,if_pos rfl,getD_set h2,if_neg (by omega)]
  have:=D.ord i h1 h2 (by omega) (by omega)
  rw[h3] at this
  exact this
 ·rw[mem_swap lk hl]
  exact D.mem y
theorem Dn.done {h0 h:List α} {e:α} {k c:Nat} (D:Dn lt d h0 h e k) (hc:Kid lt d h k c) (hs:¬c<h.length∨lt (h.getD c d) e=false):Hp lt d (h.set k e)∧(h.set k e).length=h0.length∧∀y,y∈h.set k e↔y∈h0.set 0 e:=by
 have lk:=D.lk
 refine⟨fun i h1 h2=> ?_,by rw[List.length_set];exact D.ln,D.mem⟩
 rw[List.length_set] at h2
 rw[getD_set h2,getD_set (by omega)]
 by_cases e1:i=k
 ·rw[if_pos e1,if_neg (by omega)]
  subst e1
  exact D.par h1
 ·rw[if_neg e1]
  by_cases e2:(i-1)/2=k
  ·rw[if_pos e2]
   have hi:i=2*k+1∨i=2*k+1+1:=by omega
   unfold Kid at hc
   split at hc
   ·rename_i z
    subst hc
    have h5:=hs.resolve_left (by omega)
    rcases hi with rfl|rfl
    ·exact le_trans O h5 (lt_le O z.2)
    ·exact h5
   ·rename_i z
    subst hc
    have h5:=hs.resolve_left (by omega)
    rcases hi with rfl|rfl
    ·exact h5
    ·refine le_trans O h5 ?_
     cases q:lt (h.getD (2*k+1+1) d) (h.getD (2*k+1) d) with
     |false=>rfl
     |true=>exact absurd ⟨h2,q⟩ z
  ·rw[if_neg e2]
   exact D.ord i h1 h2 e1 e2
end
theorem Hp.dropLast {α:Type} {lt:α→α→Bool} {d:α} {h:List α} (H:Hp lt d h):Hp lt d h.dropLast:=by
 intro i h1 h2
 rw[List.length_dropLast] at h2
 have e:∀j,j<h.length-1→h.dropLast.getD j d=h.getD j d:=fun j hj=>by
  rw[List.getD_eq_getElem?_getD,List.getD_eq_getElem?_getD,List.getElem?_dropLast,if_pos hj]
 rw[e i h2,e _ (by omega)]
 exact H i h1 (by omega)
end KH
end
section
namespace KTh
open Kcv7
structure Grows (p q:Prog):Prop where
 rules:∀r∈p.rules,r∈q.rules
 entry:∀r∈p.rules,r.kind=1→entry p r.to_=entry q r.to_
theorem Bk.grow {p q:Prog} (W:WF p) (G:Grows p q) {v i w n:Nat} (h:Bk p v i w n):Bk q v i w n:=by
 refine Bk.rec_on (M:=fun v i w n=>Bk q v i w n) (fun r hr v i w n hf z=> ?_) h
 refine Bk.fold (G.rules r hr) hf ?_
 have hk:=W.kind_ r hr
 rcases z with z|⟨h1,m,h2,h3⟩|⟨h1,h2,x,a,b,h3,h4,h5,h6⟩
 ·exact .inl z
 ·exact .inr (.inl ⟨h1,m,h2.2,h3⟩)
 ·refine .inr (.inr ⟨h1,h2,x,a,b,h3,?_,h5.2,h6⟩)
  rw[←G.entry r hr (by omega)]
  exact h4.2
abbrev Kn:=Nat→Nat→Nat→Option Nat
structure Off where
 steps:Nat
 point:Nat
 value:Nat
 fin:Nat
inductive Rec where
 |ret (v i w:Nat)
 |go (v i u k:Nat)
 |call (v i u k nx:Nat)
noncomputable def recOf (p:Prog) (r:Rule) (v:Nat):Rec:=
 if r.kind=0 then .go v r.point (after r v) r.to_ else if r.kind=1 then .call v r.point (after r v) (entry p r.to_) r.next else .ret v r.point (after r v)
def Cov (K:Kn) (O:List Off) (v i w n:Nat):Prop:=(∃m,K v i w=some m∧m≤n)∨∃m,(⟨m,i,v,w⟩:Off)∈O∧m≤n
def Cl1 (K:Kn) (O:List Off):Rec→Prop
 | .ret v i w=>Cov K O v i w 1
 | .go v i u k=>∀w n,K u k w=some n→Cov K O v i w (n+1)
 | .call v i u k nx=>∀x a w b,K u k x=some a→K x nx w=some b→Cov K O v i w (a+b+1)
theorem Cov.mono {K K':Kn} {O O':List Off} (hK:∀v i w n,K v i w=some n→∃m,K' v i w=some m∧m≤n) (hO:∀x∈O,Cov K' O' x.value x.point x.fin x.steps) {v i w n:Nat} (h:Cov K O v i w n):Cov K' O' v i w n:=by
 rcases h with ⟨m,h1,h2⟩|⟨m,h1,h2⟩
 ·obtain⟨k,h3,h4⟩:=hK v i w m h1
  exact .inl ⟨k,h3,by omega⟩
 ·rcases hO _ h1 with ⟨k,h3,h4⟩|⟨k,h3,h4⟩
  ·have h4:k≤m:=h4
   exact .inl ⟨k,h3,by omega⟩
  ·have h4:k≤m:=h4
   exact .inr ⟨k,h3,by omega⟩
theorem Cov.of_mem {K:Kn} {O:List Off} {x:Off} (h:x∈O):Cov K O x.value x.point x.fin x.steps:= .inr ⟨x.steps,h,Nat.le_refl _⟩
theorem Cov.more {K:Kn} {O O':List Off} (hO:∀x∈O,x∈O') {v i w n:Nat} (h:Cov K O v i w n):Cov K O' v i w n:=
 h.mono (fun v i w n q=>⟨n,q,Nat.le_refl _⟩) fun x hx=>Cov.of_mem (hO x hx)
theorem Cl1.more {K:Kn} {O O':List Off} (hO:∀x∈O,x∈O'):∀{r:Rec},Cl1 K O r→Cl1 K O' r
 | .ret _ _ _,h=>Cov.more hO h
 | .go _ _ _ _,h=>fun w n q=>(h w n q).more hO
 | .call _ _ _ _ _,h=>fun x a w b q1 q2=>(h x a w b q1 q2).more hO
noncomputable def Kn.put (K:Kn) (v i w n:Nat):Kn:=fun v' i' w'=>if v'=v∧i'=i∧w'=w then some n else K v' i' w'
theorem Kn.put_same {K:Kn} {v i w n:Nat}:K.put v i w n v i w=some n:=if_pos ⟨rfl,rfl,rfl⟩
theorem Kn.put_ne {K:Kn} {v i w n v' i' w':Nat} (h:¬(v'=v∧i'=i∧w'=w)):K.put v i w n v' i' w'=K v' i' w':=if_neg h
theorem Kn.put_eq {K:Kn} {v i w n v' i' w' m:Nat} (h:K.put v i w n v' i' w'=some m):(v'=v∧i'=i∧w'=w∧m=n)∨K v' i' w'=some m:=by
 by_cases e:v'=v∧i'=i∧w'=w
 ·obtain⟨rfl,rfl,rfl⟩:=e
  rw[Kn.put_same] at h
  exact .inl ⟨rfl,rfl,rfl,(Option.some.inj h).symm⟩
 ·rw[Kn.put_ne e] at h
  exact .inr h
theorem Kn.put_le {K:Kn} {v i w n:Nat} (hb:∀m,K v i w=some m→n≤m) {v' i' w' m:Nat} (h:K v' i' w'=some m):∃k,K.put v i w n v' i' w'=some k∧k≤m:=by
 by_cases e:v'=v∧i'=i∧w'=w
 ·obtain⟨rfl,rfl,rfl⟩:=e
  exact⟨n,Kn.put_same,hb m h⟩
 ·exact⟨m,by rw[Kn.put_ne e];exact h,Nat.le_refl _⟩
theorem take_closed {K:Kn} {O O1:List Off} {x:Off} {r:Rec} (hc:Cl1 K (x::O) r) (hO:∀y∈O,y∈O1) (hb:∀m,K x.value x.point x.fin=some m→x.steps≤m)
  (hg:∀v i,r= .go v i x.value x.point→Cov (K.put x.value x.point x.fin x.steps) O1 v i x.fin (x.steps+1))
  (hcl:∀v i nx w b,r= .call v i x.value x.point nx→K.put x.value x.point x.fin x.steps x.fin nx w=some b→Cov (K.put x.value x.point x.fin x.steps) O1 v i w (x.steps+b+1))
  (hw:∀v i u k a,r= .call v i u k x.point→K.put x.value x.point x.fin x.steps u k x.value=some a→Cov (K.put x.value x.point x.fin x.steps) O1 v i x.fin (a+x.steps+1)):
  Cl1 (K.put x.value x.point x.fin x.steps) O1 r:=by
 have up:∀{v i w n},Cov K (x::O) v i w n→Cov (K.put x.value x.point x.fin x.steps) O1 v i w n:=fun h=>
  h.mono (fun v i w n q=>Kn.put_le hb q) fun y hy=>by
   rcases List.mem_cons.mp hy with rfl|hy
   ·exact .inl ⟨_,Kn.put_same,Nat.le_refl _⟩
   ·exact Cov.of_mem (hO y hy)
 cases r with
 |ret v i w=>exact up hc
 |go v i u k=>
  intro w n q
  rcases Kn.put_eq q with ⟨rfl,rfl,rfl,rfl⟩|q
  ·exact hg v i rfl
  ·exact up (hc w n q)
 |call v i u k nx=>
  intro y a w b q1 q2
  rcases Kn.put_eq q1 with ⟨rfl,rfl,rfl,rfl⟩|q1'
  ·exact hcl v i nx w b rfl q2
  ·rcases Kn.put_eq q2 with ⟨rfl,rfl,rfl,rfl⟩|q2'
   ·exact hw v i u k a rfl q1
   ·exact up (hc y a w b q1' q2')
theorem drop_closed {K:Kn} {O O1:List Off} {x:Off} {m:Nat} (hm:K x.value x.point x.fin=some m) (hl:m≤x.steps) (hO:∀y∈O,y∈O1) {r:Rec} (hc:Cl1 K (x::O) r):Cl1 K O1 r:=by
 have up:∀{v i w n},Cov K (x::O) v i w n→Cov K O1 v i w n:=fun h=>
  h.mono (fun v i w n q=>⟨n,q,Nat.le_refl _⟩) fun y hy=>by
   rcases List.mem_cons.mp hy with rfl|hy
   ·exact .inl ⟨m,hm,hl⟩
   ·exact Cov.of_mem (hO y hy)
 cases r with
 |ret v i w=>exact up hc
 |go v i u k=>exact fun w n q=>up (hc w n q)
 |call v i u k nx=>exact fun y a w b q1 q2=>up (hc y a w b q1 q2)
theorem closed_min {p:Prog} (W:WF p) {K:Kn} (hs:∀v i w n,K v i w=some n→Bk p v i w n) (hc:∀r∈p.rules,∀v,v<p.values→fits r v r.point=true→Cl1 K [] (recOf p r v)) {v i w:Nat} (hv:v<p.values):
  IsMin (Bk p v i w) (K v i w):=by
 have key:∀{v i w n},Bk p v i w n→v<p.values→∃m,K v i w=some m∧m≤n:=fun h=>by
  refine Bk.rec_on (M:=fun v i w n=>v<p.values→∃m,K v i w=some m∧m≤n) (fun r hr v i w n hf z hv=> ?_) h
  have hp:=fits_pt hf
  subst hp
  have hk:=W.kind_ r hr
  have ha:=W.afterV hr hv
  have hC:=hc r hr v hv hf
  have none_:∀{v i w n},Cov K [] v i w n→∃m,K v i w=some m∧m≤n:=fun h=>by
   rcases h with h|⟨m,h,_⟩
   ·exact h
   ·cases h
  unfold recOf at hC
  rcases z with ⟨h1,h2,h3⟩|⟨h1,m,h2,h3⟩|⟨h1,h2,x,a,b,h3,h4,h5,h6⟩
  ·rw[if_neg (by omega),if_neg (by omega),h2] at hC
   obtain⟨m,e1,e2⟩:=none_ hC
   exact⟨m,e1,by omega⟩
  ·rw[if_pos h1] at hC
   obtain⟨m',e1,e2⟩:=h2.2 ha
   obtain⟨m,e3,e4⟩:=none_ (hC w m' e1)
   exact⟨m,e3,by omega⟩
  ·have hk1:r.kind=1:=by clear h4 h5 hC;omega
   rw[if_neg h2,if_pos hk1] at hC
   obtain⟨a',e1,e2⟩:=h4.2 ha
   obtain⟨b',e3,e4⟩:=h5.2 (h4.1.wV W ha)
   obtain⟨m,e5,e6⟩:=none_ (hC x a' w b' e1 e3)
   exact⟨m,e5,by omega⟩
 cases e:K v i w with
 |none=>
  intro n h
  obtain⟨m,e1,_⟩:=key h hv
  rw[e] at e1
  cases e1
 |some n=>
  refine⟨hs v i w n e,fun m h=> ?_⟩
  obtain⟨k,e1,e2⟩:=key h hv
  rw[e] at e1
  cases e1
  exact e2
theorem nodup_le:∀(N:Nat) (l:List Nat),l.Nodup→(∀x∈l,x<N)→l.length≤N
 |0,l,_,h=>by
  cases l with
  |nil=>exact Nat.le_refl _
  |cons a l=>exact absurd (h a List.mem_cons_self) (by omega)
 |N+1,l,hn,h=>by
  have h1:=nodup_le N (l.erase N) (hn.erase N) (fun x hx=>by
   rw[hn.mem_erase_iff] at hx
   have:=h x hx.2
   omega)
  by_cases e:N∈l
  ·rw[List.length_erase_of_mem e] at h1
   omega
  ·rw[List.erase_of_not_mem e] at h1
   omega
end KTh
end
section
namespace KTh
open Kcv7
inductive Run (p:Prog):State→List Nat→State→Prop where
 |nil (s:State):Run p s [] s
 |cons {s x y:State} {k:Nat} {ks:List Nat} {r:Rule}:p.rules[k]?=some r→does p r s=some x→Run p x ks y→Run p s (k::ks) y
theorem Run.trans {p:Prog} {a b c:State} {ks ls:List Nat} (h:Run p a ks b) (h':Run p b ls c):Run p a (ks++ls) c:=by
 induction h with
 |nil=>exact h'
 |cons h1 h2 _ ih=>exact .cons h1 h2 (ih h')
theorem rule_ix {p:Prog} {r:Rule} (h:r∈p.rules):∃k:Nat,p.rules[k]?=some r:=List.mem_iff_getElem?.mp h
def To (p:Prog) (w j:Nat) (s:State) (n:Nat):Prop:=∃ks st,ks.length=n∧Run p s ks ⟨w,j::st⟩
theorem Bk.run {p:Prog} (W:WF p) {v i w n:Nat} (h:Bk p v i w n):∀st:List Nat,∃ks,ks.length=n∧Run p ⟨v,i::st⟩ ks ⟨w,st⟩:=by
 refine Bk.rec_on (M:=fun v i w n=>∀st:List Nat,∃ks,ks.length=n∧Run p ⟨v,i::st⟩ ks ⟨w,st⟩) (fun r hr v i w n hf z st=> ?_) h
 obtain⟨k,hk⟩:=rule_ix hr
 have hkind:=W.kind_ r hr
 rcases z with ⟨h1,rfl,rfl⟩|⟨h1,m,h2,rfl⟩|⟨h1,h2,x,a,b,h3,h4,h5,rfl⟩
 ·exact⟨[k],rfl,.cons hk (does_iff.mpr ⟨hf,by rw[if_neg (by omega),if_neg (by omega)]⟩) (.nil _)⟩
 ·obtain⟨ks,e,q⟩:=h2.2 st
  exact⟨k::ks,by rw[List.length_cons];omega,.cons hk (does_iff.mpr ⟨hf,by rw[if_pos h1]⟩) q⟩
 ·obtain⟨ks,e,q⟩:=h4.2 (r.next::st)
  obtain⟨ls,e',q'⟩:=h5.2 st
  have hk1:r.kind=1:=by clear h4 h5;omega
  exact⟨k::(ks++ls),by rw[List.length_cons,List.length_append];omega,.cons hk (does_iff.mpr ⟨hf,by rw[if_neg h2,if_pos hk1]⟩) (q.trans q')⟩
theorem Ed.run {p:Prog} (W:WF p) {v i c u k:Nat} (hv:v<4) (hu:u<4) (h:Ed p (table p) (head v i) c (head u k)):∀st:List Nat,∃ks st',ks.length=c∧Run p ⟨v,i::st⟩ ks ⟨u,k::st'⟩:=by
 intro st
 obtain⟨⟨c',u',k'⟩,hx,e1,rfl⟩:=h
 rw[head_mod hv,head_div hv] at hx
 obtain⟨hu',_⟩:=nexts_in W hv hx
 have e2:u'=u:=by rw[←head_mod (v:=u') (i:=k') hu',←head_mod (v:=u) (i:=k) hu,e1]
 have e3:k'=k:=by rw[←head_div (v:=u') (i:=k') hu',←head_div (v:=u) (i:=k) hu,e1]
 subst e2 e3
 obtain⟨r,hr,hf,q⟩:=mem_nexts.mp hx
 obtain⟨n,hn⟩:=rule_ix hr
 have hkind:=W.kind_ r hr
 rcases q with ⟨h0,rfl,rfl,rfl⟩|⟨h2,h0,⟨rfl,rfl,rfl⟩|⟨_,rfl,m,hm,rfl⟩⟩
 ·exact⟨[n],st,rfl,.cons hn (does_iff.mpr ⟨hf,by rw[if_pos h0]⟩) (.nil _)⟩
 ·exact⟨[n],r.next::st,rfl,.cons hn (does_iff.mpr ⟨hf,by rw[if_neg h0,if_pos (by omega)]⟩) (.nil _)⟩
 ·have hB:=isMin_table W (v:=after r v) (i:=entry p r.to_) (w:=u') (W.after4 hr hv)
  rw[hm] at hB
  obtain⟨ks,e,q⟩:=hB.1.run W (r.next::st)
  exact⟨n::ks,st,by rw[List.length_cons];show _=1+m;omega,.cons hn (does_iff.mpr ⟨hf,by rw[if_neg h0,if_pos (by omega)]⟩) q⟩
theorem Rc.run {p:Prog} (W:WF p) {v i h n:Nat} (hv:v<4) (q:Rc p v i h n):∀st:List Nat,∃ks st',ks.length=n∧Run p ⟨v,i::st⟩ ks ⟨h%4,h/4::st'⟩:=by
 refine Pt.ind (M:=fun h n=>∀st:List Nat,∃ks st',ks.length=n∧Run p ⟨v,i::st⟩ ks ⟨h%4,h/4::st'⟩) (fun h n z st=> ?_) (fun g m c h _ ih e st=> ?_) q
 ·obtain⟨rfl,rfl⟩:=z
  rw[head_mod hv,head_div hv]
  exact⟨[],st,rfl,.nil _⟩
 ·obtain⟨ks,st1,e1,q1⟩:=ih st
  have eg:g=head (g%4) (g/4):=by show g=g/4*4+g%4;omega
  have eh:h=head (h%4) (h/4):=by show h=h/4*4+h%4;omega
  rw[eg,eh] at e
  obtain⟨ls,st2,e2,q2⟩:=e.run W (Nat.mod_lt _ (by decide)) (Nat.mod_lt _ (by decide)) st1
  exact⟨ks++ls,st2,by rw[List.length_append];omega,q1.trans q2⟩
theorem Lf.run {p:Prog} (W:WF p) {w j:Nat} (hw:w<4):∀(st:List Nat) (v n:Nat),v<4→Lf p w j st v n→To p w j ⟨v,st⟩ n
 | [],v,n,hv,h=>h.elim
 |i::st,v,n,hv,h=>by
  rcases h with h|⟨u,a,b,hu,h1,h2,rfl⟩
  ·obtain⟨ks,st',e,q⟩:=h.run W hv st
   rw[head_mod hw,head_div hw] at q
   exact⟨ks,st',e,q⟩
  ·obtain⟨ks,e,q⟩:=h1.run W st
   obtain⟨ls,st',e',q'⟩:=Lf.run W hw st u b hu h2
   exact⟨ks++ls,st',by rw[List.length_append];omega,q.trans q'⟩
theorem Rc.pre {p:Prog} {v i u k c h n:Nat} (e:Ed p (table p) (head v i) c (head u k)) (q:Rc p u k h n):Rc p v i h (c+n):=by
 refine Pt.ind (M:=fun h n=>Rc p v i h (c+n)) (fun h n z=> ?_) (fun g m c' h _ ih e'=> ?_) q
 ·obtain⟨rfl,rfl⟩:=z
  have:=(Pt.start (E:=Ed p (table p)) (S:=fun h n=>h=head v i∧n=0) (h:=head v i) (n:=0) ⟨rfl,rfl⟩).step e
  rw[Nat.zero_add] at this
  exact this
 ·have:=Pt.step ih e'
  rw[Nat.add_assoc] at this
  exact this
theorem Ed.mk {p:Prog} {v i c u k:Nat} (hv:v<4) (h:(c,u,k)∈nexts p (table p) v i):Ed p (table p) (head v i) c (head u k):=
 ⟨(c,u,k),by rw[head_mod hv,head_div hv];exact h,rfl,rfl⟩
theorem To.left {p:Prog} (W:WF p) {w j:Nat} (hw:w<4):∀(ks:List Nat) (v:Nat) (st st':List Nat),v<4→Run p ⟨v,st⟩ ks ⟨w,j::st'⟩→∃m,Lf p w j st v m∧m≤ks.length:=by
 intro ks
 induction ks with
 |nil=>
  intro v st st' hv h
  cases h
  exact⟨0,.inl (Pt.start ⟨rfl,rfl⟩),Nat.le_refl _⟩
 |cons k ks ih=>
  intro v st st' hv h
  cases h with
  |cons hk hd hr=>
   rename_i x r
   have hm:r∈p.rules:=List.mem_iff_getElem?.mpr ⟨k,hk⟩
   have ha:=W.after4 hm hv
   have hkind:=W.kind_ r hm
   cases st with
   |nil=>cases hd
   |cons i st=>
    obtain⟨hf,rfl⟩:=does_iff.mp hd
    rw[List.length_cons]
    by_cases h0:r.kind=0
    ·rw[if_pos h0] at hr
     obtain⟨m,q,hl⟩:=ih _ _ _ ha hr
     rcases q with q|⟨u,a,b,hu,h1,h2,rfl⟩
     ·exact⟨1+m,.inl (Rc.pre (Ed.mk hv (mem_nexts.mpr ⟨r,hm,hf,.inl ⟨h0,rfl,rfl,rfl⟩⟩)) q),by omega⟩
     ·exact⟨1+a+b,.inr ⟨u,1+a,b,hu,Bk.fold hm hf (.inr (.inl ⟨h0,a,h1,rfl⟩)),h2,rfl⟩,by omega⟩
    ·rw[if_neg h0] at hr
     by_cases h1:r.kind=1
     ·rw[if_pos h1] at hr
      obtain⟨m,q,hl⟩:=ih _ _ _ ha hr
      have n2:r.kind≠2:=by omega
      rcases q with q|⟨y,a,b,hy,q1,q2,rfl⟩
      ·exact⟨1+m,.inl (Rc.pre (Ed.mk hv (mem_nexts.mpr ⟨r,hm,hf,.inr ⟨n2,h0,.inl ⟨rfl,rfl,rfl⟩⟩⟩)) q),by omega⟩
      ·rcases q2 with q2|⟨z,c,d,hz,q3,q4,rfl⟩
       ·have hB:=isMin_table W (v:=after r v) (i:=entry p r.to_) (w:=y) ha
        cases e:look (table p) (after r v) (entry p r.to_) y with
        |none=>rw[e] at hB;exact absurd q1 (hB a)
        |some a'=>
         rw[e] at hB
         have:=hB.2 a q1
         exact⟨1+a'+b,.inl (Rc.pre (Ed.mk hv (mem_nexts.mpr ⟨r,hm,hf,.inr ⟨n2,h0,.inr ⟨hy,rfl,a',e,rfl⟩⟩⟩)) q2),by omega⟩
       ·exact⟨1+(a+c)+d,.inr ⟨z,1+(a+c),d,hz,Bk.fold hm hf (.inr (.inr ⟨n2,h0,y,a,c,hy,q1,q3,rfl⟩)),q4,rfl⟩,by omega⟩
     ·rw[if_neg h1] at hr
      obtain⟨m,q,hl⟩:=ih _ _ _ ha hr
      exact⟨1+m,.inr ⟨after r v,1,m,ha,Bk.fold hm hf (.inl ⟨by omega,rfl,rfl⟩),q,rfl⟩,by omega⟩
theorem isMin_to {p:Prog} (W:WF p) {w j:Nat} (hw:w<4) (hj:j<p.points) {st:List Nat} {v:Nat} (hs:∀x∈st,x<p.points) (hv:v<4):IsMin (To p w j ⟨v,st⟩) ((left (table p) (far p (table p)) w j st).getD v none):=
 (isMin_left W hw hj st v hs hv).congr_le (fun n h=>Lf.run W hw st v n hv h) fun n ⟨ks,st',e,q⟩=>by
  obtain⟨m,h1,h2⟩:=To.left W hw ks v st st' hv q
  exact⟨m,h1,by omega⟩
theorem does_ok {p:Prog} (W:WF p) {r:Rule} (hr:r∈p.rules) {s x:State} (h:does p r s=some x) (hv:s.value<4) (hs:∀y∈s.stack,y<p.points):x.value<4∧∀y∈x.stack,y<p.points:=by
 obtain⟨v,st⟩:=s
 cases st with
 |nil=>cases h
 |cons i st=>
  obtain⟨hf,rfl⟩:=does_iff.mp h
  have ha:=W.after4 hr hv
  have hs':∀y∈st,y<p.points:=fun y hy=>hs y (List.mem_cons_of_mem _ hy)
  by_cases h0:r.kind=0
  ·rw[if_pos h0]
   refine⟨ha,fun y hy=> ?_⟩
   rcases List.mem_cons.mp hy with rfl|hy
   ·exact W.to0 r hr h0
   ·exact hs' y hy
  ·rw[if_neg h0]
   by_cases h1:r.kind=1
   ·rw[if_pos h1]
    refine⟨ha,fun y hy=> ?_⟩
    rcases List.mem_cons.mp hy with rfl|hy
    ·exact W.entry _
    ·rcases List.mem_cons.mp hy with rfl|hy
     ·exact(W.to1 r hr h1).2
     ·exact hs' y hy
   ·rw[if_neg h1]
    exact⟨ha,hs'⟩
theorem wayFrom_least {p:Prog} (W:WF p) {w j:Nat} (hw:w<4) (hj:j<p.points):∀(n:Nat) (s:State),s.value<4→(∀y∈s.stack,y<p.points)→IsMin (To p w j s) (some n)→
  (wayFrom p (table p) (far p (table p)) w j n s).length=n∧(∃st,Run p s (wayFrom p (table p) (far p (table p)) w j n s) ⟨w,j::st⟩)∧
  ∀ks st,ks.length=n→Run p s ks ⟨w,j::st⟩→wayFrom p (table p) (far p (table p)) w j n s=ks∨List.lex (wayFrom p (table p) (far p (table p)) w j n s) ks=true:=by
 intro n
 induction n with
 |zero=>
  intro s hv hs h
  obtain⟨ks,st,e,q⟩:=h.1
  cases ks with
  |nil=>
   refine⟨rfl,⟨st,q⟩,fun ls st' e' _=> .inl ?_⟩
   cases ls with
   |nil=>rfl
   |cons _ _=>cases e'
  |cons _ _=>cases e
 |succ n ih=>
  intro s hv hs h
  let ok:Nat→Bool:=fun k=>match (p.rules[k]?).bind fun r=>does p r s with
   |none=>false
   |some x=>alike ((left (table p) (far p (table p)) w j x.stack).getD x.value none) (some n)
  have okiff:∀k,ok k=true↔∃r x,p.rules[k]?=some r∧does p r s=some x∧IsMin (To p w j x) (some n):=by
   intro k
   show (match (p.rules[k]?).bind fun r=>does p r s with
    |none=>false
    |some x=>alike ((left (table p) (far p (table p)) w j x.stack).getD x.value none) (some n))=true↔_
   cases e:p.rules[k]? with
   |none=>simp
   |some r=>
    have hr:r∈p.rules:=List.mem_iff_getElem?.mpr ⟨k,e⟩
    simp only[Option.bind_some]
    cases e2:does p r s with
    |none=>
     constructor
     ·intro z;cases z
     ·rintro⟨r',x,z1,z2,_⟩
      cases z1
      rw[e2] at z2
      cases z2
    |some x=>
     obtain⟨hx,hxs⟩:=does_ok W hr e2 hv hs
     have hM:=isMin_to W hw hj (st:=x.stack) (v:=x.value) hxs hx
     constructor
     ·intro z
      have z:=alike_eq z
      rw[z] at hM
      exact⟨r,x,rfl,e2,hM⟩
     ·rintro⟨r',x',z1,z2,z3⟩
      cases z1
      rw[e2] at z2
      cases z2
      show alike ((left (table p) (far p (table p)) w j x.stack).getD x.value none) (some n)=true
      rw[hM.uniq z3]
      exact alike_refl _
  have first:∀k ks st,ks.length=n→Run p s (k::ks) ⟨w,j::st⟩→ok k=true:=by
   intro k ks st e q
   cases q with
   |cons hk hd hr=>
    rename_i x r
    refine(okiff k).mpr ⟨r,x,hk,hd,⟨ks,st,e,hr⟩,fun m ⟨ls,st',e',q'⟩=> ?_⟩
    have:=h.2 (m+1) ⟨k::ls,st',by rw[List.length_cons];omega,.cons hk hd q'⟩
    omega
  have hex:∃k,k<p.rules.length∧ok k=true:=by
   obtain⟨ks,st,e,q⟩:=h.1
   cases ks with
   |nil=>cases e
   |cons k ks=>
    have e:ks.length=n:=by rw[List.length_cons] at e;omega
    have z:=first k ks st e q
    obtain⟨r,x,hk,_⟩:=(okiff k).mp z
    exact⟨k,(List.getElem?_eq_some_iff.mp hk).1,z⟩
  have hfind:∃k,(List.range p.rules.length).find? ok=some k:=by
   cases e:(List.range p.rules.length).find? ok with
   |some k=>exact⟨k,rfl⟩
   |none=>
    obtain⟨k,hk,z⟩:=hex
    exact absurd z (by simpa using List.find?_eq_none.mp e k (List.mem_range.mpr hk))
  obtain⟨k,hfk⟩:=hfind
  have hok:ok k=true:=List.find?_some hfk
  have hmin:∀k',k'<k→ok k'=false:=by
   intro k' hlt
   cases e:ok k' with
   |false=>rfl
   |true=>
    obtain⟨as,bs,e1,e2⟩:=(List.find?_eq_some_iff_append.mp hfk).2
    exfalso
    have hlen:as.length=k:=by
     have hz:(List.range p.rules.length)[as.length]?=some k:=by rw[e1,List.getElem?_append_right (Nat.le_refl _),Nat.sub_self];rfl
     rw[List.getElem?_range (by have:=congrArg List.length e1;rw[List.length_range,List.length_append,List.length_cons] at this;omega)] at hz
     exact Option.some.inj hz
    have hm:k'∈as:=by
     have hz:(List.range p.rules.length)[k']?=some k':=List.getElem?_range (by have:=congrArg List.length e1;rw[List.length_range,List.length_append,List.length_cons] at this;omega)
     rw[e1,List.getElem?_append_left (by omega)] at hz
     exact List.mem_of_getElem? hz
    have:=e2 k' hm
    rw[e] at this
    cases this
  obtain⟨r,x,hk,hd,hM⟩:=(okiff k).mp hok
  have hr:r∈p.rules:=List.mem_iff_getElem?.mpr ⟨k,hk⟩
  obtain⟨hx,hxs⟩:=does_ok W hr hd hv hs
  obtain⟨i1,⟨st1,i2⟩,i3⟩:=ih x hx hxs hM
  have hway:wayFrom p (table p) (far p (table p)) w j (n+1) s=k::wayFrom p (table p) (far p (table p)) w j n x:=by
   show (match (List.range p.rules.length).find? ok with
    |none=> []
    |some k=>match (p.rules[k]?).bind fun r=>does p r s with
     |none=> []
     |some x=>k::wayFrom p (table p) (far p (table p)) w j n x)=_
   rw[hfk]
   simp only[hk,Option.bind_some,hd]
  rw[hway]
  refine⟨by rw[List.length_cons,i1],⟨st1,.cons hk hd i2⟩,fun ks st e q=> ?_⟩
  cases ks with
  |nil=>cases e
  |cons k' ks=>
   have e:ks.length=n:=by rw[List.length_cons] at e;omega
   have e9:=e
   have z:=first k' ks st e q
   have hle:k≤k':=by
    rcases Nat.lt_or_ge k' k with hlt|hge
    ·rw[hmin k' hlt] at z
     cases z
    ·exact hge
   by_cases heq:k=k'
   ·subst heq
    cases q with
    |cons hk' hd' hr'=>
     rw[hk] at hk'
     cases hk'
     rw[hd] at hd'
     cases hd'
     rcases i3 ks st e9 hr' with z|z
     ·exact .inl (by rw[z])
     ·right
      simp [List.lex,z]
   ·right
    simp [List.lex]
    left
    omega
end KTh
end
section
namespace KTop
open Kcv7
noncomputable def cnt (k:Int):Nat:=if k=0 then 2 else if k=1 then 1 else if k=2 then 6 else if k=3 then 3 else if k=4 then 4 else if k=5 then 4 else if k=6 then 2 else 2
theorem shape_some {k:Int} {x:Nat×Nat} (h:PyKcv7.shape k=some x):0≤k∧k≤7∧x=(cnt k,0):=by
 unfold PyKcv7.shape at h
 unfold cnt
 repeat' split at h
 all_goals first
  |(cases h;done)
  |(subst_vars;cases h;decide)
theorem call_some {l:List Int} {c:List (List Int)} {t:List Int} (h:PyFlat.call PyKcv7.shape l=some (c,t)):
  ∃k args,l=k::(args++t)∧c= [k::args]∧0≤k∧k≤7∧args.length=cnt k:=by
 cases l with
 |nil=>cases h
 |cons k r=>
  unfold PyFlat.call at h
  dsimp only at h
  split at h
  ·cases h
  ·rename_i n m e
   obtain⟨h1,h2,h3⟩:=shape_some e
   cases h3
   split at h
   ·cases h
   ·rename_i hl
    dsimp only[PyFlat.rows] at h
    cases h
    exact⟨k,r.take (cnt k),by rw[List.take_append_drop],rfl,h1,h2,by rw[List.length_take];omega⟩
theorem calls_cons {f:Nat} {l:List Int} {c:List (List Int)} {cs:List (List (List Int))} (h:PyFlat.calls PyKcv7.shape f l=some (c::cs)):
  ∃k args t f',l=k::(args++t)∧c= [k::args]∧0≤k∧k≤7∧args.length=cnt k∧PyFlat.calls PyKcv7.shape f' t=some cs:=by
 cases f with
 |zero=>
  cases l with
  |nil=>cases h
  |cons a l=>cases h
 |succ f=>
  cases l with
  |nil=>cases h
  |cons a l=>
   unfold PyFlat.calls at h
   split at h
   ·cases h
   ·rename_i c' t e
    split at h
    ·cases h
    ·rename_i cs' e2
     cases h
     obtain⟨k,args,e3,e4,h1,h2,h3⟩:=call_some e
     exact⟨k,args,t,f,e3,e4,h1,h2,h3,e2⟩
theorem calls_nil {f:Nat} {l:List Int} (h:PyFlat.calls PyKcv7.shape f l=some []):l= []:=by
 cases f with
 |zero=>
  cases l with
  |nil=>rfl
  |cons a l=>cases h
 |succ f=>
  cases l with
  |nil=>rfl
  |cons a l=>
   unfold PyFlat.calls at h
   split at h
   ·cases h
   ·split at h
    ·cases h
    ·cases h
theorem whole_id (c:List (List Int)):PyKcv7.whole c=c:=by
 rcases c with _|⟨x,_|⟨y,r⟩⟩
 ·rfl
 all_goals
  rcases x with _|⟨(_|_|_|_|_|_|_|_|k)|k,l⟩
  all_goals first
   |rfl
   |(rcases l with _|⟨a,_|⟨b,_|⟨d,_|⟨e,_|⟨f,_|⟨g,_|⟨i,l⟩⟩⟩⟩⟩⟩⟩<;>rfl)
structure Asked (l:List Int) (cs:List (List (List Int))):Prop where
 parse:PyFlat.calls PyKcv7.shape l.length l=some cs
 few:cs.length≤2000
 ne:cs≠ []
 each:∀c∈cs,Kcv7Neutral.asked1 c=true
 begun:Kcv7Neutral.begun cs=true
 size:((Kcv7Neutral.answers cs).map List.length).foldl (fun(x y:Nat)=>x+y) 0<1000000
 ans:PyKcv7.answers l=PyFlat.told (PyFlat.played Kcv7Neutral.step Kcv7Neutral.start cs)
theorem asked_of {l:List Int} (h:PyKcv7.answers_asked l=true):∃cs,Asked l cs:=by
 unfold PyKcv7.answers_asked at h
 split at h
 ·cases h
 ·rename_i cs e
  rw[Bool.and_eq_true] at h
  obtain⟨h1,h2⟩:=h
  unfold Kcv7Neutral.asked at h2
  rw[Bool.and_eq_true,Bool.and_eq_true,Bool.and_eq_true] at h2
  obtain⟨⟨h3,h4,h5⟩,h6⟩:=h2
  have e':=e
  unfold PyKcv7.calls at e
  split at e
  ·cases e
  ·rename_i cs' e2
   have e3:cs'.map PyKcv7.whole=cs:=Option.some.inj e
   have e4:cs'.map PyKcv7.whole=cs':=by
    conv=>rhs;rw[←List.map_id cs']
    exact List.map_congr_left fun c _=>whole_id c
   rw[e4] at e3
   subst e3
   refine⟨cs',e2,of_decide_eq_true h1,?_,List.all_eq_true.mp h4,h5,of_decide_eq_true h6,?_⟩
   ·intro z
    subst z
    cases h3
   ·unfold PyKcv7.answers
    rw[e']
def N32 (x:Int):Prop:=0≤x∧x<4294967296
theorem nat32 {x:Int} (h:Kcv7Neutral.natural x 32=true):N32 x:=by
 unfold Kcv7Neutral.natural at h
 rw[Bool.and_eq_true] at h
 exact⟨of_decide_eq_true h.1,by have:=of_decide_eq_true h.2;simpa using this⟩
inductive Cl:Int→List Int→Call→Prop where
 |begin_ {a b:Int}:N32 a→N32 b→Cl 0 [a,b] (.begin_ a.toNat b.toNat)
 |function {a:Int}:N32 a→Cl 1 [a] (.function a.toNat)
 |rule {a b d e g h:Int}:N32 a→N32 b→N32 d→N32 e→N32 g→N32 h→Cl 2 [a,b,d,e,g,h] (.rule a.toNat b.toNat d.toNat e.toNat g.toNat h.toNat)
 |back {a b d:Int}:N32 a→N32 b→N32 d→Cl 3 [a,b,d] (.back a.toNat b.toNat d.toNat)
 |reach {a b d e:Int}:N32 a→N32 b→N32 d→N32 e→Cl 4 [a,b,d,e] (.reach a.toNat b.toNat d.toNat e.toNat)
 |way {a b d e:Int}:N32 a→N32 b→N32 d→N32 e→Cl 5 [a,b,d,e] (.way a.toNat b.toNat d.toNat e.toNat)
 |forever {a b:Int}:N32 a→N32 b→Cl 6 [a,b] (.forever a.toNat b.toNat)
 |always {a b:Int}:N32 a→N32 b→Cl 7 [a,b] (.always a.toNat b.toNat)
theorem an2 {x y:Bool} (h:(x&&y)=true):x=true∧y=true:=Bool.and_eq_true_iff.mp h
theorem cl_of {k:Int} {args:List Int} (h:Kcv7Neutral.asked1 [k::args]=true):Cl k args (Kcv7Neutral.call [k::args]):=by
 rcases k with(_|_|_|_|_|_|_|_|k)|k
 all_goals first
  |exact(Bool.false_ne_true h).elim
  |(rcases args with _|⟨a,_|⟨b,_|⟨d,_|⟨e,_|⟨f,_|⟨g,_|⟨i,l⟩⟩⟩⟩⟩⟩⟩
    all_goals first
     |exact(Bool.false_ne_true h).elim
     |exact .function (nat32 h)
     |exact .begin_ (nat32 (an2 h).1) (nat32 (an2 h).2)
     |exact .forever (nat32 (an2 h).1) (nat32 (an2 h).2)
     |exact .always (nat32 (an2 h).1) (nat32 (an2 h).2)
     |exact .back (nat32 (an2 (an2 h).1).1) (nat32 (an2 (an2 h).1).2) (nat32 (an2 h).2)
     |(have h1:=an2 h;have h2:=an2 h1.1;have h3:=an2 h2.1;first
       |exact .reach (nat32 h3.1) (nat32 h3.2) (nat32 h2.2) (nat32 h1.2)
       |exact .way (nat32 h3.1) (nat32 h3.2) (nat32 h2.2) (nat32 h1.2)
       |(have h4:=an2 h3.1;have h5:=an2 h4.1;exact .rule (nat32 h5.1) (nat32 h5.2) (nat32 h4.2) (nat32 h3.2) (nat32 h2.2) (nat32 h1.2))))
theorem told_cons (a:List Int) (l:List (List Int)):PyFlat.told (a::l)=((a.length:Int)::a)++PyFlat.told l:=by
 unfold PyFlat.told
 rw[List.flatMap_cons]
theorem begun_cons {c:List (List Int)} {cs:List (List (List Int))} (h:Kcv7Neutral.begun (c::cs)=true):Kcv7Neutral.good c=true∨(Kcv7Neutral.n c 0=0∧Kcv7Neutral.begun cs=true):=by
 unfold Kcv7Neutral.begun at h⊢
 cases e:Kcv7Neutral.good c with
 |true=>exact .inl rfl
 |false=>
  rw[List.takeWhile_cons_of_pos (by rw[e];rfl),List.all_cons,Bool.and_eq_true] at h
  exact .inr ⟨eq_of_beq h.1,h.2⟩
theorem told_length:∀(s:Kcv7Neutral.S) (cs:List (List (List Int))) (n:Nat),(PyFlat.told (PyFlat.played Kcv7Neutral.step s cs)).length+n=((Kcv7Neutral.answersFrom s cs).map List.length).foldl (fun(x y:Nat)=>x+y) n+cs.length
 |s,[],n=>by
  show 0+n=n+0
  omega
 |s,c::cs,n=>by
  have ih:=told_length (Kcv7Neutral.step s c).1 cs (n+(Kcv7Neutral.step s c).2.length)
  show (PyFlat.told ((Kcv7Neutral.step s c).2::PyFlat.played Kcv7Neutral.step (Kcv7Neutral.step s c).1 cs)).length+n=(((Kcv7Neutral.step s c).2.length::(Kcv7Neutral.answersFrom (Kcv7Neutral.step s c).1 cs).map List.length)).foldl (fun(x y:Nat)=>x+y) n+(cs.length+1)
  rw[told_cons,List.length_append,List.length_cons,List.foldl_cons]
  omega
theorem Asked.short {l:List Int} {cs:List (List (List Int))} (A:Asked l cs):(PyKcv7.answers l).length<1002000:=by
 have h:=told_length Kcv7Neutral.start cs 0
 have h1:=A.size
 have h2:=A.few
 unfold Kcv7Neutral.answers at h1
 rw[A.ans]
 omega
end KTop
end
section
namespace KA
section
variable {κ β:Type} [DecidableEq κ]
noncomputable def get (L:List (κ×β)) (k:κ):Option β:=(L.find? fun p=>decide (p.1=k)).map (·.2)
noncomputable def put (L:List (κ×β)) (k:κ) (x:β):List (κ×β):=
 if (L.any fun p=>decide (p.1=k))=true then L.map (fun p=>if p.1=k then(p.1,x) else p) else L++ [(k,x)]
theorem get_pos {p:κ×β} {r:List (κ×β)} {k:κ} (e:p.1=k):get (p::r) k=some p.2:=by simp [get,List.find?_cons,e]
theorem get_neg {p:κ×β} {r:List (κ×β)} {k:κ} (e:¬p.1=k):get (p::r) k=get r k:=by simp [get,List.find?_cons,e]
theorem get_any (k:κ):∀L:List (κ×β),(L.any fun p=>decide (p.1=k))=(get L k).isSome
 | []=>rfl
 |p::r=>by
  rw[List.any_cons]
  by_cases e:p.1=k
  ·simp only[get_pos e,decide_eq_true e,Bool.true_or,Option.isSome_some]
  ·rw[get_neg e,decide_eq_false e,Bool.false_or];exact get_any k r
theorem get_none {L:List (κ×β)} {k:κ}:get L k=none↔k∉L.map (·.1):=by
 induction L with
 |nil=>simp [get]
 |cons p r ih=>
  by_cases e:p.1=k
  ·rw[get_pos e];simp [e]
  ·rw[get_neg e,ih];simp;intro _;exact fun q=>e q.symm
theorem get_some {L:List (κ×β)} {k:κ}:k∈L.map (·.1)↔∃x,get L k=some x:=by
 cases e:get L k with
 |none=>simp [get_none.mp e]
 |some x=>
  refine⟨fun _=>⟨x,rfl⟩,fun _=> ?_⟩
  by_cases h:k∈L.map (·.1)
  ·exact h
  ·rw[get_none.mpr h] at e;cases e
theorem get_mem {L:List (κ×β)} {k:κ} {x:β} (h:get L k=some x):(k,x)∈L:=by
 induction L with
 |nil=>cases h
 |cons p r ih=>
  by_cases e:p.1=k
  ·rw[get_pos e] at h;cases h;subst e;exact List.mem_cons_self
  ·rw[get_neg e] at h;exact List.mem_cons_of_mem _ (ih h)
theorem mem_get {L:List (κ×β)} (hn:(L.map (·.1)).Nodup) {k:κ} {x:β} (h:(k,x)∈L):get L k=some x:=by
 induction L with
 |nil=>cases h
 |cons p r ih=>
  rw[List.map_cons,List.nodup_cons] at hn
  rcases List.mem_cons.mp h with e|h
  ·subst e;exact get_pos rfl
  ·have:¬p.1=k:=fun e=>hn.1 (by rw[e];exact List.mem_map.mpr ⟨_,h,rfl⟩)
   rw[get_neg this];exact ih hn.2 h
theorem get_map (k j:κ) (y:β):∀L:List (κ×β),get (L.map fun kv=>if kv.1=k then(kv.1,y) else kv) j=(get L j).map fun x=>if j=k then y else x
 | []=>rfl
 |p::r=>by
  have ih:=get_map k j y r
  rw[List.map_cons]
  by_cases h:p.1=k
  ·rw[if_pos h]
   by_cases e:p.1=j
   ·rw[get_pos (p:=(p.1,y)) e,get_pos e,Option.map_some,if_pos (e.symm.trans h)]
   ·rw[get_neg (p:=(p.1,y)) e,get_neg e,ih]
  ·rw[if_neg h]
   by_cases e:p.1=j
   ·rw[get_pos (p:=p) e,get_pos e,Option.map_some,if_neg (fun z=>h (e.trans z))]
   ·rw[get_neg (p:=p) e,get_neg e,ih]
theorem get_snoc (k j:κ) (y:β):∀L:List (κ×β),get L k=none→get (L++ [(k,y)]) j=if j=k then some y else get L j
 | [],_=>by
  by_cases e:k=j
  ·rw[if_pos e.symm];exact get_pos (p:=(k,y)) e
  ·rw[if_neg (fun z=>e z.symm)];exact get_neg (p:=(k,y)) e
 |p::r,hn=>by
  rw[List.cons_append]
  have hk:¬p.1=k:=fun z=>by rw[get_pos z] at hn;cases hn
  rw[get_neg hk] at hn
  have ih:=get_snoc k j y r hn
  by_cases e:p.1=j
  ·rw[get_pos e,get_pos e,if_neg (fun z=>hk (e.trans z))]
  ·rw[get_neg e,get_neg e,ih]
theorem get_put (L:List (κ×β)) (k j:κ) (y:β):get (put L k y) j=if j=k then some y else get L j:=by
 unfold put
 by_cases a:(L.any fun kv=>decide (kv.1=k))=true
 ·rw[if_pos a,get_map]
  rw[get_any] at a
  by_cases e:j=k
  ·obtain⟨x,hx⟩:=Option.isSome_iff_exists.mp a
   rw[if_pos e,e,hx,Option.map_some,if_pos rfl]
  ·rw[if_neg e]
   cases get L j with
   |none=>rfl
   |some x=>rw[Option.map_some,if_neg e]
 ·rw[if_neg a]
  refine get_snoc k j y L ?_
  rw[get_any] at a
  cases q:get L k with
  |none=>rfl
  |some x=>rw[q] at a;exact(a rfl).elim
theorem get_put_same {L:List (κ×β)} {k:κ} {y:β}:get (put L k y) k=some y:=by rw[get_put,if_pos rfl]
theorem get_put_ne {L:List (κ×β)} {k j:κ} {y:β} (h:j≠k):get (put L k y) j=get L j:=by rw[get_put,if_neg h]
theorem put_new {L:List (κ×β)} {k:κ} (x:β) (h:get L k=none):put L k x=L++ [(k,x)]:=by
 unfold put
 rw[get_any,h]
 exact if_neg (by simp)
theorem put_keys {L:List (κ×β)} {k:κ} {x y:β} (h:get L k=some y):(put L k x).map (·.1)=L.map (·.1):=by
 unfold put
 rw[get_any,h,if_pos (by simp),List.map_map]
 refine List.map_congr_left fun p _=> ?_
 show (if p.1=k then(p.1,x) else p).1=p.1
 split<;>rfl
theorem nd_put {L:List (κ×β)} {k:κ} {x:β} (hn:(L.map (·.1)).Nodup):((put L k x).map (·.1)).Nodup:=by
 cases e:get L k with
 |none=>
  rw[put_new x e,List.map_append,List.nodup_append]
  refine⟨hn,by simp,fun a ha b hb=> ?_⟩
  have hb:b=k:=by simpa using hb
  subst hb
  exact fun z=>get_none.mp e (z▸ha)
 |some y=>rw[put_keys e];exact hn
theorem keys_put {L:List (κ×β)} {k j:κ} {x:β}:j∈(put L k x).map (·.1)↔j=k∨j∈L.map (·.1):=by
 rw[get_some,get_some,get_put]
 by_cases e:j=k
 ·rw[if_pos e];exact⟨fun _=> .inl e,fun _=>⟨x,rfl⟩⟩
 ·rw[if_neg e];exact⟨fun h=> .inr h,fun h=>h.resolve_left e⟩
end
abbrev Pl:=Nat×Nat
def InP (k:Pl):Prop:=k.1<32∧k.2<4
noncomputable def code (k:Pl):Nat:=k.1*4+k.2
theorem code_lt {k:Pl} (h:InP k):code k<128:=by unfold code;unfold InP at h;omega
theorem code_inj {k j:Pl} (hk:InP k) (hj:InP j) (e:code k=code j):k=j:=by
 unfold code at e;unfold InP at hk hj
 obtain⟨a,b⟩:=k;obtain⟨c,d⟩:=j
 simp only at*
 have e1:a=c:=by omega
 have e2:b=d:=by omega
 rw[e1,e2]
theorem nodup_code:∀{l:List Pl},l.Nodup→(∀k∈l,InP k)→(l.map code).Nodup
 | [],_,_=>List.nodup_nil
 |a::l,hn,h=>by
  rw[List.nodup_cons] at hn
  rw[List.map_cons,List.nodup_cons]
  refine⟨fun m=> ?_,nodup_code hn.2 fun k hk=>h k (List.mem_cons_of_mem _ hk)⟩
  obtain⟨b,hb,e⟩:=List.mem_map.mp m
  have:b=a:=code_inj (h b (List.mem_cons_of_mem _ hb)) (h a List.mem_cons_self) e
  exact hn.1 (this▸hb)
theorem len_pl {l:List Pl} (hn:l.Nodup) (h:∀k∈l,InP k):l.length≤128:=by
 have:=KTh.nodup_le 128 (l.map code) (nodup_code hn h) (fun x hx=>by
  obtain⟨k,hk,rfl⟩:=List.mem_map.mp hx
  exact code_lt (h k hk))
 rwa [List.length_map] at this
end KA
end
section
namespace KD
open KA KTh
inductive Ph (E:Pl→List (Pl×Nat)) (t:Pl):Pl→Nat→Prop where
 |nil:Ph E t t 0
 |cons {s f:Pl} {c m:Nat}:(s,c)∈E f→Ph E t f m→Ph E t s (c+m)
structure Dj (E:Pl→List (Pl×Nat)) (t:Pl) (F:List (Pl×Nat)) (O:List (Nat×Pl)):Prop where
 fnd:∀x n,get F x=some n→Ph E t x n∧∀m,Ph E t x m→n≤m
 off:∀n x,(n,x)∈O→Ph E t x n
 cov:∀f nf,get F f=some nf→∀s c,(s,c)∈E f→(∃y,get F s=some y)∨∃n,(n,s)∈O∧n≤c+nf
 tgt:(∃y,get F t=some y)∨(0,t)∈O
variable {E:Pl→List (Pl×Nat)} {t:Pl} {F:List (Pl×Nat)} {O:List (Nat×Pl)}
theorem Dj.start:Dj E t [] [(0,t)] where
 fnd:=fun x n h=>by cases h
 off:=fun n x h=>by
  rw[List.mem_singleton] at h
  cases h
  exact .nil
 cov:=fun f nf h=>by cases h
 tgt:= .inr List.mem_cons_self
theorem Dj.cover (D:Dj E t F O) {x:Pl} {m:Nat} (h:Ph E t x m):get F x=none→∃n y,(n,y)∈O∧n≤m:=by
 induction h with
 |nil=>
  intro hn
  rcases D.tgt with ⟨y,e⟩|h
  ·rw[hn] at e;cases e
  ·exact⟨0,t,h,Nat.le_refl _⟩
 | @cons s f c m he hp ih=>
  intro hn
  cases e:get F f with
  |none=>
   obtain⟨n,y,h1,h2⟩:=ih e
   exact⟨n,y,h1,by omega⟩
  |some nf=>
   rcases D.cov f nf e s c he with ⟨y,q⟩|⟨n,h1,h2⟩
   ·rw[hn] at q;cases q
   ·have:=(D.fnd f nf e).2 m hp
    exact⟨n,s,h1,by omega⟩
theorem Dj.drop {O':List (Nat×Pl)} {n:Nat} {x:Pl} (D:Dj E t F O) (hx:∃y,get F x=some y) (h1:∀y∈O,y=(n,x)∨y∈O') (h2:∀y∈O',y∈O):Dj E t F O' where
 fnd:=D.fnd
 off:=fun m y h=>D.off m y (h2 _ h)
 cov:=fun f nf hf s c he=>by
  rcases D.cov f nf hf s c he with q|⟨m,h3,h4⟩
  ·exact .inl q
  ·rcases h1 _ h3 with e|h
   ·cases e;exact .inl hx
   ·exact .inr ⟨m,h,h4⟩
 tgt:=by
  rcases D.tgt with q|h
  ·exact .inl q
  ·rcases h1 _ h with e|h
   ·cases e;exact .inl hx
   ·exact .inr h
theorem Dj.take {O' O'':List (Nat×Pl)} {n:Nat} {x:Pl} (D:Dj E t F O) (hx:get F x=none) (hm:(n,x)∈O) (hl:∀m y,(m,y)∈O→n≤m) (h1:∀y∈O,y=(n,x)∨y∈O') (h2:∀y∈O',y∈O)
  (h3:∀y∈O',y∈O'') (h4:∀s c,(s,c)∈E x→get (put F x n) s=none→(n+c,s)∈O'') (h5:∀y∈O'',y∈O'∨∃s c,(s,c)∈E x∧y=(n+c,s)):Dj E t (put F x n) O'' where
 fnd:=fun y k h=>by
  rw[get_put] at h
  by_cases e:y=x
  ·rw[if_pos e] at h;cases h;subst e
   refine⟨D.off _ _ hm,fun m q=> ?_⟩
   obtain⟨n',y',h6,h7⟩:=D.cover q hx
   have:=hl _ _ h6
   omega
  ·rw[if_neg e] at h;exact D.fnd y k h
 off:=fun m y h=>by
  rcases h5 _ h with h|⟨s,c,he,e⟩
  ·exact D.off m y (h2 _ h)
  ·cases e
   rw[Nat.add_comm]
   exact .cons he (D.off _ _ hm)
 cov:=fun f nf hf s c he=>by
  by_cases es:∃y,get (put F x n) s=some y
  ·exact .inl es
  ·have hn:get (put F x n) s=none:=by
    cases q:get (put F x n) s with
    |none=>rfl
    |some y=>exact absurd ⟨y,q⟩ es
   refine .inr ?_
   rw[get_put] at hf
   by_cases e:f=x
   ·rw[if_pos e] at hf;cases hf;subst e
    exact⟨n+c,h4 s c he hn,by omega⟩
   ·rw[if_neg e] at hf
    rcases D.cov f nf hf s c he with ⟨y,q⟩|⟨m,h6,h7⟩
    ·rw[get_put] at hn
     split at hn
     ·cases hn
     ·rw[q] at hn;cases hn
    ·rcases h1 _ h6 with e|h
     ·cases e
      rw[get_put_same] at hn;cases hn
     ·exact⟨m,h3 _ h,h7⟩
 tgt:=by
  by_cases e:t=x
  ·exact .inl ⟨n,by rw[e];exact get_put_same⟩
  ·rcases D.tgt with ⟨y,q⟩|h
   ·exact .inl ⟨y,by rw[get_put_ne e];exact q⟩
   ·rcases h1 _ h with q|h
    ·cases q;exact absurd rfl e
    ·exact .inr (h3 _ h)
theorem Dj.done (D:Dj E t F []) (x:Pl):IsMin (Ph E t x) (get F x):=by
 cases e:get F x with
 |none=>
  intro n h
  obtain⟨m,y,h1,_⟩:=D.cover h e
  cases h1
 |some n=>exact D.fnd x n e
end KD
end
section
namespace KL
open KA KTh
noncomputable def Nn (X:List (Pl×Pl)) (s:Pl):Nat:=X.countP fun e=>decide (e.1=s)
noncomputable def Mm (X:List (Pl×Pl)) (F:List Pl) (s:Pl):Nat:=X.countP fun e=>decide (e.1=s)&&decide (e.2∉F)
inductive Gd (X:List (Pl×Pl)) (last:List Pl):Pl→Prop where
 |last {x:Pl}:x∈last→Gd X last x
 |step {x:Pl}:(∃f,(x,f)∈X)→(∀f,(x,f)∈X→Gd X last f)→Gd X last x
theorem Mm_nil (X:List (Pl×Pl)) (s:Pl):Mm X [] s=Nn X s:=by
 unfold Mm Nn
 congr 1
 funext e
 simp
theorem Nn_pos {X:List (Pl×Pl)} {s:Pl}:Nn X s≠0↔∃f,(s,f)∈X:=by
 unfold Nn
 rw[←Nat.pos_iff_ne_zero,List.countP_pos_iff]
 constructor
 ·rintro⟨⟨a,b⟩,h,e⟩
  have e:a=s:=of_decide_eq_true e
  subst e
  exact⟨b,h⟩
 ·rintro⟨f,h⟩
  exact⟨(s,f),h,decide_eq_true rfl⟩
theorem Mm_zero {X:List (Pl×Pl)} {F:List Pl} {s:Pl}:Mm X F s=0↔∀f,(s,f)∈X→f∈F:=by
 unfold Mm
 rw[List.countP_eq_zero]
 constructor
 ·intro h f hf
  have:=h _ hf
  simpa using this
 ·rintro h ⟨a,b⟩ hab q
  rw[Bool.and_eq_true] at q
  have e:a=s:=of_decide_eq_true q.1
  subst e
  exact(of_decide_eq_true q.2) (h b hab)
theorem Mm_add {F:List Pl} {s pl:Pl} (hp:pl∉F):∀{X:List (Pl×Pl)},X.Nodup→Mm X F s=Mm X (F++ [pl]) s+(if (s,pl)∈X then 1 else 0)
 | [],_=>rfl
 |e::X,hn=>by
  rw[List.nodup_cons] at hn
  have ih:=Mm_add hp (s:=s) hn.2
  obtain⟨a,b⟩:=e
  unfold Mm at ih⊢
  rw[List.countP_cons,List.countP_cons,ih]
  by_cases e1:a=s
  ·subst e1
   by_cases e2:b=pl
   ·subst e2
    rw[if_neg hn.1,if_pos List.mem_cons_self]
    simp [hp]
   ·have e3:((a,pl)∈(a,b)::X)↔(a,pl)∈X:=by
     rw[List.mem_cons]
     exact⟨fun z=>z.resolve_left fun q=>e2 (by cases q;rfl),.inr⟩
    simp only[e3]
    have e4:(decide (b∉F):Bool)=decide (b∉F++ [pl]):=by simp [e2]
    simp only[e4]
    omega
  ·have e3:((s,pl)∈(a,b)::X)↔(s,pl)∈X:=by
    rw[List.mem_cons]
    exact⟨fun z=>z.resolve_left fun q=>e1 (by cases q;rfl),.inr⟩
   simp only[e3]
   simp [e1]
structure Ld (X:List (Pl×Pl)) (last F A:List Pl) (lf:Pl→Option Nat):Prop where
 cnt:∀s,lf s=if Nn X s=0 then none else some (Mm X F s)
 nd:(A++F).Nodup
 good:∀x∈A++F,Gd X last x
 full:∀x,x∈last∨(Nn X x≠0∧Mm X F x=0)→x∈A++F
 back:∀x∈A++F,x∈last∨(Nn X x≠0∧Mm X F x=0)
variable {X:List (Pl×Pl)} {last F A:List Pl} {lf:Pl→Option Nat}
theorem Ld.start (hl:last.Nodup):Ld X last [] last (fun s=>if Nn X s=0 then none else some (Nn X s)) where
 cnt:=fun s=>by rw[Mm_nil]
 nd:=by rw[List.append_nil];exact hl
 good:=fun x hx=> .last (by rwa [List.append_nil] at hx)
 full:=fun x hx=>by
  rw[List.append_nil]
  rcases hx with h|⟨h1,h2⟩
  ·exact h
  ·rw[Mm_nil] at h2;exact absurd h2 h1
 back:=fun x hx=> .inl (by rwa [List.append_nil] at hx)
structure In1 (X:List (Pl×Pl)) (F:List Pl) (pl:Pl) (S1:List Pl) (lf:Pl→Option Nat):Prop where
 cnt:∀s,lf s=if Nn X s=0 then none else some (if s∈S1 then Mm X (F++ [pl]) s else Mm X F s)
theorem In1.next {pl:Pl} {S1:List Pl} {s:Pl} (I:In1 X F pl S1 lf) (hX:X.Nodup) (hp:pl∉F) (hs:(s,pl)∈X) (hn:s∉S1):
  lf s=some (Mm X (F++ [pl]) s+1)∧In1 X F pl (S1++ [s]) (fun j=>if j=s then some (Mm X (F++ [pl]) s) else lf j):=by
 have h0:Nn X s≠0:=Nn_pos.mpr ⟨pl,hs⟩
 have e:=I.cnt s
 rw[if_neg h0,if_neg hn,Mm_add hp hX,if_pos hs] at e
 refine⟨e,⟨fun j=> ?_⟩⟩
 by_cases ej:j=s
 ·subst ej
  rw[if_pos rfl,if_neg h0,if_pos (by simp)]
 ·rw[if_neg ej,I.cnt j]
  have:j∈S1++ [s]↔j∈S1:=by simp [ej]
  simp only[this]
theorem Ld.step {pl:Pl} {A' S:List Pl} {lf':Pl→Option Nat} (L:Ld X last F (A'++ [pl]) lf) (hX:X.Nodup) (hlast:∀x∈last,Nn X x=0) (hS:S.Nodup) (hm:∀s,s∈S↔(s,pl)∈X) (I:In1 X F pl S lf'):
  Ld X last (F++ [pl]) (A'++S.filter fun s=>decide (Mm X (F++ [pl]) s=0)) lf':=by
 have hp:pl∉F:=by
  have:=L.nd
  rw[List.append_assoc,List.nodup_append] at this
  have:=this.2.1
  rw[List.singleton_append,List.nodup_cons] at this
  exact this.1
 have mem1:∀x,x∈A'++ [pl]++F↔x∈A'∨x=pl∨x∈F:=fun x=>by simp [or_assoc]
 have old:∀s,s∈S→s∉A'++ [pl]++F:=fun s hs hin=>by
  have h1:=(hm s).mp hs
  rcases L.back s hin with h|⟨_,h⟩
  ·exact Nn_pos.mpr ⟨pl,h1⟩ (hlast s h)
  ·exact hp (Mm_zero.mp h pl h1)
 have hA:∀x,x∈(A'++S.filter fun s=>decide (Mm X (F++ [pl]) s=0))++(F++ [pl])↔(x∈A'++ [pl]++F)∨(x∈S∧Mm X (F++ [pl]) x=0):=fun x=>by
  rw[mem1]
  simp only[List.mem_append,List.mem_filter,List.mem_singleton,decide_eq_true_eq]
  constructor
  ·rintro((h|h)|(h|h))
   ·exact .inl (.inl h)
   ·exact .inr h
   ·exact .inl (.inr (.inr h))
   ·exact .inl (.inr (.inl h))
  ·rintro((h|h|h)|h)
   ·exact .inl (.inl h)
   ·exact .inr (.inr h)
   ·exact .inr (.inl h)
   ·exact .inl (.inr h)
 refine⟨fun s=> ?_,?_,fun x hx=> ?_,fun x hx=> ?_,fun x hx=> ?_⟩
 ·rw[I.cnt s]
  by_cases hs:s∈S
  ·rw[if_pos hs]
  ·rw[if_neg hs,Mm_add hp hX,if_neg (fun q=>hs ((hm s).mpr q))]
   rfl
 ·have h0:=L.nd
  rw[List.nodup_append] at h0⊢
  obtain⟨h1,h2,h3⟩:=h0
  rw[List.nodup_append] at h1
  refine⟨?_,?_,?_⟩
  ·rw[List.nodup_append]
   refine⟨h1.1,hS.filter _,fun a ha b hb e=> ?_⟩
   subst e
   exact old a (List.mem_filter.mp hb).1 ((mem1 a).mpr (.inl ha))
  ·rw[List.nodup_append]
   refine⟨h2,by simp,fun a ha b hb e=> ?_⟩
   rw[List.mem_singleton] at hb
   subst e hb
   exact hp ha
  ·intro a ha b hb e
   subst e
   rw[List.mem_append,List.mem_singleton] at hb
   rcases List.mem_append.mp ha with h|h
   ·rcases hb with q|q
    ·exact h3 a (List.mem_append_left _ h) a q rfl
    ·exact h1.2.2 a h a (by rw[q];exact List.mem_cons_self) rfl
   ·refine old a (List.mem_filter.mp h).1 ((mem1 a).mpr ?_)
    rcases hb with q|q
    ·exact .inr (.inr q)
    ·exact .inr (.inl q)
 ·rcases(hA x).mp hx with h|⟨h,h2⟩
  ·exact L.good x h
  ·refine .step ⟨pl,(hm x).mp h⟩ fun f hf=> ?_
   have:=Mm_zero.mp h2 f hf
   refine L.good f ((mem1 f).mpr ?_)
   rcases List.mem_append.mp this with q|q
   ·exact .inr (.inr q)
   ·exact .inr (.inl (List.mem_singleton.mp q))
 ·refine(hA x).mpr ?_
  rcases hx with h|⟨h1,h2⟩
  ·exact .inl (L.full x (.inl h))
  ·by_cases hs:x∈S
   ·exact .inr ⟨hs,h2⟩
   ·refine .inl (L.full x (.inr ⟨h1,?_⟩))
    rw[Mm_add hp hX,if_neg (fun q=>hs ((hm x).mpr q)),h2]
 ·rcases(hA x).mp hx with h|⟨h,h2⟩
  ·rcases L.back x h with q|⟨q1,q2⟩
   ·exact .inl q
   ·refine .inr ⟨q1,?_⟩
    have:=Mm_add hp hX (s:=x)
    omega
  ·exact .inr ⟨Nn_pos.mpr ⟨pl,(hm x).mp h⟩,h2⟩
theorem Ld.done (L:Ld X last F [] lf) (x:Pl):x∈F↔Gd X last x:=by
 constructor
 ·exact fun h=>L.good x h
 ·intro h
  induction h with
  |last h=>exact L.full _ (.inl h)
  |step h1 _ ih=>exact L.full _ (.inr ⟨Nn_pos.mpr h1,Mm_zero.mpr ih⟩)
end KL
end
section
namespace KG
open KA KTh KL Kcv7
structure Stp where
 num:Nat
 kind:Nat
 tgt:Pl
 nx:Nat
deriving DecidableEq
noncomputable def stp (p:Prog) (n:Nat) (r:Rule) (v:Nat):Stp:=⟨n,r.kind,(if r.kind=1 then entry p r.to_ else r.to_,after r v),r.next⟩
noncomputable def stepsOf (p:Prog) (k:Pl):List Stp:=p.rules.zipIdx.filterMap fun x=>if fits x.1 k.2 k.1=true then some (stp p x.2 x.1 k.2) else none
def Val (p:Prog) (k:Pl):Prop:=k.1<p.points∧k.2<p.values
theorem Val.inp {p:Prog} (W:WF p) {k:Pl} (h:Val p k):InP k:=⟨Nat.lt_of_lt_of_le h.1 W.ple,Nat.lt_of_lt_of_le h.2 W.vle⟩
theorem code_head (k:Pl):code k=head k.2 k.1:=rfl
theorem mem_stepsOf {p:Prog} {k:Pl} {s:Stp}:s∈stepsOf p k↔∃n r,p.rules[n]?=some r∧fits r k.2 k.1=true∧s=stp p n r k.2:=by
 unfold stepsOf
 rw[List.mem_filterMap]
 constructor
 ·rintro⟨⟨r,n⟩,h,e⟩
  have h:=List.mk_mem_zipIdx_iff_getElem?.mp h
  by_cases hf:fits r k.2 k.1=true
  ·simp only[hf,if_true] at e
   exact⟨n,r,h,hf,(Option.some.inj e).symm⟩
  ·simp only[hf] at e
   cases e
 ·rintro⟨n,r,h,hf,rfl⟩
  exact⟨(r,n),List.mk_mem_zipIdx_iff_getElem?.mpr h,by simp only[hf,if_true]⟩
theorem steps_none {p:Prog} {k:Pl}:stepsOf p k= []↔∀r∈p.rules,fits r k.2 k.1=false:=by
 constructor
 ·intro h r hr
  obtain⟨n,hn⟩:=rule_ix hr
  cases e:fits r k.2 k.1 with
  |false=>rfl
  |true=>
   have:stp p n r k.2∈stepsOf p k:=mem_stepsOf.mpr ⟨n,r,hn,e,rfl⟩
   rw[h] at this
   cases this
 ·intro h
  cases e:stepsOf p k with
  |nil=>rfl
  |cons a l=>
   have:a∈stepsOf p k:=by rw[e];exact List.mem_cons_self
   obtain⟨n,r,hn,hf,_⟩:=mem_stepsOf.mp this
   rw[h r (List.mem_iff_getElem?.mpr ⟨n,hn⟩)] at hf
   cases hf
def Eg (K:Kn) (s:Stp) (c:Nat) (f:Pl):Prop:=
 ((s.kind=0∨s.kind=1)∧c=1∧f=s.tgt)∨(s.kind=1∧∃x a,K s.tgt.2 s.tgt.1 x=some a∧c=a+1∧f=(s.nx,x))
def EgAt (p:Prog) (K:Kn) (k:Pl) (c:Nat) (f:Pl):Prop:=∃s∈stepsOf p k,Eg K s c f
def KOk (p:Prog) (K:Kn):Prop:=∀v i w,v<p.values→IsMin (Bk p v i w) (K v i w)
theorem KOk.look {p:Prog} (W:WF p) {K:Kn} (h:KOk p K) {v i w:Nat} (hv:v<p.values):K v i w=Kcv7.look (table p) v i w:=
 (h v i w hv).uniq (isMin_table W (Nat.lt_of_lt_of_le hv W.vle))
theorem EgAt.iff {p:Prog} (W:WF p) {K:Kn} (hK:KOk p K) {k:Pl} (hk:Val p k) {c:Nat} {f:Pl}:EgAt p K k c f↔(Val p f∧Ed p (table p) (code k) c (code f)):=by
 have hv4:k.2<4:=Nat.lt_of_lt_of_le hk.2 W.vle
 constructor
 ·rintro⟨s,hs,h⟩
  obtain⟨n,r,hn,hf,rfl⟩:=mem_stepsOf.mp hs
  have hr:r∈p.rules:=List.mem_iff_getElem?.mpr ⟨n,hn⟩
  have ha:=W.afterV hr hk.2
  have hmk:∀{u j:Nat},(c,u,j)∈nexts p (table p) k.2 k.1→Ed p (table p) (code k) c (code (j,u)):=fun h=>Ed.mk hv4 h
  unfold Eg stp at h
  dsimp only at h
  rcases h with ⟨h0|h1,rfl,rfl⟩|⟨h1,x,a,e,rfl,rfl⟩
  ·rw[if_neg (by omega)]
   exact⟨⟨W.to0 r hr h0,ha⟩,hmk (mem_nexts.mpr ⟨r,hr,hf,.inl ⟨h0,rfl,rfl,rfl⟩⟩)⟩
  ·rw[if_pos h1]
   exact⟨⟨W.entry _,ha⟩,hmk (mem_nexts.mpr ⟨r,hr,hf,.inr ⟨by omega,by omega,.inl ⟨rfl,rfl,rfl⟩⟩⟩)⟩
  ·rw[if_pos h1] at e
   have hB:=hK (after r k.2) (entry p r.to_) x ha
   rw[e] at hB
   have hx:=hB.1.wV W ha
   refine⟨⟨(W.to1 r hr h1).2,hx⟩,hmk (mem_nexts.mpr ⟨r,hr,hf,.inr ⟨by omega,by omega,.inr ⟨Nat.lt_of_lt_of_le hx W.vle,rfl,a,?_,by omega⟩⟩⟩)⟩
   rw[←hK.look W ha];exact e
 ·rintro⟨hfv,h⟩
  obtain⟨⟨c',u,j⟩,hx,e,rfl⟩:=h
  have hx:(c',u,j)∈nexts p (table p) (head k.2 k.1%4) (head k.2 k.1/4):=hx
  rw[head_mod hv4,head_div hv4] at hx
  obtain⟨hu,hj⟩:=nexts_in W hv4 hx
  have ef:f=(j,u):=by
   have e:head u j=head f.2 f.1:=e
   have hf4:f.2<4:=Nat.lt_of_lt_of_le hfv.2 W.vle
   have e1:u=f.2:=by rw[←head_mod (v:=u) (i:=j) hu,e,head_mod hf4]
   have e2:j=f.1:=by rw[←head_div (v:=u) (i:=j) hu,e,head_div hf4]
   rw[e1,e2]
  subst ef
  obtain⟨r,hr,hf,q⟩:=mem_nexts.mp hx
  obtain⟨n,hn⟩:=rule_ix hr
  have ha:=W.afterV hr hk.2
  have hkd:=W.kind_ r hr
  refine⟨stp p n r k.2,mem_stepsOf.mpr ⟨n,r,hn,hf,rfl⟩,?_⟩
  unfold Eg stp
  dsimp only
  rcases q with ⟨h0,rfl,rfl,rfl⟩|⟨h2,h0,⟨rfl,rfl,rfl⟩|⟨_,rfl,m,hm,rfl⟩⟩
  ·exact .inl ⟨.inl h0,rfl,by rw[if_neg (by omega)]⟩
  ·exact .inl ⟨.inr (by omega),rfl,by rw[if_pos (by omega)]⟩
  ·refine .inr ⟨by omega,u,m,?_,by omega,rfl⟩
   rw[if_pos (by omega),hK.look W ha];exact hm
theorem Ed.val {p:Prog} (W:WF p) {k:Pl} (hk:Val p k) {c h:Nat} (e:Ed p (table p) (code k) c h):∃f,Val p f∧h=code f:=by
 have hv4:k.2<4:=Nat.lt_of_lt_of_le hk.2 W.vle
 obtain⟨⟨c',u,j⟩,hx,rfl,rfl⟩:=e
 have hx:(c',u,j)∈nexts p (table p) (head k.2 k.1%4) (head k.2 k.1/4):=hx
 rw[head_mod hv4,head_div hv4] at hx
 obtain⟨hu,hj⟩:=nexts_in W hv4 hx
 refine⟨(j,u),⟨hj,?_⟩,rfl⟩
 obtain⟨r,hr,hf,q⟩:=mem_nexts.mp hx
 have ha:=W.afterV hr hk.2
 rcases q with ⟨h0,rfl,rfl,rfl⟩|⟨h2,h0,⟨rfl,rfl,rfl⟩|⟨_,rfl,m,hm,rfl⟩⟩
 ·exact ha
 ·exact ha
 ·have hB:=isMin_table W (v:=after r k.2) (i:=entry p r.to_) (w:=u) (W.after4 hr hv4)
  rw[hm] at hB
  exact hB.1.wV W ha
structure GOk (p:Prog) (K:Kn) (E:Pl→List (Pl×Nat)) (X:List (Pl×Pl)):Prop where
 mn:∀f s,IsMin (fun c=>Val p s∧EgAt p K s c f) (get (E f) s)
 ndE:∀f,((E f).map (·.1)).Nodup
 ndX:X.Nodup
 mX:∀s f,(s,f)∈X↔Val p s∧∃c,EgAt p K s c f
section
variable {p:Prog} (W:WF p) {K:Kn} (hK:KOk p K) {E:Pl→List (Pl×Nat)} {X:List (Pl×Pl)} (G:GOk p K E X)
include W hK G
theorem GOk.edge {s f:Pl} {c:Nat} (h:(s,c)∈E f):Val p s∧Val p f∧Ed p (table p) (code s) c (code f):=by
 have e:=mem_get (G.ndE f) h
 have m:=G.mn f s
 rw[e] at m
 exact⟨m.1.1,(EgAt.iff W hK m.1.1).mp m.1.2⟩
theorem GOk.min {s f:Pl} {c:Nat} (hs:Val p s) (h:Ed p (table p) (code s) c (code f)) (hf:Val p f):∃c',(s,c')∈E f∧c'≤c:=by
 have m:=G.mn f s
 have q:EgAt p K s c f:=(EgAt.iff W hK hs).mpr ⟨hf,h⟩
 cases e:get (E f) s with
 |none=>rw[e] at m;exact absurd ⟨hs,q⟩ (m c)
 |some c'=>rw[e] at m;exact⟨c',get_mem e,m.2 c ⟨hs,q⟩⟩
theorem GOk.ph {t s:Pl} {n:Nat} (hs:Val p s) (h:KD.Ph E t s n):Rc p s.2 s.1 (code t) n:=by
 induction h with
 |nil=>exact Pt.start ⟨rfl,rfl⟩
 |cons he _ ih=>
  obtain⟨_,h2,h3⟩:=G.edge W hK he
  exact Rc.pre (v:=_) (i:=_) h3 (ih h2)
theorem GOk.hp {t s:Pl} {n:Nat} (hs:Val p s) (ht:Val p t) (h:Rc p s.2 s.1 (code t) n):∃m,KD.Ph E t s m∧m≤n:=by
 have key:∀{h n},Rc p s.2 s.1 h n→∃f,Val p f∧h=code f∧∀t k,KD.Ph E t f k→∃m,KD.Ph E t s m∧m≤n+k:=fun {h n} q=>by
  refine Pt.ind (M:=fun h n=>∃f,Val p f∧h=code f∧∀t k,KD.Ph E t f k→∃m,KD.Ph E t s m∧m≤n+k) (fun h n z=> ?_) (fun g m c h _ ih e=> ?_) q
  ·obtain⟨rfl,rfl⟩:=z
   exact⟨s,hs,rfl,fun t k q=>⟨k,q,by omega⟩⟩
  ·obtain⟨f,hf,rfl,ih⟩:=ih
   obtain⟨f',hf',rfl⟩:=Ed.val W hf e
   refine⟨f',hf',rfl,fun t k q=> ?_⟩
   obtain⟨c',hc,hl⟩:=G.min W hK hf e hf'
   obtain⟨m',h1,h2⟩:=ih t (c'+k) (.cons hc q)
   exact⟨m',h1,by omega⟩
 obtain⟨f,hf,e,q⟩:=key h
 have:t=f:=code_inj (ht.inp W) (hf.inp W) e
 subst this
 obtain⟨m,h1,h2⟩:=q t 0 .nil
 exact⟨m,h1,by omega⟩
theorem GOk.far {t s:Pl} (hs:Val p s) (ht:Val p t) {a:Few} (h:IsMin (KD.Ph E t s) a):a=(from_ p (table p) s.2 s.1).getD (head t.2 t.1) none:=by
 have h1:IsMin (Rc p s.2 s.1 (code t)) a:=h.congr_le (fun n q=>G.ph W hK hs q) fun n q=>G.hp W hK hs ht q
 exact h1.uniq (isMin_from W (Nat.lt_of_lt_of_le hs.2 W.vle) hs.1 (head_lt (Nat.lt_of_lt_of_le ht.2 W.vle) ht.1))
theorem GOk.to {s:Pl} (hs:Val p s) {c h:Nat} (e:Ed p (table p) (code s) c h):∃f,Val p f∧h=code f∧(s,f)∈X:=by
 obtain⟨f,hf,rfl⟩:=Ed.val W hs e
 exact⟨f,hf,rfl,(G.mX s f).mpr ⟨hs,c,(EgAt.iff W hK hs).mpr ⟨hf,e⟩⟩⟩
theorem GOk.gd_st {last:List Pl} (hlast:∀x∈last,∀f,(x,f)∉X) {s:Pl} (hs:Val p s) (g:Gd X last s) {h:Nat} (q:St p (code s) h):∃f,Val p f∧h=code f∧Gd X last f:=by
 induction q with
 |refl=>exact⟨s,hs,rfl,g⟩
 |tail _ e ih=>
  obtain⟨f,hf,rfl,gf⟩:=ih
  obtain⟨f',hf',rfl,hx⟩:=G.to W hK hf e
  refine⟨f',hf',rfl,?_⟩
  cases gf with
  |last hl=>exact absurd hx (hlast _ hl _)
  |step _ h=>exact h _ hx
theorem GOk.gd_ring {last:List Pl} (hlast:∀x∈last,∀f,(x,f)∉X) {s:Pl} (g:Gd X last s):Val p s→¬∃c k,Ed p (table p) (code s) c k∧St p k (code s):=by
 induction g with
 |last hl=>
  rintro hs ⟨c,k,e,_⟩
  obtain⟨f,_,_,hx⟩:=G.to W hK hs e
  exact hlast _ hl _ hx
 | @step x _ _ ih=>
  rintro hs ⟨c,k,e,q⟩
  obtain⟨f,hf,rfl,hx⟩:=G.to W hK hs e
  refine ih f hx hf ?_
  have hd:∀{a b:Nat},St p a b→a=b∨∃c k,Ed p (table p) a c k∧St p k b:=fun {a b} z=>by
   induction z with
   |refl=>exact .inl rfl
   |tail _ e' ih'=>
    rcases ih' with rfl|⟨c',k',e1,e2⟩
    ·exact .inr ⟨_,_,e',.refl _⟩
    ·exact .inr ⟨c',k',e1,e2.tail e'⟩
  rcases hd q with e1|⟨c',k',e1,e2⟩
  ·rw[e1]
   exact⟨c,code f,e,by rw[e1];exact .refl _⟩
  ·exact⟨c',k',e1,e2.tail e⟩
omit hK G in
theorem ring_of {C:Pl→Prop} (hC:∀s,C s→Val p s∧∃c f,Ed p (table p) (code s) c (code f)∧C f) {s:Pl} (hs:C s):∃h c k,St p (code s) h∧Ed p (table p) h c k∧St p k h:=by
 let nx:{s:Pl//C s}→{s:Pl//C s}:=fun x=>⟨((hC x.1 x.2).2.choose_spec).choose,((hC x.1 x.2).2.choose_spec).choose_spec.2⟩
 have hnx:∀x:{s:Pl//C s},∃c,Ed p (table p) (code x.1) c (code (nx x).1):=fun x=>⟨(hC x.1 x.2).2.choose,((hC x.1 x.2).2.choose_spec).choose_spec.1⟩
 let sq:Nat→{s:Pl//C s}:=fun n=>Nat.rec ⟨s,hs⟩ (fun _ x=>nx x) n
 have hsq:∀n,∃c,Ed p (table p) (code (sq n).1) c (code (sq (n+1)).1):=fun n=>hnx (sq n)
 have hst:∀a d,St p (code (sq a).1) (code (sq (a+d)).1):=fun a d=>by
  induction d with
  |zero=>exact .refl _
  |succ d ih=>
   obtain⟨c,e⟩:=hsq (a+d)
   exact ih.tail e
 have hp:∃a b,a<b∧sq a=sq b:=by
  by_cases hn:∀a b,a<129→b<129→(sq a).1=(sq b).1→a=b
  ·exfalso
   have h1:((List.range 129).map fun n=>(sq n).1).Nodup:=by
    rw[List.Nodup,List.pairwise_map]
    refine(List.pairwise_lt_range (n:=129)).imp_of_mem fun {a b} ha hb hab e=> ?_
    have:=hn a b (List.mem_range.mp ha) (List.mem_range.mp hb) e
    omega
   have h2:=len_pl h1 (fun k hk=>by
    obtain⟨n,_,rfl⟩:=List.mem_map.mp hk
    exact(hC _ (sq n).2).1.inp W)
   rw[List.length_map,List.length_range] at h2
   omega
  ·have hn:∃a b,(sq a).1=(sq b).1∧a≠b:=by
    refine Classical.byContradiction fun h=>hn fun a b _ _ e=>Classical.byContradiction fun h'=>h ⟨a,b,e,h'⟩
   obtain⟨a,b,e,hab⟩:=hn
   rcases Nat.lt_or_gt_of_ne hab with h|h
   ·exact⟨a,b,h,Subtype.ext e⟩
   ·exact⟨b,a,h,Subtype.ext e.symm⟩
 obtain⟨a,b,hab,e⟩:=hp
 obtain⟨c,e1⟩:=hsq a
 have h0:=hst 0 a
 rw[Nat.zero_add] at h0
 refine⟨code (sq a).1,c,code (sq (a+1)).1,h0,e1,?_⟩
 have:=hst (a+1) (b-(a+1))
 rw[show a+1+(b-(a+1))=b by omega,←e] at this
 exact this
theorem GOk.forever {last:List Pl} (hlast:∀x,x∈last↔Val p x∧∀f,(x,f)∉X) {s:Pl} (hs:Val p s):Kcv7.forever p (table p) s.2 s.1=true↔¬Gd X last s:=by
 have hl:∀x∈last,∀f,(x,f)∉X:=fun x hx=>((hlast x).mp hx).2
 rw[forever_iff W (Nat.lt_of_lt_of_le hs.2 W.vle) hs.1]
 constructor
 ·rintro⟨h,c,k,h1,h2,h3⟩ g
  obtain⟨f,hf,rfl,gf⟩:=G.gd_st W hK hl hs g h1
  exact G.gd_ring W hK hl gf hf ⟨c,k,h2,h3⟩
 ·intro g
  refine ring_of W (C:=fun s=>Val p s∧¬Gd X last s) (fun x hx=>⟨hx.1,?_⟩) ⟨hs,g⟩
  have h1:∃f,(x,f)∈X:=Classical.byContradiction fun h=>hx.2 (.last ((hlast x).mpr ⟨hx.1,fun f hf=>h ⟨f,hf⟩⟩))
  have h2:∃f,(x,f)∈X∧¬Gd X last f:=Classical.byContradiction fun h=>hx.2 (.step h1 fun f hf=>Classical.byContradiction fun h'=>h ⟨f,hf,h'⟩)
  obtain⟨f,hf,hg⟩:=h2
  obtain⟨_,c,q⟩:=(G.mX x f).mp hf
  obtain⟨hv,e⟩:=(EgAt.iff W hK hx.1).mp q
  exact⟨c,f,e,hv,hg⟩
theorem GOk.always {last:List Pl} (hlast:∀x,x∈last↔Val p x∧stepsOf p x≠ []∧∀f,(x,f)∉X) {s:Pl} (hs:Val p s):(Kcv7.forever p (table p) s.2 s.1||Kcv7.stuck p (table p) s.2 s.1)=true↔¬Gd X last s:=by
 have hl:∀x∈last,∀f,(x,f)∉X:=fun x hx=>((hlast x).mp hx).2.2
 rw[Bool.or_eq_true,forever_iff W (Nat.lt_of_lt_of_le hs.2 W.vle) hs.1,stuck_iff W (Nat.lt_of_lt_of_le hs.2 W.vle) hs.1]
 constructor
 ·rintro(⟨h,c,k,h1,h2,h3⟩|⟨h,h1,h2⟩) g
  ·obtain⟨f,hf,rfl,gf⟩:=G.gd_st W hK hl hs g h1
   exact G.gd_ring W hK hl gf hf ⟨c,k,h2,h3⟩
  ·obtain⟨f,hf,rfl,gf⟩:=G.gd_st W hK hl hs g h1
   have hf4:f.2<4:=Nat.lt_of_lt_of_le hf.2 W.vle
   have h2:stepsOf p f= []:=steps_none.mpr fun r hr=>by
    have:=h2 r hr
    rw[code_head,head_mod hf4,head_div hf4] at this
    exact this
   cases gf with
   |last q=>exact((hlast _).mp q).2.1 h2
   |step q _=>
    obtain⟨f',hf'⟩:=q
    obtain⟨_,c,z,hz,_⟩:=(G.mX f f').mp hf'
    rw[h2] at hz
    cases hz
 ·intro g
  by_cases hst:∃h,St p (code s) h∧∀r∈p.rules,fits r (h%4) (h/4)=false
  ·exact .inr hst
  ·refine .inl (ring_of W (C:=fun x=>Val p x∧¬Gd X last x∧St p (code s) (code x)) (fun x hx=>⟨hx.1,?_⟩) ⟨hs,g,.refl _⟩)
   have hx4:x.2<4:=Nat.lt_of_lt_of_le hx.1.2 W.vle
   have h0:stepsOf p x≠ []:=fun h=>hst ⟨code x,hx.2.2,fun r hr=>by
    rw[code_head,head_mod hx4,head_div hx4]
    exact steps_none.mp h r hr⟩
   have h1:∃f,(x,f)∈X:=Classical.byContradiction fun h=>hx.2.1 (.last ((hlast x).mpr ⟨hx.1,h0,fun f hf=>h ⟨f,hf⟩⟩))
   have h2:∃f,(x,f)∈X∧¬Gd X last f:=Classical.byContradiction fun h=>hx.2.1 (.step h1 fun f hf=>Classical.byContradiction fun h'=>h ⟨f,hf,h'⟩)
   obtain⟨f,hf,hg⟩:=h2
   obtain⟨_,c,q⟩:=(G.mX x f).mp hf
   obtain⟨hv,e⟩:=(EgAt.iff W hK hx.1).mp q
   exact⟨c,f,e,hv,hg,hx.2.2.tail e⟩
end
end KG
end
section
namespace KG
open KA KTh KL Kcv7
structure GB (T:Pl→Nat→Pl→Prop) (E:Pl→List (Pl×Nat)) (X:List (Pl×Pl)) (cnt:Pl→Option Nat):Prop where
 mn:∀f s,IsMin (fun c=>T s c f) (get (E f) s)
 ndE:∀f,((E f).map (·.1)).Nodup
 ndX:X.Nodup
 mX:∀s f,(s,f)∈X↔∃c,T s c f
 ct:∀s,cnt s=if Nn X s=0 then none else some (Nn X s)
variable {T T':Pl→Nat→Pl→Prop} {E E':Pl→List (Pl×Nat)} {X:List (Pl×Pl)} {cnt cnt':Pl→Option Nat} {s f:Pl} {c:Nat}
theorem GB.start:GB (fun _ _ _=>False) (fun _=> []) [] (fun _=>none) where
 mn:=fun f s=>fun n h=>h
 ndE:=fun f=>List.nodup_nil
 ndX:=List.nodup_nil
 mX:=fun s f=>by simp
 ct:=fun s=>rfl
theorem GB.congr (G:GB T E X cnt) (h:∀s c f,T s c f↔T' s c f):GB T' E X cnt where
 mn:=fun f s=>(G.mn f s).congr fun c=>h s c f
 ndE:=G.ndE
 ndX:=G.ndX
 mX:=fun s f=>by rw[G.mX];exact⟨fun⟨c,q⟩=>⟨c,(h s c f).mp q⟩,fun⟨c,q⟩=>⟨c,(h s c f).mpr q⟩⟩
 ct:=G.ct
theorem GB.min (G:GB T E X cnt) (hT:∀s' c' f',T' s' c' f'↔T s' c' f'∨(s'=s∧c'=c∧f'=f)) (hE:∀f',f'≠f→E' f'=E f') (hg:∀s',s'≠s→get (E' f) s'=get (E f) s') (hm:IsMin (fun c'=>T s c' f∨c'=c) (get (E' f) s)):∀f' s',IsMin (fun c'=>T' s' c' f') (get (E' f') s'):=by
 intro f' s'
 by_cases e1:f'=f
 ·subst e1
  by_cases e2:s'=s
  ·subst e2
   exact hm.congr fun c'=>by rw[hT];simp
  ·rw[hg s' e2]
   exact(G.mn f' s').congr fun c'=>by rw[hT];simp [e2]
 ·rw[hE f' e1]
  exact(G.mn f' s').congr fun c'=>by rw[hT];simp [e1]
theorem GB.mXs (G:GB T E X cnt) (hT:∀s' c' f',T' s' c' f'↔T s' c' f'∨(s'=s∧c'=c∧f'=f)) (hx:∃c0,T s c0 f) (s' f':Pl):(s',f')∈X↔∃c',T' s' c' f':=by
 rw[G.mX]
 constructor
 ·rintro⟨c',q⟩;exact⟨c',(hT _ _ _).mpr (.inl q)⟩
 ·rintro⟨c',q⟩
  rcases(hT _ _ _).mp q with q|⟨rfl,rfl,rfl⟩
  ·exact⟨c',q⟩
  ·exact hx
theorem GB.new (G:GB T E X cnt) (h:get (E f) s=none) (hT:∀s' c' f',T' s' c' f'↔T s' c' f'∨(s'=s∧c'=c∧f'=f)) (hE:∀f',f'≠f→E' f'=E f') (hf:E' f=put (E f) s c)
  (hc:∀s',cnt' s'=if s'=s then some ((cnt s).getD 0+1) else cnt s'):GB T' E' (X++ [(s,f)]) cnt' where
 mn:=G.min hT hE (fun s' e=>by rw[hf,get_put_ne e]) (by
  rw[hf,get_put_same]
  have:=G.mn f s
  rw[h] at this
  exact⟨.inr rfl,fun m q=>q.elim (fun z=>absurd z (this m)) (fun z=>by omega)⟩)
 ndE:=fun f'=>by
  by_cases e:f'=f
  ·subst e;rw[hf];exact nd_put (G.ndE f')
  ·rw[hE f' e];exact G.ndE f'
 ndX:=by
  rw[List.nodup_append]
  refine⟨G.ndX,by simp,fun a ha b hb e=> ?_⟩
  rw[List.mem_singleton] at hb
  subst e hb
  obtain⟨c0,q⟩:=(G.mX s f).mp ha
  have:=G.mn f s
  rw[h] at this
  exact this c0 q
 mX:=fun s' f'=>by
  rw[List.mem_append,List.mem_singleton,G.mX]
  constructor
  ·rintro(⟨c',q⟩|e)
   ·exact⟨c',(hT _ _ _).mpr (.inl q)⟩
   ·cases e;exact⟨c,(hT _ _ _).mpr (.inr ⟨rfl,rfl,rfl⟩)⟩
  ·rintro⟨c',q⟩
   rcases(hT _ _ _).mp q with q|⟨rfl,rfl,rfl⟩
   ·exact .inl ⟨c',q⟩
   ·exact .inr rfl
 ct:=fun s'=>by
  have e0:Nn (X++ [(s,f)]) s'=Nn X s'+(if s=s' then 1 else 0):=by
   unfold Nn
   rw[List.countP_append,List.countP_singleton]
   simp
  rw[hc,e0]
  by_cases e:s'=s
  ·subst e
   have:=G.ct s'
   rw[if_pos rfl,if_pos rfl,if_neg (by omega),this]
   by_cases z:Nn X s'=0
   ·rw[if_pos z,z];rfl
   ·rw[if_neg z];rfl
  ·have e1:Nn X s'+(if s=s' then 1 else 0)=Nn X s':=by rw[if_neg (fun z=>e z.symm)];rfl
   rw[if_neg e,e1]
   exact G.ct s'
theorem GB.less (G:GB T E X cnt) {c0:Nat} (h:get (E f) s=some c0) (hl:c<c0) (hT:∀s' c' f',T' s' c' f'↔T s' c' f'∨(s'=s∧c'=c∧f'=f)) (hE:∀f',f'≠f→E' f'=E f') (hf:E' f=put (E f) s c):GB T' E' X cnt where
 mn:=G.min hT hE (fun s' e=>by rw[hf,get_put_ne e]) (by
  rw[hf,get_put_same]
  have:=G.mn f s
  rw[h] at this
  exact⟨.inr rfl,fun m q=>q.elim (fun z=>by have:=this.2 m z;omega) (fun z=>by omega)⟩)
 ndE:=fun f'=>by
  by_cases e:f'=f
  ·subst e;rw[hf];exact nd_put (G.ndE f')
  ·rw[hE f' e];exact G.ndE f'
 ndX:=G.ndX
 mX:=G.mXs hT (by have:=G.mn f s;rw[h] at this;exact⟨c0,this.1⟩)
 ct:=G.ct
theorem GB.same (G:GB T E X cnt) {c0:Nat} (h:get (E f) s=some c0) (hl:¬c<c0) (hT:∀s' c' f',T' s' c' f'↔T s' c' f'∨(s'=s∧c'=c∧f'=f)):GB T' E X cnt where
 mn:=G.min hT (fun _ _=>rfl) (fun _ _=>rfl) (by
  rw[h]
  have:=G.mn f s
  rw[h] at this
  exact⟨.inl this.1,fun m q=>q.elim (this.2 m) (fun z=>by omega)⟩)
 ndE:=G.ndE
 ndX:=G.ndX
 mX:=G.mXs hT (by have:=G.mn f s;rw[h] at this;exact⟨c0,this.1⟩)
 ct:=G.ct
end KG
end
section
namespace KG
open KA KTh KL Kcv7
def Cap (a:Few) (n:Nat):Prop:=(n≤32→a=some n)∧∀m,a=some m→m≤32→n=m
theorem Cap.eq {a:Few} {n k:Nat} (h:Cap a n) (hk:k≤32):n=k↔a=some k:=by
 constructor
 ·rintro rfl;exact h.1 hk
 ·intro e;exact h.2 k e hk
noncomputable def fewest (d:Few) (b:Nat→Nat) (L:List (Nat×Nat)):Nat:=L.foldl (fun m x=>if x.2+b x.1<m then x.2+b x.1 else m) (d.getD 33)
theorem fold_le (b:Nat→Nat):∀(L:List (Nat×Nat)) (m:Nat),L.foldl (fun m x=>if x.2+b x.1<m then x.2+b x.1 else m) m≤m∧∀x∈L,L.foldl (fun m x=>if x.2+b x.1<m then x.2+b x.1 else m) m≤x.2+b x.1
 | [],m=>⟨Nat.le_refl _,fun x h=>by cases h⟩
 |y::L,m=>by
  obtain⟨h1,h2⟩:=fold_le b L (if y.2+b y.1<m then y.2+b y.1 else m)
  rw[List.foldl_cons]
  have h3:(if y.2+b y.1<m then y.2+b y.1 else m)≤m∧(if y.2+b y.1<m then y.2+b y.1 else m)≤y.2+b y.1:=by split<;>omega
  refine⟨Nat.le_trans h1 h3.1,fun x hx=> ?_⟩
  rcases List.mem_cons.mp hx with rfl|hx
  ·exact Nat.le_trans h1 h3.2
  ·exact h2 x hx
theorem fold_at (b:Nat→Nat):∀(L:List (Nat×Nat)) (m:Nat),L.foldl (fun m x=>if x.2+b x.1<m then x.2+b x.1 else m) m=m∨∃x∈L,L.foldl (fun m x=>if x.2+b x.1<m then x.2+b x.1 else m) m=x.2+b x.1
 | [],m=> .inl rfl
 |y::L,m=>by
  rw[List.foldl_cons]
  rcases fold_at b L (if y.2+b y.1<m then y.2+b y.1 else m) with h|⟨x,hx,h⟩
  ·rw[h]
   split
   ·exact .inr ⟨y,List.mem_cons_self,rfl⟩
   ·exact .inl rfl
  ·exact .inr ⟨x,List.mem_cons_of_mem _ hx,h⟩
section
variable {p:Prog} (W:WF p) {K:Kn} (hK:KOk p K) {w j:Nat} (hw:w<p.values) (hj:j<p.points)
noncomputable def lft (p:Prog) (w j:Nat) (s:State):Few:=(left (table p) (far p (table p)) w j s.stack).getD s.value none
include W hK hw hj
theorem fewest_cap {i v:Nat} {st:List Nat} (hv:v<p.values) (hi:i<p.points) (hst:∀x∈st,x<p.points) {b:Nat→Nat} (hb:∀u,u<p.values→Cap (lft p w j ⟨u,st⟩) (b u)) {L:List (Nat×Nat)} (hL:∀u a,(u,a)∈L↔K v i u=some a):
  Cap (lft p w j ⟨v,i::st⟩) (fewest ((from_ p (table p) v i).getD (head w j) none) b L):=by
 have hw4:w<4:=Nat.lt_of_lt_of_le hw W.vle
 have hv4:v<4:=Nat.lt_of_lt_of_le hv W.vle
 have hmin:=isMin_left W hw4 hj (i::st) v (fun x hx=>by rcases List.mem_cons.mp hx with rfl|hx;exact hi;exact hst x hx) hv4
 have hfrom:=isMin_from W hv4 hi (h:=head w j) (head_lt hw4 hj)
 have hst_:∀u,u<4→IsMin (Lf p w j st u) (lft p w j ⟨u,st⟩):=fun u hu=>isMin_left W hw4 hj st u hst hu
 have hlow:∀m,Lf p w j (i::st) v m→m≤32→fewest ((from_ p (table p) v i).getD (head w j) none) b L≤m:=fun m h hm=>by
  rcases h with h|⟨u,a,b',hu,h1,h2,rfl⟩
  ·cases e:(from_ p (table p) v i).getD (head w j) none with
   |none=>rw[e] at hfrom;exact absurd h (hfrom m)
   |some d=>
    rw[e] at hfrom
    have:=hfrom.2 m h
    have:=(fold_le b L d).1
    show L.foldl _ d≤m
    omega
  ·have huV:=h1.wV W hv
   have hk:=hK v i u hv
   cases e:K v i u with
   |none=>rw[e] at hk;exact absurd h1 (hk a)
   |some a0=>
    rw[e] at hk
    have h3:=hk.2 a h1
    have h4:=(fold_le b L (((from_ p (table p) v i).getD (head w j) none).getD 33)).2 (u,a0) ((hL u a0).mpr e)
    have h5:=hst_ u hu
    cases e2:lft p w j ⟨u,st⟩ with
    |none=>rw[e2] at h5;exact absurd h2 (h5 b')
    |some lb=>
     rw[e2] at h5
     have h6:=h5.2 b' h2
     have h7:=(hb u huV).2 lb e2 (by omega)
     unfold fewest
     simp only at h4
     omega
 have hup:fewest ((from_ p (table p) v i).getD (head w j) none) b L≤32→Lf p w j (i::st) v (fewest ((from_ p (table p) v i).getD (head w j) none) b L):=fun hle=>by
  rcases fold_at b L (((from_ p (table p) v i).getD (head w j) none).getD 33) with h|⟨⟨u,a⟩,hx,h⟩
  ·unfold fewest at hle⊢
   rw[h] at hle⊢
   cases e:(from_ p (table p) v i).getD (head w j) none with
   |none=>rw[e] at hle;exact absurd hle (by decide)
   |some d=>rw[e] at hfrom;exact .inl hfrom.1
  ·unfold fewest at hle⊢
   rw[h] at hle⊢
   have e:=(hL u a).mp hx
   have hk:=hK v i u hv
   rw[e] at hk
   have huV:=hk.1.wV W hv
   have hu4:=Nat.lt_of_lt_of_le huV W.vle
   simp only at hle
   have h5:=hst_ u hu4
   rw[(hb u huV).1 (by omega)] at h5
   exact .inr ⟨u,a,b u,hu4,hk.1,h5.1,rfl⟩
 have fin:fewest ((from_ p (table p) v i).getD (head w j) none) b L≤32→lft p w j ⟨v,i::st⟩=some (fewest ((from_ p (table p) v i).getD (head w j) none) b L):=fun hle=>
  hmin.uniq (b:=some _) ⟨hup hle,fun m h=>by
   by_cases hm:m≤32
   ·exact hlow m h hm
   ·omega⟩
 refine⟨fin,fun m e hm=> ?_⟩
 have e':(left (table p) (far p (table p)) w j (i::st)).getD v none=some m:=e
 rw[e'] at hmin
 have h1:=hlow m hmin.1 hm
 have h2:=fin (by omega)
 have h3:some m=some (fewest ((from_ p (table p) v i).getD (head w j) none) b L):=e.symm.trans h2
 exact(Option.some.inj h3).symm
omit W hK hw hj
noncomputable def stOf (s:Stp) (st:List Nat):State:=if s.kind=0 then⟨s.tgt.2,s.tgt.1::st⟩ else if s.kind=1 then⟨s.tgt.2,s.tgt.1::s.nx::st⟩ else⟨s.tgt.2,st⟩
theorem does_stp {n:Nat} {r:Rule} {v i:Nat} {st:List Nat} (hf:fits r v i=true):does p r ⟨v,i::st⟩=some (stOf (stp p n r v) st):=by
 refine does_iff.mpr ⟨hf,?_⟩
 unfold stOf stp
 dsimp only
 by_cases h0:r.kind=0
 ·rw[if_pos h0,if_pos h0,if_neg (by omega)]
 ·rw[if_neg h0,if_neg h0]
  by_cases h1:r.kind=1
  ·rw[if_pos h1,if_pos h1,if_pos h1]
  ·rw[if_neg h1,if_neg h1]
theorem steps_sorted_aux (p:Prog) (k:Pl):∀(l:List Rule) (m:Nat),((l.zipIdx m).filterMap fun x=>if fits x.1 k.2 k.1=true then some (stp p x.2 x.1 k.2) else none).Pairwise (fun a b=>a.num<b.num)∧∀s∈((l.zipIdx m).filterMap fun x=>if fits x.1 k.2 k.1=true then some (stp p x.2 x.1 k.2) else none),m≤s.num
 | [],m=>⟨List.Pairwise.nil,fun s h=>by cases h⟩
 |r::l,m=>by
  obtain⟨h1,h2⟩:=steps_sorted_aux p k l (m+1)
  rw[List.zipIdx_cons,List.filterMap_cons]
  dsimp only
  by_cases hf:fits r k.2 k.1=true
  ·rw[if_pos hf]
   dsimp only
   refine⟨List.pairwise_cons.mpr ⟨fun s hs=>h2 s hs,h1⟩,fun s hs=> ?_⟩
   rcases List.mem_cons.mp hs with rfl|hs
   ·exact Nat.le_refl _
   ·have:=h2 s hs;omega
  ·rw[if_neg hf]
   exact⟨h1,fun s hs=>by have:=h2 s hs;omega⟩
theorem steps_sorted (p:Prog) (k:Pl):(stepsOf p k).Pairwise (fun a b=>a.num<b.num):=(steps_sorted_aux p k p.rules 0).1
theorem way_step {i v n t:Nat} {st:List Nat} {s:Stp} (hs:(stepsOf p (i,v))[t]?=some s) (h1:lft p w j (stOf s st)=some n) (h0:∀t' s',t'<t→(stepsOf p (i,v))[t']?=some s'→lft p w j (stOf s' st)≠some n):
  wayFrom p (table p) (far p (table p)) w j (n+1) ⟨v,i::st⟩=s.num::wayFrom p (table p) (far p (table p)) w j n (stOf s st):=by
 obtain⟨k,r,hk,hf,rfl⟩:=mem_stepsOf.mp (List.mem_of_getElem? hs)
 have hb:(p.rules[k]?.bind fun r=>does p r ⟨v,i::st⟩)=some (stOf (stp p k r v) st):=by
  rw[hk];exact does_stp hf
 have hfind:(List.range p.rules.length).find? (fun k=>match (p.rules[k]?).bind fun r=>does p r ⟨v,i::st⟩ with
   |none=>false
   |some x=>alike ((left (table p) (far p (table p)) w j x.stack).getD x.value none) (some n))=some k:=by
  rw[List.find?_range_eq_some]
  refine⟨?_,List.mem_range.mpr (List.getElem?_eq_some_iff.mp hk).1,fun k' hk'=> ?_⟩
  ·rw[hb]
   show alike (lft p w j _) (some n)=true
   rw[h1];exact alike_refl _
  ·cases e:(p.rules[k']?).bind fun r=>does p r ⟨v,i::st⟩ with
   |none=>rfl
   |some x=>
    obtain⟨r',hr',hd⟩:=Option.bind_eq_some_iff.mp e
    obtain⟨hf',_⟩:=does_iff.mp hd
    have hd2:=does_stp (p:=p) (n:=k') (st:=st) hf'
    rw[hd] at hd2
    cases hd2
    have hm:stp p k' r' v∈stepsOf p (i,v):=mem_stepsOf.mpr ⟨k',r',hr',hf',rfl⟩
    obtain⟨t',ht'⟩:=List.mem_iff_getElem?.mp hm
    have hlt:t'<t:=by
     have hso:=List.pairwise_iff_getElem.mp (steps_sorted p (i,v))
     obtain⟨a1,a2⟩:=List.getElem?_eq_some_iff.mp ht'
     obtain⟨b1,b2⟩:=List.getElem?_eq_some_iff.mp hs
     rcases Nat.lt_trichotomy t' t with h|h|h
     ·exact h
     ·subst h
      rw[a2] at b2
      have:k'=k:=congrArg Stp.num b2
      omega
     ·have:=hso t t' b1 a1 h
      rw[a2,b2] at this
      have:k<k':=this
      omega
    have hne:=h0 t' _ hlt ht'
    cases ea:alike ((left (table p) (far p (table p)) w j (stOf (stp p k' r' v) st).stack).getD (stOf (stp p k' r' v) st).value none) (some n) with
    |false=>rw[Bool.not_eq_true'];exact ea
    |true=>exact absurd (alike_eq ea) hne
 conv=>lhs;unfold wayFrom
 split
 ·rename_i e
  have e':=e.symm.trans hfind
  cases e'
 ·rename_i k' e
  have e':some k'=some k:=e.symm.trans hfind
  cases e'
  split
  ·rename_i e2
   have:=e2.symm.trans hb
   cases this
  ·rename_i x e2
   have:=e2.symm.trans hb
   cases this
   rfl
include W hw hj
theorem way_ex {i v n:Nat} {st:List Nat} (hv:v<p.values) (hi:i<p.points) (hst:∀x∈st,x<p.points) (h:lft p w j ⟨v,i::st⟩=some (n+1)):∃s∈stepsOf p (i,v),lft p w j (stOf s st)=some n:=by
 have hw4:w<4:=Nat.lt_of_lt_of_le hw W.vle
 have hv4:v<4:=Nat.lt_of_lt_of_le hv W.vle
 have hmin:=isMin_to W hw4 hj (st:=i::st) (v:=v) (fun x hx=>by rcases List.mem_cons.mp hx with rfl|hx;exact hi;exact hst x hx) hv4
 have h':(left (table p) (far p (table p)) w j (i::st)).getD v none=some (n+1):=h
 rw[h'] at hmin
 obtain⟨ks,st',e,q⟩:=hmin.1
 cases q with
 |nil=>cases e
 | @cons _ x _ k ks r hk hd hr=>
  have hm:r∈p.rules:=List.mem_iff_getElem?.mpr ⟨k,hk⟩
  obtain⟨hf,_⟩:=does_iff.mp hd
  have hd2:=does_stp (p:=p) (n:=k) (st:=st) hf
  rw[hd] at hd2
  cases hd2
  refine⟨stp p k r v,mem_stepsOf.mpr ⟨k,r,hk,hf,rfl⟩,?_⟩
  have hb:(stOf (stp p k r v) st).value<4∧∀y∈(stOf (stp p k r v) st).stack,y<p.points:=by
   have ha:=W.after4 hm hv4
   unfold stOf stp
   dsimp only
   by_cases h0:r.kind=0
   ·rw[if_pos h0,if_neg (by omega)]
    exact⟨ha,fun y hy=>by rcases List.mem_cons.mp hy with rfl|hy;exact W.to0 r hm h0;exact hst y hy⟩
   ·rw[if_neg h0]
    by_cases h1:r.kind=1
    ·rw[if_pos h1,if_pos h1]
     exact⟨ha,fun y hy=>by
      rcases List.mem_cons.mp hy with rfl|hy
      ·exact W.entry _
      ·rcases List.mem_cons.mp hy with rfl|hy
       ·exact(W.to1 r hm h1).2
       ·exact hst y hy⟩
    ·rw[if_neg h1]
     exact⟨ha,hst⟩
  have hm2:=isMin_to W hw4 hj hb.2 hb.1
  have hks:ks.length=n:=by rw[List.length_cons] at e;omega
  have hto:To p w j (stOf (stp p k r v) st) n:=⟨ks,st',hks,hr⟩
  show lft p w j (stOf (stp p k r v) st)=some n
  cases e2:lft p w j (stOf (stp p k r v) st) with
  |none=>
   have e3:(left (table p) (far p (table p)) w j (stOf (stp p k r v) st).stack).getD (stOf (stp p k r v) st).value none=none:=e2
   rw[e3] at hm2
   exact absurd hto (hm2 n)
  |some m=>
   have e3:(left (table p) (far p (table p)) w j (stOf (stp p k r v) st).stack).getD (stOf (stp p k r v) st).value none=some m:=e2
   rw[e3] at hm2
   have h1:=hm2.2 n hto
   obtain⟨ls,st2,e4,q4⟩:=hm2.1
   have h2:=hmin.2 (m+1) ⟨k::ls,st2,by rw[List.length_cons,e4],.cons hk hd q4⟩
   rw[show m=n by omega]
end
end KG
end
section
namespace HT
open PySem PyProof.Rows L2
def IsPr (h:Heap) (q:Addr) (x y:Int):Prop:=∃t u,IsTup h q #[.int x t,.int y u]
inductive It2 (h:Heap):List Value→List Value→List Int→List Int→Prop
 |nil:It2 h [] [] [] []
 |int (a:Int) (t:Tok) (c:Int) (u:Tok) {vs ws:List Value} {ns ms:List Int}:It2 h vs ws ns ms→It2 h (.int a t::vs) (.int c u::ws) (a::ns) (c::ms)
 |tup (q r:Addr) (x y z v:Int) {vs ws:List Value} {ns ms:List Int}:IsPr h q x y→IsPr h r z v→It2 h vs ws ns ms→It2 h (.ref q::vs) (.ref r::ws) (x::y::ns) (z::v::ms)
theorem It2.length {h:Heap} {vs ws:List Value} {ns ms:List Int} (i:It2 h vs ws ns ms):vs.length=ws.length:=by
 induction i with
 |nil=>rfl
 |int a t c u _ ih=>simp [ih]
 |tup q r x y z v _ _ _ ih=>simp [ih]
theorem IsPr.key {prog:Program} {w:World} {h:Heap} {q:Addr} {x y:Int} (p:IsPr h q x y):IsTupleKey (mixKind prog w) h [Sum.inl x,Sum.inl y] q:=by
 obtain⟨t,u,o,ho,hc,n,hd⟩:=p
 exact⟨o,_,n,ho,hc,hd,items_are (ks:= [Sum.inl x,Sum.inl y]) (.cons ⟨t,rfl⟩ (.cons ⟨u,rfl⟩ .nil))⟩
theorem eqAt_pr {A:Around} {s:Shared} {q r:Addr} {x y z v:Int} (hu:A.units<cLine) (hq:IsPr s.heap q x y) (hr:IsPr s.heap r z v):∃e,SeqAt.EqAt A s (.ref q) (.ref r) e∧(e=true↔(x=z∧y=v)):=by
 refine⟨decide (([Sum.inl x,Sum.inl y]:List Key)= [Sum.inl z,Sum.inl v]),fun prog w E Q h=>wpAny_eqBool_tuple (knd:=mixKind prog w) hu hq.key hr.key h,?_⟩
 rw[decide_eq_true_iff]
 simp
theorem rcLt_pr {A:Around} {s:Shared} {q r:Addr} {x y z v:Int} (hu:A.units<cLine) (hq:IsPr s.heap q x y) (hr:IsPr s.heap r z v) (prog:Program) (w:World) (E:Value→Shared→Prop) (Q:Value→Shared→Prop) (h:Q (.bool (lexLt [x,y] [z,v])) s):
  wpAny (model prog w) A (richCompare .Lt (.ref q) (.ref r)) Q E s:=by
 obtain⟨t,u,hq⟩:=hq
 obtain⟨t',u',hr⟩:=hr
 exact(lt_tupInts hq hr (.cons x t (.cons y u .nil)) (.cons z t' (.cons v u' .nil)) hu h:wpAny (model prog w) A (compareOp .Lt (.ref q) (.ref r)) Q E s)
theorem lex_pr {x y z v:Int} {ns ms:List Int} (h:¬(x=z∧y=v)):lexLt (x::y::ns) (z::v::ms)=lexLt [x,y] [z,v]:=by
 rw[lexLt_cons,lexLt_cons,lexLt_cons,lexLt_cons]
 by_cases e:x=z
 ·rw[if_pos e,if_pos e,if_neg (fun q=>h ⟨e,q⟩),if_neg (fun q=>h ⟨e,q⟩)]
 ·rw[if_neg e,if_neg e]
section
open PySem.SeqAt
open PySem.AutoSeq1 (wpAny_loadPart')
open PySem.MeetsSeq PySem.MeetsSeq2 PySem.MeetsSeq3
theorem tuple_lt_nest (l b:Addr) (items items2:Array Value) (n n2:Nat) (dd dd2:Option Addr) (sl sl2:Array (Option Value)) (ns ms:List Int):
  Meets (Builtin.«tuple.__lt__» ⟨[.ref l,.ref b],[]⟩)
   (fun A R s=>A.in1.units<cLine∧It2 s.heap items.toList items2.toList ns ms∧s.heap.get? l=some {cls:= .type "tuple",dict:=dd,data:= .seq items n,slots:=sl}∧s.heap.get? b=some {cls:= .type "tuple",dict:=dd2,data:= .seq items2 n2,slots:=sl2}∧
    R (.ok (.ret (.bool (lexLt ns ms)))) s):=
 .of_wp fun prog w A R s h=>by
  obtain⟨hp,g,d,tk,os⟩:=s;obtain⟨hun,hij,hl,hb,h⟩:=h
  have f2:=AutoSeq1.sub_tuple_tuple
  have zz:items.size=items2.size:=by have:=hij.length;simpa using this
  wp_walk using wpAny_loadPart' hl,wpAny_loadPart' hb,wpAny_forIn_list _ (fun rest b s'=>b.1=none∧s'=⟨hp,g,d,tk,os⟩∧∃(vs ws:List Value) (ns' ms':List Int),rest=vs.zip ws∧
   It2 hp vs ws ns' ms'∧R (.ok (.ret (.bool (lexLt ns' ms')))) ⟨hp,g,d,tk,os⟩) _
  case turn=>
   rintro⟨y,x⟩ rest b s' ⟨hb',rfl,vs,ws,ns',ms',hz,hvi,hR⟩
   cases hvi with
   |nil=>rw[List.zip_nil_left] at hz;cases hz
   |int a t c u hvi'=>
    rw[List.zip_cons_cons] at hz
    injection hz with hyx hrest
    injection hyx with hy hx
    subst hy hx
    rw[lexLt_cons] at hR
    obtain⟨e,he,hiff⟩:=eqAt_int A.in1 ⟨hp,g,d,tk,os⟩ a t c u
    refine wpAny_bind (he prog w _ _ ?_)
    cases e with
    |true=>
     rw[if_pos (hiff.mp rfl)] at hR
     wp_walk
     exact⟨rfl,rfl,_,_,_,_,hrest,hvi',hR⟩
    |false=>
     rw[if_neg (fun q=>absurd (hiff.mpr q) Bool.false_ne_true)] at hR
     have hri:=rcLt_int A.in1 ⟨hp,g,d,tk,os⟩ a t c u prog w
     wp_walk using hri
     exact⟨_,rfl,by simpa using hR⟩
   |tup q r x1 y1 x2 y2 hq hr hvi'=>
    rw[List.zip_cons_cons] at hz
    injection hz with hyx hrest
    injection hyx with hy hx
    subst hy hx
    obtain⟨e,he,hiff⟩:=eqAt_pr (A:=A.in1) (s:=⟨hp,g,d,tk,os⟩) hun hq hr
    refine wpAny_bind (he prog w _ _ ?_)
    cases e with
    |true=>
     obtain⟨e1,e2⟩:=hiff.mp rfl
     rw[lexLt_cons,if_pos e1,lexLt_cons,if_pos e2] at hR
     wp_walk
     exact⟨rfl,rfl,_,_,_,_,hrest,hvi',hR⟩
    |false=>
     rw[lex_pr (fun q=>absurd (hiff.mpr q) Bool.false_ne_true)] at hR
     have hri:=rcLt_pr (A:=A.in1) (s:=⟨hp,g,d,tk,os⟩) hun hq hr prog w
     wp_walk using hri
     exact⟨_,rfl,by simpa using hR⟩
  case fin=>
   rintro⟨b1,b2⟩ s' ⟨hb',rfl,vs,ws,ns',ms',hz,hvi,hR⟩
   simp only at hb'
   subst hb'
   have hv:lexLt ns' ms'=decide (items.size<items2.size):=by
    cases hvi with
    |nil=>
     rw[lexLt_nil_nil]
     exact(decide_eq_false (by omega)).symm
    |int a t c u hv=>rw[List.zip_cons_cons] at hz;cases hz
    |tup q r x1 y1 x2 y2 hq hr hv=>rw[List.zip_cons_cons] at hz;cases hz
   rw[hv] at hR
   wp_walk
   exact⟨_,rfl,by simpa [Builtin.Tuple.tupleCompareSizes] using hR⟩
  case h=>
   exact⟨rfl,rfl,items.toList,items2.toList,ns,ms,rfl,hij,h⟩
end
section
variable {prog:Program} {w:World} {A:Around} {E:Value→Shared→Prop} {s:Shared}
theorem lt_tupNest {l b:Addr} {items items2:Array Value} {ns ms:List Int} {Q:Value→Shared→Prop} (hl:IsTup s.heap l items) (hb:IsTup s.heap b items2) (hi:It2 s.heap items.toList items2.toList ns ms)
  (hu:A.units+1<cLine) (h:Q (.bool (lexLt ns ms)) s):wpAny (model prog w) A (compareOp .Lt (.ref l) (.ref b)) Q E s:=by
 obtain⟨⟨cls,dd,data,sl⟩,ho,hc,n,hd⟩:=id hl
 obtain⟨⟨cls2,dd2,data2,sl2⟩,ho2,hc2,n2,hd2⟩:=id hb
 simp only at hc hd hc2 hd2
 subst hc hd hc2 hd2
 exact richCompare_meets_room (op:= .Lt) ⟨_,ho,rfl⟩ ⟨_,ho2,rfl⟩ PySem.F.slot_tuple_lt PySem.F.entry_tuple_lt (PySem.F.args_tuple_lt_2 _ _) (tuple_lt_nest l b items items2 n n2 dd dd2 sl sl2 ns ms)
  ⟨hu,hi,ho,ho2,show Value.bool (lexLt ns ms)≠Value.notImplemented∧Q (.bool (lexLt ns ms)) s from⟨(fun x=>nomatch x),h⟩⟩ (by omega)
end
theorem lex_irr:∀a:List Int,lexLt a a=false
 | []=>rfl
 |x::xs=>by rw[lexLt_cons,if_pos rfl];exact lex_irr xs
theorem lex_tr:∀{a b c:List Int},lexLt a b=true→lexLt b c=true→lexLt a c=true
 | [],[],_,h,_=>by cases h
 | [],_::_,[],_,h=>by cases h
 | [],_::_,_::_,_,_=>rfl
 |_::_,[],_,h,_=>by cases h
 |_::_,_::_,[],_,h=>by cases h
 |x::xs,y::ys,z::zs,h1,h2=>by
  rw[lexLt_cons] at h1 h2⊢
  by_cases e1:x=y
  ·rw[if_pos e1] at h1
   subst e1
   by_cases e2:x=z
   ·rw[if_pos e2] at h2⊢;exact lex_tr h1 h2
   ·rw[if_neg e2] at h2⊢;exact h2
  ·rw[if_neg e1] at h1
   have l1:=of_decide_eq_true h1
   by_cases e2:y=z
   ·subst e2;rw[if_neg e1];exact h1
   ·rw[if_neg e2] at h2
    have l2:=of_decide_eq_true h2
    rw[if_neg (by omega)];exact decide_eq_true (by omega)
theorem lex_ntr:∀{a b c:List Int},lexLt b a=false→lexLt c b=false→lexLt c a=false
 | [],[],_,_,h=>h
 | [],_::_,[],_,h=>by cases h
 | [],_::_,_::_,_,_=>rfl
 |_::_,[],_,h,_=>by cases h
 |_::_,_::_,[],_,h=>by cases h
 |x::xs,y::ys,z::zs,h1,h2=>by
  rw[lexLt_cons] at h1 h2⊢
  by_cases e1:y=x
  ·rw[if_pos e1] at h1
   subst e1
   by_cases e2:z=y
   ·rw[if_pos e2] at h2⊢;exact lex_ntr h1 h2
   ·rw[if_neg e2] at h2⊢;exact h2
  ·rw[if_neg e1] at h1
   have l1:=of_decide_eq_false h1
   by_cases e2:z=y
   ·subst e2;rw[if_neg e1];exact h1
   ·rw[if_neg e2] at h2
    have l2:=of_decide_eq_false h2
    rw[if_neg (by omega)];exact decide_eq_false (by omega)
theorem lex_head {x y:Int} {xs ys:List Int} (h:lexLt (x::xs) (y::ys)=false):y≤x:=by
 rw[lexLt_cons] at h
 by_cases e:x=y
 ·omega
 ·rw[if_neg e] at h
  have:=of_decide_eq_false h
  omega
end HT
end
section
namespace PySem
section
variable {prog:Program} {w:World} {K:Type} [DecidableEq K] {knd:HeapKind prog w K} {A:Around} {E:Value→Shared→Prop} {s:Shared}
theorem kx_setDefault {d a:Addr} {xs:List (K×Addr×Value)} {k:K} {dflt:Value} {Q:Value→Shared→Prop} (hu:knd.room A) (hkey:knd.is s.heap k a) (hm:s.heap.DictOfH knd d xs)
  (h1:∀p,atKey xs k=some p→Q p.2 {s with toks:=s.toks+knd.draws k})
  (h2:atKey xs k=none→∀h',h'.DictOfH knd d (storedH xs k a dflt)→Heap.SameBut d s.heap h'→Q dflt {s with heap:=h',toks:=s.toks+knd.draws k})
  (hsz:xs.length≤sizeLine):wpAny (model prog w) A (dictSetDefault d (.ref a) dflt) Q E s:=by
 obtain⟨o,es,ep,ho,hc,hd,he,his,hn⟩:=hm
 unfold dictSetDefault
 try with_reducible refine wpAny_holding ?_
 refine wpAny_bind (knd.pyHash hu hkey (wpAny_bind (wpAny_dictFind_heap (s:={s with toks:=s.toks+knd.draws k}) hu hkey ho hd he his hn ?_ ?_)))
 ·intro hno
  have hat:=atKey_none_of_get hno
  have hnot:k∉xs.map (·.1):=not_mem_keys_of_get hno
  refine wpAny_bind (wpAny_rule (wpAny_bind (wpAny_updateDictKeys (hz:=by have e:=size_of_entries he;omega) (s:={s with toks:=s.toks+knd.draws k}) ho hd (wpAny_pure (h2 hat _ ⟨_,_,ep+1,Heap.get?_update_self _ ho (Obj.isFreed_of_dict (Obj.data_mapDictKeys hd _)),
   hc.mapDictKeys _,Obj.data_mapDictKeys hd _,?_,?_,?_⟩ (Heap.SameBut.update ..))))))
  ·rw[storedH_new hat];simp [he,entryOfKey]
  ·rw[storedH_new hat];intro x hx;rcases List.mem_append.mp hx with hx|hx
   ·exact knd.keeps (his x hx) ho hd (Heap.SameBut.update ..)
   ·simp only[List.mem_singleton] at hx;subst hx;exact knd.keeps hkey ho hd (Heap.SameBut.update ..)
  ·rw[storedH_new hat,List.map_append,List.nodup_append]
   refine⟨hn,by simp,fun x hx y hy=> ?_⟩
   simp only[List.map_cons,List.map_nil,List.mem_singleton] at hy;subst hy;exact fun e=>hnot (e▸hx)
 ·intro j p hj
  refine wpAny_bind (wpAny_dictEntries (s:={s with toks:=s.toks+knd.draws k}) ho hd ?_);rw[entry_at he j,hj]
  exact wpAny_bind (wpAny_rule (wpAny_pure (h1 p (atKey_of_get hn hj))))
theorem kx_meets_setdefault (d a:Addr) (hd:(d==sysModules)=false) (dflt:Value):
  MeetsIn prog w (Builtin.«dict.setdefault» ⟨[.ref d,.ref a,dflt],[]⟩) (fun A R s=>knd.room A.in1∧∃k xs,knd.is s.heap k a∧s.heap.DictOfH knd d xs∧xs.length≤sizeLine∧
   (∀p,atKey xs k=some p→R (.ok (.ret p.2)) {s with toks:=s.toks+knd.draws k})∧
   (atKey xs k=none→∀h',h'.DictOfH knd d (storedH xs k a dflt)→Heap.SameBut d s.heap h'→R (.ok (.ret dflt)) {s with heap:=h',toks:=s.toks+knd.draws k})):=
 .of_wp fun A R s ⟨hu,k,xs,hkey,hm,hz,h1,h2⟩=>by
  unfold Builtin.«dict.setdefault» Builtin.Dict.keyAndDefault
  refine wpAny_bind (wpAny_bind (wpAny_notOrdered_dict hm.typeIs ?_))
  show wpAny _ _ (pure (d,Value.ref a,some dflt)) _ _ s
  refine wpAny_pure ?_
  show wpAny _ _ (if (d==sysModules)=true then _ else(dictSetDefault d (.ref a) dflt>>=_)) _ _ s
  rw[if_neg (fun z=>by rw[hd] at z;cases z)]
  exact wpAny_bind (kx_setDefault (hsz:=hz) hu hkey hm (fun p hp=>wpAny_pure ⟨p.2,rfl,h1 p hp⟩) fun hn h' hm' hs'=>wpAny_pure ⟨dflt,rfl,h2 hn h' hm' hs'⟩)
theorem kx_entries {id:String} {d:Addr} {o:Obj} {es:Array DictEntry} {ep:Nat} {Q:Array DictEntry→Shared→Prop} (ho:s.heap.get? d=some o) (hd:o.data= .dict es ep)
  (hT:∀e∈es.toList,∃b,e.key= .ref b∧s.TypeIs (.ref b) "tuple") (hh:∀e∈es.toList,¬(es.filter (·.hash==e.hash)).size>1) (h:Q es s):
  wpAny (model prog w) A (Builtin.Dict.entriesForEmpty id d) Q E s:=by
 unfold Builtin.Dict.entriesForEmpty
 refine wpAny_bind (wpAny_dictEntries ho hd (wpAny_bind ?_))
 rw[←Array.forIn_toList]
 refine wpAny_forIn_list _ (fun rest _ s'=>s'=s∧∀e∈rest,e∈es.toList) _ ?_ ?_ _ _ ⟨rfl,fun e he=>he⟩
 ·rintro e rest b s' ⟨rfl,hr⟩
  obtain⟨q,hk,ht⟩:=hT e (hr e List.mem_cons_self)
  rw[hk]
  unfold Builtin.Dict.quietEq
  refine wpAny_bind (wpAny_bind (wpAny_specialOf ht PySem.F.slot_tuple_eq.lookup (wpAny_pure ?_)))
  rw[if_pos (by decide),if_neg (hh e (hr e List.mem_cons_self))]
  exact wpAny_pure ⟨rfl,fun e' he'=>hr e' (List.mem_cons_of_mem _ he')⟩
 ·rintro b s' ⟨rfl,_⟩
  exact wpAny_pure h
end
theorem filter_one {α:Type} (f:α→Int):∀(l:List α),(l.map f).Nodup→∀x:Int,(l.filter fun e=>f e==x).length≤1
 | [],_,_=>Nat.zero_le _
 |a::l,hn,x=>by
  rw[List.map_cons,List.nodup_cons] at hn
  rw[List.filter_cons]
  split
  ·rename_i e
   have e:f a=x:=eq_of_beq e
   have:l.filter (fun e=>f e==x)= []:=by
    rw[List.filter_eq_nil_iff]
    intro b hb z
    exact hn.1 (List.mem_map.mpr ⟨b,hb,(eq_of_beq z).trans e.symm⟩)
   rw[this];exact Nat.le_refl _
  ·exact filter_one f l hn.2 x
section
variable {prog:Program} {w:World} {K:Type} [DecidableEq K] {knd:KeyKind prog w K} {A:Around} {E:Value→Shared→Prop} {s:Shared}
theorem kx_mergeDict {nm:String} {d o:Addr} {xs:List (List K×Addr×Value)} {Q:Unit→Shared→Prop} (hdo:d≠o) (hoS:(o==sysModules)=false) {od:Obj} {epd:Nat}
  (hod:s.heap.get? d=some od) (hcd:od.ExactDict) (hdd:od.data= .dict #[] epd) (ho:s.heap.DictOfH (tupleKind knd) o xs) (hh:(xs.map fun x=>(tupleKind knd).hash x.1).Nodup) (hsz:xs.length≤sizeLine)
  (hQ:∀h',(∃q es ep,h'.get? d=some q∧q.ExactDict∧q.data= .dict es ep∧es.toList=xs.map (entryOfKey (tupleKind knd))∧(xs.map (·.1)).Nodup)→Heap.SameBut d s.heap h'→Q () {s with heap:=h'}):
  wpAny (model prog w) A (Builtin.Dict.mergeDict nm d o) Q E s:=by
 obtain⟨oo,eso,epo,hoo,hco,hdo',heo,his,hno⟩:=id ho
 have hsize:eso.size=xs.length:=size_of_entries heo
 unfold Builtin.Dict.mergeDict
 rw[if_neg (by simpa using hdo)]
 unfold Builtin.Dict.showsAll
 rw[if_neg (fun z=>by rw[hoS] at z;cases z)]
 refine wpAny_bind (wpAny_pure (wpAny_bind (wpAny_dictEntries hoo hdo' ?_)))
 have hTu:∀e∈eso.toList,∃b,e.key= .ref b∧s.TypeIs (.ref b) "tuple" :=fun e he=>by
  rw[heo] at he
  obtain⟨x,hx,rfl⟩:=List.mem_map.mp he
  exact⟨x.2.1,rfl,IsTupleKey.typeIs (s:=s) (his x hx)⟩
 have hone:∀e∈eso.toList,¬(eso.filter (·.hash==e.hash)).size>1:=fun e _=>by
  have h1:((eso.toList).filter (fun z=>z.hash==e.hash)).length≤1:=filter_one (fun z:DictEntry=>z.hash) eso.toList (by
   rw[heo,List.map_map];exact hh) e.hash
  have h2:(eso.filter (·.hash==e.hash)).size=((eso.toList).filter (fun z=>z.hash==e.hash)).length:=by
   rw[←Array.length_toList,Array.toList_filter]
  omega
 cases xs with
 |nil=>
  have h0:eso= #[]:=by
   have:eso.size=0:=hsize
   exact Array.eq_empty_of_size_eq_zero this
  subst h0
  dsimp only
  rw[if_neg (by simp)]
  refine wpAny_bind (wpAny_dictEpoch hoo hdo' (wpAny_bind (wpAny_dictEntries hoo hdo' (wpAny_bind ?_))))
  rw[Std.Legacy.Range.forIn_eq_forIn_range']
  simp only[Std.Legacy.Range.size,Array.size_empty,Nat.sub_zero,Nat.zero_add,Nat.add_sub_cancel,Nat.div_one]
  exact wpAny_pure (wpAny_pure (hQ _ ⟨od, #[],epd,hod,hcd,hdd,rfl,List.nodup_nil⟩ (Heap.SameBut.refl _ _)))
 |cons x0 xs0=>
  have hnf:(decide (eso.size≤8)&&eso.all fun e=>(keyPart e.key).isSome)=false:=by
   rw[Bool.and_eq_false_iff]
   right
   rw[←Array.all_toList,heo,List.map_cons,List.all_cons]
   rfl
  dsimp only
  rw[if_pos (by rw[hnf];rfl)]
  refine wpAny_bind (wpAny_dictEntries hod hdd ?_)
  rw[if_pos (by rfl)]
  refine wpAny_bind (kx_entries hoo hdo' hTu hone ?_)
  rw[if_pos (by
   cases e:eso.isEmpty with
   |true=>
    have h0:=Array.isEmpty_iff.mp e
    rw[h0] at hsize
    cases hsize
   |false=>rfl)]
  refine wpAny_bind (wpAny_updateDictKeysTo hod hdd (wpAny_pure (hQ _ ⟨_,_,epd+1,Heap.get?_update_self _ hod (Obj.isFreed_of_dict (Obj.data_mapDictKeys hdd _)),hcd.mapDictKeys _,Obj.data_mapDictKeys hdd _,heo,hno⟩ (Heap.SameBut.update ..))) (by omega))
theorem kx_call_dict {o:Addr} {xs:List (List K×Addr×Value)} {Q:Value→Shared→Prop} (hoS:(o==sysModules)=false) (ho:s.heap.DictOfH (tupleKind knd) o xs) (hh:(xs.map fun x=>(tupleKind knd).hash x.1).Nodup) (hsz:xs.length≤sizeLine)
  (h:∀h',(∃q es ep,h'.get? s.heap.objs.size=some q∧q.ExactDict∧q.data= .dict es ep∧es.toList=xs.map (entryOfKey (tupleKind knd))∧(xs.map (·.1)).Nodup)→Heap.SameBut s.heap.objs.size (s.heap.push {cls:= .type "dict",data:= .dict #[]}) h'→Q (.ref s.heap.objs.size) {s with heap:=h'}):
  wpAny (model prog w) A (call (.type "dict") [.ref o]) Q E s:=by
 refine callType_codes (Q₁:=fun obj s₁=>obj= .ref s.heap.objs.size∧s₁={s with heap:=s.heap.push {cls:= .type "dict",data:= .dict #[]}}) F.kt_called_dict (F.kt_typeCall_dict_1 _) F.entry_dict_init (kt_code_dict_new _ ⟨rfl,rfl⟩) ?_
 rintro obj s₁ ⟨rfl,rfl⟩
 have hnew:(s.heap.push {cls:= .type "dict",data:= .dict #[]}).get? s.heap.objs.size=some {cls:= .type "dict",data:= .dict #[]}:=Heap.get?_push_size _ rfl
 have hTn:Shared.TypeIs {s with heap:=s.heap.push {cls:= .type "dict",data:= .dict #[]}} (.ref s.heap.objs.size) "dict" :=⟨_,hnew,rfl⟩
 obtain⟨oo,eso,epo,hoo,hco,hdo',heo,his,hno⟩:=id ho
 have hoo':(s.heap.push {cls:= .type "dict",data:= .dict #[]}).get? o=some oo:=Heap.get?_push_of_some _ hoo
 have ho':(s.heap.push {cls:= .type "dict",data:= .dict #[]}).DictOfH (tupleKind knd) o xs:=⟨oo,eso,epo,hoo',hco,hdo',heo,fun x hx=>by
  obtain⟨q,it,n,e,r⟩:=his x hx
  exact⟨q,it,n,Heap.get?_push_of_some _ e,r⟩,hno⟩
 have hdo:s.heap.objs.size≠o:=fun e=>absurd (Heap.lt_size hoo) (by rw[e];exact Nat.lt_irrefl _)
 refine⟨hTn,F.args_dict_init_2 _ _,?_⟩
 unfold Builtin.«dict.__init__» Builtin.Dict.selfAndRest
 refine wpAny_bind (wpAny_bind (wpAny_notOrdered_dict hTn ?_))
 show wpAny _ _ (pure (s.heap.objs.size,[Value.ref o])) _ _ _
 refine wpAny_pure ?_
 show wpAny _ _ (Builtin.Dict.updateFrom "dict.__init__" s.heap.objs.size (.ref o) [] .none) _ _ _
 unfold Builtin.Dict.updateFrom
 refine wpAny_bind (wpAny_typeOf ho'.typeIs ?_);rw[if_neg (by decide)]
 refine wpAny_bind ?_;unfold Builtin.Dict.merge;refine wpAny_bind ?_;unfold Builtin.Dict.readDirectly
 refine wpAny_bind (wpAny_isInstance ho'.typeIs isSubtype_dict_dict ?_);simp only[Bool.not_true,Bool.false_eq_true,if_false]
 refine wpAny_bind (wpAny_specialOf ho'.typeIs F.slot_dict_iter.lookup (wpAny_pure ?_));simp only[beq_self_eq_true,if_true]
 refine wpAny_bind (wpAny_pure (kx_mergeDict (hsz:=hsz) hdo hoS hnew ⟨rfl,rfl,rfl⟩ rfl ho' hh fun h' hd' hs'=> ?_))
 show wpAny _ _ (Builtin.Dict.addKeywords s.heap.objs.size []>>=_) _ _ _
 exact wpAny_bind (wpAny_pure (wpAny_pure ⟨rfl,h h' hd' hs'⟩))
end
section
variable {prog:Program} {w:World} {A:Around} {E:Value→Shared→Prop} {s:Shared}
theorem kx_meets_items (d:Addr) (hd:(d==sysModules)=false):
  MeetsIn prog w (Builtin.«dict.items» ⟨[.ref d],[]⟩) (fun _ R s=>s.TypeIs (.ref d) "dict" ∧R (.ok (.ret (.ref s.heap.objs.size))) {s with heap:=s.heap.push {cls:= .type "dict_items",data:= .fields #[.ref d]}}):=
 .of_wp fun A R s ⟨hm,h⟩=>by
  unfold Builtin.«dict.items» Builtin.Dict.noArgs
  refine wpAny_bind (wpAny_bind (wpAny_notOrdered_dict hm ?_))
  show wpAny _ _ (pure d) _ _ s
  refine wpAny_pure ?_
  show wpAny _ _ (Builtin.Dict.showsAll d>>=_) _ _ s
  unfold Builtin.Dict.showsAll;rw[if_neg (fun z=>by rw[hd] at z;cases z)]
  exact wpAny_bind (wpAny_pure (wpAny_bind (wpAny_newObj_type (wpAny_pure ⟨_,rfl,h⟩))))
theorem kx_iter_items {v d:Addr} {o:Obj} {es:Array DictEntry} {ep:Nat} {Q:Value→Shared→Prop} (hv:s.heap.IsItemsView v d) (ho:s.heap.get? d=some o) (hdat:o.data= .dict es ep)
  (hQ:Q (.ref s.heap.objs.size) {s with heap:=s.heap.push {cls:= .type "dict_itemiterator",data:= .fields #[.none,.bool false,.ref d,.int 0 0,.int es.size 0,.int ep 0,.none,.none]}}):
  wpAny (model prog w) A (pyIter (.ref v)) Q E s:=by
 obtain⟨ov,hov,hcv,hdv⟩:=id hv
 refine wpAny_pyIter_slot hv.typeIs F.slot_dict_items_iter (wpAny_call_entry F.slot_dict_items_iter hv.typeIs F.entry_dict_items_iter ?_ (F.args_dict_items_iter_1 _))
 unfold Builtin.«dict_items.__iter__»;refine wpAny_bind (wpAny_pure (wpAny_bind ?_))
 unfold Builtin.Dict_items.dictOf;refine wpAny_bind (wpAny_field hov hdv (x:= .ref d) rfl (wpAny_pure (wpAny_bind ?_)))
 unfold Builtin.Dict_items.newIterator;refine wpAny_bind (wpAny_dictEntries ho hdat (wpAny_bind (wpAny_dictEpoch ho hdat ?_)))
 simp only[show Builtin.Dict_items.ownsTuple "dict_itemiterator" =true from by decide,if_true]
 refine wpAny_newObj_type (wpAny_pure ⟨_,rfl,"dict_itemiterator",_,⟨_,Heap.get?_push_size _ rfl,rfl⟩,F.slot_dict_itemiterator_next.lookup,?_⟩)
  (by simp only[sizeOk,Builtin.Dict_items.ownedTupleFields,List.size_toArray,List.length_append,List.length_cons,List.length_nil,sizeLine_eq];omega)
 simpa [rawInt,Builtin.Dict_items.ownedTupleFields] using hQ
theorem kx_next_item {it d:Addr} {i n ep:Nat} {ok ov:Value} {od:Obj} {es:Array DictEntry} {en:DictEntry} {Q:Option Value→Shared→Prop} (hit:IsItemIter s.heap it d i n ep ok ov) (hod:s.heap.get? d=some od) (hdd:od.data= .dict es ep)
  (hsz:es.size=n) (hx:es[i]?=some en)
  (hQ:∀h',IsItemIterOut h' it d (i+1) n ep en.key en.val s.heap.objs.size→h'.get? s.heap.objs.size=some {cls:= .type "tuple",data:= .seq #[en.key,en.val]}→h'.objs.size=s.heap.objs.size+1→
   (∀b o,b≠it→s.heap.get? b=some o→h'.get? b=some o)→Q (some (.ref s.heap.objs.size)) {s with heap:=h'}):
  wpAny (model prog w) A (pyNext (.ref it)) Q E s:=by
 obtain⟨hp,g,dr,tk,os⟩:=s
 have hT:Shared.TypeIs ⟨hp,g,dr,tk,os⟩ (.ref it) "dict_itemiterator" :=⟨_,hit,rfl⟩
 unfold pyNext
 refine wpAny_bind (wpAny_attempt (wpAny_callSpecial?_slot (name:=Str.ofString "__next__") hT F.slot_dict_itemiterator_next (wpAny_call_entry F.slot_dict_itemiterator_next hT F.entry_dict_itemiterator_next ?_ (F.args_dict_itemiterator_next_1 _))))
 refine wpAny_bind (wpAny_pure (wpAny_bind (wpAny_bind ?_)))
 (first|refine wpAny_bind (wpAny_typeNameOfWhole_itemiter hT (wpAny_pure ?_))|refine wpAny_bind (wpAny_typeNameOf_itemiter hT (wpAny_pure ?_)));refine wpAny_bind (wpAny_fieldsOf hit rfl ?_)
 simp only[show Builtin.Dict_items.ownsTuple "dict_itemiterator" =true from by decide,if_true]
 show wpAny _ _ (if (Value.ref d==Value.none)=true then _ else _) _ _ _
 rw[if_neg (show¬((Value.ref d==Value.none)=true) from Bool.false_ne_true)];refine wpAny_bind (wpAny_pure (wpAny_bind (wpAny_dictEntries hod hdd ?_)))
 rw[if_neg (by rw[hsz];simp)];refine wpAny_bind (wpAny_pure (wpAny_bind (wpAny_dictEpoch hod hdd ?_)))
 rw[if_neg (by simp)];refine wpAny_pure ?_
 obtain⟨hlt',hen⟩:=Array.getElem?_eq_some_iff.mp hx
 simp only[show¬((i:Int)<0) from by omega,if_false,Int.toNat_natCast,Array.getElem?_eq_getElem hlt',hen]
 refine wpAny_bind ?_
 (first|refine wpAny_bind (wpAny_typeNameOfWhole_itemiter hT (wpAny_pure ?_))|refine wpAny_bind (wpAny_typeNameOf_itemiter hT (wpAny_pure ?_)));refine wpAny_bind (wpAny_isOneOf_itemiter hT ?_)
 show wpAny _ _ (setField (.ref it) 3 (rawInt ((i:Int)+1))>>=_) _ _ ⟨hp,g,dr,tk,os⟩
 refine wpAny_bind (wpAny_setField_rec hit (by simp) fun h1 he1 hs1=> ?_)
 replace hs1:Heap.SameBut it hp h1:=hs1
 replace he1:IsItemIter h1 it d (i+1) n ep ok ov:=by
  have e:((i+1:Nat):Int)=(i:Int)+1:=by omega
  unfold IsItemIter;rw[e];simpa [rawInt] using he1
 have hT1:Shared.TypeIs ⟨h1,g,dr,tk,os⟩ (.ref it) "dict_itemiterator" :=⟨_,he1,rfl⟩
 refine wpAny_bind (wpAny_holding (wpAny_bind (wpAny_isOneOf_itemiter hT1 (wpAny_bind (wpAny_isOneOf_itemiter hT1 ?_)))))
 show wpAny _ _ (Builtin.Dict_items.pairFromOwner (.ref it) 6 en.key en.val) _ _ ⟨h1,g,dr,tk,os⟩
 unfold Builtin.Dict_items.pairFromOwner;refine wpAny_bind (wpAny_newTuple ?_)
 have he2:IsItemIter (h1.push {cls:= .type "tuple",data:= .seq #[en.key,en.val]}) it d (i+1) n ep ok ov:=Heap.get?_push_of_some _ he1
 generalize hh2:h1.push {cls:= .type "tuple",data:= .seq #[en.key,en.val]}=h2 at he2
 have hz1:h1.objs.size=hp.objs.size:=hs1.1
 have hil:it<hp.objs.size:=Heap.lt_size hit
 have ht2:h2.get? hp.objs.size=some {cls:= .type "tuple",data:= .seq #[en.key,en.val]}:=by rw[←hh2,←hz1];exact Heap.get?_push_size _ rfl
 have hz2:h2.objs.size=hp.objs.size+1:=by rw[←hh2,Heap.size_push,hz1]
 have hk2:∀b o,b≠it→hp.get? b=some o→h2.get? b=some o:=fun b o hb e=>by rw[←hh2];exact Heap.get?_push_of_some _ (hs1.extBut b o hb e)
 show wpAny _ _ (Builtin.Dict_items.ownedTupleIsFree (.ref it)>>=_) _ _ ⟨h2,g,dr,tk,os⟩
 rw[hz1];clear hh2 he1 hs1 hT1 hz1 h1;refine wpAny_bind ?_
 unfold Builtin.Dict_items.ownedTupleIsFree;refine wpAny_bind (wpAny_field he2 rfl (x:= .none) rfl (wpAny_pure ?_));simp only[if_true]
 refine wpAny_bind (wpAny_field he2 rfl (x:=ok) rfl (wpAny_bind (wpAny_field he2 rfl (x:=ov) rfl (wpAny_bind (wpAny_setField_rec he2 (by simp) fun h3 he3 hs3=> ?_)))))
 replace hs3:Heap.SameBut it h2 h3:=hs3
 replace he3:IsItemIter h3 it d (i+1) n ep en.key ov:=he3
 refine wpAny_bind (wpAny_setField_rec he3 (by simp) fun h4 he4 hs4=> ?_)
 replace hs4:Heap.SameBut it h3 h4:=hs4
 replace he4:IsItemIter h4 it d (i+1) n ep en.key en.val:=he4
 refine wpAny_bind (wpAny_setField_rec he4 (by simp) fun h5 he5 hs5=> ?_)
 replace hs5:Heap.SameBut it h4 h5:=hs5
 replace he5:IsItemIterOut h5 it d (i+1) n ep en.key en.val hp.objs.size:=he5
 refine wpAny_bind (wpAny_setField_rec he5 (by simp) fun h6 he6 hs6=> ?_)
 replace hs6:Heap.SameBut it h5 h6:=hs6
 replace he6:IsItemIterOut h6 it d (i+1) n ep en.key en.val hp.objs.size:=he6
 refine wpAny_bind (wpAny_letGo (wpAny_pure (wpAny_pure ⟨_,rfl,wpAny_pure (hQ h6 he6 ?_ ?_ ?_)⟩)))
 ·exact hs6.extBut _ _ (Nat.ne_of_gt hil) (hs5.extBut _ _ (Nat.ne_of_gt hil) (hs4.extBut _ _ (Nat.ne_of_gt hil) (hs3.extBut _ _ (Nat.ne_of_gt hil) ht2)))
 ·show h6.objs.size=hp.objs.size+1;rw[hs6.1,hs5.1,hs4.1,hs3.1,hz2]
 ·exact fun b o hb e=>hs6.extBut b o hb (hs5.extBut b o hb (hs4.extBut b o hb (hs3.extBut b o hb (hk2 b o hb e))))
theorem kx_next_end {it d:Addr} {i n ep:Nat} {ok ov:Value} {od:Obj} {es:Array DictEntry} {Q:Option Value→Shared→Prop} (hh:A.handled=none) (hit:IsItemIter s.heap it d i n ep ok ov)
  (hod:s.heap.get? d=some od) (hdd:od.data= .dict es ep) (hsz:es.size=n) (hge:n≤i)
  (hQ:∀h',Heap.ExtBut it s.heap h'→Q none {s with heap:=h'}):wpAny (model prog w) A (pyNext (.ref it)) Q E s:=by
 have hT:s.TypeIs (.ref it) "dict_itemiterator" :=⟨_,hit,rfl⟩
 unfold pyNext
 refine wpAny_bind (wpAny_attempt (wpAny_callSpecial?_slot (name:=Str.ofString "__next__") hT F.slot_dict_itemiterator_next (wpAny_call_entry F.slot_dict_itemiterator_next hT F.entry_dict_itemiterator_next ?_ (F.args_dict_itemiterator_next_1 _))))
 refine wpAny_bind (wpAny_pure (wpAny_bind (wpAny_bind ?_)))
 (first|refine wpAny_bind (wpAny_typeNameOfWhole_itemiter hT (wpAny_pure ?_))|refine wpAny_bind (wpAny_typeNameOf_itemiter hT (wpAny_pure ?_)));refine wpAny_bind (wpAny_fieldsOf hit rfl ?_)
 simp only[show Builtin.Dict_items.ownsTuple "dict_itemiterator" =true from by decide,if_true]
 show wpAny _ _ (if (Value.ref d==Value.none)=true then _ else _) _ _ s
 rw[if_neg (show¬((Value.ref d==Value.none)=true) from Bool.false_ne_true)];refine wpAny_bind (wpAny_pure (wpAny_bind (wpAny_dictEntries hod hdd ?_)))
 rw[if_neg (by rw[hsz];simp)];refine wpAny_bind (wpAny_pure (wpAny_bind (wpAny_dictEpoch hod hdd ?_)))
 rw[if_neg (by simp)];refine wpAny_pure ?_
 simp only[show¬((i:Int)<0) from by omega,if_false,Int.toNat_natCast,Array.getElem?_eq_none (show es.size≤i by omega)];refine wpAny_bind ?_
 first|refine wpAny_bind (wpAny_typeNameOfWhole_itemiter hT (wpAny_pure ?_))|refine wpAny_bind (wpAny_typeNameOf_itemiter hT (wpAny_pure ?_))
 show wpAny _ _ (setField (.ref it) 2 .none>>=_) _ _ s
 refine wpAny_bind (wpAny_setField hit rfl (by simp) ?_)
 show wpAny _ _ (newExc (.type "StopIteration") []>>=_) _ _ _
 refine wpAny_bind ?_;simp only[newExc,newTuple];refine wpAny_bind (wpAny_newObj_type ?_ (by size_fits))
 refine wpAny_bind (m:=firstArgMember _ _) (wpAny_of_eq (a:=Value.none) (by first|rfl|(simp only[firstArgMember];rfl)) (wpAny_newObj_type ?_ (by size_fits)))
 simp only[raiseNew];refine wpAny_bind (wpAny_handled ?_);rw[show A.in1.handled=none from hh]
 refine wpAny_bind (wpAny_pure (wpAny_throw ?_));refine wpAny_bind (wpAny_isInstance (T:= "StopIteration") (b:=true) ⟨_,Heap.get?_push_size _ rfl,rfl⟩ isSubtype_stop ?_)
 exact wpAny_pure (hQ _ (((Heap.SameBut.update ..).extBut.push _).push _))
end
end PySem
end
section
namespace L2
open PySem PySem.Spec PyProof.Rows
def Ent (H:Hp) (a:Addr) (ns:List Int):Prop:=∃(s u v:Int) (p:Addr) (r:List Int),H a=some (.tup (.int s:: .ref p::r.map V.int))∧H p=some (.tup [.int u,.int v])∧ns=s::u::v::r
section
variable {X:Cx} {pins:List (Addr×Obj)} {σ:St} {H:Hp} {s:Shared}
theorem Inv.pr {p:Addr} {u v:Int} (I:Inv X pins σ H s) (h:H p=some (.tup [.int u,.int v])):HT.IsPr s.heap p u v:=by
 obtain⟨its,r,q,_⟩:=I.tuple (SqT.of h)
 obtain⟨t,t',rfl⟩:=Vals.int2 r
 exact⟨t,t',q⟩
theorem it2_ints {h:Heap}:∀{r r':List Int} {us ws:List Value},r.length=r'.length→Vals (r.map V.int) us→Vals (r'.map V.int) ws→HT.It2 h us ws r r'
 | [],[],_,_,_,.nil,.nil=> .nil
 |a::r,c::r',_,_,hl,.cons q t,.cons q' t'=>by
  obtain⟨k,rfl⟩:=q
  obtain⟨k',rfl⟩:=q'
  exact .int a k c k' (it2_ints (by simpa using hl) t t')
theorem op_ltN (hu:X.A.units+1<cLine):OpR X (compareOp .Lt) (fun x y H Q=>∃a b ns ms,x= .ref a∧y= .ref b∧Ent H a ns∧Ent H b ms∧ns.length=ms.length∧Q (.bl (HT.lexLt ns ms)) H):=by
 intro pins s σ H x y v u Q I rx ry h
 obtain⟨a,b,ns,ms,rfl,rfl,⟨s1,u1,v1,p1,r1,ha,hp,rfl⟩,⟨s2,u2,v2,p2,r2,hb,hq,rfl⟩,hl,q⟩:=h
 cases rx
 cases ry
 obtain⟨its,R1,P1,_⟩:=I.tuple (SqT.of ha)
 obtain⟨its2,R2,P2,_⟩:=I.tuple (SqT.of hb)
 refine HT.lt_tupNest P1 P2 ?_ hu ⟨.bl (HT.lexLt _ _),H,I,rfl,q⟩
 cases R1 with
 |cons x1 R1=>
  cases R1 with
  |cons x2 R1=>
   cases R2 with
   |cons y1 R2=>
    cases R2 with
    |cons y2 R2=>
     obtain⟨t1,rfl⟩:=x1
     obtain⟨t2,rfl⟩:=y1
     cases x2
     cases y2
     exact .int _ _ _ _ (.tup _ _ _ _ _ _ (I.pr hp) (I.pr hq) (it2_ints (by simpa using hl) R1 R2))
end
def DSd (H:Hp) (a:Addr) (y d:V) (Q:VK):Prop:=
 (∃kvs k,H a=some (.dK kvs)∧y=kV k∧kvs.length<sizeLine∧(∀v,valV kvs k=some v→Q v H)∧(valV kvs k=none→Q d (upd H a (.dK (putK kvs k d)))))∨
 ∃kvs k b,H a=some (.dT kvs)∧y= .ref b∧H b=some (.tup (k.map kV))∧kvs.length<sizeLine∧(∀v,valV kvs k=some v→Q v H)∧(valV kvs k=none→Q d (upd H a (.dT (putK kvs k d))))
section
variable {X:Cx} {pins:List (Addr×Obj)} {σ:St} {H:Hp} {s:Shared} {a:Addr} {y d:V} {u r:Value} {A:Around} {E:Value→Shared→Prop}
theorem d_setdef {Q:VK} (hu:A.units+1<cLine) (I:Inv X pins σ H s) (g:DSd H a y d Q) (ry:RelV y u) (rd:RelV d r):
  wpAny (model X.prog X.w) A (call (.builtin "dict.setdefault") [.ref a,u,r]) (EP X pins σ Q) E s:=by
 rcases g with ⟨kvs,k,e,ey,l,q1,q2⟩|⟨kvs,k,b,e,ey,eb,l,q1,q2⟩
 ·subst ey
  obtain⟨z,hd,vs,rel,dd⟩:=dk_of I.hok e
  have hz:vs.length≤sizeLine:=by rw[←rel.length];exact z
  have hl:(putK kvs k d).length≤sizeLine:=by have:=length_putK kvs k d;omega
  have hv:=rel.val k
  refine call_meetsIn PySem.F.slot_dict_setdefault dd.typeIs PySem.F.entry_dict_setdefault (PySem.F.args_dict_setdefault_3 _ _ _) (kt_meets_setdefault (mixKind X.prog X.w) a (kV_is ry) hd r) ⟨vs,dd,hz,fun w' hw=> ?_,fun hn h' dd' hs=> ?_⟩
  ·rw[hw] at hv
   cases ev:valV kvs k with
   |none=>rw[ev] at hv;exact hv.elim
   |some v=>rw[ev] at hv;exact⟨v,H,I.tok _,hv,q1 v ev⟩
  ·rw[hn] at hv
   cases ev:valV kvs k with
   |some v=>rw[ev] at hv;exact hv.elim
   |none=>
    have he:∃q,h'.get? a=some q:=let ⟨q,_,_,hq,_⟩:=dd';⟨q,hq⟩
    exact⟨d,_,d_write I (by rw[e];exact True.intro) hs he (dk_new hl hd (rel.put k rd) dd'),rd,q2 ev⟩
 ·subst ey
  cases (show u=Value.ref b from ry)
  obtain⟨z,hd,xs,rel,dd⟩:=dt_of I.hok e
  have hz:xs.length≤sizeLine:=by rw[←Paired.length rel];exact z
  have hl:(putK kvs k d).length≤sizeLine:=by have:=length_putK kvs k d;omega
  have hv:=rel.val k
  refine call_meetsIn PySem.F.slot_dict_setdefault dd.typeIs PySem.F.entry_dict_setdefault (PySem.F.args_dict_setdefault_3 _ _ _) (kx_meets_setdefault (knd:=tupleKind (mixKind X.prog X.w)) a b hd r)
   ⟨tupleKind_room_in1 hu,k,xs,key_of I.hok eb,dd,hz,fun p hp=> ?_,fun hn h' dd' hs=> ?_⟩
  ·rw[hp] at hv
   cases ev:valV kvs k with
   |none=>rw[ev] at hv;exact hv.elim
   |some v=>rw[ev] at hv;exact⟨v,H,I.tok _,hv,q1 v ev⟩
  ·rw[hn] at hv
   cases ev:valV kvs k with
   |some v=>rw[ev] at hv;exact hv.elim
   |none=>
    obtain⟨q,es,ep,hq,h2,h3,h4,_,h5⟩:=dd'
    have new:ObjOk X.prog X.w (upd H a (.dT (putK kvs k d))) h' a (.dT (putK kvs k d)):=by
     refine⟨hl,hd,_,(rel.put k eb rd).keeps fun c ys ec=> ?_,q,es,ep,hq,h2,h3,h4,h5⟩
     rw[upd_ne (ne_of ec e (fun z=>nomatch z))]
     exact ec
    exact⟨d,_,d_write I (by rw[e];exact True.intro) hs ⟨q,hq⟩ new,rd,q2 ev⟩
end
def tDSd (td ty tx:TE):TE:=fun σ H Q=>td σ H fun x H1=>∃a,x= .ref a∧IsD H1 a∧ty σ H1 fun y H2=>tx σ H2 fun z H3=>DSd H3 a y z Q
section
variable {X:Cx} {o e f:Expr} {apos cpos:Pos} {td ty tx:TE}
theorem pe_dsetdefault2 (hu:X.A.units+1<cLine) (ho:PE X o td) (he:PE X e ty) (hf:PE X f tx) (m:M2 X o "setdefault" apos e f cpos):PE X (.Call (.Attribute o "setdefault" apos) [e,f] [] cpos) (tDSd td ty tx):=by
 intro pins s σ H Q I h
 refine wpAny_Call_method m.base m.few m.line PySem.F.plainAttrs_dict PySem.F.slot_dict_setdefault PySem.F.type_dict_setdefault (thn (ho pins s σ H _ I h) fun u s1 ⟨x,H1,I1,rx,a,ex,d,q1⟩=> ?_)
 subst ex
 obtain rfl:u=Value.ref a:=rx
 obtain⟨t1,t2,_⟩:=isD_at I1 d
 refine⟨t1,t2,?_⟩
 rw[m.trees]
 refine Calls.callWith_builtin rfl (Calls.evalArgs_plain (Calls.spliced_cons (thn (he pins s1 σ H1 _ I1 q1) fun iv s2 ⟨y,H2,I2,ry,q2⟩=>
  Calls.spliced_cons (thn (hf pins s2 σ H2 _ I2 q2) fun fv s3 ⟨z,H3,I3,rz,g⟩=>Calls.spliced_nil ?_))))
 exact d_setdef hu I3 g ry rz
end
noncomputable def plK (k:KA.Pl):List Key:= [Sum.inl (k.1:Int),Sum.inl (k.2:Int)]
theorem plK_inj {a b:KA.Pl} (e:plK a=plK b):a=b:=by
 unfold plK at e
 injection e with e1 e2
 injection e2 with e2 _
 have e1:(a.1:Int)=b.1:=Sum.inl.inj e1
 have e2:(a.2:Int)=b.2:=Sum.inl.inj e2
 obtain⟨a1,a2⟩:=a
 obtain⟨b1,b2⟩:=b
 simp only at e1 e2
 rw[show a1=b1 by omega,show a2=b2 by omega]
noncomputable def plHash (k:KA.Pl):Int:=reduceHash (Builtin.Tuple.tupleHashOf [hashInt (k.1:Int),hashInt (k.2:Int)])
noncomputable def allPl:List KA.Pl:=(List.range 128).map fun c=>(c/4,c%4)
theorem hashes_nd:(allPl.map plHash).Nodup:=by decide +kernel
theorem mem_allPl {k:KA.Pl} (h:KA.InP k):k∈allPl:=List.mem_map.mpr ⟨k.1*4+k.2,List.mem_range.mpr (KA.code_lt h),by
 unfold KA.InP at h
 obtain⟨a,b⟩:=k
 simp only at h⊢
 rw[show (a*4+b)/4=a by omega,show (a*4+b)%4=b by omega]⟩
theorem nd_map_inj {α β:Type} {f:α→β}:∀{l:List α},(l.map f).Nodup→∀{a b:α},a∈l→b∈l→f a=f b→a=b
 | [],_,_,_,ha,_,_=>by cases ha
 |x::l,hn,a,b,ha,hb,e=>by
  rw[List.map_cons,List.nodup_cons] at hn
  rcases List.mem_cons.mp ha with ea|ha
  ·rcases List.mem_cons.mp hb with eb|hb
   ·rw[ea,eb]
   ·exact absurd (List.mem_map.mpr ⟨b,hb,by rw[←e,ea]⟩) hn.1
  ·rcases List.mem_cons.mp hb with eb|hb
   ·exact absurd (List.mem_map.mpr ⟨a,ha,by rw[e,eb]⟩) hn.1
   ·exact nd_map_inj hn.2 ha hb e
theorem nd_map_of {α β:Type} {f:α→β}:∀{l:List α},l.Nodup→(∀a∈l,∀b∈l,f a=f b→a=b)→(l.map f).Nodup
 | [],_,_=>List.nodup_nil
 |x::l,hn,h=>by
  rw[List.nodup_cons] at hn
  rw[List.map_cons,List.nodup_cons]
  refine⟨fun m=> ?_,nd_map_of hn.2 fun a ha b hb=>h a (List.mem_cons_of_mem _ ha) b (List.mem_cons_of_mem _ hb)⟩
  obtain⟨y,hy,e⟩:=List.mem_map.mp m
  exact hn.1 (h y (List.mem_cons_of_mem _ hy) x List.mem_cons_self e▸hy)
section
variable {X:Cx}
theorem call_dictT:CallR X (.type "dict") (fun xs H Q=>∃(a:Addr) (kvs:List (List Key×V)),xs= [.ref a]∧Rd H a (.dT kvs)∧(∀p∈kvs,∃k,KA.InP k∧p.1=plK k)∧∀p,H p=none→Q (.ref p) (upd H p (.dT kvs))):=by
 intro pins s σ H xs us Q I r h
 obtain⟨a,kvs,rfl,ha,hk,q⟩:=h
 obtain⟨u,rfl,ru⟩:=vals1 r
 cases ru
 obtain⟨z,hd,ws,rel,dd⟩:=dt_rd I.hok ha
 have hz:ws.length≤sizeLine:=by rw[←Paired.length rel];exact z
 have keys:∀{l:List (List Key×V)} {m:List (List Key×Addr×Value)},KT H l m→(∀p∈l,∃k,KA.InP k∧p.1=plK k)→∀x∈m,∃k,KA.InP k∧x.1=plK k:=by
  intro l m q
  induction q with
  |nil=>intro _ x hx;exact nomatch hx
  | @cons p q ps qs hq t ih=>
   intro hk x hx
   rcases List.mem_cons.mp hx with e|hx
   ·subst e
    rw[←hq.1]
    exact hk _ List.mem_cons_self
   ·exact ih (fun p hp=>hk p (List.mem_cons_of_mem _ hp)) x hx
 have hws:=keys rel hk
 have hnd:(ws.map (·.1)).Nodup:=let ⟨_,_,_,_,_,_,_,_,hn⟩:=dd;hn
 have hash_eq:∀k:KA.Pl,(tupleKind (mixKind X.prog X.w)).hash (plK k)=plHash k:=fun k=>rfl
 have hh:(ws.map fun x=>(tupleKind (mixKind X.prog X.w)).hash x.1).Nodup:=by
  have:(ws.map fun x=>(tupleKind (mixKind X.prog X.w)).hash x.1)=(ws.map (·.1)).map (tupleKind (mixKind X.prog X.w)).hash:=by rw[List.map_map];rfl
  rw[this]
  refine nd_map_of hnd fun x hx y hy e=> ?_
  obtain⟨x',hx',rfl⟩:=List.mem_map.mp hx
  obtain⟨y',hy',rfl⟩:=List.mem_map.mp hy
  obtain⟨k,hk1,e1⟩:=hws x' hx'
  obtain⟨j,hj1,e2⟩:=hws y' hy'
  rw[e1,e2] at e⊢
  rw[hash_eq,hash_eq] at e
  rw[nd_map_inj hashes_nd (mem_allPl hk1) (mem_allPl hj1) e]
 refine kx_call_dict hd dd hh hz fun h' hd' hs=> ?_
 have fr:=I.hok.fresh (Nat.le_refl s.heap.objs.size)
 refine⟨.ref s.heap.objs.size,_,I.laid (a:=s.heap.objs.size) (o:= .dT kvs) (t':=s.toks) (fun b ob hq=> ?_) (Nat.le_refl _) ⟨z,beq_eq_false_iff_ne.mpr (Ne.symm (Nat.ne_of_lt I.big)),ws,rel.keeps fun b ys e=> ?_,?_⟩,rfl,q _ fr⟩
 ·exact(hs.2 b (Nat.ne_of_lt (Heap.lt_size hq))).trans (Heap.get?_push_of_some _ hq)
 ·rw[upd_ne (ne_of_none e fr)];exact e
 ·obtain⟨q',es,ep,r⟩:=hd'
  exact⟨q',es,ep,r⟩
end
end L2
end
section
namespace L2
open PySem PySem.Spec PyProof.Rows
section
variable {X:Cx} {pins:List (Addr×Obj)} {σ:St} {H:Hp} {s:Shared} {d:Addr} {o:Obj}
theorem Inv.frzU {kvs:List (List Key×V)} (I:Inv X pins σ H s) (h:H d=some (.frz o (.dT kvs))):
  (d==sysModules)=false∧s.heap.get? d=some o∧o.ExactDict∧∃(es:Array DictEntry) (ep:Nat),o.data= .dict es ep∧es.size=kvs.length∧
   ∀(i:Nat) (k:List Key) (v:V),kvs[i]?=some (k,v)→∃(en:DictEntry) (q:Addr),es[i]?=some en∧en.key= .ref q∧H q=some (.tup (k.map kV))∧RelV v en.val:=by
 obtain⟨hd,z,hs,xs,pr,o',es,ep,ho,hx,hdt,he,_⟩:=I.hok d _ h
 rw[hd] at ho
 cases ho
 refine⟨hs,hd,hx,es,ep,hdt,?_,fun i k v e=> ?_⟩
 ·have l1:es.size=xs.length:=size_of_entries he
  have l2:kvs.length=xs.length:=Paired.length pr
  omega
 ·obtain⟨b,hb,e1,e2,e3⟩:=paired_get pr e
  have q:=entry_at he i
  rw[hb] at q
  exact⟨_,b.2.1,q,rfl,e2,e3⟩
end
noncomputable def Itit (d:Addr) (o:Obj) (kvs:List (List Key×V)):It:=
 ⟨fun i H=>H d=some (.frz o (.dT kvs))∧i<kvs.length,fun i H x H'=>∃T k v q,kvs[i]?=some (k,v)∧x= .ref T∧H T=none∧H q=some (.tup (k.map kV))∧H'=upd H T (.tup [.ref q,v]),fun i H=>H d=some (.frz o (.dT kvs))∧kvs.length≤i⟩
section
variable {P:Program} {w:World} {K:PySem.W.Frag} {tg:Expr} {d:Addr} {o:Obj} {es:Array DictEntry} {ep:Nat}
theorem turn_itemsT {kvs:List (List Key×V)} {elts:List Expr} {kk:Nat} {tpos:Pos} (it:Addr) (hod:o.data= .dict es ep):
  Turn P w K (.Tuple elts kk tpos) (Itit d o kvs) [it] it (fun i h=>∃ok ov,IsItemIter h it d i kvs.length ep ok ov) where
 mem:=by simp
 obj:=fun i h st b hb=>by
  have e:b=it:=by simpa using hb
  subst e
  obtain⟨ok,ov,e⟩:=st
  exact⟨_,e,fun v z=>nomatch z⟩
 keep:=fun i h h' st k=>let ⟨ok,ov,e⟩:=st;⟨ok,ov,k it (by simp) _ e⟩
 item:=by
  intro X hP hw hK hc i pins s σ H E I hf st hg
  subst hP hw hK
  obtain⟨hd,hi⟩:=hg
  obtain⟨hs,hgd,hx,es',ep',hdt,hsz,ent⟩:=I.frzU hd
  obtain⟨rfl,rfl⟩:=dict_ep hod hdt
  obtain⟨⟨k,v⟩,hkv⟩:∃p,kvs[i]?=some p:=⟨kvs[i],List.getElem?_eq_getElem hi⟩
  obtain⟨en,q,hen,hkey,hq,hv⟩:=ent i k v hkv
  obtain⟨ok,ov,he⟩:=st
  have hlt:it<s.heap.objs.size:=Heap.lt_size he
  refine kx_next_item he hgd hdt hsz hen fun h' ho hT hz hk=> ?_
  refine⟨_,rfl,wpAny_letOwnedTupleGo_items (s:={s with heap:=h'}) ho fun h'' he' sb=> ?_⟩
  have hT2:h''.get? s.heap.objs.size=some {cls:= .type "tuple",data:= .seq #[en.key,en.val]}:=(sb.2 _ (Nat.ne_of_gt hlt)).trans hT
  have new:ObjOk X.prog X.w (upd H s.heap.objs.size (.tup [.ref q,v])) h'' s.heap.objs.size (.tup [.ref q,v]):=
   ⟨by show 2≤sizeLine;decide,[en.key,en.val],.cons hkey (.cons hv .nil),⟨_,hT2,rfl,_,rfl⟩⟩
  have I1:Inv X pins σ (upd H s.heap.objs.size (.tup [.ref q,v])) {s with heap:=h''}:=
   I.turnedNew (t':=s.toks) (ch:= [it]) (fun b ob hb e=>(sb.2 b (by simpa using hb)).trans (hk b ob (by simpa using hb) e)) hf (Nat.le_refl _) new
  refine⟨.ref s.heap.objs.size,_,I1,rfl,⟨_,k,v,q,hkv,rfl,I.hok.fresh (Nat.le_refl _),hq,rfl⟩,⟨en.key,en.val,he'⟩,fun b hb=> ?_⟩
  have e:b=it:=by simpa using hb
  rw[e,upd_ne (Nat.ne_of_lt hlt)]
  exact(hf it (by simp)).1
 done:=by
  intro X hP hw hK hc i pins s σ H E I hf st hg
  subst hP hw hK
  obtain⟨hd,hi⟩:=hg
  obtain⟨f0,f1,f2,f3,f4,f5⟩:=hf it (by simp)
  obtain⟨hs,hgd,hx,es',ep',hdt,hsz,ent⟩:=I.frzU hd
  obtain⟨rfl,rfl⟩:=dict_ep hod hdt
  obtain⟨ok,ov,he⟩:=st
  exact kx_next_end (I.ok.hd hc) he hgd hdt hsz hi fun h' eb=>⟨rfl,I.turned (t':=s.toks) (fun b ob hb e=>eb b ob hb e) f0 f1 f3 f4 f5⟩
 self:=fun A i s Q E st h=>let ⟨_,_,e⟩:=st;PySem.W.kcp_self e h
end
def iItemsL (td:TE):TI:=fun σ H R=>td σ H fun x H1=>∃d kvs,x= .ref d∧((∃o,H1 d=some (.frz o (.dK kvs))∧R (Iti d o kvs) H1)∨(H1 d=some (.dK kvs)∧∀od,R (Iti d od kvs) (upd H1 d (.frz od (.dK kvs)))))
def iItemsT (td:TE):TI:=fun σ H R=>td σ H fun x H1=>∃d kvs,x= .ref d∧((∃o,H1 d=some (.frz o (.dT kvs))∧R (Itit d o kvs) H1)∨(H1 d=some (.dT kvs)∧∀od,R (Itit d od kvs) (upd H1 d (.frz od (.dT kvs)))))
def iKeysL (td:TE):TI:=fun σ H R=>td σ H fun x H1=>∃d kvs,x= .ref d∧((∃o,H1 d=some (.frz o (.dT kvs))∧R (Itkt d o kvs) H1)∨(H1 d=some (.dT kvs)∧∀od,R (Itkt d od kvs) (upd H1 d (.frz od (.dT kvs)))))
section
variable {X:Cx} {tg e:Expr} {td:TE} {apos cpos:Pos}
theorem lock_it {pins:List (Addr×Obj)} {σ:St} {H1:Hp} {s1:Shared} {d:Addr} {u:HO} {J:Obj→It} {R:It→Hp→Prop} (I:Inv X pins σ H1 s1) (mu:Mut (some u))
  (q:(∃o,H1 d=some (.frz o u)∧R (J o) H1)∨(H1 d=some u∧∀od,R (J od) (upd H1 d (.frz od u)))):∃o H2,Inv X pins σ H2 s1∧H2 d=some (.frz o u)∧R (J o) H2:=by
 rcases q with ⟨o,h,q⟩|⟨h,q⟩
 ·exact⟨o,H1,I,h,q⟩
 ·obtain⟨od,I2⟩:=I.lock h mu
  exact⟨od,_,I2,upd_same,q od⟩
theorem pi_keysL (he:PE X e td):PI X tg e (iKeysL td):=by
 intro pins s σ H R I h
 refine thn (he pins s σ H _ I h) fun u s1 ⟨x,H0,I0,rx,d,kvs,ex,q⟩=> ?_
 subst ex
 obtain rfl:u=Value.ref d:=rx
 obtain⟨o,H1,I1,hd,q⟩:=lock_it (u:= .dT kvs) (J:=fun o=>Itkt d o kvs) (R:=R) I0 trivial q
 obtain⟨hs,hgd,hx,es,ep,hdt,hsz,ent⟩:=I1.frzT hd
 refine iter_keys hs hgd hx hdt (pi_one (tk:=s1.toks) I1 _ (turn_keysT _ hdt) ⟨_,Heap.get?_push_size _ rfl,rfl,?_⟩ q)
 rw[hsz]<;>rfl
theorem pi_itemsL {elts:List Expr} {kk:Nat} {tpos:Pos} (he:PE X e td) (hbase:attributeBase e "items" X.env (eval e X.env)=eval e X.env:=by rfl) (hline:(apos.endLine==cpos.line)=true:=by rfl):
  PI X (.Tuple elts kk tpos) (.Call (.Attribute e "items" apos) [] [] cpos) (iItemsL td):=by
 intro pins s σ H R I h
 refine wpAny_Call_method (T:= "dict") (id:= "dict.items") hbase rfl hline F.plainAttrs_dict F.slot_dict_items F.type_dict_items (thn (he pins s σ H _ I h) fun u s1 ⟨x,H0,I0,rx,d,kvs,ex,q⟩=> ?_)
 subst ex
 obtain rfl:u=Value.ref d:=rx
 obtain⟨o,H1,I1,hd,q⟩:=lock_it (u:= .dK kvs) (J:=fun o=>Iti d o kvs) (R:=R) I0 trivial q
 obtain⟨hs,hgd,hx,es,ep,vs,hdt,hsz,kv,hm⟩:=I1.frzK hd
 have hl:kvs.length=vs.length:=Paired.length kv
 refine⟨hm.dictOf.typeIs,hm.dictOf.mapOf.noDict,?_⟩
 have I2:Inv X pins σ H1 {s1 with heap:=s1.heap.push {cls:= .type "dict_items",data:= .fields #[.ref d]}}:=I1.kept (t':=s1.toks) fun b ob q=>Heap.get?_push_of_some _ q
 have fin:wpAny (model X.prog X.w) X.A (pyIter (.ref s1.heap.objs.size)) (PIE X pins σ (.Tuple elts kk tpos) R) X.xe {s1 with heap:=s1.heap.push {cls:= .type "dict_items",data:= .fields #[.ref d]}}:=by
  refine wpAny_pyIter_items (d:=d) (knd:=mixKind X.prog X.w) ⟨_,Heap.get?_push_size _ rfl,rfl,rfl⟩ (hm.push _) (pi_one (tk:=s1.toks) I2 _ (turn_items _ hdt) ⟨.none,.none,?_⟩ q)
  rw[hl]
  exact Heap.get?_push_size _ rfl
 show wpAny _ _ (callWith cpos (.builtin "dict.items") [.ref d] [] []) _ X.xe s1
 exact method_meetsIn F.slot_dict_items F.entry_dict_items rfl (PySem.evalArgs_none ⟨rfl,hm.dictOf.typeIs,F.args_dict_items_1 _,_,meets_dict_items (mixKind X.prog X.w) d hs,⟨vs,hm.dictOf⟩,fin⟩)
theorem pi_itemsT {elts:List Expr} {kk:Nat} {tpos:Pos} (he:PE X e td) (hbase:attributeBase e "items" X.env (eval e X.env)=eval e X.env:=by rfl) (hline:(apos.endLine==cpos.line)=true:=by rfl):
  PI X (.Tuple elts kk tpos) (.Call (.Attribute e "items" apos) [] [] cpos) (iItemsT td):=by
 intro pins s σ H R I h
 refine wpAny_Call_method (T:= "dict") (id:= "dict.items") hbase rfl hline F.plainAttrs_dict F.slot_dict_items F.type_dict_items (thn (he pins s σ H _ I h) fun u s1 ⟨x,H0,I0,rx,d,kvs,ex,q⟩=> ?_)
 subst ex
 obtain rfl:u=Value.ref d:=rx
 obtain⟨o,H1,I1,hd,q⟩:=lock_it (u:= .dT kvs) (J:=fun o=>Itit d o kvs) (R:=R) I0 trivial q
 obtain⟨hs,hgd,hx,es,ep,hdt,hsz,ent⟩:=I1.frzU hd
 have hT:s1.TypeIs (.ref d) "dict" :=⟨o,hgd,hx.1⟩
 refine⟨hT,fun b q=> ?_,?_⟩
 ·cases q
  exact⟨o,hgd,hx.2.1⟩
 have I2:Inv X pins σ H1 {s1 with heap:=s1.heap.push {cls:= .type "dict_items",data:= .fields #[.ref d]}}:=I1.kept (t':=s1.toks) fun b ob q=>Heap.get?_push_of_some _ q
 have fin:wpAny (model X.prog X.w) X.A (pyIter (.ref s1.heap.objs.size)) (PIE X pins σ (.Tuple elts kk tpos) R) X.xe {s1 with heap:=s1.heap.push {cls:= .type "dict_items",data:= .fields #[.ref d]}}:=by
  refine kx_iter_items (d:=d) ⟨_,Heap.get?_push_size _ rfl,rfl,rfl⟩ (Heap.get?_push_of_some _ hgd) hdt (pi_one (tk:=s1.toks) I2 _ (turn_itemsT _ hdt) ⟨.none,.none,?_⟩ q)
  rw[←hsz]
  exact Heap.get?_push_size _ rfl
 show wpAny _ _ (callWith cpos (.builtin "dict.items") [.ref d] [] []) _ X.xe s1
 exact method_meetsIn F.slot_dict_items F.entry_dict_items rfl (PySem.evalArgs_none ⟨rfl,hT,F.args_dict_items_1 _,_,kx_meets_items d hs,hT,fin⟩)
end
def Unl {α:Type} (K:α→Hp→Prop) (H:Hp) (x:α) (H':Hp):Prop:=K x H'∨∃d od u,H' d=some (.frz od u)∧(∀o' u',H d≠some (.frz o' u'))∧K x (upd H' d u)
def tUnl (t:TS):TS:=fun D σ H=>t ⟨Unl D.nx H,Unl D.rt H,Unl D.bk H,Unl D.ct H⟩ σ H
section
variable {X:Cx}
theorem unl_inv {pins:List (Addr×Obj)} {σ σ':St} {H H':Hp} {s s':Shared} {d:Addr} {od:Obj} {u:HO} (I:Inv X pins σ H s) (I':Inv X pins σ' H' s') (h:H' d=some (.frz od u)) (hn:∀o' u',H d≠some (.frz o' u')):Inv X pins σ' (upd H' d u) s':=
 I'.unlock h fun o' u' e=>hn o' u' (I.base.frzs d o' u' e)
theorem ps_unl {st:Stmt} {t:TS} (h:PS X st t):PS X st (tUnl t):=by
 intro pins s σ H D I hw
 refine thn (h pins s σ _ _ I hw) fun f s1 q=> ?_
 cases f with
 |next=>obtain⟨σ',H',I2,q|⟨d,od,u,e,hn,q⟩⟩:=q;exact⟨σ',_,I2,q⟩;exact⟨σ',_,unl_inv I I2 e hn,q⟩
 |brk=>obtain⟨σ',H',I2,q|⟨d,od,u,e,hn,q⟩⟩:=q;exact⟨σ',_,I2,q⟩;exact⟨σ',_,unl_inv I I2 e hn,q⟩
 |cont=>obtain⟨σ',H',I2,q|⟨d,od,u,e,hn,q⟩⟩:=q;exact⟨σ',_,I2,q⟩;exact⟨σ',_,unl_inv I I2 e hn,q⟩
 |ret v=>obtain⟨x,σ',H',I2,r,q|⟨d,od,u,e,hn,q⟩⟩:=q;exact⟨x,σ',_,I2,r,q⟩;exact⟨x,σ',_,unl_inv I I2 e hn,r,q⟩
end
theorem for_it {J:It} {n:Nat} {g:TG} {tb:TS} {D:Ends} {σ:St} {H:Hp} (Pv:Nat→St→Hp→Prop) (h0:Pv 0 σ H) (hgo:∀i σ H,i<n→Pv i σ H→J.go i H) (hst:∀σ H,Pv n σ H→J.stop n H)
  (hs:∀i σ H x H',i<n→Pv i σ H→J.yld i H x H'→g x σ H' fun σ2 H2=>tb {D with nx:=Pv (i+1),ct:=Pv (i+1),bk:=D.nx} σ2 H2) (hd:∀σ H,Pv n σ H→D.nx σ H):
  ∃W:Nat→Nat→St→Hp→Prop,(∃m,W 0 m σ H)∧∀i m σ H,W i m σ H→
   (J.stop i H∧D.nx σ H)∨(J.go i H∧∃N:St→Hp→Prop,(∀σ' H',N σ' H'→∃m',m'<m∧W (i+1) m' σ' H')∧∀x H',J.yld i H x H'→g x σ H' fun σ2 H2=>tb {D with nx:=N,ct:=N,bk:=D.nx} σ2 H2):=by
 refine⟨fun i m σ H=>m=n-i∧i≤n∧Pv i σ H,⟨n,by simp,Nat.zero_le _,h0⟩,?_⟩
 rintro i m σ H ⟨rfl,hi,p⟩
 by_cases hlt:i<n
 ·exact .inr ⟨hgo i σ H hlt p,Pv (i+1),fun σ' H' p'=>⟨n-(i+1),by omega,rfl,hlt,p'⟩,fun x H' y=>hs i σ H x H' hlt p y⟩
 ·have e:i=n:=by omega
  subst e
  exact .inl ⟨hst σ H p,hd σ H p⟩
theorem lc_it {J:It} {n:Nat} {g:TG} {tt:TT} {te:TE} {vs:List Nat} {σ:St} {H1:Hp} {D:Addr} {Qd:Hp→Prop} (Pv:Nat→Hp→Prop) (h0:Pv 0 (upd H1 D (.lst []))) (hgo:∀i H,i<n→Pv i H→J.go i H) (hst:∀H,Pv n H→J.stop n H)
  (hs:∀i H x H',i<n→Pv i H→J.yld i H x H'→g x (wipe σ vs) H' fun σ2 H2=>wipe σ2 vs=wipe σ vs∧tt σ2 H2 fun b H3=>if b=true then te σ2 H3 fun y H4=>∃acc,H4 D=some (.lst acc)∧acc.length<sizeLine∧Pv (i+1) (upd H4 D (.lst (acc++ [y]))) else Pv (i+1) H3)
  (hd:∀H,Pv n H→Qd H):
  ∃W:Nat→Nat→Hp→Prop,(∃m,W 0 m (upd H1 D (.lst [])))∧∀i m H,W i m H→
   (J.stop i H∧Qd H)∨(J.go i H∧∃Nx:Hp→Prop,(∀H',Nx H'→∃m',m'<m∧W (i+1) m' H')∧∀x H',J.yld i H x H'→g x (wipe σ vs) H' fun σ2 H2=>wipe σ2 vs=wipe σ vs∧tt σ2 H2 fun b H3=>
    if b=true then te σ2 H3 fun y H4=>∃acc,H4 D=some (.lst acc)∧acc.length<sizeLine∧Nx (upd H4 D (.lst (acc++ [y]))) else Nx H3):=by
 refine⟨fun i m H=>m=n-i∧i≤n∧Pv i H,⟨n,by simp,Nat.zero_le _,h0⟩,?_⟩
 rintro i m H ⟨rfl,hi,p⟩
 by_cases hlt:i<n
 ·exact .inr ⟨hgo i H hlt p,Pv (i+1),fun H' p'=>⟨n-(i+1),by omega,rfl,hlt,p'⟩,fun x H' y=>hs i H x H' hlt p y⟩
 ·have e:i=n:=by omega
  subst e
  exact .inl ⟨hst H p,hd H p⟩
end L2
namespace L2
open PySem PySem.Spec PyProof.Rows
theorem pe_gi {X:Cx} {x:Str} {i:Int} {pos:Pos} (hg:Gl X x) (hm:∃t,X.mg x=some (.int i t)) (hd:(x==("__debug__" :Str))=false:=by decide):PE X (.Name x pos) (tC (.int i)):=by
 obtain⟨t,hm⟩:=hm
 exact pe_glob hg hm ⟨t,rfl⟩ hd
theorem pe_fldK {X:Cx} {K:PySem.W.Frag} {e:Expr} {f:Str} {ta:TE} {pos:Pos} (hK:X.K=K) (he:PE X e ta) (hb:attributeBase e f X.env (eval e X.env)=eval e X.env):PE X (.Attribute e f pos) (tFld K ta f):=by
 subst hK
 exact pe_fld he hb
end L2
end
section
namespace R
open PySem PySem.Spec PyProof.Rows L2
open KA (Pl InP get put)
open KTh (Kn Off Rec Cov Cl1)
inductive Tag where
 |bk|kn|knD (k:Pl)|go|goL (k:Pl)|ca|caL (k:Pl)|wa|waL (i:Nat)|of
 |rn|pl|st|stL (k:Pl)
 |gr|ei|eiD (k:Pl)|ec|dt|dtD (k:Pl)|en|cb
 |pg|sts|tl
deriving DecidableEq
abbrev Ow:=Addr→Option Tag
noncomputable def isTup:HO→Bool
 | .tup _=>true
 |_=>false
noncomputable def noFrz:HO→Bool
 | .frz _ _=>false
 |_=>true
def Own (o:Ow) (H:Hp):Prop:=∀b t,o b=some t→∃u,H b=some u∧isTup u=false
structure Go (S:Tag→Prop) (o:Ow) (H:Hp) (o':Ow) (H':Hp):Prop where
 own0:Own o H
 ext:∀b,H b≠none→o' b=o b
 fr:∀b u,H b=some u→(∀t,o b=some t→¬S t)→H' b=some u
 own:Own o' H'
 uf:∀b t f u,o' b=some t→H' b=some (.frz f u)→H b=some (.frz f u)
def Unf (o:Ow) (H:Hp):Prop:=∀b t f u,o b=some t→H b≠some (.frz f u)
section
variable {S S':Tag→Prop} {o o1 o2:Ow} {H H1 H2:Hp} {b p:Addr} {u:HO} {t:Tag}
theorem Own.free (w:Own o H) (h:H p=none):o p=none:=by
 cases e:o p with
 |none=>rfl
 |some t=>obtain⟨u,q,_⟩:=w p t e;rw[h] at q;cases q
theorem Own.tup {xs:List V} (w:Own o H) (h:H b=some (.tup xs)):o b=none:=by
 cases e:o b with
 |none=>rfl
 |some t=>obtain⟨u,q,z⟩:=w b t e;rw[h] at q;cases q;cases z
theorem Go.refl (w:Own o H):Go S o H o H:=⟨w,fun _ _=>rfl,fun _ _ h _=>h,w,fun _ _ _ _ _ h=>h⟩
theorem Go.at (g:Go S o H o1 H1) (h:H b=some u) (e:o b=some t) (n:¬S t):H1 b=some u:=g.fr b u h fun t' e'=>by rw[e] at e';cases e';exact n
theorem Go.at0 (g:Go S o H o1 H1) (h:H b=some u) (e:o b=none):H1 b=some u:=g.fr b u h fun t' e'=>by rw[e] at e';cases e'
theorem Go.tup {xs:List V} (g:Go S o H o1 H1) (h:H b=some (.tup xs)):H1 b=some (.tup xs):=g.at0 h (g.own0.tup h)
theorem Go.rd (g:Go S o H o1 H1) (h:Rd H b u) (e:o b=some t) (n:¬S t):Rd H1 b u:=by
 rcases h with h|⟨f,h⟩
 ·exact .inl (g.at h e n)
 ·exact .inr ⟨f,g.at h e n⟩
theorem Go.tag (g:Go S o H o1 H1) (e:o b=some t):o1 b=some t:=by
 obtain⟨u,h,_⟩:=g.own0 b t e
 rw[g.ext b (by rw[h];exact fun z=>nomatch z)]
 exact e
theorem Go.still (g:Go S o H o1 H1) (h:H b≠none):H1 b≠none:=by
 cases e:H b with
 |none=>exact absurd e h
 |some u=>
  cases e1:o b with
  |none=>rw[g.at0 e e1];exact fun z=>nomatch z
  |some t=>
   obtain⟨v,q,_⟩:=g.own b t (g.tag e1)
   rw[q];exact fun z=>nomatch z
theorem Go.trans (g:Go S o H o1 H1) (k:Go S o1 H1 o2 H2):Go S o H o2 H2 where
 own0:=g.own0
 ext:=fun b h=>by rw[k.ext b (g.still h),g.ext b h]
 fr:=fun b u h n=>by
  have h1:=g.fr b u h n
  refine k.fr b u h1 fun t e=>n t ?_
  rw[←g.ext b (by rw[h];exact fun z=>nomatch z)]
  exact e
 own:=k.own
 uf:=fun b t f u e h=>by
  have h1:=k.uf b t f u e h
  refine g.uf b t f u ?_ h1
  rw[←k.ext b (by rw[h1];exact fun z=>nomatch z)]
  exact e
theorem Go.unf (g:Go S o H o1 H1) (n:Unf o H):Unf o1 H1:=fun b t f u e h=>by
 have h0:=g.uf b t f u e h
 refine n b t f u ?_ h0
 rw[←g.ext b (by rw[h0];exact fun z=>nomatch z)]
 exact e
theorem Unf.rd (n:Unf o H) (e:o b=some t) (r:Rd H b u):H b=some u:=by
 rcases r with r|⟨f,r⟩
 ·exact r
 ·exact absurd r (n b t f u e)
theorem Go.mono (g:Go S o H o1 H1) (h:∀t,S t→S' t):Go S' o H o1 H1:=⟨g.own0,g.ext,fun b u e n=>g.fr b u e fun t e' s=>n t e' (h t s),g.own,g.uf⟩
theorem Go.alloc (w:Own o H) (h:H p=none) (u:HO):Go S o H o (upd H p u) where
 own0:=w
 ext:=fun _ _=>rfl
 fr:=fun b v e _=>by rw[upd_ne (ne_of_none e h)];exact e
 own:=fun b t e=>by
  obtain⟨v,q,z⟩:=w b t e
  exact⟨v,by rw[upd_ne (ne_of_none q h)];exact q,z⟩
 uf:=fun b t f v e q=>by
  rw[upd_ne fun z=>by rw[z,w.free h] at e;cases e] at q
  exact q
noncomputable def oput (o:Ow) (p:Addr) (t:Tag):Ow:=fun b=>if b=p then some t else o b
theorem oput_same:oput o p t p=some t:=if_pos rfl
theorem oput_ne (h:b≠p):oput o p t b=o b:=if_neg h
theorem Go.allocT (w:Own o H) (h:H p=none) (t:Tag) (u:HO) (hu:isTup u=false) (hf:noFrz u=true):Go S o H (oput o p t) (upd H p u) where
 own0:=w
 ext:=fun b hb=>oput_ne fun e=>hb (by rw[e];exact h)
 fr:=fun b v e _=>by rw[upd_ne (ne_of_none e h)];exact e
 own:=fun b t' e=>by
  by_cases q:b=p
  ·subst q
   exact⟨u,upd_same,hu⟩
  ·rw[oput_ne q] at e
   obtain⟨v,z,z'⟩:=w b t' e
   exact⟨v,by rw[upd_ne q];exact z,z'⟩
 uf:=fun b t' f v e q=>by
  by_cases z:b=p
  ·rw[z,upd_same] at q
   cases q
   cases hf
  ·rw[upd_ne z] at q;exact q
theorem Go.set (w:Own o H) (e:o b=some t) (s:S t) (u:HO) (hu:isTup u=false) (hf:noFrz u=true):Go S o H o (upd H b u) where
 own0:=w
 ext:=fun _ _=>rfl
 fr:=fun c v q n=>by
  rw[upd_ne fun z=>by rw[z] at n;exact n t e s]
  exact q
 own:=fun c t' e'=>by
  by_cases q:c=b
  ·subst q
   exact⟨u,upd_same,hu⟩
  ·obtain⟨v,z,z'⟩:=w c t' e'
   exact⟨v,by rw[upd_ne q];exact z,z'⟩
 uf:=fun c t' f v e' q=>by
  by_cases z:c=b
  ·rw[z,upd_same] at q
   cases q
   cases hf
  ·rw[upd_ne z] at q;exact q
theorem Go.set0 (w:Own o H) (hb:o b=none) (g:Go S o H1 o H) (h1:H1 b=none) (u:HO):Go S o H1 o (upd H b u) where
 own0:=g.own0
 ext:=fun _ _=>rfl
 fr:=fun c v q n=>by rw[upd_ne (ne_of_none q h1)];exact g.fr c v q n
 own:=fun c t' e'=>by
  obtain⟨v,z,z'⟩:=w c t' e'
  exact⟨v,by rw[upd_ne fun q=>by rw[q,hb] at e';cases e'];exact z,z'⟩
 uf:=fun c t' f v e' q=>by
  rw[upd_ne fun z=>by rw[z,hb] at e';cases e'] at q
  exact g.uf c t' f v e' q
theorem Own.lock {od:Obj} (w:Own o H) (h:H b=some u):Own o (upd H b (.frz od u)):=fun c t e=>by
 by_cases q:c=b
 ·subst q
  exact⟨_,upd_same,rfl⟩
 ·rw[upd_ne q];exact w c t e
theorem rd_lock {od:Obj} {v:HO} {c:Addr} (h:H b=some u) (hu:∀f x,u≠ .frz f x) (r:Rd H c v):Rd (upd H b (.frz od u)) c v:=by
 by_cases q:c=b
 ·subst q
  rcases r with r|⟨f,r⟩
  ·rw[h] at r;cases r;exact .inr ⟨od,upd_same⟩
  ·rw[h] at r;cases r;exact absurd rfl (hu _ _)
 ·rcases r with r|⟨f,r⟩
  ·exact .inl (by rw[upd_ne q];exact r)
  ·exact .inr ⟨f,by rw[upd_ne q];exact r⟩
theorem Go.unlock {od:Obj} (w:Own o H) (h:H b=some u) (hu:isTup u=false) (hf:noFrz u=true) (g:Go S o (upd H b (.frz od u)) o1 H1):Go S o H o1 (upd H1 b u) where
 own0:=w
 ext:=fun c hc=>g.ext c (by
  by_cases q:c=b
  ·rw[q,upd_same];exact fun z=>nomatch z
  ·rw[upd_ne q];exact hc)
 fr:=fun c v e n=>by
  by_cases q:c=b
  ·rw[q,upd_same];rw[q,h] at e;exact e
  ·rw[upd_ne q];exact g.fr c v (by rw[upd_ne q];exact e) n
 own:=fun c t e=>by
  by_cases q:c=b
  ·subst q;exact⟨u,upd_same,hu⟩
  ·rw[upd_ne q];exact g.own c t e
 uf:=fun c t f v e q=>by
  by_cases z:c=b
  ·rw[z,upd_same] at q
   cases q
   cases hf
  ·rw[upd_ne z] at q
   have:=g.uf c t f v e q
   rwa [upd_ne z] at this
end
abbrev pk (k:Pl):List Key:=plK k
noncomputable def nk (n:Nat):Key:=Sum.inl (n:Int)
noncomputable def eP {β:Type} (f:β→V) (x:Pl×β):List Key×V:=(pk x.1,f x.2)
noncomputable def eN {β:Type} (f:β→V) (x:Nat×β):Key×V:=(nk x.1,f x.2)
noncomputable def nV (n:Nat):V:= .int (n:Int)
theorem nk_inj {a b:Nat} (e:nk a=nk b):a=b:=by
 have:(a:Int)=b:=Sum.inl.inj e
 omega
section
variable {κ κ' β:Type} [DecidableEq κ] [DecidableEq κ'] {c:κ→κ'} (inj:∀a b,c a=c b→a=b) (f:β→V)
include inj
theorem val_enc (L:List (κ×β)) (k:κ):valV (L.map fun x=>(c x.1,f x.2)) (c k)=(get L k).map f:=by
 induction L with
 |nil=>rfl
 |cons x L ih=>
  rw[List.map_cons]
  by_cases e:x.1=k
  ·rw[valV_pos (p:=(c x.1,f x.2)) (by rw[e]),KA.get_pos e];rfl
  ·rw[valV_neg (p:=(c x.1,f x.2)) (fun q=>e (inj _ _ q)),KA.get_neg e];exact ih
theorem put_enc (L:List (κ×β)) (k:κ) (x:β):putK (L.map fun x=>(c x.1,f x.2)) (c k) (f x)=(put L k x).map fun x=>(c x.1,f x.2):=by
 have e1:((L.map fun x=>(c x.1,f x.2)).any fun kv=>decide (kv.1=c k))=(L.any fun p=>decide (p.1=k)):=by
  rw[List.any_map]
  congr 1
  funext p
  show decide (c p.1=c k)=decide (p.1=k)
  by_cases e:p.1=k
  ·rw[e];simp
  ·rw[decide_eq_false e,decide_eq_false fun q=>e (inj _ _ q)]
 unfold putK put
 rw[e1]
 split
 ·rw[List.map_map,List.map_map]
  refine List.map_congr_left fun p _=> ?_
  show (if c p.1=c k then(c p.1,f x) else(c p.1,f p.2))=(fun x=>(c x.1,f x.2)) (if p.1=k then(p.1,x) else p)
  by_cases e:p.1=k
  ·rw[if_pos e,if_pos (by rw[e])]
  ·rw[if_neg e,if_neg fun q=>e (inj _ _ q)]
 ·rw[List.map_append];rfl
end
theorem pk_inj (a b:Pl) (e:pk a=pk b):a=b:=plK_inj e
section
variable {β:Type} (f:β→V)
theorem val_eP (L:List (Pl×β)) (k:Pl):valV (L.map (eP f)) (pk k)=(get L k).map f:=val_enc pk_inj f L k
theorem put_eP (L:List (Pl×β)) (k:Pl) (x:β):putK (L.map (eP f)) (pk k) (f x)=(put L k x).map (eP f):=put_enc pk_inj f L k x
theorem val_eN (L:List (Nat×β)) (k:Nat):valV (L.map (eN f)) (nk k)=(get L k).map f:=val_enc (c:=nk) (fun _ _=>nk_inj) f L k
theorem put_eN (L:List (Nat×β)) (k:Nat) (x:β):putK (L.map (eN f)) (nk k) (f x)=(put L k x).map (eN f):=put_enc (c:=nk) (fun _ _=>nk_inj) f L k x
end
abbrev PlT (H:Hp) (a:Addr) (k:Pl):Prop:=H a=some (.tup [nV k.1,nV k.2])
def LsT {ε:Type} (o:Ow) (H:Hp) (a:Addr) (tag:Pl→Tag) (El:Hp→V→ε→Prop) (f:Pl→List ε):Prop:=
 ∃L:List (Pl×Addr),Rd H a (.dT (L.map (eP V.ref)))∧(L.map (·.1)).Nodup∧(∀k∈L.map (·.1),InP k)∧(∀k,get L k=none↔f k= [])∧
  ∀k l,get L k=some l→o l=some (tag k)∧∃xs,H l=some (.lst xs)∧Paired (El H) xs (f k)
def LsN {ε:Type} (o:Ow) (H:Hp) (a:Addr) (tag:Nat→Tag) (El:Hp→V→ε→Prop) (f:Nat→List ε):Prop:=
 ∃L:List (Nat×Addr),Rd H a (.dK (L.map (eN V.ref)))∧(L.map (·.1)).Nodup∧(∀k∈L.map (·.1),k<32)∧(∀k,get L k=none↔f k= [])∧
  ∀k l,get L k=some l→o l=some (tag k)∧∃xs,H l=some (.lst xs)∧Paired (El H) xs (f k)
def Tups {ε:Type} (El:Hp→V→ε→Prop):Prop:=∀(H H':Hp),(∀b xs,H b=some (.tup xs)→H' b=some (.tup xs))→∀x e,El H x e→El H' x e
section
variable {ε:Type} {El:Hp→V→ε→Prop} {S:Tag→Prop} {o o':Ow} {H H':Hp} {a:Addr}
theorem LsT.go {tag:Pl→Tag} {f:Pl→List ε} (h:LsT o H a tag El f) (hE:Tups El) (g:Go S o H o' H') {t:Tag} (ht:o a=some t) (n:¬S t) (nl:∀k,¬S (tag k)):LsT o' H' a tag El f:=by
 obtain⟨L,h1,h2,h3,h4,h5⟩:=h
 refine⟨L,g.rd h1 ht n,h2,h3,h4,fun k l e=> ?_⟩
 obtain⟨q1,xs,q2,q3⟩:=h5 k l e
 exact⟨g.tag q1,xs,g.at q2 q1 (nl k),Paired.mapP q3 fun x e z=>hE H H' (fun b xs=>g.tup) x e z⟩
theorem LsN.go {tag:Nat→Tag} {f:Nat→List ε} (h:LsN o H a tag El f) (hE:Tups El) (g:Go S o H o' H') {t:Tag} (ht:o a=some t) (n:¬S t) (nl:∀k,¬S (tag k)):LsN o' H' a tag El f:=by
 obtain⟨L,h1,h2,h3,h4,h5⟩:=h
 refine⟨L,g.rd h1 ht n,h2,h3,h4,fun k l e=> ?_⟩
 obtain⟨q1,xs,q2,q3⟩:=h5 k l e
 exact⟨g.tag q1,xs,g.at q2 q1 (nl k),Paired.mapP q3 fun x e z=>hE H H' (fun b xs=>g.tup) x e z⟩
end
def KnR (o:Ow) (H:Hp) (a:Addr) (K:Kn):Prop:=
 ∃L:List (Pl×Addr),H a=some (.dT (L.map (eP V.ref)))∧(L.map (·.1)).Nodup∧(∀k∈L.map (·.1),InP k)∧(∀k,get L k=none→∀w,K k.2 k.1 w=none)∧
  ∀k d,get L k=some d→o d=some (.knD k)∧∃E:List (Nat×Nat),Rd H d (.dK (E.map (eN nV)))∧(E.map (·.1)).Nodup∧(∀w∈E.map (·.1),w<4)∧∀w,get E w=K k.2 k.1 w
theorem KnR.go {S:Tag→Prop} {o o':Ow} {H H':Hp} {a:Addr} {K:Kn} (h:KnR o H a K) (g:Go S o H o' H') (ht:o a=some .kn) (n:¬S .kn) (nl:∀k,¬S (.knD k)):KnR o' H' a K:=by
 obtain⟨L,h1,h2,h3,h4,h5⟩:=h
 refine⟨L,g.at h1 ht n,h2,h3,h4,fun k d e=> ?_⟩
 obtain⟨q1,E,q2,q3⟩:=h5 k d e
 exact⟨g.tag q1,E,g.rd q2 q1 (nl k),q3⟩
def EntL (H:Hp) (n:Nat) (x:V) (e:List Int):Prop:=(∃a,x= .ref a∧Ent H a e)∧e.length=n
abbrev Ents (H:Hp) (n:Nat):List V→List (List Int)→Prop:=Paired (EntL H n)
theorem Ent.tups {H H':Hp} (t:∀b xs,H b=some (.tup xs)→H' b=some (.tup xs)) {a:Addr} {e:List Int} (h:Ent H a e):Ent H' a e:=by
 obtain⟨s,u,v,p,r,h1,h2,h3⟩:=h
 exact⟨s,u,v,p,r,t _ _ h1,t _ _ h2,h3⟩
theorem Ents.tups {H H':Hp} (t:∀b xs,H b=some (.tup xs)→H' b=some (.tup xs)) {n:Nat} {xs:List V} {es:List (List Int)} (h:Ents H n xs es):Ents H' n xs es:=
 Paired.mapP h fun x e z=>⟨let ⟨a,q1,q2⟩:=z.1;⟨a,q1,Ent.tups t q2⟩,z.2⟩
abbrev HpL:List (List Int)→Prop:=KH.Hp HT.lexLt ([]:List Int)
theorem ordL:KH.Ord HT.lexLt:=⟨HT.lex_irr,HT.lex_tr,HT.lex_ntr⟩
noncomputable def okey (x:Off):List Int:= [(x.steps:Int),(x.point:Int),(x.value:Int),(x.fin:Int)]
def OfR (H:Hp) (a:Addr) (O:List Off):Prop:=∃xs,H a=some (.lst xs)∧Ents H 4 xs (O.map okey)∧HpL (O.map okey)
structure BA where
 dx:Addr
 kn:Addr
 go:Addr
 ca:Addr
 wa:Addr
 of:Addr
noncomputable def bfs (b:BA):List (Str×V):= [("known",.ref b.kn),("goers",.ref b.go),("callers",.ref b.ca),("waiters",.ref b.wa),("offers",.ref b.of)]
noncomputable def goersOf (rs:List Rec) (k:Pl):List Pl:=rs.filterMap fun
 | .go v i u j=>if (j,u)=k then some (i,v) else none
 |_=>none
noncomputable def callersOf (rs:List Rec) (k:Pl):List (Pl×Nat):=rs.filterMap fun
 | .call v i u j nx=>if (j,u)=k then some ((i,v),nx) else none
 |_=>none
noncomputable def waitersOf (rs:List Rec) (n:Nat):List (Pl×Pl):=rs.filterMap fun
 | .call v i u j nx=>if nx=n then some ((i,v),(j,u)) else none
 |_=>none
def ElP (H:Hp) (x:V) (k:Pl):Prop:=∃a,x= .ref a∧PlT H a k
def ElC (H:Hp) (x:V) (e:Pl×Nat):Prop:=∃a q,x= .ref a∧H a=some (.tup [.ref q,nV e.2])∧PlT H q e.1
def ElW (H:Hp) (x:V) (e:Pl×Pl):Prop:=∃a q r,x= .ref a∧H a=some (.tup [.ref q,.ref r])∧PlT H q e.1∧PlT H r e.2
theorem tups_P:Tups ElP:=fun H H' t x e ⟨a,h1,h2⟩=>⟨a,h1,t _ _ h2⟩
theorem tups_C:Tups ElC:=fun H H' t x e ⟨a,q,h1,h2,h3⟩=>⟨a,q,h1,t _ _ h2,t _ _ h3⟩
theorem tups_W:Tups ElW:=fun H H' t x e ⟨a,q,r,h1,h2,h3,h4⟩=>⟨a,q,r,h1,t _ _ h2,t _ _ h3,t _ _ h4⟩
structure BK (cB:Addr) (o:Ow) (H:Hp) (B:Addr) (b:BA) (K:Kn) (O:List Off) (rs:List Rec):Prop where
 obj:H B=some (.ins cB b.dx (bfs b))
 tB:o B=some .bk
 tk:o b.kn=some .kn
 tg:o b.go=some .go
 tc:o b.ca=some .ca
 tw:o b.wa=some .wa
 to_:o b.of=some .of
 kn:KnR o H b.kn K
 go:LsT o H b.go .goL ElP (goersOf rs)
 ca:LsT o H b.ca .caL ElC (callersOf rs)
 wa:LsN o H b.wa .waL ElW (waitersOf rs)
 of:OfR H b.of O
 len:rs.length≤256
def SB:Tag→Prop
 | .kn| .knD _| .go| .goL _| .ca| .caL _| .wa| .waL _| .of=>True
 |_=>False
def SO (t:Tag):Prop:=t= .of
theorem BK.go_ {S:Tag→Prop} {cB:Addr} {o o':Ow} {H H':Hp} {B:Addr} {b:BA} {K:Kn} {O:List Off} {rs:List Rec} (h:BK cB o H B b K O rs) (g:Go S o H o' H') (n:¬S .bk) (n1:¬S .kn) (n2:∀k,¬S (.knD k)) (n3:¬S .go) (n4:∀k,¬S (.goL k))
  (n5:¬S .ca) (n6:∀k,¬S (.caL k)) (n7:¬S .wa) (n8:∀k,¬S (.waL k)) {O':List Off} (hO:OfR H' b.of O'):BK cB o' H' B b K O' rs:=
 ⟨g.at h.obj h.tB n,g.tag h.tB,g.tag h.tk,g.tag h.tg,g.tag h.tc,g.tag h.tw,g.tag h.to_,h.kn.go g h.tk n1 n2,h.go.go tups_P g h.tg n3 n4,h.ca.go tups_C g h.tc n5 n6,h.wa.go tups_W g h.tw n7 n8,hO,h.len⟩
theorem BK.goO {cB:Addr} {o o':Ow} {H H':Hp} {B:Addr} {b:BA} {K:Kn} {O:List Off} {rs:List Rec} (h:BK cB o H B b K O rs) (g:Go SO o H o' H') {O':List Off} (hO:OfR H' b.of O'):BK cB o' H' B b K O' rs:=
 h.go_ g (fun z=>nomatch z) (fun z=>nomatch z) (fun _ z=>nomatch z) (fun z=>nomatch z) (fun _ z=>nomatch z) (fun z=>nomatch z) (fun _ z=>nomatch z) (fun z=>nomatch z) (fun _ z=>nomatch z) hO
theorem OfR.go {S:Tag→Prop} {o o':Ow} {H H':Hp} {a:Addr} {O:List Off} (h:OfR H a O) (g:Go S o H o' H') (e:o a=some .of) (n:¬S .of):OfR H' a O:=by
 obtain⟨xs,h1,h2,h3⟩:=h
 exact⟨xs,g.at h1 e n,h2.tups fun b xs=>g.tup,h3⟩
theorem BK.same {S:Tag→Prop} {cB:Addr} {o o':Ow} {H H':Hp} {B:Addr} {b:BA} {K:Kn} {O:List Off} {rs:List Rec} (h:BK cB o H B b K O rs) (g:Go S o H o' H') (n:¬S .bk) (n1:∀t,S t→¬SB t):BK cB o' H' B b K O rs:=
 h.go_ g n (fun z=>n1 _ z trivial) (fun _ z=>n1 _ z trivial) (fun z=>n1 _ z trivial) (fun _ z=>n1 _ z trivial) (fun z=>n1 _ z trivial) (fun _ z=>n1 _ z trivial) (fun z=>n1 _ z trivial) (fun _ z=>n1 _ z trivial) (h.of.go g h.to_ (fun z=>n1 _ z trivial))
abbrev S0:Tag→Prop:=fun _=>False
theorem BK.same0 {cB:Addr} {o o':Ow} {H H':Hp} {B:Addr} {b:BA} {K:Kn} {O:List Off} {rs:List Rec} (h:BK cB o H B b K O rs) (g:Go S0 o H o' H'):BK cB o' H' B b K O rs:=h.same g (fun z=>z) (fun _ z=>z.elim)
theorem BK.lock {cB:Addr} {o:Ow} {H:Hp} {B:Addr} {b:BA} {K:Kn} {O:List Off} {rs:List Rec} {d:Addr} {kvs:List (Key×V)} {od:Obj} (h:BK cB o H B b K O rs) (hd:H d=some (.dK kvs)) (hn:d≠b.wa):BK cB o (upd H d (.frz od (.dK kvs))) B b K O rs:=by
 have tup:∀b xs,H b=some (.tup xs)→(upd H d (.frz od (.dK kvs))) b=some (.tup xs):=fun b xs e=>by rw[upd_ne (ne_of e hd fun z=>nomatch z)];exact e
 refine⟨by rw[upd_ne (ne_of h.obj hd fun z=>nomatch z)];exact h.obj,h.tB,h.tk,h.tg,h.tc,h.tw,h.to_,?_,?_,?_,?_,?_,h.len⟩
 ·obtain⟨L,h1,h2,h3,h4,h5⟩:=h.kn
  refine⟨L,by rw[upd_ne (ne_of h1 hd fun z=>nomatch z)];exact h1,h2,h3,h4,fun k d' e=> ?_⟩
  obtain⟨q1,E,q2,q3⟩:=h5 k d' e
  exact⟨q1,E,rd_lock hd (fun _ _ z=>nomatch z) q2,q3⟩
 ·obtain⟨L,h1,h2,h3,h4,h5⟩:=h.go
  refine⟨L,rd_lock hd (fun _ _ z=>nomatch z) h1,h2,h3,h4,fun k l e=> ?_⟩
  obtain⟨q1,xs,q2,q3⟩:=h5 k l e
  exact⟨q1,xs,by rw[upd_ne (ne_of q2 hd fun z=>nomatch z)];exact q2,Paired.mapP q3 fun x e z=>tups_P _ _ tup x e z⟩
 ·obtain⟨L,h1,h2,h3,h4,h5⟩:=h.ca
  refine⟨L,rd_lock hd (fun _ _ z=>nomatch z) h1,h2,h3,h4,fun k l e=> ?_⟩
  obtain⟨q1,xs,q2,q3⟩:=h5 k l e
  exact⟨q1,xs,by rw[upd_ne (ne_of q2 hd fun z=>nomatch z)];exact q2,Paired.mapP q3 fun x e z=>tups_C _ _ tup x e z⟩
 ·obtain⟨L,h1,h2,h3,h4,h5⟩:=h.wa
  refine⟨L,rd_lock hd (fun _ _ z=>nomatch z) h1,h2,h3,h4,fun k l e=> ?_⟩
  obtain⟨q1,xs,q2,q3⟩:=h5 k l e
  exact⟨q1,xs,by rw[upd_ne (ne_of q2 hd fun z=>nomatch z)];exact q2,Paired.mapP q3 fun x e z=>tups_W _ _ tup x e z⟩
 ·obtain⟨xs,h1,h2,h3⟩:=h.of
  exact⟨xs,by rw[upd_ne (ne_of h1 hd fun z=>nomatch z)];exact h1,h2.tups tup,h3⟩
end R
end
section
namespace R
open PySem PySem.Spec PyProof.Rows L2
noncomputable def top (i:Nat):Stmt:=PySem.Challenge.pw_callruns_s01_answers.main.body.getD i (.Pass ⟨0,0,0,0⟩)
abbrev s_0:Stmt:=top 5
abbrev s_1:Stmt:=top 6
abbrev s_2:Stmt:=top 7
abbrev s_3:Stmt:=top 8
abbrev s_4:Stmt:=inClass (top 10) 0
abbrev s_5:Stmt:=inClass (top 10) 1
abbrev s_6:Stmt:=inClass (top 10) 2
abbrev s_7:Stmt:=inClass (top 10) 3
abbrev s_8:Stmt:=inClass (top 10) 4
abbrev s_9:Stmt:=inClass (top 10) 5
abbrev s_a:Stmt:=inClass (top 10) 6
abbrev s_b:Stmt:=inClass (top 10) 7
abbrev s_c:Stmt:=inClass (top 10) 8
abbrev s_d:Stmt:=inClass (top 10) 9
abbrev s_e:Stmt:=inClass (top 10) 10
abbrev s_f:Stmt:=inClass (top 12) 0
abbrev s_g:Stmt:=inClass (top 12) 1
abbrev s_h:Stmt:=inClass (top 12) 2
abbrev s_i:Stmt:=inClass (top 12) 3
abbrev s_j:Stmt:=inClass (top 12) 4
abbrev s_k:Stmt:=inClass (top 12) 5
abbrev s_l:Stmt:=inClass (top 12) 6
abbrev s_m:Stmt:=inClass (top 12) 7
abbrev s_n:Stmt:=inClass (top 16) 0
abbrev s_o:Stmt:=inClass (top 16) 1
abbrev s_p:Stmt:=inClass (top 16) 2
abbrev s_q:Stmt:=inClass (top 16) 3
abbrev s_r:Stmt:=inClass (top 16) 4
abbrev s_s:Stmt:=inClass (top 16) 5
abbrev s_t:Stmt:=inClass (top 18) 0
abbrev s_u:Stmt:=inClass (top 18) 1
abbrev s_v:Stmt:=inClass (top 18) 2
abbrev s_w:Stmt:=inClass (top 18) 3
abbrev s_x:Stmt:=inClass (top 18) 4
abbrev s_y:Stmt:=inClass (top 18) 5
abbrev s_z:Stmt:=inClass (top 18) 6
abbrev s_A:Stmt:=inClass (top 18) 7
abbrev s_B:Stmt:=inClass (top 18) 8
abbrev s_C:Stmt:=top 33
abbrev s_D:Stmt:=inClass (top 34) 0
abbrev s_E:Stmt:=inClass (top 34) 1
abbrev s_F:Stmt:=inClass (top 34) 2
abbrev s_G:Stmt:=inClass (top 34) 3
abbrev s_H:Stmt:=inClass (top 34) 4
abbrev s_I:Stmt:=inClass (top 34) 5
abbrev s_J:Stmt:=inClass (top 34) 6
abbrev s_K:Stmt:=inClass (top 34) 7
abbrev s_L:Stmt:=inClass (top 34) 8
abbrev s_M:Stmt:=inClass (top 34) 9
abbrev s_N:Stmt:=inClass (top 34) 10
abbrev s_O:Stmt:=inClass (top 34) 11
abbrev s_P:Stmt:=inClass (top 34) 12
abbrev s_Q:Stmt:=inClass (top 34) 13
abbrev s_R:Stmt:=inClass (top 34) 14
abbrev s_S:Stmt:=top 35
abbrev s_T:Stmt:=top 36
set_option genInjectivity false in
structure Ad where
 c_C0:Addr
 c_C1:Addr
 c_C2:Addr
 c_C3:Addr
 c_C4:Addr
 f_0:Addr
 d_0:FuncData
 f_1:Addr
 d_1:FuncData
 f_2:Addr
 d_2:FuncData
 f_3:Addr
 d_3:FuncData
 f_4:Addr
 d_4:FuncData
 f_5:Addr
 d_5:FuncData
 f_6:Addr
 d_6:FuncData
 f_7:Addr
 d_7:FuncData
 f_8:Addr
 d_8:FuncData
 f_9:Addr
 d_9:FuncData
 f_a:Addr
 d_a:FuncData
 f_b:Addr
 d_b:FuncData
 f_c:Addr
 d_c:FuncData
 f_d:Addr
 d_d:FuncData
 f_e:Addr
 d_e:FuncData
 f_f:Addr
 d_f:FuncData
 f_g:Addr
 d_g:FuncData
 f_h:Addr
 d_h:FuncData
 f_i:Addr
 d_i:FuncData
 f_j:Addr
 d_j:FuncData
 f_k:Addr
 d_k:FuncData
 f_l:Addr
 d_l:FuncData
 f_m:Addr
 d_m:FuncData
 f_n:Addr
 d_n:FuncData
 f_o:Addr
 d_o:FuncData
 f_p:Addr
 d_p:FuncData
 f_q:Addr
 d_q:FuncData
 f_r:Addr
 d_r:FuncData
 f_s:Addr
 d_s:FuncData
 f_t:Addr
 d_t:FuncData
 f_u:Addr
 d_u:FuncData
 f_v:Addr
 d_v:FuncData
 f_w:Addr
 d_w:FuncData
 f_x:Addr
 d_x:FuncData
 f_y:Addr
 d_y:FuncData
 f_z:Addr
 d_z:FuncData
 f_A:Addr
 d_A:FuncData
 f_B:Addr
 d_B:FuncData
 f_C:Addr
 d_C:FuncData
 f_D:Addr
 d_D:FuncData
 f_E:Addr
 d_E:FuncData
 f_F:Addr
 d_F:FuncData
 f_G:Addr
 d_G:FuncData
 f_H:Addr
 d_H:FuncData
 f_I:Addr
 d_I:FuncData
 f_J:Addr
 d_J:FuncData
 f_K:Addr
 d_K:FuncData
 f_L:Addr
 d_L:FuncData
 f_M:Addr
 d_M:FuncData
 f_N:Addr
 d_N:FuncData
 f_O:Addr
 d_O:FuncData
 f_P:Addr
 d_P:FuncData
 f_Q:Addr
 d_Q:FuncData
 f_R:Addr
 d_R:FuncData
 f_S:Addr
 d_S:FuncData
 f_T:Addr
 d_T:FuncData
 t_ARGUMENT_COUNTS:Addr
structure Txt (K:PySem.W.Frag) (mg:Str→Option Value) (a:Ad):Prop where
 cl_C0:Cls K a.c_C0
 mg_C0:mg "Backs" =some (.ref a.c_C0)
 mk_C0:Mk K a.c_C0 a.f_4
 na_0:NoAttr K a.c_C0 "known"
 na_1:NoAttr K a.c_C0 "goers"
 na_2:NoAttr K a.c_C0 "callers"
 na_3:NoAttr K a.c_C0 "waiters"
 na_4:NoAttr K a.c_C0 "offers"
 cl_C1:Cls K a.c_C1
 mg_C1:mg "Graph" =some (.ref a.c_C1)
 mk_C1:Mk K a.c_C1 a.f_f
 na_5:NoAttr K a.c_C1 "places"
 na_6:NoAttr K a.c_C1 "steps_at"
 na_7:NoAttr K a.c_C1 "edges_into"
 na_8:NoAttr K a.c_C1 "edge_counts"
 na_9:NoAttr K a.c_C1 "distances_by_target"
 na_a:NoAttr K a.c_C1 "ending"
 na_b:NoAttr K a.c_C1 "coming_back"
 cl_C2:Cls K a.c_C2
 mg_C2:mg "Ways" =some (.ref a.c_C2)
 mk_C2:Mk K a.c_C2 a.f_n
 na_c:NoAttr K a.c_C2 "value_count"
 na_d:NoAttr K a.c_C2 "steps_at"
 na_e:NoAttr K a.c_C2 "backs"
 na_f:NoAttr K a.c_C2 "distances"
 cl_C3:Cls K a.c_C3
 mg_C3:mg "Runs" =some (.ref a.c_C3)
 mk_C3:Mk K a.c_C3 a.f_t
 na_g:NoAttr K a.c_C3 "value_count"
 na_h:NoAttr K a.c_C3 "places"
 na_i:NoAttr K a.c_C3 "rule_count"
 na_j:NoAttr K a.c_C3 "steps_at"
 na_k:NoAttr K a.c_C3 "backs"
 na_l:NoAttr K a.c_C3 "graph"
 cl_C4:Cls K a.c_C4
 mg_C4:mg "Program" =some (.ref a.c_C4)
 mk_C4:Mk K a.c_C4 a.f_D
 na_m:NoAttr K a.c_C4 "value_count"
 na_n:NoAttr K a.c_C4 "point_count"
 na_o:NoAttr K a.c_C4 "starts"
 na_p:NoAttr K a.c_C4 "runs"
 F_0:Fun K "push" "push" s_0 a.f_0 a.d_0
 b_0:Binds K a.d_0 ["heap","entry"] []
 mg_0:mg "push" =some (.ref a.f_0)
 k_0:PySem.W.keepIn K (.ref a.f_0)=true
 F_1:Fun K "lesser_child" "lesser_child" s_1 a.f_1 a.d_1
 b_1:Binds K a.d_1 ["heap","at"] []
 mg_1:mg "lesser_child" =some (.ref a.f_1)
 k_1:PySem.W.keepIn K (.ref a.f_1)=true
 F_2:Fun K "sink" "sink" s_2 a.f_2 a.d_2
 b_2:Binds K a.d_2 ["heap","entry"] []
 mg_2:mg "sink" =some (.ref a.f_2)
 k_2:PySem.W.keepIn K (.ref a.f_2)=true
 F_3:Fun K "pop_least" "pop_least" s_3 a.f_3 a.d_3
 b_3:Binds K a.d_3 ["heap"] []
 mg_3:mg "pop_least" =some (.ref a.f_3)
 k_3:PySem.W.keepIn K (.ref a.f_3)=true
 F_4:Fun K "__init__" "Backs.__init__" s_4 a.f_4 a.d_4
 b_4:Binds K a.d_4 ["self"] []
 m_4:Meth K a.c_C0 "__init__" a.f_4
 F_5:Fun K "add_step" "Backs.add_step" s_5 a.f_5 a.d_5
 b_5:Binds K a.d_5 ["self","place","kind","target","goes_on"] []
 m_5:Meth K a.c_C0 "add_step" a.f_5
 F_6:Fun K "ends_of" "Backs.ends_of" s_6 a.f_6 a.d_6
 b_6:Binds K a.d_6 ["self","place"] []
 m_6:Meth K a.c_C0 "ends_of" a.f_6
 F_7:Fun K "offer" "Backs.offer" s_7 a.f_7 a.d_7
 b_7:Binds K a.d_7 ["self","place","end","steps"] []
 m_7:Meth K a.c_C0 "offer" a.f_7
 F_8:Fun K "offer_through" "Backs.offer_through" s_8 a.f_8 a.d_8
 b_8:Binds K a.d_8 ["self","place","onward","steps"] []
 m_8:Meth K a.c_C0 "offer_through" a.f_8
 F_9:Fun K "is_better" "Backs.is_better" s_9 a.f_9 a.d_9
 b_9:Binds K a.d_9 ["self","place","end","steps"] []
 m_9:Meth K a.c_C0 "is_better" a.f_9
 F_a:Fun K "take_offers" "Backs.take_offers" s_a a.f_a a.d_a
 b_a:Binds K a.d_a ["self"] []
 m_a:Meth K a.c_C0 "take_offers" a.f_a
 F_b:Fun K "take" "Backs.take" s_b a.f_b a.d_b
 b_b:Binds K a.d_b ["self","place","end","steps"] []
 m_b:Meth K a.c_C0 "take" a.f_b
 F_c:Fun K "tell_goers" "Backs.tell_goers" s_c a.f_c a.d_c
 b_c:Binds K a.d_c ["self","place","end","steps"] []
 m_c:Meth K a.c_C0 "tell_goers" a.f_c
 F_d:Fun K "tell_callers" "Backs.tell_callers" s_d a.f_d a.d_d
 b_d:Binds K a.d_d ["self","place","end","steps"] []
 m_d:Meth K a.c_C0 "tell_callers" a.f_d
 F_e:Fun K "tell_waiters" "Backs.tell_waiters" s_e a.f_e a.d_e
 b_e:Binds K a.d_e ["self","place","end","steps"] []
 m_e:Meth K a.c_C0 "tell_waiters" a.f_e
 F_f:Fun K "__init__" "Graph.__init__" s_f a.f_f a.d_f
 b_f:Binds K a.d_f ["self","places","steps_at","backs"] []
 m_f:Meth K a.c_C1 "__init__" a.f_f
 F_g:Fun K "add_edges" "Graph.add_edges" s_g a.f_g a.d_g
 b_g:Binds K a.d_g ["self","place","kind","target","goes_on","backs"] []
 m_g:Meth K a.c_C1 "add_edges" a.f_g
 F_h:Fun K "add_edge" "Graph.add_edge" s_h a.f_h a.d_h
 b_h:Binds K a.d_h ["self","place","onward","steps"] []
 m_h:Meth K a.c_C1 "add_edge" a.f_h
 F_i:Fun K "distances_to" "Graph.distances_to" s_i a.f_i a.d_i
 b_i:Binds K a.d_i ["self","target"] []
 m_i:Meth K a.c_C1 "distances_to" a.f_i
 F_j:Fun K "find_distances_to" "Graph.find_distances_to" s_j a.f_j a.d_j
 b_j:Binds K a.d_j ["self","target"] []
 m_j:Meth K a.c_C1 "find_distances_to" a.f_j
 F_k:Fun K "ending_places" "Graph.ending_places" s_k a.f_k a.d_k
 b_k:Binds K a.d_k ["self"] []
 m_k:Meth K a.c_C1 "ending_places" a.f_k
 F_l:Fun K "places_always_back" "Graph.places_always_back" s_l a.f_l a.d_l
 b_l:Binds K a.d_l ["self"] []
 m_l:Meth K a.c_C1 "places_always_back" a.f_l
 F_m:Fun K "leading_only_to" "Graph.leading_only_to" s_m a.f_m a.d_m
 b_m:Binds K a.d_m ["self","last"] []
 m_m:Meth K a.c_C1 "leading_only_to" a.f_m
 F_n:Fun K "__init__" "Ways.__init__" s_n a.f_n a.d_n
 b_n:Binds K a.d_n ["self","value_count","steps_at","backs","distances"] []
 m_n:Meth K a.c_C2 "__init__" a.f_n
 F_o:Fun K "fewest_from" "Ways.fewest_from" s_o a.f_o a.d_o
 b_o:Binds K a.d_o ["self","place","latest"] []
 m_o:Meth K a.c_C2 "fewest_from" a.f_o
 F_p:Fun K "call" "Ways.call" s_p a.f_p a.d_p
 b_p:Binds K a.d_p ["self","goes_on","latest"] []
 m_p:Meth K a.c_C2 "call" a.f_p
 F_q:Fun K "state_after" "Ways.state_after" s_q a.f_q a.d_q
 b_q:Binds K a.d_q ["self","kind","target","goes_on","latest"] []
 m_q:Meth K a.c_C2 "state_after" a.f_q
 F_r:Fun K "first_step" "Ways.first_step" s_r a.f_r a.d_r
 b_r:Binds K a.d_r ["self","state","left"] []
 m_r:Meth K a.c_C2 "first_step" a.f_r
 F_s:Fun K "earliest_from" "Ways.earliest_from" s_s a.f_s a.d_s
 b_s:Binds K a.d_s ["self","place"] []
 m_s:Meth K a.c_C2 "earliest_from" a.f_s
 F_t:Fun K "__init__" "Runs.__init__" s_t a.f_t a.d_t
 b_t:Binds K a.d_t ["self","value_count","point_count"] []
 m_t:Meth K a.c_C3 "__init__" a.f_t
 F_u:Fun K "add_rule" "Runs.add_rule" s_u a.f_u a.d_u
 b_u:Binds K a.d_u ["self","point","when","kind","set_to","start","goes_on"] []
 m_u:Meth K a.c_C3 "add_rule" a.f_u
 F_v:Fun K "add_step" "Runs.add_step" s_v a.f_v a.d_v
 b_v:Binds K a.d_v ["self","place","kind","target","goes_on"] []
 m_v:Meth K a.c_C3 "add_step" a.f_v
 F_w:Fun K "graph_of_now" "Runs.graph_of_now" s_w a.f_w a.d_w
 b_w:Binds K a.d_w ["self"] []
 m_w:Meth K a.c_C3 "graph_of_now" a.f_w
 F_x:Fun K "fewest_till_back" "Runs.fewest_till_back" s_x a.f_x a.d_x
 b_x:Binds K a.d_x ["self","place","end"] []
 m_x:Meth K a.c_C3 "fewest_till_back" a.f_x
 F_y:Fun K "fewest_to" "Runs.fewest_to" s_y a.f_y a.d_y
 b_y:Binds K a.d_y ["self","place","target"] []
 m_y:Meth K a.c_C3 "fewest_to" a.f_y
 F_z:Fun K "earliest_way" "Runs.earliest_way" s_z a.f_z a.d_z
 b_z:Binds K a.d_z ["self","place","target"] []
 m_z:Meth K a.c_C3 "earliest_way" a.f_z
 F_A:Fun K "can_go_on_for_ever" "Runs.can_go_on_for_ever" s_A a.f_A a.d_A
 b_A:Binds K a.d_A ["self","place"] []
 m_A:Meth K a.c_C3 "can_go_on_for_ever" a.f_A
 F_B:Fun K "is_always_back" "Runs.is_always_back" s_B a.f_B a.d_B
 b_B:Binds K a.d_B ["self","place"] []
 m_B:Meth K a.c_C3 "is_always_back" a.f_B
 F_C:Fun K "told_of_steps" "told_of_steps" s_C a.f_C a.d_C
 b_C:Binds K a.d_C ["steps"] []
 mg_C:mg "told_of_steps" =some (.ref a.f_C)
 k_C:PySem.W.keepIn K (.ref a.f_C)=true
 F_D:Fun K "__init__" "Program.__init__" s_D a.f_D a.d_D
 b_D:Binds K a.d_D ["self"] []
 m_D:Meth K a.c_C4 "__init__" a.f_D
 F_E:Fun K "has_value" "Program.has_value" s_E a.f_E a.d_E
 b_E:Binds K a.d_E ["self","value"] []
 m_E:Meth K a.c_C4 "has_value" a.f_E
 F_F:Fun K "has_point" "Program.has_point" s_F a.f_F a.d_F
 b_F:Binds K a.d_F ["self","point"] []
 m_F:Meth K a.c_C4 "has_point" a.f_F
 F_G:Fun K "has_place" "Program.has_place" s_G a.f_G a.d_G
 b_G:Binds K a.d_G ["self","value","point"] []
 m_G:Meth K a.c_C4 "has_place" a.f_G
 F_H:Fun K "has_function" "Program.has_function" s_H a.f_H a.d_H
 b_H:Binds K a.d_H ["self","number"] []
 m_H:Meth K a.c_C4 "has_function" a.f_H
 F_I:Fun K "begin" "Program.begin" s_I a.f_I a.d_I
 b_I:Binds K a.d_I ["self","value_count","point_count"] []
 m_I:Meth K a.c_C4 "begin" a.f_I
 F_J:Fun K "function" "Program.function" s_J a.f_J a.d_J
 b_J:Binds K a.d_J ["self","point"] []
 m_J:Meth K a.c_C4 "function" a.f_J
 F_K:Fun K "leads_somewhere" "Program.leads_somewhere" s_K a.f_K a.d_K
 b_K:Binds K a.d_K ["self","kind","to","goes_on"] []
 m_K:Meth K a.c_C4 "leads_somewhere" a.f_K
 F_L:Fun K "is_value_or_any" "Program.is_value_or_any" s_L a.f_L a.d_L
 b_L:Binds K a.d_L ["self","value"] []
 m_L:Meth K a.c_C4 "is_value_or_any" a.f_L
 F_M:Fun K "rule" "Program.rule" s_M a.f_M a.d_M
 b_M:Binds K a.d_M ["self","point","when","kind","set_to","to","goes_on"] []
 m_M:Meth K a.c_C4 "rule" a.f_M
 F_N:Fun K "back" "Program.back" s_N a.f_N a.d_N
 b_N:Binds K a.d_N ["self","number","value","end"] []
 m_N:Meth K a.c_C4 "back" a.f_N
 F_O:Fun K "reach" "Program.reach" s_O a.f_O a.d_O
 b_O:Binds K a.d_O ["self","value","point","end","goal"] []
 m_O:Meth K a.c_C4 "reach" a.f_O
 F_P:Fun K "way" "Program.way" s_P a.f_P a.d_P
 b_P:Binds K a.d_P ["self","value","point","end","goal"] []
 m_P:Meth K a.c_C4 "way" a.f_P
 F_Q:Fun K "forever" "Program.forever" s_Q a.f_Q a.d_Q
 b_Q:Binds K a.d_Q ["self","value","point"] []
 m_Q:Meth K a.c_C4 "forever" a.f_Q
 F_R:Fun K "always" "Program.always" s_R a.f_R a.d_R
 b_R:Binds K a.d_R ["self","value","point"] []
 m_R:Meth K a.c_C4 "always" a.f_R
 F_S:Fun K "answer" "answer" s_S a.f_S a.d_S
 b_S:Binds K a.d_S ["program","number","given"] []
 mg_S:mg "answer" =some (.ref a.f_S)
 k_S:PySem.W.keepIn K (.ref a.f_S)=true
 F_T:Fun K "answers" "answers" s_T a.f_T a.d_T
 b_T:Binds K a.d_T ["calls"] []
 mg_T:mg "answers" =some (.ref a.f_T)
 k_T:PySem.W.keepIn K (.ref a.f_T)=true
 g_GO:∃t,mg "GO" =some (.int (0) t)
 g_CALL:∃t,mg "CALL" =some (.int (1) t)
 g_NO_WAY:∃t,mg "NO_WAY" =some (.int (33) t)
 g_ANY:∃t,mg "ANY" =some (.int (4) t)
 g_TOO_MANY_STEPS:∃t,mg "TOO_MANY_STEPS" =some (.int (4611686018427387904) t)
 g_DONE:∃t,mg "DONE" =some (.int (0) t)
 g_NO_RUN:∃t,mg "NO_RUN" =some (.int (-6) t)
 g_TOO_FAR:∃t,mg "TOO_FAR" =some (.int (-75) t)
 g_WRONG:∃t,mg "WRONG" =some (.int (-22) t)
 g_MOST_VALUES:∃t,mg "MOST_VALUES" =some (.int (4) t)
 g_MOST_POINTS:∃t,mg "MOST_POINTS" =some (.int (32) t)
 g_MOST_FUNCTIONS:∃t,mg "MOST_FUNCTIONS" =some (.int (8) t)
 g_FULL:∃t,mg "FULL" =some (.int (-28) t)
 g_COME_BACK:∃t,mg "COME_BACK" =some (.int (2) t)
 g_MOST_RULES:∃t,mg "MOST_RULES" =some (.int (64) t)
 g_NOT_THERE:∃t,mg "NOT_THERE" =some (.int (-2) t)
 g_MOST_STEPS:∃t,mg "MOST_STEPS" =some (.int (32) t)
 g_TOO_LONG:∃t,mg "TOO_LONG" =some (.int (-28) t)
 g_ARGUMENT_COUNTS:mg "ARGUMENT_COUNTS" =some (.ref a.t_ARGUMENT_COUNTS)
 s_ARGUMENT_COUNTS:∀H:Hp,SqT K H a.t_ARGUMENT_COUNTS ([2,1,6,3,4,4,2,2].map V.int)
 z_len:mg "len" =none
 z_dict:mg "dict" =none
 z_list:mg "list" =none
 z_min:mg "min" =none
 z_range:mg "range" =none
 z_divmod:mg "divmod" =none
theorem sc_0:FnScope ["heap","entry","at"] ["heap","entry"] (defScope s_0):=⟨rfl,rfl,rfl,by decide +kernel,rfl,by decide +kernel,by decide +kernel⟩
theorem sc_1:FnScope ["heap","at","left"] ["heap","at"] (defScope s_1):=⟨rfl,rfl,rfl,by decide +kernel,rfl,by decide +kernel,by decide +kernel⟩
theorem sc_2:FnScope ["heap","entry","at","child"] ["heap","entry"] (defScope s_2):=⟨rfl,rfl,rfl,by decide +kernel,rfl,by decide +kernel,by decide +kernel⟩
theorem sc_3:FnScope ["heap","last","least"] ["heap"] (defScope s_3):=⟨rfl,rfl,rfl,by decide +kernel,rfl,by decide +kernel,by decide +kernel⟩
theorem sc_4:FnScope ["self"] ["self"] (defScope s_4):=⟨rfl,rfl,rfl,by decide +kernel,rfl,by decide +kernel,by decide +kernel⟩
theorem sc_5:FnScope ["self","place","kind","target","goes_on","value","steps"] ["self","place","kind","target","goes_on"] (defScope s_5):=⟨rfl,rfl,rfl,by decide +kernel,rfl,by decide +kernel,by decide +kernel⟩
theorem sc_6:FnScope ["self","place"] ["self","place"] (defScope s_6):=⟨rfl,rfl,rfl,by decide +kernel,rfl,by decide +kernel,by decide +kernel⟩
theorem sc_7:FnScope ["self","place","end","steps"] ["self","place","end","steps"] (defScope s_7):=⟨rfl,rfl,rfl,by decide +kernel,rfl,by decide +kernel,by decide +kernel⟩
theorem sc_8:FnScope ["self","place","onward","steps","end","rest"] ["self","place","onward","steps"] (defScope s_8):=⟨rfl,rfl,rfl,by decide +kernel,rfl,by decide +kernel,by decide +kernel⟩
theorem sc_9:FnScope ["self","place","end","steps","before"] ["self","place","end","steps"] (defScope s_9):=⟨rfl,rfl,rfl,by decide +kernel,rfl,by decide +kernel,by decide +kernel⟩
theorem sc_a:FnScope ["self","best"] ["self"] (defScope s_a):=⟨rfl,rfl,rfl,by decide +kernel,rfl,by decide +kernel,by decide +kernel⟩
theorem sc_b:FnScope ["self","place","end","steps","ends"] ["self","place","end","steps"] (defScope s_b):=⟨rfl,rfl,rfl,by decide +kernel,rfl,by decide +kernel,by decide +kernel⟩
theorem sc_c:FnScope ["self","place","end","steps","goer"] ["self","place","end","steps"] (defScope s_c):=⟨rfl,rfl,rfl,by decide +kernel,rfl,by decide +kernel,by decide +kernel⟩
theorem sc_d:FnScope ["self","place","end","steps","caller","goes_on"] ["self","place","end","steps"] (defScope s_d):=⟨rfl,rfl,rfl,by decide +kernel,rfl,by decide +kernel,by decide +kernel⟩
theorem sc_e:FnScope ["self","place","end","steps","caller","target","within"] ["self","place","end","steps"] (defScope s_e):=⟨rfl,rfl,rfl,by decide +kernel,rfl,by decide +kernel,by decide +kernel⟩
theorem sc_f:FnScope ["self","places","steps_at","backs","place","steps","number","kind","target","goes_on"] ["self","places","steps_at","backs"] (defScope s_f):=⟨rfl,rfl,rfl,by decide +kernel,rfl,by decide +kernel,by decide +kernel⟩
theorem sc_g:FnScope ["self","place","kind","target","goes_on","backs","value","steps"] ["self","place","kind","target","goes_on","backs"] (defScope s_g):=⟨rfl,rfl,rfl,by decide +kernel,rfl,by decide +kernel,by decide +kernel⟩
theorem sc_h:FnScope ["self","place","onward","steps","sources"] ["self","place","onward","steps"] (defScope s_h):=⟨rfl,rfl,rfl,by decide +kernel,rfl,by decide +kernel,by decide +kernel⟩
theorem sc_i:FnScope ["self","target"] ["self","target"] (defScope s_i):=⟨rfl,rfl,rfl,by decide +kernel,rfl,by decide +kernel,by decide +kernel⟩
theorem sc_j:FnScope ["self","target","found","offers","best","source","steps"] ["self","target"] (defScope s_j):=⟨rfl,rfl,rfl,by decide +kernel,rfl,by decide +kernel,by decide +kernel⟩
theorem sc_k:FnScope ["self","place"] ["self"] (defScope s_k):=⟨rfl,rfl,rfl,by decide +kernel,rfl,by decide +kernel,by decide +kernel⟩
theorem sc_l:FnScope ["self","last","place"] ["self"] (defScope s_l):=⟨rfl,rfl,rfl,by decide +kernel,rfl,by decide +kernel,by decide +kernel⟩
theorem sc_m:FnScope ["self","last","found","left","ahead","place","source"] ["self","last"] (defScope s_m):=⟨rfl,rfl,rfl,by decide +kernel,rfl,by decide +kernel,by decide +kernel⟩
theorem sc_n:FnScope ["self","value_count","steps_at","backs","distances"] ["self","value_count","steps_at","backs","distances"] (defScope s_n):=⟨rfl,rfl,rfl,by decide +kernel,rfl,by decide +kernel,by decide +kernel⟩
theorem sc_o:FnScope ["self","place","latest","fewest","end","steps"] ["self","place","latest"] (defScope s_o):=⟨rfl,rfl,rfl,by decide +kernel,rfl,by decide +kernel,by decide +kernel⟩
theorem sc_p:FnScope ["self","goes_on","latest","behind","value"] ["self","goes_on","latest"] (defScope s_p):=⟨rfl,rfl,rfl,by decide +kernel,rfl,by decide +kernel,by decide +kernel⟩
theorem sc_q:FnScope ["self","kind","target","goes_on","latest"] ["self","kind","target","goes_on","latest"] (defScope s_q):=⟨rfl,rfl,rfl,by decide +kernel,rfl,by decide +kernel,by decide +kernel⟩
theorem sc_r:FnScope ["self","state","left","number","kind","target","goes_on","after"] ["self","state","left"] (defScope s_r):=⟨rfl,rfl,rfl,by decide +kernel,rfl,by decide +kernel,by decide +kernel⟩
theorem sc_s:FnScope ["self","place","numbers","state","left","step"] ["self","place"] (defScope s_s):=⟨rfl,rfl,rfl,by decide +kernel,rfl,by decide +kernel,by decide +kernel⟩
theorem sc_t:FnScope ["self","value_count","point_count","number"] ["self","value_count","point_count"] (defScope s_t):=⟨rfl,rfl,rfl,by decide +kernel,rfl,by decide +kernel,by decide +kernel⟩
theorem sc_u:FnScope ["self","point","when","kind","set_to","start","goes_on","value","after"] ["self","point","when","kind","set_to","start","goes_on"] (defScope s_u):=⟨rfl,rfl,rfl,by decide +kernel,rfl,by decide +kernel,by decide +kernel⟩
theorem sc_v:FnScope ["self","place","kind","target","goes_on"] ["self","place","kind","target","goes_on"] (defScope s_v):=⟨rfl,rfl,rfl,by decide +kernel,rfl,by decide +kernel,by decide +kernel⟩
theorem sc_w:FnScope ["self"] ["self"] (defScope s_w):=⟨rfl,rfl,rfl,by decide +kernel,rfl,by decide +kernel,by decide +kernel⟩
theorem sc_x:FnScope ["self","place","end"] ["self","place","end"] (defScope s_x):=⟨rfl,rfl,rfl,by decide +kernel,rfl,by decide +kernel,by decide +kernel⟩
theorem sc_y:FnScope ["self","place","target"] ["self","place","target"] (defScope s_y):=⟨rfl,rfl,rfl,by decide +kernel,rfl,by decide +kernel,by decide +kernel⟩
theorem sc_z:FnScope ["self","place","target","distances"] ["self","place","target"] (defScope s_z):=⟨rfl,rfl,rfl,by decide +kernel,rfl,by decide +kernel,by decide +kernel⟩
theorem sc_A:FnScope ["self","place"] ["self","place"] (defScope s_A):=⟨rfl,rfl,rfl,by decide +kernel,rfl,by decide +kernel,by decide +kernel⟩
theorem sc_B:FnScope ["self","place"] ["self","place"] (defScope s_B):=⟨rfl,rfl,rfl,by decide +kernel,rfl,by decide +kernel,by decide +kernel⟩
theorem sc_C:FnScope ["steps"] ["steps"] (defScope s_C):=⟨rfl,rfl,rfl,by decide +kernel,rfl,by decide +kernel,by decide +kernel⟩
theorem sc_D:FnScope ["self"] ["self"] (defScope s_D):=⟨rfl,rfl,rfl,by decide +kernel,rfl,by decide +kernel,by decide +kernel⟩
theorem sc_E:FnScope ["self","value"] ["self","value"] (defScope s_E):=⟨rfl,rfl,rfl,by decide +kernel,rfl,by decide +kernel,by decide +kernel⟩
theorem sc_F:FnScope ["self","point"] ["self","point"] (defScope s_F):=⟨rfl,rfl,rfl,by decide +kernel,rfl,by decide +kernel,by decide +kernel⟩
theorem sc_G:FnScope ["self","value","point"] ["self","value","point"] (defScope s_G):=⟨rfl,rfl,rfl,by decide +kernel,rfl,by decide +kernel,by decide +kernel⟩
theorem sc_H:FnScope ["self","number"] ["self","number"] (defScope s_H):=⟨rfl,rfl,rfl,by decide +kernel,rfl,by decide +kernel,by decide +kernel⟩
theorem sc_I:FnScope ["self","value_count","point_count"] ["self","value_count","point_count"] (defScope s_I):=⟨rfl,rfl,rfl,by decide +kernel,rfl,by decide +kernel,by decide +kernel⟩
theorem sc_J:FnScope ["self","point"] ["self","point"] (defScope s_J):=⟨rfl,rfl,rfl,by decide +kernel,rfl,by decide +kernel,by decide +kernel⟩
theorem sc_K:FnScope ["self","kind","to","goes_on"] ["self","kind","to","goes_on"] (defScope s_K):=⟨rfl,rfl,rfl,by decide +kernel,rfl,by decide +kernel,by decide +kernel⟩
theorem sc_L:FnScope ["self","value"] ["self","value"] (defScope s_L):=⟨rfl,rfl,rfl,by decide +kernel,rfl,by decide +kernel,by decide +kernel⟩
theorem sc_M:FnScope ["self","point","when","kind","set_to","to","goes_on","start"] ["self","point","when","kind","set_to","to","goes_on"] (defScope s_M):=⟨rfl,rfl,rfl,by decide +kernel,rfl,by decide +kernel,by decide +kernel⟩
theorem sc_N:FnScope ["self","number","value","end"] ["self","number","value","end"] (defScope s_N):=⟨rfl,rfl,rfl,by decide +kernel,rfl,by decide +kernel,by decide +kernel⟩
theorem sc_O:FnScope ["self","value","point","end","goal"] ["self","value","point","end","goal"] (defScope s_O):=⟨rfl,rfl,rfl,by decide +kernel,rfl,by decide +kernel,by decide +kernel⟩
theorem sc_P:FnScope ["self","value","point","end","goal","steps"] ["self","value","point","end","goal"] (defScope s_P):=⟨rfl,rfl,rfl,by decide +kernel,rfl,by decide +kernel,by decide +kernel⟩
theorem sc_Q:FnScope ["self","value","point"] ["self","value","point"] (defScope s_Q):=⟨rfl,rfl,rfl,by decide +kernel,rfl,by decide +kernel,by decide +kernel⟩
theorem sc_R:FnScope ["self","value","point"] ["self","value","point"] (defScope s_R):=⟨rfl,rfl,rfl,by decide +kernel,rfl,by decide +kernel,by decide +kernel⟩
theorem sc_S:FnScope ["program","number","given"] ["program","number","given"] (defScope s_S):=⟨rfl,rfl,rfl,by decide +kernel,rfl,by decide +kernel,by decide +kernel⟩
theorem sc_T:FnScope ["calls","program","told","at","number","behind","one"] ["calls"] (defScope s_T):=⟨rfl,rfl,rfl,by decide +kernel,rfl,by decide +kernel,by decide +kernel⟩
end R
end
section
namespace R
open PySem PySem.Spec PyProof.Rows L2
open KA (Pl InP get put)
open KTh (Kn Off Rec Cov Cl1)
section
variable {α β:Type} {F:α→β→Prop}
theorem prd_set:∀{l:List α} {m:List β} (i:Nat) {x:α} {y:β},Paired F l m→F x y→Paired F (l.set i x) (m.set i y)
 |_,_,_,_,_,.nil,_=> .nil
 |_,_,0,_,_,.cons _ t,h=> .cons h t
 |_,_,i+1,_,_,.cons q t,h=> .cons q (prd_set i t h)
theorem prd_app:∀{l l':List α} {m m':List β},Paired F l m→Paired F l' m'→Paired F (l++l') (m++m')
 |_,_,_,_,.nil,h=>h
 |_,_,_,_,.cons q t,h=> .cons q (prd_app t h)
theorem prd_at {l:List α} {m:List β} (h:Paired F l m) {d:β} {i:Nat} (hi:i<m.length):∃x,l[i]?=some x∧F x (m.getD i d):=by
 induction h generalizing i with
 |nil=>exact absurd hi (by simp)
 |cons q t ih=>
  cases i with
  |zero=>exact⟨_,rfl,q⟩
  |succ i=>
   obtain⟨x,e,r⟩:=ih (i:=i) (by simpa using hi)
   exact⟨x,e,r⟩
theorem prd_dropLast:∀{l:List α} {m:List β},Paired F l m→Paired F l.dropLast m.dropLast
 |_,_,.nil=> .nil
 |_,_,.cons _ .nil=> .nil
 |_,_,.cons q (.cons r t)=> .cons q (prd_dropLast (.cons r t))
theorem prd_len {l:List α} {m:List β} (h:Paired F l m):l.length=m.length:=Paired.length h
end
variable {P:Program} {w:World} {K:PySem.W.Frag} {mg:Str→Option Value} {base:Heap} {a:Ad}
theorem ixN_nat {n k:Nat} (h:k<n):ixN n (k:Int)=some k:=by
 unfold ixN
 rw[if_pos (by omega),if_pos (by omega)]
 rfl
theorem big {n:Nat} (h:n<10000000):n<sizeLine:=by rw[sizeLine_eq];omega
theorem tup_upd {H:Hp} {l:Addr} {xs ys:List V} (h:H l=some (.lst xs)):∀b zs,H b=some (.tup zs)→(upd H l (.lst ys)) b=some (.tup zs):=fun b zs e=>by
 rw[upd_ne (ne_of e h fun z=>nomatch z)];exact e
def spPush:Sp:=fun vs H Q _=>∃(l e0:Addr) (xs:List V) (es:List (List Int)) (e:List Int) (n:Nat),vs= [.ref l,.ref e0]∧H l=some (.lst xs)∧Ents H n xs es∧Ent H e0 e∧e.length=n∧xs.length<9000000∧HpL es∧
 ∀ys es',Ents H n ys es'→es'.length=es.length+1→(∀y,y∈es'↔y∈es∨y=e)→HpL es'→Q .non (upd H l (.lst ys))
theorem ok_0 (T:Txt K mg a):FnOk P w K mg base CX0 1 a.f_0 a.d_0 ["heap","entry"] spPush:=by
 refine T.F_0.ok sc_0 (fun vs H Q E h=> ?_) (fun cdv A outer s H vs Q E hr h=> ?_)
 ·obtain⟨l,e0,xs,es,e,n,rfl,_⟩:=h
  rfl
 ·obtain⟨l,e0,xs,es,e,n,rfl,hl,hE,he,hn,hz,hp,k⟩:=h
  have hu:=hu_of hr
  refine⟨_,(pss_cons (ps_expr (pe_bm PySem.F.plainAttrs_list PySem.F.slot_list_append PySem.F.type_list_append mt_append (pv 0) (pa_cons (pv 1) pa_nil)))
   (pss_cons (ps_set (i:=2) sc_0.nd rfl (Or.inl rfl) (pe_op op_sub (pe_callB call_len_seq (by rfl) T.z_len PySem.boot_len (pa_cons (pv 0) pa_nil)) pe_int))
   (pss_cons (ps_while PassesOwn.never (PW.pt (pw_and (pt_cmpR op_gt (pv 2) pe_int (nomark _)) (pw_and1 (pt_cmpR (op_ltN hu) (pv 1) (pe_ix ix_list (pv 0) (pe_op op_fdiv (pe_op op_sub (pv 2) pe_int) pe_int) (fun _ _=>rfl)) (nomark _))))) (pss_cons (ps_asg (pe_ix ix_list (pv 0) (pe_op op_fdiv (pe_op op_sub (pv 2) pe_int) pe_int) (fun _ _=>rfl)) (pg_sub (pv 0) (pv 2) set_list))
   (pss_one (ps_set (i:=2) sc_0.nd rfl (Or.inl rfl) (pe_op op_fdiv (pe_op op_sub (pv 2) pe_int) pe_int)))))
   (pss_one (ps_asg (pv 1) (pg_sub (pv 0) (pv 2) set_list)))))),?_⟩
  have hlen:=prd_len hE
  refine⟨_,rfl,.inl ⟨rfl,_,SqL.of hl⟩,_,rfl,l,xs,_,rfl,rfl,hl,big (by omega),?_⟩
  refine⟨_,rfl,l,_,rfl,.inl (SqL.of upd_same),_,_,rfl,rfl,?_⟩
  have ent:EntL H n (.ref e0) e:=⟨⟨e0,rfl,he⟩,hn⟩
  refine⟨fun m σ H'=>∃(zs:List V) (hs:List (List Int)),σ= [some (.ref l),some (.ref e0),some (.int (m:Int))]∧H'=upd H l (.lst zs)∧Ents H n zs hs∧KH.Up HT.lexLt [] (es++ [e]) hs e m,⟨es.length,xs++ [.ref e0],es++ [e],?_,rfl,prd_app hE (.cons ent .nil),KH.Up.start ordL hp⟩,?_⟩
  ·have e1:((xs++ [V.ref e0]).length:Int)-1=(es.length:Int):=by rw[List.length_append,List.length_singleton];omega
   show [_,_,some (V.int (((xs++ [V.ref e0]).length:Int)-1))]=_
   rw[e1]
  ·rintro m σ H' ⟨zs,hs,rfl,rfl,hZ,U⟩
   have hzl:=prd_len hZ
   have hUk:=U.lk
   have hUn:=U.ln
   refine⟨_,rfl,_,_,rfl,rfl,_,rfl,ite2 (fun h=> ?_) (fun h=> ?_)⟩
   ·have hm:0<m:=by have:=of_decide_eq_true h;omega
    have e1:((m:Int)-1)/2=(((m-1)/2:Nat):Int):=by omega
    obtain⟨x,hx,⟨⟨a1,rfl,ha1⟩,hn1⟩⟩:=prd_at hZ (d:= []) (i:=(m-1)/2) (by omega)
    have hat:atI zs (((m:Int)-1)/2)=some (V.ref a1):=at_of e1 hx
    have tu:=tup_upd (ys:=zs) hl
    refine⟨_,rfl,_,rfl,_,rfl,_,_,rfl,rfl,_,_,rfl,rfl,⟨by decide,by decide⟩,l,zs,_,_,rfl,rfl,SqL.of upd_same,hat,e0,a1,e,_,rfl,rfl,Ent.tups tu he,Ent.tups tu ha1,by rw[hn,hn1],_,rfl,?_⟩
    refine ite2 (fun hlt=> ?_) (fun hlt=> ?_)
    ·refine⟨_,fun σ' H' h=>⟨(m-1)/2,by omega,h⟩,?_⟩
     refine⟨_,rfl,_,rfl,_,_,rfl,rfl,_,_,rfl,rfl,⟨by decide,by decide⟩,l,zs,_,_,rfl,rfl,SqL.of upd_same,hat,_,rfl,_,rfl,l,zs,_,m,rfl,rfl,upd_same,ixN_nat (by omega),?_⟩
     refine⟨_,rfl,_,_,rfl,rfl,_,_,rfl,rfl,⟨by decide,by decide⟩,zs.set m (.ref a1),hs.set m (hs.getD ((m-1)/2) []),?_,upd_upd,prd_set m hZ ⟨⟨a1,rfl,ha1⟩,hn1⟩,U.step ordL hm hlt⟩
     show [_,_,some (V.int (((m:Int)-1)/2))]=_
     rw[e1]
    ·refine⟨_,rfl,_,rfl,_,rfl,l,zs,_,m,rfl,rfl,upd_same,ixN_nat (by omega),?_⟩
     rw[upd_upd]
     obtain⟨d1,d2,d3⟩:=U.done ordL (.inr (Bool.not_eq_true _▸hlt))
     refine k _ _ (prd_set m hZ ent) ?_ (fun y=> ?_) d1
     ·rw[d2,List.length_append];rfl
     ·rw[d3,List.mem_append,List.mem_singleton]
   ·have hm:m=0:=by
     cases m with
     |zero=>rfl
     |succ m=>exact absurd (decide_eq_true (show (0:Int)<((m+1:Nat):Int) by omega)) h
    subst hm
    refine iteF ⟨_,rfl,_,rfl,_,rfl,l,zs,_,0,rfl,rfl,upd_same,ixN_nat (by omega),?_⟩
    rw[upd_upd]
    obtain⟨d1,d2,d3⟩:=U.done ordL (.inl rfl)
    refine k _ _ (prd_set 0 hZ ent) ?_ (fun y=> ?_) d1
    ·rw[d2,List.length_append];rfl
    ·rw[d3,List.mem_append,List.mem_singleton]
def spLesser:Sp:=fun vs H Q _=>∃(l:Addr) (xs:List V) (es:List (List Int)) (n k:Nat),vs= [.ref l,.int (k:Int)]∧H l=some (.lst xs)∧Ents H n xs es∧k<es.length∧xs.length<10000000∧∀c,KH.Kid HT.lexLt [] es k c→Q (.int (c:Int)) H
theorem ok_1 (T:Txt K mg a):FnOk P w K mg base CX0 1 a.f_1 a.d_1 ["heap","at"] spLesser:=by
 refine T.F_1.ok sc_1 (fun vs H Q E h=> ?_) (fun cdv A outer s H vs Q E hr h=> ?_)
 ·obtain⟨l,xs,es,n,k,rfl,_⟩:=h
  rfl
 ·obtain⟨l,xs,es,n,k,rfl,hl,hE,hk,hz,q⟩:=h
  have hu:=hu_of hr
  refine⟨_,(pss_cons (ps_set (i:=2) sc_1.nd rfl (Or.inl rfl) (pe_op op_add (pe_op op_mul pe_int (pv 1)) pe_int))
   (pss_cons (ps_if (PW.pt (pw_and (pt_cmpR op_lt (pe_op op_add (pv 2) pe_int) (pe_callB call_len_seq (by rfl) T.z_len PySem.boot_len (pa_cons (pv 0) pa_nil)) (nomark _)) (pw_and1 (pt_cmpR (op_ltN hu) (pe_ix ix_list (pv 0) (pe_op op_add (pv 2) pe_int) (fun _ _=>rfl)) (pe_ix ix_list (pv 0) (pv 2) (fun _ _=>rfl)) (nomark _))))) (pss_one (ps_ret (pe_op op_add (pv 2) pe_int))) pss_nil)
   (pss_one (ps_ret (pv 2))))),?_⟩
  have hlen:=prd_len hE
  refine⟨_,rfl,_,_,rfl,rfl,.inl ⟨by decide,by decide⟩,_,_,rfl,rfl,?_⟩
  refine⟨_,rfl,_,_,rfl,rfl,_,rfl,l,_,rfl,.inl (SqL.of hl),_,_,rfl,rfl,_,rfl,ite2 (fun h=> ?_) (fun h=> ?_)⟩
  ·have h1:2*k+1+1<es.length:=by have:=of_decide_eq_true h;omega
   obtain⟨x,hx,⟨⟨a1,rfl,ha1⟩,hn1⟩⟩:=prd_at hE (d:= []) (i:=2*k+1+1) h1
   obtain⟨y,hy,⟨⟨a2,rfl,ha2⟩,hn2⟩⟩:=prd_at hE (d:= []) (i:=2*k+1) (by omega)
   have e1:(2:Int)*k+1+1=((2*k+1+1:Nat):Int):=by omega
   have e2:(2:Int)*k+1=((2*k+1:Nat):Int):=by omega
   refine⟨_,rfl,_,rfl,_,_,rfl,rfl,l,xs,_,_,rfl,rfl,SqL.of hl,at_of e1 hx,_,rfl,_,rfl,l,xs,_,_,rfl,rfl,SqL.of hl,at_of e2 hy,a1,a2,_,_,rfl,rfl,ha1,ha2,by rw[hn1,hn2],_,rfl,ite2 (fun hlt=> ?_) (fun hlt=> ?_)⟩
   ·refine⟨_,rfl,_,_,rfl,rfl,?_⟩
    show Q (.int ((2:Int)*k+1+1)) H
    rw[e1]
    exact q _ (by unfold KH.Kid;rw[if_pos ⟨h1,hlt⟩])
   ·refine⟨_,rfl,?_⟩
    show Q (.int ((2:Int)*k+1)) H
    rw[e2]
    exact q _ (by unfold KH.Kid;rw[if_neg fun z=>hlt z.2])
  ·have e2:(2:Int)*k+1=((2*k+1:Nat):Int):=by omega
   refine iteF ⟨_,rfl,?_⟩
   show Q (.int ((2:Int)*k+1)) H
   rw[e2]
   exact q _ (by unfold KH.Kid;rw[if_neg fun z=>h (decide_eq_true (by have:=z.1;omega))])
def spSink:Sp:=fun vs H Q _=>∃(l e0:Addr) (xs:List V) (es:List (List Int)) (e:List Int) (n:Nat),vs= [.ref l,.ref e0]∧H l=some (.lst xs)∧Ents H n xs es∧Ent H e0 e∧e.length=n∧xs.length<10000000∧0<es.length∧HpL es∧
 ∀ys es',Ents H n ys es'→es'.length=es.length→(∀y,y∈es'↔y∈es.set 0 e)→HpL es'→Q .non (upd H l (.lst ys))
theorem ok_2 (T:Txt K mg a):FnOk P w K mg base CX0 2 a.f_2 a.d_2 ["heap","entry"] spSink:=by
 have G_1:=ok_1 (P:=P) (w:=w) (base:=base) T
 refine T.F_2.ok sc_2 (fun vs H Q E h=> ?_) (fun cdv A outer s H vs Q E hr h=> ?_)
 ·obtain⟨l,e0,xs,es,e,n,rfl,_⟩:=h
  rfl
 ·obtain⟨l,e0,xs,es,e,n,rfl,hl,hE,he,hn,hz,h0,hp,k⟩:=h
  have hu:=hu_of hr
  refine⟨_,(pss_cons (ps_set (i:=2) sc_2.nd rfl (Or.inl rfl) pe_int)
   (pss_cons (ps_set (i:=3) sc_2.nd rfl (Or.inl rfl) (pe_call G_1 (hr.mono (by decide)) rfl T.mg_1 T.k_1 T.b_1 .nil pass0 (pa_cons (pv 0) (pa_cons (pv 2) pa_nil))))
   (pss_cons (ps_while PassesOwn.never (PW.pt (pw_and (pt_cmpR op_lt (pv 3) (pe_callB call_len_seq (by rfl) T.z_len PySem.boot_len (pa_cons (pv 0) pa_nil)) (nomark _)) (pw_and1 (pt_cmpR (op_ltN hu) (pe_ix ix_list (pv 0) (pv 3) (fun _ _=>rfl)) (pv 1) (nomark _))))) (pss_cons (ps_asg (pe_ix ix_list (pv 0) (pv 3) (fun _ _=>rfl)) (pg_sub (pv 0) (pv 2) set_list))
   (pss_cons (ps_set (i:=2) sc_2.nd rfl (Or.inl rfl) (pv 3))
   (pss_one (ps_set (i:=3) sc_2.nd rfl (Or.inl rfl) (pe_call G_1 (hr.mono (by decide)) rfl T.mg_1 T.k_1 T.b_1 .nil pass0 (pa_cons (pv 0) (pa_cons (pv 2) pa_nil))))))))
   (pss_one (ps_asg (pv 1) (pg_sub (pv 0) (pv 2) set_list)))))),?_⟩
  have hlen:=prd_len hE
  have ent:EntL H n (.ref e0) e:=⟨⟨e0,rfl,he⟩,hn⟩
  refine⟨_,rfl,_,rfl,l,xs,es,n,0,rfl,hl,hE,h0,hz,fun c hc=> ?_⟩
  refine⟨fun m σ H'=>∃(zs:List V) (hs:List (List Int)) (kk c:Nat),m=es.length-kk∧σ= [some (.ref l),some (.ref e0),some (.int (kk:Int)),some (.int (c:Int))]∧H'=upd H l (.lst zs)∧Ents H n zs hs∧KH.Dn HT.lexLt [] es hs e kk∧KH.Kid HT.lexLt [] hs kk c,⟨es.length-0,xs,es,0,c,rfl,rfl,?_,hE,KH.Dn.start hp h0,hc⟩,?_⟩
  ·funext b
   by_cases q:b=l
   ·rw[q,upd_same];exact hl
   ·rw[upd_ne q]
  ·rintro m σ H' ⟨zs,hs,kk,c,rfl,rfl,rfl,hZ,U,hc⟩
   have hzl:=prd_len hZ
   have hUk:=U.lk
   have hUn:=U.ln
   have hzz:zs.length<10000000:=by omega
   have tu:=tup_upd (ys:=zs) hl
   refine⟨_,rfl,_,rfl,l,_,rfl,.inl (SqL.of upd_same),_,_,rfl,rfl,_,rfl,ite2 (fun h=> ?_) (fun h=> ?_)⟩
   ·have h1:c<hs.length:=by have:=of_decide_eq_true h;omega
    obtain⟨x,hx,⟨⟨a1,rfl,ha1⟩,hn1⟩⟩:=prd_at hZ (d:= []) (i:=c) h1
    refine⟨_,rfl,_,rfl,l,zs,_,_,rfl,rfl,SqL.of upd_same,atI_nat hx,_,rfl,a1,e0,_,e,rfl,rfl,Ent.tups tu ha1,Ent.tups tu he,by rw[hn,hn1],_,rfl,ite2 (fun hlt=> ?_) (fun hlt=> ?_)⟩
    ·have ck:kk<c:=by unfold KH.Kid at hc;split at hc<;>omega
     have D2:=U.step ordL hc h1 hlt
     have hZ2:Ents H n (zs.set kk (.ref a1)) (hs.set kk (hs.getD c [])):=prd_set kk hZ ⟨⟨a1,rfl,ha1⟩,hn1⟩
     refine⟨_,fun σ' H' h=>⟨es.length-c,by omega,h⟩,?_⟩
     refine⟨_,rfl,_,rfl,l,zs,_,_,rfl,rfl,SqL.of upd_same,atI_nat hx,_,rfl,_,rfl,l,zs,_,kk,rfl,rfl,upd_same,ixN_nat (by omega),?_⟩
     refine⟨_,rfl,_,rfl,_,rfl,l,zs.set kk (.ref a1),hs.set kk (hs.getD c []),n,c,rfl,upd_same,?_,?_,?_,fun c' hc'=> ?_⟩
     ·rw[upd_upd]
      exact Ents.tups (tup_upd hl) hZ2
     ·rw[List.length_set];exact h1
     ·rw[List.length_set];exact hzz
     ·exact⟨_,_,c,c',rfl,rfl,upd_upd,hZ2,D2,hc'⟩
    ·refine⟨_,rfl,_,rfl,_,rfl,l,zs,_,kk,rfl,rfl,upd_same,ixN_nat (by omega),?_⟩
     rw[upd_upd]
     obtain⟨d1,d2,d3⟩:=U.done ordL hc (.inr (Bool.not_eq_true _▸hlt))
     exact k _ _ (prd_set kk hZ ent) d2 d3 d1
   ·refine iteF ⟨_,rfl,_,rfl,_,rfl,l,zs,_,kk,rfl,rfl,upd_same,ixN_nat (by omega),?_⟩
    rw[upd_upd]
    obtain⟨d1,d2,d3⟩:=U.done ordL hc (.inl fun z=>h (decide_eq_true (by omega)))
    exact k _ _ (prd_set kk hZ ent) d2 d3 d1
def spPop:Sp:=fun vs H Q _=>∃(l:Addr) (xs:List V) (es:List (List Int)) (n:Nat),vs= [.ref l]∧H l=some (.lst xs)∧Ents H n xs es∧xs.length<10000000∧0<es.length∧HpL es∧
 ∀(e0:Addr) (e:List Int) ys es',Ent H e0 e→e.length=n→e∈es→(∀y∈es,HT.lexLt y e=false)→Ents H n ys es'→es'.length+1=es.length→(∀y,y∈es→y=e∨y∈es')→(∀y∈es',y∈es)→HpL es'→Q (.ref e0) (upd H l (.lst ys))
theorem ok_3 (T:Txt K mg a):FnOk P w K mg base CX0 3 a.f_3 a.d_3 ["heap"] spPop:=by
 have G_2:=ok_2 (P:=P) (w:=w) (base:=base) T
 refine T.F_3.ok sc_3 (fun vs H Q E h=> ?_) (fun cdv A outer s H vs Q E hr h=> ?_)
 ·obtain⟨l,xs,es,n,rfl,_⟩:=h
  rfl
 ·obtain⟨l,xs,es,n,rfl,hl,hE,hz,h0,hp,k⟩:=h
  have hu:=hu_of hr
  refine⟨_,(pss_cons (ps_set (i:=1) sc_3.nd rfl (Or.inl rfl) (pe_bm0 PySem.F.plainAttrs_list PySem.F.slot_list_pop PySem.F.type_list_pop mt_pop (pv 0)))
   (pss_cons (ps_if (pt_cmpR op_eq (pe_callB call_len_seq (by rfl) T.z_len PySem.boot_len (pa_cons (pv 0) pa_nil)) pe_int (nomark _)) (pss_one (ps_ret (pv 1))) pss_nil)
   (pss_cons (ps_set (i:=2) sc_3.nd rfl (Or.inl rfl) (pe_ix ix_list (pv 0) pe_int (fun _ _=>rfl)))
   (pss_cons (ps_expr (pe_call G_2 (hr.mono (by decide)) rfl T.mg_2 T.k_2 T.b_2 .nil pass0 (pa_cons (pv 0) (pa_cons (pv 1) pa_nil))))
   (pss_one (ps_ret (pv 2))))))),?_⟩
  have hlen:=prd_len hE
  obtain⟨x,hx,⟨⟨a1,rfl,ha1⟩,hn1⟩⟩:=prd_at hE (d:= []) (i:=es.length-1) (by omega)
  have hx':xs[xs.length-1]?=some (V.ref a1):=by rw[hlen];exact hx
  have hD:=prd_dropLast hE
  have tu:=tup_upd (ys:=xs.dropLast) hl
  obtain⟨es0,last,rfl⟩:∃es0 last,es=es0++ [last]:=⟨es.dropLast,es.getLast (by intro z;rw[z] at h0;exact absurd h0 (by decide)),(List.dropLast_concat_getLast _).symm⟩
  have hlast:(es0++ [last]).getD ((es0++ [last]).length-1) []=last:=by simp [List.getD_eq_getElem?_getD]
  rw[hlast] at ha1 hn1
  rw[List.dropLast_concat] at hD
  have hp0:HpL es0:=by have:=hp.dropLast;rwa [List.dropLast_concat] at this
  have hDl:=prd_len hD
  refine⟨_,rfl,.inl ⟨rfl,_,SqL.of hl⟩,l,xs,_,rfl,rfl,hl,hx',?_⟩
  refine⟨_,rfl,l,_,rfl,.inl (SqL.of upd_same),rfl,_,rfl,ite2 (fun h=> ?_) (fun h=> ?_)⟩
  ·have hd0:es0= []:=by
    have:=of_decide_eq_true h
    have:((xs.dropLast.length:Nat):Int)=0:=by injection this
    exact List.length_eq_zero_iff.mp (by omega)
   subst hd0
   refine⟨_,rfl,?_⟩
   refine k a1 last _ [] ha1 hn1 (by simp) (fun y hy=> ?_) hD (by simp) (fun y hy=> ?_) (fun y hy=>by cases hy) hp0
   ·have:y=last:=by simpa using hy
    rw[this];exact HT.lex_irr _
   ·exact .inl (by simpa using hy)
  ·have hd0:0<es0.length:=by
    rcases Nat.eq_zero_or_pos es0.length with z|z
    ·exact absurd (decide_eq_true (show V.int ((xs.dropLast.length:Nat):Int)=V.int 0 by rw[hDl,z];rfl)) h
    ·exact z
   obtain⟨y,hy,⟨⟨a2,rfl,ha2⟩,hn2⟩⟩:=prd_at hD (d:= []) (i:=0) hd0
   have hsz:xs.dropLast.length<10000000:=by rw[List.length_dropLast];omega
   refine⟨_,rfl,l,_,_,_,rfl,rfl,SqL.of upd_same,atI_nat (j:=0) hy,?_⟩
   refine⟨_,rfl,_,rfl,l,a1,xs.dropLast,es0,last,n,rfl,upd_same,Ents.tups tu hD,Ent.tups tu ha1,hn1,hsz,hd0,hp0,fun ys es' q1 q2 q3 q4=>⟨_,rfl,?_⟩⟩
   rw[upd_upd]
   have hmem0:es0.getD 0 []∈es0:=(KH.mem_getD (d:= [])).mpr ⟨0,hd0,rfl⟩
   have hset:∀y,y∈es0.set 0 last↔y=last∨∃i,0<i∧i<es0.length∧es0.getD i []=y:=fun y=>by
    rw[KH.mem_getD (d:= [])]
    constructor
    ·rintro⟨i,hi,e⟩
     rw[List.length_set] at hi
     rw[KH.getD_set hi] at e
     by_cases z:i=0
     ·rw[if_pos z] at e;exact .inl e.symm
     ·rw[if_neg z] at e;exact .inr ⟨i,by omega,hi,e⟩
    ·rintro(e|⟨i,h1,h2,e⟩)
     ·exact⟨0,by rw[List.length_set];exact hd0,by rw[KH.getD_set hd0,if_pos rfl];exact e.symm⟩
     ·exact⟨i,by rw[List.length_set];exact h2,by rw[KH.getD_set h2,if_neg (by omega)];exact e⟩
   have hfirst:(es0++ [last]).getD 0 []=es0.getD 0 []:=by
    rw[List.getD_eq_getElem?_getD,List.getD_eq_getElem?_getD,List.getElem?_append_left hd0]
   have q1':Ents H n ys es':=Paired.mapP q1 fun x e z=>⟨let ⟨b,w1,s1,u1,v1,p1,r1,w2,w3,w4⟩:=z.1;⟨b,w1,s1,u1,v1,p1,r1,by
     by_cases zz:b=l
     ·rw[zz,upd_same] at w2;cases w2
     ·rwa [upd_ne zz] at w2,by
     by_cases zz:p1=l
     ·rw[zz,upd_same] at w3;cases w3
     ·rwa [upd_ne zz] at w3,w4⟩,z.2⟩
   refine k a2 (es0.getD 0 []) ys es' ha2 hn2 (List.mem_append_left _ hmem0) (fun y hy=>by rw[←hfirst];exact hp.least_mem ordL hy) q1' (by rw[q2,List.length_append];rfl) (fun y hy=> ?_) (fun y hy=> ?_) q4
   ·rcases List.mem_append.mp hy with hy|hy
    ·obtain⟨i,hi,e⟩:=(KH.mem_getD (d:= [])).mp hy
     by_cases z:i=0
     ·rw[z] at e;exact .inl e.symm
     ·exact .inr ((q3 y).mpr ((hset y).mpr (.inr ⟨i,by omega,hi,e⟩)))
    ·exact .inr ((q3 y).mpr ((hset y).mpr (.inl (List.mem_singleton.mp hy))))
   ·rcases(hset y).mp ((q3 y).mp hy) with e|⟨i,h1,h2,e⟩
    ·rw[e];exact List.mem_append_right _ List.mem_cons_self
    ·exact List.mem_append_left _ ((KH.mem_getD (d:= [])).mpr ⟨i,h2,e⟩)
end R
end
section
namespace R
open PySem PySem.Spec PyProof.Rows L2
open KA (Pl InP get put)
open KTh (Kn Off Rec Cov Cl1)
variable {P:Program} {w:World} {K:PySem.W.Frag} {mg:Str→Option Value} {base:Heap} {a:Ad}
structure More (Kk:Kn) (O O':List Off) (N:Off→Prop) (c:Nat):Prop where
 old:∀y∈O,y∈O'
 new:∀y∈O',y∈O∨N y
 cov:∀y,N y→Cov Kk O' y.value y.point y.fin y.steps
 len:O'.length≤O.length+c
section
variable {Kk:Kn} {O O1 O2:List Off} {N N1 N2:Off→Prop} {c c1 c2:Nat}
theorem More.refl:More Kk O O (fun _=>False) 0:=⟨fun _ h=>h,fun _ h=> .inl h,fun _ h=>h.elim,Nat.le_refl _⟩
theorem More.trans (h:More Kk O O1 N1 c1) (k:More Kk O1 O2 N2 c2):More Kk O O2 (fun y=>N1 y∨N2 y) (c1+c2) where
 old:=fun y q=>k.old y (h.old y q)
 new:=fun y q=>by
  rcases k.new y q with q|q
  ·rcases h.new y q with q|q
   ·exact .inl q
   ·exact .inr (.inl q)
  ·exact .inr (.inr q)
 cov:=fun y q=>q.elim (fun q=>(h.cov y q).more k.old) (k.cov y)
 len:=by have:=h.len;have:=k.len;omega
theorem More.imp (h:More Kk O O1 N c) (e:∀y,N y↔N1 y) (hc:c≤c1):More Kk O O1 N1 c1:=
 ⟨h.old,fun y q=>(h.new y q).imp id (e y).mp,fun y q=>h.cov y ((e y).mpr q),by have:=h.len;omega⟩
end
theorem Go.unfrz {o o':Ow} {H H':Hp} {d:Addr} {u:HO} (g:Go S0 o H o' H') (h:H' d=some u) (hu:∀f x,u≠ .frz f x):∀f x,H d≠some (.frz f x):=fun f x e=>by
 have:=g.fr d _ e (fun _ _ z=>z)
 rw[h] at this
 cases this
 exact hu _ _ rfl
structure EndsAt (o:Ow) (H H':Hp) (d:Addr) (E:List (Nat×Nat)) (Kk:Kn) (k:Pl):Prop where
 rd:Rd H' d (.dK (E.map (eN nV)))
 nd:(E.map (·.1)).Nodup
 lt:∀x∈E.map (·.1),x<4
 eq:∀x,get E x=Kk k.2 k.1 x
 tag:o d=some (.knD k)∨(o d=none∧H d=none)
theorem EndsAt.len {o:Ow} {H H':Hp} {d:Addr} {E:List (Nat×Nat)} {Kk:Kn} {k:Pl} (h:EndsAt o H H' d E Kk k):E.length≤4:=by
 have:=KTh.nodup_le 4 (E.map (·.1)) h.nd h.lt
 rwa [List.length_map] at this
theorem EndsAt.mem {o:Ow} {H H':Hp} {d:Addr} {E:List (Nat×Nat)} {Kk:Kn} {k:Pl} (h:EndsAt o H H' d E Kk k) {x n:Nat}:(x,n)∈E↔Kk k.2 k.1 x=some n:=by
 rw[←h.eq]
 exact⟨fun q=>KA.mem_get h.nd q,fun q=>KA.get_mem q⟩
theorem okey_inj (x y:Off) (e:okey x=okey y):x=y:=by
 obtain⟨a1,a2,a3,a4⟩:=x
 obtain⟨b1,b2,b3,b4⟩:=y
 unfold okey at e
 simp only[List.cons.injEq,and_true] at e
 obtain⟨e1,e2,e3,e4⟩:=e
 have e1:a1=b1:=by omega
 have e2:a2=b2:=by omega
 have e3:a3=b3:=by omega
 have e4:a4=b4:=by omega
 rw[e1,e2,e3,e4]
theorem keys_map {α β:Type} {f:α→β}:∀{l:List β},(∀e∈l,∃y,e=f y)→∃m:List α,l=m.map f
 | [],_=>⟨[],rfl⟩
 |x::l,h=>by
  obtain⟨y,e⟩:=h x List.mem_cons_self
  obtain⟨m,e'⟩:=keys_map fun z hz=>h z (List.mem_cons_of_mem _ hz)
  exact⟨y::m,by rw[e,e'];rfl⟩
def spEnds (a:Ad):Sp:=fun vs H Q _=>∃(B p0:Addr) (o:Ow) (b:BA) (Kk:Kn) (O:List Off) (rs:List Rec) (k:Pl),vs= [.ref B,.ref p0]∧Own o H∧BK a.c_C0 o H B b Kk O rs∧PlT H p0 k∧
 ∀(H':Hp) (d:Addr) (E:List (Nat×Nat)),Go S0 o H o H'→EndsAt o H H' d E Kk k→Q (.ref d) H'
theorem ok_6 (T:Txt K mg a):FnOk P w K mg base CX0 1 a.f_6 a.d_6 ["self","place"] (spEnds a):=by
 refine T.F_6.ok sc_6 (fun vs H Q E h=> ?_) (fun cdv A outer s H vs Q E hr h=> ?_)
 ·obtain⟨B,p0,o,b,Kk,O,rs,k,rfl,_⟩:=h
  rfl
 ·obtain⟨B,p0,o,b,Kk,O,rs,k,rfl,ow,hB,hk,q⟩:=h
  have hu:=hu_of hr
  refine⟨_,(pss_one (ps_ret (pe_dget2 hu (pe_fld (pv 0) rfl) (pv 1) pe_dnewK ⟨rfl,rfl,rfl,rfl⟩))),?_⟩
  obtain⟨L,h1,h2,h3,h4,h5⟩:=hB.kn
  refine⟨_,rfl,B,_,_,_,_,rfl,hB.obj,T.cl_C0,T.na_0,rfl,b.kn,rfl,.inr ⟨_,.inl h1⟩,_,rfl,fun p hp=>⟨_,DGet.t (kvs:=L.map (eP V.ref)) (k:=pk k) ?_ ?_,?_⟩⟩
  ·rw[upd_ne (ne_of_none h1 hp)];exact h1
  ·rw[upd_ne (ne_of_none hk hp)];exact hk
  ·have g:Go S0 o H o (upd H p (.dK [])):=Go.alloc ow hp _
   rw[val_eP]
   cases e:get L k with
   |none=>exact q _ p [] g ⟨.inl upd_same,List.nodup_nil,fun x h=>(by cases h),fun x=>(h4 k e x).symm,.inr ⟨ow.free hp,hp⟩⟩
   |some d=>
    obtain⟨q1,E,q2,q3,q4,q5⟩:=h5 k d e
    exact q _ d E g ⟨g.rd q2 q1 (fun z=>z),q3,q4,q5,.inl q1⟩
noncomputable def better (Kk:Kn) (k:Pl) (x n:Nat):Bool:=match Kk k.2 k.1 x with
 |none=>true
 |some m=>decide (n<m)
def spBetter (a:Ad):Sp:=fun vs H Q _=>∃(B p0:Addr) (o:Ow) (b:BA) (Kk:Kn) (O:List Off) (rs:List Rec) (k:Pl) (x n:Nat),vs= [.ref B,.ref p0,nV x,nV n]∧Own o H∧BK a.c_C0 o H B b Kk O rs∧PlT H p0 k∧
 ∀(H':Hp),Go S0 o H o H'→Q (.bl (better Kk k x n)) H'
theorem ok_9 (T:Txt K mg a):FnOk P w K mg base CX0 2 a.f_9 a.d_9 ["self","place","end","steps"] (spBetter a):=by
 have G_6:=ok_6 (P:=P) (w:=w) (base:=base) T
 refine T.F_9.ok sc_9 (fun vs H Q E h=> ?_) (fun cdv A outer s H vs Q E hr h=> ?_)
 ·obtain⟨B,p0,o,b,Kk,O,rs,k,x,n,rfl,_⟩:=h
  rfl
 ·obtain⟨B,p0,o,b,Kk,O,rs,k,x,n,rfl,ow,hB,hk,q⟩:=h
  have hu:=hu_of hr
  refine⟨_,(pss_cons (ps_set (i:=4) sc_9.nd rfl (Or.inl rfl) (pe_dget1 hu (pe_meth (pv 0) T.cl_C0 T.m_6 G_6 (hr.mono (by decide)) T.b_6 .nil pass0 (pa_cons (pv 1) pa_nil)) (pv 2) ⟨rfl,rfl,rfl,rfl⟩))
   (pss_one (ps_ret (pe_or (pe_cmpR op_isN (pv 4) pe_non (nomark _)) (pe_one (pe_cmpR op_lt (pv 3) (pv 4) (nomark _))))))),?_⟩
  refine⟨_,rfl,B,b.dx,_,rfl,hB.obj,rfl,_,rfl,B,p0,o,b,Kk,O,rs,k,rfl,ow,hB,hk,fun H' d E g hE=> ?_⟩
  refine⟨d,rfl,.inl ⟨_,hE.rd⟩,_,rfl,_,.inl ⟨_,nk x,hE.rd,rfl,rfl⟩,?_⟩
  rw[val_eN,hE.eq]
  unfold better at q
  cases e:Kk k.2 k.1 x with
  |none=>rw[e] at q;exact⟨_,rfl,rfl,_,rfl,iteT (q H' g)⟩
  |some m=>
   rw[e] at q
   refine⟨_,rfl,rfl,_,rfl,iteF ⟨_,rfl,_,rfl,_,_,rfl,rfl,?_⟩⟩
   have e2:decide ((n:Int)<(m:Int))=decide (n<m):=by
    by_cases z:n<m
    ·rw[decide_eq_true z,decide_eq_true (by omega)]
    ·rw[decide_eq_false z,decide_eq_false (by omega)]
   show Q (.bl (decide ((n:Int)<(m:Int)))) H'
   rw[e2]
   exact q H' g
def spOffer (a:Ad):Sp:=fun vs H Q _=>∃(B p0:Addr) (o:Ow) (b:BA) (Kk:Kn) (O:List Off) (rs:List Rec) (k:Pl) (x n:Nat),vs= [.ref B,.ref p0,nV x,nV n]∧Own o H∧BK a.c_C0 o H B b Kk O rs∧PlT H p0 k∧O.length<8000000∧
 ∀(H':Hp) (O':List Off),Go SO o H o H'→OfR H' b.of O'→More Kk O O' (fun y=>y=⟨n,k.1,k.2,x⟩) 1→Q .non H'
theorem s0_so:∀t,S0 t→SO t:=fun _ z=>z.elim
theorem ok_7 (T:Txt K mg a):FnOk P w K mg base CX0 3 a.f_7 a.d_7 ["self","place","end","steps"] (spOffer a):=by
 have G_9:=ok_9 (P:=P) (w:=w) (base:=base) T
 have G_0:=ok_0 (P:=P) (w:=w) (base:=base) T
 refine T.F_7.ok sc_7 (fun vs H Q E h=> ?_) (fun cdv A outer s H vs Q E hr h=> ?_)
 ·obtain⟨B,p0,o,b,Kk,O,rs,k,x,n,rfl,_⟩:=h
  rfl
 ·obtain⟨B,p0,o,b,Kk,O,rs,k,x,n,rfl,ow,hB,hk,hO,q⟩:=h
  have hu:=hu_of hr
  refine⟨_,(pss_one (ps_if (pt_val (pe_meth (pv 0) T.cl_C0 T.m_9 G_9 (hr.mono (by decide)) T.b_9 .nil pass0 (pa_cons (pv 1) (pa_cons (pv 2) (pa_cons (pv 3) pa_nil))))) (pss_one (ps_expr (pe_call G_0 (hr.mono (by decide)) rfl T.mg_0 T.k_0 T.b_0 .nil pass0 (pa_cons (pe_fld (pv 0) rfl) (pa_cons (pe_tup (pa_cons (pv 3) (pa_cons (pv 1) (pa_cons (pv 2) pa_nil)))) pa_nil))))) pss_nil)),?_⟩
  refine⟨_,rfl,B,b.dx,_,rfl,hB.obj,rfl,_,rfl,_,rfl,_,rfl,B,p0,o,b,Kk,O,rs,k,x,n,rfl,ow,hB,hk,fun H1 g1=>⟨_,rfl,ite2 (fun hb=> ?_) (fun hb=> ?_)⟩⟩
  ·have hB1:=hB.same0 g1
   obtain⟨xs,o1,o2,o3⟩:=hB1.of
   refine⟨_,rfl,B,_,_,_,_,rfl,hB1.obj,T.cl_C0,T.na_4,rfl,_,rfl,_,rfl,_,rfl,by show 3≤sizeLine;decide,fun t ht=> ?_⟩
   have g2:Go S0 o H1 o (upd H1 t (.tup [nV n,.ref p0,nV x])):=Go.alloc g1.own ht _
   have hk1:PlT H1 p0 k:=g1.tup hk
   have tu:∀c zs,H1 c=some (.tup zs)→(upd H1 t (.tup [nV n,.ref p0,nV x])) c=some (.tup zs):=fun c zs=>g2.tup
   have en:Ent (upd H1 t (.tup [nV n,.ref p0,nV x])) t (okey ⟨n,k.1,k.2,x⟩):=⟨_,_,_,p0,[(x:Int)],upd_same,tu _ _ hk1,rfl⟩
   have hlen:=prd_len o2
   rw[List.length_map] at hlen
   refine⟨b.of,t,xs,O.map okey,okey ⟨n,k.1,k.2,x⟩,4,rfl,?_,Ents.tups tu o2,en,rfl,by omega,o3,fun ys es' q1 q2 q3 q4=> ?_⟩
   ·exact g2.at o1 hB1.to_ (fun z=>z)
   ·have g3:Go SO o (upd H1 t (.tup [nV n,.ref p0,nV x])) o (upd (upd H1 t (.tup [nV n,.ref p0,nV x])) b.of (.lst ys)):=Go.set (S:=SO) g2.own hB1.to_ rfl (.lst ys) rfl rfl
    have gg:Go SO o H o (upd (upd H1 t (.tup [nV n,.ref p0,nV x])) b.of (.lst ys)):=((g1.trans g2).mono s0_so).trans g3
    have inj:∀x y:Off,okey x=okey y→x=y:=okey_inj
    obtain⟨O',rfl⟩:∃O':List Off,es'=O'.map okey:=keys_map (fun e he=>by
     rcases(q3 e).mp he with h|h
     ·obtain⟨y,_,rfl⟩:=List.mem_map.mp h
      exact⟨y,rfl⟩
     ·exact⟨_,h⟩)
    have mem:∀y:Off,y∈O'↔y∈O∨y=⟨n,k.1,k.2,x⟩:=fun y=>by
     have:=q3 (okey y)
     rw[List.mem_map,List.mem_map] at this
     constructor
     ·intro hy
      rcases this.mp ⟨y,hy,rfl⟩ with ⟨z,hz,e⟩|e
      ·rw[←inj _ _ e];exact .inl hz
      ·exact .inr (inj _ _ e)
     ·intro hy
      obtain⟨z,hz,e⟩:=this.mpr (hy.imp (fun h=>⟨y,h,rfl⟩) (fun h=>by rw[h]))
      rw[←inj _ _ e];exact hz
    rw[List.length_map,List.length_map] at q2
    refine q _ O' gg ⟨ys,upd_same,Ents.tups (fun c zs=>g3.tup) q1,q4⟩ ⟨fun y hy=>(mem y).mpr (.inl hy),fun y hy=>(mem y).mp hy,fun y hy=> ?_,by omega⟩
    subst hy
    exact .inr ⟨n,(mem _).mpr (.inr rfl),Nat.le_refl _⟩
  ·refine q H1 O (g1.mono s0_so) (hB.same0 g1).of ⟨fun _ h=>h,fun _ h=> .inl h,fun y hy=> ?_,by omega⟩
   subst hy
   unfold better at hb
   cases e:Kk k.2 k.1 x with
   |none=>rw[e] at hb;exact absurd rfl hb
   |some m=>
    rw[e] at hb
    exact .inl ⟨m,e,by
     have:¬n<m:=fun z=>hb (decide_eq_true z)
     show m≤n
     omega⟩
end R
end
section
namespace R
open PySem PySem.Spec PyProof.Rows L2
open KA (Pl InP get put)
open KTh (Kn Off Rec Cov Cl1)
variable {P:Program} {w:World} {K:PySem.W.Frag} {mg:Str→Option Value} {base:Heap} {a:Ad}
def Lkd (d:Addr) (u:HO) (od:Obj) (H1 H2:Hp):Prop:=H2 d=some (.frz od u)∧(H2=H1∨(H1 d=some u∧H2=upd H1 d (.frz od u)))
def Ulk (d:Addr) (u:HO) (H' H'':Hp):Prop:=(H''=H'∨∃od,H' d=some (.frz od u)∧H''=upd H' d u)
section
variable {d:Addr} {u:HO} {od:Obj} {H H1 H2 H' H'':Hp} {o o':Ow} {S:Tag→Prop}
theorem Lkd.own (l:Lkd d u od H1 H2) (w:Own o H1):Own o H2:=by
 obtain⟨_,rfl|⟨h,rfl⟩⟩:=l
 ·exact w
 ·exact w.lock h
theorem Lkd.keep (l:Lkd d u od H1 H2) {b:Addr} {v:HO} (h:H1 b=some v) (n:v≠u):H2 b=some v:=by
 obtain⟨_,rfl|⟨h',rfl⟩⟩:=l
 ·exact h
 ·rw[upd_ne (ne_of h h' n)];exact h
theorem Lkd.tup (l:Lkd d u od H1 H2) (hu:isTup u=false) {b:Addr} {xs:List V} (h:H1 b=some (.tup xs)):H2 b=some (.tup xs):=l.keep h fun z=>by rw[←z] at hu;cases hu
theorem Ulk.keep (l:Ulk d u H' H'') {b:Addr} {v:HO} (h:H' b=some v) (n:noFrz v=true):H'' b=some v:=by
 rcases l with rfl|⟨f,h',rfl⟩
 ·exact h
 ·rw[upd_ne (ne_of h h' fun z=>by rw[z] at n;cases n)];exact h
theorem ends_done {α:Type} {Kc:α→Hp→Prop} {x:α} (w:Own o H) (g1:Go S0 o H o H1) (hu:isTup u=false) (hf:noFrz u=true) (l:Lkd d u od H1 H2) (g:Go S o H2 o' H') (hd:H' d=some (.frz od u)) (k:∀H'',Go S o H o' H''→Ulk d u H' H''→Kc x H''):Unl Kc H x H':=by
 obtain⟨l1,rfl|⟨h',rfl⟩⟩:=l
 ·exact .inl (k H' ((g1.mono fun _ z=>z.elim).trans g) (.inl rfl))
 ·refine .inr ⟨d,od,u,hd,g1.unfrz h' (fun f x z=>by rw[z] at hf;cases hf),k _ ((g1.mono fun _ z=>z.elim).trans (Go.unlock g1.own h' hu hf g)) (.inr ⟨od,hd,rfl⟩)⟩
abbrev FR (g:TG) (tb:TS) (D:Ends) (σ:L2.St) (J:It) (H:Hp):Prop:=∃W:Nat→Nat→L2.St→Hp→Prop,(∃m,W 0 m σ H)∧∀i m σ H,W i m σ H→
 (J.stop i H∧D.nx σ H)∨(J.go i H∧∃N:L2.St→Hp→Prop,(∀σ' H',N σ' H'→∃m',m'<m∧W (i+1) m' σ' H')∧∀x H',J.yld i H x H'→g x σ H' fun σ2 H2=>tb {D with nx:=N,ct:=N,bk:=D.nx} σ2 H2)
theorem ends_walk {E:List (Nat×Nat)} {Kk:Kn} {k:Pl} {g:TG} {tb:TS} {D:Ends} {σ:L2.St} (hE:EndsAt o H H1 d E Kk k) (h:∀od H2,Lkd d (.dK (E.map (eN nV))) od H1 H2→FR g tb D σ (Iti d od (E.map (eN nV))) H2):
  ∃d' kvs,V.ref d= .ref d'∧((∃o,H1 d'=some (.frz o (.dK kvs))∧FR g tb D σ (Iti d' o kvs) H1)∨(H1 d'=some (.dK kvs)∧∀od,FR g tb D σ (Iti d' od kvs) (upd H1 d' (.frz od (.dK kvs))))):=by
 refine⟨d,E.map (eN nV),rfl,?_⟩
 rcases hE.rd with q|⟨f,q⟩
 ·exact .inr ⟨q,fun od=>h od _ ⟨upd_same,.inr ⟨q,rfl⟩⟩⟩
 ·exact .inl ⟨f,q,h f _ ⟨q,.inl rfl⟩⟩
theorem OfR.ulk {b:Addr} {O:List Off} (h:OfR H' b O) (l:Ulk d u H' H''):OfR H'' b O:=by
 obtain⟨xs,h1,h2,h3⟩:=h
 exact⟨xs,l.keep h1 rfl,Ents.tups (fun c zs e=>l.keep e rfl) h2,h3⟩
theorem BK.lkd {cB B:Addr} {b:BA} {Kk:Kn} {O:List Off} {rs:List Rec} {kvs:List (Key×V)} (h:BK cB o H1 B b Kk O rs) (l:Lkd d (.dK kvs) od H1 H2):BK cB o H2 B b Kk O rs:=by
 obtain⟨_,rfl|⟨h',rfl⟩⟩:=l
 ·exact h
 ·by_cases e:d=b.wa
  ·
   have hh:=h
   subst e
   refine⟨by rw[upd_ne (ne_of h.obj h' fun z=>nomatch z)];exact h.obj,h.tB,h.tk,h.tg,h.tc,h.tw,h.to_,?_,?_,?_,?_,?_,h.len⟩
   ·obtain⟨L,h1,h2,h3,h4,h5⟩:=h.kn
    refine⟨L,by rw[upd_ne (ne_of h1 h' fun z=>nomatch z)];exact h1,h2,h3,h4,fun k d' e=> ?_⟩
    obtain⟨q1,E,q2,q3⟩:=h5 k d' e
    exact⟨q1,E,rd_lock h' (fun _ _ z=>nomatch z) q2,q3⟩
   ·obtain⟨L,h1,h2,h3,h4,h5⟩:=h.go
    refine⟨L,rd_lock h' (fun _ _ z=>nomatch z) h1,h2,h3,h4,fun k l e=> ?_⟩
    obtain⟨q1,xs,q2,q3⟩:=h5 k l e
    exact⟨q1,xs,by rw[upd_ne (ne_of q2 h' fun z=>nomatch z)];exact q2,Paired.mapP q3 fun x e z=>tups_P _ _ (fun b xs e=>by rw[upd_ne (ne_of e h' fun z=>nomatch z)];exact e) x e z⟩
   ·obtain⟨L,h1,h2,h3,h4,h5⟩:=h.ca
    refine⟨L,rd_lock h' (fun _ _ z=>nomatch z) h1,h2,h3,h4,fun k l e=> ?_⟩
    obtain⟨q1,xs,q2,q3⟩:=h5 k l e
    exact⟨q1,xs,by rw[upd_ne (ne_of q2 h' fun z=>nomatch z)];exact q2,Paired.mapP q3 fun x e z=>tups_C _ _ (fun b xs e=>by rw[upd_ne (ne_of e h' fun z=>nomatch z)];exact e) x e z⟩
   ·obtain⟨L,h1,h2,h3,h4,h5⟩:=h.wa
    refine⟨L,rd_lock h' (fun _ _ z=>nomatch z) h1,h2,h3,h4,fun k l e=> ?_⟩
    obtain⟨q1,xs,q2,q3⟩:=h5 k l e
    exact⟨q1,xs,by rw[upd_ne (ne_of q2 h' fun z=>nomatch z)];exact q2,Paired.mapP q3 fun x e z=>tups_W _ _ (fun b xs e=>by rw[upd_ne (ne_of e h' fun z=>nomatch z)];exact e) x e z⟩
   ·obtain⟨xs,h1,h2,h3⟩:=h.of
    exact⟨xs,by rw[upd_ne (ne_of h1 h' fun z=>nomatch z)];exact h1,Ents.tups (fun b xs e=>by rw[upd_ne (ne_of e h' fun z=>nomatch z)];exact e) h2,h3⟩
  ·exact h.lock h' e
theorem Go.lkd {Kk:Kn} {k:Pl} {E:List (Nat×Nat)} (g:Go S o H2 o' H') (hE:EndsAt o H H1 d E Kk k) {f:Obj} {v:HO} (h:H2 d=some (.frz f v)) (n:¬S (.knD k)):H' d=some (.frz f v):=by
 rcases hE.tag with t|⟨t,_⟩
 ·exact g.at h t n
 ·exact g.at0 h t
end
theorem map_get {α β:Type} {f:α→β} {l:List α} {i:Nat} {y:β} (h:(l.map f)[i]?=some y):∃x,l[i]?=some x∧y=f x:=by
 rw[List.getElem?_map] at h
 cases e:l[i]? with
 |none=>rw[e] at h;cases h
 |some x=>rw[e] at h;exact⟨x,rfl,(Option.some.inj h).symm⟩
theorem take_snoc {α:Type} {l:List α} {i:Nat} {x:α} (h:l[i]?=some x):l.take (i+1)=l.take i++ [x]:=by
 obtain⟨hi,e⟩:=List.getElem?_eq_some_iff.mp h
 rw[List.take_succ,h]
 rfl
def spThrough (a:Ad):Sp:=fun vs H Q _=>∃(B p0 j0:Addr) (o:Ow) (b:BA) (Kk:Kn) (O:List Off) (rs:List Rec) (k j:Pl) (n:Nat),vs= [.ref B,.ref p0,.ref j0,nV n]∧Own o H∧BK a.c_C0 o H B b Kk O rs∧PlT H p0 k∧PlT H j0 j∧O.length<7999000∧
 ∀(H':Hp) (O':List Off),Go SO o H o H'→OfR H' b.of O'→More Kk O O' (fun y=>y.point=k.1∧y.value=k.2∧∃m,Kk j.2 j.1 y.fin=some m∧y.steps=n+m) 4→Q .non H'
theorem ok_8 (T:Txt K mg a):FnOk P w K mg base CX0 4 a.f_8 a.d_8 ["self","place","onward","steps"] (spThrough a):=by
 have G_7:=ok_7 (P:=P) (w:=w) (base:=base) T
 have G_6:=ok_6 (P:=P) (w:=w) (base:=base) T
 refine T.F_8.ok sc_8 (fun vs H Q E h=> ?_) (fun cdv A outer s H vs Q E hr h=> ?_)
 ·obtain⟨B,p0,j0,o,b,Kk,O,rs,k,j,n,rfl,_⟩:=h
  rfl
 ·obtain⟨B,p0,j0,o,b,Kk,O,rs,k,j,n,rfl,ow,hB,hk,hj,hO,q⟩:=h
  have hu:=hu_of hr
  refine⟨_,(pss_one (ps_unl (ps_for PassesOwn.never rfl (pi_itemsL (pe_meth (pv 0) T.cl_C0 T.m_6 G_6 (hr.mono (by decide)) T.b_6 .nil pass0 (pa_cons (pv 2) pa_nil))) (pg_tup rfl (pgs_cons (pg_name (i:=4) sc_8.nd rfl (Or.inl rfl)) (pgs_cons (pg_name (i:=5) sc_8.nd rfl (Or.inl rfl)) pgs_nil))) (pss_one (ps_expr (pe_meth (pv 0) T.cl_C0 T.m_7 G_7 (hr.mono (by decide)) T.b_7 .nil pass0 (pa_cons (pv 1) (pa_cons (pv 4) (pa_cons (pe_op op_add (pv 3) (pv 5)) pa_nil))))))))),?_⟩
  refine⟨_,rfl,B,b.dx,_,rfl,hB.obj,rfl,_,rfl,B,j0,o,b,Kk,O,rs,j,rfl,ow,hB,hj,fun H1 d E g1 hE=>ends_walk hE fun od H2 lk=> ?_⟩
  have hB2:=(hB.same0 g1).lkd lk
  have ow2:=lk.own g1.own
  have hk2:PlT H2 p0 k:=lk.tup rfl (g1.tup hk)
  have hlen:=hE.len
  refine for_it (n:=E.length) (fun i σ H'=>∃g1 g2 O',σ= [some (.ref B),some (.ref p0),some (.ref j0),some (nV n),g1,g2]∧Go SO o H2 o H'∧OfR H' b.of O'∧More Kk O O' (fun y=>y.point=k.1∧y.value=k.2∧∃m,(y.fin,m)∈E.take i∧y.steps=n+m) i) ?_ ?_ ?_ ?_ ?_
  ·exact⟨_,_,O,rfl,Go.refl ow2,hB2.of,More.refl.imp (fun y=>by simp) (Nat.le_refl _)⟩
  ·rintro i σ H' hi ⟨_,_,O',rfl,g,_⟩
   exact⟨g.lkd hE lk.1 (fun z=>nomatch z),by rw[List.length_map];exact hi⟩
  ·rintro σ H' ⟨_,_,O',rfl,g,_⟩
   exact⟨g.lkd hE lk.1 (fun z=>nomatch z),by rw[List.length_map];exact Nat.le_refl _⟩
  ·rintro i σ H' x H3 hi ⟨_,_,O',rfl,g,hO',hM⟩ ⟨T0,kk,v,hkv,rfl,hT0,rfl⟩
   obtain⟨⟨x,m⟩,hxm,e⟩:=map_get hkv
   cases e
   refine⟨T0,_,rfl,SqT.of upd_same,rfl,_,_,rfl,_,_,rfl,rfl,?_⟩
   have g3:Go SO o H' o (upd H' T0 (.tup [kV (nk x),nV m])):=Go.alloc g.own hT0 _
   have gg:=g.trans g3
   have hB3:=hB2.goO gg (hO'.go (S:=S0) (Go.alloc g.own hT0 _) (g.tag hB2.to_) (fun z=>z))
   have hl:=hM.len
   refine⟨_,rfl,B,b.dx,_,rfl,hB3.obj,rfl,_,rfl,_,rfl,_,rfl,_,rfl,_,_,rfl,rfl,B,p0,o,b,Kk,O',rs,k,x,n+m,rfl,gg.own,hB3,gg.tup hk2,by omega,fun H4 O4 g4 h4 hM4=> ?_⟩
   refine⟨_,_,O4,rfl,gg.trans g4,h4,(hM.trans hM4).imp (fun y=> ?_) (Nat.le_refl _)⟩
   rw[take_snoc hxm]
   constructor
   ·rintro(⟨h1,h2,m',h3,h4⟩|rfl)
    ·exact⟨h1,h2,m',List.mem_append_left _ h3,h4⟩
    ·exact⟨rfl,rfl,m,List.mem_append_right _ List.mem_cons_self,rfl⟩
   ·rintro⟨h1,h2,m',h3,h4⟩
    rcases List.mem_append.mp h3 with h3|h3
    ·exact .inl ⟨h1,h2,m',h3,h4⟩
    ·rw[List.mem_singleton] at h3
     obtain⟨s1,s2,s3,s4⟩:=y
     cases h3
     simp only at h1 h2 h4
     subst h1 h2 h4
     exact .inr rfl
  ·rintro σ H' ⟨_,_,O',rfl,g,hO',hM⟩
   refine ends_done ow g1 rfl rfl lk g (g.lkd hE lk.1 (fun z=>nomatch z)) fun H'' g'' lu=> ?_
   refine q H'' O' g'' (hO'.ulk lu) (hM.imp (fun y=> ?_) hlen)
   rw[List.take_length]
   simp only[hE.mem]
theorem LsT.look {ε:Type} {El:Hp→V→ε→Prop} {o:Ow} {H:Hp} {g p0 p:Addr} {tag:Pl→Tag} {f:Pl→List ε} {k:Pl} (h:LsT o H g tag El f) (hE:Tups El) (ow:Own o H) (hk:PlT H p0 k) (hp:H p=none):
  ∃ov l xs,DGet (upd H p (.lst [])) g (.ref p0) ov∧ov.getD (.ref p)= .ref l∧(upd H p (.lst [])) l=some (.lst xs)∧Paired (El (upd H p (.lst []))) xs (f k)∧(o l=some (tag k)∨o l=none):=by
 obtain⟨L,h1,h2,h3,h4,h5⟩:=h
 have ga:Go S0 o H o (upd H p (.lst [])):=Go.alloc ow hp _
 have rd:Rd (upd H p (.lst [])) g (.dT (L.map (eP V.ref))):=by
  rcases h1 with h1|⟨z,h1⟩
  ·exact .inl (by rw[upd_ne (ne_of_none h1 hp)];exact h1)
  ·exact .inr ⟨z,by rw[upd_ne (ne_of_none h1 hp)];exact h1⟩
 have dg:DGet (upd H p (.lst [])) g (.ref p0) (valV (L.map (eP V.ref)) (pk k)):= .inr ⟨_,pk k,p0,rd,rfl,ga.tup hk,rfl⟩
 rw[val_eP] at dg
 cases e:get L k with
 |none=>
  rw[e] at dg
  refine⟨_,p,[],dg,rfl,upd_same,?_,.inr (ow.free hp)⟩
  rw[(h4 k).mp e];exact .nil
 |some l=>
  rw[e] at dg
  obtain⟨q1,xs,q2,q3⟩:=h5 k l e
  exact⟨_,l,xs,dg,rfl,ga.at q2 q1 (fun z=>z),Paired.mapP q3 fun x y z=>hE _ _ (fun b zs=>ga.tup) x y z,.inl q1⟩
theorem LsN.look {ε:Type} {El:Hp→V→ε→Prop} {o:Ow} {H:Hp} {g p:Addr} {tag:Nat→Tag} {f:Nat→List ε} {k:Nat} (h:LsN o H g tag El f) (hE:Tups El) (ow:Own o H) (hp:H p=none):
  ∃ov l xs,DGet (upd H p (.lst [])) g (nV k) ov∧ov.getD (.ref p)= .ref l∧(upd H p (.lst [])) l=some (.lst xs)∧Paired (El (upd H p (.lst []))) xs (f k)∧(o l=some (tag k)∨o l=none):=by
 obtain⟨L,h1,h2,h3,h4,h5⟩:=h
 have ga:Go S0 o H o (upd H p (.lst [])):=Go.alloc ow hp _
 have rd:Rd (upd H p (.lst [])) g (.dK (L.map (eN V.ref))):=by
  rcases h1 with h1|⟨z,h1⟩
  ·exact .inl (by rw[upd_ne (ne_of_none h1 hp)];exact h1)
  ·exact .inr ⟨z,by rw[upd_ne (ne_of_none h1 hp)];exact h1⟩
 have dg:DGet (upd H p (.lst [])) g (nV k) (valV (L.map (eN V.ref)) (nk k)):= .inl ⟨_,nk k,rd,rfl,rfl⟩
 rw[val_eN] at dg
 cases e:get L k with
 |none=>
  rw[e] at dg
  refine⟨_,p,[],dg,rfl,upd_same,?_,.inr (ow.free hp)⟩
  rw[(h4 k).mp e];exact .nil
 |some l=>
  rw[e] at dg
  obtain⟨q1,xs,q2,q3⟩:=h5 k l e
  exact⟨_,l,xs,dg,rfl,ga.at q2 q1 (fun z=>z),Paired.mapP q3 fun x y z=>hE _ _ (fun b zs=>ga.tup) x y z,.inl q1⟩
theorem LsT.isD {ε:Type} {El:Hp→V→ε→Prop} {o:Ow} {H:Hp} {g:Addr} {tag:Pl→Tag} {f:Pl→List ε} (h:LsT o H g tag El f):IsD H g:=let ⟨_,h1,_⟩:=h; .inr ⟨_,h1⟩
theorem LsN.isD {ε:Type} {El:Hp→V→ε→Prop} {o:Ow} {H:Hp} {g:Addr} {tag:Nat→Tag} {f:Nat→List ε} (h:LsN o H g tag El f):IsD H g:=let ⟨_,h1,_⟩:=h; .inl ⟨_,h1⟩
theorem Go.lst {o o':Ow} {H H':Hp} {l:Addr} {xs:List V} {t:Tag} (g:Go SO o H o' H') (h:H l=some (.lst xs)) (e:o l=some t∨o l=none) (n:t≠ .of):H' l=some (.lst xs):=by
 rcases e with e|e
 ·exact g.at h e n
 ·exact g.at0 h e
def spTell (a:Ad) (N:Kn→List Rec→Pl→Nat→Nat→Off→Prop) (c:Nat):Sp:=fun vs H Q _=>∃(B p0:Addr) (o:Ow) (b:BA) (Kk:Kn) (O:List Off) (rs:List Rec) (k:Pl) (x n:Nat),vs= [.ref B,.ref p0,nV x,nV n]∧Own o H∧BK a.c_C0 o H B b Kk O rs∧PlT H p0 k∧O.length<7900000∧
 ∀(H':Hp) (O':List Off),Go SO o H o H'→OfR H' b.of O'→More Kk O O' (N Kk rs k x n) c→Q .non H'
def NGo:Kn→List Rec→Pl→Nat→Nat→Off→Prop:=fun _ rs k x n y=>(y.point,y.value)∈goersOf rs k∧y.fin=x∧y.steps=n+1
def NCa:Kn→List Rec→Pl→Nat→Nat→Off→Prop:=fun Kk rs k x n y=>∃nx,((y.point,y.value),nx)∈callersOf rs k∧∃m,Kk x nx y.fin=some m∧y.steps=n+1+m
def NWa:Kn→List Rec→Pl→Nat→Nat→Off→Prop:=fun Kk rs k x n y=>∃j:Pl,((y.point,y.value),j)∈waitersOf rs k.1∧y.fin=x∧∃m,Kk j.2 j.1 k.2=some m∧y.steps=m+n+1
theorem goers_len (rs:List Rec) (k:Pl):(goersOf rs k).length≤rs.length:=List.length_filterMap_le _ _
theorem callers_len (rs:List Rec) (k:Pl):(callersOf rs k).length≤rs.length:=List.length_filterMap_le _ _
theorem waiters_len (rs:List Rec) (n:Nat):(waitersOf rs n).length≤rs.length:=List.length_filterMap_le _ _
theorem off_eta {y:Off} {k:Pl} {x n:Nat} (h1:(y.point,y.value)=k) (h2:y.fin=x) (h3:y.steps=n):y=⟨n,k.1,k.2,x⟩:=by
 obtain⟨s1,s2,s3,s4⟩:=y
 simp only at h1 h2 h3
 subst h1 h2 h3
 rfl
theorem ok_c (T:Txt K mg a):FnOk P w K mg base CX0 4 a.f_c a.d_c ["self","place","end","steps"] (spTell a NGo 256):=by
 have G_7:=ok_7 (P:=P) (w:=w) (base:=base) T
 refine T.F_c.ok sc_c (fun vs H Q E h=> ?_) (fun cdv A outer s H vs Q E hr h=> ?_)
 ·obtain⟨B,p0,o,b,Kk,O,rs,k,x,n,rfl,_⟩:=h
  rfl
 ·obtain⟨B,p0,o,b,Kk,O,rs,k,x,n,rfl,ow,hB,hk,hO,q⟩:=h
  have hu:=hu_of hr
  refine⟨_,(pss_one (ps_for PassesOwn.never rfl (pi_list (pe_dget2 hu (pe_fld (pv 0) rfl) (pv 1) (pe_lst pa_nil) ⟨rfl,rfl,rfl,rfl⟩)) (pg_name (i:=4) sc_c.nd rfl (Or.inl rfl)) (pss_one (ps_expr (pe_meth (pv 0) T.cl_C0 T.m_7 G_7 (hr.mono (by decide)) T.b_7 .nil pass0 (pa_cons (pv 4) (pa_cons (pv 2) (pa_cons (pe_op op_add (pv 3) pe_int) pa_nil)))))))),?_⟩
  refine⟨_,rfl,B,_,_,_,_,rfl,hB.obj,T.cl_C0,T.na_1,rfl,b.go,rfl,hB.go.isD,_,rfl,Nat.zero_le _,fun p hp=> ?_⟩
  obtain⟨ov,l,xs,dg,e1,hl,hP,htag⟩:=hB.go.look tups_P ow hk hp
  have g1:Go S0 o H o (upd H p (.lst [])):=Go.alloc ow hp _
  have hB1:=hB.same0 g1
  refine⟨ov,dg,l,e1,⟨xs,SqL.of hl⟩,?_⟩
  generalize upd H p (.lst [])=H1 at*
  have hl1:=prd_len hP
  have hl2:=goers_len rs k
  have hl3:=hB.len
  refine for_list (xs:=xs) (fun i σ H'=>∃g1 O',σ= [some (.ref B),some (.ref p0),some (nV x),some (nV n),g1]∧Go SO o H1 o H'∧OfR H' b.of O'∧More Kk O O' (fun y=>(y.point,y.value)∈(goersOf rs k).take i∧y.fin=x∧y.steps=n+1) i) ?_ ?_ ?_ ?_
  ·exact⟨_,O,rfl,Go.refl g1.own,hB1.of,More.refl.imp (fun y=>by simp) (Nat.le_refl _)⟩
  ·rintro i σ H' _ ⟨_,O',rfl,g,_⟩
   exact SqL.of (g.lst hl htag (fun z=>nomatch z))
  ·rintro i z σ H' hz ⟨_,O',rfl,g,hO',hM⟩
   obtain⟨e,he,a0,rfl,ha0⟩:=paired_get hP hz
   have hi:i<xs.length:=(List.getElem?_eq_some_iff.mp hz).1
   have hB2:=hB1.goO g hO'
   have hl:=hM.len
   refine⟨_,rfl,B,b.dx,_,rfl,hB2.obj,rfl,_,rfl,_,rfl,_,rfl,_,_,rfl,rfl,B,a0,o,b,Kk,O',rs,e,x,n+1,rfl,g.own,hB2,g.tup ha0,by omega,fun H4 O4 g4 h4 hM4=> ?_⟩
   refine⟨_,O4,rfl,g.trans g4,h4,(hM.trans hM4).imp (fun y=> ?_) (Nat.le_refl _)⟩
   rw[take_snoc he]
   constructor
   ·rintro(⟨h1,h2,h3⟩|rfl)
    ·exact⟨List.mem_append_left _ h1,h2,h3⟩
    ·exact⟨List.mem_append_right _ List.mem_cons_self,rfl,rfl⟩
   ·rintro⟨h1,h2,h3⟩
    rcases List.mem_append.mp h1 with h1|h1
    ·exact .inl ⟨h1,h2,h3⟩
    ·exact .inr (off_eta (List.mem_singleton.mp h1) h2 h3)
  ·rintro σ H' ⟨_,O',rfl,g,hO',hM⟩
   refine q H' O' ((g1.mono s0_so).trans g) hO' (hM.imp (fun y=> ?_) (by omega))
   unfold NGo
   rw[hl1,List.take_length]
theorem ok_d (T:Txt K mg a):FnOk P w K mg base CX0 5 a.f_d a.d_d ["self","place","end","steps"] (spTell a NCa 1024):=by
 have G_8:=ok_8 (P:=P) (w:=w) (base:=base) T
 refine T.F_d.ok sc_d (fun vs H Q E h=> ?_) (fun cdv A outer s H vs Q E hr h=> ?_)
 ·obtain⟨B,p0,o,b,Kk,O,rs,k,x,n,rfl,_⟩:=h
  rfl
 ·obtain⟨B,p0,o,b,Kk,O,rs,k,x,n,rfl,ow,hB,hk,hO,q⟩:=h
  have hu:=hu_of hr
  refine⟨_,(pss_one (ps_for PassesOwn.never rfl (pi_list (pe_dget2 hu (pe_fld (pv 0) rfl) (pv 1) (pe_lst pa_nil) ⟨rfl,rfl,rfl,rfl⟩)) (pg_tup rfl (pgs_cons (pg_name (i:=4) sc_d.nd rfl (Or.inl rfl)) (pgs_cons (pg_name (i:=5) sc_d.nd rfl (Or.inl rfl)) pgs_nil))) (pss_one (ps_expr (pe_meth (pv 0) T.cl_C0 T.m_8 G_8 (hr.mono (by decide)) T.b_8 .nil pass0 (pa_cons (pv 4) (pa_cons (pe_tup (pa_cons (pv 5) (pa_cons (pv 2) pa_nil))) (pa_cons (pe_op op_add (pv 3) pe_int) pa_nil)))))))),?_⟩
  refine⟨_,rfl,B,_,_,_,_,rfl,hB.obj,T.cl_C0,T.na_2,rfl,b.ca,rfl,hB.ca.isD,_,rfl,Nat.zero_le _,fun p hp=> ?_⟩
  obtain⟨ov,l,xs,dg,e1,hl,hP,htag⟩:=hB.ca.look tups_C ow hk hp
  have g1:Go S0 o H o (upd H p (.lst [])):=Go.alloc ow hp _
  have hB1:=hB.same0 g1
  refine⟨ov,dg,l,e1,⟨xs,SqL.of hl⟩,?_⟩
  generalize upd H p (.lst [])=H1 at*
  have hl1:=prd_len hP
  have hl2:=callers_len rs k
  have hl3:=hB.len
  refine for_list (xs:=xs) (fun i σ H'=>∃g1 g2 O',σ= [some (.ref B),some (.ref p0),some (nV x),some (nV n),g1,g2]∧Go SO o H1 o H'∧OfR H' b.of O'∧More Kk O O' (fun y=>∃nx,((y.point,y.value),nx)∈(callersOf rs k).take i∧∃m,Kk x nx y.fin=some m∧y.steps=n+1+m) (4*i)) ?_ ?_ ?_ ?_
  ·exact⟨_,_,O,rfl,Go.refl g1.own,hB1.of,More.refl.imp (fun y=>by simp) (Nat.le_refl _)⟩
  ·rintro i σ H' _ ⟨_,_,O',rfl,g,_⟩
   exact SqL.of (g.lst hl htag (fun z=>nomatch z))
  ·rintro i z σ H' hz ⟨_,_,O',rfl,g,hO',hM⟩
   obtain⟨⟨e,nx⟩,he,a0,c0,rfl,ha0,hc0⟩:=paired_get hP hz
   have hi:i<xs.length:=(List.getElem?_eq_some_iff.mp hz).1
   have hB2:=hB1.goO g hO'
   have hl:=hM.len
   refine⟨a0,_,rfl,SqT.of (g.tup ha0),rfl,_,_,rfl,_,_,rfl,rfl,?_⟩
   refine⟨_,rfl,B,b.dx,_,rfl,hB2.obj,rfl,_,rfl,_,rfl,_,rfl,by show 2≤sizeLine;decide,fun t ht=> ?_⟩
   have g3:Go S0 o H' o (upd H' t (.tup [nV nx,nV x])):=Go.alloc g.own ht _
   have hB3:=hB2.same0 g3
   refine⟨_,rfl,_,_,rfl,rfl,B,c0,t,o,b,Kk,O',rs,e,(nx,x),n+1,rfl,g3.own,hB3,g3.tup (g.tup hc0),upd_same,by omega,fun H4 O4 g4 h4 hM4=> ?_⟩
   refine⟨_,_,O4,rfl,(g.trans (g3.mono s0_so)).trans g4,h4,(hM.trans hM4).imp (fun y=> ?_) (by omega)⟩
   rw[take_snoc he]
   constructor
   ·rintro(⟨nx',h1,m,h2,h3⟩|⟨h1,h2,m,h3,h4⟩)
    ·exact⟨nx',List.mem_append_left _ h1,m,h2,h3⟩
    ·refine⟨nx,List.mem_append_right _ ?_,m,h3,h4⟩
     rw[h1,h2];exact List.mem_cons_self
   ·rintro⟨nx',h1,m,h2,h3⟩
    rcases List.mem_append.mp h1 with h1|h1
    ·exact .inl ⟨nx',h1,m,h2,h3⟩
    ·have e2:=List.mem_singleton.mp h1
     injection e2 with e3 e4
     subst e4
     exact .inr ⟨by rw[←e3],by rw[←e3],m,h2,h3⟩
  ·rintro σ H' ⟨_,_,O',rfl,g,hO',hM⟩
   refine q H' O' ((g1.mono s0_so).trans g) hO' (hM.imp (fun y=> ?_) (by omega))
   unfold NCa
   rw[hl1,List.take_length]
theorem ok_e (T:Txt K mg a):FnOk P w K mg base CX0 4 a.f_e a.d_e ["self","place","end","steps"] (spTell a NWa 256):=by
 have G_7:=ok_7 (P:=P) (w:=w) (base:=base) T
 have G_6:=ok_6 (P:=P) (w:=w) (base:=base) T
 refine T.F_e.ok sc_e (fun vs H Q E h=> ?_) (fun cdv A outer s H vs Q E hr h=> ?_)
 ·obtain⟨B,p0,o,b,Kk,O,rs,k,x,n,rfl,_⟩:=h
  rfl
 ·obtain⟨B,p0,o,b,Kk,O,rs,k,x,n,rfl,ow,hB,hk,hO,q⟩:=h
  have hu:=hu_of hr
  refine⟨_,(pss_one (ps_for PassesOwn.never rfl (pi_list (pe_dget2 hu (pe_fld (pv 0) rfl) (pe_ix ix_tup (pv 1) pe_int (fun _ _=>rfl)) (pe_lst pa_nil) ⟨rfl,rfl,rfl,rfl⟩)) (pg_tup rfl (pgs_cons (pg_name (i:=4) sc_e.nd rfl (Or.inl rfl)) (pgs_cons (pg_name (i:=5) sc_e.nd rfl (Or.inl rfl)) pgs_nil))) (pss_cons (ps_set (i:=6) sc_e.nd rfl (Or.inl rfl) (pe_dget1 hu (pe_meth (pv 0) T.cl_C0 T.m_6 G_6 (hr.mono (by decide)) T.b_6 .nil pass0 (pa_cons (pv 5) pa_nil)) (pe_ix ix_tup (pv 1) pe_int (fun _ _=>rfl)) ⟨rfl,rfl,rfl,rfl⟩))
   (pss_one (ps_if (pt_cmpR op_notN (pv 6) pe_non (nomark _)) (pss_one (ps_expr (pe_meth (pv 0) T.cl_C0 T.m_7 G_7 (hr.mono (by decide)) T.b_7 .nil pass0 (pa_cons (pv 4) (pa_cons (pv 2) (pa_cons (pe_op op_add (pe_op op_add (pv 6) (pv 3)) pe_int) pa_nil)))))) pss_nil))))),?_⟩
  refine⟨_,rfl,B,_,_,_,_,rfl,hB.obj,T.cl_C0,T.na_3,rfl,b.wa,rfl,hB.wa.isD,_,rfl,p0,_,_,_,rfl,rfl,SqT.of hk,atI_nat (j:=0) rfl,Nat.zero_le _,fun p hp=> ?_⟩
  obtain⟨ov,l,xs,dg,e1,hl,hP,htag⟩:=hB.wa.look (k:=k.1) tups_W ow hp
  have g1:Go S0 o H o (upd H p (.lst [])):=Go.alloc ow hp _
  have hB1:=hB.same0 g1
  refine⟨ov,dg,l,e1,⟨xs,SqL.of hl⟩,?_⟩
  have hk1:PlT (upd H p (.lst [])) p0 k:=g1.tup hk
  generalize upd H p (.lst [])=H1 at*
  have hl1:=prd_len hP
  have hl2:=waiters_len rs k.1
  have hl3:=hB.len
  refine for_list (xs:=xs) (fun i σ H'=>∃g1 g2 g3 O',σ= [some (.ref B),some (.ref p0),some (nV x),some (nV n),g1,g2,g3]∧Go SO o H1 o H'∧OfR H' b.of O'∧More Kk O O' (fun y=>∃j:Pl,((y.point,y.value),j)∈(waitersOf rs k.1).take i∧y.fin=x∧∃m,Kk j.2 j.1 k.2=some m∧y.steps=m+n+1) i) ?_ ?_ ?_ ?_
  ·exact⟨_,_,_,O,rfl,Go.refl g1.own,hB1.of,More.refl.imp (fun y=>by simp) (Nat.le_refl _)⟩
  ·rintro i σ H' _ ⟨_,_,_,O',rfl,g,_⟩
   exact SqL.of (g.lst hl htag (fun z=>nomatch z))
  ·rintro i z σ H' hz ⟨_,_,_,O',rfl,g,hO',hM⟩
   obtain⟨⟨e,j⟩,he,a0,c0,j0,rfl,ha0,hc0,hj0⟩:=paired_get hP hz
   have hi:i<xs.length:=(List.getElem?_eq_some_iff.mp hz).1
   have hB2:=hB1.goO g hO'
   have hl:=hM.len
   refine⟨a0,_,rfl,SqT.of (g.tup ha0),rfl,_,_,rfl,_,_,rfl,rfl,?_⟩
   refine⟨_,rfl,B,b.dx,_,rfl,hB2.obj,rfl,_,rfl,B,j0,o,b,Kk,O',rs,j,rfl,g.own,hB2,g.tup hj0,fun H3 d E g3 hE=> ?_⟩
   have gg:Go SO o H1 o H3:=g.trans (g3.mono s0_so)
   have hB3:=hB2.same0 g3
   refine⟨d,rfl,.inl ⟨_,hE.rd⟩,_,rfl,p0,_,_,_,rfl,rfl,SqT.of (gg.tup hk1),atI_nat (j:=1) rfl,_,.inl ⟨_,nk k.2,hE.rd,rfl,rfl⟩,?_⟩
   rw[val_eN,hE.eq]
   cases em:Kk j.2 j.1 k.2 with
   |none=>
    refine⟨_,rfl,rfl,_,rfl,iteF ?_⟩
    refine⟨_,_,_,O',rfl,gg,hO'.go g3 (gg.tag hB1.to_|>fun _=>g.tag hB1.to_) (fun z=>z),hM.imp (fun y=> ?_) (by omega)⟩
    rw[take_snoc he]
    constructor
    ·rintro⟨j',h1,h2⟩
     exact⟨j',List.mem_append_left _ h1,h2⟩
    ·rintro⟨j',h1,h2,m,h3,h4⟩
     rcases List.mem_append.mp h1 with h1|h1
     ·exact⟨j',h1,h2,m,h3,h4⟩
     ·have e2:=List.mem_singleton.mp h1
      injection e2 with e3 e4
      subst e4
      rw[em] at h3
      cases h3
   |some m=>
    refine⟨_,rfl,rfl,_,rfl,iteT ?_⟩
    refine⟨_,rfl,B,b.dx,_,rfl,hB3.obj,rfl,_,rfl,_,rfl,_,rfl,_,rfl,_,_,rfl,rfl,_,_,rfl,rfl,B,c0,o,b,Kk,O',rs,e,x,m+n+1,rfl,g3.own,hB3,gg.tup hc0,by omega,fun H4 O4 g4 h4 hM4=> ?_⟩
    refine⟨_,_,_,O4,rfl,gg.trans g4,h4,(hM.trans hM4).imp (fun y=> ?_) (Nat.le_refl _)⟩
    rw[take_snoc he]
    constructor
    ·rintro(⟨j',h1,h2⟩|rfl)
     ·exact⟨j',List.mem_append_left _ h1,h2⟩
     ·exact⟨j,List.mem_append_right _ List.mem_cons_self,rfl,m,em,rfl⟩
    ·rintro⟨j',h1,h2,m',h3,h4⟩
     rcases List.mem_append.mp h1 with h1|h1
     ·exact .inl ⟨j',h1,h2,m',h3,h4⟩
     ·have e2:=List.mem_singleton.mp h1
      injection e2 with e3 e4
      subst e4
      rw[em] at h3
      cases h3
      exact .inr (off_eta e3 h2 h4)
  ·rintro σ H' ⟨_,_,_,O',rfl,g,hO',hM⟩
   refine q H' O' ((g1.mono s0_so).trans g) hO' (hM.imp (fun y=> ?_) (by omega))
   unfold NWa
   rw[hl1,List.take_length]
end R
end
section
namespace R
open PySem PySem.Spec PyProof.Rows L2
open KA (Pl InP get put)
open KTh (Kn Off Rec Cov Cl1)
variable {P:Program} {w:World} {K:PySem.W.Frag} {mg:Str→Option Value} {base:Heap} {a:Ad}
def SK (t:Tag):Prop:=t= .kn∨∃k,t= .knD k
def ST (t:Tag):Prop:=t= .kn∨(∃k,t= .knD k)∨t= .of
theorem sk_st:∀t,SK t→ST t:=fun t z=>z.elim .inl fun z=> .inr (.inl z)
theorem so_st:∀t,SO t→ST t:=fun t z=> .inr (.inr z)
theorem s0_st:∀t,S0 t→ST t:=fun t z=>z.elim
theorem BK.setK {cB:Addr} {o o':Ow} {H H':Hp} {B:Addr} {b:BA} {Kk Kk':Kn} {O:List Off} {rs:List Rec} (h:BK cB o H B b Kk O rs) (g:Go SK o H o' H') (hk:KnR o' H' b.kn Kk'):BK cB o' H' B b Kk' O rs:=by
 have n:∀t,t≠ .kn→(∀k,t≠ .knD k)→¬SK t:=fun t h1 h2 z=>z.elim h1 fun⟨k,z⟩=>h2 k z
 exact⟨g.at h.obj h.tB (n _ (fun z=>nomatch z) (fun _ z=>nomatch z)),g.tag h.tB,g.tag h.tk,g.tag h.tg,g.tag h.tc,g.tag h.tw,g.tag h.to_,hk,
  h.go.go tups_P g h.tg (n _ (fun z=>nomatch z) (fun _ z=>nomatch z)) (fun k=>n _ (fun z=>nomatch z) (fun _ z=>nomatch z)),
  h.ca.go tups_C g h.tc (n _ (fun z=>nomatch z) (fun _ z=>nomatch z)) (fun k=>n _ (fun z=>nomatch z) (fun _ z=>nomatch z)),
  h.wa.go tups_W g h.tw (n _ (fun z=>nomatch z) (fun _ z=>nomatch z)) (fun k=>n _ (fun z=>nomatch z) (fun _ z=>nomatch z)),
  h.of.go g h.to_ (n _ (fun z=>nomatch z) (fun _ z=>nomatch z)),h.len⟩
theorem lt_size {n:Nat} (h:n≤1000):n<sizeLine:=big (by omega)
theorem Kn.put_other {Kk:Kn} {v i x n v' i' x':Nat} (h:(i',v')≠(i,v)):(KTh.Kn.put Kk v i x n) v' i' x'=Kk v' i' x':=KTh.Kn.put_ne fun z=>h (by rw[z.1,z.2.1])
theorem len_dict {β:Type} {L:List (Pl×β)} (h:(L.map (·.1)).Nodup) (h':∀k∈L.map (·.1),InP k):L.length≤128:=by
 have:=KA.len_pl h h'
 rwa [List.length_map] at this
theorem KnR.put1 {o:Ow} {H:Hp} {c d:Addr} {Kk:Kn} {L:List (Pl×Addr)} {E:List (Nat×Nat)} {k:Pl} {x n:Nat} (w:Own o H) (tk:o c=some .kn) (h1:H c=some (.dT (L.map (eP V.ref)))) (h2:(L.map (·.1)).Nodup) (h3:∀k∈L.map (·.1),InP k)
  (h4:∀k,get L k=none→∀w,Kk k.2 k.1 w=none) (h5:∀k' d',get L k'=some d'→o d'=some (.knD k')∧(k'≠k→∃E:List (Nat×Nat),Rd H d' (.dK (E.map (eN nV)))∧(E.map (·.1)).Nodup∧(∀w∈E.map (·.1),w<4)∧∀w,get E w=Kk k'.2 k'.1 w))
  (hd:get L k=some d) (hE2:(E.map (·.1)).Nodup) (hE3:∀w∈E.map (·.1),w<4) (hE4:∀w,get E w=Kk k.2 k.1 w) (hx:x<4):
  KnR o (upd H d (.dK ((put E x n).map (eN nV)))) c (KTh.Kn.put Kk k.2 k.1 x n):=by
 have td:=(h5 k d hd).1
 have ncd:c≠d:=fun z=>by rw[z,td] at tk;cases tk
 refine⟨L,by rw[upd_ne ncd];exact h1,h2,h3,fun k' e w=> ?_,fun k' d' e=> ?_⟩
 ·by_cases z:k'=k
  ·rw[z,hd] at e;cases e
  ·rw[Kn.put_other (fun q=>z (by rw[←Prod.eta k',q,Prod.eta]))];exact h4 k' e w
 ·obtain⟨q1,q2⟩:=h5 k' d' e
  refine⟨q1,?_⟩
  by_cases z:k'=k
  ·subst z
   rw[hd] at e
   cases e
   refine⟨put E x n,.inl upd_same,KA.nd_put hE2,fun y hy=> ?_,fun y=> ?_⟩
   ·rcases KA.keys_put.mp hy with rfl|hy
    ·exact hx
    ·exact hE3 y hy
   ·rw[KA.get_put]
    by_cases z:y=x
    ·rw[if_pos z,z,KTh.Kn.put_same]
    ·rw[if_neg z,KTh.Kn.put_ne (fun q=>z q.2.2)];exact hE4 y
  ·obtain⟨E',r1,r2,r3,r4⟩:=q2 z
   have nd:d'≠d:=fun q=>by rw[q,td] at q1;cases q1;exact z rfl
   refine⟨E',?_,r2,r3,fun y=> ?_⟩
   ·rcases r1 with r1|⟨f,r1⟩
    ·exact .inl (by rw[upd_ne nd];exact r1)
    ·exact .inr ⟨f,by rw[upd_ne nd];exact r1⟩
   ·rw[Kn.put_other (fun q=>z (by rw[←Prod.eta k',q,Prod.eta]))];exact r4 y
theorem KnR.sd {o:Ow} {H1:Hp} {c p p0:Addr} {Kk:Kn} {k:Pl} {x n:Nat} (ow:Own o H1) (uf1:Unf o H1) (tkk:o c=some .kn) (h:KnR o H1 c Kk) (hk1:PlT H1 p0 k) (hK:InP k) (hx:x<4) (hp:H1 p=none) {Q:VK}
  (hQ:∀(d:Addr) (o2:Ow) (H3:Hp) (E:List (Nat×Nat)),H3 d=some (.dK (E.map (eN nV)))→E.length≤4→Go SK o H1 o2 (upd H3 d (.dK ((put E x n).map (eN nV))))→KnR o2 (upd H3 d (.dK ((put E x n).map (eN nV)))) c (KTh.Kn.put Kk k.2 k.1 x n)→Q (.ref d) H3):
  DSd (upd H1 p (.dK [])) c (.ref p0) (.ref p) Q:=by
 obtain⟨L,h1,h2,h3,h4,h5⟩:=h
 have hL:=len_dict h2 h3
 refine .inr ⟨L.map (eP V.ref),pk k,p0,?_,rfl,?_,lt_size (by rw[List.length_map];omega),fun v hv=> ?_,fun hv=> ?_⟩
 ·rw[upd_ne (ne_of_none h1 hp)];exact h1
 ·rw[upd_ne (ne_of_none hk1 hp)];exact hk1
 ·rw[val_eP] at hv
  cases e:get L k with
  |none=>rw[e] at hv;cases hv
  |some d=>
   rw[e] at hv
   cases hv
   obtain⟨q1,E,q2,q3,q4,q5⟩:=h5 k d e
   have gp:Go SK o H1 o (upd H1 p (.dK [])):=Go.alloc ow hp _
   have hd:(upd H1 p (.dK [])) d=some (.dK (E.map (eN nV))):=by
    have:=uf1.rd q1 q2
    rw[upd_ne (ne_of_none this hp)];exact this
   have gs:Go SK o (upd H1 p (.dK [])) o (upd (upd H1 p (.dK [])) d (.dK ((put E x n).map (eN nV)))):=Go.set gp.own q1 (.inr ⟨k,rfl⟩) _ rfl rfl
   refine hQ d o _ E hd (by have:=KTh.nodup_le 4 (E.map (·.1)) q3 q4;rwa [List.length_map] at this) (gp.trans gs) (KnR.put1 gp.own tkk ?_ h2 h3 h4 (fun k' d' e'=> ?_) e q3 q4 q5 hx)
   ·rw[upd_ne (ne_of_none h1 hp)];exact h1
   ·obtain⟨r1,E',r2,r3⟩:=h5 k' d' e'
    refine⟨r1,fun _=>⟨E',?_,r3⟩⟩
    have:=uf1.rd r1 r2
    exact .inl (by rw[upd_ne (ne_of_none this hp)];exact this)
 ·rw[val_eP] at hv
  have e:get L k=none:=by
   cases e:get L k with
   |none=>rfl
   |some d=>rw[e] at hv;cases hv
  have gp:Go SK o H1 (oput o p (.knD k)) (upd H1 p (.dK [])):=Go.allocT ow hp _ _ rfl rfl
  have npk:c≠p:=ne_of_none h1 hp
  have tk:oput o p (.knD k) c=some .kn:=by rw[oput_ne npk];exact tkk
  have gs:Go SK (oput o p (.knD k)) (upd H1 p (.dK [])) (oput o p (.knD k)) (upd (upd H1 p (.dK [])) c (.dT (putK (L.map (eP V.ref)) (pk k) (.ref p)))):=Go.set gp.own tk (.inl rfl) _ rfl rfl
  have hd:(upd (upd H1 p (.dK [])) c (.dT (putK (L.map (eP V.ref)) (pk k) (.ref p)))) p=some (.dK (([]:List (Nat×Nat)).map (eN nV))):=by rw[upd_ne npk.symm,upd_same];rfl
  have gt:Go SK (oput o p (.knD k)) (upd (upd H1 p (.dK [])) c (.dT (putK (L.map (eP V.ref)) (pk k) (.ref p)))) (oput o p (.knD k)) (upd (upd (upd H1 p (.dK [])) c (.dT (putK (L.map (eP V.ref)) (pk k) (.ref p)))) p (.dK ((put ([]:List (Nat×Nat)) x n).map (eN nV)))):=Go.set gs.own oput_same (.inr ⟨k,rfl⟩) _ rfl rfl
  refine hQ p _ _ [] hd (by decide) ((gp.trans gs).trans gt) (KnR.put1 (L:=put L k p) gs.own tk ?_ (KA.nd_put h2) (fun k' hk'=> ?_) (fun k' e' w=> ?_) (fun k' d' e'=> ?_) KA.get_put_same List.nodup_nil (fun y hy=>by cases hy) (fun y=>(h4 k e y).symm) hx)
  ·rw[upd_same,put_eP]
  ·rcases KA.keys_put.mp hk' with rfl|hk'
   ·exact hK
   ·exact h3 k' hk'
  ·rw[KA.get_put] at e'
   split at e'
   ·cases e'
   ·exact h4 k' e' w
  ·rw[KA.get_put] at e'
   by_cases z:k'=k
   ·rw[if_pos z] at e'
    cases e'
    rw[z]
    exact⟨oput_same,fun zz=>absurd rfl zz⟩
   ·rw[if_neg z] at e'
    obtain⟨r1,E',r2,r3⟩:=h5 k' d' e'
    have r2':=uf1.rd r1 r2
    have nd:d'≠p:=ne_of_none r2' hp
    have nk':d'≠c:=fun q=>by rw[q,tkk] at r1;cases r1
    exact⟨by rw[oput_ne nd];exact r1,fun _=>⟨E',.inl (by rw[upd_ne nk',upd_ne nd];exact r2'),r3⟩⟩
def NAll (Kk:Kn) (rs:List Rec) (k:Pl) (x n:Nat) (y:Off):Prop:=NGo Kk rs k x n y∨NCa Kk rs k x n y∨NWa Kk rs k x n y
def spTake (a:Ad):Sp:=fun vs H Q _=>∃(B p0:Addr) (o:Ow) (b:BA) (Kk:Kn) (O:List Off) (rs:List Rec) (k:Pl) (x n:Nat),vs= [.ref B,.ref p0,nV x,nV n]∧Own o H∧Unf o H∧BK a.c_C0 o H B b Kk O rs∧PlT H p0 k∧InP k∧x<4∧O.length<7800000∧
 ∀(o':Ow) (H':Hp) (Kk':Kn) (O':List Off),Go ST o H o' H'→BK a.c_C0 o' H' B b Kk' O' rs→
  ((better Kk k x n=false∧Kk'=Kk∧O'=O)∨(better Kk k x n=true∧Kk'=KTh.Kn.put Kk k.2 k.1 x n∧More Kk' O O' (NAll Kk' rs k x n) 1536))→Q .non H'
theorem ok_b (T:Txt K mg a):FnOk P w K mg base CX0 6 a.f_b a.d_b ["self","place","end","steps"] (spTake a):=by
 have G_9:=ok_9 (P:=P) (w:=w) (base:=base) T
 have G_c:=ok_c (P:=P) (w:=w) (base:=base) T
 have G_d:=ok_d (P:=P) (w:=w) (base:=base) T
 have G_e:=ok_e (P:=P) (w:=w) (base:=base) T
 refine T.F_b.ok sc_b (fun vs H Q E h=> ?_) (fun cdv A outer s H vs Q E hr h=> ?_)
 ·obtain⟨B,p0,o,b,Kk,O,rs,k,x,n,rfl,_⟩:=h
  rfl
 ·obtain⟨B,p0,o,b,Kk,O,rs,k,x,n,rfl,ow,uf,hB,hk,hK,hx,hO,q⟩:=h
  have hu:=hu_of hr
  refine⟨_,(pss_one (ps_if (pt_val (pe_meth (pv 0) T.cl_C0 T.m_9 G_9 (hr.mono (by decide)) T.b_9 .nil pass0 (pa_cons (pv 1) (pa_cons (pv 2) (pa_cons (pv 3) pa_nil))))) (pss_cons (ps_set (i:=4) sc_b.nd rfl (Or.inl rfl) (pe_dsetdefault2 hu (pe_fld (pv 0) rfl) (pv 1) pe_dnewK ⟨rfl,rfl,rfl,rfl⟩))
   (pss_cons (ps_dput hu (pv 4) (pv 2) (pv 3) rfl)
   (pss_cons (ps_expr (pe_meth (pv 0) T.cl_C0 T.m_c G_c (hr.mono (by decide)) T.b_c .nil pass0 (pa_cons (pv 1) (pa_cons (pv 2) (pa_cons (pv 3) pa_nil)))))
   (pss_cons (ps_expr (pe_meth (pv 0) T.cl_C0 T.m_d G_d (hr.mono (by decide)) T.b_d .nil pass0 (pa_cons (pv 1) (pa_cons (pv 2) (pa_cons (pv 3) pa_nil)))))
   (pss_one (ps_expr (pe_meth (pv 0) T.cl_C0 T.m_e G_e (hr.mono (by decide)) T.b_e .nil pass0 (pa_cons (pv 1) (pa_cons (pv 2) (pa_cons (pv 3) pa_nil)))))))))) pss_nil)),?_⟩
  refine⟨_,rfl,B,b.dx,_,rfl,hB.obj,rfl,_,rfl,_,rfl,_,rfl,B,p0,o,b,Kk,O,rs,k,x,n,rfl,ow,hB,hk,fun H1 g1=>⟨_,rfl,ite2 (fun hb=> ?_) (fun hb=> ?_)⟩⟩
  ·have hB1:=hB.same0 g1
   have uf1:=g1.unf uf
   have hk1:PlT H1 p0 k:=g1.tup hk
   obtain⟨L0,h1,_⟩:=id hB1.kn
   refine⟨_,rfl,B,_,_,_,_,rfl,hB1.obj,T.cl_C0,T.na_0,rfl,b.kn,rfl,.inr ⟨_,.inl h1⟩,_,rfl,fun p hp=>KnR.sd (n:=n) g1.own uf1 hB1.tk hB1.kn hk1 hK hx hp fun d o2 H3 E hd hlen g2 hk2=> ?_⟩
   refine⟨_,rfl,_,rfl,_,rfl,d,_,rfl,DPut.k (k:=nk x) hd (lt_size (by rw[List.length_map];omega)),?_⟩
   rw[put_eN]
   generalize upd H3 d (.dK ((put E x n).map (eN nV)))=H2 at*
   have hB2:=hB1.setK g2 hk2
   have hk2':PlT H2 p0 k:=g2.tup hk1
   refine⟨_,rfl,B,b.dx,_,rfl,hB2.obj,rfl,_,rfl,_,rfl,_,rfl,B,p0,o2,b,_,O,rs,k,x,n,rfl,g2.own,hB2,hk2',by omega,fun H3 O3 g3 r3 m3=> ?_⟩
   have hB3:=hB2.goO g3 r3
   have l3:=m3.len
   refine⟨_,rfl,B,b.dx,_,rfl,hB3.obj,rfl,_,rfl,_,rfl,_,rfl,B,p0,o2,b,_,O3,rs,k,x,n,rfl,g3.own,hB3,g3.tup hk2',by omega,fun H4 O4 g4 r4 m4=> ?_⟩
   have hB4:=hB3.goO g4 r4
   have l4:=m4.len
   refine⟨_,rfl,B,b.dx,_,rfl,hB4.obj,rfl,_,rfl,_,rfl,_,rfl,B,p0,o2,b,_,O4,rs,k,x,n,rfl,g4.own,hB4,g4.tup (g3.tup hk2'),by omega,fun H5 O5 g5 r5 m5=> ?_⟩
   refine q o2 H5 _ O5 (((g1.mono s0_st).trans (g2.mono sk_st)).trans (((g3.trans g4).trans g5).mono so_st)) (hB4.goO g5 r5) (.inr ⟨hb,rfl,((m3.trans m4).trans m5).imp (fun y=> ?_) (Nat.le_refl _)⟩)
   unfold NAll
   exact or_assoc
  ·exact q o H1 Kk O (g1.mono s0_st) (hB.same0 g1) (.inl ⟨Bool.not_eq_true _▸hb,rfl,rfl⟩)
end R
end
section
namespace R
open PySem PySem.Spec PyProof.Rows L2
open KA (Pl InP get put)
open KTh (Kn Off Rec Cov Cl1)
variable {P:Program} {w:World} {K:PySem.W.Frag} {mg:Str→Option Value} {base:Heap} {a:Ad}
def SC (S:Nat→Nat→Nat→Nat→Prop):Rec→Prop
 | .ret v i x=>S v i x 1
 | .go v i u k=>∀x n,S u k x n→S v i x (n+1)
 | .call v i u k nx=>∀y m x n,S u k y m→S y nx x n→S v i x (m+n+1)
structure Snd (S:Nat→Nat→Nat→Nat→Prop) (Kk:Kn) (O:List Off) (rs:List Rec):Prop where
 kn:∀v i x n,Kk v i x=some n→S v i x n
 of:∀y∈O,S y.value y.point y.fin y.steps
 rs:∀r∈rs,SC S r
 rg:∀v i x n,S v i x n→v<4∧i<32∧x<4
theorem mem_goers {rs:List Rec} {k e:Pl} (h:e∈goersOf rs k):Rec.go e.2 e.1 k.2 k.1∈rs:=by
 unfold goersOf at h
 obtain⟨r,hr,q⟩:=List.mem_filterMap.mp h
 cases r with
 |ret v i x=>cases q
 |call v i u j nx=>cases q
 |go v i u j=>
  dsimp only at q
  split at q
  ·rename_i z;cases q;subst z;exact hr
  ·cases q
theorem goers_mem {rs:List Rec} {v i u j:Nat} (h:Rec.go v i u j∈rs):(i,v)∈goersOf rs (j,u):=by
 unfold goersOf
 exact List.mem_filterMap.mpr ⟨_,h,by dsimp only;rw[if_pos rfl]⟩
theorem mem_callers {rs:List Rec} {k e:Pl} {nx:Nat} (h:(e,nx)∈callersOf rs k):Rec.call e.2 e.1 k.2 k.1 nx∈rs:=by
 unfold callersOf at h
 obtain⟨r,hr,q⟩:=List.mem_filterMap.mp h
 cases r with
 |ret v i x=>cases q
 |go v i u j=>cases q
 |call v i u j nx'=>
  dsimp only at q
  split at q
  ·rename_i z;cases q;subst z;exact hr
  ·cases q
theorem callers_mem {rs:List Rec} {v i u j nx:Nat} (h:Rec.call v i u j nx∈rs):((i,v),nx)∈callersOf rs (j,u):=by
 unfold callersOf
 exact List.mem_filterMap.mpr ⟨_,h,by dsimp only;rw[if_pos rfl]⟩
theorem mem_waiters {rs:List Rec} {e k:Pl} {n:Nat} (h:(e,k)∈waitersOf rs n):Rec.call e.2 e.1 k.2 k.1 n∈rs:=by
 unfold waitersOf at h
 obtain⟨r,hr,q⟩:=List.mem_filterMap.mp h
 cases r with
 |ret v i x=>cases q
 |go v i u j=>cases q
 |call v i u j nx'=>
  dsimp only at q
  split at q
  ·rename_i z;cases q;subst z;exact hr
  ·cases q
theorem waiters_mem {rs:List Rec} {v i u j nx:Nat} (h:Rec.call v i u j nx∈rs):((i,v),(j,u))∈waitersOf rs nx:=by
 unfold waitersOf
 exact List.mem_filterMap.mpr ⟨_,h,by dsimp only;rw[if_pos rfl]⟩
theorem Snd.all {S:Nat→Nat→Nat→Nat→Prop} {Kk:Kn} {O:List Off} {rs:List Rec} (h:Snd S Kk O rs) {k:Pl} {x n:Nat} (hk:S k.2 k.1 x n) {y:Off} (q:NAll Kk rs k x n y):S y.value y.point y.fin y.steps:=by
 rcases q with ⟨h1,h2,h3⟩|⟨nx,h1,m,h2,h3⟩|⟨j,h1,h2,m,h3,h4⟩
 ·have:=h.rs _ (mem_goers h1) x n hk
  rw[h2,h3];exact this
 ·have:=h.rs _ (mem_callers h1) x n y.fin m hk (h.kn _ _ _ _ h2)
  rw[h3,show n+1+m=n+m+1 by omega];exact this
 ·have:=h.rs _ (mem_waiters h1) k.2 m x n (h.kn _ _ _ _ h3) hk
  rw[h2,h4];exact this
noncomputable def kcode (v i x:Nat):Nat:=v+4*i+128*x
def spTakeAll (a:Ad):Sp:=fun vs H Q _=>∃(B:Addr) (o:Ow) (b:BA) (Kk:Kn) (O:List Off) (rs:List Rec) (S:Nat→Nat→Nat→Nat→Prop),vs= [.ref B]∧Own o H∧Unf o H∧BK a.c_C0 o H B b Kk O rs∧Snd S Kk O rs∧(∀r∈rs,Cl1 Kk O r)∧O.length≤10000∧
 ∀(o':Ow) (H':Hp) (Kk':Kn),Go ST o H o' H'→BK a.c_C0 o' H' B b Kk' [] rs→Snd S Kk' [] rs→(∀r∈rs,Cl1 Kk' [] r)→Q .non H'
theorem ok_a (T:Txt K mg a):FnOk P w K mg base CX0 7 a.f_a a.d_a ["self"] (spTakeAll a):=by
 have G_3:=ok_3 (P:=P) (w:=w) (base:=base) T
 have G_b:=ok_b (P:=P) (w:=w) (base:=base) T
 refine T.F_a.ok sc_a (fun vs H Q E h=> ?_) (fun cdv A outer s H vs Q E hr h=> ?_)
 ·obtain⟨B,o,b,Kk,O,rs,S,rfl,_⟩:=h
  rfl
 ·obtain⟨B,o,b,Kk0,O0,rs,S,rfl,ow,uf,hB0,hS0,hC0,hO0,q⟩:=h
  have hu:=hu_of hr
  refine⟨_,(pss_one (ps_while PassesOwn.never (pt_cmpR op_gt (pe_callB call_len_seq (by rfl) T.z_len PySem.boot_len (pa_cons (pe_fld (pv 0) rfl) pa_nil)) pe_int (nomark _)) (pss_cons (ps_set (i:=1) sc_a.nd rfl (Or.inl rfl) (pe_call G_3 (hr.mono (by decide)) rfl T.mg_3 T.k_3 T.b_3 .nil pass0 (pa_cons (pe_fld (pv 0) rfl) pa_nil)))
   (pss_one (ps_expr (pe_meth (pv 0) T.cl_C0 T.m_b G_b (hr.mono (by decide)) T.b_b .nil pass0 (pa_cons (pe_ix ix_tup (pv 1) pe_int (fun _ _=>rfl)) (pa_cons (pe_ix ix_tup (pv 1) pe_int (fun _ _=>rfl)) (pa_cons (pe_ix ix_tup (pv 1) pe_int (fun _ _=>rfl)) pa_nil))))))))),?_⟩
  refine⟨fun m σ H'=>∃(g1:Option V) (o':Ow) (Kk:Kn) (O:List Off) (Tk:List Nat) (ms:Nat),σ= [some (.ref B),g1]∧Go ST o H o' H'∧BK a.c_C0 o' H' B b Kk O rs∧Snd S Kk O rs∧(∀r∈rs,Cl1 Kk O r)∧Tk.Nodup∧
    (∀c∈Tk,c<512∧∃n,Kk (c%4) (c/4%32) (c/128)=some n∧n≤ms)∧(∀y∈O,ms≤y.steps)∧O.length≤10000+Tk.length*1536∧m=(512-Tk.length)*1537+O.length,
   ⟨_,_,o,Kk0,O0,[],0,rfl,Go.refl ow,hB0,hS0,hC0,List.nodup_nil,fun c hc=>(by cases hc),fun y _=>Nat.zero_le _,by simpa using hO0,rfl⟩,?_⟩
  rintro m σ H1 ⟨g0,o1,Kk,O,Tk,ms,rfl,g1,hB,hS,hC,hT1,hT2,hT3,hT4,rfl⟩
  obtain⟨xs,f1,f2,f3⟩:=hB.of
  have hlen:=prd_len f2
  rw[List.length_map] at hlen
  have hTk:Tk.length≤512:=KTh.nodup_le 512 Tk hT1 fun c hc=>(hT2 c hc).1
  have hbig:O.length≤10000+512*1536:=Nat.le_trans hT4 (Nat.add_le_add_left (Nat.mul_le_mul_right _ hTk) _)
  refine⟨_,rfl,B,_,_,_,_,rfl,hB.obj,T.cl_C0,T.na_4,rfl,b.of,_,rfl,.inl (SqL.of f1),_,_,rfl,rfl,_,rfl,ite2 (fun hb=> ?_) (fun hb=> ?_)⟩
  ·have hpos:0<O.length:=by
    have:(0:Int)<(xs.length:Int):=of_decide_eq_true hb
    omega
   refine⟨_,fun σ' H' h=>h,?_⟩
   refine⟨_,rfl,B,_,_,_,_,rfl,hB.obj,T.cl_C0,T.na_4,rfl,b.of,xs,O.map okey,4,rfl,f1,f2,by omega,by rw[List.length_map];exact hpos,f3,fun e0 e ys es' p1 p2 p3 p4 p5 p6 p7 p8 p9=> ?_⟩
   obtain⟨y,hy,rfl⟩:=List.mem_map.mp p3
   obtain⟨O1,rfl⟩:∃O1:List Off,es'=O1.map okey:=keys_map fun e he=>by
    obtain⟨z,_,rfl⟩:=List.mem_map.mp (p8 e he)
    exact⟨z,rfl⟩
   rw[List.length_map,List.length_map] at p6
   have m1:∀z∈O,z=y∨z∈O1:=fun z hz=>by
    rcases p7 (okey z) (List.mem_map.mpr ⟨z,hz,rfl⟩) with h|h
    ·exact .inl (okey_inj _ _ h)
    ·obtain⟨z',h1,h2⟩:=List.mem_map.mp h
     rw[←okey_inj _ _ h2];exact .inr h1
   have m2:∀z∈O1,z∈O:=fun z hz=>by
    obtain⟨z',h1,h2⟩:=List.mem_map.mp (p8 (okey z) (List.mem_map.mpr ⟨z,hz,rfl⟩))
    rw[←okey_inj _ _ h2];exact h1
   have hle:∀z∈O,y.steps≤z.steps:=fun z hz=>by
    have:=HT.lex_head (p4 (okey z) (List.mem_map.mpr ⟨z,hz,rfl⟩))
    omega
   obtain⟨s1,u1,v1,pp,r1,w1,w2,w3⟩:=p1
   have hnb:∀c zs,H1 c=some (.tup zs)→(upd H1 b.of (.lst ys)) c=some (.tup zs):=tup_upd f1
   have hr1:r1= [(y.fin:Int)]∧s1=(y.steps:Int)∧u1=(y.point:Int)∧v1=(y.value:Int):=by
    unfold okey at w3
    simp only[List.cons.injEq] at w3
    obtain⟨e1,e2,e3,e4⟩:=w3
    exact⟨e4.symm,e1.symm,e2.symm,e3.symm⟩
   obtain⟨rfl,rfl,rfl,rfl⟩:=hr1
   have g2:Go ST o1 H1 o1 (upd H1 b.of (.lst ys)):=Go.set g1.own hB.to_ (.inr (.inr rfl)) _ rfl rfl
   have g2o:Go SO o1 H1 o1 (upd H1 b.of (.lst ys)):=Go.set (S:=SO) g1.own hB.to_ rfl (.lst ys) rfl rfl
   have hOf:OfR (upd H1 b.of (.lst ys)) b.of O1:=⟨ys,upd_same,Ents.tups hnb p5,p9⟩
   have hB2:=hB.goO g2o hOf
   have hSy:=hS.of y hy
   obtain⟨rv,ri,rx⟩:=hS.rg _ _ _ _ hSy
   have ht:H1 e0=some (.tup [nV y.steps,.ref pp,nV y.fin]):=w1
   have hlO:O1.length<7800000:=by omega
   refine⟨_,rfl,B,b.dx,_,rfl,hB2.obj,rfl,_,rfl,e0,_,_,_,rfl,rfl,SqT.of (hnb _ _ ht),atI_nat (j:=1) rfl,_,rfl,e0,_,_,_,rfl,rfl,SqT.of (hnb _ _ ht),atI_nat (j:=2) rfl,_,rfl,e0,_,_,_,rfl,rfl,SqT.of (hnb _ _ ht),atI_nat (j:=0) rfl,
    B,pp,o1,b,Kk,O1,rs,(y.point,y.value),y.fin,y.steps,rfl,g2.own,g2.unf (g1.unf uf),hB2,hnb _ _ w2,⟨ri,rv⟩,rx,hlO,fun o3 H3 Kk3 O3 g3 hB3 hcase=> ?_⟩
   have gg:=(g1.trans g2).trans g3
   have hmo:∀z∈O,z∈y::O1:=fun z hz=>(m1 z hz).elim (fun h=>by rw[h];exact List.mem_cons_self) (fun h=>List.mem_cons_of_mem _ h)
   rcases hcase with ⟨hb1,rfl,rfl⟩|⟨hb1,rfl,hM⟩
   ·
    have hk:∃m,Kk3 y.value y.point y.fin=some m∧m≤y.steps:=by
     unfold better at hb1
     cases e:Kk3 y.value y.point y.fin with
     |none=>rw[e] at hb1;cases hb1
     |some m=>rw[e] at hb1;exact⟨m,rfl,by have:=of_decide_eq_false hb1;omega⟩
    obtain⟨m,hk1,hk2⟩:=hk
    refine⟨(512-Tk.length)*1537+O3.length,by omega,_,o3,Kk3,O3,Tk,ms,rfl,gg,hB3,⟨hS.kn,fun z hz=>hS.of z (m2 z hz),hS.rs,hS.rg⟩,fun r hr=> ?_,hT1,hT2,fun z hz=>hT3 z (m2 z hz),by omega,rfl⟩
    exact KTh.drop_closed hk1 hk2 (fun z hz=>hz) ((hC r hr).more hmo)
   ·
    have hbm:∀m,Kk y.value y.point y.fin=some m→y.steps<m:=fun m e=>by
     unfold better at hb1
     dsimp only at hb1
     rw[e] at hb1
     exact of_decide_eq_true hb1
    have hc1:kcode y.value y.point y.fin%4=y.value:=by unfold kcode;omega
    have hc2:kcode y.value y.point y.fin/4%32=y.point:=by unfold kcode;omega
    have hc3:kcode y.value y.point y.fin/128=y.fin:=by unfold kcode;omega
    have hnew:kcode y.value y.point y.fin∉Tk:=fun hin=>by
     obtain⟨_,n,e,hn⟩:=hT2 _ hin
     rw[hc1,hc2,hc3] at e
     have:=hbm n e
     have:=hT3 y hy
     omega
    have hMl:=hM.len
    have hTk2:(kcode y.value y.point y.fin::Tk).length≤512:=KTh.nodup_le 512 _ (List.nodup_cons.mpr ⟨hnew,hT1⟩) fun c hc=>by
     rcases List.mem_cons.mp hc with rfl|hc
     ·unfold kcode;omega
     ·exact(hT2 c hc).1
    rw[List.length_cons] at hTk2
    have hSn:Snd S (KTh.Kn.put Kk y.value y.point y.fin y.steps) O1 rs:=⟨fun v i x n e=>by
     rcases KTh.Kn.put_eq e with ⟨rfl,rfl,rfl,rfl⟩|e
     ·exact hSy
     ·exact hS.kn v i x n e,fun z hz=>hS.of z (m2 z hz),hS.rs,hS.rg⟩
    refine⟨(512-(kcode y.value y.point y.fin::Tk).length)*1537+O3.length,?_,_,o3,_,O3,kcode y.value y.point y.fin::Tk,y.steps,rfl,gg,hB3,⟨hSn.kn,fun z hz=> ?_,hS.rs,hS.rg⟩,fun r hr=> ?_,List.nodup_cons.mpr ⟨hnew,hT1⟩,fun c hc=> ?_,fun z hz=> ?_,?_,rfl⟩
    ·rw[List.length_cons]
     have:(512-Tk.length)*1537=(512-(Tk.length+1))*1537+1537:=by
      rw[←Nat.succ_mul];congr 1;omega
     omega
    ·rcases hM.new z hz with h|h
     ·exact hSn.of z h
     ·exact hSn.all (k:=(y.point,y.value)) hSy h
    ·refine KTh.take_closed (x:=y) ((hC r hr).more hmo) hM.old (fun m e=>Nat.le_of_lt (hbm m e)) (fun v i e=> ?_) (fun v i nx x n e h=> ?_) (fun v i u k n e h=> ?_)
     ·subst e
      exact hM.cov ⟨y.steps+1,i,v,y.fin⟩ (.inl ⟨goers_mem hr,rfl,rfl⟩)
     ·subst e
      exact hM.cov ⟨y.steps+n+1,i,v,x⟩ (.inr (.inl ⟨nx,callers_mem hr,n,h,by show y.steps+n+1=y.steps+1+n;omega⟩))
     ·subst e
      exact hM.cov ⟨n+y.steps+1,i,v,y.fin⟩ (.inr (.inr ⟨(k,u),waiters_mem hr,rfl,n,h,rfl⟩))
    ·rcases List.mem_cons.mp hc with rfl|hc
     ·refine⟨by unfold kcode;omega,y.steps,?_,Nat.le_refl _⟩
      rw[hc1,hc2,hc3];exact KTh.Kn.put_same
     ·obtain⟨h1,n,h2,h3⟩:=hT2 c hc
      refine⟨h1,n,?_,Nat.le_trans h3 (hT3 y hy)⟩
      rw[KTh.Kn.put_ne]
      ·exact h2
      ·rintro⟨e1,e2,e3⟩
       refine hnew ?_
       have:kcode y.value y.point y.fin=c:=by unfold kcode;omega
       rw[this];exact hc
    ·rcases hM.new z hz with h|⟨_,_,h⟩|⟨nx,_,m,_,h⟩|⟨j,_,_,m,_,h⟩
     ·exact hle z (m2 z h)
     ·omega
     ·omega
     ·omega
    ·rw[List.length_cons,Nat.add_mul]
     omega
  ·have h0:O= []:=by
    have:¬(0:Int)<(xs.length:Int):=fun z=>hb (decide_eq_true z)
    exact List.length_eq_zero_iff.mp (by omega)
   subst h0
   exact q o1 H1 Kk g1 hB hS hC
end R
end
section
namespace R
open PySem PySem.Spec PyProof.Rows L2
open KA (Pl InP get put)
open KTh (Kn Off Rec Cov Cl1)
variable {P:Program} {w:World} {K:PySem.W.Frag} {mg:Str→Option Value} {base:Heap} {a:Ad}
theorem LsT.app {ε:Type} {El:Hp→V→ε→Prop} {S:Tag→Prop} {o:Ow} {H:Hp} {g p0 p:Addr} {tg:Tag} {tag:Pl→Tag} {f:Pl→List ε} {k:Pl} (h:LsT o H g tag El f) (hg:o g=some tg) (hE:Tups El) (ow:Own o H) (uf:Unf o H) (hk:PlT H p0 k) (hK:InP k) (hp:H p=none)
  (hl:∀j,(f j).length≤1000) (s1:S tg) (s2:∀j,S (tag j)) (tin:∀j j',tag j=tag j'→j=j') (tne:∀j,tg≠tag j) {Q:VK}
  (hQ:∀(l:Addr) (o2:Ow) (H3:Hp) (xs:List V),H3 l=some (.lst xs)→xs.length≤1000→Go S o H o2 H3→(∀(H4:Hp) (y:V) (e:ε),Go S0 o2 H3 o2 H4→El H4 y e→H4 l=some (.lst xs)∧Go S o2 H4 o2 (upd H4 l (.lst (xs++ [y])))∧LsT o2 (upd H4 l (.lst (xs++ [y]))) g tag El (fun j=>if j=k then f j++ [e] else f j))→Q (.ref l) H3):
  DSd (upd H p (.lst [])) g (.ref p0) (.ref p) Q:=by
 obtain⟨L,h1,h2,h3,h4,h5⟩:=h
 have hL:=len_dict h2 h3
 have h1:=uf.rd hg h1
 refine .inr ⟨L.map (eP V.ref),pk k,p0,?_,rfl,?_,lt_size (by rw[List.length_map];omega),fun v hv=> ?_,fun hv=> ?_⟩
 ·rw[upd_ne (ne_of_none h1 hp)];exact h1
 ·rw[upd_ne (ne_of_none hk hp)];exact hk
 ·rw[val_eP] at hv
  cases e:get L k with
  |none=>rw[e] at hv;cases hv
  |some l=>
   rw[e] at hv
   cases hv
   obtain⟨q1,xs,q2,q3⟩:=h5 k l e
   have gp:Go S o H o (upd H p (.lst [])):=Go.alloc ow hp _
   have hlx:(upd H p (.lst [])) l=some (.lst xs):=by rw[upd_ne (ne_of_none q2 hp)];exact q2
   have hxl:=prd_len q3
   refine hQ l o _ xs hlx (by have:=hl k;omega) gp fun H4 y e0 g4 hy=> ?_
   have l4:=g4.at hlx q1 (fun z=>z)
   have gs:Go S o H4 o (upd H4 l (.lst (xs++ [y]))):=Go.set g4.own q1 (s2 k) _ rfl rfl
   have gg:Go S o H o H4:=gp.trans (g4.mono fun _ z=>z.elim)
   have tu:∀b zs,H b=some (.tup zs)→(upd H4 l (.lst (xs++ [y]))) b=some (.tup zs):=fun b zs z=>gs.tup (gg.tup z)
   refine⟨l4,gs,L,.inl ?_,h2,h3,fun j=> ?_,fun j l' ej=> ?_⟩
   ·have n:g≠l:=fun z=>by rw[z,q1] at hg;cases hg;exact tne k rfl
    rw[upd_ne n]
    exact g4.at (by rw[upd_ne (ne_of_none h1 hp)];exact h1) hg (fun z=>z)
   ·dsimp only
    by_cases z:j=k
    ·rw[if_pos z,z,e]
     exact⟨fun q=>(by cases q),fun q=>absurd q (by simp)⟩
    ·rw[if_neg z];exact h4 j
   ·dsimp only
    obtain⟨r1,zs,r2,r3⟩:=h5 j l' ej
    refine⟨r1,?_⟩
    by_cases z:j=k
    ·subst z
     rw[e] at ej
     cases ej
     rw[if_pos rfl]
     exact⟨_,upd_same,prd_app (Paired.mapP q3 fun x y z=>hE _ _ tu x y z) (.cons (hE _ _ (fun b zs z=>gs.tup z) _ _ hy) .nil)⟩
    ·rw[if_neg z]
     have n:l'≠l:=fun q=>by rw[q,q1] at r1;exact z (tin _ _ (Option.some.inj r1)).symm
     refine⟨zs,?_,Paired.mapP r3 fun x y z=>hE _ _ tu x y z⟩
     rw[upd_ne n]
     exact g4.at (by rw[upd_ne (ne_of_none r2 hp)];exact r2) r1 (fun z=>z)
 ·rw[val_eP] at hv
  have e:get L k=none:=by
   cases e:get L k with
   |none=>rfl
   |some d=>rw[e] at hv;cases hv
  have gp:Go S o H (oput o p (tag k)) (upd H p (.lst [])):=Go.allocT ow hp _ _ rfl rfl
  have npk:g≠p:=ne_of_none h1 hp
  have tk:oput o p (tag k) g=some tg:=by rw[oput_ne npk];exact hg
  have gs:Go S (oput o p (tag k)) (upd H p (.lst [])) (oput o p (tag k)) (upd (upd H p (.lst [])) g (.dT (putK (L.map (eP V.ref)) (pk k) (.ref p)))):=Go.set gp.own tk s1 _ rfl rfl
  have hd:(upd (upd H p (.lst [])) g (.dT (putK (L.map (eP V.ref)) (pk k) (.ref p)))) p=some (.lst []):=by rw[upd_ne npk.symm,upd_same]
  have hgd:(upd (upd H p (.lst [])) g (.dT (putK (L.map (eP V.ref)) (pk k) (.ref p)))) g=some (.dT ((put L k p).map (eP V.ref))):=by rw[upd_same,put_eP]
  refine hQ p _ _ [] hd (by decide) (gp.trans gs) fun H4 y e0 g4 hy=> ?_
  have l4:=g4.at hd oput_same (fun z=>z)
  have gt:Go S (oput o p (tag k)) H4 (oput o p (tag k)) (upd H4 p (.lst ([]++ [y]))):=Go.set g4.own oput_same (s2 k) _ rfl rfl
  have gg:Go S o H (oput o p (tag k)) H4:=(gp.trans gs).trans (g4.mono fun _ z=>z.elim)
  have tu:∀b zs,H b=some (.tup zs)→(upd H4 p (.lst ([]++ [y]))) b=some (.tup zs):=fun b zs z=>gt.tup (gg.tup z)
  refine⟨l4,gt,put L k p,.inl ?_,KA.nd_put h2,fun j hj=> ?_,fun j=> ?_,fun j l' ej=> ?_⟩
  ·rw[upd_ne npk]
   exact g4.at hgd tk (fun z=>z)
  ·rcases KA.keys_put.mp hj with rfl|hj
   ·exact hK
   ·exact h3 j hj
  ·dsimp only
   rw[KA.get_put]
   by_cases z:j=k
   ·rw[if_pos z,if_pos z]
    exact⟨fun q=>(by cases q),fun q=>absurd q (by simp)⟩
   ·rw[if_neg z,if_neg z];exact h4 j
  ·dsimp only
   rw[KA.get_put] at ej
   by_cases z:j=k
   ·rw[if_pos z] at ej
    cases ej
    subst z
    rw[if_pos rfl,(h4 _).mp e]
    exact⟨oput_same,_,upd_same,.cons (hE _ _ (fun b zs z=>gt.tup z) _ _ hy) .nil⟩
   ·rw[if_neg z] at ej
    rw[if_neg z]
    obtain⟨r1,zs,r2,r3⟩:=h5 j l' ej
    have n1:l'≠p:=ne_of_none r2 hp
    have n2:l'≠g:=fun q=>by rw[q,hg] at r1;exact tne j (Option.some.inj r1)
    have t1:oput o p (tag k) l'=some (tag j):=by rw[oput_ne n1];exact r1
    refine⟨t1,zs,?_,Paired.mapP r3 fun x y z=>hE _ _ tu x y z⟩
    rw[upd_ne n1]
    exact g4.at (by rw[upd_ne n2,upd_ne n1];exact r2) t1 (fun z=>z)
theorem LsN.app {ε:Type} {El:Hp→V→ε→Prop} {S:Tag→Prop} {o:Ow} {H:Hp} {g p:Addr} {tg:Tag} {tag:Nat→Tag} {f:Nat→List ε} {k:Nat} (h:LsN o H g tag El f) (hg:o g=some tg) (hE:Tups El) (ow:Own o H) (uf:Unf o H) (hK:k<32) (hp:H p=none)
  (hl:∀j,(f j).length≤1000) (s1:S tg) (s2:∀j,S (tag j)) (tin:∀j j',tag j=tag j'→j=j') (tne:∀j,tg≠tag j) {Q:VK}
  (hQ:∀(l:Addr) (o2:Ow) (H3:Hp) (xs:List V),H3 l=some (.lst xs)→xs.length≤1000→Go S o H o2 H3→(∀(H4:Hp) (y:V) (e:ε),Go S0 o2 H3 o2 H4→El H4 y e→H4 l=some (.lst xs)∧Go S o2 H4 o2 (upd H4 l (.lst (xs++ [y])))∧LsN o2 (upd H4 l (.lst (xs++ [y]))) g tag El (fun j=>if j=k then f j++ [e] else f j))→Q (.ref l) H3):
  DSd (upd H p (.lst [])) g (nV k) (.ref p) Q:=by
 obtain⟨L,h1,h2,h3,h4,h5⟩:=h
 have hL:L.length≤32:=by
  have:=KTh.nodup_le 32 (L.map (·.1)) h2 h3
  rwa [List.length_map] at this
 have h1:=uf.rd hg h1
 refine .inl ⟨L.map (eN V.ref),nk k,?_,rfl,lt_size (by rw[List.length_map];omega),fun v hv=> ?_,fun hv=> ?_⟩
 ·rw[upd_ne (ne_of_none h1 hp)];exact h1
 ·rw[val_eN] at hv
  cases e:get L k with
  |none=>rw[e] at hv;cases hv
  |some l=>
   rw[e] at hv
   cases hv
   obtain⟨q1,xs,q2,q3⟩:=h5 k l e
   have gp:Go S o H o (upd H p (.lst [])):=Go.alloc ow hp _
   have hlx:(upd H p (.lst [])) l=some (.lst xs):=by rw[upd_ne (ne_of_none q2 hp)];exact q2
   have hxl:=prd_len q3
   refine hQ l o _ xs hlx (by have:=hl k;omega) gp fun H4 y e0 g4 hy=> ?_
   have l4:=g4.at hlx q1 (fun z=>z)
   have gs:Go S o H4 o (upd H4 l (.lst (xs++ [y]))):=Go.set g4.own q1 (s2 k) _ rfl rfl
   have gg:Go S o H o H4:=gp.trans (g4.mono fun _ z=>z.elim)
   have tu:∀b zs,H b=some (.tup zs)→(upd H4 l (.lst (xs++ [y]))) b=some (.tup zs):=fun b zs z=>gs.tup (gg.tup z)
   refine⟨l4,gs,L,.inl ?_,h2,h3,fun j=> ?_,fun j l' ej=> ?_⟩
   ·have n:g≠l:=fun z=>by rw[z,q1] at hg;cases hg;exact tne k rfl
    rw[upd_ne n]
    exact g4.at (by rw[upd_ne (ne_of_none h1 hp)];exact h1) hg (fun z=>z)
   ·dsimp only
    by_cases z:j=k
    ·rw[if_pos z,z,e]
     exact⟨fun q=>(by cases q),fun q=>absurd q (by simp)⟩
    ·rw[if_neg z];exact h4 j
   ·dsimp only
    obtain⟨r1,zs,r2,r3⟩:=h5 j l' ej
    refine⟨r1,?_⟩
    by_cases z:j=k
    ·subst z
     rw[e] at ej
     cases ej
     rw[if_pos rfl]
     exact⟨_,upd_same,prd_app (Paired.mapP q3 fun x y z=>hE _ _ tu x y z) (.cons (hE _ _ (fun b zs z=>gs.tup z) _ _ hy) .nil)⟩
    ·rw[if_neg z]
     have n:l'≠l:=fun q=>by rw[q,q1] at r1;exact z (tin _ _ (Option.some.inj r1)).symm
     refine⟨zs,?_,Paired.mapP r3 fun x y z=>hE _ _ tu x y z⟩
     rw[upd_ne n]
     exact g4.at (by rw[upd_ne (ne_of_none r2 hp)];exact r2) r1 (fun z=>z)
 ·rw[val_eN] at hv
  have e:get L k=none:=by
   cases e:get L k with
   |none=>rfl
   |some d=>rw[e] at hv;cases hv
  have gp:Go S o H (oput o p (tag k)) (upd H p (.lst [])):=Go.allocT ow hp _ _ rfl rfl
  have npk:g≠p:=ne_of_none h1 hp
  have tk:oput o p (tag k) g=some tg:=by rw[oput_ne npk];exact hg
  have gs:Go S (oput o p (tag k)) (upd H p (.lst [])) (oput o p (tag k)) (upd (upd H p (.lst [])) g (.dK (putK (L.map (eN V.ref)) (nk k) (.ref p)))):=Go.set gp.own tk s1 _ rfl rfl
  have hd:(upd (upd H p (.lst [])) g (.dK (putK (L.map (eN V.ref)) (nk k) (.ref p)))) p=some (.lst []):=by rw[upd_ne npk.symm,upd_same]
  have hgd:(upd (upd H p (.lst [])) g (.dK (putK (L.map (eN V.ref)) (nk k) (.ref p)))) g=some (.dK ((put L k p).map (eN V.ref))):=by rw[upd_same,put_eN]
  refine hQ p _ _ [] hd (by decide) (gp.trans gs) fun H4 y e0 g4 hy=> ?_
  have l4:=g4.at hd oput_same (fun z=>z)
  have gt:Go S (oput o p (tag k)) H4 (oput o p (tag k)) (upd H4 p (.lst ([]++ [y]))):=Go.set g4.own oput_same (s2 k) _ rfl rfl
  have gg:Go S o H (oput o p (tag k)) H4:=(gp.trans gs).trans (g4.mono fun _ z=>z.elim)
  have tu:∀b zs,H b=some (.tup zs)→(upd H4 p (.lst ([]++ [y]))) b=some (.tup zs):=fun b zs z=>gt.tup (gg.tup z)
  refine⟨l4,gt,put L k p,.inl ?_,KA.nd_put h2,fun j hj=> ?_,fun j=> ?_,fun j l' ej=> ?_⟩
  ·rw[upd_ne npk]
   exact g4.at hgd tk (fun z=>z)
  ·rcases KA.keys_put.mp hj with rfl|hj
   ·exact hK
   ·exact h3 j hj
  ·dsimp only
   rw[KA.get_put]
   by_cases z:j=k
   ·rw[if_pos z,if_pos z]
    exact⟨fun q=>(by cases q),fun q=>absurd q (by simp)⟩
   ·rw[if_neg z,if_neg z];exact h4 j
  ·dsimp only
   rw[KA.get_put] at ej
   by_cases z:j=k
   ·rw[if_pos z] at ej
    cases ej
    subst z
    rw[if_pos rfl,(h4 _).mp e]
    exact⟨oput_same,_,upd_same,.cons (hE _ _ (fun b zs z=>gt.tup z) _ _ hy) .nil⟩
   ·rw[if_neg z] at ej
    rw[if_neg z]
    obtain⟨r1,zs,r2,r3⟩:=h5 j l' ej
    have n1:l'≠p:=ne_of_none r2 hp
    have n2:l'≠g:=fun q=>by rw[q,hg] at r1;exact tne j (Option.some.inj r1)
    have t1:oput o p (tag k) l'=some (tag j):=by rw[oput_ne n1];exact r1
    refine⟨t1,zs,?_,Paired.mapP r3 fun x y z=>hE _ _ tu x y z⟩
    rw[upd_ne n1]
    exact g4.at (by rw[upd_ne n2,upd_ne n1];exact r2) t1 (fun z=>z)
def Der (Kk:Kn):Rec→Off→Prop
 | .ret v i x,y=>y=⟨1,i,v,x⟩
 | .go v i u k,y=>y.point=i∧y.value=v∧∃m,Kk u k y.fin=some m∧y.steps=1+m
 | .call v i u k nx,y=>y.point=i∧y.value=v∧∃z m n,Kk u k z=some m∧Kk z nx y.fin=some n∧y.steps=m+1+n
theorem Der.cl {Kk:Kn} {O:List Off} {r:Rec} (h:∀y,Der Kk r y→Cov Kk O y.value y.point y.fin y.steps):Cl1 Kk O r:=by
 cases r with
 |ret v i x=>exact h ⟨1,i,v,x⟩ rfl
 |go v i u k=>exact fun x n e=>h ⟨n+1,i,v,x⟩ ⟨rfl,rfl,n,e,by show n+1=1+n;omega⟩
 |call v i u k nx=>exact fun z m x n e1 e2=>h ⟨m+n+1,i,v,x⟩ ⟨rfl,rfl,z,m,n,e1,e2,by show m+n+1=m+1+n;omega⟩
theorem Der.snd {S:Nat→Nat→Nat→Nat→Prop} {Kk:Kn} {r:Rec} {y:Off} (hk:∀v i x n,Kk v i x=some n→S v i x n) (hr:SC S r) (h:Der Kk r y):S y.value y.point y.fin y.steps:=by
 cases r with
 |ret v i x=>cases h;exact hr
 |go v i u k=>
  obtain⟨h1,h2,m,h3,h4⟩:=h
  rw[h1,h2,h4,Nat.add_comm]
  exact hr _ _ (hk _ _ _ _ h3)
 |call v i u k nx=>
  obtain⟨h1,h2,z,m,n,h3,h4,h5⟩:=h
  rw[h1,h2,h5,show m+1+n=m+n+1 by omega]
  exact hr _ _ _ _ (hk _ _ _ _ h3) (hk _ _ _ _ h4)
noncomputable def recFor (k:Pl) (kind:Nat) (j:Pl) (nx:Nat):Rec:=if kind=0 then .go k.2 k.1 j.2 j.1 else if kind=1 then .call k.2 k.1 j.2 j.1 nx else .ret k.2 k.1 j.2
def SA (t:Tag):Prop:=t= .go∨(∃k,t= .goL k)∨t= .ca∨(∃k,t= .caL k)∨t= .wa∨(∃k,t= .waL k)∨t= .of
theorem so_sa:∀t,SO t→SA t:=fun t z=> .inr (.inr (.inr (.inr (.inr (.inr z)))))
theorem goers_snoc (rs:List Rec) (r:Rec) (k:Pl):goersOf (rs++ [r]) k=goersOf rs k++goersOf [r] k:=List.filterMap_append
theorem callers_snoc (rs:List Rec) (r:Rec) (k:Pl):callersOf (rs++ [r]) k=callersOf rs k++callersOf [r] k:=List.filterMap_append
theorem waiters_snoc (rs:List Rec) (r:Rec) (k:Nat):waitersOf (rs++ [r]) k=waitersOf rs k++waitersOf [r] k:=List.filterMap_append
theorem LsT.congr {ε:Type} {El:Hp→V→ε→Prop} {o:Ow} {H:Hp} {g:Addr} {tag:Pl→Tag} {f f':Pl→List ε} (h:LsT o H g tag El f) (e:∀k,f k=f' k):LsT o H g tag El f':=by
 rw[show f'=f from funext fun k=>(e k).symm];exact h
theorem LsN.congr {ε:Type} {El:Hp→V→ε→Prop} {o:Ow} {H:Hp} {g:Addr} {tag:Nat→Tag} {f f':Nat→List ε} (h:LsN o H g tag El f) (e:∀k,f k=f' k):LsN o H g tag El f':=by
 rw[show f'=f from funext fun k=>(e k).symm];exact h
structure BX (cB:Addr) (o:Ow) (H:Hp) (B:Addr) (b:BA) (Kk:Kn) (O:List Off) (fg:Pl→List Pl) (fc:Pl→List (Pl×Nat)) (fw:Nat→List (Pl×Pl)):Prop where
 obj:H B=some (.ins cB b.dx (bfs b))
 tB:o B=some .bk
 tk:o b.kn=some .kn
 tg:o b.go=some .go
 tc:o b.ca=some .ca
 tw:o b.wa=some .wa
 to_:o b.of=some .of
 kn:KnR o H b.kn Kk
 go:LsT o H b.go .goL ElP fg
 ca:LsT o H b.ca .caL ElC fc
 wa:LsN o H b.wa .waL ElW fw
 of:OfR H b.of O
theorem BK.x {cB:Addr} {o:Ow} {H:Hp} {B:Addr} {b:BA} {Kk:Kn} {O:List Off} {rs:List Rec} (h:BK cB o H B b Kk O rs):BX cB o H B b Kk O (goersOf rs) (callersOf rs) (waitersOf rs):=⟨h.obj,h.tB,h.tk,h.tg,h.tc,h.tw,h.to_,h.kn,h.go,h.ca,h.wa,h.of⟩
section
variable {cB:Addr} {o o':Ow} {H H':Hp} {B:Addr} {b:BA} {Kk:Kn} {O:List Off} {fg fg':Pl→List Pl} {fc fc':Pl→List (Pl×Nat)} {fw fw':Nat→List (Pl×Pl)} {rs:List Rec}
theorem BX.k (h:BX cB o H B b Kk O fg fc fw) (h1:∀k,fg k=goersOf rs k) (h2:∀k,fc k=callersOf rs k) (h3:∀k,fw k=waitersOf rs k) (hl:rs.length≤256):BK cB o H B b Kk O rs:=⟨h.obj,h.tB,h.tk,h.tg,h.tc,h.tw,h.to_,h.kn,h.go.congr h1,h.ca.congr h2,h.wa.congr h3,h.of,hl⟩
def Sg (t:Tag):Prop:=t= .go∨∃k,t= .goL k
def Sc (t:Tag):Prop:=t= .ca∨∃k,t= .caL k
def Sw (t:Tag):Prop:=t= .wa∨∃k,t= .waL k
theorem sg_sa:∀t,Sg t→SA t:=fun t z=>z.elim .inl fun z=> .inr (.inl z)
theorem sc_sa:∀t,Sc t→SA t:=fun t z=>z.elim (fun z=> .inr (.inr (.inl z))) fun z=> .inr (.inr (.inr (.inl z)))
theorem sw_sa:∀t,Sw t→SA t:=fun t z=>z.elim (fun z=> .inr (.inr (.inr (.inr (.inl z))))) fun z=> .inr (.inr (.inr (.inr (.inr (.inl z)))))
theorem BX.setG (h:BX cB o H B b Kk O fg fc fw) (g:Go Sg o H o' H') (l:LsT o' H' b.go .goL ElP fg'):BX cB o' H' B b Kk O fg' fc fw:=by
 have n:∀t,t≠ .go→(∀k,t≠ .goL k)→¬Sg t:=fun t h1 h2 z=>z.elim h1 fun⟨k,z⟩=>h2 k z
 exact⟨g.at h.obj h.tB (n _ (fun z=>nomatch z) (fun _ z=>nomatch z)),g.tag h.tB,g.tag h.tk,g.tag h.tg,g.tag h.tc,g.tag h.tw,g.tag h.to_,h.kn.go g h.tk (n _ (fun z=>nomatch z) (fun _ z=>nomatch z)) (fun _=>n _ (fun z=>nomatch z) (fun _ z=>nomatch z)),l,
  h.ca.go tups_C g h.tc (n _ (fun z=>nomatch z) (fun _ z=>nomatch z)) (fun k=>n _ (fun z=>nomatch z) (fun _ z=>nomatch z)),h.wa.go tups_W g h.tw (n _ (fun z=>nomatch z) (fun _ z=>nomatch z)) (fun k=>n _ (fun z=>nomatch z) (fun _ z=>nomatch z)),h.of.go g h.to_ (n _ (fun z=>nomatch z) (fun _ z=>nomatch z))⟩
theorem BX.setC (h:BX cB o H B b Kk O fg fc fw) (g:Go Sc o H o' H') (l:LsT o' H' b.ca .caL ElC fc'):BX cB o' H' B b Kk O fg fc' fw:=by
 have n:∀t,t≠ .ca→(∀k,t≠ .caL k)→¬Sc t:=fun t h1 h2 z=>z.elim h1 fun⟨k,z⟩=>h2 k z
 exact⟨g.at h.obj h.tB (n _ (fun z=>nomatch z) (fun _ z=>nomatch z)),g.tag h.tB,g.tag h.tk,g.tag h.tg,g.tag h.tc,g.tag h.tw,g.tag h.to_,h.kn.go g h.tk (n _ (fun z=>nomatch z) (fun _ z=>nomatch z)) (fun _=>n _ (fun z=>nomatch z) (fun _ z=>nomatch z)),
  h.go.go tups_P g h.tg (n _ (fun z=>nomatch z) (fun _ z=>nomatch z)) (fun k=>n _ (fun z=>nomatch z) (fun _ z=>nomatch z)),l,h.wa.go tups_W g h.tw (n _ (fun z=>nomatch z) (fun _ z=>nomatch z)) (fun k=>n _ (fun z=>nomatch z) (fun _ z=>nomatch z)),h.of.go g h.to_ (n _ (fun z=>nomatch z) (fun _ z=>nomatch z))⟩
theorem BX.setW (h:BX cB o H B b Kk O fg fc fw) (g:Go Sw o H o' H') (l:LsN o' H' b.wa .waL ElW fw'):BX cB o' H' B b Kk O fg fc fw':=by
 have n:∀t,t≠ .wa→(∀k,t≠ .waL k)→¬Sw t:=fun t h1 h2 z=>z.elim h1 fun⟨k,z⟩=>h2 k z
 exact⟨g.at h.obj h.tB (n _ (fun z=>nomatch z) (fun _ z=>nomatch z)),g.tag h.tB,g.tag h.tk,g.tag h.tg,g.tag h.tc,g.tag h.tw,g.tag h.to_,h.kn.go g h.tk (n _ (fun z=>nomatch z) (fun _ z=>nomatch z)) (fun _=>n _ (fun z=>nomatch z) (fun _ z=>nomatch z)),
  h.go.go tups_P g h.tg (n _ (fun z=>nomatch z) (fun _ z=>nomatch z)) (fun k=>n _ (fun z=>nomatch z) (fun _ z=>nomatch z)),h.ca.go tups_C g h.tc (n _ (fun z=>nomatch z) (fun _ z=>nomatch z)) (fun k=>n _ (fun z=>nomatch z) (fun _ z=>nomatch z)),l,h.of.go g h.to_ (n _ (fun z=>nomatch z) (fun _ z=>nomatch z))⟩
end
def spAddStep (a:Ad):Sp:=fun vs H Q _=>∃(B p0 j0:Addr) (o:Ow) (b:BA) (Kk:Kn) (O:List Off) (rs:List Rec) (k j:Pl) (kind nx:Nat),vs= [.ref B,.ref p0,nV kind,.ref j0,nV nx]∧Own o H∧Unf o H∧BK a.c_C0 o H B b Kk O rs∧PlT H p0 k∧PlT H j0 j∧(kind≤1→InP j)∧(kind=1→nx<32)∧O.length<7000000∧rs.length<256∧
 ∀(o':Ow) (H':Hp) (O':List Off),Go SA o H o' H'→BK a.c_C0 o' H' B b Kk O' (rs++ [recFor k kind j nx])→More Kk O O' (Der Kk (recFor k kind j nx)) 16→Q .non H'
theorem ok_5 (T:Txt K mg a):FnOk P w K mg base CX0 5 a.f_5 a.d_5 ["self","place","kind","target","goes_on"] (spAddStep a):=by
 have G_8:=ok_8 (P:=P) (w:=w) (base:=base) T
 have G_7:=ok_7 (P:=P) (w:=w) (base:=base) T
 have G_6:=ok_6 (P:=P) (w:=w) (base:=base) T
 refine T.F_5.ok sc_5 (fun vs H Q E h=> ?_) (fun cdv A outer s H vs Q E hr h=> ?_)
 ·obtain⟨B,p0,j0,o,b,Kk,O,rs,k,j,kind,nx,rfl,_⟩:=h
  rfl
 ·obtain⟨B,p0,j0,o,b,Kk,O,rs,k,j,kind,nx,rfl,ow,uf,hB,hk,hj,hJ,hN,hO,hR,q⟩:=h
  have hu:=hu_of hr
  refine⟨_,(pss_one (ps_if (pt_cmpR op_eq (pv 2) (pe_gi rfl T.g_GO) (nomark _)) (pss_cons (ps_expr (pe_bm PySem.F.plainAttrs_list PySem.F.slot_list_append PySem.F.type_list_append mt_append (pe_dsetdefault2 hu (pe_fld (pv 0) rfl) (pv 3) (pe_lst pa_nil) ⟨rfl,rfl,rfl,rfl⟩) (pa_cons (pv 1) pa_nil)))
   (pss_one (ps_expr (pe_meth (pv 0) T.cl_C0 T.m_8 G_8 (hr.mono (by decide)) T.b_8 .nil pass0 (pa_cons (pv 1) (pa_cons (pv 3) (pa_cons pe_int pa_nil))))))) (pss_one (ps_if (pt_cmpR op_eq (pv 2) (pe_gi rfl T.g_CALL) (nomark _)) (pss_cons (ps_expr (pe_bm PySem.F.plainAttrs_list PySem.F.slot_list_append PySem.F.type_list_append mt_append (pe_dsetdefault2 hu (pe_fld (pv 0) rfl) (pv 3) (pe_lst pa_nil) ⟨rfl,rfl,rfl,rfl⟩) (pa_cons (pe_tup (pa_cons (pv 1) (pa_cons (pv 4) pa_nil))) pa_nil)))
   (pss_cons (ps_expr (pe_bm PySem.F.plainAttrs_list PySem.F.slot_list_append PySem.F.type_list_append mt_append (pe_dsetdefault2 hu (pe_fld (pv 0) rfl) (pv 4) (pe_lst pa_nil) ⟨rfl,rfl,rfl,rfl⟩) (pa_cons (pe_tup (pa_cons (pv 1) (pa_cons (pv 3) pa_nil))) pa_nil)))
   (pss_one (ps_unl (ps_for PassesOwn.never rfl (pi_itemsL (pe_meth (pv 0) T.cl_C0 T.m_6 G_6 (hr.mono (by decide)) T.b_6 .nil pass0 (pa_cons (pv 3) pa_nil))) (pg_tup rfl (pgs_cons (pg_name (i:=5) sc_5.nd rfl (Or.inl rfl)) (pgs_cons (pg_name (i:=6) sc_5.nd rfl (Or.inl rfl)) pgs_nil))) (pss_one (ps_expr (pe_meth (pv 0) T.cl_C0 T.m_8 G_8 (hr.mono (by decide)) T.b_8 .nil pass0 (pa_cons (pv 1) (pa_cons (pe_tup (pa_cons (pv 4) (pa_cons (pv 5) pa_nil))) (pa_cons (pe_op op_add (pv 6) pe_int) pa_nil))))))))))) (pss_one (ps_expr (pe_meth (pv 0) T.cl_C0 T.m_7 G_7 (hr.mono (by decide)) T.b_7 .nil pass0 (pa_cons (pv 1) (pa_cons (pe_ix ix_tup (pv 3) pe_int (fun _ _=>rfl)) (pa_cons pe_int pa_nil)))))))))),?_⟩
  have hdec:∀n m:Nat,decide (V.int (n:Int)=V.int (m:Int))=true→n=m:=fun n m h=>by
   have:=of_decide_eq_true h
   injection this with this
   omega
  have hlen1:∀r:Rec,(rs++ [r]).length≤256:=fun r=>by rw[List.length_append,List.length_singleton];omega
  refine⟨_,rfl,rfl,_,rfl,ite2 (fun h0=> ?_) (fun h0=> ?_)⟩
  ·have h0:kind=0:=hdec kind 0 h0
   subst h0
   have er:recFor k 0 j nx= .go k.2 k.1 j.2 j.1:=rfl
   rw[er] at q
   refine⟨_,rfl,B,_,_,_,_,rfl,hB.obj,T.cl_C0,T.na_1,rfl,b.go,rfl,hB.go.isD,_,rfl,Nat.zero_le _,fun p hp=> ?_⟩
   refine LsT.app (S:=Sg) hB.go hB.tg tups_P ow uf hj (hJ (by omega)) hp (fun i=>by have:=goers_len rs i;omega) (.inl rfl) (fun i=> .inr ⟨i,rfl⟩) (fun i i' z=>by injection z) (fun i z=>nomatch z) fun l o2 H3 xs hl hlx g3 fin=> ?_
   obtain⟨l4,g4,ls4⟩:=fin H3 (.ref p0) k (Go.refl g3.own) ⟨p0,rfl,g3.tup hk⟩
   refine⟨.inl ⟨rfl,_,SqL.of hl⟩,_,rfl,l,xs,_,rfl,rfl,hl,lt_size (by omega),?_⟩
   have gg:=g3.trans g4
   generalize upd H3 l (.lst (xs++ [V.ref p0]))=H4 at*
   have hB4:BK a.c_C0 o2 H4 B b Kk O (rs++ [.go k.2 k.1 j.2 j.1]):=(hB.x.setG gg ls4).k (fun i=> ?_) (fun i=> ?_) (fun i=> ?_) (hlen1 _)
   ·refine⟨_,rfl,B,b.dx,_,rfl,hB4.obj,rfl,_,rfl,_,rfl,B,p0,j0,o2,b,Kk,O,_,k,j,1,rfl,gg.own,hB4,gg.tup hk,gg.tup hj,by omega,fun H5 O5 g5 r5 m5=> ?_⟩
    exact q o2 H5 O5 ((gg.mono sg_sa).trans (g5.mono so_sa)) (hB4.goO g5 r5) (m5.imp (fun y=>Iff.rfl) (by omega))
   ·rw[goers_snoc]
    by_cases z:i=j
    ·rw[if_pos z,z]
     congr 1
     show [k]=List.filterMap _ [Rec.go k.2 k.1 j.2 j.1]
     rw[List.filterMap_cons]
     simp
    ·rw[if_neg z]
     have:goersOf [Rec.go k.2 k.1 j.2 j.1] i= []:=by
      unfold goersOf
      rw[List.filterMap_cons]
      dsimp only
      rw[if_neg (fun e=>z e.symm)]
      rfl
     rw[this,List.append_nil]
   ·rw[callers_snoc];exact(List.append_nil _).symm
   ·rw[waiters_snoc];exact(List.append_nil _).symm
  ·have h0':kind≠0:=fun z=>h0 (by rw[z];rfl)
   refine⟨_,rfl,rfl,_,rfl,ite2 (fun h1=> ?_) (fun h1=> ?_)⟩
   ·have h1:kind=1:=hdec kind 1 h1
    subst h1
    have er:recFor k 1 j nx= .call k.2 k.1 j.2 j.1 nx:=rfl
    rw[er] at q
    refine⟨_,rfl,B,_,_,_,_,rfl,hB.obj,T.cl_C0,T.na_2,rfl,b.ca,rfl,hB.ca.isD,_,rfl,Nat.zero_le _,fun p hp=> ?_⟩
    refine LsT.app (S:=Sc) hB.ca hB.tc tups_C ow uf hj (hJ (by omega)) hp (fun i=>by have:=callers_len rs i;omega) (.inl rfl) (fun i=> .inr ⟨i,rfl⟩) (fun i i' z=>by injection z) (fun i z=>nomatch z) fun l o2 H3 xs hl hlx g3 fin=> ?_
    refine⟨.inl ⟨rfl,_,SqL.of hl⟩,_,rfl,_,rfl,by show 2≤sizeLine;decide,fun t ht=> ?_⟩
    have gt:Go S0 o2 H3 o2 (upd H3 t (.tup [.ref p0,nV nx])):=Go.alloc g3.own ht _
    obtain⟨l4,g4,ls4⟩:=fin _ (.ref t) (k,nx) gt ⟨t,p0,rfl,upd_same,gt.tup (g3.tup hk)⟩
    refine⟨l,xs,_,rfl,rfl,l4,lt_size (by omega),?_⟩
    have gg:=(g3.trans (gt.mono fun _ z=>z.elim)).trans g4
    generalize upd (upd H3 t (.tup [.ref p0,nV nx])) l (.lst (xs++ [V.ref t]))=H4 at*
    have hX4:=hB.x.setC gg ls4
    clear hl l4 g4 ls4 gt ht g3 fin hlx
    refine⟨_,rfl,B,_,_,_,_,rfl,hX4.obj,T.cl_C0,T.na_3,rfl,b.wa,rfl,hX4.wa.isD,_,rfl,Nat.zero_le _,fun p' hp'=> ?_⟩
    refine LsN.app (S:=Sw) hX4.wa hX4.tw tups_W gg.own (gg.unf uf) (hN rfl) hp' (fun i=>by have:=waiters_len rs i;omega) (.inl rfl) (fun i=> .inr ⟨i,rfl⟩) (fun i i' z=>by injection z) (fun i z=>nomatch z) fun l o3 H5 xs hl hlx g5 fin=> ?_
    refine⟨.inl ⟨rfl,_,SqL.of hl⟩,_,rfl,_,rfl,by show 2≤sizeLine;decide,fun t ht=> ?_⟩
    have gt:Go S0 o3 H5 o3 (upd H5 t (.tup [.ref p0,.ref j0])):=Go.alloc g5.own ht _
    obtain⟨l6,g6,ls6⟩:=fin _ (.ref t) (k,j) gt ⟨t,p0,j0,rfl,upd_same,gt.tup (g5.tup (gg.tup hk)),gt.tup (g5.tup (gg.tup hj))⟩
    refine⟨l,xs,_,rfl,rfl,l6,lt_size (by omega),?_⟩
    have hh:=(g5.trans (gt.mono fun _ z=>z.elim)).trans g6
    have ga:Go SA o H o3 (upd (upd H5 t (.tup [.ref p0,.ref j0])) l (.lst (xs++ [V.ref t]))):=(gg.mono sc_sa).trans (hh.mono sw_sa)
    generalize upd (upd H5 t (.tup [.ref p0,.ref j0])) l (.lst (xs++ [V.ref t]))=H6 at*
    have hB6:BK a.c_C0 o3 H6 B b Kk O (rs++ [.call k.2 k.1 j.2 j.1 nx]):=(hX4.setW hh ls6).k (fun i=> ?_) (fun i=> ?_) (fun i=> ?_) (hlen1 _)
    ·clear hl l6 g6 ls6 gt ht g5 fin hlx
     refine⟨_,rfl,B,b.dx,_,rfl,hB6.obj,rfl,_,rfl,B,j0,o3,b,Kk,O,_,j,rfl,ga.own,hB6,ga.tup hj,fun H7 d E g7 hE=>ends_walk hE fun od H8 lk=> ?_⟩
     have hB8:=(hB6.same0 g7).lkd lk
     have ow8:=lk.own g7.own
     have hk8:PlT H8 p0 k:=lk.tup rfl (g7.tup (ga.tup hk))
     have hlen:=hE.len
     refine for_it (n:=E.length) (fun i σ H'=>∃g1 g2 O',σ= [some (.ref B),some (.ref p0),some (nV 1),some (.ref j0),some (nV nx),g1,g2]∧Go SO o3 H8 o3 H'∧OfR H' b.of O'∧More Kk O O' (fun y=>y.point=k.1∧y.value=k.2∧∃z m n,(z,m)∈E.take i∧Kk z nx y.fin=some n∧y.steps=m+1+n) (4*i)) ?_ ?_ ?_ ?_ ?_
     ·exact⟨_,_,O,rfl,Go.refl ow8,hB8.of,More.refl.imp (fun y=>by simp) (Nat.le_refl _)⟩
     ·rintro i σ H' hi ⟨_,_,O',rfl,g,_⟩
      exact⟨g.lkd hE lk.1 (fun z=>nomatch z),by rw[List.length_map];exact hi⟩
     ·rintro σ H' ⟨_,_,O',rfl,g,_⟩
      exact⟨g.lkd hE lk.1 (fun z=>nomatch z),by rw[List.length_map];exact Nat.le_refl _⟩
     ·rintro i σ H' x H9 hi ⟨_,_,O',rfl,g,hO',hM⟩ ⟨T0,kk,v,hkv,rfl,hT0,rfl⟩
      obtain⟨⟨x,m⟩,hxm,e⟩:=map_get hkv
      cases e
      refine⟨T0,_,rfl,SqT.of upd_same,rfl,_,_,rfl,_,_,rfl,rfl,?_⟩
      have g9:Go S0 o3 H' o3 (upd H' T0 (.tup [kV (nk x),nV m])):=Go.alloc g.own hT0 _
      have hB9:=(hB8.goO g hO').same0 g9
      have hl:=hM.len
      refine⟨_,rfl,B,b.dx,_,rfl,hB9.obj,rfl,_,rfl,_,rfl,_,rfl,by show 2≤sizeLine;decide,fun t ht=> ?_⟩
      have g10:Go S0 o3 (upd H' T0 (.tup [kV (nk x),nV m])) o3 (upd (upd H' T0 (.tup [kV (nk x),nV m])) t (.tup [nV nx,nV x])):=Go.alloc g9.own ht _
      refine⟨_,rfl,_,_,rfl,rfl,B,p0,t,o3,b,Kk,O',_,k,(nx,x),m+1,rfl,g10.own,hB9.same0 g10,g10.tup (g9.tup (g.tup hk8)),upd_same,by omega,fun H11 O11 g11 r11 m11=> ?_⟩
      refine⟨_,_,O11,rfl,(g.trans ((g9.trans g10).mono s0_so)).trans g11,r11,(hM.trans m11).imp (fun y=> ?_) (by omega)⟩
      rw[take_snoc hxm]
      constructor
      ·rintro(⟨h1,h2,z,m',n',h3,h4,h5⟩|⟨h1,h2,n',h3,h4⟩)
       ·exact⟨h1,h2,z,m',n',List.mem_append_left _ h3,h4,h5⟩
       ·exact⟨h1,h2,x,m,n',List.mem_append_right _ List.mem_cons_self,h3,h4⟩
      ·rintro⟨h1,h2,z,m',n',h3,h4,h5⟩
       rcases List.mem_append.mp h3 with h3|h3
       ·exact .inl ⟨h1,h2,z,m',n',h3,h4,h5⟩
       ·have e2:=List.mem_singleton.mp h3
        cases e2
        exact .inr ⟨h1,h2,n',h4,h5⟩
     ·rintro σ H' ⟨_,_,O',rfl,g,hO',hM⟩
      refine ends_done ga.own g7 rfl rfl lk g (g.lkd hE lk.1 (fun z=>nomatch z)) fun H'' g'' lu=> ?_
      refine q o3 H'' O' (ga.trans (g''.mono so_sa)) (hB6.goO g'' (hO'.ulk lu)) (hM.imp (fun y=> ?_) (by omega))
      rw[List.take_length]
      simp only[hE.mem]
      exact Iff.rfl
    ·rw[goers_snoc];exact(List.append_nil _).symm
    ·rw[callers_snoc]
     by_cases z:i=j
     ·rw[if_pos z,z]
      congr 1
      show [(k,nx)]=List.filterMap _ [Rec.call k.2 k.1 j.2 j.1 nx]
      rw[List.filterMap_cons]
      simp
     ·rw[if_neg z]
      have:callersOf [Rec.call k.2 k.1 j.2 j.1 nx] i= []:=by
       unfold callersOf
       rw[List.filterMap_cons]
       dsimp only
       rw[if_neg (fun e=>z e.symm)]
       rfl
      rw[this,List.append_nil]
    ·rw[waiters_snoc]
     by_cases z:i=nx
     ·rw[if_pos z,z]
      congr 1
      show [(k,j)]=List.filterMap _ [Rec.call k.2 k.1 j.2 j.1 nx]
      rw[List.filterMap_cons]
      simp
     ·rw[if_neg z]
      have:waitersOf [Rec.call k.2 k.1 j.2 j.1 nx] i= []:=by
       unfold waitersOf
       rw[List.filterMap_cons]
       dsimp only
       rw[if_neg (fun e=>z e.symm)]
       rfl
      rw[this,List.append_nil]
   ·have h1':kind≠1:=fun z=>h1 (by rw[z];rfl)
    have er:recFor k kind j nx= .ret k.2 k.1 j.2:=by unfold recFor;rw[if_neg h0',if_neg h1']
    rw[er] at q
    refine⟨_,rfl,B,b.dx,_,rfl,hB.obj,rfl,_,rfl,_,rfl,j0,_,_,_,rfl,rfl,SqT.of hj,atI_nat (j:=1) rfl,B,p0,o,b,Kk,O,rs,k,j.2,1,rfl,ow,hB,hk,by omega,fun H5 O5 g5 r5 m5=> ?_⟩
    have hB5:=hB.goO g5 r5
    refine q o H5 O5 (g5.mono so_sa) (hB5.x.k (fun i=> ?_) (fun i=> ?_) (fun i=> ?_) (hlen1 _)) (m5.imp (fun y=>Iff.rfl) (by omega))
    ·rw[goers_snoc];exact(List.append_nil _).symm
    ·rw[callers_snoc];exact(List.append_nil _).symm
    ·rw[waiters_snoc];exact(List.append_nil _).symm
def spBInit (a:Ad):Sp:=fun vs H Q _=>∃(B dx:Addr) (o:Ow),vs= [.ref B]∧H B=some (.ins a.c_C0 dx [])∧Own o H∧o B=some .bk∧
 ∀(o':Ow) (H':Hp) (b:BA),Go (fun t=>t= .bk) o H o' H'→BK a.c_C0 o' H' B b (fun _ _ _=>none) [] []→Q .non H'
theorem LsT.nil {ε:Type} {El:Hp→V→ε→Prop} {o:Ow} {H:Hp} {g:Addr} {tag:Pl→Tag} {f:Pl→List ε} (h:H g=some (.dT [])) (hf:∀k,f k= []):LsT o H g tag El f:=⟨[],.inl h,List.nodup_nil,fun k hk=>(by cases hk),fun k=>⟨fun _=>hf k,fun _=>rfl⟩,fun k l e=>(by cases e)⟩
theorem LsN.nil {ε:Type} {El:Hp→V→ε→Prop} {o:Ow} {H:Hp} {g:Addr} {tag:Nat→Tag} {f:Nat→List ε} (h:H g=some (.dK [])) (hf:∀k,f k= []):LsN o H g tag El f:=⟨[],.inl h,List.nodup_nil,fun k hk=>(by cases hk),fun k=>⟨fun _=>hf k,fun _=>rfl⟩,fun k l e=>(by cases e)⟩
theorem fld_new {S:Tag→Prop} {o:Ow} {H:Hp} {B C dx p:Addr} {fs fs':List (Str×V)} {tb:Tag} (ow:Own o H) (hB:H B=some (.ins C dx fs)) (tB:o B=some tb) (sb:S tb) (hp:H p=none) (u:HO) (t:Tag) (h1:isTup u=false) (h2:noFrz u=true):
  Go S o H (oput o p t) (upd (upd H p u) B (.ins C dx fs'))∧(upd (upd H p u) B (.ins C dx fs')) B=some (.ins C dx fs')∧oput o p t B=some tb∧(upd (upd H p u) B (.ins C dx fs')) p=some u∧oput o p t p=some t∧(upd H p u) B=some (.ins C dx fs):=by
 have n:B≠p:=ne_of_none hB hp
 have g:Go S o H (oput o p t) (upd H p u):=Go.allocT ow hp _ _ h1 h2
 have tb':=g.tag tB
 exact⟨g.trans (Go.set g.own tb' sb _ rfl rfl),upd_same,tb',by rw[upd_ne n.symm];exact upd_same,oput_same,by rw[upd_ne n];exact hB⟩
theorem ok_4 (T:Txt K mg a):FnOk P w K mg base CX0 1 a.f_4 a.d_4 ["self"] (spBInit a):=by
 refine T.F_4.ok sc_4 (fun vs H Q E h=> ?_) (fun cdv A outer s H vs Q E hr h=> ?_)
 ·obtain⟨B,dx,o,rfl,_⟩:=h
  rfl
 ·obtain⟨B,dx,o,rfl,hB,ow,tB,q⟩:=h
  have hu:=hu_of hr
  refine⟨_,(pss_cons (ps_fld (pv 0) pe_dnewT rfl)
   (pss_cons (ps_fld (pv 0) pe_dnewT rfl)
   (pss_cons (ps_fld (pv 0) pe_dnewT rfl)
   (pss_cons (ps_fld (pv 0) pe_dnewK rfl)
   (pss_one (ps_fld (pv 0) (pe_lst pa_nil) rfl)))))),?_⟩
  intro p1 h1
  obtain⟨g1,b1,t1,k1,tk1,c1⟩:=fld_new (S:=fun t=>t= .bk) (fs':=([("known",V.ref p1)]:List (Str×V))) ow hB tB rfl h1 (.dT []) .kn rfl rfl
  refine⟨_,rfl,B,_,dx,_,rfl,c1,T.cl_C0,T.na_0,by show 0<1000;decide,?_⟩
  have ee:putF "known" (.ref p1) ([]:List (Str×V))=([("known",V.ref p1)]:List (Str×V)):=rfl
  rw[ee]
  generalize upd (upd H p1 (.dT [])) B (.ins a.c_C0 dx [("known",V.ref p1)])=H1 at*
  generalize oput o p1 .kn=o1 at*
  intro p2 h2
  obtain⟨g2,b2,t2,k2,tk2,c2⟩:=fld_new (S:=fun t=>t= .bk) (fs':=([("known",V.ref p1),("goers",V.ref p2)]:List (Str×V))) g1.own b1 t1 rfl h2 (.dT []) .go rfl rfl
  refine⟨_,rfl,B,_,dx,_,rfl,c2,T.cl_C0,T.na_1,by show 1<1000;decide,?_⟩
  have ee:putF "goers" (.ref p2) ([("known",V.ref p1)]:List (Str×V))=([("known",V.ref p1),("goers",V.ref p2)]:List (Str×V)):=rfl
  rw[ee]
  generalize upd (upd H1 p2 (.dT [])) B (.ins a.c_C0 dx [("known",V.ref p1),("goers",V.ref p2)])=H2 at*
  generalize oput o1 p2 .go=o2 at*
  intro p3 h3
  obtain⟨g3,b3,t3,k3,tk3,c3⟩:=fld_new (S:=fun t=>t= .bk) (fs':=([("known",V.ref p1),("goers",V.ref p2),("callers",V.ref p3)]:List (Str×V))) g2.own b2 t2 rfl h3 (.dT []) .ca rfl rfl
  refine⟨_,rfl,B,_,dx,_,rfl,c3,T.cl_C0,T.na_2,by show 2<1000;decide,?_⟩
  have ee:putF "callers" (.ref p3) ([("known",V.ref p1),("goers",V.ref p2)]:List (Str×V))=([("known",V.ref p1),("goers",V.ref p2),("callers",V.ref p3)]:List (Str×V)):=rfl
  rw[ee]
  generalize upd (upd H2 p3 (.dT [])) B (.ins a.c_C0 dx [("known",V.ref p1),("goers",V.ref p2),("callers",V.ref p3)])=H3 at*
  generalize oput o2 p3 .ca=o3 at*
  intro p4 h4
  obtain⟨g4,b4,t4,k4,tk4,c4⟩:=fld_new (S:=fun t=>t= .bk) (fs':=([("known",V.ref p1),("goers",V.ref p2),("callers",V.ref p3),("waiters",V.ref p4)]:List (Str×V))) g3.own b3 t3 rfl h4 (.dK []) .wa rfl rfl
  refine⟨_,rfl,B,_,dx,_,rfl,c4,T.cl_C0,T.na_3,by show 3<1000;decide,?_⟩
  have ee:putF "waiters" (.ref p4) ([("known",V.ref p1),("goers",V.ref p2),("callers",V.ref p3)]:List (Str×V))=([("known",V.ref p1),("goers",V.ref p2),("callers",V.ref p3),("waiters",V.ref p4)]:List (Str×V)):=rfl
  rw[ee]
  generalize upd (upd H3 p4 (.dK [])) B (.ins a.c_C0 dx [("known",V.ref p1),("goers",V.ref p2),("callers",V.ref p3),("waiters",V.ref p4)])=H4 at*
  generalize oput o3 p4 .wa=o4 at*
  refine⟨Nat.zero_le _,fun p5 h5=> ?_⟩
  obtain⟨g5,b5,t5,k5,tk5,c5⟩:=fld_new (S:=fun t=>t= .bk) (fs':=([("known",V.ref p1),("goers",V.ref p2),("callers",V.ref p3),("waiters",V.ref p4),("offers",V.ref p5)]:List (Str×V))) g4.own b4 t4 rfl h5 (.lst []) .of rfl rfl
  refine⟨_,rfl,B,_,dx,_,rfl,c5,T.cl_C0,T.na_4,by show 4<1000;decide,?_⟩
  have ee:putF "offers" (.ref p5) ([("known",V.ref p1),("goers",V.ref p2),("callers",V.ref p3),("waiters",V.ref p4)]:List (Str×V))=([("known",V.ref p1),("goers",V.ref p2),("callers",V.ref p3),("waiters",V.ref p4),("offers",V.ref p5)]:List (Str×V)):=rfl
  rw[ee]
  generalize upd (upd H4 p5 (.lst [])) B (.ins a.c_C0 dx [("known",V.ref p1),("goers",V.ref p2),("callers",V.ref p3),("waiters",V.ref p4),("offers",V.ref p5)])=H5 at*
  generalize oput o4 p5 .of=o5 at*
  have n:∀{t:Tag},t≠ .bk→¬(fun t=>t=Tag.bk) t:=fun h=>h
  have g25:=((g2.trans g3).trans g4).trans g5
  have g35:=(g3.trans g4).trans g5
  have g45:=g4.trans g5
  refine q o5 H5 ⟨dx,p1,p2,p3,p4,p5⟩ (g1.trans g25) ⟨b5,t5,g25.tag tk1,g35.tag tk2,g45.tag tk3,g5.tag tk4,tk5,⟨[],g25.at k1 tk1 (fun z=>nomatch z),List.nodup_nil,fun k hk=>(by cases hk),fun _ _ _=>rfl,fun k d e=>(by cases e)⟩,
   .nil (g35.at k2 tk2 (fun z=>nomatch z)) (fun _=>rfl),.nil (g45.at k3 tk3 (fun z=>nomatch z)) (fun _=>rfl),.nil (g5.at k4 tk4 (fun z=>nomatch z)) (fun _=>rfl),⟨[],k5,.nil,fun i h1 h2=>(by cases h2)⟩,Nat.zero_le _⟩
end R
end
section
namespace R
open PySem PySem.Spec PyProof.Rows L2
open KA (Pl InP get put)
open KTh (Kn Off Rec Cov Cl1 IsMin)
open KG (Stp stepsOf Eg EgAt Val GB GOk KOk)
open KL (Nn Mm Gd Ld In1)
variable {P:Program} {w:World} {K:PySem.W.Frag} {mg:Str→Option Value} {base:Heap} {a:Ad}
structure GA where
 dx:Addr
 pl:Addr
 st:Addr
 ei:Addr
 ec:Addr
 dt:Addr
noncomputable def gfs (g:GA) (en cb:V):List (Str×V):= [("places",.ref g.pl),("steps_at",.ref g.st),("edges_into",.ref g.ei),("edge_counts",.ref g.ec),("distances_by_target",.ref g.dt),("ending",en),("coming_back",cb)]
def EiR (o:Ow) (H:Hp) (c:Addr) (E:Pl→List (Pl×Nat)):Prop:=
 ∃L:List (Pl×Addr),H c=some (.dT (L.map (eP V.ref)))∧(L.map (·.1)).Nodup∧(∀k∈L.map (·.1),InP k)∧(∀k,get L k=none→E k= [])∧
  ∀k d,get L k=some d→o d=some (.eiD k)∧H d=some (.dT ((E k).map (eP nV)))∧((E k).map (·.1)).Nodup∧∀s∈(E k).map (·.1),InP s
def EcR (H:Hp) (c:Addr) (cnt:Pl→Option Nat):Prop:=
 ∃L:List (Pl×Nat),H c=some (.dT (L.map (eP nV)))∧(L.map (·.1)).Nodup∧(∀k∈L.map (·.1),InP k)∧∀k,get L k=cnt k
def SE (t:Tag):Prop:=t= .ei∨(∃k,t= .eiD k)∨t= .ec
def SI (t:Tag):Prop:=t= .ei∨∃k,t= .eiD k
theorem si_se:∀t,SI t→SE t:=fun t z=>z.elim .inl fun z=> .inr (.inl z)
theorem EiR.go {S:Tag→Prop} {o o':Ow} {H H':Hp} {c:Addr} {E:Pl→List (Pl×Nat)} (h:EiR o H c E) (g:Go S o H o' H') (t:o c=some .ei) (n:¬S .ei) (n':∀k,¬S (.eiD k)):EiR o' H' c E:=by
 obtain⟨L,h1,h2,h3,h4,h5⟩:=h
 refine⟨L,g.at h1 t n,h2,h3,h4,fun k d e=> ?_⟩
 obtain⟨q1,q2,q3⟩:=h5 k d e
 exact⟨g.tag q1,g.at q2 q1 (n' k),q3⟩
theorem EcR.go {S:Tag→Prop} {o o':Ow} {H H':Hp} {c:Addr} {cnt:Pl→Option Nat} (h:EcR H c cnt) (g:Go S o H o' H') (t:o c=some .ec) (n:¬S .ec):EcR H' c cnt:=by
 obtain⟨L,h1,h2⟩:=h
 exact⟨L,g.at h1 t n,h2⟩
theorem EiR.keys {o:Ow} {H:Hp} {c:Addr} {E:Pl→List (Pl×Nat)} (h:EiR o H c E) (k:Pl):((E k).map (·.1)).Nodup∧∀s∈(E k).map (·.1),InP s:=by
 obtain⟨L,h1,h2,h3,h4,h5⟩:=h
 cases e:get L k with
 |none=>rw[h4 k e];exact⟨List.nodup_nil,fun s hs=>(by cases hs)⟩
 |some d=>exact(h5 k d e).2.2
structure GX (cG:Addr) (o:Ow) (H:Hp) (G:Addr) (g:GA) (en cb:V) (E:Pl→List (Pl×Nat)) (cnt:Pl→Option Nat):Prop where
 obj:H G=some (.ins cG g.dx (gfs g en cb))
 tG:o G=some .gr
 ti:o g.ei=some .ei
 tc:o g.ec=some .ec
 ei:EiR o H g.ei E
 ec:EcR H g.ec cnt
theorem GX.go {S:Tag→Prop} {cG:Addr} {o o':Ow} {H H':Hp} {G:Addr} {ga:GA} {en cb:V} {E:Pl→List (Pl×Nat)} {cnt:Pl→Option Nat} (h:GX cG o H G ga en cb E cnt) (g:Go S o H o' H') (n:¬S .gr) (n':∀t,SE t→¬S t):GX cG o' H' G ga en cb E cnt:=
 ⟨g.at h.obj h.tG n,g.tag h.tG,g.tag h.ti,g.tag h.tc,h.ei.go g h.ti (n' _ (.inl rfl)) (fun k=>n' _ (.inr (.inl ⟨k,rfl⟩))),h.ec.go g h.tc (n' _ (.inr (.inr rfl)))⟩
theorem EiR.sd {o:Ow} {H1:Hp} {c p f0:Addr} {E:Pl→List (Pl×Nat)} {f:Pl} (ow:Own o H1) (tkk:o c=some .ei) (h:EiR o H1 c E) (hk1:PlT H1 f0 f) (hK:InP f) (hp:H1 p=none) {Q:VK}
  (hQ:∀(d:Addr) (o2:Ow) (H3:Hp),H3 d=some (.dT ((E f).map (eP nV)))→o2 d=some (.eiD f)→Go SI o H1 o2 H3→EiR o2 H3 c E→
   (∀(H4:Hp) (x:List (Pl×Nat)),Go (fun t=>t= .ec) o2 H3 o2 H4→(x.map (·.1)).Nodup→(∀s∈x.map (·.1),InP s)→EiR o2 (upd H4 d (.dT (x.map (eP nV)))) c (fun j=>if j=f then x else E j))→Q (.ref d) H3):
  DSd (upd H1 p (.dT [])) c (.ref f0) (.ref p) Q:=by
 obtain⟨L,h1,h2,h3,h4,h5⟩:=h
 have hL:=len_dict h2 h3
 refine .inr ⟨L.map (eP V.ref),pk f,f0,?_,rfl,?_,lt_size (by rw[List.length_map];omega),fun v hv=> ?_,fun hv=> ?_⟩
 ·rw[upd_ne (ne_of_none h1 hp)];exact h1
 ·rw[upd_ne (ne_of_none hk1 hp)];exact hk1
 ·rw[val_eP] at hv
  cases e:get L f with
  |none=>rw[e] at hv;cases hv
  |some d=>
   rw[e] at hv
   cases hv
   obtain⟨q1,q2,q3,q4⟩:=h5 f d e
   have gp:Go SI o H1 o (upd H1 p (.dT [])):=Go.alloc ow hp _
   have g0:Go S0 o H1 o (upd H1 p (.dT [])):=Go.alloc ow hp _
   have ei:EiR o H1 c E:=⟨L,h1,h2,h3,h4,h5⟩
   have ei1:=ei.go g0 tkk (fun z=>z) (fun _ z=>z)
   refine hQ d o _ (g0.at q2 q1 (fun z=>z)) q1 gp ei1 fun H4 x g4 x1 x2=>⟨L,?_,h2,h3,fun k ek=> ?_,fun k d' ek=> ?_⟩
   ·have n:c≠d:=fun z=>by rw[z,q1] at tkk;cases tkk
    rw[upd_ne n]
    exact g4.at (g0.at h1 tkk (fun z=>z)) tkk (fun z=>nomatch z)
   ·dsimp only
    rw[if_neg (fun z=>by rw[z,e] at ek;cases ek)];exact h4 k ek
   ·dsimp only
    obtain⟨r1,r2,r3⟩:=h5 k d' ek
    refine⟨r1,?_⟩
    by_cases z:k=f
    ·subst z
     rw[e] at ek
     cases ek
     rw[if_pos rfl]
     exact⟨upd_same,x1,x2⟩
    ·rw[if_neg z]
     have n:d'≠d:=fun q=>by rw[q,q1] at r1;cases r1;exact z rfl
     rw[upd_ne n]
     exact⟨g4.at (g0.at r2 r1 (fun z=>z)) r1 (fun z=>nomatch z),r3⟩
 ·rw[val_eP] at hv
  have e:get L f=none:=by
   cases e:get L f with
   |none=>rfl
   |some d=>rw[e] at hv;cases hv
  have gp:Go SI o H1 (oput o p (.eiD f)) (upd H1 p (.dT [])):=Go.allocT ow hp _ _ rfl rfl
  have npk:c≠p:=ne_of_none h1 hp
  have tk:oput o p (.eiD f) c=some .ei:=by rw[oput_ne npk];exact tkk
  have gs:Go SI (oput o p (.eiD f)) (upd H1 p (.dT [])) (oput o p (.eiD f)) (upd (upd H1 p (.dT [])) c (.dT (putK (L.map (eP V.ref)) (pk f) (.ref p)))):=Go.set gp.own tk (.inl rfl) _ rfl rfl
  have hd:(upd (upd H1 p (.dT [])) c (.dT (putK (L.map (eP V.ref)) (pk f) (.ref p)))) p=some (.dT (([]:List (Pl×Nat)).map (eP nV))):=by rw[upd_ne npk.symm,upd_same];rfl
  have hc:(upd (upd H1 p (.dT [])) c (.dT (putK (L.map (eP V.ref)) (pk f) (.ref p)))) c=some (.dT ((put L f p).map (eP V.ref))):=by rw[upd_same,put_eP]
  have hk3:∀k∈(put L f p).map (·.1),InP k:=fun k hk=>by
   rcases KA.keys_put.mp hk with rfl|hk
   ·exact hK
   ·exact h3 k hk
  have hot:∀k d',k≠f→get L k=some d'→oput o p (.eiD f) d'=some (.eiD k)∧(upd (upd H1 p (.dT [])) c (.dT (putK (L.map (eP V.ref)) (pk f) (.ref p)))) d'=some (.dT ((E k).map (eP nV))):=fun k d' z ek=>by
   obtain⟨r1,r2,r3⟩:=h5 k d' ek
   have n1:d'≠p:=ne_of_none r2 hp
   have n2:d'≠c:=fun q=>by rw[q,tkk] at r1;cases r1
   exact⟨by rw[oput_ne n1];exact r1,by rw[upd_ne n2,upd_ne n1];exact r2⟩
  refine hQ p _ _ (by rw[h4 f e];exact hd) oput_same (gp.trans gs) ⟨put L f p,hc,KA.nd_put h2,hk3,fun k ek=> ?_,fun k d' ek=> ?_⟩ fun H4 x g4 x1 x2=>⟨put L f p,?_,KA.nd_put h2,hk3,fun k ek=> ?_,fun k d' ek=> ?_⟩
  ·rw[KA.get_put] at ek
   split at ek
   ·cases ek
   ·exact h4 k ek
  ·rw[KA.get_put] at ek
   by_cases z:k=f
   ·rw[if_pos z] at ek
    cases ek
    rw[z,h4 f e]
    exact⟨oput_same,hd,List.nodup_nil,fun s hs=>(by cases hs)⟩
   ·rw[if_neg z] at ek
    obtain⟨r1,r2⟩:=hot k d' z ek
    exact⟨r1,r2,(h5 k d' ek).2.2⟩
  ·rw[upd_ne npk]
   exact g4.at hc tk (fun z=>nomatch z)
  ·rw[KA.get_put] at ek
   dsimp only
   split at ek
   ·cases ek
   ·rename_i z
    rw[if_neg z];exact h4 k ek
  ·rw[KA.get_put] at ek
   dsimp only
   by_cases z:k=f
   ·rw[if_pos z] at ek
    cases ek
    rw[if_pos z,z]
    exact⟨oput_same,upd_same,x1,x2⟩
   ·rw[if_neg z] at ek
    rw[if_neg z]
    obtain⟨r1,r2⟩:=hot k d' z ek
    have n1:d'≠p:=ne_of_none (h5 k d' ek).2.1 hp
    rw[upd_ne n1]
    exact⟨r1,g4.at r2 r1 (fun z=>nomatch z),(h5 k d' ek).2.2⟩
def spAddEdge (a:Ad):Sp:=fun vs H Q _=>∃(G s0 f0:Addr) (o:Ow) (ga:GA) (en cb:V) (E:Pl→List (Pl×Nat)) (X:List (Pl×Pl)) (cnt:Pl→Option Nat) (Tt:Pl→Nat→Pl→Prop) (s f:Pl) (c:Nat),vs= [.ref G,.ref s0,.ref f0,nV c]∧Own o H∧GX a.c_C1 o H G ga en cb E cnt∧GB Tt E X cnt∧PlT H s0 s∧PlT H f0 f∧InP s∧InP f∧
 ∀(o':Ow) (H':Hp) E' X' cnt',Go SE o H o' H'→GX a.c_C1 o' H' G ga en cb E' cnt'→GB (fun s' c' f'=>Tt s' c' f'∨(s'=s∧c'=c∧f'=f)) E' X' cnt'→Q .non H'
theorem ok_h (T:Txt K mg a):FnOk P w K mg base CX0 1 a.f_h a.d_h ["self","place","onward","steps"] (spAddEdge a):=by
 refine T.F_h.ok sc_h (fun vs H Q E h=> ?_) (fun cdv A outer s H vs Q E hr h=> ?_)
 ·obtain⟨G,s0,f0,o,ga,en,cb,E,X,cnt,Tt,s1,f,c,rfl,_⟩:=h
  rfl
 ·obtain⟨G,s0,f0,o,ga,en,cb,E,X,cnt,Tt,s1,f,c,rfl,ow,hG,hB,hs,hf,hS,hF,q⟩:=h
  have hu:=hu_of hr
  refine⟨_,(pss_cons (ps_set (i:=4) sc_h.nd rfl (Or.inl rfl) (pe_dsetdefault2 hu (pe_fld (pv 0) rfl) (pv 2) pe_dnewT ⟨rfl,rfl,rfl,rfl⟩))
   (pss_one (ps_if (pt_cmp (pc_dnotin hu (pv 1) (pv 4))) (pss_cons (ps_dput hu (pe_fld (pv 0) rfl) (pv 1) (pe_op op_add (pe_dget2 hu (pe_fld (pv 0) rfl) (pv 1) pe_int ⟨rfl,rfl,rfl,rfl⟩) pe_int) rfl)
   (pss_one (ps_dput hu (pv 4) (pv 1) (pv 3) rfl))) (pss_one (ps_if (pt_cmpR op_lt (pv 3) (pe_dget hu (pv 4) (pv 1) (fun _ _=>rfl)) (nomark _)) (pss_one (ps_dput hu (pv 4) (pv 1) (pv 3) rfl)) pss_nil))))),?_⟩
  obtain⟨L0,l1,_⟩:=id hG.ei
  refine⟨_,rfl,G,_,_,_,_,rfl,hG.obj,T.cl_C1,T.na_7,rfl,ga.ei,rfl,.inr ⟨_,.inl l1⟩,_,rfl,fun p hp=>EiR.sd ow hG.ti hG.ei hf hF hp fun d o2 H3 hd td g3 ei3 fin=> ?_⟩
  have hno:∀t,t≠ .ei→(∀k,t≠ .eiD k)→¬SI t:=fun t h1 h2 z=>z.elim h1 fun⟨k,z⟩=>h2 k z
  have hG3:GX a.c_C1 o2 H3 G ga en cb E cnt:=⟨g3.at hG.obj hG.tG (hno _ (fun z=>nomatch z) (fun _ z=>nomatch z)),g3.tag hG.tG,g3.tag hG.ti,g3.tag hG.tc,ei3,hG.ec.go g3 hG.tc (hno _ (fun z=>nomatch z) (fun _ z=>nomatch z))⟩
  have hs3:PlT H3 s0 s1:=g3.tup hs
  have hdg:DGet H3 d (.ref s0) (valV ((E f).map (eP nV)) (pk s1)):=DGet.t hd hs3
  rw[val_eP] at hdg
  obtain⟨kn1,kn2⟩:=ei3.keys f
  have hEl:(E f).length≤128:=len_dict kn1 kn2
  have hput:∀x∈(put (E f) s1 c).map (·.1),InP x:=fun x hx=>by
   rcases KA.keys_put.mp hx with rfl|hx
   ·exact hS
   ·exact kn2 x hx
  have hTT:∀s' c' f',(Tt s' c' f'∨(s'=s1∧c'=c∧f'=f))↔Tt s' c' f'∨(s'=s1∧c'=c∧f'=f):=fun _ _ _=>Iff.rfl
  have tail:∀(H4:Hp) (cnt4:Pl→Option Nat),Go (fun t=>t= .ec) o2 H3 o2 H4→EcR H4 ga.ec cnt4→Go SE o H o2 (upd H4 d (.dT ((put (E f) s1 c).map (eP nV))))∧GX a.c_C1 o2 (upd H4 d (.dT ((put (E f) s1 c).map (eP nV)))) G ga en cb (fun j=>if j=f then put (E f) s1 c else E j) cnt4:=fun H4 cnt4 g4 ec4=>by
   have gs:Go SI o2 H4 o2 (upd H4 d (.dT ((put (E f) s1 c).map (eP nV)))):=Go.set g4.own td (.inr ⟨f,rfl⟩) _ rfl rfl
   refine⟨((g3.mono si_se).trans (g4.mono fun t z=> .inr (.inr z))).trans (gs.mono si_se),gs.at (g4.at hG3.obj hG3.tG (fun z=>nomatch z)) hG3.tG (hno _ (fun z=>nomatch z) (fun _ z=>nomatch z)),hG3.tG,hG3.ti,hG3.tc,fin H4 _ g4 (KA.nd_put kn1) hput,ec4.go gs hG3.tc (hno _ (fun z=>nomatch z) (fun _ z=>nomatch z))⟩
  have hE1:∀f',f'≠f→(fun j=>if j=f then put (E f) s1 c else E j) f'=E f':=fun f' z=>if_neg z
  have hE2:(fun j=>if j=f then put (E f) s1 c else E j) f=put (E f) s1 c:=if_pos rfl
  cases e:get (E f) s1 with
  |none=>
   rw[e] at hdg
   refine⟨_,rfl,_,rfl,d,_,rfl,hdg,_,rfl,iteT ?_⟩
   obtain⟨Lc,c1,c2,c3,c4⟩:=hG3.ec
   have hcl:=len_dict c2 c3
   have hdc:DGet H3 ga.ec (.ref s0) (valV (Lc.map (eP nV)) (pk s1)):=DGet.t c1 hs3
   rw[val_eP] at hdc
   have hv:∃n:Nat,((get Lc s1).map nV).getD (.int 0)=nV n∧n=(cnt s1).getD 0:=by
    rw[c4]
    cases ec:cnt s1 with
    |none=>exact⟨0,rfl,rfl⟩
    |some m=>exact⟨m,rfl,rfl⟩
   obtain⟨n,hn1,hn2⟩:=hv
   refine⟨_,rfl,G,_,_,_,_,rfl,hG3.obj,T.cl_C1,T.na_8,rfl,ga.ec,rfl,.inr ⟨_,.inl c1⟩,_,rfl,_,hdc,?_⟩
   rw[hn1]
   have e1:putK (Lc.map (eP nV)) (pk s1) (V.int ((n:Int)+1))=(put Lc s1 (n+1)).map (eP nV):=put_eP nV Lc s1 (n+1)
   have g4:Go (fun t=>t= .ec) o2 H3 o2 (upd H3 ga.ec (.dT ((put Lc s1 (n+1)).map (eP nV)))):=Go.set (S:=fun t=>t= .ec) g3.own hG3.tc rfl (.dT ((put Lc s1 (n+1)).map (eP nV))) rfl rfl
   have ec4:EcR (upd H3 ga.ec (.dT ((put Lc s1 (n+1)).map (eP nV)))) ga.ec (fun j=>if j=s1 then some (n+1) else cnt j):=⟨put Lc s1 (n+1),upd_same,KA.nd_put c2,fun k hk=>by
    rcases KA.keys_put.mp hk with rfl|hk
    ·exact hS
    ·exact c3 k hk,fun k=>by rw[KA.get_put,c4]⟩
   have hdp:DPut H3 ga.ec (.ref s0) (V.int ((n:Int)+1)) (upd H3 ga.ec (.dT ((put Lc s1 (n+1)).map (eP nV)))):=by
    rw[←e1]
    exact DPut.t (k:=pk s1) c1 hs3 (lt_size (by rw[List.length_map];omega))
   refine⟨_,_,rfl,rfl,_,rfl,G,_,_,_,_,rfl,hG3.obj,T.cl_C1,T.na_8,rfl,_,rfl,ga.ec,_,rfl,hdp,?_⟩
   have hd4:=g4.at hd td (fun z=>nomatch z)
   obtain⟨gf,gxf⟩:=tail _ _ g4 ec4
   generalize upd H3 ga.ec (.dT ((put Lc s1 (n+1)).map (eP nV)))=H4 at hd4 gf gxf g4 ec4⊢
   refine⟨_,rfl,_,rfl,_,rfl,d,_,rfl,DPut.t (k:=pk s1) hd4 (g4.tup hs3) (lt_size (by rw[List.length_map];omega)),?_⟩
   rw[put_eP]
   exact q o2 _ _ _ _ gf gxf (GB.new hB e hTT hE1 hE2 (fun s'=>by rw[hn2]))
  |some c0=>
   rw[e] at hdg
   refine⟨_,rfl,_,rfl,d,_,rfl,hdg,_,rfl,iteF ?_⟩
   refine⟨_,rfl,_,rfl,_,rfl,d,_,rfl,hdg,_,_,rfl,rfl,_,rfl,ite2 (fun hl=> ?_) (fun hl=> ?_)⟩
   ·have hl:c<c0:=by have:=of_decide_eq_true hl;omega
    refine⟨_,rfl,_,rfl,_,rfl,d,_,rfl,DPut.t (k:=pk s1) hd hs3 (lt_size (by rw[List.length_map];omega)),?_⟩
    rw[put_eP]
    obtain⟨gf,gxf⟩:=tail H3 cnt (Go.refl g3.own) hG3.ec
    exact q o2 _ _ _ _ gf gxf (GB.less hB e hl hTT hE1 hE2)
   ·have hl:¬c<c0:=fun z=>hl (decide_eq_true (by omega))
    exact q o2 H3 E X cnt (g3.mono si_se) hG3 (GB.same hB e hl hTT)
end R
end
section
namespace R
open PySem PySem.Spec PyProof.Rows L2
open KA (Pl InP get put)
open KTh (Kn Off Rec Cov Cl1 IsMin)
open KG (Stp stepsOf Eg EgAt Val GB GOk KOk)
open KL (Nn Mm Gd Ld In1)
variable {P:Program} {w:World} {K:PySem.W.Frag} {mg:Str→Option Value} {base:Heap} {a:Ad}
theorem ifT {c:Bool} {A B:Prop} (h:c=true) (x:A):if c=true then A else B:=by rw[if_pos h];exact x
theorem ifF {c:Bool} {A B:Prop} (h:c=false) (x:B):if c=true then A else B:=by rw[if_neg (by rw[h];exact Bool.false_ne_true)];exact x
theorem dE {n:Nat} {m:Int}:decide (V.int (n:Int)=V.int m)=decide ((n:Int)=m):=by
 by_cases e:(n:Int)=m
 ·rw[decide_eq_true e,e];exact decide_eq_true rfl
 ·rw[decide_eq_false e];exact decide_eq_false fun q=>e (by injection q)
theorem dT {n:Nat} {m:Int} (h:(n:Int)=m):decide (V.int (n:Int)=V.int m)=true:=by rw[dE];exact decide_eq_true h
theorem dF {n:Nat} {m:Int} (h:(n:Int)≠m):decide (V.int (n:Int)=V.int m)=false:=by rw[dE];exact decide_eq_false h
theorem se_sb:∀t,SE t→¬SB t:=fun t z=>by
 rcases z with rfl|⟨k,rfl⟩|rfl<;>exact fun q=>q
theorem se_bk:¬SE .bk:=fun z=>by rcases z with z|⟨_,z⟩|z<;>cases z
theorem s0_se:∀t,S0 t→SE t:=fun t z=>z.elim
theorem GX.lkd {cG:Addr} {o:Ow} {H1 H2:Hp} {G:Addr} {ga:GA} {en cb:V} {E:Pl→List (Pl×Nat)} {cnt:Pl→Option Nat} {d:Addr} {kvs:List (Key×V)} {od:Obj} (h:GX cG o H1 G ga en cb E cnt) (l:Lkd d (.dK kvs) od H1 H2):GX cG o H2 G ga en cb E cnt:=by
 refine⟨l.keep h.obj (fun z=>nomatch z),h.tG,h.ti,h.tc,?_,?_⟩
 ·obtain⟨L,h1,h2,h3,h4,h5⟩:=h.ei
  refine⟨L,l.keep h1 (fun z=>nomatch z),h2,h3,h4,fun k d e=> ?_⟩
  obtain⟨q1,q2,q3⟩:=h5 k d e
  exact⟨q1,l.keep q2 (fun z=>nomatch z),q3⟩
 ·obtain⟨L,h1,h2⟩:=h.ec
  exact⟨L,l.keep h1 (fun z=>nomatch z),h2⟩
theorem GX.ulk {cG:Addr} {o:Ow} {H' H'':Hp} {G:Addr} {ga:GA} {en cb:V} {E:Pl→List (Pl×Nat)} {cnt:Pl→Option Nat} {d:Addr} {u:HO} (h:GX cG o H' G ga en cb E cnt) (l:Ulk d u H' H''):GX cG o H'' G ga en cb E cnt:=by
 refine⟨l.keep h.obj rfl,h.tG,h.ti,h.tc,?_,?_⟩
 ·obtain⟨L,h1,h2,h3,h4,h5⟩:=h.ei
  refine⟨L,l.keep h1 rfl,h2,h3,h4,fun k d e=> ?_⟩
  obtain⟨q1,q2,q3⟩:=h5 k d e
  exact⟨q1,l.keep q2 rfl,q3⟩
 ·obtain⟨L,h1,h2⟩:=h.ec
  exact⟨L,l.keep h1 rfl,h2⟩
def spAddEdges (a:Ad):Sp:=fun vs H Q _=>∃(G k0 j0 B:Addr) (o:Ow) (b:BA) (Kk:Kn) (O:List Off) (rs:List Rec) (ga:GA) (en cb:V) (E:Pl→List (Pl×Nat)) (X:List (Pl×Pl)) (cnt:Pl→Option Nat) (Tt:Pl→Nat→Pl→Prop) (k:Pl) (s:Stp),
 vs= [.ref G,.ref k0,nV s.kind,.ref j0,nV s.nx,.ref B]∧Own o H∧GX a.c_C1 o H G ga en cb E cnt∧GB Tt E X cnt∧BK a.c_C0 o H B b Kk O rs∧PlT H k0 k∧PlT H j0 s.tgt∧InP k∧(s.kind≤1→InP s.tgt)∧(s.kind=1→s.nx<32)∧
 ∀(o':Ow) (H':Hp) E' X' cnt',Go SE o H o' H'→GX a.c_C1 o' H' G ga en cb E' cnt'→GB (fun s' c' f'=>Tt s' c' f'∨(s'=k∧Eg Kk s c' f')) E' X' cnt'→Q .non H'
theorem ok_g (T:Txt K mg a):FnOk P w K mg base CX0 2 a.f_g a.d_g ["self","place","kind","target","goes_on","backs"] (spAddEdges a):=by
 have G_h:=ok_h (P:=P) (w:=w) (base:=base) T
 have G_6:=ok_6 (P:=P) (w:=w) (base:=base) T
 refine T.F_g.ok sc_g (fun vs H Q E h=> ?_) (fun cdv A outer s H vs Q E hr h=> ?_)
 ·obtain⟨G,k0,j0,B,o,b,Kk,O,rs,ga,en,cb,E,X,cnt,Tt,k,s1,rfl,_⟩:=h
  rfl
 ·obtain⟨G,k0,j0,B,o,b,Kk,O,rs,ga,en,cb,E,X,cnt,Tt,k,s1,rfl,ow,hG,hGB,hB,hk,hj,hK,hJ,hN,q⟩:=h
  have hu:=hu_of hr
  refine⟨_,(pss_cons (ps_if (PW.pt (pw_or (pt_cmpR op_eq (pv 2) (pe_gi rfl T.g_GO) (nomark _)) (pw_or1 (pt_cmpR op_eq (pv 2) (pe_gi rfl T.g_CALL) (nomark _))))) (pss_one (ps_expr (pe_meth (pv 0) T.cl_C1 T.m_h G_h (hr.mono (by decide)) T.b_h .nil pass0 (pa_cons (pv 1) (pa_cons (pv 3) (pa_cons pe_int pa_nil)))))) pss_nil)
   (pss_one (ps_if (pt_cmpR op_eq (pv 2) (pe_gi rfl T.g_CALL) (nomark _)) (pss_one (ps_unl (ps_for PassesOwn.never rfl (pi_itemsL (pe_meth (pv 5) T.cl_C0 T.m_6 G_6 (hr.mono (by decide)) T.b_6 .nil pass0 (pa_cons (pv 3) pa_nil))) (pg_tup rfl (pgs_cons (pg_name (i:=6) sc_g.nd rfl (Or.inl rfl)) (pgs_cons (pg_name (i:=7) sc_g.nd rfl (Or.inl rfl)) pgs_nil))) (pss_one (ps_expr (pe_meth (pv 0) T.cl_C1 T.m_h G_h (hr.mono (by decide)) T.b_h .nil pass0 (pa_cons (pv 1) (pa_cons (pe_tup (pa_cons (pv 4) (pa_cons (pv 6) pa_nil))) (pa_cons (pe_op op_add (pv 7) pe_int) pa_nil))))))))) pss_nil))),?_⟩
  by_cases h0:s1.kind=0
  ·refine⟨_,rfl,rfl,_,rfl,ifT (dT (by rw[h0];rfl)) (iteT ?_)⟩
   refine⟨_,rfl,G,ga.dx,_,rfl,hG.obj,rfl,_,rfl,_,rfl,G,k0,j0,o,ga,en,cb,E,X,cnt,Tt,k,s1.tgt,1,rfl,ow,hG,hGB,hk,hj,hK,hJ (by omega),fun o1 H1 E1 X1 cnt1 g1 hG1 hGB1=> ?_⟩
   refine⟨_,rfl,rfl,_,rfl,ifF (dF (by rw[h0];decide)) ?_⟩
   refine q o1 H1 E1 X1 cnt1 g1 hG1 (hGB1.congr fun s' c' f'=> ?_)
   unfold Eg
   constructor
   ·rintro(h|⟨rfl,rfl,rfl⟩)
    ·exact .inl h
    ·exact .inr ⟨rfl,.inl ⟨.inl h0,rfl,rfl⟩⟩
   ·rintro(h|⟨rfl,⟨_,rfl,rfl⟩|⟨h1,_⟩⟩)
    ·exact .inl h
    ·exact .inr ⟨rfl,rfl,rfl⟩
    ·omega
  ·by_cases h1:s1.kind=1
   ·refine⟨_,rfl,rfl,_,rfl,ifF (dF (by rw[h1];decide)) ⟨_,rfl,rfl,_,rfl,ifT (dT (by rw[h1];rfl)) ?_⟩⟩
    refine⟨_,rfl,G,ga.dx,_,rfl,hG.obj,rfl,_,rfl,_,rfl,G,k0,j0,o,ga,en,cb,E,X,cnt,Tt,k,s1.tgt,1,rfl,ow,hG,hGB,hk,hj,hK,hJ (by omega),fun o1 H1 E1 X1 cnt1 g1 hG1 hGB1=> ?_⟩
    refine⟨_,rfl,rfl,_,rfl,ifT (dT (by rw[h1];rfl)) ?_⟩
    have hB1:=hB.same g1 se_bk se_sb
    refine⟨_,rfl,B,b.dx,_,rfl,hB1.obj,rfl,_,rfl,B,j0,o1,b,Kk,O,rs,s1.tgt,rfl,g1.own,hB1,g1.tup hj,fun H2 d En g2 hE=>ends_walk hE fun od H3 lk=> ?_⟩
    have hG3:=(hG1.go g2 (fun z=>z) (fun _ _ z=>z)).lkd lk
    have ow3:=lk.own g2.own
    have hk3:PlT H3 k0 k:=lk.tup rfl (g2.tup (g1.tup hk))
    refine for_it (n:=En.length) (fun i σ H'=>∃x1 x2 o' E' X' cnt',σ= [some (.ref G),some (.ref k0),some (nV s1.kind),some (.ref j0),some (nV s1.nx),some (.ref B),x1,x2]∧Go SE o1 H3 o' H'∧GX a.c_C1 o' H' G ga en cb E' cnt'∧
      GB (fun s' c' f'=>(Tt s' c' f'∨(s'=k∧c'=1∧f'=s1.tgt))∨(s'=k∧∃x m,(x,m)∈En.take i∧c'=m+1∧f'=(s1.nx,x))) E' X' cnt') ?_ ?_ ?_ ?_ ?_
    ·exact⟨_,_,o1,E1,X1,cnt1,rfl,Go.refl ow3,hG3,hGB1.congr fun s' c' f'=>by simp⟩
    ·rintro i σ H' hi ⟨_,_,o',E',X',cnt',rfl,g,_⟩
     exact⟨g.lkd hE lk.1 (fun z=>by rcases z with z|⟨_,z⟩|z<;>cases z),by rw[List.length_map];exact hi⟩
    ·rintro σ H' ⟨_,_,o',E',X',cnt',rfl,g,_⟩
     exact⟨g.lkd hE lk.1 (fun z=>by rcases z with z|⟨_,z⟩|z<;>cases z),by rw[List.length_map];exact Nat.le_refl _⟩
    ·rintro i σ H' x H4 hi ⟨_,_,o',E',X',cnt',rfl,g,hG',hGB'⟩ ⟨T0,kk,v,hkv,rfl,hT0,rfl⟩
     obtain⟨⟨x,m⟩,hxm,e⟩:=map_get hkv
     cases e
     refine⟨T0,_,rfl,SqT.of upd_same,rfl,_,_,rfl,_,_,rfl,rfl,?_⟩
     have g9:Go S0 o' H' o' (upd H' T0 (.tup [kV (nk x),nV m])):=Go.alloc g.own hT0 _
     have hG9:=hG'.go g9 (fun z=>z) (fun _ _ z=>z)
     refine⟨_,rfl,G,ga.dx,_,rfl,hG9.obj,rfl,_,rfl,_,rfl,_,rfl,by show 2≤sizeLine;decide,fun t ht=> ?_⟩
     have g10:Go S0 o' (upd H' T0 (.tup [kV (nk x),nV m])) o' (upd (upd H' T0 (.tup [kV (nk x),nV m])) t (.tup [nV s1.nx,nV x])):=Go.alloc g9.own ht _
     have hx4:x<4:=hE.lt x (List.mem_map.mpr ⟨(x,m),List.mem_of_getElem? hxm,rfl⟩)
     refine⟨_,rfl,_,_,rfl,rfl,G,k0,t,o',ga,en,cb,E',X',cnt',_,k,(s1.nx,x),m+1,rfl,g10.own,hG9.go g10 (fun z=>z) (fun _ _ z=>z),hGB',g10.tup (g9.tup (g.tup hk3)),upd_same,hK,⟨hN h1,hx4⟩,fun o5 H5 E5 X5 cnt5 g5 hG5 hGB5=> ?_⟩
     refine⟨_,_,o5,E5,X5,cnt5,rfl,(g.trans ((g9.trans g10).mono s0_se)).trans g5,hG5,hGB5.congr fun s' c' f'=> ?_⟩
     rw[take_snoc hxm]
     constructor
     ·rintro((h|⟨h2,y,n,h3,h4,h5⟩)|⟨rfl,rfl,rfl⟩)
      ·exact .inl h
      ·exact .inr ⟨h2,y,n,List.mem_append_left _ h3,h4,h5⟩
      ·exact .inr ⟨rfl,x,m,List.mem_append_right _ List.mem_cons_self,rfl,rfl⟩
     ·rintro(h|⟨h2,y,n,h3,h4,h5⟩)
      ·exact .inl (.inl h)
      ·rcases List.mem_append.mp h3 with h3|h3
       ·exact .inl (.inr ⟨h2,y,n,h3,h4,h5⟩)
       ·have e2:=List.mem_singleton.mp h3
        cases e2
        exact .inr ⟨h2,h4,h5⟩
    ·rintro σ H' ⟨_,_,o',E',X',cnt',rfl,g,hG',hGB'⟩
     refine ends_done g1.own g2 rfl rfl lk g (g.lkd hE lk.1 (fun z=>by rcases z with z|⟨_,z⟩|z<;>cases z)) fun H'' g'' lu=> ?_
     refine q o' H'' E' X' cnt' (g1.trans g'') (hG'.ulk lu) (hGB'.congr fun s' c' f'=> ?_)
     rw[List.take_length]
     simp only[hE.mem]
     unfold Eg
     constructor
     ·rintro((h|⟨rfl,rfl,rfl⟩)|⟨rfl,x,m,h2,rfl,rfl⟩)
      ·exact .inl h
      ·exact .inr ⟨rfl,.inl ⟨.inr h1,rfl,rfl⟩⟩
      ·exact .inr ⟨rfl,.inr ⟨h1,x,m,h2,rfl,rfl⟩⟩
     ·rintro(h|⟨rfl,⟨_,rfl,rfl⟩|⟨_,x,m,h2,rfl,rfl⟩⟩)
      ·exact .inl (.inl h)
      ·exact .inl (.inr ⟨rfl,rfl,rfl⟩)
      ·exact .inr ⟨rfl,x,m,h2,rfl,rfl⟩
   ·refine⟨_,rfl,rfl,_,rfl,ifF (dF (fun z=>h0 (by omega))) ⟨_,rfl,rfl,_,rfl,ifF (dF (fun z=>h1 (by omega))) ?_⟩⟩
    refine⟨_,rfl,rfl,_,rfl,ifF (dF (fun z=>h1 (by omega))) ?_⟩
    refine q o H E X cnt (Go.refl ow) hG (hGB.congr fun s' c' f'=> ?_)
    unfold Eg
    constructor
    ·exact .inl
    ·rintro(h|⟨rfl,⟨h2|h2,_⟩|⟨h2,_⟩⟩)
     ·exact h
     ·exact absurd h2 h0
     ·exact absurd h2 h1
     ·exact absurd h2 h1
end R
end
section
namespace R
open PySem PySem.Spec PyProof.Rows L2
open KA (Pl InP get put)
open KTh (Kn Off Rec Cov Cl1 IsMin WF)
open KG (Stp stepsOf Eg EgAt Val GB GOk KOk)
open KL (Nn Mm Gd Ld In1)
variable {P:Program} {w:World} {K:PySem.W.Frag} {mg:Str→Option Value} {base:Heap} {a:Ad}
theorem lockT {o:Ow} {H:Hp} {d b:Addr} {u v:HO} {t t':Tag} {od:Obj} (td:o d=some t) (tb:o b=some t') (n:t'≠t) (h:H b=some v):(upd H d (.frz od u)) b=some v:=by
 rw[upd_ne fun z=>by rw[z,td] at tb;cases tb;exact n rfl];exact h
theorem lockTr {o:Ow} {H:Hp} {d b:Addr} {u v:HO} {t t':Tag} {od:Obj} (td:o d=some t) (tb:o b=some t') (n:t'≠t) (h:Rd H b v):Rd (upd H d (.frz od u)) b v:=by
 rcases h with h|⟨f,h⟩
 ·exact .inl (lockT td tb n h)
 ·exact .inr ⟨f,lockT td tb n h⟩
theorem BK.lockT {cB:Addr} {o:Ow} {H:Hp} {B:Addr} {b:BA} {Kk:Kn} {O:List Off} {rs:List Rec} {d:Addr} {u:HO} {t:Tag} {od:Obj} (h:BK cB o H B b Kk O rs) (hd:H d=some u) (td:o d=some t) (n:¬SB t) (n':t≠ .bk) (hu:isTup u=false):BK cB o (upd H d (.frz od u)) B b Kk O rs:=by
 have ne:∀t',SB t'→t'≠t:=fun t' h e=>n (e▸h)
 have tup:∀b xs,H b=some (.tup xs)→(upd H d (.frz od u)) b=some (.tup xs):=fun b xs e=>by rw[upd_ne (ne_of e hd fun z=>by rw[←z] at hu;cases hu)];exact e
 refine⟨R.lockT td h.tB (fun e=>n' e.symm) h.obj,h.tB,h.tk,h.tg,h.tc,h.tw,h.to_,?_,?_,?_,?_,?_,h.len⟩
 ·obtain⟨L,h1,h2,h3,h4,h5⟩:=h.kn
  refine⟨L,R.lockT td h.tk (ne _ trivial) h1,h2,h3,h4,fun k d' e=> ?_⟩
  obtain⟨q1,E,q2,q3⟩:=h5 k d' e
  exact⟨q1,E,lockTr td q1 (ne _ trivial) q2,q3⟩
 ·obtain⟨L,h1,h2,h3,h4,h5⟩:=h.go
  refine⟨L,lockTr td h.tg (ne _ trivial) h1,h2,h3,h4,fun k l e=> ?_⟩
  obtain⟨q1,xs,q2,q3⟩:=h5 k l e
  exact⟨q1,xs,R.lockT td q1 (ne _ trivial) q2,Paired.mapP q3 fun x e z=>tups_P _ _ tup x e z⟩
 ·obtain⟨L,h1,h2,h3,h4,h5⟩:=h.ca
  refine⟨L,lockTr td h.tc (ne _ trivial) h1,h2,h3,h4,fun k l e=> ?_⟩
  obtain⟨q1,xs,q2,q3⟩:=h5 k l e
  exact⟨q1,xs,R.lockT td q1 (ne _ trivial) q2,Paired.mapP q3 fun x e z=>tups_C _ _ tup x e z⟩
 ·obtain⟨L,h1,h2,h3,h4,h5⟩:=h.wa
  refine⟨L,lockTr td h.tw (ne _ trivial) h1,h2,h3,h4,fun k l e=> ?_⟩
  obtain⟨q1,xs,q2,q3⟩:=h5 k l e
  exact⟨q1,xs,R.lockT td q1 (ne _ trivial) q2,Paired.mapP q3 fun x e z=>tups_W _ _ tup x e z⟩
 ·obtain⟨xs,h1,h2,h3⟩:=h.of
  exact⟨xs,R.lockT td h.to_ (ne _ trivial) h1,Ents.tups tup h2,h3⟩
theorem GX.lockT {cG:Addr} {o:Ow} {H:Hp} {G:Addr} {ga:GA} {en cb:V} {E:Pl→List (Pl×Nat)} {cnt:Pl→Option Nat} {d:Addr} {u:HO} {t:Tag} {od:Obj} (h:GX cG o H G ga en cb E cnt) (td:o d=some t) (n:¬SE t) (n':t≠ .gr):GX cG o (upd H d (.frz od u)) G ga en cb E cnt:=by
 have ne:∀t',SE t'→t'≠t:=fun t' h e=>n (e▸h)
 refine⟨R.lockT td h.tG (fun e=>n' e.symm) h.obj,h.tG,h.ti,h.tc,?_,?_⟩
 ·obtain⟨L,h1,h2,h3,h4,h5⟩:=h.ei
  refine⟨L,R.lockT td h.ti (ne _ (.inl rfl)) h1,h2,h3,h4,fun k d e=> ?_⟩
  obtain⟨q1,q2,q3⟩:=h5 k d e
  exact⟨q1,R.lockT td q1 (ne _ (.inr (.inl ⟨k,rfl⟩))) q2,q3⟩
 ·obtain⟨L,h1,h2⟩:=h.ec
  exact⟨L,R.lockT td h.tc (ne _ (.inr (.inr rfl))) h1,h2⟩
noncomputable def stepsV (p:Kcv7.Prog) (k:Pl):List Stp:=if k.1<p.points∧k.2<p.values then stepsOf p k else []
def ElS (H:Hp) (x:V) (s:Stp):Prop:=∃t j,x= .ref t∧H t=some (.tup [nV s.num,nV s.kind,.ref j,nV s.nx])∧PlT H j s.tgt
theorem tups_S:Tups ElS:=fun H H' t x e ⟨c,q,h1,h2,h3⟩=>⟨c,q,h1,t _ _ h2,t _ _ h3⟩
theorem stepsV_in {p:Kcv7.Prog} (W:WF p) {k:Pl} {s:Stp} (h:s∈stepsV p k):Val p k∧s∈stepsOf p k∧(s.kind≤1→InP s.tgt)∧(s.kind=1→s.nx<32):=by
 unfold stepsV at h
 split at h
 ·rename_i hv
  refine⟨hv,h,?_⟩
  obtain⟨n,r,hn,hf,rfl⟩:=KG.mem_stepsOf.mp h
  have hr:r∈p.rules:=List.mem_iff_getElem?.mpr ⟨n,hn⟩
  have ha:=W.afterV hr hv.2
  have h4:Kcv7.after r k.2<4:=Nat.lt_of_lt_of_le ha W.vle
  have hp:=W.ple
  refine⟨fun hk=> ?_,fun hk=>Nat.lt_of_lt_of_le (W.to1 r hr hk).2 hp⟩
  unfold KG.stp at hk⊢
  dsimp only at hk⊢
  refine⟨?_,h4⟩
  by_cases h1:r.kind=1
  ·rw[if_pos h1];exact Nat.lt_of_lt_of_le (W.entry _) hp
  ·rw[if_neg h1];exact Nat.lt_of_lt_of_le (W.to0 r hr (by omega)) hp
 ·cases h
def Sgr (t:Tag):Prop:=t= .gr∨SE t
theorem se_gr:∀t,SE t→Sgr t:=fun t z=> .inr z
theorem fld_set {S:Tag→Prop} {o:Ow} {H:Hp} {B C dx:Addr} {fs fs':List (Str×V)} {tb:Tag} (ow:Own o H) (hB:H B=some (.ins C dx fs)) (tB:o B=some tb) (sb:S tb):
  Go S o H o (upd H B (.ins C dx fs'))∧(upd H B (.ins C dx fs')) B=some (.ins C dx fs'):=⟨Go.set ow tB sb _ rfl rfl,upd_same⟩
def spGInit (a:Ad):Sp:=fun vs H Q _=>∃(G dx pl st B:Addr) (o:Ow) (b:BA) (Kk:Kn) (O:List Off) (rs:List Rec) (p:Kcv7.Prog),vs= [.ref G,.ref pl,.ref st,.ref B]∧H G=some (.ins a.c_C1 dx [])∧Own o H∧o G=some .gr∧WF p∧BK a.c_C0 o H B b Kk O rs∧
 o st=some .st∧Unf o H∧LsT o H st .stL ElS (stepsV p)∧
 ∀(o':Ow) (H':Hp) (dx' ei ec dt:Addr) E X cnt,Go Sgr o H o' H'→GX a.c_C1 o' H' G ⟨dx',pl,st,ei,ec,dt⟩ .non .non E cnt→GB (fun s' c' f'=>Val p s'∧EgAt p Kk s' c' f') E X cnt→o' dt=some .dt→H' dt=some (.dT [])→Q .non H'
theorem ok_f (T:Txt K mg a):FnOk P w K mg base CX0 3 a.f_f a.d_f ["self","places","steps_at","backs"] (spGInit a):=by
 have G_g:=ok_g (P:=P) (w:=w) (base:=base) T
 refine T.F_f.ok sc_f (fun vs H Q E h=> ?_) (fun cdv A outer s H vs Q E hr h=> ?_)
 ·obtain⟨G,dx,pl,st,B,o,b,Kk,O,rs,p,rfl,_⟩:=h
  rfl
 ·obtain⟨G,dx,pl,st,B,o,b,Kk,O,rs,p,rfl,hG0,ow,tG,W,hB,tst,uf,hst,q⟩:=h
  have hu:=hu_of hr
  refine⟨_,(pss_cons (ps_fld (pv 0) (pv 1) rfl)
   (pss_cons (ps_fld (pv 0) (pv 2) rfl)
   (pss_cons (ps_fld (pv 0) pe_dnewT rfl)
   (pss_cons (ps_fld (pv 0) pe_dnewT rfl)
   (pss_cons (ps_fld (pv 0) pe_dnewT rfl)
   (pss_cons (ps_fld (pv 0) pe_non rfl)
   (pss_cons (ps_fld (pv 0) pe_non rfl)
   (pss_one (ps_unl (ps_for PassesOwn.never rfl (pi_itemsT (pv 2)) (pg_tup rfl (pgs_cons (pg_name (i:=4) sc_f.nd rfl (Or.inl rfl)) (pgs_cons (pg_name (i:=5) sc_f.nd rfl (Or.inl rfl)) pgs_nil))) (pss_one (ps_for PassesOwn.never rfl (pi_list (pv 5)) (pg_tup rfl (pgs_cons (pg_name (i:=6) sc_f.nd rfl (Or.inl rfl)) (pgs_cons (pg_name (i:=7) sc_f.nd rfl (Or.inl rfl)) (pgs_cons (pg_name (i:=8) sc_f.nd rfl (Or.inl rfl)) (pgs_cons (pg_name (i:=9) sc_f.nd rfl (Or.inl rfl)) pgs_nil))))) (pss_one (ps_expr (pe_meth (pv 0) T.cl_C1 T.m_g G_g (hr.mono (by decide)) T.b_g .nil pass0 (pa_cons (pv 4) (pa_cons (pv 7) (pa_cons (pv 8) (pa_cons (pv 9) (pa_cons (pv 3) pa_nil)))))))))))))))))))),?_⟩
  obtain⟨g1,b1⟩:=fld_set (S:=fun t=>t= .gr) (fs':=([("places",V.ref pl)]:List (Str×V))) ow hG0 tG rfl
  refine⟨_,rfl,_,rfl,G,_,dx,_,rfl,hG0,T.cl_C1,T.na_5,by show 0<1000;decide,?_⟩
  have ee:putF "places" (.ref pl) ([]:List (Str×V))=([("places",V.ref pl)]:List (Str×V)):=rfl
  rw[ee]
  generalize upd H G (.ins a.c_C1 dx [("places",V.ref pl)])=H1 at*
  obtain⟨g2,b2⟩:=fld_set (S:=fun t=>t= .gr) (fs':=([("places",V.ref pl),("steps_at",V.ref st)]:List (Str×V))) g1.own b1 tG rfl
  refine⟨_,rfl,_,rfl,G,_,dx,_,rfl,b1,T.cl_C1,T.na_6,by show 1<1000;decide,?_⟩
  have ee:putF "steps_at" (.ref st) ([("places",V.ref pl)]:List (Str×V))=([("places",V.ref pl),("steps_at",V.ref st)]:List (Str×V)):=rfl
  rw[ee]
  generalize upd H1 G (.ins a.c_C1 dx [("places",V.ref pl),("steps_at",V.ref st)])=H2 at*
  have e2:=g1.trans g2
  intro p1 h1
  obtain⟨g3,b3,t3,k3,tk3,c3⟩:=fld_new (S:=fun t=>t= .gr) (fs':=([("places",V.ref pl),("steps_at",V.ref st),("edges_into",V.ref p1)]:List (Str×V))) e2.own b2 tG rfl h1 (.dT []) .ei rfl rfl
  refine⟨_,rfl,G,_,dx,_,rfl,c3,T.cl_C1,T.na_7,by show 2<1000;decide,?_⟩
  have ee:putF "edges_into" (.ref p1) ([("places",V.ref pl),("steps_at",V.ref st)]:List (Str×V))=([("places",V.ref pl),("steps_at",V.ref st),("edges_into",V.ref p1)]:List (Str×V)):=rfl
  rw[ee]
  generalize upd (upd H2 p1 (.dT [])) G (.ins a.c_C1 dx [("places",V.ref pl),("steps_at",V.ref st),("edges_into",V.ref p1)])=H3 at*
  generalize oput o p1 .ei=o3 at*
  intro p2 h2
  obtain⟨g4,b4,t4,k4,tk4,c4⟩:=fld_new (S:=fun t=>t= .gr) (fs':=([("places",V.ref pl),("steps_at",V.ref st),("edges_into",V.ref p1),("edge_counts",V.ref p2)]:List (Str×V))) g3.own b3 t3 rfl h2 (.dT []) .ec rfl rfl
  refine⟨_,rfl,G,_,dx,_,rfl,c4,T.cl_C1,T.na_8,by show 3<1000;decide,?_⟩
  have ee:putF "edge_counts" (.ref p2) ([("places",V.ref pl),("steps_at",V.ref st),("edges_into",V.ref p1)]:List (Str×V))=([("places",V.ref pl),("steps_at",V.ref st),("edges_into",V.ref p1),("edge_counts",V.ref p2)]:List (Str×V)):=rfl
  rw[ee]
  generalize upd (upd H3 p2 (.dT [])) G (.ins a.c_C1 dx [("places",V.ref pl),("steps_at",V.ref st),("edges_into",V.ref p1),("edge_counts",V.ref p2)])=H4 at*
  generalize oput o3 p2 .ec=o4 at*
  intro p3 h3
  obtain⟨g5,b5,t5,k5,tk5,c5⟩:=fld_new (S:=fun t=>t= .gr) (fs':=([("places",V.ref pl),("steps_at",V.ref st),("edges_into",V.ref p1),("edge_counts",V.ref p2),("distances_by_target",V.ref p3)]:List (Str×V))) g4.own b4 t4 rfl h3 (.dT []) .dt rfl rfl
  refine⟨_,rfl,G,_,dx,_,rfl,c5,T.cl_C1,T.na_9,by show 4<1000;decide,?_⟩
  have ee:putF "distances_by_target" (.ref p3) ([("places",V.ref pl),("steps_at",V.ref st),("edges_into",V.ref p1),("edge_counts",V.ref p2)]:List (Str×V))=([("places",V.ref pl),("steps_at",V.ref st),("edges_into",V.ref p1),("edge_counts",V.ref p2),("distances_by_target",V.ref p3)]:List (Str×V)):=rfl
  rw[ee]
  generalize upd (upd H4 p3 (.dT [])) G (.ins a.c_C1 dx [("places",V.ref pl),("steps_at",V.ref st),("edges_into",V.ref p1),("edge_counts",V.ref p2),("distances_by_target",V.ref p3)])=H5 at*
  generalize oput o4 p3 .dt=o5 at*
  obtain⟨g6,b6⟩:=fld_set (S:=fun t=>t= .gr) (fs':=([("places",V.ref pl),("steps_at",V.ref st),("edges_into",V.ref p1),("edge_counts",V.ref p2),("distances_by_target",V.ref p3),("ending",V.non)]:List (Str×V))) g5.own b5 t5 rfl
  refine⟨_,rfl,G,_,dx,_,rfl,b5,T.cl_C1,T.na_a,by show 5<1000;decide,?_⟩
  have ee:putF "ending" .non ([("places",V.ref pl),("steps_at",V.ref st),("edges_into",V.ref p1),("edge_counts",V.ref p2),("distances_by_target",V.ref p3)]:List (Str×V))=([("places",V.ref pl),("steps_at",V.ref st),("edges_into",V.ref p1),("edge_counts",V.ref p2),("distances_by_target",V.ref p3),("ending",V.non)]:List (Str×V)):=rfl
  rw[ee]
  generalize upd H5 G (.ins a.c_C1 dx [("places",V.ref pl),("steps_at",V.ref st),("edges_into",V.ref p1),("edge_counts",V.ref p2),("distances_by_target",V.ref p3),("ending",V.non)])=H6 at*
  obtain⟨g7,b7⟩:=fld_set (S:=fun t=>t= .gr) (fs':=gfs ⟨dx,pl,st,p1,p2,p3⟩ .non .non) g6.own b6 t5 rfl
  refine⟨_,rfl,G,_,dx,_,rfl,b6,T.cl_C1,T.na_b,by show 6<1000;decide,?_⟩
  have ee:putF "coming_back" .non ([("places",V.ref pl),("steps_at",V.ref st),("edges_into",V.ref p1),("edge_counts",V.ref p2),("distances_by_target",V.ref p3),("ending",V.non)]:List (Str×V))=gfs ⟨dx,pl,st,p1,p2,p3⟩ .non .non:=rfl
  rw[ee]
  generalize upd H6 G (.ins a.c_C1 dx (gfs ⟨dx,pl,st,p1,p2,p3⟩ .non .non))=H7 at*
  have g67:=g6.trans g7
  have g57:=g5.trans g67
  have g47:=g4.trans g57
  have gall:=e2.trans (g3.trans g47)
  have i7:H7 p1=some (.dT []):=g47.at k3 tk3 (fun z=>nomatch z)
  have c7:H7 p2=some (.dT []):=g57.at k4 tk4 (fun z=>nomatch z)
  have d7:H7 p3=some (.dT []):=g67.at k5 tk5 (fun z=>nomatch z)
  have hG7:GX a.c_C1 o5 H7 G ⟨dx,pl,st,p1,p2,p3⟩ .non .non (fun _=> []) (fun _=>none):=⟨b7,t5,g5.tag (g4.tag tk3),g5.tag tk4,⟨[],i7,List.nodup_nil,fun k hk=>(by cases hk),fun _ _=>rfl,fun k d e=>(by cases e)⟩,⟨[],c7,List.nodup_nil,fun k hk=>(by cases hk),fun _=>rfl⟩⟩
  have hB7:=hB.same gall (fun z=>nomatch z) (fun t z=>by cases z;exact fun q=>q)
  have hst7:=hst.go tups_S gall tst (fun z=>nomatch z) (fun _ z=>nomatch z)
  have tst7:=gall.tag tst
  have gS:Go Sgr o H o5 H7:=gall.mono fun t z=> .inl z
  obtain⟨L,l1,l2,l3,l4,l5⟩:=hst7
  have l1:=(gall.unf uf).rd tst7 l1
  clear g1 g2 e2 g3 g4 g5 g6 g7 g67 g57 g47 b1 b2 b3 b4 b5 b6 k3 k4 k5 c3 c4 c5 h1 h2 h3 i7 c7 hG0 hst
  refine⟨_,rfl,st,_,rfl,.inr ⟨l1,fun od=> ?_⟩⟩
  have lk:Lkd st (.dT (L.map (eP V.ref))) od H7 (upd H7 st (.frz od (.dT (L.map (eP V.ref))))):=⟨upd_same,.inr ⟨l1,rfl⟩⟩
  have hG8:=hG7.lockT (od:=od) (u:= .dT (L.map (eP V.ref))) tst7 (fun z=>by rcases z with z|⟨_,z⟩|z<;>cases z) (fun z=>nomatch z)
  have hB8:=hB7.lockT (od:=od) l1 tst7 (fun z=>z) (fun z=>nomatch z) rfl
  have ow8:=lk.own gall.own
  have l8:∀k l,get L k=some l→o5 l=some (.stL k)∧∃xs,(upd H7 st (.frz od (.dT (L.map (eP V.ref))))) l=some (.lst xs)∧Paired (ElS (upd H7 st (.frz od (.dT (L.map (eP V.ref)))))) xs (stepsV p k):=fun k l e=>by
   obtain⟨q1,xs,q2,q3⟩:=l5 k l e
   exact⟨q1,xs,lk.keep q2 (fun z=>nomatch z),Paired.mapP q3 fun x y z=>tups_S _ _ (fun b zs z=>lk.tup rfl z) x y z⟩
  have lkst:=lk.1
  generalize upd H7 st (.frz od (.dT (L.map (eP V.ref))))=H8 at*
  have nst:¬SE .st:=fun z=>by rcases z with z|⟨_,z⟩|z<;>cases z
  have nstL:∀k,¬SE (.stL k):=fun k z=>by rcases z with z|⟨_,z⟩|z<;>cases z
  refine for_it (n:=L.length) (fun i σ H'=>∃x4 x5 x6 x7 x8 x9 o' E X cnt,σ= [some (.ref G),some (.ref pl),some (.ref st),some (.ref B),x4,x5,x6,x7,x8,x9]∧Go SE o5 H8 o' H'∧GX a.c_C1 o' H' G ⟨dx,pl,st,p1,p2,p3⟩ .non .non E cnt∧
    GB (fun s' c' f'=>s'∈(L.take i).map (·.1)∧∃z∈stepsV p s',Eg Kk z c' f') E X cnt) ?_ ?_ ?_ ?_ ?_
  ·exact⟨_,_,_,_,_,_,o5,_,[],_,rfl,Go.refl ow8,hG8,GB.start.congr fun s' c' f'=>by simp⟩
  ·rintro i σ H' hi ⟨_,_,_,_,_,_,o',E,X,cnt,rfl,g,_⟩
   exact⟨g.at lkst tst7 nst,by rw[List.length_map];exact hi⟩
  ·rintro σ H' ⟨_,_,_,_,_,_,o',E,X,cnt,rfl,g,_⟩
   exact⟨g.at lkst tst7 nst,by rw[List.length_map];exact Nat.le_refl _⟩
  ·rintro i σ H' x H9 hi ⟨_,_,_,_,_,_,o',E,X,cnt,rfl,g,hG',hGB'⟩ ⟨T0,kk,v,k0,hkv,rfl,hT0,hk0,rfl⟩
   obtain⟨⟨k,l⟩,hkl,e⟩:=map_get hkv
   cases e
   have hget:get L k=some l:=KA.mem_get l2 (List.mem_of_getElem? hkl)
   have hInK:InP k:=l3 k (List.mem_map.mpr ⟨_,List.mem_of_getElem? hkl,rfl⟩)
   obtain⟨tl,xs,hl,hP⟩:=l8 k l hget
   have g9:Go S0 o' H' o' (upd H' T0 (.tup [.ref k0,.ref l])):=Go.alloc g.own hT0 _
   have gg:Go SE o5 H8 o' (upd H' T0 (.tup [.ref k0,.ref l])):=g.trans (g9.mono s0_se)
   have hG9:=hG'.go g9 (fun z=>z) (fun _ _ z=>z)
   have hk9:PlT (upd H' T0 (.tup [.ref k0,.ref l])) k0 k:=g9.tup hk0
   have hT9:(upd H' T0 (.tup [.ref k0,.ref l])) T0=some (.tup [.ref k0,.ref l]):=upd_same
   generalize upd H' T0 (.tup [.ref k0,.ref l])=H9 at*
   refine⟨T0,_,rfl,SqT.of hT9,rfl,_,_,rfl,_,_,rfl,rfl,?_⟩
   refine⟨_,rfl,l,rfl,⟨xs,SqL.of (gg.at hl tl (nstL k))⟩,?_⟩
   refine for_list (xs:=xs) (fun j σ H'=>∃x6 x7 x8 x9 o'' E X cnt,σ= [some (.ref G),some (.ref pl),some (.ref st),some (.ref B),some (.ref k0),some (.ref l),x6,x7,x8,x9]∧Go SE o5 H8 o'' H'∧Go SE o' H9 o'' H'∧GX a.c_C1 o'' H' G ⟨dx,pl,st,p1,p2,p3⟩ .non .non E cnt∧
     GB (fun s' c' f'=>(s'∈(L.take i).map (·.1)∧∃z∈stepsV p s',Eg Kk z c' f')∨(s'=k∧∃z∈(stepsV p k).take j,Eg Kk z c' f')) E X cnt) ?_ ?_ ?_ ?_
   ·exact⟨_,_,_,_,o',E,X,cnt,rfl,gg,Go.refl gg.own,hG9,hGB'.congr fun s' c' f'=>by simp⟩
   ·rintro j σ H' _ ⟨_,_,_,_,o'',E',X',cnt',rfl,g',_⟩
    exact SqL.of (g'.at hl tl (nstL k))
   ·rintro j x σ H' hx ⟨_,_,_,_,o'',E',X',cnt',rfl,g',g'',hG'',hGB''⟩
    obtain⟨z,hz,t,j0,rfl,ht,hj0⟩:=paired_get hP hx
    obtain⟨zv,zm,z1,z2⟩:=stepsV_in W (List.mem_of_getElem? hz)
    refine⟨t,_,rfl,SqT.of (g'.tup ht),rfl,_,_,rfl,_,_,rfl,_,_,rfl,_,_,rfl,rfl,?_⟩
    have hB'':=hB8.same g' se_bk se_sb
    refine⟨_,rfl,G,dx,_,rfl,hG''.obj,rfl,_,rfl,_,rfl,_,rfl,_,rfl,_,rfl,G,k0,j0,B,o'',b,Kk,O,rs,_,_,_,E',X',cnt',_,k,z,rfl,g'.own,hG'',hGB'',hB'',g''.tup hk9,g'.tup hj0,hInK,z1,z2,fun o3 H3 E3 X3 cnt3 g3 hG3 hGB3=> ?_⟩
    refine⟨_,_,_,_,o3,E3,X3,cnt3,rfl,g'.trans g3,g''.trans g3,hG3,hGB3.congr fun s' c' f'=> ?_⟩
    rw[take_snoc hz]
    constructor
    ·rintro((h|⟨rfl,y,h1,h2⟩)|⟨rfl,h⟩)
     ·exact .inl h
     ·exact .inr ⟨rfl,y,List.mem_append_left _ h1,h2⟩
     ·exact .inr ⟨rfl,z,List.mem_append_right _ List.mem_cons_self,h⟩
    ·rintro(h|⟨rfl,y,h1,h2⟩)
     ·exact .inl (.inl h)
     ·rcases List.mem_append.mp h1 with h1|h1
      ·exact .inl (.inr ⟨rfl,y,h1,h2⟩)
      ·rw[List.mem_singleton.mp h1] at h2
       exact .inr ⟨rfl,h2⟩
   ·rintro σ H' ⟨_,_,_,_,o'',E',X',cnt',rfl,g',g'',hG'',hGB''⟩
    refine⟨_,_,_,_,_,_,o'',E',X',cnt',rfl,g',hG'',hGB''.congr fun s' c' f'=> ?_⟩
    rw[prd_len hP,List.take_length,take_snoc hkl,List.map_append,List.mem_append]
    constructor
    ·rintro(⟨h1,h2⟩|⟨rfl,h2⟩)
     ·exact⟨.inl h1,h2⟩
     ·exact⟨.inr List.mem_cons_self,h2⟩
    ·rintro⟨h1|h1,h2⟩
     ·exact .inl ⟨h1,h2⟩
     ·have:s'=k:=by simpa using h1
      subst this
      exact .inr ⟨rfl,h2⟩
  ·rintro σ H' ⟨_,_,_,_,_,_,o',E,X,cnt,rfl,g,hG',hGB'⟩
   refine ends_done gall.own (Go.refl gall.own) rfl rfl lk g (g.at lkst tst7 nst) fun H'' g'' lu=> ?_
   refine q o' H'' dx p1 p2 p3 E X cnt (gS.trans (g''.mono se_gr)) (hG'.ulk lu) (hGB'.congr fun s' c' f'=> ?_) (g''.tag tk5) (g''.at d7 tk5 (fun z=>by rcases z with z|⟨_,z⟩|z<;>cases z))
   rw[List.take_length]
   constructor
   ·rintro⟨_,z,hz,h⟩
    obtain⟨zv,zm,_⟩:=stepsV_in W hz
    exact⟨zv,z,zm,h⟩
   ·rintro⟨hv,z,hz,h⟩
    have hz':z∈stepsV p s':=by unfold stepsV;rw[if_pos (show s'.1<p.points∧s'.2<p.values from hv)];exact hz
    refine⟨?_,z,hz',h⟩
    by_cases hm:s'∈L.map (·.1)
    ·exact hm
    ·rw[(l4 s').mp (KA.get_none.mpr hm)] at hz'
     cases hz'
end R
end
section
namespace R
open PySem PySem.Spec PyProof.Rows L2
open KA (Pl InP get put)
open KTh (Kn Off Rec Cov Cl1 IsMin WF)
open KG (Stp stepsOf Eg EgAt Val GB GOk KOk)
open KL (Nn Mm Gd Ld In1)
variable {P:Program} {w:World} {K:PySem.W.Frag} {mg:Str→Option Value} {base:Heap} {a:Ad}
noncomputable def gkey (x:Nat×Pl):List Int:= [(x.1:Int),(x.2.1:Int),(x.2.2:Int)]
theorem gkey_inj (x y:Nat×Pl) (e:gkey x=gkey y):x=y:=by
 obtain⟨a1,a2,a3⟩:=x
 obtain⟨b1,b2,b3⟩:=y
 unfold gkey at e
 simp only[List.cons.injEq,and_true] at e
 obtain⟨e1,e2,e3⟩:=e
 rw[show a1=b1 by omega,show a2=b2 by omega,show a3=b3 by omega]
theorem Go.own1 {S:Tag→Prop} {o:Ow} {H H':Hp} {b:Addr} (g:Go S o H o H') (hb:H b=none) (ow:Own o H) (u:HO):Go S o H o (upd H' b u):=Go.set0 g.own (ow.free hb) g hb u
theorem Go.of_same {o:Ow} {H H':Hp} (ow:Own o H) (h:∀b u,H b=some u→H' b=some u):Go S0 o H o H':=⟨ow,fun _ _=>rfl,fun b u e _=>h b u e,fun b t e=>let ⟨u,q1,q2⟩:=ow b t e;⟨u,h b u q1,q2⟩,fun b t f u e q=>by
 obtain⟨v,q1,_⟩:=ow b t e
 have:=h b v q1
 rw[q] at this
 cases this
 exact q1⟩
def spFind (a:Ad):Sp:=fun vs H Q _=>∃(G t0:Addr) (o:Ow) (ga:GA) (en cb:V) (E:Pl→List (Pl×Nat)) (cnt:Pl→Option Nat) (t:Pl),vs= [.ref G,.ref t0]∧Own o H∧Unf o H∧GX a.c_C1 o H G ga en cb E cnt∧PlT H t0 t∧InP t∧
 ∀(H':Hp) (d:Addr) (F:List (Pl×Nat)),Go S0 o H o H'→H d=none→H' d=some (.dT (F.map (eP nV)))→(F.map (·.1)).Nodup→(∀k∈F.map (·.1),InP k)→(∀x,IsMin (KD.Ph E t x) (get F x))→Q (.ref d) H'
theorem ok_j (T:Txt K mg a):FnOk P w K mg base CX0 4 a.f_j a.d_j ["self","target"] (spFind a):=by
 have G_3:=ok_3 (P:=P) (w:=w) (base:=base) T
 have G_0:=ok_0 (P:=P) (w:=w) (base:=base) T
 refine T.F_j.ok sc_j (fun vs H Q E h=> ?_) (fun cdv A outer s H vs Q E hr h=> ?_)
 ·obtain⟨G,t0,o,ga,en,cb,E,cnt,t,rfl,_⟩:=h
  rfl
 ·obtain⟨G,t0,o,ga,en,cb,E,cnt,t,rfl,ow,uf,hG,ht,hT,q⟩:=h
  have hu:=hu_of hr
  refine⟨_,(pss_cons (ps_set (i:=2) sc_j.nd rfl (Or.inl rfl) pe_dnewT)
   (pss_cons (ps_set (i:=3) sc_j.nd rfl (Or.inl rfl) (pe_lst (pa_cons (pe_tup (pa_cons pe_int (pa_cons (pv 1) pa_nil))) pa_nil)))
   (pss_cons (ps_while PassesOwn.never (pt_cmpR op_gt (pe_callB call_len_seq (by rfl) T.z_len PySem.boot_len (pa_cons (pv 3) pa_nil)) pe_int (nomark _)) (pss_cons (ps_set (i:=4) sc_j.nd rfl (Or.inl rfl) (pe_call G_3 (hr.mono (by decide)) rfl T.mg_3 T.k_3 T.b_3 .nil pass0 (pa_cons (pv 3) pa_nil)))
   (pss_one (ps_if (pt_cmp (pc_dnotin hu (pe_ix ix_tup (pv 4) pe_int (fun _ _=>rfl)) (pv 2))) (pss_cons (ps_dput hu (pv 2) (pe_ix ix_tup (pv 4) pe_int (fun _ _=>rfl)) (pe_ix ix_tup (pv 4) pe_int (fun _ _=>rfl)) rfl)
   (pss_one (ps_unl (ps_for PassesOwn.never rfl (pi_itemsT (pe_dget2 hu (pe_fld (pv 0) rfl) (pe_ix ix_tup (pv 4) pe_int (fun _ _=>rfl)) pe_dnewT ⟨rfl,rfl,rfl,rfl⟩)) (pg_tup rfl (pgs_cons (pg_name (i:=5) sc_j.nd rfl (Or.inl rfl)) (pgs_cons (pg_name (i:=6) sc_j.nd rfl (Or.inl rfl)) pgs_nil))) (pss_one (ps_if (pt_cmp (pc_dnotin hu (pv 5) (pv 2))) (pss_one (ps_expr (pe_call G_0 (hr.mono (by decide)) rfl T.mg_0 T.k_0 T.b_0 .nil pass0 (pa_cons (pv 3) (pa_cons (pe_tup (pa_cons (pe_op op_add (pe_ix ix_tup (pv 4) pe_int (fun _ _=>rfl)) (pv 6)) (pa_cons (pv 5) pa_nil))) pa_nil))))) pss_nil)))))) pss_nil))))
   (pss_one (ps_ret (pv 2)))))),?_⟩
  intro d hd
  have g1:Go S0 o H o (upd H d (.dT [])):=Go.alloc ow hd _
  refine⟨_,rfl,by show 2≤sizeLine;decide,fun e0 he0=>⟨by show 1≤sizeLine;decide,fun l hl=> ?_⟩⟩
  have g2:Go S0 o H o (upd (upd H d (.dT [])) e0 (.tup [.int 0,.ref t0])):=g1.trans (Go.alloc g1.own he0 _)
  have g3:Go S0 o H o (upd (upd (upd H d (.dT [])) e0 (.tup [.int 0,.ref t0])) l (.lst [.ref e0])):=g2.trans (Go.alloc g2.own hl _)
  have hd3:(upd (upd (upd H d (.dT [])) e0 (.tup [.int 0,.ref t0])) l (.lst [.ref e0])) d=some (.dT (([]:List (Pl×Nat)).map (eP nV))):=by
   have n1:d≠e0:=ne_of_none (H:=upd H d (.dT [])) upd_same he0
   have n2:d≠l:=by
    have:(upd (upd H d (.dT [])) e0 (.tup [.int 0,.ref t0])) d=some (.dT []):=by rw[upd_ne n1,upd_same]
    exact ne_of_none this hl
   rw[upd_ne n2,upd_ne n1,upd_same];rfl
  have hl3:(upd (upd (upd H d (.dT [])) e0 (.tup [.int 0,.ref t0])) l (.lst [.ref e0])) l=some (.lst [.ref e0]):=upd_same
  have he3:(upd (upd (upd H d (.dT [])) e0 (.tup [.int 0,.ref t0])) l (.lst [.ref e0])) e0=some (.tup [.int 0,.ref t0]):=by
   have n2:e0≠l:=ne_of_none (H:=upd (upd H d (.dT [])) e0 (.tup [.int 0,.ref t0])) upd_same hl
   rw[upd_ne n2,upd_same]
  have hlH:H l=none:=by
   cases e:H l with
   |none=>rfl
   |some u=>exact absurd (g2.still (b:=l) (by rw[e];exact fun z=>nomatch z)) (by rw[hl];exact fun z=>z rfl)
  generalize upd (upd (upd H d (.dT [])) e0 (.tup [.int 0,.ref t0])) l (.lst [.ref e0])=H3 at*
  have ndl:d≠l:=ne_of hd3 hl3 (fun z=>nomatch z)
  refine⟨fun m σ H'=>∃(x4 x5 x6:Option V) (F:List (Pl×Nat)) (O:List (Nat×Pl)) (xs:List V),σ= [some (.ref G),some (.ref t0),some (.ref d),some (.ref l),x4,x5,x6]∧Go S0 o H o H'∧H' d=some (.dT (F.map (eP nV)))∧H' l=some (.lst xs)∧Ents H' 3 xs (O.map gkey)∧HpL (O.map gkey)∧KD.Dj E t F O∧
    (F.map (·.1)).Nodup∧(∀k∈F.map (·.1),InP k)∧(∀y∈O,InP y.2)∧O.length≤1+F.length*128∧m=(128-F.length)*129+O.length,
   ⟨_,_,_,_,[],[(0,t)],[.ref e0],rfl,g3,hd3,hl3,.cons ⟨⟨e0,rfl,0,_,_,t0,[],he3,g3.tup ht,rfl⟩,rfl⟩ .nil,fun i h1 h2=> ?_,KD.Dj.start,List.nodup_nil,fun k hk=>(by cases hk),fun y hy=> ?_,by show 1≤1+0*128;decide,rfl⟩,?_⟩
  ·have:i<1:=h2
   omega
  ·rw[List.mem_singleton.mp hy];exact hT
  clear hd3 hl3 he3 hl he0 g1 g2 g3
  rintro m σ H1 ⟨x4,x5,x6,F,O,xs,rfl,g1,hd1,hl1,hE1,hp1,D,hF1,hF2,hO1,hO2,rfl⟩
  have hlen:=prd_len hE1
  rw[List.length_map] at hlen
  have hFl:=len_dict hF1 hF2
  have hbig:O.length≤1+128*128:=Nat.le_trans hO2 (Nat.add_le_add_left (Nat.mul_le_mul_right _ hFl) _)
  have hG1:=hG.go g1 (fun z=>z) (fun _ _ z=>z)
  refine⟨_,rfl,l,_,rfl,.inl (SqL.of hl1),_,_,rfl,rfl,_,rfl,ite2 (fun hb=> ?_) (fun hb=> ?_)⟩
  ·have hpos:0<O.length:=by
    have:(0:Int)<(xs.length:Int):=of_decide_eq_true hb
    omega
   refine⟨_,fun σ' H' h=>h,?_⟩
   refine⟨_,rfl,l,xs,O.map gkey,3,rfl,hl1,hE1,by omega,by rw[List.length_map];exact hpos,hp1,fun e0 e ys es' p1 p2 p3 p4 p5 p6 p7 p8 p9=> ?_⟩
   obtain⟨⟨n,x⟩,hy,rfl⟩:=List.mem_map.mp p3
   obtain⟨O1,rfl⟩:∃O1:List (Nat×Pl),es'=O1.map gkey:=keys_map fun e he=>by
    obtain⟨z,_,rfl⟩:=List.mem_map.mp (p8 e he)
    exact⟨z,rfl⟩
   rw[List.length_map,List.length_map] at p6
   have m1:∀z∈O,z=(n,x)∨z∈O1:=fun z hz=>by
    rcases p7 (gkey z) (List.mem_map.mpr ⟨z,hz,rfl⟩) with h|h
    ·exact .inl (gkey_inj _ _ h)
    ·obtain⟨z',h1,h2⟩:=List.mem_map.mp h
     rw[←gkey_inj _ _ h2];exact .inr h1
   have m2:∀z∈O1,z∈O:=fun z hz=>by
    obtain⟨z',h1,h2⟩:=List.mem_map.mp (p8 (gkey z) (List.mem_map.mpr ⟨z,hz,rfl⟩))
    rw[←gkey_inj _ _ h2];exact h1
   have hle:∀m y,(m,y)∈O→n≤m:=fun m y hz=>by
    have:=HT.lex_head (p4 (gkey (m,y)) (List.mem_map.mpr ⟨_,hz,rfl⟩))
    omega
   obtain⟨s1,u1,v1,pp,r1,w1,w2,w3⟩:=p1
   have hr1:r1= []∧s1=(n:Int)∧u1=(x.1:Int)∧v1=(x.2:Int):=by
    unfold gkey at w3
    simp only[List.cons.injEq] at w3
    obtain⟨e1,e2,e3,e4⟩:=w3
    exact⟨e4.symm,e1.symm,e2.symm,e3.symm⟩
   obtain⟨rfl,rfl,rfl,rfl⟩:=hr1
   have ht1:H1 e0=some (.tup [nV n,.ref pp]):=w1
   have hx1:PlT H1 pp x:=w2
   have hInx:InP x:=hO1 _ hy
   have hnb:∀c zs,H1 c=some (.tup zs)→(upd H1 l (.lst ys)) c=some (.tup zs):=tup_upd hl1
   have g2:Go S0 o H o (upd H1 l (.lst ys)):=g1.own1 hlH ow _
   have hd2:(upd H1 l (.lst ys)) d=some (.dT (F.map (eP nV))):=by rw[upd_ne ndl];exact hd1
   have hl2:(upd H1 l (.lst ys)) l=some (.lst ys):=upd_same
   have ht2:=hnb _ _ ht1
   have hx2:PlT (upd H1 l (.lst ys)) pp x:=hnb _ _ hx1
   have hE2:Ents (upd H1 l (.lst ys)) 3 ys (O1.map gkey):=Ents.tups hnb p5
   generalize upd H1 l (.lst ys)=H2 at*
   have hdg:DGet H2 d (.ref pp) (valV (F.map (eP nV)) (pk x)):=DGet.t hd2 hx2
   rw[val_eP] at hdg
   cases ef:get F x with
   |some y0=>
    rw[ef] at hdg
    refine⟨_,rfl,e0,_,_,_,rfl,rfl,SqT.of ht2,atI_nat (j:=1) rfl,_,rfl,d,_,rfl,hdg,_,rfl,iteF ?_⟩
    refine⟨(128-F.length)*129+O1.length,by omega,_,_,_,F,O1,ys,rfl,g2,hd2,hl2,hE2,p9,D.drop ⟨y0,ef⟩ m1 m2,hF1,hF2,fun y hy=>hO1 y (m2 y hy),by omega,rfl⟩
   |none=>
    rw[ef] at hdg
    refine⟨_,rfl,e0,_,_,_,rfl,rfl,SqT.of ht2,atI_nat (j:=1) rfl,_,rfl,d,_,rfl,hdg,_,rfl,iteT ?_⟩
    have hput:putK (F.map (eP nV)) (pk x) (nV n)=(put F x n).map (eP nV):=put_eP nV F x n
    have hdp:DPut H2 d (.ref pp) (nV n) (upd H2 d (.dT ((put F x n).map (eP nV)))):=by
     rw[←hput]
     exact DPut.t (k:=pk x) hd2 hx2 (lt_size (by rw[List.length_map];omega))
    refine⟨_,rfl,e0,_,_,_,rfl,rfl,SqT.of ht2,atI_nat (j:=0) rfl,_,rfl,_,rfl,e0,_,_,_,rfl,rfl,SqT.of ht2,atI_nat (j:=1) rfl,d,_,rfl,hdp,?_⟩
    have g3:Go S0 o H o (upd H2 d (.dT ((put F x n).map (eP nV)))):=g2.own1 hd ow _
    have tu3:∀c zs,H2 c=some (.tup zs)→(upd H2 d (.dT ((put F x n).map (eP nV)))) c=some (.tup zs):=fun c zs e=>by rw[upd_ne (ne_of e hd2 fun z=>nomatch z)];exact e
    have hd3:(upd H2 d (.dT ((put F x n).map (eP nV)))) d=some (.dT ((put F x n).map (eP nV))):=upd_same
    have hl3:(upd H2 d (.dT ((put F x n).map (eP nV)))) l=some (.lst ys):=by rw[upd_ne ndl.symm];exact hl2
    have ht3:=tu3 _ _ ht2
    have hx3:PlT (upd H2 d (.dT ((put F x n).map (eP nV)))) pp x:=tu3 _ _ hx2
    have hE3:Ents (upd H2 d (.dT ((put F x n).map (eP nV)))) 3 ys (O1.map gkey):=Ents.tups tu3 hE2
    have hG3:=hG.go g3 (fun z=>z) (fun _ _ z=>z)
    generalize upd H2 d (.dT ((put F x n).map (eP nV)))=H3 at*
    have hF':((put F x n).map (·.1)).Nodup:=KA.nd_put hF1
    have hF'2:∀k∈(put F x n).map (·.1),InP k:=fun k hk=>by
     rcases KA.keys_put.mp hk with rfl|hk
     ·exact hInx
     ·exact hF2 k hk
    have hFl':(put F x n).length=F.length+1:=by rw[KA.put_new n ef,List.length_append];rfl
    have hFl2:=len_dict hF' hF'2
    obtain⟨k1,k2⟩:=hG3.ei.keys x
    have hEl:(E x).length≤128:=len_dict k1 k2
    obtain⟨Le,e1,e2,e3,e4,e5⟩:=id hG3.ei
    refine⟨_,rfl,G,_,_,_,_,rfl,hG3.obj,T.cl_C1,T.na_7,rfl,ga.ei,rfl,.inr ⟨_,.inl e1⟩,_,rfl,e0,_,_,_,rfl,rfl,SqT.of ht3,atI_nat (j:=1) rfl,fun p hp=>⟨_,DGet.t (kvs:=Le.map (eP V.ref)) (k:=pk x) (by rw[upd_ne (ne_of_none e1 hp)];exact e1) (by rw[upd_ne (ne_of_none hx3 hp)];exact hx3),?_⟩⟩
    rw[val_eP]
    have gp:Go S0 o H3 o (upd H3 p (.dT [])):=Go.alloc g3.own hp _
    have hdd:∃dd:Addr,((get Le x).map V.ref).getD (.ref p)= .ref dd∧(upd H3 p (.dT [])) dd=some (.dT ((E x).map (eP nV)))∧(o dd=some (.eiD x)∨o dd=none)∧dd≠d:=by
     cases ee:get Le x with
     |none=>
      refine⟨p,rfl,?_,.inr (g3.own.free hp),(ne_of_none hd3 hp).symm⟩
      rw[e4 x ee];exact upd_same
     |some dd=>
      obtain⟨q1,q2,_⟩:=e5 x dd ee
      refine⟨dd,rfl,gp.at q2 q1 (fun z=>z),.inl q1,fun z=> ?_⟩
      rw[z,ow.free hd] at q1;cases q1
    obtain⟨dd,hdd1,hdd2,hdd3,hdd4⟩:=hdd
    rw[hdd1]
    have tu4:∀c zs,H3 c=some (.tup zs)→(upd H3 p (.dT [])) c=some (.tup zs):=fun c zs e=>gp.tup e
    have hd4:(upd H3 p (.dT [])) d=some (.dT ((put F x n).map (eP nV))):=by rw[upd_ne (ne_of_none hd3 hp)];exact hd3
    have hl4:(upd H3 p (.dT [])) l=some (.lst ys):=by rw[upd_ne (ne_of_none hl3 hp)];exact hl3
    have g4:Go S0 o H o (upd H3 p (.dT [])):=g3.trans gp
    have ht4:=tu4 _ _ ht3
    have hE4:Ents (upd H3 p (.dT [])) 3 ys (O1.map gkey):=Ents.tups tu4 hE3
    generalize upd H3 p (.dT [])=H4 at*
    refine⟨dd,_,rfl,.inr ⟨hdd2,fun od=> ?_⟩⟩
    have lk:Lkd dd (.dT ((E x).map (eP nV))) od H4 (upd H4 dd (.frz od (.dT ((E x).map (eP nV))))):=⟨upd_same,.inr ⟨hdd2,rfl⟩⟩
    have ow5:=lk.own g4.own
    have tu5:∀c zs,H4 c=some (.tup zs)→(upd H4 dd (.frz od (.dT ((E x).map (eP nV))))) c=some (.tup zs):=fun c zs e=>lk.tup rfl e
    have hd5:(upd H4 dd (.frz od (.dT ((E x).map (eP nV))))) d=some (.dT ((put F x n).map (eP nV))):=by rw[upd_ne hdd4.symm];exact hd4
    have hl5:(upd H4 dd (.frz od (.dT ((E x).map (eP nV))))) l=some (.lst ys):=lk.keep hl4 (fun z=>nomatch z)
    have hdd5:=lk.1
    have hE5:Ents (upd H4 dd (.frz od (.dT ((E x).map (eP nV))))) 3 ys (O1.map gkey):=Ents.tups tu5 hE4
    have ht5:=tu5 _ _ ht4
    generalize hH5:upd H4 dd (.frz od (.dT ((E x).map (eP nV))))=H5 at*
    have ndd:dd≠l:=ne_of hdd5 hl5 (fun z=>nomatch z)
    refine for_it (n:=(E x).length) (fun i σ H'=>∃(x5 x6:Option V) (O2:List (Nat×Pl)) (zs:List V),σ= [some (.ref G),some (.ref t0),some (.ref d),some (.ref l),some (.ref e0),x5,x6]∧(∀c u,H5 c=some u→c≠l→H' c=some u)∧H' l=some (.lst zs)∧Ents H' 3 zs (O2.map gkey)∧HpL (O2.map gkey)∧
      (∀y∈O1,y∈O2)∧(∀s c,(s,c)∈(E x).take i→get (put F x n) s=none→(n+c,s)∈O2)∧(∀y∈O2,y∈O1∨∃s c,(s,c)∈E x∧y=(n+c,s))∧O2.length≤O1.length+i) ?_ ?_ ?_ ?_ ?_
    ·exact⟨_,_,O1,ys,rfl,fun c u h _=>h,hl5,hE5,p9,fun y h=>h,fun s c h=>(by cases h),fun y h=> .inl h,Nat.le_refl _⟩
    ·rintro i σ H' hi ⟨_,_,O2,zs,rfl,k1,_⟩
     exact⟨k1 dd _ hdd5 ndd,by rw[List.length_map];exact hi⟩
    ·rintro σ H' ⟨_,_,O2,zs,rfl,k1,_⟩
     exact⟨k1 dd _ hdd5 ndd,by rw[List.length_map];exact Nat.le_refl _⟩
    ·rintro i σ H' x0 H9 hi ⟨_,_,O2,zs,rfl,f1,f2,f3,f4,f5,f6,f7,f8⟩ ⟨T0,kk,v,s0,hkv,rfl,hT0,hs0,rfl⟩
     obtain⟨⟨s2,c2⟩,hsc,e⟩:=map_get hkv
     cases e
     have hsmem:=List.mem_of_getElem? hsc
     have al:∀c u,H' c=some u→(upd H' T0 (.tup [.ref s0,nV c2])) c=some u:=fun c u e=>by rw[upd_ne (ne_of_none e hT0)];exact e
     refine⟨T0,_,rfl,SqT.of upd_same,rfl,_,_,rfl,_,_,rfl,rfl,?_⟩
     have hs9:PlT (upd H' T0 (.tup [.ref s0,nV c2])) s0 s2:=al _ _ hs0
     have hd9:(upd H' T0 (.tup [.ref s0,nV c2])) d=some (.dT ((put F x n).map (eP nV))):=al _ _ (f1 d _ hd5 ndl)
     have hl9:=al _ _ f2
     have f19:∀c u,H5 c=some u→c≠l→(upd H' T0 (.tup [.ref s0,nV c2])) c=some u:=fun c u h n=>al _ _ (f1 c u h n)
     have hE9:Ents (upd H' T0 (.tup [.ref s0,nV c2])) 3 zs (O2.map gkey):=Ents.tups (fun c ws e=>al _ _ e) f3
     have ht9:(upd H' T0 (.tup [.ref s0,nV c2])) e0=some (.tup [nV n,.ref pp]):=f19 _ _ ht5 (ne_of ht5 hl5 fun z=>nomatch z)
     generalize upd H' T0 (.tup [.ref s0,nV c2])=H9 at*
     have hdg:DGet H9 d (.ref s0) (valV ((put F x n).map (eP nV)) (pk s2)):=DGet.t hd9 hs9
     rw[val_eP] at hdg
     have hEn:=prd_len hE9
     rw[List.length_map] at hEn
     have hInS:InP s2:=k2 s2 (List.mem_map.mpr ⟨_,hsmem,rfl⟩)
     cases eg:get (put F x n) s2 with
     |some y0=>
      rw[eg] at hdg
      refine⟨_,rfl,_,rfl,d,_,rfl,hdg,_,rfl,iteF ?_⟩
      refine⟨_,_,O2,zs,rfl,f19,hl9,hE9,f4,f5,fun s c h h'=> ?_,f7,by omega⟩
      rw[take_snoc hsc] at h
      rcases List.mem_append.mp h with h|h
      ·exact f6 s c h h'
      ·have:=List.mem_singleton.mp h
       cases this
       rw[eg] at h'
       cases h'
     |none=>
      rw[eg] at hdg
      refine⟨_,rfl,_,rfl,d,_,rfl,hdg,_,rfl,iteT ?_⟩
      refine⟨_,rfl,_,rfl,e0,_,_,_,rfl,rfl,SqT.of ht9,atI_nat (j:=0) rfl,_,rfl,_,_,rfl,rfl,_,rfl,by show 2≤sizeLine;decide,fun t1 ht1'=> ?_⟩
      have al1:∀c u,H9 c=some u→(upd H9 t1 (.tup [nV (n+c2),.ref s0])) c=some u:=fun c u e=>by rw[upd_ne (ne_of_none e ht1')];exact e
      have en:Ent (upd H9 t1 (.tup [nV (n+c2),.ref s0])) t1 (gkey (n+c2,s2)):=⟨_,_,_,s0,[],upd_same,al1 _ _ hs9,rfl⟩
      have hlO:zs.length<9000000:=by omega
      refine⟨l,t1,zs,O2.map gkey,gkey (n+c2,s2),3,rfl,al1 _ _ hl9,Ents.tups (fun c ws e=>al1 _ _ e) hE9,en,rfl,hlO,f4,fun ws es' q1 q2 q3 q4=> ?_⟩
      obtain⟨O3,rfl⟩:∃O3:List (Nat×Pl),es'=O3.map gkey:=keys_map fun e he=>by
       rcases(q3 e).mp he with h|h
       ·obtain⟨z,_,rfl⟩:=List.mem_map.mp h
        exact⟨z,rfl⟩
       ·exact⟨_,h⟩
      have mem:∀y,y∈O3↔y∈O2∨y=(n+c2,s2):=fun y=>by
       have:=q3 (gkey y)
       rw[List.mem_map,List.mem_map] at this
       constructor
       ·intro hy
        rcases this.mp ⟨y,hy,rfl⟩ with ⟨z,hz,e⟩|e
        ·rw[←gkey_inj _ _ e];exact .inl hz
        ·exact .inr (gkey_inj _ _ e)
       ·intro hy
        obtain⟨z,hz,e⟩:=this.mpr (hy.imp (fun h=>⟨y,h,rfl⟩) (fun h=>by rw[h]))
        rw[←gkey_inj _ _ e];exact hz
      rw[List.length_map,List.length_map] at q2
      refine⟨_,_,O3,ws,rfl,fun c u h n'=>by rw[upd_ne n'];exact al1 _ _ (f19 c u h n'),upd_same,Ents.tups (tup_upd (al1 _ _ hl9)) q1,q4,fun y hy=>(mem y).mpr (.inl (f5 y hy)),fun s c h h'=> ?_,fun y hy=> ?_,by omega⟩
      ·rw[take_snoc hsc] at h
       rcases List.mem_append.mp h with h|h
       ·exact(mem _).mpr (.inl (f6 s c h h'))
       ·have:=List.mem_singleton.mp h
        cases this
        exact(mem _).mpr (.inr rfl)
      ·rcases(mem y).mp hy with h|h
       ·exact f7 y h
       ·exact .inr ⟨s2,c2,hsmem,h⟩
    ·rintro σ H' ⟨_,_,O2,zs,rfl,f1,f2,f3,f4,f5,f6,f7,f8⟩
     have hddE:=f1 dd _ hdd5 ndd
     refine .inr ⟨dd,od,_,hddE,fun f0 x0 z=> ?_,?_⟩
     ·have:H4 dd=some (.frz f0 x0):=gp.fr dd _ z (fun _ _ q=>q)
      rw[hdd2] at this
      cases this
     ·have up:∀c u,H' c=some u→noFrz u=true→(upd H' dd (.dT ((E x).map (eP nV)))) c=some u:=fun c u e hu=>by
       rw[upd_ne (ne_of e hddE fun z=>by rw[z] at hu;cases hu)];exact e
      have sm:∀c u,H c=some u→(upd H' dd (.dT ((E x).map (eP nV)))) c=some u:=fun c u e=>by
       have e4':=g4.fr c u e (fun _ _ z=>z)
       by_cases z:c=dd
       ·rw[z,upd_same];rw[z,hdd2] at e4';exact e4'
       ·rw[upd_ne z]
        refine f1 c u ?_ (ne_of_none e hlH)
        rw[←hH5,upd_ne z];exact e4'
      refine⟨(128-(put F x n).length)*129+O2.length,?_,_,_,_,put F x n,O2,zs,rfl,Go.of_same ow sm,up _ _ (f1 d _ hd5 ndl) rfl,up _ _ f2 rfl,Ents.tups (fun c ws e=>up _ _ e rfl) f3,f4,
       D.take ef hy hle m1 m2 f5 (fun s c h h'=>f6 s c (by rw[List.take_length];exact h) h') f7,hF',hF'2,fun y hy=> ?_,?_,rfl⟩
      ·rw[hFl']
       have:(128-F.length)*129=(128-(F.length+1))*129+129:=by
        rw[←Nat.succ_mul];congr 1;omega
       omega
      ·rcases f7 y hy with h|⟨s,c,h,rfl⟩
       ·exact hO1 y (m2 y h)
       ·exact k2 s (List.mem_map.mpr ⟨_,h,rfl⟩)
      ·rw[hFl',Nat.add_mul];omega
  ·have h0:O= []:=by
    have:¬(0:Int)<(xs.length:Int):=fun z=>hb (decide_eq_true z)
    exact List.length_eq_zero_iff.mp (by omega)
   subst h0
   exact⟨_,rfl,q H1 d F g1 hd hd1 hF1 hF2 D.done⟩
end R
end
section
set_option maxHeartbeats 400000
namespace R
open PySem PySem.Spec PyProof.Rows L2
open KA (Pl InP get put)
open KTh (Kn Off Rec Cov Cl1 IsMin WF)
open KG (Stp stepsOf Eg EgAt Val GB GOk KOk)
open KL (Nn Mm Gd Ld In1)
variable {P:Program} {w:World} {K:PySem.W.Frag} {mg:Str→Option Value} {base:Heap} {a:Ad}
def DtR (o:Ow) (H:Hp) (c:Addr) (E:Pl→List (Pl×Nat)):Prop:=
 ∃L:List (Pl×Addr),H c=some (.dT (L.map (eP V.ref)))∧(L.map (·.1)).Nodup∧(∀k∈L.map (·.1),InP k)∧
  ∀k d,get L k=some d→o d=some (.dtD k)∧∃F:List (Pl×Nat),H d=some (.dT (F.map (eP nV)))∧∀x,IsMin (KD.Ph E k x) (get F x)
theorem DtR.go {S:Tag→Prop} {o o':Ow} {H H':Hp} {c:Addr} {E:Pl→List (Pl×Nat)} (h:DtR o H c E) (g:Go S o H o' H') (t:o c=some .dt) (n:¬S .dt) (n':∀k,¬S (.dtD k)):DtR o' H' c E:=by
 obtain⟨L,h1,h2,h3,h5⟩:=h
 refine⟨L,g.at h1 t n,h2,h3,fun k d e=> ?_⟩
 obtain⟨q1,F,q2,q3⟩:=h5 k d e
 exact⟨g.tag q1,F,g.at q2 q1 (n' k),q3⟩
theorem Go.tagN {S:Tag→Prop} {o:Ow} {H H':Hp} {d:Addr} {u:HO} (g:Go S o H o H') (hd:H d=none) (hu:H' d=some u) (h1:isTup u=false) (h2:noFrz u=true) (t:Tag):Go S o H (oput o d t) H' where
 own0:=g.own0
 ext:=fun b hb=>oput_ne fun z=>hb (by rw[z];exact hd)
 fr:=g.fr
 own:=fun b t' e=>by
  by_cases z:b=d
  ·rw[z];exact⟨u,hu,h1⟩
  ·rw[oput_ne z] at e;exact g.own b t' e
 uf:=fun b t' f v e q=>by
  by_cases z:b=d
  ·rw[z,hu] at q;cases q;cases h2
  ·rw[oput_ne z] at e;exact g.uf b t' f v e q
def SD (t:Tag):Prop:=t= .dt∨∃k,t= .dtD k
def spDist (a:Ad):Sp:=fun vs H Q _=>∃(G t0:Addr) (o:Ow) (ga:GA) (en cb:V) (E:Pl→List (Pl×Nat)) (cnt:Pl→Option Nat) (t:Pl),vs= [.ref G,.ref t0]∧Own o H∧Unf o H∧GX a.c_C1 o H G ga en cb E cnt∧o ga.dt=some .dt∧DtR o H ga.dt E∧PlT H t0 t∧InP t∧
 ∀(o':Ow) (H':Hp) (d:Addr) (F:List (Pl×Nat)),Go SD o H o' H'→DtR o' H' ga.dt E→o' d=some (.dtD t)→H' d=some (.dT (F.map (eP nV)))→(∀x,IsMin (KD.Ph E t x) (get F x))→Q (.ref d) H'
theorem ok_i (T:Txt K mg a):FnOk P w K mg base CX0 5 a.f_i a.d_i ["self","target"] (spDist a):=by
 have G_j:=ok_j (P:=P) (w:=w) (base:=base) T
 refine T.F_i.ok sc_i (fun vs H Q E h=> ?_) (fun cdv A outer s H vs Q E hr h=> ?_)
 ·obtain⟨G,t0,o,ga,en,cb,E,cnt,t,rfl,_⟩:=h
  rfl
 ·obtain⟨G,t0,o,ga,en,cb,E,cnt,t,rfl,ow,uf,hG,tdt,hD,ht,hT,q⟩:=h
  have hu:=hu_of hr
  refine⟨_,(pss_cons (ps_if (pt_cmp (pc_dnotin hu (pv 1) (pe_fld (pv 0) rfl))) (pss_one (ps_dput hu (pe_fld (pv 0) rfl) (pv 1) (pe_meth (pv 0) T.cl_C1 T.m_j G_j (hr.mono (by decide)) T.b_j .nil pass0 (pa_cons (pv 1) pa_nil)) rfl)) pss_nil)
   (pss_one (ps_ret (pe_dget hu (pe_fld (pv 0) rfl) (pv 1) (fun _ _=>rfl))))),?_⟩
  obtain⟨L,l1,l2,l3,l5⟩:=id hD
  have hLl:=len_dict l2 l3
  have hdg:DGet H ga.dt (.ref t0) (valV (L.map (eP V.ref)) (pk t)):=DGet.t l1 ht
  rw[val_eP] at hdg
  cases e:get L t with
  |some d=>
   rw[e] at hdg
   obtain⟨q1,F,q2,q3⟩:=l5 t d e
   refine⟨_,rfl,_,rfl,G,_,_,_,_,rfl,hG.obj,T.cl_C1,T.na_9,rfl,ga.dt,_,rfl,hdg,_,rfl,iteF ?_⟩
   refine⟨_,rfl,G,_,_,_,_,rfl,hG.obj,T.cl_C1,T.na_9,rfl,_,rfl,ga.dt,_,rfl,hdg,?_⟩
   exact q o H d F (Go.refl ow) hD q1 q2 q3
  |none=>
   rw[e] at hdg
   refine⟨_,rfl,_,rfl,G,_,_,_,_,rfl,hG.obj,T.cl_C1,T.na_9,rfl,ga.dt,_,rfl,hdg,_,rfl,iteT ?_⟩
   refine⟨_,rfl,G,ga.dx,_,rfl,hG.obj,rfl,_,rfl,G,t0,o,ga,en,cb,E,cnt,t,rfl,ow,uf,hG,ht,hT,fun H1 d F g1 hd0 hd1 _ _ hF=> ?_⟩
   have gt:Go SD o H (oput o d (.dtD t)) H1:=(g1.mono fun _ z=>z.elim).tagN hd0 hd1 rfl rfl _
   have hG1:=hG.go g1 (fun z=>z) (fun _ _ z=>z)
   have l1':=g1.at l1 tdt (fun z=>z)
   have hput:putK (L.map (eP V.ref)) (pk t) (.ref d)=(put L t d).map (eP V.ref):=put_eP V.ref L t d
   have ht1:PlT H1 t0 t:=g1.tup ht
   have hdp:DPut H1 ga.dt (.ref t0) (.ref d) (upd H1 ga.dt (.dT ((put L t d).map (eP V.ref)))):=by
    rw[←hput]
    exact DPut.t (k:=pk t) l1' ht1 (lt_size (by rw[List.length_map];omega))
   refine⟨_,rfl,G,_,_,_,_,rfl,hG1.obj,T.cl_C1,T.na_9,rfl,_,rfl,ga.dt,_,rfl,hdp,?_⟩
   have tdt':=gt.tag tdt
   have gs:Go SD (oput o d (.dtD t)) H1 (oput o d (.dtD t)) (upd H1 ga.dt (.dT ((put L t d).map (eP V.ref)))):=Go.set gt.own tdt' (.inl rfl) _ rfl rfl
   have gg:=gt.trans gs
   have nd:ga.dt≠d:=ne_of_none l1 hd0
   have hob:(upd H1 ga.dt (.dT ((put L t d).map (eP V.ref)))) G=some (.ins a.c_C1 ga.dx (gfs ga en cb)):=gg.at hG.obj hG.tG (fun z=>by rcases z with z|⟨_,z⟩<;>cases z)
   have hget:DGet (upd H1 ga.dt (.dT ((put L t d).map (eP V.ref)))) ga.dt (.ref t0) (valV ((put L t d).map (eP V.ref)) (pk t)):=DGet.t upd_same (gs.tup ht1)
   rw[val_eP,KA.get_put_same] at hget
   refine⟨_,rfl,G,_,_,_,_,rfl,hob,T.cl_C1,T.na_9,rfl,_,rfl,ga.dt,_,rfl,hget,?_⟩
   have hd2:(upd H1 ga.dt (.dT ((put L t d).map (eP V.ref)))) d=some (.dT (F.map (eP nV))):=by rw[upd_ne nd.symm];exact hd1
   refine q _ _ d F gg ⟨put L t d,upd_same,KA.nd_put l2,fun k hk=> ?_,fun k d' e'=> ?_⟩ oput_same hd2 hF
   ·rcases KA.keys_put.mp hk with rfl|hk
    ·exact hT
    ·exact l3 k hk
   ·rw[KA.get_put] at e'
    by_cases z:k=t
    ·rw[if_pos z] at e'
     cases e'
     rw[z]
     exact⟨oput_same,F,hd2,hF⟩
    ·rw[if_neg z] at e'
     obtain⟨r1,F',r2,r3⟩:=l5 k d' e'
     refine⟨gt.tag r1,F',?_,r3⟩
     have n2:d'≠ga.dt:=fun q=>by rw[q,tdt] at r1;cases r1
     rw[upd_ne n2]
     exact g1.at r2 r1 (fun z=>z)
noncomputable def bT (_:Unit):V:= .bl true
def spLead (a:Ad):Sp:=fun vs H Q _=>∃(G l0:Addr) (o:Ow) (ga:GA) (en cb:V) (E:Pl→List (Pl×Nat)) (cnt:Pl→Option Nat) (X:List (Pl×Pl)) (Tt:Pl→Nat→Pl→Prop) (xs:List V) (last:List Pl),vs= [.ref G,.ref l0]∧Own o H∧Unf o H∧GX a.c_C1 o H G ga en cb E cnt∧GB Tt E X cnt∧
 H l0=some (.lst xs)∧Paired (ElP H) xs last∧last.Nodup∧(∀x∈last,InP x)∧(∀x∈last,Nn X x=0)∧
 ∀(H':Hp) (d:Addr) (F:List (Pl×Unit)),Go S0 o H o H'→H d=none→H' d=some (.dT (F.map (eP bT)))→(∀x,x∈F.map (·.1)↔Gd X last x)→Q (.ref d) H'
theorem GB.keys {Tt:Pl→Nat→Pl→Prop} {E:Pl→List (Pl×Nat)} {X:List (Pl×Pl)} {cnt:Pl→Option Nat} (h:GB Tt E X cnt) (s f:Pl):s∈(E f).map (·.1)↔(s,f)∈X:=by
 rw[KA.get_some,h.mX]
 have:=h.mn f s
 cases e:get (E f) s with
 |none=>rw[e] at this;exact⟨fun⟨x,z⟩=>(by cases z),fun⟨c,z⟩=>absurd z (this c)⟩
 |some c=>rw[e] at this;exact⟨fun _=>⟨c,this.1⟩,fun _=>⟨c,rfl⟩⟩
theorem small_len {zs:List V} {A:List Pl} {L:List (Pl×Nat)} {i:Nat} {f:Pl→Bool} (h:zs.length=(A++((L.map (·.1)).take i).filter f).length) (hA:A.length≤128) (hL:L.length≤128):zs.length≤1000:=by
 rw[h,List.length_append]
 have h1:(((L.map (·.1)).take i).filter f).length≤128:=by
  refine Nat.le_trans (List.length_filter_le _ _) ?_
  rw[List.length_take,List.length_map]
  omega
 omega
theorem filt_in {S A:List Pl} {i:Nat} {s2:Pl} {f:Pl→Bool} (h:S[i]?=some s2) (hf:f s2=true):A++(S.take (i+1)).filter f=(A++(S.take i).filter f)++ [s2]:=by
 rw[take_snoc h,List.filter_append,List.append_assoc]
 congr 2
 rw[List.filter_cons,if_pos hf,List.filter_nil]
theorem filt_out {S A:List Pl} {i:Nat} {s2:Pl} {f:Pl→Bool} (h:S[i]?=some s2) (hf:f s2=false):A++(S.take (i+1)).filter f=A++(S.take i).filter f:=by
 rw[take_snoc h,List.filter_append,List.filter_cons,if_neg (by rw[hf];exact Bool.false_ne_true),List.filter_nil,List.append_nil]
theorem ok_m (T:Txt K mg a):FnOk P w K mg base CX0 1 a.f_m a.d_m ["self","last"] (spLead a):=by
 refine T.F_m.ok sc_m (fun vs H Q E h=> ?_) (fun cdv A outer s H vs Q E hr h=> ?_)
 ·obtain⟨G,l0,o,ga,en,cb,E,cnt,X,Tt,xs,last,rfl,_⟩:=h
  rfl
 ·obtain⟨G,l0,o,ga,en,cb,E,cnt,X,Tt,xs0,last,rfl,ow,uf,hG,hGB,hl0,hP0,hln,hlI,hlN,q⟩:=h
  have hu:=hu_of hr
  refine⟨_,(pss_cons (ps_set (i:=2) sc_m.nd rfl (Or.inl rfl) pe_dnewT)
   (pss_cons (ps_set (i:=3) sc_m.nd rfl (Or.inl rfl) (pe_callTy call_dictT (by rfl) T.z_dict (by decide +kernel) (pa_cons (pe_fld (pv 0) rfl) pa_nil)))
   (pss_cons (ps_set (i:=4) sc_m.nd rfl (Or.inl rfl) (pe_callTy call_list_of (by rfl) T.z_list (by decide +kernel) (pa_cons (pv 1) pa_nil)))
   (pss_cons (ps_while PassesOwn.never (pt_cmpR op_gt (pe_callB call_len_seq (by rfl) T.z_len PySem.boot_len (pa_cons (pv 4) pa_nil)) pe_int (nomark _)) (pss_cons (ps_set (i:=5) sc_m.nd rfl (Or.inl rfl) (pe_bm0 PySem.F.plainAttrs_list PySem.F.slot_list_pop PySem.F.type_list_pop mt_pop (pv 4)))
   (pss_cons (ps_dput hu (pv 2) (pv 5) pe_bl rfl)
   (pss_one (ps_unl (ps_for PassesOwn.never rfl (pi_keysL (pe_dget2 hu (pe_fld (pv 0) rfl) (pv 5) pe_dnewT ⟨rfl,rfl,rfl,rfl⟩)) (pg_name (i:=6) sc_m.nd rfl (Or.inl rfl)) (pss_cons (ps_daug hu (pv 3) (pv 6) pe_int in_sub (fun _ _ _=>rfl))
   (pss_one (ps_if (pt_cmpR op_eq (pe_dget hu (pv 3) (pv 6) (fun _ _=>rfl)) pe_int (nomark _)) (pss_one (ps_expr (pe_bm PySem.F.plainAttrs_list PySem.F.slot_list_append PySem.F.type_list_append mt_append (pv 4) (pa_cons (pv 6) pa_nil)))) pss_nil)))))))))
   (pss_one (ps_ret (pv 2))))))),?_⟩
  intro d hd
  have s1:∀c u,H c=some u→(upd H d (.dT [])) c=some u:=fun c u e=>by rw[upd_ne (ne_of_none e hd)];exact e
  obtain⟨Lc,c1,c2,c3,c4⟩:=hG.ec
  refine⟨_,rfl,G,_,_,_,_,rfl,s1 _ _ hG.obj,T.cl_C1,T.na_8,rfl,ga.ec,_,rfl,.inl (s1 _ _ c1),fun p hp=> ?_,fun lf hlf=> ?_⟩
  ·obtain⟨⟨k,n⟩,hk,rfl⟩:=List.mem_map.mp hp
   exact⟨k,c3 k (List.mem_map.mpr ⟨_,hk,rfl⟩),rfl⟩
  have s2:∀c u,(upd H d (.dT [])) c=some u→(upd (upd H d (.dT [])) lf (.dT (Lc.map (eP nV)))) c=some u:=fun c u e=>by rw[upd_ne (ne_of_none e hlf)];exact e
  refine⟨_,rfl,l0,_,rfl,.inl (SqL.of (s2 _ _ (s1 _ _ hl0))),fun ah hah=> ?_⟩
  have s3:∀c u,(upd (upd H d (.dT [])) lf (.dT (Lc.map (eP nV)))) c=some u→(upd (upd (upd H d (.dT [])) lf (.dT (Lc.map (eP nV)))) ah (.lst xs0)) c=some u:=fun c u e=>by rw[upd_ne (ne_of_none e hah)];exact e
  have hd3:=s3 _ _ (s2 d (.dT []) upd_same)
  have hlf3:=s3 lf (.dT (Lc.map (eP nV))) upd_same
  have hah3:(upd (upd (upd H d (.dT [])) lf (.dT (Lc.map (eP nV)))) ah (.lst xs0)) ah=some (.lst xs0):=upd_same
  have sm:∀c u,H c=some u→(upd (upd (upd H d (.dT [])) lf (.dT (Lc.map (eP nV)))) ah (.lst xs0)) c=some u:=fun c u e=>s3 _ _ (s2 _ _ (s1 _ _ e))
  have ndlf:d≠lf:=ne_of_none (s2 d (.dT []) upd_same|>fun _=>(upd_same:(upd H d (.dT [])) d=some (.dT []))) hlf
  have hlfH:H lf=none:=by
   cases e:H lf with
   |none=>rfl
   |some u=>have:=s1 _ _ e;rw[hlf] at this;cases this
  have hahH:H ah=none:=by
   cases e:H ah with
   |none=>rfl
   |some u=>have:=s2 _ _ (s1 _ _ e);rw[hah] at this;cases this
  generalize upd (upd (upd H d (.dT [])) lf (.dT (Lc.map (eP nV)))) ah (.lst xs0)=H3 at*
  have ndah:d≠ah:=ne_of hd3 hah3 (fun z=>nomatch z)
  have nlfah:lf≠ah:=ne_of hlf3 hah3 (fun z=>nomatch z)
  refine⟨fun m σ H'=>∃(x5 x6:Option V) (F:List (Pl×Unit)) (Lf:List (Pl×Nat)) (A:List Pl) (xs:List V),σ= [some (.ref G),some (.ref l0),some (.ref d),some (.ref lf),some (.ref ah),x5,x6]∧(∀c u,H c=some u→H' c=some u)∧H' d=some (.dT (F.map (eP bT)))∧H' lf=some (.dT (Lf.map (eP nV)))∧H' ah=some (.lst xs)∧
    Paired (ElP H') xs A∧Ld X last (F.map (·.1)) A (get Lf)∧(Lf.map (·.1)).Nodup∧(∀k∈Lf.map (·.1),InP k)∧(∀k∈A++F.map (·.1),InP k)∧m=128-F.length,
   ⟨_,_,_,[],Lc,last,xs0,rfl,sm,hd3,hlf3,hah3,Paired.mapP hP0 fun x y z=>tups_P _ _ (fun b zs e=>sm _ _ e) x y z,?_,c2,c3,fun k hk=> ?_,rfl⟩,?_⟩
  ·have:=Ld.start (X:=X) hln
   have e1:(fun s=>if Nn X s=0 then none else some (Nn X s))=get Lc:=funext fun s=>by rw[c4,hGB.ct]
   rw[e1] at this
   exact this
  ·rw[List.map_nil,List.append_nil] at hk;exact hlI k hk
  clear hd3 hlf3 hah3 s1 s2 s3 sm hah hlf
  rintro m σ H1 ⟨x5,x6,F,Lf,A,xs,rfl,sm,hd1,hlf1,hah1,hP,L,hL1,hL2,hI,rfl⟩
  have hlen:=prd_len hP
  have hnd:=L.nd
  have hsum:(A++F.map (·.1)).length≤128:=KA.len_pl hnd hI
  rw[List.length_append,List.length_map] at hsum
  refine⟨_,rfl,ah,_,rfl,.inl (SqL.of hah1),_,_,rfl,rfl,_,rfl,ite2 (fun hb=> ?_) (fun hb=> ?_)⟩
  ·have hpos:0<A.length:=by
    have:(0:Int)<(xs.length:Int):=of_decide_eq_true hb
    omega
   obtain⟨A',pl,rfl⟩:∃A' pl,A=A'++ [pl]:=⟨A.dropLast,A.getLast (by intro z;rw[z] at hpos;exact absurd hpos (by decide)),(List.dropLast_concat_getLast _).symm⟩
   have hsumA:A'.length+1+F.length≤128:=by
    have e:(A'++ [pl]).length=A'.length+1:=by simp
    omega
   obtain⟨x,hx,p0,rfl,hp0⟩:=prd_at hP (d:=(0,0)) (i:=(A'++ [pl]).length-1) (by omega)
   have hlast:(A'++ [pl]).getD ((A'++ [pl]).length-1) (0,0)=pl:=by simp [List.getD_eq_getElem?_getD]
   rw[hlast] at hp0
   have hx':xs[xs.length-1]?=some (V.ref p0):=by rw[hlen];exact hx
   have hDr:=prd_dropLast hP
   rw[List.dropLast_concat] at hDr
   refine⟨_,fun σ' H' h=>⟨128-(F.length+1),by omega,h⟩,?_⟩
   refine⟨_,rfl,.inl ⟨rfl,_,SqL.of hah1⟩,ah,xs,_,rfl,rfl,hah1,hx',?_⟩
   have tu2:=tup_upd (ys:=xs.dropLast) hah1
   have hd2:(upd H1 ah (.lst xs.dropLast)) d=some (.dT (F.map (eP bT))):=by rw[upd_ne ndah];exact hd1
   have hp2:PlT (upd H1 ah (.lst xs.dropLast)) p0 pl:=tu2 _ _ hp0
   have hFl:F.length≤128:=by omega
   have hInPl:InP pl:=hI pl (by simp)
   have hplF:pl∉F.map (·.1):=by
    have h1:=hnd
    rw[List.append_assoc,List.nodup_append] at h1
    have h1:=h1.2.1
    rw[List.singleton_append,List.nodup_cons] at h1
    exact h1.1
   have hput:putK (F.map (eP bT)) (pk pl) (.bl true)=(put F pl ()).map (eP bT):=put_eP bT F pl ()
   have hdp:DPut (upd H1 ah (.lst xs.dropLast)) d (.ref p0) (.bl true) (upd (upd H1 ah (.lst xs.dropLast)) d (.dT ((put F pl ()).map (eP bT)))):=by
    rw[←hput]
    exact DPut.t (k:=pk pl) hd2 hp2 (lt_size (by rw[List.length_map];omega))
   refine⟨_,rfl,_,rfl,d,_,rfl,hdp,?_⟩
   have hF':put F pl ()=F++ [(pl,())]:=KA.put_new () (KA.get_none.mpr hplF)
   have tu3:∀c zs,(upd H1 ah (.lst xs.dropLast)) c=some (.tup zs)→(upd (upd H1 ah (.lst xs.dropLast)) d (.dT ((put F pl ()).map (eP bT)))) c=some (.tup zs):=fun c zs e=>by rw[upd_ne (ne_of e hd2 fun z=>nomatch z)];exact e
   have hd3:(upd (upd H1 ah (.lst xs.dropLast)) d (.dT ((put F pl ()).map (eP bT)))) d=some (.dT ((put F pl ()).map (eP bT))):=upd_same
   have hah3:(upd (upd H1 ah (.lst xs.dropLast)) d (.dT ((put F pl ()).map (eP bT)))) ah=some (.lst xs.dropLast):=by rw[upd_ne ndah.symm,upd_same]
   have hlf3:(upd (upd H1 ah (.lst xs.dropLast)) d (.dT ((put F pl ()).map (eP bT)))) lf=some (.dT (Lf.map (eP nV))):=by rw[upd_ne ndlf.symm,upd_ne nlfah];exact hlf1
   have sm3:∀c u,H c=some u→(upd (upd H1 ah (.lst xs.dropLast)) d (.dT ((put F pl ()).map (eP bT)))) c=some u:=fun c u e=>by
    rw[upd_ne (ne_of_none e hd),upd_ne (ne_of_none e hahH)];exact sm c u e
   have hp3:PlT (upd (upd H1 ah (.lst xs.dropLast)) d (.dT ((put F pl ()).map (eP bT)))) p0 pl:=tu3 _ _ hp2
   have hP3:Paired (ElP (upd (upd H1 ah (.lst xs.dropLast)) d (.dT ((put F pl ()).map (eP bT))))) xs.dropLast A':=Paired.mapP hDr fun x y z=>tups_P _ _ (fun b zs e=>tu3 _ _ (tu2 _ _ e)) x y z
   generalize upd (upd H1 ah (.lst xs.dropLast)) d (.dT ((put F pl ()).map (eP bT)))=H3 at*
   have g3:=Go.of_same ow sm3
   have hG3:=hG.go g3 (fun z=>z) (fun _ _ z=>z)
   obtain⟨k1,k2⟩:=hG3.ei.keys pl
   obtain⟨Le,e1,e2,e3,e4,e5⟩:=id hG3.ei
   refine⟨_,rfl,G,_,_,_,_,rfl,hG3.obj,T.cl_C1,T.na_7,rfl,ga.ei,rfl,.inr ⟨_,.inl e1⟩,_,rfl,fun p hp=>⟨_,DGet.t (kvs:=Le.map (eP V.ref)) (k:=pk pl) (by rw[upd_ne (ne_of_none e1 hp)];exact e1) (by rw[upd_ne (ne_of_none hp3 hp)];exact hp3),?_⟩⟩
   rw[val_eP]
   have al:∀c u,H3 c=some u→(upd H3 p (.dT [])) c=some u:=fun c u e=>by rw[upd_ne (ne_of_none e hp)];exact e
   have hdd:∃dd:Addr,((get Le pl).map V.ref).getD (.ref p)= .ref dd∧(upd H3 p (.dT [])) dd=some (.dT ((E pl).map (eP nV)))∧dd≠d∧dd≠lf:=by
    cases ee:get Le pl with
    |none=>
     refine⟨p,rfl,?_,(ne_of_none hd3 hp).symm,(ne_of_none hlf3 hp).symm⟩
     rw[e4 pl ee];exact upd_same
    |some dd=>
     obtain⟨q1,q2,_⟩:=e5 pl dd ee
     refine⟨dd,rfl,al _ _ q2,fun z=> ?_,fun z=> ?_⟩
     ·rw[z,ow.free hd] at q1;cases q1
     ·rw[z,ow.free hlfH] at q1;cases q1
   obtain⟨dd,hdd1,hdd2,ndd1,ndd2⟩:=hdd
   rw[hdd1]
   have hd4:=al _ _ hd3
   have hah4:=al _ _ hah3
   have hlf4:=al _ _ hlf3
   have sm4:∀c u,H c=some u→(upd H3 p (.dT [])) c=some u:=fun c u e=>al _ _ (sm3 c u e)
   have hP4:Paired (ElP (upd H3 p (.dT []))) xs.dropLast A':=Paired.mapP hP3 fun x y z=>tups_P _ _ (fun b zs e=>al _ _ e) x y z
   generalize upd H3 p (.dT [])=H4 at*
   refine⟨dd,_,rfl,.inr ⟨hdd2,fun od=> ?_⟩⟩
   have lk:Lkd dd (.dT ((E pl).map (eP nV))) od H4 (upd H4 dd (.frz od (.dT ((E pl).map (eP nV))))):=⟨upd_same,.inr ⟨hdd2,rfl⟩⟩
   have tu5:∀c zs,H4 c=some (.tup zs)→(upd H4 dd (.frz od (.dT ((E pl).map (eP nV))))) c=some (.tup zs):=fun c zs e=>lk.tup rfl e
   have hd5:(upd H4 dd (.frz od (.dT ((E pl).map (eP nV))))) d=some (.dT ((put F pl ()).map (eP bT))):=by rw[upd_ne ndd1.symm];exact hd4
   have hlf5:(upd H4 dd (.frz od (.dT ((E pl).map (eP nV))))) lf=some (.dT (Lf.map (eP nV))):=by rw[upd_ne ndd2.symm];exact hlf4
   have hah5:(upd H4 dd (.frz od (.dT ((E pl).map (eP nV))))) ah=some (.lst xs.dropLast):=lk.keep hah4 (fun z=>nomatch z)
   have hdd5:=lk.1
   have hP5:Paired (ElP (upd H4 dd (.frz od (.dT ((E pl).map (eP nV)))))) xs.dropLast A':=Paired.mapP hP4 fun x y z=>tups_P _ _ tu5 x y z
   generalize hH5:upd H4 dd (.frz od (.dT ((E pl).map (eP nV))))=H5 at*
   have ndd3:dd≠ah:=ne_of hdd5 hah5 (fun z=>nomatch z)
   have hSk:∀s,s∈(E pl).map (·.1)↔(s,pl)∈X:=fun s=>GB.keys hGB s pl
   refine for_it (n:=(E pl).length) (fun i σ H'=>∃(x6:Option V) (Lf':List (Pl×Nat)) (zs:List V),σ= [some (.ref G),some (.ref l0),some (.ref d),some (.ref lf),some (.ref ah),some (.ref p0),x6]∧(∀c u,H5 c=some u→c≠lf→c≠ah→H' c=some u)∧H' lf=some (.dT (Lf'.map (eP nV)))∧(Lf'.map (·.1)).Nodup∧(∀k∈Lf'.map (·.1),InP k)∧
     In1 X (F.map (·.1)) pl (((E pl).map (·.1)).take i) (get Lf')∧H' ah=some (.lst zs)∧Paired (ElP H') zs (A'++(((E pl).map (·.1)).take i).filter fun s=>decide (Mm X (F.map (·.1)++ [pl]) s=0))) ?_ ?_ ?_ ?_ ?_
   ·refine⟨_,Lf,xs.dropLast,rfl,fun c u h _ _=>h,hlf5,hL1,hL2,⟨fun s=> ?_⟩,hah5,by rw[List.take_zero,List.filter_nil,List.append_nil];exact hP5⟩
    rw[L.cnt s]
    simp
   ·rintro i σ H' hi ⟨_,Lf',zs,rfl,f1,_⟩
    exact⟨f1 dd _ hdd5 ndd2 ndd3,by rw[List.length_map];exact hi⟩
   ·rintro σ H' ⟨_,Lf',zs,rfl,f1,_⟩
    exact⟨f1 dd _ hdd5 ndd2 ndd3,by rw[List.length_map];exact Nat.le_refl _⟩
   ·rintro i σ H' x0 H9 hi ⟨_,Lf',zs,rfl,f1,f2,f3,f4,f5,f6,f7⟩ ⟨rfl,kk,v,s0,hkv,rfl,hs0⟩
    obtain⟨⟨s2,c2'⟩,hsc,e⟩:=map_get hkv
    cases e
    have hs2:((E pl).map (·.1))[i]?=some s2:=by rw[List.getElem?_map,hsc];rfl
    have hmem:s2∈(E pl).map (·.1):=List.mem_of_getElem? hs2
    have hnot:s2∉((E pl).map (·.1)).take i:=fun hin=>by
     obtain⟨j,hj⟩:=List.mem_iff_getElem?.mp hin
     rw[List.getElem?_take] at hj
     split at hj
     ·rename_i hji
      have:=nd_ix k1 hj hs2
      omega
     ·cases hj
    obtain⟨n1,n2⟩:=f5.next hGB.ndX hplF ((hSk s2).mp hmem) hnot
    have hdg:DGet H9 lf (.ref s0) (valV (Lf'.map (eP nV)) (pk s2)):=DGet.t f2 hs0
    rw[val_eP,n1] at hdg
    have hLl:=len_dict f3 f4
    have hput2:putK (Lf'.map (eP nV)) (pk s2) (nV (Mm X (F.map (·.1)++ [pl]) s2))=(put Lf' s2 (Mm X (F.map (·.1)++ [pl]) s2)).map (eP nV):=put_eP nV Lf' s2 _
    have hdp2:DPut H9 lf (.ref s0) (nV (Mm X (F.map (·.1)++ [pl]) s2)) (upd H9 lf (.dT ((put Lf' s2 (Mm X (F.map (·.1)++ [pl]) s2)).map (eP nV)))):=by
     rw[←hput2]
     exact DPut.t (k:=pk s2) f2 hs0 (lt_size (by rw[List.length_map];omega))
    have hdp3:DPut H9 lf (.ref s0) (V.int (((Mm X (F.map (·.1)++ [pl]) s2+1:Nat):Int)-1)) (upd H9 lf (.dT ((put Lf' s2 (Mm X (F.map (·.1)++ [pl]) s2)).map (eP nV)))):=by
     have:((Mm X (F.map (·.1)++ [pl]) s2+1:Nat):Int)-1=(Mm X (F.map (·.1)++ [pl]) s2:Int):=by omega
     rw[this];exact hdp2
    have hInS:InP s2:=k2 s2 hmem
    refine⟨_,rfl,_,rfl,lf,_,rfl,hdg,_,_,rfl,rfl,_,hdp3,?_⟩
    have tu9:∀c zs,H9 c=some (.tup zs)→(upd H9 lf (.dT ((put Lf' s2 (Mm X (F.map (·.1)++ [pl]) s2)).map (eP nV)))) c=some (.tup zs):=fun c zs e=>by rw[upd_ne (ne_of e f2 fun z=>nomatch z)];exact e
    have hlf10:(upd H9 lf (.dT ((put Lf' s2 (Mm X (F.map (·.1)++ [pl]) s2)).map (eP nV)))) lf=some (.dT ((put Lf' s2 (Mm X (F.map (·.1)++ [pl]) s2)).map (eP nV))):=upd_same
    have hah10:(upd H9 lf (.dT ((put Lf' s2 (Mm X (F.map (·.1)++ [pl]) s2)).map (eP nV)))) ah=some (.lst zs):=by rw[upd_ne nlfah.symm];exact f6
    have f10:∀c u,H5 c=some u→c≠lf→c≠ah→(upd H9 lf (.dT ((put Lf' s2 (Mm X (F.map (·.1)++ [pl]) s2)).map (eP nV)))) c=some u:=fun c u h h1 h2=>by rw[upd_ne h1];exact f1 c u h h1 h2
    have hs10:PlT (upd H9 lf (.dT ((put Lf' s2 (Mm X (F.map (·.1)++ [pl]) s2)).map (eP nV)))) s0 s2:=tu9 _ _ hs0
    have hP10:=Paired.mapP f7 fun x y z=>tups_P _ _ tu9 x y z
    generalize upd H9 lf (.dT ((put Lf' s2 (Mm X (F.map (·.1)++ [pl]) s2)).map (eP nV)))=H10 at*
    have hdg2:DGet H10 lf (.ref s0) (valV ((put Lf' s2 (Mm X (F.map (·.1)++ [pl]) s2)).map (eP nV)) (pk s2)):=DGet.t hlf10 hs10
    rw[val_eP,KA.get_put_same] at hdg2
    have hnd':((put Lf' s2 (Mm X (F.map (·.1)++ [pl]) s2)).map (·.1)).Nodup:=KA.nd_put f3
    have hin':∀k∈(put Lf' s2 (Mm X (F.map (·.1)++ [pl]) s2)).map (·.1),InP k:=fun k hk=>by
     rcases KA.keys_put.mp hk with rfl|hk
     ·exact hInS
     ·exact f4 k hk
    have hin1:In1 X (F.map (·.1)) pl (((E pl).map (·.1)).take (i+1)) (get (put Lf' s2 (Mm X (F.map (·.1)++ [pl]) s2))):=by
     rw[take_snoc hs2]
     have e1:get (put Lf' s2 (Mm X (F.map (·.1)++ [pl]) s2))=fun j=>if j=s2 then some (Mm X (F.map (·.1)++ [pl]) s2) else get Lf' j:=funext fun j=>KA.get_put _ _ _ _
     rw[e1];exact n2
    refine⟨_,rfl,_,rfl,lf,_,rfl,hdg2,rfl,_,rfl,ite2 (fun hz=> ?_) (fun hz=> ?_)⟩
    ·have hz:Mm X (F.map (·.1)++ [pl]) s2=0:=by
      have:=of_decide_eq_true hz
      injection this with this
      omega
     have hzb:zs.length≤1000:=small_len (prd_len hP10) (by omega) (len_dict k1 k2)
     refine⟨_,rfl,.inl ⟨rfl,_,SqL.of hah10⟩,_,rfl,ah,zs,_,rfl,rfl,hah10,lt_size hzb,?_⟩
     have tu11:=tup_upd (ys:=zs++ [V.ref s0]) hah10
     refine⟨_,_,zs++ [.ref s0],rfl,fun c u h h1 h2=>by rw[upd_ne h2];exact f10 c u h h1 h2,by rw[upd_ne nlfah];exact hlf10,hnd',hin',hin1,upd_same,?_⟩
     have hfin:=prd_app (Paired.mapP hP10 fun x y z=>tups_P _ _ tu11 x y z) (.cons (show ElP _ (V.ref s0) s2 from⟨s0,rfl,tu11 _ _ hs10⟩) .nil)
     exact(filt_in (A:=A') (f:=fun s=>decide (Mm X (F.map (·.1)++ [pl]) s=0)) hs2 (decide_eq_true hz))▸hfin
    ·have hz:¬Mm X (F.map (·.1)++ [pl]) s2=0:=fun z=>hz (by rw[z];rfl)
     refine⟨_,_,zs,rfl,f10,hlf10,hnd',hin',hin1,hah10,?_⟩
     exact(filt_out (A:=A') (f:=fun s=>decide (Mm X (F.map (·.1)++ [pl]) s=0)) hs2 (decide_eq_false hz))▸hP10
   ·rintro σ H' ⟨_,Lf',zs,rfl,f1,f2,f3,f4,f5,f6,f7⟩
    have hddE:=f1 dd _ hdd5 ndd2 ndd3
    refine .inr ⟨dd,od,_,hddE,fun f0 x0 z=> ?_,?_⟩
    ·have:H4 dd=some (.frz f0 x0):=al _ _ z
     rw[hdd2] at this
     cases this
    ·have up:∀c u,H' c=some u→noFrz u=true→(upd H' dd (.dT ((E pl).map (eP nV)))) c=some u:=fun c u e hu=>by
      rw[upd_ne (ne_of e hddE fun z=>by rw[z] at hu;cases hu)];exact e
     have sm':∀c u,H c=some u→(upd H' dd (.dT ((E pl).map (eP nV)))) c=some u:=fun c u e=>by
      have e4':=sm4 c u e
      by_cases z:c=dd
      ·rw[z,upd_same];rw[z,hdd2] at e4';exact e4'
      ·rw[upd_ne z]
       refine f1 c u ?_ (ne_of_none e hlfH) (ne_of_none e hahH)
       rw[←hH5,upd_ne z];exact e4'
     have hstep:=L.step (S:=(E pl).map (·.1)) hGB.ndX hlN k1 hSk (lf':=get Lf') (by
      have:=f5
      rw[show (E pl).length=((E pl).map (·.1)).length from(List.length_map _).symm,List.take_length] at this
      exact this)
     have hkeys:(put F pl ()).map (·.1)=F.map (·.1)++ [pl]:=by rw[hF',List.map_append];rfl
     refine⟨_,_,put F pl (),Lf',_,zs,rfl,sm',up _ _ (f1 d _ hd5 ndlf ndah) rfl,up _ _ f2 rfl,up _ _ f6 rfl,Paired.mapP f7 fun x y z=>tups_P _ _ (fun b ws e=>up _ _ e rfl) x y z,?_,f3,f4,fun k hk=> ?_,by rw[hF',List.length_append];rfl⟩
     ·rw[hkeys]
      rw[show (E pl).length=((E pl).map (·.1)).length from(List.length_map _).symm,List.take_length]
      exact hstep
     ·rw[hkeys] at hk
      simp only[List.mem_append,List.mem_filter,List.mem_singleton] at hk
      rcases hk with (hk|⟨hk,_⟩)|(hk|rfl)
      ·exact hI k (List.mem_append_left _ (List.mem_append_left _ hk))
      ·exact k2 k (List.mem_of_mem_take hk)
      ·exact hI k (List.mem_append_right _ hk)
      ·exact hInPl
  ·have h0:A= []:=by
    have:¬(0:Int)<(xs.length:Int):=fun z=>hb (decide_eq_true z)
    exact List.length_eq_zero_iff.mp (by omega)
   subst h0
   exact⟨_,rfl,q H1 d F (Go.of_same ow sm) hd hd1 L.done⟩
end R
end
section
set_option maxHeartbeats 400000
namespace R
open PySem PySem.Spec PyProof.Rows L2
open KA (Pl InP get put)
open KTh (Kn Off Rec Cov Cl1 IsMin WF)
open KG (Stp stepsOf Eg EgAt Val GB GOk KOk)
open KL (Nn Mm Gd Ld In1)
variable {P:Program} {w:World} {K:PySem.W.Frag} {mg:Str→Option Value} {base:Heap} {a:Ad}
def EnR (o:Ow) (H:Hp) (v:V) (t:Tag) (Ps:Pl→Prop):Prop:=v= .non∨∃(d:Addr) (F:List (Pl×Unit)),v= .ref d∧o d=some t∧H d=some (.dT (F.map (eP bT)))∧∀x,x∈F.map (·.1)↔Ps x
theorem EnR.go {S:Tag→Prop} {o o':Ow} {H H':Hp} {v:V} {t:Tag} {Ps:Pl→Prop} (h:EnR o H v t Ps) (g:Go S o H o' H') (n:¬S t):EnR o' H' v t Ps:=by
 rcases h with h|⟨d,F,h1,h2,h3,h4⟩
 ·exact .inl h
 ·exact .inr ⟨d,F,h1,g.tag h2,g.at h3 h2 n,h4⟩
noncomputable def lastP (places:List Pl) (cnt:Pl→Option Nat):List Pl:=places.filter fun k=>(cnt k).isNone
def Sen (t:Tag):Prop:=t= .gr∨t= .en
def Scb (t:Tag):Prop:=t= .gr∨t= .cb
theorem Gx_fld {S:Tag→Prop} {cG:Addr} {o o':Ow} {H H':Hp} {G:Addr} {ga:GA} {en cb en' cb':V} {E:Pl→List (Pl×Nat)} {cnt:Pl→Option Nat} (h:GX cG o H G ga en cb E cnt) (g:Go S o H o' H') (n':∀t,SE t→¬S t) (hob:H' G=some (.ins cG ga.dx (gfs ga en' cb'))):GX cG o' H' G ga en' cb' E cnt:=
 ⟨hob,g.tag h.tG,g.tag h.ti,g.tag h.tc,h.ei.go g h.ti (n' _ (.inl rfl)) (fun k=>n' _ (.inr (.inl ⟨k,rfl⟩))),h.ec.go g h.tc (n' _ (.inr (.inr rfl)))⟩
def spEnding (a:Ad):Sp:=fun vs H Q _=>∃(G:Addr) (o:Ow) (ga:GA) (en cb:V) (E:Pl→List (Pl×Nat)) (cnt:Pl→Option Nat) (X:List (Pl×Pl)) (Tt:Pl→Nat→Pl→Prop) (xs:List V) (places:List Pl),vs= [.ref G]∧Own o H∧Unf o H∧GX a.c_C1 o H G ga en cb E cnt∧GB Tt E X cnt∧
 o ga.pl=some .pl∧H ga.pl=some (.lst xs)∧Paired (ElP H) xs places∧places.Nodup∧(∀x∈places,InP x)∧EnR o H en .en (Gd X (lastP places cnt))∧
 ∀(o':Ow) (H':Hp) (d:Addr) (F:List (Pl×Unit)),Go Sen o H o' H'→GX a.c_C1 o' H' G ga (.ref d) cb E cnt→o' d=some .en→H' d=some (.dT (F.map (eP bT)))→(∀x,x∈F.map (·.1)↔Gd X (lastP places cnt) x)→Q (.ref d) H'
theorem filtL_in {S:List Pl} {i:Nat} {s2:Pl} {f:Pl→Bool} (h:S[i]?=some s2) (hf:f s2=true):(S.take (i+1)).filter f=(S.take i).filter f++ [s2]:=by
 have:=filt_in (A:= []) h hf
 simpa using this
theorem filtL_out {S:List Pl} {i:Nat} {s2:Pl} {f:Pl→Bool} (h:S[i]?=some s2) (hf:f s2=false):(S.take (i+1)).filter f=(S.take i).filter f:=by
 have:=filt_out (A:= []) h hf
 simpa using this
theorem ok_k (T:Txt K mg a):FnOk P w K mg base CX0 2 a.f_k a.d_k ["self"] (spEnding a):=by
 have G_m:=ok_m (P:=P) (w:=w) (base:=base) T
 refine T.F_k.ok sc_k (fun vs H Q E h=> ?_) (fun cdv A outer s H vs Q E hr h=> ?_)
 ·obtain⟨G,o,ga,en,cb,E,cnt,X,Tt,xs,places,rfl,_⟩:=h
  rfl
 ·obtain⟨G,o,ga,en,cb,E,cnt,X,Tt,xs,places,rfl,ow,uf,hG,hGB,tpl,hpl,hP,hn,hI,hen,q⟩:=h
  have hu:=hu_of hr
  refine⟨_,(pss_cons (ps_if (pt_cmpR op_isN (pe_fld (pv 0) rfl) pe_non (nomark _)) (pss_one (ps_fld (pv 0) (pe_meth (pv 0) T.cl_C1 T.m_m G_m (hr.mono (by decide)) T.b_m .nil pass0 (pa_cons (pe_lc rfl sc_k.nd (pi_list (pe_fld (pv 0) rfl)) (blkOk_by (own:= [("place",1)]) rfl) (by intro _ _ _ _ _;exact pg_name (i:=1) sc_k.nd rfl (Or.inl rfl)) (by intro _ _ _ _ _;apply pts_one;exact(pt_cmp (pc_dnotin (by exact hu) (pv 1) (pe_fldK (K:=K) rfl (pv 0) rfl)))) (by intro _ _ _ _ _;exact(pv 1))) pa_nil)) rfl)) pss_nil)
   (pss_one (ps_ret (pe_fld (pv 0) rfl)))),?_⟩
  rcases hen with rfl|⟨d,F,rfl,h2,h3,h4⟩
  ·refine⟨_,rfl,G,_,_,_,_,rfl,hG.obj,T.cl_C1,T.na_a,rfl,rfl,_,rfl,iteT ?_⟩
   refine⟨_,rfl,G,ga.dx,_,rfl,hG.obj,rfl,_,rfl,G,_,_,_,_,rfl,hG.obj,T.cl_C1,T.na_5,rfl,ga.pl,rfl,⟨xs,SqL.of hpl⟩,fun D hD=> ?_⟩
   have al:∀(acc:List V) c u,H c=some u→(upd H D (.lst acc)) c=some u:=fun acc c u e=>by rw[upd_ne (ne_of_none e hD)];exact e
   obtain⟨Lc,c1,c2,c3,c4⟩:=hG.ec
   have hplen:places.length≤128:=KA.len_pl hn hI
   refine lc_list (xs:=xs) (fun i H'=>∃acc,H'=upd H D (.lst acc)∧Paired (ElP H) acc ((places.take i).filter fun k=>(cnt k).isNone)) ⟨[],rfl,by rw[List.take_zero];exact .nil⟩ ?_ ?_ ?_
   ·rintro i H' _ ⟨acc,rfl,_⟩
    exact SqL.of (al acc _ _ hpl)
   ·rintro i x H' hx ⟨acc,rfl,hacc⟩
    obtain⟨k,hk,x0,rfl,hx0⟩:=paired_get hP hx
    have hdg:DGet (upd H D (.lst acc)) ga.ec (.ref x0) (valV (Lc.map (eP nV)) (pk k)):=DGet.t (al acc _ _ c1) (al acc _ _ hx0)
    rw[val_eP,c4] at hdg
    refine⟨rfl,_,rfl,_,rfl,G,_,_,_,_,rfl,al acc _ _ hG.obj,T.cl_C1,T.na_8,rfl,ga.ec,_,rfl,hdg,_,rfl,?_⟩
    have hal:=prd_len hacc
    have hal2:acc.length≤128:=by
     rw[hal]
     refine Nat.le_trans (List.length_filter_le _ _) ?_
     rw[List.length_take];omega
    cases ec:cnt k with
    |none=>
     refine iteT ⟨_,rfl,acc,upd_same,lt_size (by omega),acc++ [.ref x0],upd_upd,?_⟩
     rw[filtL_in hk (by rw[ec];rfl)]
     exact prd_app hacc (.cons ⟨x0,rfl,hx0⟩ .nil)
    |some n=>
     refine iteF ⟨acc,rfl,?_⟩
     rw[filtL_out hk (by rw[ec];rfl)]
     exact hacc
   ·rintro H' ⟨acc,rfl,hacc⟩
    rw[prd_len hP,List.take_length] at hacc
    have g1:Go S0 o H o (upd H D (.lst acc)):=Go.alloc ow hD _
    have hG1:=hG.go g1 (fun z=>z) (fun _ _ z=>z)
    have hl:(lastP places cnt).Nodup:=hn.filter _
    refine⟨G,D,o,ga,.non,cb,E,cnt,X,Tt,acc,lastP places cnt,rfl,g1.own,g1.unf uf,hG1,hGB,upd_same,Paired.mapP hacc fun x y z=>tups_P _ _ (fun b zs e=>al acc _ _ e) x y z,hl,fun x hx=>hI x (List.mem_filter.mp hx).1,fun x hx=> ?_,fun H2 d F g2 hd0 hd1 hF=> ?_⟩
    ·have h1:=(List.mem_filter.mp hx).2
     have h2:=hGB.ct x
     by_cases z:Nn X x=0
     ·exact z
     ·rw[if_neg z] at h2;rw[h2] at h1;cases h1
    ·have g12:=g1.trans g2
     have hd0':H d=none:=by
      cases e:H d with
      |none=>rfl
      |some u=>have:=g1.fr d u e (fun _ _ z=>z);rw[hd0] at this;cases this
     have gt:Go Sen o H (oput o d .en) H2:=(g12.mono fun _ z=>z.elim).tagN hd0' hd1 rfl rfl _
     have hob2:=g12.at hG.obj hG.tG (fun z=>z)
     have tG2:=gt.tag hG.tG
     obtain⟨gf,bf⟩:=fld_set (S:=Sen) (fs':=gfs ga (.ref d) cb) gt.own hob2 tG2 (.inl rfl)
     refine⟨_,rfl,G,_,ga.dx,_,rfl,hob2,T.cl_C1,T.na_a,by show 7<1000;decide,?_⟩
     have ee:putF "ending" (.ref d) (gfs ga .non cb)=gfs ga (.ref d) cb:=rfl
     rw[ee]
     have gg:=gt.trans gf
     have nse:∀t,SE t→¬Sen t:=fun t h1 h2=>by rcases h1 with rfl|⟨_,rfl⟩|rfl<;>rcases h2 with z|z<;>cases z
     have nGd:d≠G:=fun z=>by rw[z,hG.obj] at hd0';cases hd0'
     refine⟨_,rfl,G,_,_,_,_,rfl,bf,T.cl_C1,T.na_a,rfl,?_⟩
     exact q _ _ d F gg (Gx_fld hG gg nse bf) oput_same (by rw[upd_ne nGd];exact hd1) hF
  ·refine⟨_,rfl,G,_,_,_,_,rfl,hG.obj,T.cl_C1,T.na_a,rfl,rfl,_,rfl,iteF ?_⟩
   refine⟨_,rfl,G,_,_,_,_,rfl,hG.obj,T.cl_C1,T.na_a,rfl,?_⟩
   exact q o H d F (Go.refl ow) hG h2 h3 h4
def spAlways (a:Ad):Sp:=fun vs H Q _=>∃(G:Addr) (o:Ow) (ga:GA) (en cb:V) (E:Pl→List (Pl×Nat)) (cnt:Pl→Option Nat) (X:List (Pl×Pl)) (Tt:Pl→Nat→Pl→Prop) (f:Pl→List Stp) (last:List Pl),vs= [.ref G]∧Own o H∧Unf o H∧GX a.c_C1 o H G ga en cb E cnt∧GB Tt E X cnt∧
 o ga.st=some .st∧LsT o H ga.st .stL ElS f∧last.Nodup∧(∀x,x∈last↔f x≠ []∧cnt x=none)∧EnR o H cb .cb (Gd X last)∧
 ∀(o':Ow) (H':Hp) (d:Addr) (F:List (Pl×Unit)),Go Scb o H o' H'→GX a.c_C1 o' H' G ga en (.ref d) E cnt→o' d=some .cb→H' d=some (.dT (F.map (eP bT)))→(∀x,x∈F.map (·.1)↔Gd X last x)→Q (.ref d) H'
theorem Gd.congr {X:List (Pl×Pl)} {l l':List Pl} (h:∀x,x∈l↔x∈l') (x:Pl):Gd X l x↔Gd X l' x:=by
 constructor
 ·intro g
  induction g with
  |last q=>exact .last ((h _).mp q)
  |step q _ ih=>exact .step q ih
 ·intro g
  induction g with
  |last q=>exact .last ((h _).mpr q)
  |step q _ ih=>exact .step q ih
theorem ok_l (T:Txt K mg a):FnOk P w K mg base CX0 2 a.f_l a.d_l ["self"] (spAlways a):=by
 have G_m:=ok_m (P:=P) (w:=w) (base:=base) T
 refine T.F_l.ok sc_l (fun vs H Q E h=> ?_) (fun cdv A outer s H vs Q E hr h=> ?_)
 ·obtain⟨G,o,ga,en,cb,E,cnt,X,Tt,f,last,rfl,_⟩:=h
  rfl
 ·obtain⟨G,o,ga,en,cb,E,cnt,X,Tt,f,last,rfl,ow,uf,hG,hGB,tst,hst,hln,hlast,hcb,q⟩:=h
  have hu:=hu_of hr
  refine⟨_,(pss_cons (ps_if (pt_cmpR op_isN (pe_fld (pv 0) rfl) pe_non (nomark _)) (pss_cons (ps_unl (ps_setLc rfl sc_l.nd (i:=1) rfl rfl (sw_true rfl rfl rfl (by decide +kernel)) (pi_keysL (pe_fld (pv 0) rfl)) (blkOk_by (own:= [("place",2)]) rfl) (by intro _ _ _ _ _;exact pg_name (i:=2) sc_l.nd rfl (Or.inl rfl)) (by intro _ _ _ _ _;apply pts_one;exact(pt_cmp (pc_dnotin (by exact hu) (pv 2) (pe_fldK (K:=K) rfl (pv 0) rfl)))) (by intro _ _ _ _ _;exact(pv 2))))
   (pss_one (ps_fld (pv 0) (pe_meth (pv 0) T.cl_C1 T.m_m G_m (hr.mono (by decide)) T.b_m .nil pass0 (pa_cons (pv 1) pa_nil)) rfl))) pss_nil)
   (pss_one (ps_ret (pe_fld (pv 0) rfl)))),?_⟩
  rcases hcb with rfl|⟨d,F,rfl,h2,h3,h4⟩
  ·refine⟨_,rfl,G,_,_,_,_,rfl,hG.obj,T.cl_C1,T.na_b,rfl,rfl,_,rfl,iteT ?_⟩
   obtain⟨L,l1,l2,l3,l4,l5⟩:=hst
   have l1:=uf.rd tst l1
   obtain⟨Lc,c1,c2,c3,c4⟩:=hG.ec
   have hLl:=len_dict l2 l3
   refine⟨_,rfl,G,_,_,_,_,rfl,hG.obj,T.cl_C1,T.na_6,rfl,ga.st,_,rfl,.inr ⟨l1,fun od D hD=> ?_⟩⟩
   have lk:Lkd ga.st (.dT (L.map (eP V.ref))) od H (upd H ga.st (.frz od (.dT (L.map (eP V.ref))))):=⟨upd_same,.inr ⟨l1,rfl⟩⟩
   have hG1:=hG.lockT (od:=od) (u:= .dT (L.map (eP V.ref))) tst (fun z=>by rcases z with z|⟨_,z⟩|z<;>cases z) (fun z=>nomatch z)
   have nce:ga.ec≠ga.st:=fun z=>by have:=hG.tc;rw[z,tst] at this;cases this
   have c1':(upd H ga.st (.frz od (.dT (L.map (eP V.ref))))) ga.ec=some (.dT (Lc.map (eP nV))):=by rw[upd_ne nce];exact c1
   have hst1:=lk.1
   have hDst:D≠ga.st:=(ne_of_none hst1 hD).symm
   have hDH:H D=none:=by rw[upd_ne hDst] at hD;exact hD
   generalize hH1:upd H ga.st (.frz od (.dT (L.map (eP V.ref))))=H1 at*
   have al:∀(acc:List V) c u,H1 c=some u→(upd H1 D (.lst acc)) c=some u:=fun acc c u e=>by rw[upd_ne (ne_of_none e hD)];exact e
   refine lc_it (n:=L.length) (fun i H'=>∃acc,H'=upd H1 D (.lst acc)∧Paired (ElP H1) acc (((L.map (·.1)).take i).filter fun k=>(cnt k).isNone)) ⟨[],rfl,by rw[List.take_zero];exact .nil⟩ ?_ ?_ ?_ ?_
   ·rintro i H' hi ⟨acc,rfl,_⟩
    exact⟨al acc _ _ hst1,by rw[List.length_map];exact hi⟩
   ·rintro H' ⟨acc,rfl,_⟩
    exact⟨al acc _ _ hst1,by rw[List.length_map];exact Nat.le_refl _⟩
   ·rintro i H' x H2 hi ⟨acc,rfl,hacc⟩ ⟨rfl,kk,v,x0,hkv,rfl,hx0⟩
    obtain⟨⟨k,l⟩,hkl,e⟩:=map_get hkv
    cases e
    have hk:(L.map (·.1))[i]?=some k:=by rw[List.getElem?_map,hkl];rfl
    have hx0':PlT H1 x0 k:=by
     have hne:x0≠D:=fun z=>by rw[z,upd_same] at hx0;cases hx0
     have hx0:(upd H1 D (.lst acc)) x0=some (.tup [nV k.1,nV k.2]):=hx0
     rwa [upd_ne hne] at hx0
    have hdg:DGet (upd H1 D (.lst acc)) ga.ec (.ref x0) (valV (Lc.map (eP nV)) (pk k)):=DGet.t (al acc _ _ c1') (al acc _ _ hx0')
    rw[val_eP,c4] at hdg
    refine⟨rfl,_,rfl,_,rfl,G,_,_,_,_,rfl,al acc _ _ hG1.obj,T.cl_C1,T.na_8,rfl,ga.ec,_,rfl,hdg,_,rfl,?_⟩
    have hal:=prd_len hacc
    have hal2:acc.length≤128:=by
     rw[hal]
     refine Nat.le_trans (List.length_filter_le _ _) ?_
     rw[List.length_take,List.length_map];omega
    cases ec:cnt k with
    |none=>
     refine iteT ⟨_,rfl,acc,upd_same,lt_size (by omega),acc++ [.ref x0],upd_upd,?_⟩
     rw[filtL_in hk (by rw[ec];rfl)]
     exact prd_app hacc (.cons ⟨x0,rfl,hx0'⟩ .nil)
    |some n=>
     refine iteF ⟨acc,rfl,?_⟩
     rw[filtL_out hk (by rw[ec];rfl)]
     exact hacc
   ·rintro H' ⟨acc,rfl,hacc⟩
    rw[show L.length=(L.map (·.1)).length from(List.length_map _).symm,List.take_length] at hacc
    refine .inr ⟨ga.st,od,_,al acc _ _ hst1,fun f0 x0 z=>absurd z (uf _ _ _ _ tst),?_⟩
    have hH2:upd (upd H1 D (.lst acc)) ga.st (.dT (L.map (eP V.ref)))=upd H D (.lst acc):=by
     rw[←hH1]
     funext c
     by_cases z:c=ga.st
     ·rw[z,upd_same,upd_ne hDst.symm];exact l1.symm
     ·rw[upd_ne z]
      by_cases z2:c=D
      ·rw[z2,upd_same,upd_same]
      ·rw[upd_ne z2,upd_ne z,upd_ne z2]
    rw[hH2]
    have alH:∀c u,H c=some u→(upd H D (.lst acc)) c=some u:=fun c u e=>by rw[upd_ne (ne_of_none e hDH)];exact e
    have g1:Go S0 o H o (upd H D (.lst acc)):=Go.alloc ow hDH _
    have hG2:=hG.go g1 (fun z=>z) (fun _ _ z=>z)
    have hP2:Paired (ElP (upd H D (.lst acc))) acc ((L.map (·.1)).filter fun k=>(cnt k).isNone):=Paired.mapP hacc fun x y ⟨x0,e1,e2⟩=>⟨x0,e1,by
     have hne:x0≠ga.st:=fun z=>by
      have e2:H1 x0=some (.tup [nV y.1,nV y.2]):=e2
      rw[z,hst1] at e2;cases e2
     have e2':H x0=some (.tup [nV y.1,nV y.2]):=by
      have e2:H1 x0=some (.tup [nV y.1,nV y.2]):=e2
      rw[←hH1,upd_ne hne] at e2;exact e2
     exact alH _ _ e2'⟩
    have hmem:∀x,x∈(L.map (·.1)).filter (fun k=>(cnt k).isNone)↔x∈last:=fun x=>by
     rw[List.mem_filter,hlast]
     constructor
     ·rintro⟨h1,h2⟩
      refine⟨fun z=> ?_,Option.isNone_iff_eq_none.mp h2⟩
      exact KA.get_none.mp ((l4 x).mpr z) h1
     ·rintro⟨h1,h2⟩
      refine⟨?_,by rw[h2];rfl⟩
      by_cases hm:x∈L.map (·.1)
      ·exact hm
      ·exact absurd ((l4 x).mp (KA.get_none.mpr hm)) h1
    have hnl:((L.map (·.1)).filter fun k=>(cnt k).isNone).Nodup:=l2.filter _
    have hil:∀x∈((L.map (·.1)).filter fun k=>(cnt k).isNone),InP x∧(cnt x).isNone=true:=fun x hx=>⟨l3 x (List.mem_filter.mp hx).1,(List.mem_filter.mp hx).2⟩
    generalize ((L.map (·.1)).filter fun k=>(cnt k).isNone)=lst at hP2 hmem hnl hil
    refine⟨_,rfl,G,ga.dx,_,rfl,hG2.obj,rfl,_,rfl,G,D,o,ga,en,.non,E,cnt,X,Tt,acc,lst,rfl,g1.own,g1.unf uf,hG2,hGB,upd_same,hP2,hnl,fun x hx=>(hil x hx).1,fun x hx=> ?_,fun H3 d F g2 hd0 hd1 hF=> ?_⟩
    ·have h1:=(hil x hx).2
     have h2:=hGB.ct x
     by_cases z:Nn X x=0
     ·exact z
     ·rw[if_neg z] at h2;rw[h2] at h1;cases h1
    ·have g12:=g1.trans g2
     have hd0':H d=none:=by
      cases e:H d with
      |none=>rfl
      |some u=>have:=g1.fr d u e (fun _ _ z=>z);rw[hd0] at this;cases this
     have gt:Go Scb o H (oput o d .cb) H3:=(g12.mono fun _ z=>z.elim).tagN hd0' hd1 rfl rfl _
     have hob2:=g12.at hG.obj hG.tG (fun z=>z)
     have tG2:=gt.tag hG.tG
     obtain⟨gf,bf⟩:=fld_set (S:=Scb) (fs':=gfs ga en (.ref d)) gt.own hob2 tG2 (.inl rfl)
     refine⟨_,rfl,G,_,ga.dx,_,rfl,hob2,T.cl_C1,T.na_b,by show 7<1000;decide,?_⟩
     have ee:putF "coming_back" (.ref d) (gfs ga en .non)=gfs ga en (.ref d):=rfl
     rw[ee]
     have gg:=gt.trans gf
     have nse:∀t,SE t→¬Scb t:=fun t h1 h2=>by rcases h1 with rfl|⟨_,rfl⟩|rfl<;>rcases h2 with z|z<;>cases z
     have nGd:d≠G:=fun z=>by rw[z,hG.obj] at hd0';cases hd0'
     refine⟨_,rfl,G,_,_,_,_,rfl,bf,T.cl_C1,T.na_b,rfl,?_⟩
     exact q _ _ d F gg (Gx_fld hG gg nse bf) oput_same (by rw[upd_ne nGd];exact hd1) (fun x=>(hF x).trans (Gd.congr hmem x))
  ·refine⟨_,rfl,G,_,_,_,_,rfl,hG.obj,T.cl_C1,T.na_b,rfl,rfl,_,rfl,iteF ?_⟩
   refine⟨_,rfl,G,_,_,_,_,rfl,hG.obj,T.cl_C1,T.na_b,rfl,?_⟩
   exact q o H d F (Go.refl ow) hG h2 h3 h4
end R
end
section
set_option maxHeartbeats 400000
namespace R
open PySem PySem.Spec PyProof.Rows L2
open KA (Pl InP get put)
open KTh (Kn Off Rec Cov Cl1 IsMin WF)
open KG (Stp stepsOf Eg EgAt Val GB GOk KOk Cap lft stOf fewest)
variable {P:Program} {w:World} {K:PySem.W.Frag} {mg:Str→Option Value} {base:Heap} {a:Ad}
noncomputable def wfs (vc:Nat) (st B ds:Addr):List (Str×V):= [("value_count",nV vc),("steps_at",.ref st),("backs",.ref B),("distances",.ref ds)]
abbrev Few:=Kcv7.Few
noncomputable def dist (p:Kcv7.Prog) (j:Pl) (k:Pl):Few:=(Kcv7.from_ p (Kcv7.table p) k.2 k.1).getD (Kcv7.head j.2 j.1) none
structure WX (a:Ad) (o:Ow) (H:Hp) (Wo:Addr) (p:Kcv7.Prog) (j:Pl) (Kk:Kn):Prop where
 ow:Own o H
 wf:WF p
 ok:KOk p Kk
 vj:Val p j
 ex:∃(dx st B ds:Addr) (b:BA) (O:List Off) (rs:List Rec) (F:List (Pl×Nat)),H Wo=some (.ins a.c_C2 dx (wfs p.values st B ds))∧BK a.c_C0 o H B b Kk O rs∧o st=some .st∧LsT o H st .stL ElS (stepsV p)∧H ds=some (.dT (F.map (eP nV)))∧∀k,Val p k→get F k=dist p j k
theorem WX.go {o:Ow} {H H':Hp} {Wo:Addr} {p:Kcv7.Prog} {j:Pl} {Kk:Kn} (h:WX a o H Wo p j Kk) (g:Go S0 o H o H'):WX a o H' Wo p j Kk:=by
 obtain⟨ow,wf,ok,vj,dx,st,B,ds,b,O,rs,F,h1,h2,h3,h4,h5,h6⟩:=h
 have sm:∀c u,H c=some u→H' c=some u:=fun c u e=>g.fr c u e (fun _ _ z=>z)
 exact⟨g.own,wf,ok,vj,dx,st,B,ds,b,O,rs,F,sm _ _ h1,h2.same0 g,h3,h4.go tups_S g h3 (fun z=>z) (fun _ z=>z),sm _ _ h5,h6⟩
def LatR (H:Hp) (p:Kcv7.Prog) (j:Pl) (ex:Addr):List Nat→V→Prop
 | [],v=>v= .non
 |nx::st,v=>∃(t l:Addr) (bs:List Nat) (lv:V),v= .ref t∧H t=some (.tup [nV nx,.ref l,lv])∧(H l=some (.lst (bs.map nV))∧l≠ex)∧bs.length=p.values∧(∀u,u<p.values→Cap (lft p j.2 j.1 ⟨u,nx::st⟩) (bs.getD u 0))∧LatR H p j ex st lv
theorem LatR.go {p:Kcv7.Prog} {j:Pl} {ex:Addr} {H H':Hp} (sm:∀c u,H c=some u→H' c=some u):∀{st:List Nat} {v:V},LatR H p j ex st v→LatR H' p j ex st v
 | [],_,h=>h
 |_::_,_,⟨t,l,bs,lv,h1,h2,h3,h4,h5,h6⟩=>⟨t,l,bs,lv,h1,sm _ _ h2,⟨sm _ _ h3.1,h3.2⟩,h4,h5,LatR.go sm h6⟩
theorem LatR.app {p:Kcv7.Prog} {j:Pl} {ex:Addr} {H:Hp} {xs ys:List V} (hx:H ex=some (.lst xs)):∀{st:List Nat} {v:V},LatR H p j ex st v→LatR (upd H ex (.lst ys)) p j ex st v
 | [],_,h=>h
 |_::_,_,⟨t,l,bs,lv,h1,h2,h3,h4,h5,h6⟩=>⟨t,l,bs,lv,h1,tup_upd hx _ _ h2,⟨by rw[upd_ne h3.2];exact h3.1,h3.2⟩,h4,h5,LatR.app hx h6⟩
def StR (H:Hp) (p:Kcv7.Prog) (j:Pl) (ex:Addr) (v:V) (s:Kcv7.State):Prop:=match s.stack with
 | []=>v= .non
 |i::st=>∃(t k0:Addr) (lv:V),v= .ref t∧H t=some (.tup [.ref k0,lv])∧PlT H k0 (i,s.value)∧LatR H p j ex st lv
theorem cap_none:Cap none 33:=⟨fun h=>absurd h (by decide),fun m h=>(by cases h)⟩
theorem cap_getD (d:Few):Cap d (d.getD 33):=by
 cases d with
 |none=>exact cap_none
 |some m=>exact⟨fun _=>rfl,fun k e _=>Option.some.inj e⟩
theorem lft_one {p:Kcv7.Prog} (W:WF p) {j k:Pl} (hj:Val p j) (hk:Val p k):lft p j.2 j.1 ⟨k.2,[k.1]⟩=dist p j k:=by
 have hj4:j.2<4:=Nat.lt_of_lt_of_le hj.2 W.vle
 have hk4:k.2<4:=Nat.lt_of_lt_of_le hk.2 W.vle
 have h1:=KTh.isMin_left W hj4 hj.1 [k.1] k.2 (fun x hx=>by rw[List.mem_singleton.mp hx];exact hk.1) hk4
 have h2:=KTh.isMin_from W hk4 hk.1 (h:=Kcv7.head j.2 j.1) (KTh.head_lt hj4 hj.1)
 refine h1.uniq (h2.congr fun n=> ?_)
 constructor
 ·exact fun h=> .inl h
 ·rintro(h|⟨_,_,_,_,_,h,_⟩)
  ·exact h
  ·exact h.elim
theorem lft_nil {p:Kcv7.Prog} {w j v:Nat}:lft p w j ⟨v,[]⟩=none:=rfl
def spFewest (a:Ad):Sp:=fun vs H Q _=>∃(Wo k0 ex:Addr) (lv:V) (o:Ow) (p:Kcv7.Prog) (j k:Pl) (Kk:Kn) (st:List Nat),vs= [.ref Wo,.ref k0,lv]∧WX a o H Wo p j Kk∧PlT H k0 k∧Val p k∧(∀x∈st,x<p.points)∧LatR H p j ex st lv∧
 ∀(H':Hp) (n:Nat),Go S0 o H o H'→Cap (lft p j.2 j.1 ⟨k.2,k.1::st⟩) n→Q (nV n) H'
theorem min_nat {m s:Nat}:(if ((s:Int))<(m:Int) then((s:Int)) else(m:Int))=((if s<m then s else m:Nat):Int):=by
 by_cases h:s<m
 ·rw[if_pos h,if_pos (by omega)]
 ·rw[if_neg h,if_neg (by omega)]
theorem ok_o (T:Txt K mg a):FnOk P w K mg base CX0 2 a.f_o a.d_o ["self","place","latest"] (spFewest a):=by
 have G_6:=ok_6 (P:=P) (w:=w) (base:=base) T
 refine T.F_o.ok sc_o (fun vs H Q E h=> ?_) (fun cdv A outer s H vs Q E hr h=> ?_)
 ·obtain⟨Wo,k0,ex,lv,o,p,j,k,Kk,st,rfl,_⟩:=h
  rfl
 ·obtain⟨Wo,k0,ex,lv,o,p,j,k,Kk,stk,rfl,hW,hk,hV,hst,hL,q⟩:=h
  have hu:=hu_of hr
  refine⟨_,(pss_cons (ps_set (i:=3) sc_o.nd rfl (Or.inl rfl) (pe_dget2 hu (pe_fld (pv 0) rfl) (pv 1) (pe_gi rfl T.g_NO_WAY) ⟨rfl,rfl,rfl,rfl⟩))
   (pss_cons (ps_if (pt_cmpR op_notN (pv 2) pe_non (nomark _)) (pss_one (ps_unl (ps_for PassesOwn.never rfl (pi_itemsL (pe_meth (pe_fld (pv 0) rfl) T.cl_C0 T.m_6 G_6 (hr.mono (by decide)) T.b_6 .nil pass0 (pa_cons (pv 1) pa_nil))) (pg_tup rfl (pgs_cons (pg_name (i:=4) sc_o.nd rfl (Or.inl rfl)) (pgs_cons (pg_name (i:=5) sc_o.nd rfl (Or.inl rfl)) pgs_nil))) (pss_one (ps_set (i:=3) sc_o.nd rfl (Or.inl rfl) (pe_callB (call_min2 rfl) (by rfl) T.z_min (by decide +kernel) (pa_cons (pv 3) (pa_cons (pe_op op_add (pv 5) (pe_ix ix_list (pe_ix ix_tup (pv 2) pe_int (fun _ _=>rfl)) (pv 4) (fun _ _=>rfl))) pa_nil)))))))) pss_nil)
   (pss_one (ps_ret (pv 3))))),?_⟩
  obtain⟨ow,wf,ok,vj,dx,st,B,ds,b,O,rs,F,h1,h2,h3,h4,h5,h6⟩:=id hW
  have hdg:DGet H ds (.ref k0) (valV (F.map (eP nV)) (pk k)):=DGet.t h5 hk
  rw[val_eP,h6 k hV] at hdg
  have hgd:((dist p j k).map nV).getD (V.int 33)=nV ((dist p j k).getD 33):=by cases dist p j k<;>rfl
  refine⟨_,rfl,Wo,_,_,_,_,rfl,h1,T.cl_C2,T.na_f,rfl,ds,rfl,.inr ⟨_,.inl h5⟩,_,rfl,_,hdg,?_⟩
  rw[hgd]
  cases stk with
  |nil=>
   have hlv:lv= .non:=hL
   subst hlv
   refine⟨_,rfl,rfl,_,rfl,iteF ⟨_,rfl,q H _ (Go.refl ow) ?_⟩⟩
   rw[lft_one wf vj hV]
   exact cap_getD _
  |cons nx stk=>
   obtain⟨t,l,bs,lv',rfl,ht,⟨hl,_⟩,hbl,hb,hL'⟩:=hL
   refine⟨_,rfl,rfl,_,rfl,iteT ?_⟩
   refine⟨_,rfl,Wo,_,_,_,_,rfl,h1,T.cl_C2,T.na_e,rfl,B,b.dx,_,rfl,h2.obj,rfl,_,rfl,B,k0,o,b,Kk,O,rs,k,rfl,ow,h2,hk,fun H1 d E g1 hE=>ends_walk hE fun od H2 lk=> ?_⟩
   have ow2:=lk.own g1.own
   have ht2:H2 t=some (.tup [nV nx,.ref l,lv']):=lk.tup rfl (g1.tup ht)
   have hl2:H2 l=some (.lst (bs.map nV)):=lk.keep (g1.fr _ _ hl (fun _ _ z=>z)) (fun z=>nomatch z)
   have hEm:∀u m,(u,m)∈E↔Kk k.2 k.1 u=some m:=fun u m=>hE.mem
   refine for_it (n:=E.length) (fun i σ H'=>∃(x4 x5:Option V),σ= [some (.ref Wo),some (.ref k0),some (.ref t),some (nV ((E.take i).foldl (fun m x=>if x.2+bs.getD x.1 0<m then x.2+bs.getD x.1 0 else m) ((dist p j k).getD 33))),x4,x5]∧Go S0 o H2 o H') ?_ ?_ ?_ ?_ ?_
   ·exact⟨_,_,rfl,Go.refl ow2⟩
   ·rintro i σ H' hi ⟨_,_,rfl,g⟩
    exact⟨g.lkd hE lk.1 (fun z=>z),by rw[List.length_map];exact hi⟩
   ·rintro σ H' ⟨_,_,rfl,g⟩
    exact⟨g.lkd hE lk.1 (fun z=>z),by rw[List.length_map];exact Nat.le_refl _⟩
   ·rintro i σ H' x H9 hi ⟨_,_,rfl,g⟩ ⟨T0,kk,v,hkv,rfl,hT0,rfl⟩
    obtain⟨⟨x,m⟩,hxm,e⟩:=map_get hkv
    cases e
    have g9:Go S0 o H' o (upd H' T0 (.tup [kV (nk x),nV m])):=Go.alloc g.own hT0 _
    have gg:=g.trans g9
    refine⟨T0,_,rfl,SqT.of upd_same,rfl,_,_,rfl,_,_,rfl,rfl,?_⟩
    have hxv:x<p.values:=by
     have hB:=ok k.2 k.1 x hV.2
     rw[(hEm x m).mp (List.mem_of_getElem? hxm)] at hB
     exact hB.1.wV wf hV.2
    have hbx:(bs.map nV)[x]?=some (nV (bs.getD x 0)):=by
     rw[List.getElem?_map,List.getD_eq_getElem?_getD]
     cases ee:bs[x]? with
     |none=>rw[List.getElem?_eq_none_iff] at ee;omega
     |some y=>rfl
    refine⟨_,rfl,_,rfl,_,rfl,t,_,_,_,rfl,rfl,SqT.of (gg.tup ht2),atI_nat (j:=1) rfl,_,rfl,l,_,_,_,rfl,rfl,SqL.of (gg.fr _ _ hl2 (fun _ _ z=>z)),atI_nat hbx,_,_,rfl,rfl,_,_,rfl,?_⟩
    refine⟨some (nV x),some (nV m),?_,gg⟩
    rw[take_snoc hxm,List.foldl_append]
    show [_,_,_,some (V.int (if ((m:Int)+(bs.getD x 0:Int))<_ then _ else _)),_,_]=_
    have:=min_nat (s:=m+bs.getD x 0) (m:=(E.take i).foldl (fun m x=>if x.2+bs.getD x.1 0<m then x.2+bs.getD x.1 0 else m) ((dist p j k).getD 33))
    rw[Int.natCast_add] at this
    rw[this]
    rfl
   ·rintro σ H' ⟨_,_,rfl,g⟩
    refine ends_done ow g1 rfl rfl lk g (g.lkd hE lk.1 (fun z=>z)) fun H'' g'' lu=>⟨_,rfl,q H'' _ g'' ?_⟩
    rw[List.take_length]
    exact KG.fewest_cap wf ok vj.2 vj.1 hV.2 hV.1 hst (b:=fun u=>bs.getD u 0) hb hEm
theorem yes_ok {σ:L2.St} {H:Hp} {A B:Hp→Prop} (h:A H):tYes σ H (fun b H3=>if b=true then A H3 else B H3):=by
 show if true=true then A H else B H
 exact iteT h
def spCall (a:Ad):Sp:=fun vs H Q _=>∃(Wo ex:Addr) (lv:V) (o:Ow) (p:Kcv7.Prog) (j:Pl) (Kk:Kn) (nx:Nat) (st:List Nat),vs= [.ref Wo,nV nx,lv]∧WX a o H Wo p j Kk∧nx<p.points∧(∀x∈st,x<p.points)∧H ex≠none∧LatR H p j ex st lv∧
 ∀(H':Hp) (v:V),Go S0 o H o H'→LatR H' p j ex (nx::st) v→Q v H'
theorem ok_p (T:Txt K mg a):FnOk P w K mg base CX0 3 a.f_p a.d_p ["self","goes_on","latest"] (spCall a):=by
 have G_o:=ok_o (P:=P) (w:=w) (base:=base) T
 refine T.F_p.ok sc_p (fun vs H Q E h=> ?_) (fun cdv A outer s H vs Q E hr h=> ?_)
 ·obtain⟨Wo,ex,lv,o,p,j,Kk,nx,st,rfl,_⟩:=h
  rfl
 ·obtain⟨Wo,ex,lv,o,p,j,Kk,nx,stk,rfl,hW,hnx,hst,hex,hL,q⟩:=h
  have hu:=hu_of hr
  refine⟨_,(pss_cons (ps_setLc rfl sc_p.nd (i:=3) rfl rfl (sw_true rfl rfl rfl (by decide +kernel)) (pi_range1 rfl T.z_range (pa_cons (pe_fld (pv 0) rfl) pa_nil)) (blkOk_by (own:= [("value",4)]) rfl) (by intro _ _ _ _ _;exact pg_name (i:=4) sc_p.nd rfl (Or.inl rfl)) (by intro _ _ _ _ _;exact pts_nil) (by intro _ _ _ _ _;exact(pe_meth (pv 0) T.cl_C2 T.m_o G_o (hr.mono (by decide)) T.b_o .nil pass0 (pa_cons (pe_tup (pa_cons (pv 1) (pa_cons (pv 4) pa_nil))) (pa_cons (pv 2) pa_nil)))))
   (pss_one (ps_ret (pe_tup (pa_cons (pv 1) (pa_cons (pv 3) (pa_cons (pv 2) pa_nil))))))),?_⟩
  obtain⟨ow,wf,ok,vj,dx,st,B,ds,b,O,rs,F,h1,h2,h3,h4,h5,h6⟩:=id hW
  have hv4:=wf.vle
  refine⟨_,rfl,Wo,_,_,_,_,rfl,h1,T.cl_C2,T.na_c,rfl,_,rfl,by omega,by omega,fun D hD=> ?_⟩
  refine lc_range (fun i H'=>∃bs:List Nat,bs.length=i∧(∀u,u<i→Cap (lft p j.2 j.1 ⟨u,nx::stk⟩) (bs.getD u 0))∧H' D=some (.lst (bs.map nV))∧(∀c u,H c=some u→H' c=some u)) ⟨[],rfl,fun u h=>absurd h (by omega),upd_same,fun c u e=>by rw[upd_ne (ne_of_none e hD)];exact e⟩ ?_ ?_
  ·rintro i H' hi ⟨bs,e1,e2,e3,e4⟩
   have hi:i<p.values:=by
    have:((p.values:Int)).toNat=p.values:=by omega
    omega
   have g1:=Go.of_same ow e4
   have hW1:=hW.go g1
   obtain⟨_,_,_,_,dx',_,_,_,_,_,_,_,h1',_⟩:=id hW1
   refine⟨rfl,yes_ok ?_⟩
   refine⟨_,rfl,Wo,dx',_,rfl,h1',rfl,_,rfl,_,rfl,by show 2≤sizeLine;decide,fun t ht=> ?_⟩
   have hi0:(0:Int)+(i:Int)=(i:Int):=by omega
   rw[hi0]
   have al:∀c u,H' c=some u→(upd H' t (.tup [nV nx,nV i])) c=some u:=fun c u e=>by rw[upd_ne (ne_of_none e ht)];exact e
   have g2:Go S0 o H o (upd H' t (.tup [nV nx,nV i])):=Go.of_same ow fun c u e=>al _ _ (e4 c u e)
   refine⟨_,rfl,Wo,t,ex,lv,o,p,j,(nx,i),Kk,stk,rfl,hW.go g2,upd_same,⟨hnx,hi⟩,hst,hL.go (fun c u e=>al _ _ (e4 c u e)),fun H2 n g3 hc=> ?_⟩
   have e3':H2 D=some (.lst (bs.map nV)):=g3.fr _ _ (al _ _ e3) (fun _ _ z=>z)
   have hDH:H D=none:=hD
   refine⟨bs.map nV,e3',lt_size (by rw[List.length_map];omega),bs++ [n],by rw[List.length_append,e1];rfl,fun u hu=> ?_,by rw[List.map_append];exact upd_same,fun c u e=> ?_⟩
   ·rw[List.getD_eq_getElem?_getD]
    by_cases z:u<i
    ·rw[List.getElem?_append_left (by omega),←List.getD_eq_getElem?_getD]
     exact e2 u z
    ·have:u=i:=by omega
     subst this
     rw[List.getElem?_append_right (by omega),e1,Nat.sub_self]
     exact hc
   ·rw[upd_ne (ne_of_none e hDH)]
    exact g3.fr _ _ (al _ _ (e4 c u e)) (fun _ _ z=>z)
  ·rintro H' ⟨bs,e1,e2,e3,e4⟩
   have ev:((p.values:Int)).toNat=p.values:=by omega
   rw[ev] at e1 e2
   refine⟨_,rfl,_,rfl,_,rfl,by show 3≤sizeLine;decide,fun t ht=> ?_⟩
   have al:∀c u,H' c=some u→(upd H' t (.tup [nV nx,.ref D,lv])) c=some u:=fun c u e=>by rw[upd_ne (ne_of_none e ht)];exact e
   exact q _ _ (Go.of_same ow fun c u e=>al _ _ (e4 c u e)) ⟨t,D,bs,lv,rfl,upd_same,⟨al _ _ e3,fun z=>hex (by rw[←z];exact hD)⟩,e1,e2,hL.go fun c u e=>al _ _ (e4 c u e)⟩
def spAfter (a:Ad):Sp:=fun vs H Q _=>∃(Wo j0 ex:Addr) (lv:V) (o:Ow) (p:Kcv7.Prog) (j:Pl) (Kk:Kn) (s:Stp) (st:List Nat),vs= [.ref Wo,nV s.kind,.ref j0,nV s.nx,lv]∧WX a o H Wo p j Kk∧PlT H j0 s.tgt∧(s.kind=1→s.nx<p.points)∧(∀x∈st,x<p.points)∧H ex≠none∧LatR H p j ex st lv∧
 ∀(H':Hp) (v:V),Go S0 o H o H'→StR H' p j ex v (stOf s st)→Q v H'
theorem ok_q (T:Txt K mg a):FnOk P w K mg base CX0 4 a.f_q a.d_q ["self","kind","target","goes_on","latest"] (spAfter a):=by
 have G_p:=ok_p (P:=P) (w:=w) (base:=base) T
 refine T.F_q.ok sc_q (fun vs H Q E h=> ?_) (fun cdv A outer s H vs Q E hr h=> ?_)
 ·obtain⟨Wo,j0,ex,lv,o,p,j,Kk,s1,st,rfl,_⟩:=h
  rfl
 ·obtain⟨Wo,j0,ex,lv,o,p,j,Kk,s1,stk,rfl,hW,hj,hnx,hst,hex,hL,q⟩:=h
  have hu:=hu_of hr
  refine⟨_,(pss_cons (ps_if (pt_cmpR op_eq (pv 1) (pe_gi rfl T.g_GO) (nomark _)) (pss_one (ps_ret (pe_tup (pa_cons (pv 2) (pa_cons (pv 4) pa_nil))))) pss_nil)
   (pss_cons (ps_if (pt_cmpR op_eq (pv 1) (pe_gi rfl T.g_CALL) (nomark _)) (pss_one (ps_ret (pe_tup (pa_cons (pv 2) (pa_cons (pe_meth (pv 0) T.cl_C2 T.m_p G_p (hr.mono (by decide)) T.b_p .nil pass0 (pa_cons (pv 3) (pa_cons (pv 4) pa_nil))) pa_nil))))) pss_nil)
   (pss_cons (ps_if (pt_cmpR op_isN (pv 4) pe_non (nomark _)) (pss_one (ps_ret pe_non)) pss_nil)
   (pss_one (ps_ret (pe_tup (pa_cons (pe_tup (pa_cons (pe_ix ix_tup (pv 4) pe_int (fun _ _=>rfl)) (pa_cons (pe_ix ix_tup (pv 2) pe_int (fun _ _=>rfl)) pa_nil))) (pa_cons (pe_ix ix_tup (pv 4) pe_int (fun _ _=>rfl)) pa_nil)))))))),?_⟩
  obtain⟨ow,wf,ok,vj,dx,st,B,ds,b,O,rs,F,h1,h2,h3,h4,h5,h6⟩:=id hW
  by_cases k0:s1.kind=0
  ·have es:stOf s1 stk=⟨s1.tgt.2,s1.tgt.1::stk⟩:=by unfold stOf;rw[if_pos k0]
   rw[es] at q
   refine⟨_,rfl,rfl,_,rfl,ifT (dT (by rw[k0];rfl)) ?_⟩
   refine⟨_,rfl,_,rfl,by show 2≤sizeLine;decide,fun t ht=> ?_⟩
   have g:=Go.alloc (S:=S0) ow ht (.tup [.ref j0,lv])
   exact q _ _ g ⟨t,j0,lv,rfl,upd_same,g.tup hj,hL.go fun c u e=>g.fr c u e (fun _ _ z=>z)⟩
  ·refine⟨_,rfl,rfl,_,rfl,ifF (dF (fun z=>k0 (by omega))) ?_⟩
   by_cases k1:s1.kind=1
   ·have es:stOf s1 stk=⟨s1.tgt.2,s1.tgt.1::s1.nx::stk⟩:=by unfold stOf;rw[if_neg k0,if_pos k1]
    rw[es] at q
    refine⟨_,rfl,rfl,_,rfl,ifT (dT (by rw[k1];rfl)) ?_⟩
    refine⟨_,rfl,_,rfl,Wo,dx,_,rfl,h1,rfl,_,rfl,_,rfl,Wo,ex,lv,o,p,j,Kk,s1.nx,stk,rfl,hW,hnx k1,hst,hex,hL,fun H1 v g1 hv=> ?_⟩
    refine⟨by show 2≤sizeLine;decide,fun t ht=> ?_⟩
    have g:=Go.alloc (S:=S0) g1.own ht (.tup [.ref j0,v])
    exact q _ _ (g1.trans g) ⟨t,j0,v,rfl,upd_same,g.tup (g1.tup hj),hv.go fun c u e=>g.fr c u e (fun _ _ z=>z)⟩
   ·have es:stOf s1 stk=⟨s1.tgt.2,stk⟩:=by unfold stOf;rw[if_neg k0,if_neg k1]
    rw[es] at q
    refine⟨_,rfl,rfl,_,rfl,ifF (dF (fun z=>k1 (by omega))) ?_⟩
    cases stk with
    |nil=>
     have hlv:lv= .non:=hL
     subst hlv
     exact⟨_,rfl,rfl,_,rfl,iteT (q H _ (Go.refl ow) rfl)⟩
    |cons nx stk=>
     obtain⟨t,l,bs,lv',rfl,ht,hl,hbl,hb,hL'⟩:=hL
     refine⟨_,rfl,rfl,_,rfl,iteF ?_⟩
     refine⟨_,rfl,t,_,_,_,rfl,rfl,SqT.of ht,atI_nat (j:=0) rfl,_,rfl,j0,_,_,_,rfl,rfl,SqT.of hj,atI_nat (j:=1) rfl,by show 2≤sizeLine;decide,fun k' hk'=> ?_⟩
     have g:=Go.alloc (S:=S0) ow hk' (.tup [nV nx,nV s1.tgt.2])
     refine⟨_,rfl,t,_,_,_,rfl,rfl,SqT.of (g.tup ht),atI_nat (j:=2) rfl,by show 2≤sizeLine;decide,fun t2 ht2=> ?_⟩
     have g2:=Go.alloc (S:=S0) g.own ht2 (.tup [.ref k',lv'])
     have gg:=g.trans g2
     exact q _ _ gg ⟨t2,k',lv',rfl,upd_same,g2.tup upd_same,hL'.go fun c u e=>gg.fr c u e (fun _ _ z=>z)⟩
theorem stOf_val {p:Kcv7.Prog} (W:WF p) {k:Pl} {s:Stp} {st:List Nat} (h:s∈stepsV p k) (hst:∀x∈st,x<p.points):(stOf s st).value<p.values∧∀y∈(stOf s st).stack,y<p.points:=by
 obtain⟨hv,hm,_⟩:=stepsV_in W h
 obtain⟨n,r,hn,hf,rfl⟩:=KG.mem_stepsOf.mp hm
 have hr:r∈p.rules:=List.mem_iff_getElem?.mpr ⟨n,hn⟩
 have ha:=W.afterV hr hv.2
 unfold stOf KG.stp
 dsimp only
 by_cases h0:r.kind=0
 ·rw[if_pos h0,if_neg (by omega)]
  exact⟨ha,fun y hy=>by rcases List.mem_cons.mp hy with rfl|hy;exact W.to0 r hr h0;exact hst y hy⟩
 ·rw[if_neg h0]
  by_cases h1:r.kind=1
  ·rw[if_pos h1,if_pos h1]
   exact⟨ha,fun y hy=>by
    rcases List.mem_cons.mp hy with rfl|hy
    ·exact W.entry _
    ·rcases List.mem_cons.mp hy with rfl|hy
     ·exact(W.to1 r hr h1).2
     ·exact hst y hy⟩
  ·rw[if_neg h1]
   exact⟨ha,hst⟩
noncomputable def wayF (p:Kcv7.Prog) (j:Pl) (n:Nat) (s:Kcv7.State):List Nat:=Kcv7.wayFrom p (Kcv7.table p) (Kcv7.far p (Kcv7.table p)) j.2 j.1 n s
def spFirst (a:Ad):Sp:=fun vs H Q _=>∃(Wo t k0 ex:Addr) (lv:V) (o:Ow) (p:Kcv7.Prog) (j k:Pl) (Kk:Kn) (st:List Nat) (n:Nat),vs= [.ref Wo,.ref t,nV n]∧WX a o H Wo p j Kk∧H t=some (.tup [.ref k0,lv])∧PlT H k0 k∧Val p k∧(∀x∈st,x<p.points)∧H ex≠none∧LatR H p j ex st lv∧n≤31∧lft p j.2 j.1 ⟨k.2,k.1::st⟩=some (n+1)∧
 ∀(H':Hp) (t':Addr) (v:V) (s:Stp),Go S0 o H o H'→H' t'=some (.tup [nV s.num,v])→StR H' p j ex v (stOf s st)→(stOf s st).value<p.values→(∀y∈(stOf s st).stack,y<p.points)→lft p j.2 j.1 (stOf s st)=some n→wayF p j (n+1) ⟨k.2,k.1::st⟩=s.num::wayF p j n (stOf s st)→Q (.ref t') H'
theorem ok_r (T:Txt K mg a):FnOk P w K mg base CX0 5 a.f_r a.d_r ["self","state","left"] (spFirst a):=by
 have G_q:=ok_q (P:=P) (w:=w) (base:=base) T
 have G_o:=ok_o (P:=P) (w:=w) (base:=base) T
 refine T.F_r.ok sc_r (fun vs H Q E h=> ?_) (fun cdv A outer s H vs Q E hr h=> ?_)
 ·obtain⟨Wo,t,k0,ex,lv,o,p,j,k,Kk,st,n,rfl,_⟩:=h
  rfl
 ·obtain⟨Wo,t,k0,ex,lv,o,p,j,k,Kk,stk,n,rfl,hW,ht,hk,hV,hst,hex,hL,hn,hlf,q⟩:=h
  have hu:=hu_of hr
  refine⟨_,(pss_one (ps_for PassesOwn.never rfl (pi_list (pe_dget hu (pe_fld (pv 0) rfl) (pe_ix ix_tup (pv 1) pe_int (fun _ _=>rfl)) (fun _ _=>rfl))) (pg_tup rfl (pgs_cons (pg_name (i:=3) sc_r.nd rfl (Or.inl rfl)) (pgs_cons (pg_name (i:=4) sc_r.nd rfl (Or.inl rfl)) (pgs_cons (pg_name (i:=5) sc_r.nd rfl (Or.inl rfl)) (pgs_cons (pg_name (i:=6) sc_r.nd rfl (Or.inl rfl)) pgs_nil))))) (pss_cons (ps_set (i:=7) sc_r.nd rfl (Or.inl rfl) (pe_meth (pv 0) T.cl_C2 T.m_q G_q (hr.mono (by decide)) T.b_q .nil pass0 (pa_cons (pv 4) (pa_cons (pv 5) (pa_cons (pv 6) (pa_cons (pe_ix ix_tup (pv 1) pe_int (fun _ _=>rfl)) pa_nil))))))
   (pss_one (ps_if (PW.pt (pw_and (pt_cmpR op_notN (pv 7) pe_non (nomark _)) (pw_and1 (pt_cmpR op_eq (pe_meth (pv 0) T.cl_C2 T.m_o G_o (hr.mono (by decide)) T.b_o .nil pass0 (pa_cons (pe_ix ix_tup (pv 7) pe_int (fun _ _=>rfl)) (pa_cons (pe_ix ix_tup (pv 7) pe_int (fun _ _=>rfl)) pa_nil))) (pv 2) (nomark _))))) (pss_one (ps_ret (pe_tup (pa_cons (pv 3) (pa_cons (pv 7) pa_nil))))) pss_nil))))),?_⟩
  obtain⟨ow,wf,ok,vj,dx,st,B,ds,b,O,rs,F,h1,h2,h3,h4,h5,h6⟩:=id hW
  obtain⟨L,l1,l2,l3,l4,l5⟩:=id h4
  obtain⟨s0,hs0,hs1⟩:=KG.way_ex wf vj.2 vj.1 hV.2 hV.1 hst hlf
  have hsv:stepsV p k=stepsOf p k:=by unfold stepsV;rw[if_pos (show k.1<p.points∧k.2<p.values from hV)]
  have hkey:∃l,get L k=some l:=by
   cases e:get L k with
   |none=>
    have:=(l4 k).mp e
    rw[hsv] at this
    have hs0:s0∈stepsOf p k:=hs0
    rw[this] at hs0
    cases hs0
   |some l=>exact⟨l,rfl⟩
  obtain⟨l,hl⟩:=hkey
  obtain⟨tl,xs,hlx,hP⟩:=l5 k l hl
  have hdg:DGet H st (.ref k0) (valV (L.map (eP V.ref)) (pk k)):= .inr ⟨_,pk k,k0,l1,rfl,hk,rfl⟩
  rw[val_eP,hl] at hdg
  rw[hsv] at hP
  refine⟨_,rfl,Wo,_,_,_,_,rfl,h1,T.cl_C2,T.na_d,rfl,_,rfl,t,_,_,_,rfl,rfl,SqT.of ht,atI_nat (j:=0) rfl,st,_,rfl,hdg,l,rfl,⟨xs,SqL.of hlx⟩,?_⟩
  refine for_list (xs:=xs) (fun i σ H'=>∃(x3 x4 x5 x6 x7:Option V),σ= [some (.ref Wo),some (.ref t),some (nV n),x3,x4,x5,x6,x7]∧Go S0 o H o H'∧∀t' s',t'<i→(stepsOf p k)[t']?=some s'→lft p j.2 j.1 (stOf s' stk)≠some n) ⟨_,_,_,_,_,rfl,Go.refl ow,fun t' s' h=>absurd h (by omega)⟩ ?_ ?_ ?_
  ·rintro i σ H' _ ⟨_,_,_,_,_,rfl,g,_⟩
   exact SqL.of (g.fr _ _ hlx (fun _ _ z=>z))
  ·rintro i x σ H' hx ⟨_,_,_,_,_,rfl,g,hno⟩
   obtain⟨z,hz,t1,j0,rfl,ht1,hj0⟩:=paired_get hP hx
   have hzv:z∈stepsV p k:=by rw[hsv];exact List.mem_of_getElem? hz
   obtain⟨_,hzm,_,_⟩:=stepsV_in wf hzv
   obtain⟨sv1,sv2⟩:=stOf_val wf (st:=stk) hzv hst
   have hnx:z.kind=1→z.nx<p.points:=fun hz1=>by
    obtain⟨m,r,hm,hf,rfl⟩:=KG.mem_stepsOf.mp hzm
    exact(wf.to1 r (List.mem_iff_getElem?.mpr ⟨m,hm⟩) hz1).2
   have hWg:=hW.go g
   obtain⟨_,_,_,_,dx',_,_,_,_,_,_,_,h1',_⟩:=id hWg
   refine⟨t1,_,rfl,SqT.of (g.tup ht1),rfl,_,_,rfl,_,_,rfl,_,_,rfl,_,_,rfl,rfl,?_⟩
   refine⟨_,rfl,Wo,dx',_,rfl,h1',rfl,_,rfl,_,rfl,_,rfl,_,rfl,t,_,_,_,rfl,rfl,SqT.of (g.tup ht),atI_nat (j:=1) rfl,Wo,j0,ex,lv,o,p,j,Kk,z,stk,rfl,hWg,g.tup hj0,hnx,hst,g.still hex,hL.go (fun c u e=>g.fr c u e (fun _ _ z=>z)),fun H1 v g1 hv=> ?_⟩
   have gg:=g.trans g1
   unfold StR at hv
   cases es:(stOf z stk).stack with
   |nil=>
    rw[es] at hv
    dsimp only at hv
    subst hv
    refine⟨_,rfl,rfl,_,rfl,iteF (iteF ?_)⟩
    refine⟨_,_,_,_,_,rfl,gg,fun t' s' h h'=> ?_⟩
    by_cases e:t'<i
    ·exact hno t' s' e h'
    ·have:t'=i:=by omega
     subst this
     rw[hz] at h'
     cases h'
     intro hh
     have:lft p j.2 j.1 (stOf z stk)=lft p j.2 j.1 ⟨(stOf z stk).value,[]⟩:=by rw[←es]
     rw[this,lft_nil] at hh
     cases hh
   |cons i2 st2=>
    rw[es] at hv
    dsimp only at hv
    obtain⟨t2,k2,lv2,rfl,ht2,hk2,hL2⟩:=hv
    have hWg2:=hW.go gg
    obtain⟨_,_,_,_,dx2,_,_,_,_,_,_,_,h1'',_⟩:=id hWg2
    have hse:stOf z stk=⟨(stOf z stk).value,i2::st2⟩:=by rw[←es]
    refine⟨_,rfl,rfl,_,rfl,iteT ?_⟩
    refine⟨_,rfl,Wo,dx2,_,rfl,h1'',rfl,_,rfl,t2,_,_,_,rfl,rfl,SqT.of ht2,atI_nat (j:=0) rfl,_,rfl,t2,_,_,_,rfl,rfl,SqT.of ht2,atI_nat (j:=1) rfl,
     Wo,k2,ex,lv2,o,p,j,(i2,(stOf z stk).value),Kk,st2,rfl,hWg2,hk2,⟨sv2 i2 (by rw[es];exact List.mem_cons_self),sv1⟩,fun y hy=>sv2 y (by rw[es];exact List.mem_cons_of_mem _ hy),hL2,fun H2 m g2 hc=> ?_⟩
    have hc:Cap (lft p j.2 j.1 (stOf z stk)) m:=by rw[hse];exact hc
    have ggg:=gg.trans g2
    refine⟨_,rfl,rfl,_,rfl,ite2 (fun hb=> ?_) (fun hb=> ?_)⟩
    ·have hmn:m=n:=by
      have:=of_decide_eq_true hb
      injection this with this
      omega
     have hl0:=(hc.eq (k:=n) (by omega)).mp hmn
     refine⟨_,rfl,_,rfl,by show 2≤sizeLine;decide,fun t3 ht3=> ?_⟩
     have g3:=Go.alloc (S:=S0) ggg.own ht3 (.tup [nV z.num,.ref t2])
     refine q _ t3 (.ref t2) z (ggg.trans g3) upd_same ?_ sv1 sv2 hl0 (KG.way_step (i:=k.1) (v:=k.2) hz hl0 hno)
     unfold StR
     rw[es]
     exact⟨t2,k2,lv2,rfl,g3.tup (g2.tup ht2),g3.tup (g2.tup hk2),hL2.go fun c u e=>(g2.trans g3).fr c u e (fun _ _ z=>z)⟩
    ·refine⟨_,_,_,_,_,rfl,ggg,fun t' s' h h'=> ?_⟩
     by_cases e:t'<i
     ·exact hno t' s' e h'
     ·have:t'=i:=by omega
      subst this
      rw[hz] at h'
      cases h'
      intro hh
      exact hb (by rw[(hc.eq (k:=n) (by omega)).mpr hh];exact decide_eq_true rfl)
  ·rintro σ H' ⟨_,_,_,_,_,rfl,g,hno⟩
   obtain⟨i0,hi0⟩:=List.mem_iff_getElem?.mp (show s0∈stepsOf p k from hs0)
   have:=prd_len hP
   exact absurd hs1 (hno i0 s0 (by have:=(List.getElem?_eq_some_iff.mp hi0).1;omega) hi0)
def spEarliest (a:Ad):Sp:=fun vs H Q _=>∃(Wo k0:Addr) (o:Ow) (p:Kcv7.Prog) (j k:Pl) (Kk:Kn) (n:Nat),vs= [.ref Wo,.ref k0]∧WX a o H Wo p j Kk∧PlT H k0 k∧Val p k∧dist p j k=some n∧n≤32∧
 ∀(H':Hp) (l:Addr),Go S0 o H o H'→H l=none→H' l=some (.lst ((wayF p j n ⟨k.2,[k.1]⟩).map nV))→Q (.ref l) H'
theorem wayF_zero {p:Kcv7.Prog} {j:Pl} {s:Kcv7.State}:wayF p j 0 s= []:=by
 unfold wayF Kcv7.wayFrom
 rfl
theorem ok_s (T:Txt K mg a):FnOk P w K mg base CX0 6 a.f_s a.d_s ["self","place"] (spEarliest a):=by
 have G_r:=ok_r (P:=P) (w:=w) (base:=base) T
 refine T.F_s.ok sc_s (fun vs H Q E h=> ?_) (fun cdv A outer s H vs Q E hr h=> ?_)
 ·obtain⟨Wo,k0,o,p,j,k,Kk,n,rfl,_⟩:=h
  rfl
 ·obtain⟨Wo,k0,o,p,j,k,Kk,n,rfl,hW,hk,hV,hd,hn,q⟩:=h
  have hu:=hu_of hr
  refine⟨_,(pss_cons (ps_set (i:=2) sc_s.nd rfl (Or.inl rfl) (pe_lst pa_nil))
   (pss_cons (ps_set (i:=3) sc_s.nd rfl (Or.inl rfl) (pe_tup (pa_cons (pv 1) (pa_cons pe_non pa_nil))))
   (pss_cons (ps_set (i:=4) sc_s.nd rfl (Or.inl rfl) (pe_dget hu (pe_fld (pv 0) rfl) (pv 1) (fun _ _=>rfl)))
   (pss_cons (ps_while PassesOwn.never (pt_cmpR op_gt (pv 4) pe_int (nomark _)) (pss_cons (ps_aug (i:=4) sc_s.nd rfl (Or.inl rfl) pe_int ip_sub)
   (pss_cons (ps_set (i:=5) sc_s.nd rfl (Or.inl rfl) (pe_meth (pv 0) T.cl_C2 T.m_r G_r (hr.mono (by decide)) T.b_r .nil pass0 (pa_cons (pv 3) (pa_cons (pv 4) pa_nil))))
   (pss_cons (ps_expr (pe_bm PySem.F.plainAttrs_list PySem.F.slot_list_append PySem.F.type_list_append mt_append (pv 2) (pa_cons (pe_ix ix_tup (pv 5) pe_int (fun _ _=>rfl)) pa_nil)))
   (pss_one (ps_set (i:=3) sc_s.nd rfl (Or.inl rfl) (pe_ix ix_tup (pv 5) pe_int (fun _ _=>rfl))))))))
   (pss_one (ps_ret (pv 2))))))),?_⟩
  obtain⟨ow,wf,ok,vj,dx,st,B,ds,b,O,rs,F,h1,h2,h3,h4,h5,h6⟩:=id hW
  refine⟨Nat.zero_le _,fun l hl=> ?_⟩
  refine⟨_,rfl,by show 2≤sizeLine;decide,fun t ht=> ?_⟩
  have al1:∀c u,H c=some u→(upd H l (.lst [])) c=some u:=fun c u e=>by rw[upd_ne (ne_of_none e hl)];exact e
  have al2:∀c u,(upd H l (.lst [])) c=some u→(upd (upd H l (.lst [])) t (.tup [.ref k0,.non])) c=some u:=fun c u e=>by rw[upd_ne (ne_of_none e ht)];exact e
  have sm:∀c u,H c=some u→(upd (upd H l (.lst [])) t (.tup [.ref k0,.non])) c=some u:=fun c u e=>al2 _ _ (al1 _ _ e)
  have hl2:=al2 l (.lst []) upd_same
  have ht2:(upd (upd H l (.lst [])) t (.tup [.ref k0,.non])) t=some (.tup [.ref k0,.non]):=upd_same
  generalize upd (upd H l (.lst [])) t (.tup [.ref k0,.non])=H2 at*
  have hdg:DGet H2 ds (.ref k0) (valV (F.map (eP nV)) (pk k)):=DGet.t (sm _ _ h5) (sm _ _ hk)
  rw[val_eP,h6 k hV,hd] at hdg
  refine⟨_,rfl,Wo,_,_,_,_,rfl,sm _ _ h1,T.cl_C2,T.na_f,rfl,_,rfl,ds,_,rfl,hdg,?_⟩
  refine⟨fun m σ H'=>∃(x5:Option V) (ns:List Nat) (sv:V) (x:Kcv7.State),σ= [some (.ref Wo),some (.ref k0),some (.ref l),some sv,some (nV m),x5]∧(∀c u,H c=some u→H' c=some u)∧H' l=some (.lst (ns.map nV))∧StR H' p j l sv x∧x.stack≠ []∧x.value<p.values∧(∀y∈x.stack,y<p.points)∧lft p j.2 j.1 x=some m∧m≤32∧ns.length+m=n∧ns++wayF p j m x=wayF p j n ⟨k.2,[k.1]⟩,
   ⟨n,_,[],.ref t,⟨k.2,[k.1]⟩,rfl,sm,hl2,⟨t,k0,.non,rfl,ht2,sm _ _ hk,rfl⟩,(fun z=>nomatch z),hV.2,fun y hy=>by rw[List.mem_singleton.mp hy];exact hV.1,(lft_one wf vj hV).trans hd,hn,by simp,rfl⟩,?_⟩
  clear hl2 ht2 al1 al2 sm hdg ht
  rintro m σ H1 ⟨x5,ns,sv,x,rfl,sm,hl1,hS,hne,xv,xs,hlf,hm,hsum,hw⟩
  refine⟨_,rfl,_,_,rfl,rfl,_,rfl,ite2 (fun hb=> ?_) (fun hb=> ?_)⟩
  ·obtain⟨m,rfl⟩:∃m',m=m'+1:=⟨m-1,by have:(0:Int)<(m:Int):=of_decide_eq_true hb;omega⟩
   refine⟨_,fun σ' H' h=>⟨m,by omega,h⟩,?_⟩
   obtain⟨xval,xstk⟩:=x
   cases xstk with
   |nil=>exact absurd rfl hne
   |cons i stk=>
    obtain⟨t1,k1,lv,rfl,ht1,hk1,hL1⟩:=hS
    have g1:=Go.of_same ow sm
    have hW1:=hW.go g1
    obtain⟨_,_,_,_,dx',_,_,_,_,_,_,_,h1',_⟩:=id hW1
    have em:((m+1:Nat):Int)-1=(m:Int):=by omega
    refine⟨_,rfl,_,_,rfl,rfl,?_⟩
    refine⟨_,rfl,Wo,dx',_,rfl,h1',rfl,_,rfl,_,rfl,Wo,t1,k1,l,lv,o,p,j,(i,xval),Kk,stk,m,(by show [_,_,V.int (((m+1:Nat):Int)-1)]=_;rw[em];rfl),hW1,ht1,hk1,⟨xs i List.mem_cons_self,xv⟩,fun y hy=>xs y (List.mem_cons_of_mem _ hy),(by rw[hl1];exact fun z=>nomatch z),hL1,by omega,hlf,fun H3 t3 v3 s3 g3 ht3 hS3 sv1 sv2 hlf3 hw3=> ?_⟩
    have hl3:H3 l=some (.lst (ns.map nV)):=g3.fr _ _ hl1 (fun _ _ z=>z)
    refine⟨_,rfl,.inl ⟨rfl,_,SqL.of hl3⟩,_,rfl,t3,_,_,_,rfl,rfl,SqT.of ht3,atI_nat (j:=0) rfl,l,_,_,rfl,rfl,hl3,lt_size (by rw[List.length_map];omega),?_⟩
    have tu:=tup_upd (ys:=ns.map nV++ [nV s3.num]) hl3
    refine⟨_,rfl,t3,_,_,_,rfl,rfl,SqT.of (tu _ _ ht3),atI_nat (j:=1) rfl,?_⟩
    have hne3:(stOf s3 stk).stack≠ []:=fun z=>by
     have e0:stOf s3 stk=⟨(stOf s3 stk).value,[]⟩:=by rw[←z]
     rw[e0,lft_nil] at hlf3
     cases hlf3
    refine⟨some (.ref t3),ns++ [s3.num],v3,stOf s3 stk,(by show [_,_,_,_,some (V.int (((m+1:Nat):Int)-1)),_]=_;rw[em];rfl),fun c u e=>by rw[upd_ne (ne_of_none e hl)];exact g3.fr _ _ (sm c u e) (fun _ _ z=>z),by rw[List.map_append];exact upd_same,?_,hne3,sv1,sv2,hlf3,by omega,by rw[List.length_append,List.length_singleton];omega,?_⟩
    ·unfold StR at hS3⊢
     cases es:(stOf s3 stk).stack with
     |nil=>exact absurd es hne3
     |cons i2 st2=>
      rw[es] at hS3
      dsimp only at hS3⊢
      obtain⟨t2,k2,lv2,r1,r2,r3,r4⟩:=hS3
      exact⟨t2,k2,lv2,r1,tu _ _ r2,tu _ _ r3,r4.app hl3⟩
    ·rw[List.append_assoc,List.singleton_append,←hw3]
     exact hw
  ·have h0:m=0:=by
    cases m with
    |zero=>rfl
    |succ m=>exact absurd (decide_eq_true (show (0:Int)<((m+1:Nat):Int) by omega)) hb
   subst h0
   rw[wayF_zero,List.append_nil] at hw
   rw[hw] at hl1
   exact⟨_,rfl,q H1 l (Go.of_same ow sm) hl hl1⟩
def spWInit (a:Ad):Sp:=fun vs H Q _=>∃(Wo dx st B ds:Addr) (vc:Nat),vs= [.ref Wo,nV vc,.ref st,.ref B,.ref ds]∧H Wo=some (.ins a.c_C2 dx [])∧
 ∀(H':Hp),H' Wo=some (.ins a.c_C2 dx (wfs vc st B ds))→(∀c u,H c=some u→c≠Wo→H' c=some u)→Q .non H'
theorem ok_n (T:Txt K mg a):FnOk P w K mg base CX0 1 a.f_n a.d_n ["self","value_count","steps_at","backs","distances"] (spWInit a):=by
 refine T.F_n.ok sc_n (fun vs H Q E h=> ?_) (fun cdv A outer s H vs Q E hr h=> ?_)
 ·obtain⟨Wo,dx,st,B,ds,vc,rfl,_⟩:=h
  rfl
 ·obtain⟨Wo,dx,st,B,ds,vc,rfl,h1,q⟩:=h
  have hu:=hu_of hr
  refine⟨_,(pss_cons (ps_fld (pv 0) (pv 1) rfl)
   (pss_cons (ps_fld (pv 0) (pv 2) rfl)
   (pss_cons (ps_fld (pv 0) (pv 3) rfl)
   (pss_one (ps_fld (pv 0) (pv 4) rfl))))),?_⟩
  refine⟨_,rfl,_,rfl,Wo,_,dx,_,rfl,h1,T.cl_C2,T.na_c,by show 0<1000;decide,?_⟩
  refine⟨_,rfl,_,rfl,Wo,_,dx,_,rfl,upd_same,T.cl_C2,T.na_d,by show 1<1000;decide,?_⟩
  refine⟨_,rfl,_,rfl,Wo,_,dx,_,rfl,upd_same,T.cl_C2,T.na_e,by show 2<1000;decide,?_⟩
  refine⟨_,rfl,_,rfl,Wo,_,dx,_,rfl,upd_same,T.cl_C2,T.na_f,by show 3<1000;decide,?_⟩
  refine q _ upd_same fun c u e n=> ?_
  rw[upd_ne n,upd_ne n,upd_ne n,upd_ne n];exact e
end R
end
section
set_option maxHeartbeats 400000
namespace R
open PySem PySem.Spec PyProof.Rows L2
open KA (Pl InP get put)
open KTh (Kn Off Rec Cov Cl1 IsMin WF Bk By)
open KG (Stp stepsOf Eg EgAt Val GB GOk KOk)
open KL (Nn Mm Gd Ld In1)
variable {P:Program} {w:World} {K:PySem.W.Frag} {mg:Str→Option Value} {base:Heap} {a:Ad}
noncomputable def rfs (vc:Nat) (pl:Addr) (rc:Nat) (st B:Addr) (gv:V):List (Str×V):= [("value_count",nV vc),("places",.ref pl),("rule_count",nV rc),("steps_at",.ref st),("backs",.ref B),("graph",gv)]
noncomputable def placesL (v n:Nat):List Pl:=(List.range (v*n)).map fun i=>(i/v,i%v)
theorem mem_places {v n:Nat} (hv:0<v) {x:Pl}:x∈placesL v n↔x.1<n∧x.2<v:=by
 unfold placesL
 rw[List.mem_map]
 constructor
 ·rintro⟨i,hi,rfl⟩
  rw[List.mem_range] at hi
  exact⟨Nat.div_lt_of_lt_mul hi,Nat.mod_lt _ hv⟩
 ·rintro⟨h1,h2⟩
  refine⟨x.1*v+x.2,?_,?_⟩
  ·rw[List.mem_range]
   calc x.1*v+x.2<x.1*v+v:=by omega
    _=(x.1+1)*v:=by rw[Nat.add_mul,Nat.one_mul]
    _≤n*v:=Nat.mul_le_mul_right _ h1
    _=v*n:=Nat.mul_comm _ _
  ·have e1:(x.1*v+x.2)/v=x.1:=by rw[Nat.mul_comm,Nat.mul_add_div hv,Nat.div_eq_of_lt h2,Nat.add_zero]
   have e2:(x.1*v+x.2)%v=x.2:=by rw[Nat.mul_comm,Nat.mul_add_mod,Nat.mod_eq_of_lt h2]
   rw[e1,e2]
theorem nodup_places {v n:Nat}:(placesL v n).Nodup:=by
 unfold placesL
 refine nd_map_of List.nodup_range fun x _ y _ e=> ?_
 injection e with e1 e2
 rw[←Nat.div_add_mod x v,←Nat.div_add_mod y v,e1,e2]
def spRInit (a:Ad):Sp:=fun vs H Q _=>∃(Ro dx:Addr) (o:Ow) (v n:Nat),vs= [.ref Ro,nV v,nV n]∧v≤4∧n≤32∧H Ro=some (.ins a.c_C3 dx [])∧Own o H∧o Ro=some .rn∧
 ∀(o':Ow) (H':Hp) (pl st B:Addr) (b:BA) (xs:List V),Go (fun t=>t= .rn∨t= .bk) o H o' H'→H' Ro=some (.ins a.c_C3 dx (rfs v pl 0 st B .non))→o' Ro=some .rn→o' pl=some .pl→H' pl=some (.lst xs)→Paired (ElP H') xs (placesL v n)→o' st=some .st→H' st=some (.dT [])→BK a.c_C0 o' H' B b (fun _ _ _=>none) [] []→Q .non H'
theorem ok_t (T:Txt K mg a):FnOk P w K mg base CX0 3 a.f_t a.d_t ["self","value_count","point_count"] (spRInit a):=by
 have G_4:=ok_4 (P:=P) (w:=w) (base:=base) T
 refine T.F_t.ok sc_t (fun vs H Q E h=> ?_) (fun cdv A outer s H vs Q E hr h=> ?_)
 ·obtain⟨Ro,dx,o,v,n,rfl,_⟩:=h
  rfl
 ·obtain⟨Ro,dx,o,v,n,rfl,hv,hn,hR,ow,tR,q⟩:=h
  have hu:=hu_of hr
  refine⟨_,(pss_cons (ps_fld (pv 0) (pv 1) rfl)
   (pss_cons (ps_fld (pv 0) (pe_lc rfl sc_t.nd (pi_range1 rfl T.z_range (pa_cons (pe_op op_mul (pv 1) (pv 2)) pa_nil)) (blkOk_by (own:= [("number",3)]) rfl) (by intro _ _ _ _ _;exact pg_name (i:=3) sc_t.nd rfl (Or.inl rfl)) (by intro _ _ _ _ _;exact pts_nil) (by intro _ _ _ _ _;exact(pe_callB call_divmod (by rfl) T.z_divmod (by decide +kernel) (pa_cons (pv 3) (pa_cons (pv 1) pa_nil))))) rfl)
   (pss_cons (ps_fld (pv 0) pe_int rfl)
   (pss_cons (ps_fld (pv 0) pe_dnewT rfl)
   (pss_cons (ps_fld (pv 0) (pe_make0 T.mk_C0 G_4 (hr.mono (by decide)) rfl T.mg_C0 T.b_4 .nil pass0) rfl)
   (pss_one (ps_fld (pv 0) pe_non rfl))))))),?_⟩
  obtain⟨g1,b1⟩:=fld_set (S:=fun t=>t= .rn∨t= .bk) (fs':=([("value_count",nV v)]:List (Str×V))) ow hR tR (.inl rfl)
  refine⟨_,rfl,_,rfl,Ro,_,dx,_,rfl,hR,T.cl_C3,T.na_g,by show 0<1000;decide,?_⟩
  have ee:putF "value_count" (nV v) ([]:List (Str×V))=([("value_count",nV v)]:List (Str×V)):=rfl
  rw[ee]
  generalize upd H Ro (.ins a.c_C3 dx [("value_count",nV v)])=H1 at*
  have hvn:v*n≤4*32:=Nat.mul_le_mul hv hn
  refine⟨_,rfl,_,rfl,_,_,rfl,rfl,.inl ⟨by omega,by omega⟩,_,rfl,by rw[←Int.natCast_mul];omega,by rw[←Int.natCast_mul];omega,fun D hD=> ?_⟩
  have al:∀(acc:List V) c u,H1 c=some u→(upd H1 D (.lst acc)) c=some u:=fun acc c u e=>by rw[upd_ne (ne_of_none e hD)];exact e
  have etn:((v:Int)*(n:Int)).toNat=v*n:=by rw[←Int.natCast_mul];omega
  refine lc_range (fun i H'=>∃acc,H' D=some (.lst acc)∧Paired (ElP H') acc ((placesL v n).take i)∧(∀c u,H1 c=some u→H' c=some u)) ⟨[],upd_same,by rw[List.take_zero];exact .nil,al []⟩ ?_ ?_
  ·rintro i H' hi ⟨acc,e1,e2,e3⟩
   rw[etn] at hi
   have hv0:0<v:=by
    rcases Nat.eq_zero_or_pos v with z|z
    ·rw[z,Nat.zero_mul] at hi;omega
    ·exact z
   have hpi:(placesL v n)[i]?=some (i/v,i%v):=by
    unfold placesL
    rw[List.getElem?_map,List.getElem?_range hi];rfl
   have hal:=prd_len e2
   refine⟨rfl,yes_ok ?_⟩
   refine⟨_,rfl,_,rfl,_,_,rfl,⟨by omega,by omega⟩,fun t ht=> ?_⟩
   have ei:(0:Int)+(i:Int)=(i:Int):=by omega
   have ed:((0:Int)+(i:Int))/(v:Int)=((i/v:Nat):Int):=by rw[ei];exact(Int.natCast_ediv _ _).symm
   have em:((0:Int)+(i:Int))%(v:Int)=((i%v:Nat):Int):=by rw[ei];exact(Int.natCast_emod _ _).symm
   rw[ed,em]
   have al2:∀c u,H' c=some u→(upd H' t (.tup [.int ((i/v:Nat):Int),.int ((i%v:Nat):Int)])) c=some u:=fun c u e=>by rw[upd_ne (ne_of_none e ht)];exact e
   have hal2:acc.length≤128:=by rw[hal,List.length_take];omega
   have hD2:=al2 _ _ e1
   refine⟨acc,hD2,lt_size (by omega),acc++ [.ref t],upd_same,?_,fun c u e=> ?_⟩
   ·rw[take_snoc hpi]
    have tu:=tup_upd (ys:=acc++ [V.ref t]) hD2
    exact prd_app (Paired.mapP e2 fun x y z=>tups_P _ _ (fun b zs e=>tu _ _ (al2 _ _ e)) x y z) (.cons ⟨t,rfl,tu t [.int ((i/v:Nat):Int),.int ((i%v:Nat):Int)] upd_same⟩ .nil)
   ·rw[upd_ne (ne_of_none e hD)]
    exact al2 _ _ (e3 c u e)
  ·rintro H2 ⟨acc,e1,e2,e3⟩
   rw[etn] at e2
   have hpl:(placesL v n).length=v*n:=by unfold placesL;rw[List.length_map,List.length_range]
   rw[←hpl,List.take_length] at e2
   have g12:=Go.of_same g1.own e3
   have gt:Go (fun t=>t= .rn∨t= .bk) o H1 (oput o D .pl) H2:=(g12.mono fun _ z=>z.elim).tagN hD e1 rfl rfl .pl
   have tR2:=gt.tag tR
   have b2:=e3 _ _ b1
   have tD:oput o D .pl D=some .pl:=oput_same
   generalize oput o D .pl=o2 at*
   obtain⟨g3,b3⟩:=fld_set (S:=fun t=>t= .rn∨t= .bk) (fs':=([("value_count",nV v),("places",V.ref D)]:List (Str×V))) gt.own b2 tR2 (.inl rfl)
   refine⟨_,rfl,Ro,_,dx,_,rfl,b2,T.cl_C3,T.na_h,by show 1<1000;decide,?_⟩
   have ee:putF "places" (.ref D) ([("value_count",nV v)]:List (Str×V))=([("value_count",nV v),("places",V.ref D)]:List (Str×V)):=rfl
   rw[ee]
   generalize upd H2 Ro (.ins a.c_C3 dx [("value_count",nV v),("places",V.ref D)])=H3 at*
   obtain⟨g4,b4⟩:=fld_set (S:=fun t=>t= .rn∨t= .bk) (fs':=([("value_count",nV v),("places",V.ref D),("rule_count",nV 0)]:List (Str×V))) g3.own b3 tR2 (.inl rfl)
   refine⟨_,rfl,Ro,_,dx,_,rfl,b3,T.cl_C3,T.na_i,by show 2<1000;decide,?_⟩
   have ee:putF "rule_count" (.int 0) ([("value_count",nV v),("places",V.ref D)]:List (Str×V))=([("value_count",nV v),("places",V.ref D),("rule_count",nV 0)]:List (Str×V)):=rfl
   rw[ee]
   generalize upd H3 Ro (.ins a.c_C3 dx [("value_count",nV v),("places",V.ref D),("rule_count",nV 0)])=H4 at*
   intro p1 h1
   obtain⟨g5,b5,t5,k5,tk5,c5⟩:=fld_new (S:=fun t=>t= .rn∨t= .bk) (fs':=([("value_count",nV v),("places",V.ref D),("rule_count",nV 0),("steps_at",V.ref p1)]:List (Str×V))) g4.own b4 tR2 (.inl rfl) h1 (.dT []) .st rfl rfl
   refine⟨_,rfl,Ro,_,dx,_,rfl,c5,T.cl_C3,T.na_j,by show 3<1000;decide,?_⟩
   have ee:putF "steps_at" (.ref p1) ([("value_count",nV v),("places",V.ref D),("rule_count",nV 0)]:List (Str×V))=([("value_count",nV v),("places",V.ref D),("rule_count",nV 0),("steps_at",V.ref p1)]:List (Str×V)):=rfl
   rw[ee]
   have tD5:=g5.tag tD
   generalize upd (upd H4 p1 (.dT [])) Ro (.ins a.c_C3 dx [("value_count",nV v),("places",V.ref D),("rule_count",nV 0),("steps_at",V.ref p1)])=H5 at*
   generalize oput o2 p1 .st=o5 at*
   intro B dB nB ndB neB
   have gB1:Go (fun t=>t= .rn∨t= .bk) o5 H5 o5 (upd H5 dB (.own B)):=Go.alloc g5.own ndB _
   have hBn:(upd H5 dB (.own B)) B=none:=by rw[upd_ne neB.symm];exact nB
   have gB2:Go (fun t=>t= .rn∨t= .bk) o5 (upd H5 dB (.own B)) (oput o5 B .bk) (upd (upd H5 dB (.own B)) B (.ins a.c_C0 dB [])):=Go.allocT gB1.own hBn _ _ rfl rfl
   refine⟨B,dB,oput o5 B .bk,rfl,upd_same,gB2.own,oput_same,fun o6 H6 b g6 hBK=>⟨rfl,?_⟩⟩
   have g56:Go (fun t=>t= .rn∨t= .bk) o5 H5 o6 H6:=(gB1.trans gB2).trans (g6.mono fun _ z=> .inr z)
   have b6:H6 Ro=some (.ins a.c_C3 dx [("value_count",nV v),("places",V.ref D),("rule_count",nV 0),("steps_at",V.ref p1)]):=by
    have n1:Ro≠dB:=ne_of_none b5 ndB
    have n2:Ro≠B:=ne_of_none b5 nB
    have h0:(upd (upd H5 dB (.own B)) B (.ins a.c_C0 dB [])) Ro=some (.ins a.c_C3 dx [("value_count",nV v),("places",V.ref D),("rule_count",nV 0),("steps_at",V.ref p1)]):=by rw[upd_ne n2,upd_ne n1];exact b5
    exact g6.at h0 (gB2.tag t5) (fun z=>nomatch z)
   have t6:=g56.tag t5
   obtain⟨g7,b7⟩:=fld_set (S:=fun t=>t= .rn) (fs':=([("value_count",nV v),("places",V.ref D),("rule_count",nV 0),("steps_at",V.ref p1),("backs",V.ref B)]:List (Str×V))) g6.own b6 t6 rfl
   refine⟨_,rfl,Ro,_,dx,_,rfl,b6,T.cl_C3,T.na_k,by show 4<1000;decide,?_⟩
   have ee:putF "backs" (.ref B) ([("value_count",nV v),("places",V.ref D),("rule_count",nV 0),("steps_at",V.ref p1)]:List (Str×V))=([("value_count",nV v),("places",V.ref D),("rule_count",nV 0),("steps_at",V.ref p1),("backs",V.ref B)]:List (Str×V)):=rfl
   rw[ee]
   generalize upd H6 Ro (.ins a.c_C3 dx [("value_count",nV v),("places",V.ref D),("rule_count",nV 0),("steps_at",V.ref p1),("backs",V.ref B)])=H7 at*
   obtain⟨g8,b8⟩:=fld_set (S:=fun t=>t= .rn) (fs':=rfs v D 0 p1 B .non) g7.own b7 t6 rfl
   refine⟨_,rfl,Ro,_,dx,_,rfl,b7,T.cl_C3,T.na_l,by show 5<1000;decide,?_⟩
   have ee:putF "graph" .non ([("value_count",nV v),("places",V.ref D),("rule_count",nV 0),("steps_at",V.ref p1),("backs",V.ref B)]:List (Str×V))=rfs v D 0 p1 B .non:=rfl
   rw[ee]
   have g78:=g7.trans g8
   have g48:Go (fun t=>t= .rn∨t= .bk) o2 H2 o6 _:=((g3.trans g4).trans g5).trans (g56.trans (g78.mono fun _ z=> .inl z))
   have g58:Go (fun t=>t= .rn∨t= .bk) o5 H5 o6 _:=g56.trans (g78.mono fun _ z=> .inl z)
   have nn:∀{t:Tag},t≠ .rn→t≠ .bk→¬(t= .rn∨t= .bk):=fun h1 h2 z=>z.elim h1 h2
   refine q o6 _ D p1 B b acc ((g1.trans gt).trans g48) b8 t6 (g58.tag tD5) (g48.at e1 tD (nn (fun z=>nomatch z) (fun z=>nomatch z))) (Paired.mapP e2 fun x y z=>tups_P _ _ (fun b zs e=>g48.tup e) x y z) (g58.tag tk5) (g58.at k5 tk5 (nn (fun z=>nomatch z) (fun z=>nomatch z))) (hBK.same g78 (fun z=>nomatch z) (fun t z=>by cases z;exact fun q=>q))
end R
end
section
set_option maxHeartbeats 400000
namespace R
open PySem PySem.Spec PyProof.Rows L2
open KA (Pl InP get put)
open KTh (Kn Off Rec Cov Cl1 IsMin WF Bk By)
open KG (Stp stepsOf Eg EgAt Val GB GOk KOk)
open KL (Nn Mm Gd Ld In1)
variable {P:Program} {w:World} {K:PySem.W.Frag} {mg:Str→Option Value} {base:Heap} {a:Ad}
def SS (t:Tag):Prop:=(t= .st∨∃k,t= .stL k)∨SA t
def Sst (t:Tag):Prop:=t= .st∨∃k,t= .stL k
theorem sst_sb:∀t,Sst t→¬SB t:=fun t z=>by rcases z with rfl|⟨k,rfl⟩<;>exact fun q=>q
theorem sst_bk:¬Sst .bk:=fun z=>by rcases z with z|⟨_,z⟩<;>cases z
theorem sst_not {t:Tag} (h1:t≠ .st) (h2:∀k,t≠ .stL k):¬Sst t:=fun z=>z.elim h1 fun⟨k,z⟩=>h2 k z
theorem sa_not {t:Tag} (h:¬SB t):¬SA t:=fun z=>h (by
 rcases z with rfl|⟨_,rfl⟩|rfl|⟨_,rfl⟩|rfl|⟨_,rfl⟩|rfl<;>trivial)
def spRAddStep (a:Ad):Sp:=fun vs H Q _=>∃(Ro dx pl st B p0 j0:Addr) (gv:V) (vc rc:Nat) (o:Ow) (b:BA) (Kk:Kn) (O:List Off) (rs:List Rec) (f:Pl→List Stp) (k j:Pl) (kind nx:Nat),
 vs= [.ref Ro,.ref p0,nV kind,.ref j0,nV nx]∧Own o H∧Unf o H∧H Ro=some (.ins a.c_C3 dx (rfs vc pl rc st B gv))∧o Ro=some .rn∧o st=some .st∧LsT o H st .stL ElS f∧BK a.c_C0 o H B b Kk O rs∧PlT H p0 k∧PlT H j0 j∧InP k∧(kind≤1→InP j)∧(kind=1→nx<32)∧(∀i,(f i).length≤1000)∧O.length<7000000∧rs.length<256∧
 ∀(o':Ow) (H':Hp) (O':List Off),Go SS o H o' H'→H' Ro=some (.ins a.c_C3 dx (rfs vc pl rc st B gv))→LsT o' H' st .stL ElS (fun i=>if i=k then f i++ [⟨rc,kind,j,nx⟩] else f i)→BK a.c_C0 o' H' B b Kk O' (rs++ [recFor k kind j nx])→More Kk O O' (Der Kk (recFor k kind j nx)) 16→Q .non H'
theorem ok_v (T:Txt K mg a):FnOk P w K mg base CX0 6 a.f_v a.d_v ["self","place","kind","target","goes_on"] (spRAddStep a):=by
 have G_5:=ok_5 (P:=P) (w:=w) (base:=base) T
 refine T.F_v.ok sc_v (fun vs H Q E h=> ?_) (fun cdv A outer s H vs Q E hr h=> ?_)
 ·obtain⟨Ro,dx,pl,st,B,p0,j0,gv,vc,rc,o,b,Kk,O,rs,f,k,j,kind,nx,rfl,_⟩:=h
  rfl
 ·obtain⟨Ro,dx,pl,st,B,p0,j0,gv,vc,rc,o,b,Kk,O,rs,f,k,j,kind,nx,rfl,ow,uf,hR,tR,tst,hst,hB,hk,hj,hK,hJ,hN,hf,hO,hrs,q⟩:=h
  have hu:=hu_of hr
  refine⟨_,(pss_cons (ps_expr (pe_bm PySem.F.plainAttrs_list PySem.F.slot_list_append PySem.F.type_list_append mt_append (pe_dsetdefault2 hu (pe_fld (pv 0) rfl) (pv 1) (pe_lst pa_nil) ⟨rfl,rfl,rfl,rfl⟩) (pa_cons (pe_tup (pa_cons (pe_fld (pv 0) rfl) (pa_cons (pv 2) (pa_cons (pv 3) (pa_cons (pv 4) pa_nil))))) pa_nil)))
   (pss_one (ps_expr (pe_meth (pe_fld (pv 0) rfl) T.cl_C0 T.m_5 G_5 (hr.mono (by decide)) T.b_5 .nil pass0 (pa_cons (pv 1) (pa_cons (pv 2) (pa_cons (pv 3) (pa_cons (pv 4) pa_nil)))))))),?_⟩
  have nn:∀{t:Tag},t≠ .st→(∀k,t≠ .stL k)→¬Sst t:=fun h1 h2 z=>z.elim h1 fun⟨k,z⟩=>h2 k z
  refine⟨_,rfl,Ro,_,_,_,_,rfl,hR,T.cl_C3,T.na_j,rfl,st,rfl,hst.isD,_,rfl,Nat.zero_le _,fun p hp=> ?_⟩
  refine LsT.app (S:=Sst) hst tst tups_S ow uf hk hK hp hf (.inl rfl) (fun i=> .inr ⟨i,rfl⟩) (fun i i' z=>by injection z) (fun i z=>nomatch z) fun l o2 H3 xs hl hlx g3 fin=> ?_
  have hR3:=g3.at hR tR (nn (fun z=>nomatch z) (fun _ z=>nomatch z))
  refine⟨.inl ⟨rfl,_,SqL.of hl⟩,_,rfl,Ro,_,_,_,_,rfl,hR3,T.cl_C3,T.na_i,rfl,_,rfl,_,rfl,_,rfl,by show 4≤sizeLine;decide,fun t ht=> ?_⟩
  have gt:Go S0 o2 H3 o2 (upd H3 t (.tup [nV rc,nV kind,.ref j0,nV nx])):=Go.alloc g3.own ht _
  obtain⟨l4,g4,ls4⟩:=fin _ (.ref t) ⟨rc,kind,j,nx⟩ gt ⟨t,j0,rfl,upd_same,gt.tup (g3.tup hj)⟩
  refine⟨l,xs,_,rfl,rfl,l4,lt_size (by omega),?_⟩
  have gg:Go Sst o H o2 _:=(g3.trans (gt.mono fun _ z=>z.elim)).trans g4
  have hR4:=gg.at hR tR (nn (fun z=>nomatch z) (fun _ z=>nomatch z))
  generalize upd (upd H3 t (.tup [nV rc,nV kind,.ref j0,nV nx])) l (.lst (xs++ [V.ref t]))=H4 at*
  have hB4:=hB.same gg sst_bk sst_sb
  refine⟨_,rfl,Ro,_,_,_,_,rfl,hR4,T.cl_C3,T.na_k,rfl,B,b.dx,_,rfl,hB4.obj,rfl,_,rfl,_,rfl,_,rfl,_,rfl,B,p0,j0,o2,b,Kk,O,rs,k,j,kind,nx,rfl,gg.own,gg.unf uf,hB4,gg.tup hk,gg.tup hj,hJ,hN,hO,hrs,fun o5 H5 O5 g5 hB5 hM=> ?_⟩
  refine q o5 H5 O5 ((gg.mono fun _ z=> .inl z).trans (g5.mono fun _ z=> .inr z)) (g5.at hR4 (gg.tag tR) (sa_not fun z=>z)) (ls4.go tups_S g5 (gg.tag tst) (sa_not fun z=>z) (fun k=>sa_not fun z=>z)) hB5 hM
def SP (p:Kcv7.Prog) (v i x n:Nat):Prop:=v<p.values∧Bk p v i x n
theorem SP.rg {p:Kcv7.Prog} (W:WF p) (v i x n:Nat) (h:SP p v i x n):v<4∧i<32∧x<4:=
 ⟨Nat.lt_of_lt_of_le h.1 W.vle,Nat.lt_of_lt_of_le (h.2.pt W) W.ple,Nat.lt_of_lt_of_le (h.2.wV W h.1) W.vle⟩
theorem SP.sc {p:Kcv7.Prog} (W:WF p) {r:Kcv7.Rule} (hr:r∈p.rules) {v:Nat} (hv:v<p.values) (hf:Kcv7.fits r v r.point=true):SC (SP p) (KTh.recOf p r v):=by
 have hk:=W.kind_ r hr
 unfold KTh.recOf
 by_cases h0:r.kind=0
 ·rw[if_pos h0]
  exact fun x n h=>⟨hv,Bk.fold hr hf (.inr (.inl ⟨h0,n,h.2,Nat.add_comm _ _⟩))⟩
 ·rw[if_neg h0]
  by_cases h1:r.kind=1
  ·rw[if_pos h1]
   exact fun y m x n h h'=>⟨hv,Bk.fold hr hf (.inr (.inr ⟨by omega,h0,y,m,n,Nat.lt_of_lt_of_le h'.1 W.vle,h.2,h'.2,by omega⟩))⟩
  ·rw[if_neg h1]
   exact⟨hv,Bk.fold hr hf (.inl ⟨by omega,rfl,rfl⟩)⟩
theorem fits_at {r:Kcv7.Rule} {v i:Nat}:Kcv7.fits r v i=true↔r.point=i∧(r.when=4∨r.when=v):=by
 unfold Kcv7.fits
 rw[Bool.and_eq_true,Bool.or_eq_true,beq_iff_eq,beq_iff_eq,beq_iff_eq]
 exact Iff.rfl
structure RB (a:Ad) (o:Ow) (H:Hp) (Ro dx pl st B:Addr) (gv:V) (p:Kcv7.Prog) (b:BA) (Kk:Kn) (O:List Off) (rs:List Rec):Prop where
 own:Own o H
 unf:Unf o H
 wf:WF p
 obj:H Ro=some (.ins a.c_C3 dx (rfs p.values pl p.rules.length st B gv))
 tR:o Ro=some .rn
 tpl:o pl=some .pl
 pls:∃xs,H pl=some (.lst xs)∧Paired (ElP H) xs (placesL p.values p.points)
 tst:o st=some .st
 hst:LsT o H st .stL ElS (stepsV p)
 bk:BK a.c_C0 o H B b Kk O rs
 snd:Snd (SP p) Kk O rs
 cl:∀r∈rs,Cl1 Kk O r
 cov:∀r∈p.rules,∀v,v<p.values→Kcv7.fits r v r.point=true→KTh.recOf p r v∈rs
 src:∀r'∈rs,∃r∈p.rules,∃v,v<p.values∧Kcv7.fits r v r.point=true∧r'=KTh.recOf p r v
 lr:rs.length≤4*p.rules.length
 lo:O.length≤16*rs.length
 l64:p.rules.length≤64
noncomputable def addR (p:Kcv7.Prog) (r:Kcv7.Rule):Kcv7.Prog:={p with rules:=p.rules++ [r]}
theorem steps_add {p:Kcv7.Prog} {r:Kcv7.Rule} {k:Pl}:stepsV (addR p r) k=stepsV p k++(if k.1<p.points∧k.2<p.values∧Kcv7.fits r k.2 k.1=true then [KG.stp p p.rules.length r k.2] else []):=by
 unfold stepsV
 show (if k.1<p.points∧k.2<p.values then stepsOf (addR p r) k else [])=_
 by_cases h:k.1<p.points∧k.2<p.values
 ·rw[if_pos h,if_pos h]
  unfold stepsOf
  have e0:(addR p r).rules.zipIdx=p.rules.zipIdx++ [(r,p.rules.length)]:=by
   show (p.rules++ [r]).zipIdx=_
   rw[List.zipIdx_append]
   simp
  rw[e0,List.filterMap_append]
  congr 1
  rw[List.filterMap_cons]
  dsimp only
  by_cases hf:Kcv7.fits r k.2 k.1=true
  ·rw[if_pos hf,if_pos ⟨h.1,h.2,hf⟩];rfl
  ·rw[if_neg hf,if_neg fun z=>hf z.2.2];rfl
 ·rw[if_neg h,if_neg h,if_neg fun z=>h ⟨z.1,z.2.1⟩];rfl
theorem steps_len {p:Kcv7.Prog} {k:Pl}:(stepsV p k).length≤p.rules.length:=by
 unfold stepsV
 split
 ·unfold stepsOf
  refine Nat.le_trans (List.length_filterMap_le _ _) ?_
  rw[List.length_zipIdx];exact Nat.le_refl _
 ·exact Nat.zero_le _
theorem recFor_of {p:Kcv7.Prog} {r:Kcv7.Rule} {v:Nat}:recFor (r.point,v) r.kind (if r.kind=1 then Kcv7.entry p r.to_ else r.to_,Kcv7.after r v) r.next=KTh.recOf p r v:=by
 unfold recFor KTh.recOf
 by_cases h0:r.kind=0
 ·rw[if_pos h0,if_pos h0,if_neg (by omega)]
 ·rw[if_neg h0,if_neg h0]
  by_cases h1:r.kind=1
  ·rw[if_pos h1,if_pos h1,if_pos h1]
  ·rw[if_neg h1,if_neg h1,if_neg h1]
theorem len_snoc {α:Type} {l:List α} {x:α}:(l++ [x]).length=l.length+1:=by rw[List.length_append];rfl
theorem len_ite {α:Type} {c:Prop} [Decidable c] {x:α}:(if c then [x] else []).length≤1:=by split<;>simp
theorem len_app {α:Type} {l m:List α} {n:Nat} (h:m.length≤n):(l++m).length≤l.length+n:=by rw[List.length_append];omega
theorem cl_more {Kk:Kn} {O O':List Off} {r:Rec} (h:Cl1 Kk O r) (m:∀y∈O,y∈O'):Cl1 Kk O' r:=KTh.Cl1.more m h
def Srn (t:Tag):Prop:=t≠ .pg∧t≠ .sts∧t≠ .tl
theorem ss_srn:∀t,SS t→Srn t:=fun t z=>by
 rcases z with (rfl|⟨_,rfl⟩)|(rfl|⟨_,rfl⟩|rfl|⟨_,rfl⟩|rfl|⟨_,rfl⟩|rfl)<;>exact⟨(fun z=>nomatch z),(fun z=>nomatch z),(fun z=>nomatch z)⟩
def spAddRule (a:Ad):Sp:=fun vs H Q _=>∃(Ro dx pl st B:Addr) (gv:V) (o:Ow) (p:Kcv7.Prog) (b:BA) (Kk:Kn) (O:List Off) (rs:List Rec) (r:Kcv7.Rule),vs= [.ref Ro,nV r.point,nV r.when,nV r.kind,nV r.set,nV (if r.kind=1 then Kcv7.entry p r.to_ else r.to_),nV r.next]∧RB a o H Ro dx pl st B gv p b Kk O rs∧WF (addR p r)∧p.rules.length<64∧
 ∀(o':Ow) (H':Hp) O' rs',Go Srn o H o' H'→RB a o' H' Ro dx pl st B .non (addR p r) b Kk O' rs'→Q .non H'
theorem ok_u (T:Txt K mg a):FnOk P w K mg base CX0 7 a.f_u a.d_u ["self","point","when","kind","set_to","start","goes_on"] (spAddRule a):=by
 have G_v:=ok_v (P:=P) (w:=w) (base:=base) T
 refine T.F_u.ok sc_u (fun vs H Q E h=> ?_) (fun cdv A outer s H vs Q E hr h=> ?_)
 ·obtain⟨Ro,dx,pl,st,B,gv,o,p,b,Kk,O,rs,r,rfl,_⟩:=h
  rfl
 ·obtain⟨Ro,dx,pl,st,B,gv,o,p,b,Kk,O0,rs0,r,rfl,hR,W,h64,q⟩:=h
  have hu:=hu_of hr
  refine⟨_,(pss_cons (ps_for PassesOwn.never rfl (pi_range1 rfl T.z_range (pa_cons (pe_fld (pv 0) rfl) pa_nil)) (pg_name (i:=7) sc_u.nd rfl (Or.inl rfl)) (pss_one (ps_if (PW.pt (pw_or (pt_cmpR op_eq (pv 2) (pe_gi rfl T.g_ANY) (nomark _)) (pw_or1 (pt_cmpR op_eq (pv 2) (pv 7) (nomark _))))) (pss_cons (ps_set (i:=8) sc_u.nd rfl (Or.inl rfl) (pe_ifExp (pt_cmpR op_eq (pv 4) (pe_gi rfl T.g_ANY) (nomark _)) (pv 7) (pv 4)))
   (pss_one (ps_expr (pe_meth (pv 0) T.cl_C3 T.m_v G_v (hr.mono (by decide)) T.b_v .nil pass0 (pa_cons (pe_tup (pa_cons (pv 1) (pa_cons (pv 7) pa_nil))) (pa_cons (pv 3) (pa_cons (pe_tup (pa_cons (pv 5) (pa_cons (pv 8) pa_nil))) (pa_cons (pv 6) pa_nil)))))))) pss_nil)))
   (pss_cons (ps_fldaug (pv 0) pe_int in_add)
   (pss_one (ps_fld (pv 0) pe_non rfl)))),?_⟩
  have hrm:r∈(addR p r).rules:=List.mem_append_right _ List.mem_cons_self
  have hpt:r.point<p.points:=W.pt r hrm
  have hv4:=hR.wf.vle
  have hp32:=hR.wf.ple
  have hk2:=W.kind_ r hrm
  have hgrow:∀{v i x n},Bk p v i x n→Bk (addR p r) v i x n:=fun h=>KTh.Bk.grow (q:=addR p r) hR.wf ⟨fun r' h'=>List.mem_append_left _ h',fun r' h' _=>rfl⟩ h
  have sgrow:∀v i x n,SP p v i x n→SP (addR p r) v i x n:=fun v i x n h=>⟨h.1,hgrow h.2⟩
  have hlr:=hR.lr
  have hlo:=hR.lo
  have hSA:InP (r.point,0):=⟨Nat.lt_of_lt_of_le hpt hp32,by show 0<4;decide⟩
  refine⟨_,rfl,Ro,_,_,_,_,rfl,hR.obj,T.cl_C3,T.na_g,rfl,_,rfl,by omega,by omega,?_⟩
  have etn:((p.values:Int)).toNat=p.values:=by omega
  rw[etn]
  let Inv:Nat→L2.St→Hp→Prop:=fun i σ H'=>∃(x7 x8:Option V) (o':Ow) (O:List Off) (rs:List Rec),σ= [some (.ref Ro),some (nV r.point),some (nV r.when),some (nV r.kind),some (nV r.set),some (nV (if r.kind=1 then Kcv7.entry p r.to_ else r.to_)),some (nV r.next),x7,x8]∧Go SS o H o' H'∧
    H' Ro=some (.ins a.c_C3 dx (rfs p.values pl p.rules.length st B gv))∧LsT o' H' st .stL ElS (fun k=>stepsV p k++(if k.1=r.point∧k.2<i∧Kcv7.fits r k.2 k.1=true then [KG.stp p p.rules.length r k.2] else []))∧BK a.c_C0 o' H' B b Kk O rs∧Snd (SP (addR p r)) Kk O rs∧(∀r'∈rs,Cl1 Kk O r')∧
    (∀r'∈rs0,r'∈rs)∧(∀v,v<i→Kcv7.fits r v r.point=true→KTh.recOf p r v∈rs)∧(∀r'∈rs,∃r1∈(addR p r).rules,∃v,v<p.values∧Kcv7.fits r1 v r1.point=true∧r'=KTh.recOf p r1 v)∧rs.length≤rs0.length+i∧O.length≤16*rs.length
  refine for_range (n:=p.values) Inv ?_ ?_ ?_
  ·refine⟨_,_,o,O0,rs0,rfl,Go.refl hR.own,hR.obj,hR.hst.congr fun k=> ?_,hR.bk,⟨fun v i x n h=>sgrow _ _ _ _ (hR.snd.kn v i x n h),fun y hy=>sgrow _ _ _ _ (hR.snd.of y hy),fun r' hr'=> ?_,SP.rg W⟩,hR.cl,fun r' h=>h,fun v h=>absurd h (by omega),fun r' hr'=>(hR.src r' hr').imp fun r1 z=>⟨List.mem_append_left _ z.1,z.2⟩,by omega,hlo⟩
   ·rw[if_neg (fun z=>by omega),List.append_nil]
   ·
    obtain⟨r1,h1,v,h2,h3,rfl⟩:=hR.src r' hr'
    exact SP.sc (p:=addR p r) W (List.mem_append_left _ h1) h2 h3
  ·rintro i σ H' hi ⟨x7,x8,o',O,rs,rfl,g,hob,hst,hB,hS,hC,hin,hcov,hsr,hl1,hl2⟩
   have ei:(0:Int)+(i:Int)=(i:Int):=by omega
   by_cases hc:r.when=4∨r.when=i
   ·have hf:Kcv7.fits r i r.point=true:=fits_at.mpr ⟨rfl,hc⟩
    have hc':r.when=4∨(r.when≠4∧r.when=i):=by omega
    have hi4:i<4:=by omega
    have hsc:=SP.sc (p:=addR p r) W hrm hi hf
    have hrq:KTh.recOf (addR p r) r i=KTh.recOf p r i:=rfl
    rw[hrq] at hsc
    have fin:∀(x7 x8:Option V) (o2:Ow) (H2:Hp) (O2:List Off),Go SS o' H' o2 H2→H2 Ro=some (.ins a.c_C3 dx (rfs p.values pl p.rules.length st B gv))→
      LsT o2 H2 st .stL ElS (fun k=>if k=(r.point,i) then(stepsV p k++(if k.1=r.point∧k.2<i∧Kcv7.fits r k.2 k.1=true then [KG.stp p p.rules.length r k.2] else []))++ [⟨p.rules.length,r.kind,((if r.kind=1 then Kcv7.entry p r.to_ else r.to_),Kcv7.after r i),r.next⟩] else(stepsV p k++(if k.1=r.point∧k.2<i∧Kcv7.fits r k.2 k.1=true then [KG.stp p p.rules.length r k.2] else [])))→
      BK a.c_C0 o2 H2 B b Kk O2 (rs++ [KTh.recOf p r i])→More Kk O O2 (Der Kk (KTh.recOf p r i)) 16→Inv (i+1) [some (.ref Ro),some (nV r.point),some (nV r.when),some (nV r.kind),some (nV r.set),some (nV (if r.kind=1 then Kcv7.entry p r.to_ else r.to_)),some (nV r.next),x7,x8] H2:=by
     intro x7 x8 o2 H2 O2 g2 hob2 hst2 hB2 hM
     have hll:(rs++ [KTh.recOf p r i]).length=rs.length+1:=len_snoc
     have hml:=hM.len
     refine⟨x7,x8,o2,O2,rs++ [KTh.recOf p r i],rfl,g.trans g2,hob2,hst2.congr fun k=> ?_,hB2,⟨hS.kn,fun y hy=>(hM.new y hy).elim (hS.of y) (Der.snd hS.kn hsc),fun r' hr'=>(List.mem_append.mp hr').elim (hS.rs r') (fun z=>by cases List.mem_singleton.mp z;exact hsc),hS.rg⟩,
      fun r' hr'=>(List.mem_append.mp hr').elim (fun z=>cl_more (hC r' z) hM.old) (fun z=>by cases List.mem_singleton.mp z;exact Der.cl hM.cov),fun r' h=>List.mem_append_left _ (hin r' h),fun v hv hf'=> ?_,fun r' hr'=>(List.mem_append.mp hr').elim (hsr r') (fun z=>⟨r,hrm,i,hi,hf,by cases List.mem_singleton.mp z;rfl⟩),by omega,by omega⟩
     ·by_cases e:k=(r.point,i)
      ·subst e
       rw[if_pos rfl,if_neg (fun z=>Nat.lt_irrefl _ z.2.1),List.append_nil]
       refine congrArg (stepsV p (r.point,i)++ ·) ?_
       symm
       exact if_pos ⟨rfl,Nat.lt_succ_self _,hf⟩
      ·rw[if_neg e]
       congr 1
       by_cases z:k.1=r.point∧k.2<i∧Kcv7.fits r k.2 k.1=true
       ·rw[if_pos z,if_pos ⟨z.1,by have:=z.2.1;omega,z.2.2⟩]
       ·rw[if_neg z,if_neg]
        exact fun y=>z ⟨y.1,by have:k.2≠i:=fun e'=>e (Prod.ext y.1 e');have:=y.2.1;omega,y.2.2⟩
     ·by_cases e:v=i
      ·subst e;exact List.mem_append_right _ (List.mem_singleton.mpr rfl)
      ·exact List.mem_append_left _ (hcov v (by omega) hf')
    have h6:(∀k,((fun k:Pl=>stepsV p k++(if k.1=r.point∧k.2<i∧Kcv7.fits r k.2 k.1=true then [KG.stp p p.rules.length r k.2] else [])) k).length≤1000):=fun k=>by
     have:=steps_len (p:=p) (k:=k)
     have e2:=len_ite (c:=k.1=r.point∧k.2<i∧Kcv7.fits r k.2 k.1=true) (x:=KG.stp p p.rules.length r k.2)
     exact Nat.le_trans (len_app e2) (by omega)
    have h1e:r.kind=1→Kcv7.entry p r.to_<p.points∧r.next<p.points:=fun e=>⟨W.entry r.to_,(W.to1 r hrm e).2⟩
    have h0e:r.kind=0→r.to_<p.points:=fun e=>W.to0 r hrm e
    have go:∀(H1:Hp) (p0 j0:Addr),Go S0 o' H' o' H1→PlT H1 p0 (r.point,i)→PlT H1 j0 ((if r.kind=1 then Kcv7.entry p r.to_ else r.to_),Kcv7.after r i)→∀{Q:VK} {E:XK},(∀(H2:Hp),(∀x7 x8,Inv (i+1) [some (.ref Ro),some (nV r.point),some (nV r.when),some (nV r.kind),some (nV r.set),some (nV (if r.kind=1 then Kcv7.entry p r.to_ else r.to_)),some (nV r.next),x7,x8] H2)→Q .non H2)→
      spRAddStep a [.ref Ro,.ref p0,nV r.kind,.ref j0,nV r.next] H1 Q E:=by
     intro H1 p0 j0 g1 hp0 hj0 Q E hQ
     refine⟨Ro,dx,pl,st,B,p0,j0,gv,_,_,o',b,Kk,O,rs,_,_,_,_,_,rfl,g1.own,g1.unf (g.unf hR.unf),g1.fr _ _ hob (fun _ _ z=>z),g.tag hR.tR,g.tag hR.tst,hst.go tups_S g1 (g.tag hR.tst) (fun z=>z) (fun _ z=>z),hB.same g1 (fun z=>z) (fun _ z=>z.elim),hp0,hj0,⟨Nat.lt_of_lt_of_le hpt hp32,hi4⟩,?_,?_,h6,by omega,by omega,fun o2 H2 O2 g2 e1 e2 e3 e4=>hQ H2 fun x7 x8=> ?_⟩
     ·intro hk
      refine⟨?_,Nat.lt_of_lt_of_le (W.afterV hrm hi) hv4⟩
      show (if r.kind=1 then Kcv7.entry p r.to_ else r.to_)<32
      by_cases e:r.kind=1
      ·rw[if_pos e];exact Nat.lt_of_lt_of_le (h1e e).1 hp32
      ·rw[if_neg e];exact Nat.lt_of_lt_of_le (h0e (by omega)) hp32
     ·exact fun e=>Nat.lt_of_lt_of_le (h1e e).2 hp32
     ·rw[recFor_of] at e3 e4
      exact fin x7 x8 o2 H2 O2 ((g1.mono fun _ z=>z.elim).trans g2) e1 e2 e3 e4
    have eaV:r.set=4→Kcv7.after r i=i:=fun e=>by unfold Kcv7.after;exact if_pos e
    have eaN:r.set≠4→Kcv7.after r i=r.set:=fun e=>by unfold Kcv7.after;exact if_neg e
    rcases hc' with h4|⟨h4,h5⟩
    ·refine⟨_,rfl,rfl,_,rfl,ifT (dT (by rw[h4];rfl)) (iteT ?_)⟩
     by_cases hs:r.set=4
     ·refine⟨_,rfl,rfl,_,rfl,ifT (dT (by rw[hs];rfl)) ⟨_,rfl,_,rfl,Ro,dx,_,rfl,hob,rfl,_,rfl,_,rfl,by show 2≤sizeLine;decide,fun t ht=> ?_⟩⟩
      refine⟨_,rfl,_,rfl,_,rfl,by show 2≤sizeLine;decide,fun t' ht'=>⟨_,rfl,?_⟩⟩
      have g1:Go S0 o' H' o' _:=Go.alloc g.own ht (.tup [nV r.point,V.int (0+(i:Int))])
      have g2:Go S0 o' _ o' _:=Go.alloc g1.own ht' (.tup [nV (if r.kind=1 then Kcv7.entry p r.to_ else r.to_),V.int (0+(i:Int))])
      dsimp only[tNil]
      refine go _ t t' (g1.trans g2) (g2.tup (by rw[upd_same,ei];rfl)) (by unfold PlT;rw[upd_same,ei,eaV hs];rfl) fun H2 hv=> ?_
      exact hv _ _
     ·refine⟨_,rfl,rfl,_,rfl,ifF (dF (by omega)) ⟨_,rfl,_,rfl,Ro,dx,_,rfl,hob,rfl,_,rfl,_,rfl,by show 2≤sizeLine;decide,fun t ht=> ?_⟩⟩
      refine⟨_,rfl,_,rfl,_,rfl,by show 2≤sizeLine;decide,fun t' ht'=>⟨_,rfl,?_⟩⟩
      have g1:Go S0 o' H' o' _:=Go.alloc g.own ht (.tup [nV r.point,V.int (0+(i:Int))])
      have g2:Go S0 o' _ o' _:=Go.alloc g1.own ht' (.tup [nV (if r.kind=1 then Kcv7.entry p r.to_ else r.to_),nV r.set])
      dsimp only[tNil]
      refine go _ t t' (g1.trans g2) (g2.tup (by rw[upd_same,ei];rfl)) (by unfold PlT;rw[upd_same,eaN hs]) fun H2 hv=> ?_
      exact hv _ _
    ·refine⟨_,rfl,rfl,_,rfl,ifF (dF (by omega)) ⟨_,rfl,_,rfl,rfl,_,rfl,ifT (dT (by omega)) ?_⟩⟩
     by_cases hs:r.set=4
     ·refine⟨_,rfl,rfl,_,rfl,ifT (dT (by rw[hs];rfl)) ⟨_,rfl,_,rfl,Ro,dx,_,rfl,hob,rfl,_,rfl,_,rfl,by show 2≤sizeLine;decide,fun t ht=> ?_⟩⟩
      refine⟨_,rfl,_,rfl,_,rfl,by show 2≤sizeLine;decide,fun t' ht'=>⟨_,rfl,?_⟩⟩
      have g1:Go S0 o' H' o' _:=Go.alloc g.own ht (.tup [nV r.point,V.int (0+(i:Int))])
      have g2:Go S0 o' _ o' _:=Go.alloc g1.own ht' (.tup [nV (if r.kind=1 then Kcv7.entry p r.to_ else r.to_),V.int (0+(i:Int))])
      dsimp only[tNil]
      refine go _ t t' (g1.trans g2) (g2.tup (by rw[upd_same,ei];rfl)) (by unfold PlT;rw[upd_same,ei,eaV hs];rfl) fun H2 hv=> ?_
      exact hv _ _
     ·refine⟨_,rfl,rfl,_,rfl,ifF (dF (by omega)) ⟨_,rfl,_,rfl,Ro,dx,_,rfl,hob,rfl,_,rfl,_,rfl,by show 2≤sizeLine;decide,fun t ht=> ?_⟩⟩
      refine⟨_,rfl,_,rfl,_,rfl,by show 2≤sizeLine;decide,fun t' ht'=>⟨_,rfl,?_⟩⟩
      have g1:Go S0 o' H' o' _:=Go.alloc g.own ht (.tup [nV r.point,V.int (0+(i:Int))])
      have g2:Go S0 o' _ o' _:=Go.alloc g1.own ht' (.tup [nV (if r.kind=1 then Kcv7.entry p r.to_ else r.to_),nV r.set])
      dsimp only[tNil]
      refine go _ t t' (g1.trans g2) (g2.tup (by rw[upd_same,ei];rfl)) (by unfold PlT;rw[upd_same,eaN hs]) fun H2 hv=> ?_
      exact hv _ _
   ·refine⟨_,rfl,rfl,_,rfl,ifF (dF (by omega)) ⟨_,rfl,_,rfl,rfl,_,rfl,ifF (dF (by omega)) ?_⟩⟩
    refine⟨_,_,o',O,rs,rfl,g,hob,hst.congr fun k=> ?_,hB,hS,hC,hin,fun v hv hf'=> ?_,hsr,by omega,hl2⟩
    ·congr 1
     by_cases z:k.1=r.point∧k.2<i∧Kcv7.fits r k.2 k.1=true
     ·rw[if_pos z,if_pos ⟨z.1,by have:=z.2.1;omega,z.2.2⟩]
     ·rw[if_neg z,if_neg]
      exact fun y=>z ⟨y.1,by have:k.2≠i:=(fun e'=>hc (by have:=(fits_at.mp y.2.2).2;rw[e'] at this;exact this));have:=y.2.1;omega,y.2.2⟩
    ·by_cases e:v=i
     ·subst e;exact absurd (fits_at.mp hf').2 hc
     ·exact hcov v (by omega) hf'
  ·rintro σ H' ⟨x7,x8,o',O,rs,rfl,g,hob,hst,hB,hS,hC,hin,hcov,hsr,hl1,hl2⟩
   obtain⟨g1,b1⟩:=fld_set (S:=fun t=>t= .rn) (fs':=rfs p.values pl (p.rules.length+1) st B gv) g.own hob (g.tag hR.tR) rfl
   refine⟨_,rfl,Ro,_,_,_,_,rfl,hob,T.cl_C3,T.na_i,rfl,_,_,rfl,rfl,_,_,hob,by show 6<1000;decide,?_⟩
   have ee:putF "rule_count" (.int ((p.rules.length:Int)+1)) (rfs p.values pl p.rules.length st B gv)=rfs p.values pl (p.rules.length+1) st B gv:=rfl
   rw[ee]
   generalize upd H' Ro (.ins a.c_C3 dx (rfs p.values pl (p.rules.length+1) st B gv))=H1 at*
   obtain⟨g2,b2⟩:=fld_set (S:=fun t=>t= .rn) (fs':=rfs p.values pl (p.rules.length+1) st B .non) g1.own b1 (g1.tag (g.tag hR.tR)) rfl
   refine⟨_,rfl,Ro,_,_,_,rfl,b1,T.cl_C3,T.na_l,by show 6<1000;decide,?_⟩
   have ee:putF "graph" .non (rfs p.values pl (p.rules.length+1) st B gv)=rfs p.values pl (p.rules.length+1) st B .non:=rfl
   rw[ee]
   have g12:=g1.trans g2
   generalize upd H1 Ro (.ins a.c_C3 dx (rfs p.values pl (p.rules.length+1) st B .non))=H2 at*
   have ga:Go Srn o H o' H2:=(g.mono ss_srn).trans (g12.mono fun t z=>by cases z;exact⟨(fun z=>nomatch z),(fun z=>nomatch z),(fun z=>nomatch z)⟩)
   have gp:Go (fun t=>SS t∨t= .rn) o H o' H2:=(g.mono fun _ z=> .inl z).trans (g12.mono fun _ z=> .inr z)
   have npl:¬(SS .pl∨Tag.pl= .rn):=fun z=>by
    rcases z with (z|z)|z
    ·exact sst_not (t:= .pl) (fun z=>nomatch z) (fun _ z=>nomatch z) z
    ·exact sa_not (t:= .pl) (fun z=>z) z
    ·cases z
   have hlen:(addR p r).rules.length=p.rules.length+1:=len_snoc
   refine q o' H2 O rs ga ⟨ga.own,ga.unf hR.unf,W,by rw[hlen];exact b2,ga.tag hR.tR,ga.tag hR.tpl,?_,ga.tag hR.tst,(hst.go tups_S g12 (g.tag hR.tst) (fun z=>nomatch z) (fun _ z=>nomatch z)).congr fun k=> ?_,hB.same g12 (fun z=>nomatch z) (fun t z=>by cases z;exact fun q=>q),hS,hC,?_,hsr,by omega,hl2,by omega⟩
   ·obtain⟨xs,e1,e2⟩:=hR.pls
    exact⟨xs,gp.at e1 hR.tpl npl,Paired.mapP e2 fun x y z=>tups_P _ _ (fun b zs e=>gp.tup e) x y z⟩
   ·rw[steps_add]
    congr 1
    by_cases z:k.1=r.point∧k.2<p.values∧Kcv7.fits r k.2 k.1=true
    ·rw[if_pos z,if_pos ⟨by rw[z.1];exact hpt,z.2⟩]
    ·rw[if_neg z,if_neg fun y=>z ⟨(fits_at.mp y.2.2).1.symm,y.2⟩]
   ·intro r' hr' v hv hf
    rcases List.mem_append.mp hr' with z|z
    ·exact hin _ (hR.cov r' z v hv hf)
    ·cases List.mem_singleton.mp z
     exact hcov v hv hf
end R
end
section
set_option maxHeartbeats 400000
namespace R
open PySem PySem.Spec PyProof.Rows L2
open KA (Pl InP get put)
open KTh (Kn Off Rec Cov Cl1 IsMin WF Bk By)
open KG (Stp stepsOf Eg EgAt Val GB GOk KOk)
open KL (Nn Mm Gd Ld In1)
variable {P:Program} {w:World} {K:PySem.W.Frag} {mg:Str→Option Value} {base:Heap} {a:Ad}
def SR:Tag→Prop
 | .rn| .pl| .st| .stL _| .bk=>True
 |t=>SB t
def Sgg:Tag→Prop
 | .gr| .ei| .eiD _| .ec| .dt| .dtD _| .en| .cb=>True
 |_=>False
theorem sgg_sr:∀t,Sgg t→¬SR t:=fun t h z=>by cases t<;>first|exact h|exact z
theorem sgg_srn:∀t,Sgg t→Srn t:=fun t h=>by cases t<;>first|exact h.elim|exact⟨(fun z=>nomatch z),(fun z=>nomatch z),(fun z=>nomatch z)⟩
theorem sgr_gg:∀t,Sgr t→Sgg t:=fun t z=>by rcases z with rfl|rfl|⟨k,rfl⟩|rfl<;>trivial
theorem sd_gg:∀t,SD t→Sgg t:=fun t z=>by rcases z with rfl|⟨k,rfl⟩<;>trivial
theorem sen_gg:∀t,Sen t→Sgg t:=fun t z=>by rcases z with rfl|rfl<;>trivial
theorem scb_gg:∀t,Scb t→Sgg t:=fun t z=>by rcases z with rfl|rfl<;>trivial
theorem st_not_gg:∀t,Sgg t→¬ST t:=fun t h z=>by rcases z with rfl|⟨k,rfl⟩|rfl<;>exact h
theorem st_srn:∀t,ST t→Srn t:=fun t z=>by rcases z with rfl|⟨k,rfl⟩|rfl<;>exact⟨(fun z=>nomatch z),(fun z=>nomatch z),(fun z=>nomatch z)⟩
section
variable {o o':Ow} {H H':Hp} {Ro dx pl st B G:Addr} {gv:V} {p:Kcv7.Prog} {b:BA} {Kk:Kn} {O:List Off} {rs:List Rec} {S:Tag→Prop}
theorem RB.same (h:RB a o H Ro dx pl st B gv p b Kk O rs) (g:Go S o H o' H') (n:∀t,S t→¬SR t):RB a o' H' Ro dx pl st B gv p b Kk O rs where
 own:=g.own
 unf:=g.unf h.unf
 wf:=h.wf
 obj:=g.at h.obj h.tR fun z=>n _ z trivial
 tR:=g.tag h.tR
 tpl:=g.tag h.tpl
 pls:=by
  obtain⟨xs,e1,e2⟩:=h.pls
  exact⟨xs,g.at e1 h.tpl fun z=>n _ z trivial,Paired.mapP e2 fun x y z=>tups_P _ _ (fun b zs e=>g.tup e) x y z⟩
 tst:=g.tag h.tst
 hst:=h.hst.go tups_S g h.tst (fun z=>n _ z trivial) (fun k z=>n _ z trivial)
 bk:=h.bk.same g (fun z=>n _ z trivial) (fun t z y=>n _ z (by cases t<;>first|exact y|exact trivial))
 snd:=h.snd
 cl:=h.cl
 cov:=h.cov
 src:=h.src
 lr:=h.lr
 lo:=h.lo
 l64:=h.l64
theorem RB.kok (h:RB a o H Ro dx pl st B gv p b Kk [] rs):KOk p Kk:=fun v i w hv=>
 KTh.closed_min h.wf (fun v i w n e=>(h.snd.kn v i w n e).2) (fun r hr v hv hf=>h.cl _ (h.cov r hr v hv hf)) hv
theorem RB.kn_uniq {o1:Ow} {H1:Hp} {Ro1 dx1 pl1 st1 B1:Addr} {gv1:V} {b1:BA} {Kk1:Kn} {rs1:List Rec} (h:RB a o H Ro dx pl st B gv p b Kk [] rs) (h1:RB a o1 H1 Ro1 dx1 pl1 st1 B1 gv1 p b1 Kk1 [] rs1):Kk1=Kk:=by
 funext v i w
 by_cases hv:v<p.values
 ·exact(h1.kok v i w hv).uniq (h.kok v i w hv)
 ·have e1:Kk1 v i w=none:=by
   cases e:Kk1 v i w with
   |none=>rfl
   |some n=>exact absurd (h1.snd.kn v i w n e).1 hv
  have e2:Kk v i w=none:=by
   cases e:Kk v i w with
   |none=>rfl
   |some n=>exact absurd (h.snd.kn v i w n e).1 hv
  rw[e1,e2]
end
theorem RB.took {o o2:Ow} {H H2:Hp} {Ro dx pl st B:Addr} {gv:V} {p:Kcv7.Prog} {b:BA} {Kk Kk2:Kn} {O:List Off} {rs:List Rec} (h1:RB a o H Ro dx pl st B gv p b Kk O rs) (g2:Go ST o H o2 H2) (hB2:BK a.c_C0 o2 H2 B b Kk2 [] rs) (hS2:Snd (SP p) Kk2 [] rs) (hC2:∀r∈rs,Cl1 Kk2 [] r):RB a o2 H2 Ro dx pl st B gv p b Kk2 [] rs:=by
 have nST:∀{t:Tag},t≠ .kn→(∀k,t≠ .knD k)→t≠ .of→¬ST t:=fun a1 a2 a3 z=>z.elim a1 fun z=>z.elim (fun⟨k,z⟩=>a2 k z) a3
 exact⟨g2.own,g2.unf h1.unf,h1.wf,g2.at h1.obj h1.tR (nST (fun z=>nomatch z) (fun _ z=>nomatch z) (fun z=>nomatch z)),g2.tag h1.tR,g2.tag h1.tpl,(by
    obtain⟨xs,e1,e2⟩:=h1.pls
    exact⟨xs,g2.at e1 h1.tpl (nST (fun z=>nomatch z) (fun _ z=>nomatch z) (fun z=>nomatch z)),Paired.mapP e2 fun x y z=>tups_P _ _ (fun b zs e=>g2.tup e) x y z⟩),g2.tag h1.tst,h1.hst.go tups_S g2 h1.tst (nST (fun z=>nomatch z) (fun _ z=>nomatch z) (fun z=>nomatch z)) (fun k=>nST (fun z=>nomatch z) (fun _ z=>nomatch z) (fun z=>nomatch z)),hB2,hS2,hC2,h1.cov,h1.src,h1.lr,Nat.zero_le _,h1.l64⟩
noncomputable def last2 (p:Kcv7.Prog) (cnt:Pl→Option Nat):List Pl:=(placesL p.values p.points).filter fun k=> !(stepsV p k).isEmpty&&(cnt k).isNone
structure GS (a:Ad) (o:Ow) (H:Hp) (G pl st:Addr) (p:Kcv7.Prog) (Kk:Kn) (ga:GA) (en cb:V) (E:Pl→List (Pl×Nat)) (X:List (Pl×Pl)) (cnt:Pl→Option Nat):Prop where
 gx:GX a.c_C1 o H G ga en cb E cnt
 gb:GB (fun s' c' f'=>Val p s'∧EgAt p Kk s' c' f') E X cnt
 tdt:o ga.dt=some .dt
 dt:DtR o H ga.dt E
 epl:ga.pl=pl
 est:ga.st=st
 en_:EnR o H en .en (Gd X (lastP (placesL p.values p.points) cnt))
 cb_:EnR o H cb .cb (Gd X (last2 p cnt))
theorem GS.same {o o':Ow} {H H':Hp} {G pl st:Addr} {p:Kcv7.Prog} {Kk:Kn} {ga:GA} {en cb:V} {E:Pl→List (Pl×Nat)} {X:List (Pl×Pl)} {cnt:Pl→Option Nat} {S:Tag→Prop} (h:GS a o H G pl st p Kk ga en cb E X cnt) (g:Go S o H o' H') (n:∀t,Sgg t→¬S t):GS a o' H' G pl st p Kk ga en cb E X cnt:=
 ⟨h.gx.go g (n _ trivial) (fun t z=>n t (sgr_gg t (.inr z))),h.gb,g.tag h.tdt,h.dt.go g h.tdt (n _ trivial) (fun k=>n _ trivial),h.epl,h.est,h.en_.go g (n _ trivial),h.cb_.go g (n _ trivial)⟩
theorem GS.gok {o:Ow} {H:Hp} {G pl st:Addr} {p:Kcv7.Prog} {Kk:Kn} {ga:GA} {en cb:V} {E:Pl→List (Pl×Nat)} {X:List (Pl×Pl)} {cnt:Pl→Option Nat} (h:GS a o H G pl st p Kk ga en cb E X cnt):GOk p Kk E X:=⟨h.gb.mn,h.gb.ndE,h.gb.ndX,fun s f=>(h.gb.mX s f).trans ⟨fun⟨c,z⟩=>⟨z.1,c,z.2⟩,fun⟨z,c,y⟩=>⟨c,z,y⟩⟩⟩
theorem GS.dist {o o':Ow} {H H':Hp} {G pl st:Addr} {p:Kcv7.Prog} {Kk:Kn} {ga:GA} {en cb:V} {E:Pl→List (Pl×Nat)} {X:List (Pl×Pl)} {cnt:Pl→Option Nat} (h:GS a o H G pl st p Kk ga en cb E X cnt) (g:Go SD o H o' H') (hD:DtR o' H' ga.dt E):GS a o' H' G pl st p Kk ga en cb E X cnt:=by
 have n:∀{t:Tag},t≠ .dt→(∀k,t≠ .dtD k)→¬SD t:=fun a1 a2 z=>z.elim a1 fun⟨k,z⟩=>a2 k z
 exact⟨h.gx.go g (n (fun z=>nomatch z) (fun _ z=>nomatch z)) (fun t z=>by rcases z with rfl|⟨k,rfl⟩|rfl<;>exact n (fun z=>nomatch z) (fun _ z=>nomatch z)),h.gb,g.tag h.tdt,hD,h.epl,h.est,h.en_.go g (n (fun z=>nomatch z) (fun _ z=>nomatch z)),h.cb_.go g (n (fun z=>nomatch z) (fun _ z=>nomatch z))⟩
def GK (a:Ad) (o:Ow) (H:Hp) (pl st:Addr) (gv:V) (p:Kcv7.Prog) (Kk:Kn) (O:List Off):Prop:=gv= .non∨(O= []∧∃G ga en cb E X cnt,gv= .ref G∧GS a o H G pl st p Kk ga en cb E X cnt)
def RS (a:Ad) (o:Ow) (H:Hp) (Ro:Addr) (p:Kcv7.Prog):Prop:=∃(dx pl st B:Addr) (gv:V) (b:BA) (Kk:Kn) (O:List Off) (rs:List Rec),RB a o H Ro dx pl st B gv p b Kk O rs∧GK a o H pl st gv p Kk O
theorem RS.same {o o':Ow} {H H':Hp} {Ro:Addr} {p:Kcv7.Prog} {S:Tag→Prop} (h:RS a o H Ro p) (g:Go S o H o' H') (n:∀t,S t→¬Srn t):RS a o' H' Ro p:=by
 obtain⟨dx,pl,st,B,gv,b,Kk,O,rs,h1,h2⟩:=h
 refine⟨dx,pl,st,B,gv,b,Kk,O,rs,h1.same g fun t z y=>n t z ⟨fun e=>(by rw[e] at y;exact y),fun e=>(by rw[e] at y;exact y),fun e=>(by rw[e] at y;exact y)⟩,?_⟩
 rcases h2 with h2|⟨h2,G,ga,en,cb,E,X,cnt,h3,h4⟩
 ·exact .inl h2
 ·exact .inr ⟨h2,G,ga,en,cb,E,X,cnt,h3,h4.same g fun t z y=>n t y (sgg_srn t z)⟩
def spNow (a:Ad):Sp:=fun vs H Q _=>∃(Ro:Addr) (o:Ow) (p:Kcv7.Prog),vs= [.ref Ro]∧RS a o H Ro p∧
 ∀(o':Ow) (H':Hp) (dx pl st B G:Addr) (b:BA) (Kk:Kn) (rs:List Rec) (ga:GA) (en cb:V) (E:Pl→List (Pl×Nat)) (X:List (Pl×Pl)) (cnt:Pl→Option Nat),Go Srn o H o' H'→RB a o' H' Ro dx pl st B (.ref G) p b Kk [] rs→GS a o' H' G pl st p Kk ga en cb E X cnt→Q (.ref G) H'
theorem ok_w (T:Txt K mg a):FnOk P w K mg base CX0 8 a.f_w a.d_w ["self"] (spNow a):=by
 have G_a:=ok_a (P:=P) (w:=w) (base:=base) T
 have G_f:=ok_f (P:=P) (w:=w) (base:=base) T
 refine T.F_w.ok sc_w (fun vs H Q E h=> ?_) (fun cdv A outer s H vs Q E hr h=> ?_)
 ·obtain⟨Ro,o,p,rfl,_⟩:=h
  rfl
 ·obtain⟨Ro,o,p,rfl,⟨dx,pl,st,B,gv,b,Kk,O,rs,h1,h2⟩,q⟩:=h
  have hu:=hu_of hr
  refine⟨_,(pss_cons (ps_if (pt_cmpR op_isN (pe_fld (pv 0) rfl) pe_non (nomark _)) (pss_cons (ps_expr (pe_meth0 (pe_fld (pv 0) rfl) T.cl_C0 T.m_a G_a (hr.mono (by decide)) T.b_a .nil pass0))
   (pss_one (ps_fld (pv 0) (pe_make T.mk_C1 G_f (hr.mono (by decide)) rfl T.mg_C1 T.b_f .nil pass0 (pa_cons (pe_fld (pv 0) rfl) (pa_cons (pe_fld (pv 0) rfl) (pa_cons (pe_fld (pv 0) rfl) pa_nil)))) rfl))) pss_nil)
   (pss_one (ps_ret (pe_fld (pv 0) rfl)))),?_⟩
  rcases h2 with rfl|⟨rfl,G,ga,en,cb,E,X,cnt,rfl,h4⟩
  ·refine⟨_,rfl,Ro,_,_,_,_,rfl,h1.obj,T.cl_C3,T.na_l,rfl,rfl,_,rfl,iteT ?_⟩
   have hlr:=h1.lr
   have hlo:=h1.lo
   have h64:=h1.l64
   refine⟨_,rfl,Ro,_,_,_,_,rfl,h1.obj,T.cl_C3,T.na_k,rfl,B,b.dx,_,rfl,h1.bk.obj,rfl,B,o,b,Kk,O,rs,SP p,rfl,h1.own,h1.unf,h1.bk,h1.snd,h1.cl,by omega,fun o2 H2 Kk2 g2 hB2 hS2 hC2=> ?_⟩
   have r2:=h1.took g2 hB2 hS2 hC2
   refine⟨_,rfl,Ro,_,_,_,_,rfl,r2.obj,T.cl_C3,T.na_h,rfl,_,rfl,Ro,_,_,_,_,rfl,r2.obj,T.cl_C3,T.na_j,rfl,_,rfl,Ro,_,_,_,_,rfl,r2.obj,T.cl_C3,T.na_k,rfl,fun G dG nG ndG neG=> ?_⟩
   have gB1:Go Sgg o2 H2 o2 (upd H2 dG (.own G)):=Go.alloc g2.own ndG _
   have hGn:(upd H2 dG (.own G)) G=none:=by rw[upd_ne neG.symm];exact nG
   have gB2:Go Sgg o2 (upd H2 dG (.own G)) (oput o2 G .gr) (upd (upd H2 dG (.own G)) G (.ins a.c_C1 dG [])):=Go.allocT gB1.own hGn _ _ rfl rfl
   have gB:=gB1.trans gB2
   have r3:=r2.same gB sgg_sr
   refine⟨G,dG,pl,st,B,oput o2 G .gr,b,Kk2,[],rs,p,rfl,upd_same,gB2.own,oput_same,h1.wf,r3.bk,r3.tst,r3.unf,r3.hst,fun o4 H4 dx' ei ec dt E X cnt g4 hX hGB tdt hdt=>⟨rfl,?_⟩⟩
   have g4':=g4.mono sgr_gg
   have r4:=r3.same g4' sgg_sr
   obtain⟨g5,b5⟩:=fld_set (S:=fun t=>t= .rn) (fs':=rfs p.values pl p.rules.length st B (.ref G)) r4.own r4.obj r4.tR rfl
   refine⟨_,rfl,Ro,_,dx,_,rfl,r4.obj,T.cl_C3,T.na_l,by show 6<1000;decide,?_⟩
   have ee:putF "graph" (.ref G) (rfs p.values pl p.rules.length st B .non)=rfs p.values pl p.rules.length st B (.ref G):=rfl
   rw[ee]
   generalize upd H4 Ro (.ins a.c_C3 dx (rfs p.values pl p.rules.length st B (.ref G)))=H5 at*
   have n5:∀{t:Tag},t≠ .rn→¬(t= .rn):=fun h=>h
   have g25:Go Srn o H o4 H5:=((g2.mono st_srn).trans ((gB.trans g4').mono sgg_srn)).trans (g5.mono fun t z=>by cases z;exact⟨(fun z=>nomatch z),(fun z=>nomatch z),(fun z=>nomatch z)⟩)
   have r5:RB a o4 H5 Ro dx pl st B (.ref G) p b Kk2 [] rs:=⟨g5.own,g5.unf r4.unf,r4.wf,b5,r4.tR,r4.tpl,(by
    obtain⟨xs,e1,e2⟩:=r4.pls
    exact⟨xs,g5.at e1 r4.tpl (fun z=>nomatch z),Paired.mapP e2 fun x y z=>tups_P _ _ (fun b zs e=>g5.tup e) x y z⟩),r4.tst,r4.hst.go tups_S g5 r4.tst (fun z=>nomatch z) (fun k z=>nomatch z),r4.bk.same g5 (fun z=>nomatch z) (fun t z=>by cases z;exact fun q=>q),r4.snd,r4.cl,r4.cov,r4.src,r4.lr,r4.lo,r4.l64⟩
   refine⟨_,rfl,Ro,_,_,_,_,rfl,r5.obj,T.cl_C3,T.na_l,rfl,?_⟩
   have gs:GS a o4 H4 G pl st p Kk2 ⟨dx',pl,st,ei,ec,dt⟩ .non .non E X cnt:=⟨hX,hGB,tdt,⟨[],hdt,List.nodup_nil,fun k h=>(by cases h),fun k d e=>(by cases e)⟩,rfl,rfl,.inl rfl,.inl rfl⟩
   exact q o4 H5 dx pl st B G b Kk2 rs _ _ _ E X cnt g25 r5 (gs.same g5 fun t z y=>by cases y;exact z)
  ·refine⟨_,rfl,Ro,_,_,_,_,rfl,h1.obj,T.cl_C3,T.na_l,rfl,rfl,_,rfl,iteF ?_⟩
   refine⟨_,rfl,Ro,_,_,_,_,rfl,h1.obj,T.cl_C3,T.na_l,rfl,?_⟩
   exact q o H dx pl st B G b Kk rs ga en cb E X cnt (Go.refl h1.own) h1 h4
noncomputable def optV:Kcv7.Few→V
 |none=> .non
 |some n=>nV n
def spTill (a:Ad):Sp:=fun vs H Q _=>∃(Ro k0:Addr) (o:Ow) (p:Kcv7.Prog) (k:Pl) (x:Nat),vs= [.ref Ro,.ref k0,nV x]∧RS a o H Ro p∧PlT H k0 k∧Val p k∧
 ∀(o':Ow) (H':Hp),Go Srn o H o' H'→RS a o' H' Ro p→Q (optV (Kcv7.look (Kcv7.table p) k.2 k.1 x)) H'
theorem ok_x (T:Txt K mg a):FnOk P w K mg base CX0 8 a.f_x a.d_x ["self","place","end"] (spTill a):=by
 have G_a:=ok_a (P:=P) (w:=w) (base:=base) T
 have G_6:=ok_6 (P:=P) (w:=w) (base:=base) T
 refine T.F_x.ok sc_x (fun vs H Q E h=> ?_) (fun cdv A outer s H vs Q E hr h=> ?_)
 ·obtain⟨Ro,k0,o,p,k,x,rfl,_⟩:=h
  rfl
 ·obtain⟨Ro,k0,o,p,k,x,rfl,⟨dx,pl,st,B,gv,b,Kk,O,rs,h1,h2⟩,hk,hV,q⟩:=h
  have hu:=hu_of hr
  refine⟨_,(pss_cons (ps_expr (pe_meth0 (pe_fld (pv 0) rfl) T.cl_C0 T.m_a G_a (hr.mono (by decide)) T.b_a .nil pass0))
   (pss_one (ps_ret (pe_dget1 hu (pe_meth (pe_fld (pv 0) rfl) T.cl_C0 T.m_6 G_6 (hr.mono (by decide)) T.b_6 .nil pass0 (pa_cons (pv 1) pa_nil)) (pv 2) ⟨rfl,rfl,rfl,rfl⟩)))),?_⟩
  have hlr:=h1.lr
  have hlo:=h1.lo
  have h64:=h1.l64
  refine⟨_,rfl,Ro,_,_,_,_,rfl,h1.obj,T.cl_C3,T.na_k,rfl,B,b.dx,_,rfl,h1.bk.obj,rfl,B,o,b,Kk,O,rs,SP p,rfl,h1.own,h1.unf,h1.bk,h1.snd,h1.cl,by omega,fun o2 H2 Kk2 g2 hB2 hS2 hC2=> ?_⟩
  have r2:=h1.took g2 hB2 hS2 hC2
  refine⟨_,rfl,Ro,_,_,_,_,rfl,r2.obj,T.cl_C3,T.na_k,rfl,B,b.dx,_,rfl,r2.bk.obj,rfl,_,rfl,B,k0,o2,b,Kk2,[],rs,k,rfl,r2.own,r2.bk,g2.tup hk,fun H3 d E g3 hE=> ?_⟩
  refine⟨d,rfl,.inl ⟨_,hE.rd⟩,_,rfl,_,.inl ⟨_,nk x,hE.rd,rfl,rfl⟩,?_⟩
  rw[val_eN,hE.eq,r2.kok.look h1.wf hV.2]
  have r3:=r2.same g3 (fun _ z=>z.elim)
  have g23:Go Srn o H o2 H3:=(g2.mono st_srn).trans (g3.mono fun _ z=>z.elim)
  have rs3:RS a o2 H3 Ro p:=⟨dx,pl,st,B,gv,b,Kk2,[],rs,r3,by
   rcases h2 with h2|⟨rfl,G,ga,en,cb,E,X,cnt,h3,h4⟩
   ·exact .inl h2
   ·refine .inr ⟨rfl,G,ga,en,cb,E,X,cnt,h3,?_⟩
    rw[h1.kn_uniq r2]
    exact(h4.same g2 st_not_gg).same g3 fun _ _ z=>z⟩
  have:=q o2 H3 g23 rs3
  cases e:Kcv7.look (Kcv7.table p) k.2 k.1 x with
  |none=>rw[e] at this;exact this
  |some n=>rw[e] at this;exact this
def spTo (a:Ad):Sp:=fun vs H Q _=>∃(Ro k0 j0:Addr) (o:Ow) (p:Kcv7.Prog) (k j:Pl),vs= [.ref Ro,.ref k0,.ref j0]∧RS a o H Ro p∧PlT H k0 k∧Val p k∧PlT H j0 j∧Val p j∧
 ∀(o':Ow) (H':Hp),Go Srn o H o' H'→RS a o' H' Ro p→Q (optV (dist p j k)) H'
theorem ok_y (T:Txt K mg a):FnOk P w K mg base CX0 9 a.f_y a.d_y ["self","place","target"] (spTo a):=by
 have G_i:=ok_i (P:=P) (w:=w) (base:=base) T
 have G_w:=ok_w (P:=P) (w:=w) (base:=base) T
 refine T.F_y.ok sc_y (fun vs H Q E h=> ?_) (fun cdv A outer s H vs Q E hr h=> ?_)
 ·obtain⟨Ro,k0,j0,o,p,k,j,rfl,_⟩:=h
  rfl
 ·obtain⟨Ro,k0,j0,o,p,k,j,rfl,hR,hk,hV,hj,hJ,q⟩:=h
  have hR':=hR
  obtain⟨dx,pl,st,B,gv,b,Kk,O,rs,h1,h2⟩:=hR
  have hu:=hu_of hr
  refine⟨_,(pss_one (ps_ret (pe_dget1 hu (pe_meth (pe_meth0 (pv 0) T.cl_C3 T.m_w G_w (hr.mono (by decide)) T.b_w .nil pass0) T.cl_C1 T.m_i G_i (hr.mono (by decide)) T.b_i .nil pass0 (pa_cons (pv 2) pa_nil)) (pv 1) ⟨rfl,rfl,rfl,rfl⟩))),?_⟩
  refine⟨_,rfl,Ro,dx,_,rfl,h1.obj,rfl,Ro,o,p,rfl,hR',fun o2 H2 dx pl st B G b Kk rs ga en cb E X cnt g2 r2 gs2=> ?_⟩
  refine⟨G,ga.dx,_,rfl,gs2.gx.obj,rfl,_,rfl,G,j0,o2,ga,en,cb,E,cnt,j,rfl,r2.own,r2.unf,gs2.gx,gs2.tdt,gs2.dt,g2.tup hj,hJ.inp r2.wf,fun o3 H3 d F g3 hD td hd hm=> ?_⟩
  refine⟨d,rfl,.inr ⟨_,.inl hd⟩,_,rfl,_,DGet.t (k:=pk k) hd (show PlT H3 k0 k from g3.tup (g2.tup hk)),?_⟩
  rw[val_eP,GOk.far r2.wf r2.kok gs2.gok hV hJ (hm k)]
  have r3:=r2.same g3 fun t z=>sgg_sr t (sd_gg t z)
  have gs3:GS a o3 H3 G pl st p Kk ga en cb E X cnt:=gs2.dist g3 hD
  have:=q o3 H3 (g2.trans (g3.mono fun t z=>sgg_srn t (sd_gg t z))) ⟨dx,pl,st,B,_,b,Kk,[],rs,r3,.inr ⟨rfl,G,ga,en,cb,E,X,cnt,rfl,gs3⟩⟩
  unfold dist at this
  cases e:(Kcv7.from_ p (Kcv7.table p) k.2 k.1).getD (Kcv7.head j.2 j.1) none with
  |none=>rw[e] at this;exact this
  |some n=>rw[e] at this;exact this
def spEWay (a:Ad):Sp:=fun vs H Q _=>∃(Ro k0 j0:Addr) (o:Ow) (p:Kcv7.Prog) (k j:Pl) (n:Nat),vs= [.ref Ro,.ref k0,.ref j0]∧RS a o H Ro p∧PlT H k0 k∧Val p k∧PlT H j0 j∧Val p j∧dist p j k=some n∧n≤32∧
 ∀(o':Ow) (H':Hp) (l:Addr),Go Srn o H o' H'→RS a o' H' Ro p→o' l=none→H' l=some (.lst ((wayF p j n ⟨k.2,[k.1]⟩).map nV))→Q (.ref l) H'
theorem ok_z (T:Txt K mg a):FnOk P w K mg base CX0 9 a.f_z a.d_z ["self","place","target"] (spEWay a):=by
 have G_i:=ok_i (P:=P) (w:=w) (base:=base) T
 have G_s:=ok_s (P:=P) (w:=w) (base:=base) T
 have G_w:=ok_w (P:=P) (w:=w) (base:=base) T
 have G_n:=ok_n (P:=P) (w:=w) (base:=base) T
 refine T.F_z.ok sc_z (fun vs H Q E h=> ?_) (fun cdv A outer s H vs Q E hr h=> ?_)
 ·obtain⟨Ro,k0,j0,o,p,k,j,n,rfl,_⟩:=h
  rfl
 ·obtain⟨Ro,k0,j0,o,p,k,j,n,rfl,hR,hk,hV,hj,hJ,hn,hn32,q⟩:=h
  have hR':=hR
  obtain⟨dx,pl,st,B,gv,b,Kk,O,rs,h1,h2⟩:=hR
  have hu:=hu_of hr
  refine⟨_,(pss_cons (ps_set (i:=3) sc_z.nd rfl (Or.inl rfl) (pe_meth (pe_meth0 (pv 0) T.cl_C3 T.m_w G_w (hr.mono (by decide)) T.b_w .nil pass0) T.cl_C1 T.m_i G_i (hr.mono (by decide)) T.b_i .nil pass0 (pa_cons (pv 2) pa_nil)))
   (pss_one (ps_ret (pe_meth (pe_make T.mk_C2 G_n (hr.mono (by decide)) rfl T.mg_C2 T.b_n .nil pass0 (pa_cons (pe_fld (pv 0) rfl) (pa_cons (pe_fld (pv 0) rfl) (pa_cons (pe_fld (pv 0) rfl) (pa_cons (pv 3) pa_nil))))) T.cl_C2 T.m_s G_s (hr.mono (by decide)) T.b_s .nil pass0 (pa_cons (pv 1) pa_nil))))),?_⟩
  refine⟨_,rfl,Ro,dx,_,rfl,h1.obj,rfl,Ro,o,p,rfl,hR',fun o2 H2 dx pl st B G b Kk rs ga en cb E X cnt g2 r2 gs2=> ?_⟩
  refine⟨G,ga.dx,_,rfl,gs2.gx.obj,rfl,_,rfl,G,j0,o2,ga,en,cb,E,cnt,j,rfl,r2.own,r2.unf,gs2.gx,gs2.tdt,gs2.dt,g2.tup hj,hJ.inp r2.wf,fun o3 H3 d F g3 hD td hd hm=> ?_⟩
  have r3:=r2.same g3 fun t z=>sgg_sr t (sd_gg t z)
  have gs3:GS a o3 H3 G pl st p Kk ga en cb E X cnt:=gs2.dist g3 hD
  refine⟨_,rfl,Ro,_,_,_,_,rfl,r3.obj,T.cl_C3,T.na_g,rfl,_,rfl,Ro,_,_,_,_,rfl,r3.obj,T.cl_C3,T.na_j,rfl,_,rfl,Ro,_,_,_,_,rfl,r3.obj,T.cl_C3,T.na_k,rfl,_,rfl,fun Wo dW nW ndW neW=> ?_⟩
  refine⟨Wo,dW,st,B,d,p.values,rfl,upd_same,fun H5 b5 keep=>⟨rfl,?_⟩⟩
  have g5:Go S0 o3 H3 o3 H5:=Go.of_same r3.own fun c u e=>keep c u (by rw[upd_ne (ne_of_none e nW),upd_ne (ne_of_none e ndW)];exact e) (ne_of_none e nW)
  have r5:=r3.same g5 (fun _ z=>z.elim)
  have wx:WX a o3 H5 Wo p j Kk:=⟨r5.own,r5.wf,r5.kok,hJ,dW,st,B,d,b,[],rs,F,b5,r5.bk,r5.tst,r5.hst,g5.at hd td (fun z=>z),fun k' hk'=>GOk.far r2.wf r2.kok gs2.gok hk' hJ (hm k')⟩
  refine⟨Wo,dW,_,rfl,b5,rfl,_,rfl,Wo,k0,o3,p,j,k,Kk,n,rfl,wx,g5.tup (g3.tup (g2.tup hk)),hV,hn,hn32,fun H6 l g6 hl hl'=> ?_⟩
  have g56:=g5.trans g6
  exact q o3 H6 l ((g2.trans (g3.mono fun t z=>sgg_srn t (sd_gg t z))).trans (g56.mono fun _ z=>z.elim)) ⟨dx,pl,st,B,_,b,Kk,[],rs,r3.same g56 (fun _ z=>z.elim),.inr ⟨rfl,G,ga,en,cb,E,X,cnt,rfl,gs3.same g56 (fun _ _ z=>z)⟩⟩ (r5.own.free hl) hl'
theorem cnt_none {o:Ow} {H:Hp} {G pl st:Addr} {p:Kcv7.Prog} {Kk:Kn} {ga:GA} {en cb:V} {E:Pl→List (Pl×Nat)} {X:List (Pl×Pl)} {cnt:Pl→Option Nat} (h:GS a o H G pl st p Kk ga en cb E X cnt) (x:Pl):cnt x=none↔∀f,(x,f)∉X:=by
 rw[h.gb.ct]
 by_cases e:Nn X x=0
 ·rw[if_pos e]
  exact⟨fun _ f z=>absurd e (KL.Nn_pos.mpr ⟨f,z⟩),fun _=>rfl⟩
 ·rw[if_neg e]
  obtain⟨f,z⟩:=KL.Nn_pos.mp e
  exact⟨fun q=>(by cases q),fun q=>absurd z (q f)⟩
def spFor (a:Ad):Sp:=fun vs H Q _=>∃(Ro k0:Addr) (o:Ow) (p:Kcv7.Prog) (k:Pl),vs= [.ref Ro,.ref k0]∧RS a o H Ro p∧PlT H k0 k∧Val p k∧
 ∀(o':Ow) (H':Hp),Go Srn o H o' H'→RS a o' H' Ro p→Q (.bl (Kcv7.forever p (Kcv7.table p) k.2 k.1)) H'
theorem ok_A (T:Txt K mg a):FnOk P w K mg base CX0 9 a.f_A a.d_A ["self","place"] (spFor a):=by
 have G_k:=ok_k (P:=P) (w:=w) (base:=base) T
 have G_w:=ok_w (P:=P) (w:=w) (base:=base) T
 refine T.F_A.ok sc_A (fun vs H Q E h=> ?_) (fun cdv A outer s H vs Q E hr h=> ?_)
 ·obtain⟨Ro,k0,o,p,k,rfl,_⟩:=h
  rfl
 ·obtain⟨Ro,k0,o,p,k,rfl,hR,hk,hV,q⟩:=h
  have hR':=hR
  obtain⟨dx,pl,st,B,gv,b,Kk,O,rs,h1,h2⟩:=hR
  have hu:=hu_of hr
  refine⟨_,(pss_one (ps_ret (pe_cmp (pc_dnotin hu (pv 1) (pe_meth0 (pe_meth0 (pv 0) T.cl_C3 T.m_w G_w (hr.mono (by decide)) T.b_w .nil pass0) T.cl_C1 T.m_k G_k (hr.mono (by decide)) T.b_k .nil pass0))))),?_⟩
  refine⟨_,rfl,_,rfl,Ro,dx,_,rfl,h1.obj,rfl,Ro,o,p,rfl,hR',fun o2 H2 dx pl st B G b Kk rs ga en cb E X cnt g2 r2 gs2=> ?_⟩
  obtain⟨xs,e1,e2⟩:=r2.pls
  have hvp:=r2.wf.vpos
  refine⟨G,ga.dx,_,rfl,gs2.gx.obj,rfl,G,o2,ga,en,cb,E,cnt,X,_,xs,_,rfl,r2.own,r2.unf,gs2.gx,gs2.gb,by rw[gs2.epl];exact r2.tpl,by rw[gs2.epl];exact e1,e2,nodup_places,fun x hx=>(show Val p x from(mem_places hvp).mp hx).inp r2.wf,gs2.en_,fun o3 H3 d F g3 hX td hd hF=> ?_⟩
  refine⟨d,_,rfl,DGet.t (k:=pk k) hd (show PlT H3 k0 k from g3.tup (g2.tup hk)),?_⟩
  rw[val_eP]
  have hl:∀x,x∈lastP (placesL p.values p.points) cnt↔Val p x∧∀f,(x,f)∉X:=fun x=>by
   unfold lastP
   rw[List.mem_filter,mem_places hvp,Option.isNone_iff_eq_none,cnt_none gs2]
   exact Iff.rfl
  have hf:=GOk.forever r2.wf r2.kok gs2.gok hl hV
  have e0:(!((get F k).map bT).isSome)=Kcv7.forever p (Kcv7.table p) k.2 k.1:=by
   rw[Bool.eq_iff_iff,hf,←hF k,KA.get_some,Bool.not_eq_true']
   cases get F k<;>simp
  rw[e0]
  have r3:=r2.same g3 fun t z=>sgg_sr t (sen_gg t z)
  have nE:∀{t:Tag},t≠ .gr→t≠ .en→¬Sen t:=fun a1 a2 z=>z.elim a1 a2
  exact q o3 H3 (g2.trans (g3.mono fun t z=>sgg_srn t (sen_gg t z))) ⟨dx,pl,st,B,_,b,Kk,[],rs,r3,.inr ⟨rfl,G,ga,_,cb,E,X,cnt,rfl,⟨hX,gs2.gb,g3.tag gs2.tdt,gs2.dt.go g3 gs2.tdt (nE (fun z=>nomatch z) (fun z=>nomatch z)) (fun _=>nE (fun z=>nomatch z) (fun z=>nomatch z)),gs2.epl,gs2.est,.inr ⟨d,F,rfl,td,hd,hF⟩,gs2.cb_.go g3 (nE (fun z=>nomatch z) (fun z=>nomatch z))⟩⟩⟩
def spAlw (a:Ad):Sp:=fun vs H Q _=>∃(Ro k0:Addr) (o:Ow) (p:Kcv7.Prog) (k:Pl),vs= [.ref Ro,.ref k0]∧RS a o H Ro p∧PlT H k0 k∧Val p k∧
 ∀(o':Ow) (H':Hp),Go Srn o H o' H'→RS a o' H' Ro p→Q (.bl (!(Kcv7.forever p (Kcv7.table p) k.2 k.1||Kcv7.stuck p (Kcv7.table p) k.2 k.1))) H'
theorem ok_B (T:Txt K mg a):FnOk P w K mg base CX0 9 a.f_B a.d_B ["self","place"] (spAlw a):=by
 have G_l:=ok_l (P:=P) (w:=w) (base:=base) T
 have G_w:=ok_w (P:=P) (w:=w) (base:=base) T
 refine T.F_B.ok sc_B (fun vs H Q E h=> ?_) (fun cdv A outer s H vs Q E hr h=> ?_)
 ·obtain⟨Ro,k0,o,p,k,rfl,_⟩:=h
  rfl
 ·obtain⟨Ro,k0,o,p,k,rfl,hR,hk,hV,q⟩:=h
  have hR':=hR
  obtain⟨dx,pl,st,B,gv,b,Kk,O,rs,h1,h2⟩:=hR
  have hu:=hu_of hr
  refine⟨_,(pss_one (ps_ret (pe_cmp (pc_din hu (pv 1) (pe_meth0 (pe_meth0 (pv 0) T.cl_C3 T.m_w G_w (hr.mono (by decide)) T.b_w .nil pass0) T.cl_C1 T.m_l G_l (hr.mono (by decide)) T.b_l .nil pass0))))),?_⟩
  refine⟨_,rfl,_,rfl,Ro,dx,_,rfl,h1.obj,rfl,Ro,o,p,rfl,hR',fun o2 H2 dx pl st B G b Kk rs ga en cb E X cnt g2 r2 gs2=> ?_⟩
  have hvp:=r2.wf.vpos
  have hl0:∀x,x∈last2 p cnt↔stepsV p x≠ []∧cnt x=none:=fun x=>by
   unfold last2
   rw[List.mem_filter,mem_places hvp,Bool.and_eq_true,Option.isNone_iff_eq_none,Bool.not_eq_true',List.isEmpty_eq_false_iff]
   refine⟨fun z=>z.2,fun z=>⟨?_,z⟩⟩
   have:=z.1
   unfold stepsV at this
   split at this
   ·assumption
   ·exact absurd rfl this
  have hl:∀x,x∈last2 p cnt↔Val p x∧stepsOf p x≠ []∧∀f,(x,f)∉X:=fun x=>by
   rw[hl0,cnt_none gs2]
   unfold stepsV
   by_cases z:x.1<p.points∧x.2<p.values
   ·rw[if_pos z]
    exact⟨fun y=>⟨z,y⟩,fun y=>y.2⟩
   ·rw[if_neg z]
    exact⟨fun y=>absurd rfl y.1,fun y=>absurd y.1 z⟩
  refine⟨G,ga.dx,_,rfl,gs2.gx.obj,rfl,G,o2,ga,en,cb,E,cnt,X,_,stepsV p,last2 p cnt,rfl,r2.own,r2.unf,gs2.gx,gs2.gb,by rw[gs2.est];exact r2.tst,by rw[gs2.est];exact r2.hst,nodup_places.filter _,hl0,gs2.cb_,fun o3 H3 d F g3 hX td hd hF=> ?_⟩
  refine⟨d,_,rfl,DGet.t (k:=pk k) hd (show PlT H3 k0 k from g3.tup (g2.tup hk)),?_⟩
  rw[val_eP]
  have hf:=GOk.always r2.wf r2.kok gs2.gok hl hV
  have e0:(((get F k).map bT).isSome)= !(Kcv7.forever p (Kcv7.table p) k.2 k.1||Kcv7.stuck p (Kcv7.table p) k.2 k.1):=by
   have hf':=hf
   rw[←hF k,KA.get_some] at hf'
   cases e:(Kcv7.forever p (Kcv7.table p) k.2 k.1||Kcv7.stuck p (Kcv7.table p) k.2 k.1) with
   |true=>
    rw[e] at hf'
    have:=hf'.mp rfl
    cases e2:get F k with
    |none=>rfl
    |some y=>exact absurd ⟨y,e2⟩ this
   |false=>
    rw[e] at hf'
    cases e2:get F k with
    |none=>exact absurd (hf'.mpr (fun⟨y,z⟩=>by rw[e2] at z;cases z)) Bool.false_ne_true
    |some y=>rfl
  rw[e0]
  have r3:=r2.same g3 fun t z=>sgg_sr t (scb_gg t z)
  have nE:∀{t:Tag},t≠ .gr→t≠ .cb→¬Scb t:=fun a1 a2 z=>z.elim a1 a2
  exact q o3 H3 (g2.trans (g3.mono fun t z=>sgg_srn t (scb_gg t z))) ⟨dx,pl,st,B,_,b,Kk,[],rs,r3,.inr ⟨rfl,G,ga,en,_,E,X,cnt,rfl,⟨hX,gs2.gb,g3.tag gs2.tdt,gs2.dt.go g3 gs2.tdt (nE (fun z=>nomatch z) (fun z=>nomatch z)) (fun _=>nE (fun z=>nomatch z) (fun z=>nomatch z)),gs2.epl,gs2.est,gs2.en_.go g3 (nE (fun z=>nomatch z) (fun z=>nomatch z)),.inr ⟨d,F,rfl,td,hd,hF⟩⟩⟩⟩
end R
end
section
set_option maxHeartbeats 400000
namespace R
open PySem PySem.Spec PyProof.Rows L2
open KA (Pl InP get put)
open KTh (Kn Off Rec Cov Cl1 IsMin WF Bk By)
open KG (Stp stepsOf Eg EgAt Val GB GOk KOk)
open KL (Nn Mm Gd Ld In1)
variable {P:Program} {w:World} {K:PySem.W.Frag} {mg:Str→Option Value} {base:Heap} {a:Ad}
theorem dlt {x v:Nat}:decide ((x:Int)<(v:Int))=decide (x<v):=by
 by_cases z:x<v
 ·rw[decide_eq_true z,decide_eq_true (by omega)]
 ·rw[decide_eq_false z,decide_eq_false (by omega)]
noncomputable def pfs (v n:Nat) (sts Ro:Addr):List (Str×V):= [("value_count",nV v),("point_count",nV n),("starts",.ref sts),("runs",.ref Ro)]
structure PO (a:Ad) (H:Hp) (Po dx:Addr) (v n:Nat) (sts Ro:Addr) (es:List Nat):Prop where
 obj:H Po=some (.ins a.c_C4 dx (pfs v n sts Ro))
 lst:H sts=some (.lst (es.map nV))
def Tell (H:Hp) (Q:VK) (xs:List V):Prop:=∀l,H l=none→Q (.ref l) (upd H l (.lst xs))
def spTold (a:Ad):Sp:=fun vs H Q _=>∃(f:Kcv7.Few),vs= [optV f]∧Tell H Q ((Kcv7Neutral.tell (Kcv7.tellFew f)).map V.int)
theorem ok_C (T:Txt K mg a):FnOk P w K mg base CX0 1 a.f_C a.d_C ["steps"] (spTold a):=by
 refine T.F_C.ok sc_C (fun vs H Q E h=> ?_) (fun cdv A outer s H vs Q E hr h=> ?_)
 ·obtain⟨f,rfl,_⟩:=h
  rfl
 ·obtain⟨f,rfl,q⟩:=h
  have hu:=hu_of hr
  refine⟨_,(pss_cons (ps_if (pt_cmpR op_isN (pv 0) pe_non (nomark _)) (pss_one (ps_ret (pe_lst (pa_cons (pe_gi rfl T.g_NO_RUN) pa_nil)))) pss_nil)
   (pss_cons (ps_if (pt_cmpR op_ge (pv 0) (pe_gi rfl T.g_TOO_MANY_STEPS) (nomark _)) (pss_one (ps_ret (pe_lst (pa_cons (pe_gi rfl T.g_TOO_FAR) pa_nil)))) pss_nil)
   (pss_one (ps_ret (pe_lst (pa_cons (pe_gi rfl T.g_DONE) (pa_cons (pv 0) pa_nil))))))),?_⟩
  cases f with
  |none=>exact⟨_,rfl,rfl,_,rfl,iteT ⟨by show 1≤sizeLine;decide,fun p hp=>q p hp⟩⟩
  |some n=>
   refine⟨_,rfl,rfl,_,rfl,iteF ?_⟩
   refine⟨_,rfl,_,_,rfl,rfl,_,rfl,?_⟩
   have eh:Kcv7.HUGE=4611686018427387904:=rfl
   by_cases z:Kcv7.HUGE≤n
   ·rw[decide_eq_true (by omega)]
    refine iteT ⟨by show 1≤sizeLine;decide,fun p hp=> ?_⟩
    have:=q p hp
    unfold Kcv7.tellFew at this
    dsimp only at this
    rw[if_pos z] at this
    exact this
   ·rw[decide_eq_false (by omega)]
    refine iteF ⟨_,rfl,by show 2≤sizeLine;decide,fun p hp=> ?_⟩
    have:=q p hp
    unfold Kcv7.tellFew at this
    dsimp only at this
    rw[if_neg z] at this
    exact this
def spHasV (a:Ad):Sp:=fun vs H Q _=>∃(Po dx sts Ro:Addr) (v n x:Nat) (es:List Nat),vs= [.ref Po,nV x]∧PO a H Po dx v n sts Ro es∧Q (.bl (decide (x<v))) H
theorem ok_E (T:Txt K mg a):FnOk P w K mg base CX0 1 a.f_E a.d_E ["self","value"] (spHasV a):=by
 refine T.F_E.ok sc_E (fun vs H Q E h=> ?_) (fun cdv A outer s H vs Q E hr h=> ?_)
 ·obtain⟨Po,dx,sts,Ro,v,n,x,es,rfl,_⟩:=h
  rfl
 ·obtain⟨Po,dx,sts,Ro,v,n,x,es,rfl,h,q⟩:=h
  have hu:=hu_of hr
  refine⟨_,(pss_one (ps_ret (pe_cmpR op_lt (pv 1) (pe_fld (pv 0) rfl) (nomark _)))),?_⟩
  refine⟨_,rfl,_,rfl,Po,_,_,_,_,rfl,h.obj,T.cl_C4,T.na_m,rfl,_,_,rfl,rfl,?_⟩
  show Q (.bl (decide ((x:Int)<(v:Int)))) H
  rw[dlt];exact q
def spHasP (a:Ad):Sp:=fun vs H Q _=>∃(Po dx sts Ro:Addr) (v n x:Nat) (es:List Nat),vs= [.ref Po,nV x]∧PO a H Po dx v n sts Ro es∧Q (.bl (decide (x<n))) H
theorem ok_F (T:Txt K mg a):FnOk P w K mg base CX0 1 a.f_F a.d_F ["self","point"] (spHasP a):=by
 refine T.F_F.ok sc_F (fun vs H Q E h=> ?_) (fun cdv A outer s H vs Q E hr h=> ?_)
 ·obtain⟨Po,dx,sts,Ro,v,n,x,es,rfl,_⟩:=h
  rfl
 ·obtain⟨Po,dx,sts,Ro,v,n,x,es,rfl,h,q⟩:=h
  have hu:=hu_of hr
  refine⟨_,(pss_one (ps_ret (pe_cmpR op_lt (pv 1) (pe_fld (pv 0) rfl) (nomark _)))),?_⟩
  refine⟨_,rfl,_,rfl,Po,_,_,_,_,rfl,h.obj,T.cl_C4,T.na_n,rfl,_,_,rfl,rfl,?_⟩
  show Q (.bl (decide ((x:Int)<(n:Int)))) H
  rw[dlt];exact q
def spHasF (a:Ad):Sp:=fun vs H Q _=>∃(Po dx sts Ro:Addr) (v n x:Nat) (es:List Nat),vs= [.ref Po,nV x]∧PO a H Po dx v n sts Ro es∧Q (.bl (decide (x<es.length))) H
theorem ok_H (T:Txt K mg a):FnOk P w K mg base CX0 1 a.f_H a.d_H ["self","number"] (spHasF a):=by
 refine T.F_H.ok sc_H (fun vs H Q E h=> ?_) (fun cdv A outer s H vs Q E hr h=> ?_)
 ·obtain⟨Po,dx,sts,Ro,v,n,x,es,rfl,_⟩:=h
  rfl
 ·obtain⟨Po,dx,sts,Ro,v,n,x,es,rfl,h,q⟩:=h
  have hu:=hu_of hr
  refine⟨_,(pss_one (ps_ret (pe_cmpR op_lt (pv 1) (pe_callB call_len_seq (by rfl) T.z_len PySem.boot_len (pa_cons (pe_fld (pv 0) rfl) pa_nil)) (nomark _)))),?_⟩
  refine⟨_,rfl,_,rfl,Po,_,_,_,_,rfl,h.obj,T.cl_C4,T.na_o,rfl,sts,_,rfl,.inl (SqL.of h.lst),_,_,rfl,rfl,?_⟩
  show Q (.bl (decide ((x:Int)<((es.map nV).length:Int)))) H
  rw[List.length_map,dlt];exact q
def spHasPl (a:Ad):Sp:=fun vs H Q _=>∃(Po dx sts Ro:Addr) (v n x y:Nat) (es:List Nat),vs= [.ref Po,nV x,nV y]∧PO a H Po dx v n sts Ro es∧Q (.bl (decide (x<v)&&decide (y<n))) H
theorem ok_G (T:Txt K mg a):FnOk P w K mg base CX0 2 a.f_G a.d_G ["self","value","point"] (spHasPl a):=by
 have G_E:=ok_E (P:=P) (w:=w) (base:=base) T
 have G_F:=ok_F (P:=P) (w:=w) (base:=base) T
 refine T.F_G.ok sc_G (fun vs H Q E h=> ?_) (fun cdv A outer s H vs Q E hr h=> ?_)
 ·obtain⟨Po,dx,sts,Ro,v,n,x,y,es,rfl,_⟩:=h
  rfl
 ·obtain⟨Po,dx,sts,Ro,v,n,x,y,es,rfl,h,q⟩:=h
  have hu:=hu_of hr
  refine⟨_,(pss_one (ps_ret (pe_and (pe_meth (pv 0) T.cl_C4 T.m_E G_E (hr.mono (by decide)) T.b_E .nil pass0 (pa_cons (pv 1) pa_nil)) (pe_one (pe_meth (pv 0) T.cl_C4 T.m_F G_F (hr.mono (by decide)) T.b_F .nil pass0 (pa_cons (pv 2) pa_nil)))))),?_⟩
  refine⟨_,rfl,Po,dx,_,rfl,h.obj,rfl,_,rfl,Po,dx,sts,Ro,v,n,x,es,rfl,h,_,rfl,?_⟩
  by_cases z:x<v
  ·rw[decide_eq_true z,Bool.true_and] at q
   rw[decide_eq_true z]
   exact iteT ⟨_,rfl,Po,dx,_,rfl,h.obj,rfl,_,rfl,Po,dx,sts,Ro,v,n,y,es,rfl,h,q⟩
  ·rw[decide_eq_false z,Bool.false_and] at q
   rw[decide_eq_false z]
   exact iteF q
def spIsV (a:Ad):Sp:=fun vs H Q _=>∃(Po dx sts Ro:Addr) (v n x:Nat) (es:List Nat),vs= [.ref Po,nV x]∧PO a H Po dx v n sts Ro es∧Q (.bl (decide (x<v∨x=4))) H
theorem ok_L (T:Txt K mg a):FnOk P w K mg base CX0 2 a.f_L a.d_L ["self","value"] (spIsV a):=by
 have G_E:=ok_E (P:=P) (w:=w) (base:=base) T
 refine T.F_L.ok sc_L (fun vs H Q E h=> ?_) (fun cdv A outer s H vs Q E hr h=> ?_)
 ·obtain⟨Po,dx,sts,Ro,v,n,x,es,rfl,_⟩:=h
  rfl
 ·obtain⟨Po,dx,sts,Ro,v,n,x,es,rfl,h,q⟩:=h
  have hu:=hu_of hr
  refine⟨_,(pss_one (ps_ret (pe_or (pe_meth (pv 0) T.cl_C4 T.m_E G_E (hr.mono (by decide)) T.b_E .nil pass0 (pa_cons (pv 1) pa_nil)) (pe_one (pe_cmpR op_eq (pv 1) (pe_gi rfl T.g_ANY) (nomark _)))))),?_⟩
  refine⟨_,rfl,Po,dx,_,rfl,h.obj,rfl,_,rfl,Po,dx,sts,Ro,v,n,x,es,rfl,h,_,rfl,?_⟩
  by_cases z:x<v
  ·rw[decide_eq_true (.inl z)] at q
   rw[decide_eq_true z]
   exact iteT q
  ·rw[decide_eq_false z]
   refine iteF ⟨_,rfl,rfl,?_⟩
   have e:decide (V.int (x:Int)=V.int 4)=decide (x<v∨x=4):=by
    by_cases y:x=4
    ·rw[decide_eq_true (p:=x<v∨x=4) (.inr y)];exact dT (by omega)
    ·rw[decide_eq_false (p:=x<v∨x=4) (by omega)];exact dF (by omega)
   show Q (.bl (decide (V.int (x:Int)=V.int 4))) H
   rw[e]
   exact q
noncomputable def leads (n e k t x:Nat):Bool:=decide ((k=0∧t<n)∨(k=1∧t<e∧x<n)∨k=2)
def spLeads (a:Ad):Sp:=fun vs H Q _=>∃(Po dx sts Ro:Addr) (v n k t x:Nat) (es:List Nat),vs= [.ref Po,nV k,nV t,nV x]∧PO a H Po dx v n sts Ro es∧Q (.bl (leads n es.length k t x)) H
theorem ok_K (T:Txt K mg a):FnOk P w K mg base CX0 2 a.f_K a.d_K ["self","kind","to","goes_on"] (spLeads a):=by
 have G_F:=ok_F (P:=P) (w:=w) (base:=base) T
 have G_H:=ok_H (P:=P) (w:=w) (base:=base) T
 refine T.F_K.ok sc_K (fun vs H Q E h=> ?_) (fun cdv A outer s H vs Q E hr h=> ?_)
 ·obtain⟨Po,dx,sts,Ro,v,n,k,t,x,es,rfl,_⟩:=h
  rfl
 ·obtain⟨Po,dx,sts,Ro,v,n,k,t,x,es,rfl,h,q⟩:=h
  have hu:=hu_of hr
  refine⟨_,(pss_cons (ps_if (pt_cmpR op_eq (pv 1) (pe_gi rfl T.g_GO) (nomark _)) (pss_one (ps_ret (pe_meth (pv 0) T.cl_C4 T.m_F G_F (hr.mono (by decide)) T.b_F .nil pass0 (pa_cons (pv 2) pa_nil)))) pss_nil)
   (pss_cons (ps_if (pt_cmpR op_eq (pv 1) (pe_gi rfl T.g_CALL) (nomark _)) (pss_one (ps_ret (pe_and (pe_meth (pv 0) T.cl_C4 T.m_H G_H (hr.mono (by decide)) T.b_H .nil pass0 (pa_cons (pv 2) pa_nil)) (pe_one (pe_meth (pv 0) T.cl_C4 T.m_F G_F (hr.mono (by decide)) T.b_F .nil pass0 (pa_cons (pv 3) pa_nil)))))) pss_nil)
   (pss_one (ps_ret (pe_cmpR op_eq (pv 1) (pe_gi rfl T.g_COME_BACK) (nomark _)))))),?_⟩
  unfold leads at q
  by_cases k0:k=0
  ·refine⟨_,rfl,rfl,_,rfl,ifT (dT (by rw[k0];rfl)) ?_⟩
   refine⟨_,rfl,Po,dx,_,rfl,h.obj,rfl,_,rfl,Po,dx,sts,Ro,v,n,t,es,rfl,h,?_⟩
   have e:decide (t<n)=decide ((k=0∧t<n)∨(k=1∧t<es.length∧x<n)∨k=2):=by
    by_cases z:t<n
    ·rw[decide_eq_true z,decide_eq_true (.inl ⟨k0,z⟩)]
    ·rw[decide_eq_false z,decide_eq_false (by omega)]
   rw[e];exact q
  ·refine⟨_,rfl,rfl,_,rfl,ifF (dF (by omega)) ?_⟩
   by_cases k1:k=1
   ·refine⟨_,rfl,rfl,_,rfl,ifT (dT (by omega)) ?_⟩
    refine⟨_,rfl,Po,dx,_,rfl,h.obj,rfl,_,rfl,Po,dx,sts,Ro,v,n,t,es,rfl,h,_,rfl,?_⟩
    by_cases z:t<es.length
    ·rw[decide_eq_true z]
     refine iteT ⟨_,rfl,Po,dx,_,rfl,h.obj,rfl,_,rfl,Po,dx,sts,Ro,v,n,x,es,rfl,h,?_⟩
     have e:decide (x<n)=decide ((k=0∧t<n)∨(k=1∧t<es.length∧x<n)∨k=2):=by
      by_cases z':x<n
      ·rw[decide_eq_true z',decide_eq_true (.inr (.inl ⟨k1,z,z'⟩))]
      ·rw[decide_eq_false z',decide_eq_false (by omega)]
     rw[e];exact q
    ·rw[decide_eq_false z]
     rw[decide_eq_false (by omega)] at q
     exact iteF q
   ·refine⟨_,rfl,rfl,_,rfl,ifF (dF (by omega)) ?_⟩
    refine⟨_,rfl,rfl,?_⟩
    have e:decide (V.int (k:Int)=V.int 2)=decide ((k=0∧t<n)∨(k=1∧t<es.length∧x<n)∨k=2):=by
     by_cases y:k=2
     ·rw[decide_eq_true (p:=(k=0∧t<n)∨(k=1∧t<es.length∧x<n)∨k=2) (.inr (.inr y))];exact dT (by omega)
     ·rw[decide_eq_false (p:=(k=0∧t<n)∨(k=1∧t<es.length∧x<n)∨k=2) (by omega)];exact dF (by omega)
    show Q (.bl (decide (V.int (k:Int)=V.int 2))) H
    rw[e];exact q
end R
end
section
set_option maxHeartbeats 400000
namespace R
open PySem PySem.Spec PyProof.Rows L2
open KA (Pl InP get put)
open KTh (Kn Off Rec Cov Cl1 IsMin WF Bk By)
open KG (Stp stepsOf Eg EgAt Val GB GOk KOk)
open KL (Nn Mm Gd Ld In1)
variable {P:Program} {w:World} {K:PySem.W.Frag} {mg:Str→Option Value} {base:Heap} {a:Ad}
def All (t:Tag):Prop:=t≠ .tl
theorem all_pg:∀t,t= .pg→All t:=fun t z=>by cases z;exact fun z=>nomatch z
theorem all_sts:∀t,t= .sts→All t:=fun t z=>by cases z;exact fun z=>nomatch z
theorem all_rb:∀t,(t= .rn∨t= .bk)→All t:=fun t z=>by rcases z with rfl|rfl<;>exact fun z=>nomatch z
structure PX (a:Ad) (o:Ow) (H:Hp) (Po dx sts Ro:Addr) (p:Kcv7.Prog):Prop where
 po:PO a H Po dx p.values p.points sts Ro p.entries
 tP:o Po=some .pg
 tS:o sts=some .sts
 rs:RS a o H Ro p
 l8:p.entries.length≤8
def PS (a:Ad) (o:Ow) (H:Hp) (Po:Addr) (p:Kcv7.Prog):Prop:=∃dx sts Ro,PX a o H Po dx sts Ro p
theorem RS.own {o:Ow} {H:Hp} {Ro:Addr} {p:Kcv7.Prog} (h:RS a o H Ro p):Own o H:=by
 obtain⟨dx,pl,st,B,gv,b,Kk,O,rs,h1,h2⟩:=h
 exact h1.own
theorem RS.unf {o:Ow} {H:Hp} {Ro:Addr} {p:Kcv7.Prog} (h:RS a o H Ro p):Unf o H:=by
 obtain⟨dx,pl,st,B,gv,b,Kk,O,rs,h1,h2⟩:=h
 exact h1.unf
theorem RS.wf {o:Ow} {H:Hp} {Ro:Addr} {p:Kcv7.Prog} (h:RS a o H Ro p):WF p:=by
 obtain⟨dx,pl,st,B,gv,b,Kk,O,rs,h1,h2⟩:=h
 exact h1.wf
theorem RS.l64 {o:Ow} {H:Hp} {Ro:Addr} {p:Kcv7.Prog} (h:RS a o H Ro p):p.rules.length≤64:=by
 obtain⟨dx,pl,st,B,gv,b,Kk,O,rs,h1,h2⟩:=h
 exact h1.l64
theorem RS.obj {o:Ow} {H:Hp} {Ro:Addr} {p:Kcv7.Prog} (h:RS a o H Ro p):∃dx pl st B gv,H Ro=some (.ins a.c_C3 dx (rfs p.values pl p.rules.length st B gv)):=by
 obtain⟨dx,pl,st,B,gv,b,Kk,O,rs,h1,h2⟩:=h
 exact⟨_,_,_,_,_,h1.obj⟩
section
variable {o o' o1:Ow} {H H' H1:Hp} {Po dx sts Ro:Addr} {p:Kcv7.Prog} {S:Tag→Prop} {Q:VK}
theorem PX.same (h:PX a o H Po dx sts Ro p) (g:Go S0 o H o' H'):PX a o' H' Po dx sts Ro p:=
 ⟨⟨g.at h.po.obj h.tP (fun z=>z),g.at h.po.lst h.tS (fun z=>z)⟩,g.tag h.tP,g.tag h.tS,h.rs.same g (fun _ z=>z.elim),h.l8⟩
theorem PX.told (h:PX a o H Po dx sts Ro p) (g:Go (fun t=>t= .tl) o H o' H'):PX a o' H' Po dx sts Ro p:=
 ⟨⟨g.at h.po.obj h.tP (fun z=>nomatch z),g.at h.po.lst h.tS (fun z=>nomatch z)⟩,g.tag h.tP,g.tag h.tS,h.rs.same g (fun t z y=>y.2.2 z),h.l8⟩
theorem PX.runs (h:PX a o H Po dx sts Ro p) (g:Go Srn o H o' H') (r:RS a o' H' Ro p):PX a o' H' Po dx sts Ro p:=
 ⟨⟨g.at h.po.obj h.tP (fun z=>z.1 rfl),g.at h.po.lst h.tS (fun z=>z.2.1 rfl)⟩,g.tag h.tP,g.tag h.tS,r,h.l8⟩
def Done (a:Ad) (o:Ow) (H:Hp) (Po:Addr) (y:Kcv7.Abs×Kcv7.Ans) (Q:VK):Prop:=∀(o':Ow) (H':Hp) (l:Addr),Go All o H o' H'→PS a o' H' Po y.1.prog→o' l=none→H' l=some (.lst ((Kcv7Neutral.tell y.2).map V.int))→Q (.ref l) H'
theorem Done.tell {y:Kcv7.Abs×Kcv7.Ans} (h:Done a o H Po y Q) (g:Go All o H o1 H1) (px:PX a o1 H1 Po dx sts Ro y.1.prog):Tell H1 Q ((Kcv7Neutral.tell y.2).map V.int):=fun l hl=>
 have ga:Go S0 o1 H1 o1 (upd H1 l (.lst ((Kcv7Neutral.tell y.2).map V.int))):=Go.alloc g.own hl _
 h o1 _ l (g.trans (ga.mono fun _ z=>z.elim)) ⟨dx,sts,Ro,px.same ga⟩ (g.own.free hl) upd_same
theorem Done.one {y:Kcv7.Abs×Kcv7.Ans} {n:Int} (h:Done a o H Po y Q) (g:Go All o H o1 H1) (px:PX a o1 H1 Po dx sts Ro p) (e:y=(⟨p⟩,.num n)): [V.int n].length≤sizeLine∧∀l,H1 l=none→Q (.ref l) (upd H1 l (.lst [V.int n])):=
 ⟨by show 1≤sizeLine;decide,by subst e;exact h.tell g px⟩
end
theorem rb_new {o:Ow} {H:Hp} {Ro dx pl st B:Addr} {b:BA} {xs:List V} {v n:Nat} (hv:0<v∧v≤4) (hn:0<n∧n≤32) (ow:Own o H) (uf:Unf o H) (h1:H Ro=some (.ins a.c_C3 dx (rfs v pl 0 st B .non))) (h2:o Ro=some .rn) (h3:o pl=some .pl) (h4:H pl=some (.lst xs)) (h5:Paired (ElP H) xs (placesL v n)) (h6:o st=some .st) (h7:H st=some (.dT [])) (h8:BK a.c_C0 o H B b (fun _ _ _=>none) [] []):RS a o H Ro ⟨v,n,[],[]⟩:=by
 have W:WF ⟨v,n,[],[]⟩:=⟨hv.1,hv.2,hn.1,hn.2,fun x h=>(by cases h),fun x h=>(by cases h),fun x h=>(by cases h),fun x h=>(by cases h),fun x h=>(by cases h),fun x h=>(by cases h)⟩
 refine⟨dx,pl,st,B,.non,b,_,[],[],⟨ow,uf,W,h1,h2,h3,⟨xs,h4,h5⟩,h6,LsT.nil h7 fun k=> ?_,h8,⟨fun v i x n h=>(by cases h),fun y h=>(by cases h),fun r h=>(by cases h),SP.rg W⟩,fun r h=>(by cases h),fun r h=>(by cases h),fun r h=>(by cases h),Nat.le_refl _,Nat.le_refl _,Nat.zero_le _⟩,.inl rfl⟩
 unfold stepsV
 split
 ·rfl
 ·rfl
def spBegin (a:Ad):Sp:=fun vs H Q _=>∃(Po dx sts Ro:Addr) (o:Ow) (v0 n0 v n:Nat) (es:List Nat),vs= [.ref Po,nV v,nV n]∧PO a H Po dx v0 n0 sts Ro es∧o Po=some .pg∧Own o H∧Unf o H∧
 ((v=0∨4<v∨n=0∨32<n)→Tell H Q [V.int (-22)])∧
 (¬(v=0∨4<v∨n=0∨32<n)→Done a o H Po (⟨⟨v,n,[],[]⟩⟩,.num 0) Q)
theorem ok_I (T:Txt K mg a):FnOk P w K mg base CX0 5 a.f_I a.d_I ["self","value_count","point_count"] (spBegin a):=by
 have G_t:=ok_t (P:=P) (w:=w) (base:=base) T
 refine T.F_I.ok sc_I (fun vs H Q E h=> ?_) (fun cdv A outer s H vs Q E hr h=> ?_)
 ·obtain⟨Po,dx,sts,Ro,o,v0,n0,v,n,es,rfl,_⟩:=h
  rfl
 ·obtain⟨Po,dx,sts,Ro,o,v0,n0,v,n,es,rfl,hP,tP,ow,uf,q1,q2⟩:=h
  have hu:=hu_of hr
  refine⟨_,(pss_cons (ps_if (PW.pt (pw_or (pt_not (pt_chain op_le op_le pe_int (pv 1) (pe_gi rfl T.g_MOST_VALUES))) (pw_or1 (pt_not (pt_chain op_le op_le pe_int (pv 2) (pe_gi rfl T.g_MOST_POINTS)))))) (pss_one (ps_ret (pe_lst (pa_cons (pe_gi rfl T.g_WRONG) pa_nil)))) pss_nil)
   (pss_cons (ps_fld (pv 0) (pv 1) rfl)
   (pss_cons (ps_fld (pv 0) (pv 2) rfl)
   (pss_cons (ps_fld (pv 0) (pe_lst pa_nil) rfl)
   (pss_cons (ps_fld (pv 0) (pe_make T.mk_C3 G_t (hr.mono (by decide)) rfl T.mg_C3 T.b_t .nil pass0 (pa_cons (pv 1) (pa_cons (pv 2) pa_nil))) rfl)
   (pss_one (ps_ret (pe_lst (pa_cons (pe_gi rfl T.g_DONE) pa_nil))))))))),?_⟩
  have bad:(v=0∨4<v∨n=0∨32<n)→ [V.int (-22)].length≤sizeLine∧Tell H Q [V.int (-22)]:=fun z=>⟨by show 1≤sizeLine;decide,q1 z⟩
  refine⟨_,rfl,_,_,rfl,rfl,_,rfl,?_⟩
  by_cases z1:v=0
  ·exact ifF (decide_eq_false (by omega)) ⟨_,rfl,iteT (iteT (bad (.inl z1)))⟩
  refine ifT (decide_eq_true (by omega)) ⟨_,_,rfl,rfl,_,rfl,?_⟩
  by_cases z2:4<v
  ·refine ifT (by rw[decide_eq_false (by omega)];rfl) ?_
   exact iteT (bad (.inr (.inl z2)))
  refine ifF (by rw[decide_eq_true (by omega)];rfl) ?_
  refine⟨_,rfl,_,_,rfl,rfl,_,rfl,?_⟩
  by_cases z3:n=0
  ·exact ifF (decide_eq_false (by omega)) ⟨_,rfl,iteT (bad (.inr (.inr (.inl z3))))⟩
  refine ifT (decide_eq_true (by omega)) ⟨_,_,rfl,rfl,_,rfl,?_⟩
  by_cases z4:32<n
  ·refine ifT (by rw[decide_eq_false (by omega)];rfl) ?_
   exact bad (.inr (.inr (.inr z4)))
  refine ifF (by rw[decide_eq_true (by omega)];rfl) ?_
  have q:=q2 (by omega)
  obtain⟨g1,b1⟩:=fld_set (S:=fun t=>t= .pg) (fs':=pfs v n0 sts Ro) ow hP.obj tP rfl
  refine⟨_,rfl,_,rfl,Po,_,dx,_,rfl,hP.obj,T.cl_C4,T.na_m,by show 4<1000;decide,?_⟩
  have ee:putF "value_count" (nV v) (pfs v0 n0 sts Ro)=pfs v n0 sts Ro:=rfl
  rw[ee]
  generalize upd H Po (.ins a.c_C4 dx (pfs v n0 sts Ro))=H1 at*
  obtain⟨g2,b2⟩:=fld_set (S:=fun t=>t= .pg) (fs':=pfs v n sts Ro) g1.own b1 tP rfl
  refine⟨_,rfl,_,rfl,Po,_,dx,_,rfl,b1,T.cl_C4,T.na_n,by show 4<1000;decide,?_⟩
  have ee:putF "point_count" (nV n) (pfs v n0 sts Ro)=pfs v n sts Ro:=rfl
  rw[ee]
  generalize upd H1 Po (.ins a.c_C4 dx (pfs v n sts Ro))=H2 at*
  refine⟨by show 0≤sizeLine;decide,fun s2 hs2=> ?_⟩
  obtain⟨g3,b3,t3,k3,tk3,c3⟩:=fld_new (S:=fun t=>t= .pg) (fs':=pfs v n s2 Ro) g2.own b2 tP rfl hs2 (.lst []) .sts rfl rfl
  refine⟨_,rfl,Po,_,dx,_,rfl,c3,T.cl_C4,T.na_o,by show 4<1000;decide,?_⟩
  have ee:putF "starts" (.ref s2) (pfs v n sts Ro)=pfs v n s2 Ro:=rfl
  rw[ee]
  have g03:=(g1.trans g2).trans g3
  generalize upd (upd H2 s2 (.lst [])) Po (.ins a.c_C4 dx (pfs v n s2 Ro))=H3 at*
  generalize oput o s2 .sts=o3 at*
  refine⟨_,rfl,_,rfl,fun R2 dR nR ndR neR=> ?_⟩
  have gB1:Go (fun t=>t= .rn) o3 H3 o3 (upd H3 dR (.own R2)):=Go.alloc g3.own ndR _
  have hRn:(upd H3 dR (.own R2)) R2=none:=by rw[upd_ne neR.symm];exact nR
  have gB2:Go (fun t=>t= .rn) o3 (upd H3 dR (.own R2)) (oput o3 R2 .rn) (upd (upd H3 dR (.own R2)) R2 (.ins a.c_C3 dR [])):=Go.allocT gB1.own hRn _ _ rfl rfl
  have gB:=gB1.trans gB2
  refine⟨R2,dR,oput o3 R2 .rn,v,n,rfl,by omega,by omega,upd_same,gB.own,oput_same,fun o5 H5 pl st B b xs g5 e1 e2 e3 e4 e5 e6 e7 e8=>⟨rfl,?_⟩⟩
  have g35:Go (fun t=>t= .rn∨t= .bk) o3 H3 o5 H5:=(gB.mono fun _ z=> .inl z).trans g5
  have n35:∀{t:Tag},t≠ .rn→t≠ .bk→¬(t= .rn∨t= .bk):=fun h1 h2 z=>z.elim h1 h2
  have b5:=g35.at b3 t3 (n35 (fun z=>nomatch z) (fun z=>nomatch z))
  have k5:=g35.at k3 tk3 (n35 (fun z=>nomatch z) (fun z=>nomatch z))
  obtain⟨g6,b6⟩:=fld_set (S:=fun t=>t= .pg) (fs':=pfs v n s2 R2) g35.own b5 (g35.tag t3) rfl
  refine⟨_,rfl,Po,_,dx,_,rfl,b5,T.cl_C4,T.na_p,by show 4<1000;decide,?_⟩
  have ee:putF "runs" (.ref R2) (pfs v n s2 Ro)=pfs v n s2 R2:=rfl
  rw[ee]
  generalize upd H5 Po (.ins a.c_C4 dx (pfs v n s2 R2))=H6 at*
  have g06:Go All o H o5 H6:=((g03.mono all_pg).trans (g35.mono all_rb)).trans (g6.mono all_pg)
  have uf5:Unf o5 H5:=((g03.mono all_pg).trans (g35.mono all_rb)).unf uf
  have rs5:RS a o5 H5 R2 ⟨v,n,[],[]⟩:=rb_new ⟨by omega,by omega⟩ ⟨by omega,by omega⟩ g35.own uf5 e1 e2 e3 e4 e5 e6 e7 e8
  have px:PX a o5 H6 Po dx s2 R2 ⟨v,n,[],[]⟩:=⟨⟨b6,g6.at k5 (g35.tag tk3) (fun z=>nomatch z)⟩,g6.tag (g35.tag t3),g6.tag (g35.tag tk3),rs5.same g6 (fun t z y=>by cases z;exact y.1 rfl),Nat.zero_le _⟩
  exact q.one g06 px rfl
end R
end
section
set_option maxHeartbeats 400000
namespace R
open PySem PySem.Spec PyProof.Rows L2
open KA (Pl InP get put)
open KTh (Kn Off Rec Cov Cl1 IsMin WF Bk By)
open KG (Stp stepsOf Eg EgAt Val GB GOk KOk)
open KL (Nn Mm Gd Ld In1)
variable {P:Program} {w:World} {K:PySem.W.Frag} {mg:Str→Option Value} {base:Heap} {a:Ad}
def spPInit (a:Ad):Sp:=fun vs H Q _=>∃(Po dx:Addr) (o:Ow),vs= [.ref Po]∧H Po=some (.ins a.c_C4 dx [])∧Own o H∧o Po=some .pg∧
 ∀(o':Ow) (H':Hp) (sts Ro:Addr),Go All o H o' H'→PO a H' Po dx 0 0 sts Ro []→o' Po=some .pg→o' sts=some .sts→Q .non H'
theorem ok_D (T:Txt K mg a):FnOk P w K mg base CX0 5 a.f_D a.d_D ["self"] (spPInit a):=by
 have G_t:=ok_t (P:=P) (w:=w) (base:=base) T
 refine T.F_D.ok sc_D (fun vs H Q E h=> ?_) (fun cdv A outer s H vs Q E hr h=> ?_)
 ·obtain⟨Po,dx,o,rfl,_⟩:=h
  rfl
 ·obtain⟨Po,dx,o,rfl,hP,ow,tP,q⟩:=h
  have hu:=hu_of hr
  refine⟨_,(pss_cons (ps_fld (pv 0) pe_int rfl)
   (pss_cons (ps_fld (pv 0) pe_int rfl)
   (pss_cons (ps_fld (pv 0) (pe_lst pa_nil) rfl)
   (pss_one (ps_fld (pv 0) (pe_make T.mk_C3 G_t (hr.mono (by decide)) rfl T.mg_C3 T.b_t .nil pass0 (pa_cons pe_int (pa_cons pe_int pa_nil))) rfl))))),?_⟩
  obtain⟨g1,b1⟩:=fld_set (S:=fun t=>t= .pg) (fs':=([("value_count",nV 0)]:List (Str×V))) ow hP tP rfl
  refine⟨_,rfl,Po,_,dx,_,rfl,hP,T.cl_C4,T.na_m,by show 0<1000;decide,?_⟩
  have ee:putF "value_count" (.int 0) ([]:List (Str×V))=([("value_count",nV 0)]:List (Str×V)):=rfl
  rw[ee]
  generalize upd H Po (.ins a.c_C4 dx [("value_count",nV 0)])=H1 at*
  obtain⟨g2,b2⟩:=fld_set (S:=fun t=>t= .pg) (fs':=([("value_count",nV 0),("point_count",nV 0)]:List (Str×V))) g1.own b1 tP rfl
  refine⟨_,rfl,Po,_,dx,_,rfl,b1,T.cl_C4,T.na_n,by show 1<1000;decide,?_⟩
  have ee:putF "point_count" (.int 0) ([("value_count",nV 0)]:List (Str×V))=([("value_count",nV 0),("point_count",nV 0)]:List (Str×V)):=rfl
  rw[ee]
  generalize upd H1 Po (.ins a.c_C4 dx [("value_count",nV 0),("point_count",nV 0)])=H2 at*
  refine⟨by show 0≤sizeLine;decide,fun s2 hs2=> ?_⟩
  obtain⟨g3,b3,t3,k3,tk3,c3⟩:=fld_new (S:=fun t=>t= .pg) (fs':=([("value_count",nV 0),("point_count",nV 0),("starts",V.ref s2)]:List (Str×V))) g2.own b2 tP rfl hs2 (.lst []) .sts rfl rfl
  refine⟨_,rfl,Po,_,dx,_,rfl,c3,T.cl_C4,T.na_o,by show 2<1000;decide,?_⟩
  have ee:putF "starts" (.ref s2) ([("value_count",nV 0),("point_count",nV 0)]:List (Str×V))=([("value_count",nV 0),("point_count",nV 0),("starts",V.ref s2)]:List (Str×V)):=rfl
  rw[ee]
  have g03:=(g1.trans g2).trans g3
  generalize upd (upd H2 s2 (.lst [])) Po (.ins a.c_C4 dx [("value_count",nV 0),("point_count",nV 0),("starts",V.ref s2)])=H3 at*
  generalize oput o s2 .sts=o3 at*
  refine fun R2 dR nR ndR neR=> ?_
  have gB1:Go (fun t=>t= .rn) o3 H3 o3 (upd H3 dR (.own R2)):=Go.alloc g3.own ndR _
  have hRn:(upd H3 dR (.own R2)) R2=none:=by rw[upd_ne neR.symm];exact nR
  have gB2:Go (fun t=>t= .rn) o3 (upd H3 dR (.own R2)) (oput o3 R2 .rn) (upd (upd H3 dR (.own R2)) R2 (.ins a.c_C3 dR [])):=Go.allocT gB1.own hRn _ _ rfl rfl
  have gB:=gB1.trans gB2
  refine⟨R2,dR,oput o3 R2 .rn,0,0,rfl,by omega,by omega,upd_same,gB.own,oput_same,fun o5 H5 pl st B b xs g5 e1 e2 e3 e4 e5 e6 e7 e8=>⟨rfl,?_⟩⟩
  have g35:Go (fun t=>t= .rn∨t= .bk) o3 H3 o5 H5:=(gB.mono fun _ z=> .inl z).trans g5
  have n35:∀{t:Tag},t≠ .rn→t≠ .bk→¬(t= .rn∨t= .bk):=fun h1 h2 z=>z.elim h1 h2
  have b5:=g35.at b3 t3 (n35 (fun z=>nomatch z) (fun z=>nomatch z))
  have k5:=g35.at k3 tk3 (n35 (fun z=>nomatch z) (fun z=>nomatch z))
  obtain⟨g6,b6⟩:=fld_set (S:=fun t=>t= .pg) (fs':=pfs 0 0 s2 R2) g35.own b5 (g35.tag t3) rfl
  refine⟨_,rfl,Po,_,dx,_,rfl,b5,T.cl_C4,T.na_p,by show 3<1000;decide,?_⟩
  have ee:putF "runs" (.ref R2) ([("value_count",nV 0),("point_count",nV 0),("starts",V.ref s2)]:List (Str×V))=pfs 0 0 s2 R2:=rfl
  rw[ee]
  generalize upd H5 Po (.ins a.c_C4 dx (pfs 0 0 s2 R2))=H6 at*
  have g06:Go All o H o5 H6:=((g03.mono all_pg).trans (g35.mono all_rb)).trans (g6.mono all_pg)
  exact q o5 H6 s2 R2 g06 ⟨b6,g6.at k5 (g35.tag tk3) (fun z=>nomatch z)⟩ (g6.tag (g35.tag t3)) (g6.tag (g35.tag tk3))
noncomputable def addE (p:Kcv7.Prog) (i:Nat):Kcv7.Prog:={p with entries:=p.entries++ [i]}
theorem entry_e {p:Kcv7.Prog} {i f:Nat} (h:f<p.entries.length):Kcv7.entry (addE p i) f=Kcv7.entry p f:=by
 unfold Kcv7.entry addE
 show (p.entries++ [i]).getD f 0=_
 rw[List.getD_eq_getElem?_getD,List.getD_eq_getElem?_getD,List.getElem?_append_left h]
theorem wf_e {p:Kcv7.Prog} {i:Nat} (W:WF p) (h:i<p.points):WF (addE p i) where
 vpos:=W.vpos
 vle:=W.vle
 ppos:=W.ppos
 ple:=W.ple
 ent:=fun x hx=>(List.mem_append.mp hx).elim (W.ent x) fun z=>by rw[List.mem_singleton.mp z];exact h
 pt:=W.pt
 set_:=W.set_
 kind_:=W.kind_
 to0:=W.to0
 to1:=fun r hr h1=>by
  have:=W.to1 r hr h1
  refine⟨?_,this.2⟩
  show r.to_<(p.entries++ [i]).length
  rw[len_snoc];omega
theorem rec_e {p:Kcv7.Prog} {i:Nat} (W:WF p) {r:Kcv7.Rule} (hr:r∈p.rules) {v:Nat}:KTh.recOf (addE p i) r v=KTh.recOf p r v:=by
 unfold KTh.recOf
 by_cases h0:r.kind=0
 ·rw[if_pos h0,if_pos h0]
 ·rw[if_neg h0,if_neg h0]
  by_cases h1:r.kind=1
  ·rw[if_pos h1,if_pos h1,entry_e (W.to1 r hr h1).1]
  ·rw[if_neg h1,if_neg h1]
theorem fm_congr {α β:Type} {f g:α→Option β}:∀{l:List α},(∀x∈l,f x=g x)→l.filterMap f=l.filterMap g
 | [],_=>rfl
 |x::l,h=>by
  rw[List.filterMap_cons,List.filterMap_cons,h x List.mem_cons_self,fm_congr fun y hy=>h y (List.mem_cons_of_mem _ hy)]
theorem stp_e {p:Kcv7.Prog} {i:Nat} (W:WF p) {k:Pl}:stepsOf (addE p i) k=stepsOf p k:=by
 unfold stepsOf
 refine fm_congr fun x hx=> ?_
 have hr:x.1∈p.rules:=by
  have:=List.mem_zipIdx hx
  rw[this.2.2];exact List.getElem_mem _
 unfold KG.stp
 by_cases h1:x.1.kind=1
 ·rw[if_pos h1,if_pos h1,entry_e (W.to1 _ hr h1).1]
 ·rw[if_neg h1,if_neg h1]
theorem stepsV_e {p:Kcv7.Prog} {i:Nat} (W:WF p) {k:Pl}:stepsV (addE p i) k=stepsV p k:=by
 unfold stepsV
 rw[stp_e W]
 rfl
theorem RS.ent {o:Ow} {H:Hp} {Ro:Addr} {p:Kcv7.Prog} {i:Nat} (h:RS a o H Ro p) (hi:i<p.points):RS a o H Ro (addE p i):=by
 obtain⟨dx,pl,st,B,gv,b,Kk,O,rs,h1,h2⟩:=h
 have W:=h1.wf
 have W':=wf_e W hi
 have hg:∀v j x n,SP p v j x n→SP (addE p i) v j x n:=fun v j x n z=>⟨z.1,KTh.Bk.grow (q:=addE p i) W ⟨fun r hr=>hr,fun r hr h1=>(entry_e (W.to1 r hr h1).1).symm⟩ z.2⟩
 have hsrc:∀r'∈rs,∃r∈(addE p i).rules,∃v,v<(addE p i).values∧Kcv7.fits r v r.point=true∧r'=KTh.recOf (addE p i) r v:=fun r' hr'=>by
  obtain⟨r,e1,v,e2,e3,e4⟩:=h1.src r' hr'
  exact⟨r,e1,v,e2,e3,by rw[rec_e W e1];exact e4⟩
 refine⟨dx,pl,st,B,gv,b,Kk,O,rs,⟨h1.own,h1.unf,W',h1.obj,h1.tR,h1.tpl,h1.pls,h1.tst,h1.hst.congr fun k=>(stepsV_e W).symm,h1.bk,⟨fun v j x n e=>hg _ _ _ _ (h1.snd.kn v j x n e),fun y hy=>hg _ _ _ _ (h1.snd.of y hy),fun r' hr'=> ?_,SP.rg W'⟩,h1.cl,fun r hr v hv hf=>by rw[rec_e W hr];exact h1.cov r hr v hv hf,hsrc,h1.lr,h1.lo,h1.l64⟩,?_⟩
 ·obtain⟨r,e1,v,e2,e3,rfl⟩:=hsrc r' hr'
  exact SP.sc W' e1 e2 e3
 ·rcases h2 with h2|⟨h2,G,ga,en,cb,E,X,cnt,h3,h4⟩
  ·exact .inl h2
  ·have el:last2 (addE p i) cnt=last2 p cnt:=by
    unfold last2
    have:(fun k=> !(stepsV (addE p i) k).isEmpty&&(cnt k).isNone)=fun k=> !(stepsV p k).isEmpty&&(cnt k).isNone:=funext fun k=>by rw[stepsV_e W]
    rw[this]
    rfl
   have eg:(fun s' c' f'=>Val (addE p i) s'∧EgAt (addE p i) Kk s' c' f')=fun s' c' f'=>Val p s'∧EgAt p Kk s' c' f':=by
    funext s' c' f'
    unfold EgAt
    rw[stp_e W]
    rfl
   exact .inr ⟨h2,G,ga,en,cb,E,X,cnt,h3,⟨h4.gx,by rw[eg];exact h4.gb,h4.tdt,h4.dt,h4.epl,h4.est,h4.en_,by rw[el];exact h4.cb_⟩⟩
theorem PX.all {o:Ow} {H:Hp} {Po dx sts Ro:Addr} {p:Kcv7.Prog} (h:PX a o H Po dx sts Ro p):Own o H:=h.rs.own
def spFun (a:Ad):Sp:=fun vs H Q _=>∃(Po:Addr) (o:Ow) (p:Kcv7.Prog) (i:Nat),vs= [.ref Po,nV i]∧PS a o H Po p∧Done a o H Po (Kcv7.step ⟨p⟩ (.function i)) Q
theorem ok_J (T:Txt K mg a):FnOk P w K mg base CX0 2 a.f_J a.d_J ["self","point"] (spFun a):=by
 have G_F:=ok_F (P:=P) (w:=w) (base:=base) T
 refine T.F_J.ok sc_J (fun vs H Q E h=> ?_) (fun cdv A outer s H vs Q E hr h=> ?_)
 ·obtain⟨Po,o,p,i,rfl,_⟩:=h
  rfl
 ·obtain⟨Po,o,p,i,rfl,⟨dx,sts,Ro,h⟩,q⟩:=h
  have hu:=hu_of hr
  refine⟨_,(pss_cons (ps_if (pt_not (pt_val (pe_meth (pv 0) T.cl_C4 T.m_F G_F (hr.mono (by decide)) T.b_F .nil pass0 (pa_cons (pv 1) pa_nil)))) (pss_one (ps_ret (pe_lst (pa_cons (pe_gi rfl T.g_WRONG) pa_nil)))) pss_nil)
   (pss_cons (ps_if (pt_cmpR op_eq (pe_callB call_len_seq (by rfl) T.z_len PySem.boot_len (pa_cons (pe_fld (pv 0) rfl) pa_nil)) (pe_gi rfl T.g_MOST_FUNCTIONS) (nomark _)) (pss_one (ps_ret (pe_lst (pa_cons (pe_gi rfl T.g_FULL) pa_nil)))) pss_nil)
   (pss_cons (ps_expr (pe_bm PySem.F.plainAttrs_list PySem.F.slot_list_append PySem.F.type_list_append mt_append (pe_fld (pv 0) rfl) (pa_cons (pv 1) pa_nil)))
   (pss_one (ps_ret (pe_lst (pa_cons (pe_op op_sub (pe_callB call_len_seq (by rfl) T.z_len PySem.boot_len (pa_cons (pe_fld (pv 0) rfl) pa_nil)) pe_int) pa_nil))))))),?_⟩
  have hl8:=h.l8
  have hlm:(p.entries.map nV).length=p.entries.length:=List.length_map _
  refine⟨_,rfl,Po,dx,_,rfl,h.po.obj,rfl,_,rfl,Po,dx,sts,Ro,_,_,i,_,rfl,h.po,_,rfl,?_⟩
  by_cases z1:p.points≤i
  ·refine ifT (by rw[decide_eq_false (by omega)];rfl) ?_
   exact q.one (Go.refl h.all) h (if_pos z1)
  refine ifF (by rw[decide_eq_true (by omega)];rfl) ?_
  refine⟨_,rfl,Po,_,_,_,_,rfl,h.po.obj,T.cl_C4,T.na_o,rfl,sts,_,rfl,.inl (SqL.of h.po.lst),rfl,_,rfl,?_⟩
  have e0:Kcv7.step ⟨p⟩ (.function i)=if Kcv7.FUNCTIONS≤p.entries.length then(⟨p⟩,.num (-28)) else(⟨addE p i⟩,.num p.entries.length):=if_neg z1
  by_cases z2:8≤p.entries.length
  ·refine ifT (dT (by omega)) ?_
   exact q.one (Go.refl h.all) h (e0.trans (if_pos z2))
  refine ifF (dF (by omega)) ?_
  refine⟨_,rfl,Po,_,_,_,_,rfl,h.po.obj,T.cl_C4,T.na_o,rfl,.inl ⟨rfl,_,SqL.of h.po.lst⟩,_,rfl,sts,_,_,rfl,rfl,h.po.lst,lt_size (by omega),?_⟩
  have e1:p.entries.map nV++ [nV i]=(p.entries++ [i]).map nV:=by rw[List.map_append];rfl
  rw[e1]
  have g1:Go (fun t=>t= .sts) o H o (upd H sts (.lst ((p.entries++ [i]).map nV))):=Go.set (S:=fun t=>t= .sts) h.all h.tS rfl _ rfl rfl
  have hP1:=g1.at h.po.obj h.tP (fun z=>nomatch z)
  have hS1:(upd H sts (.lst ((p.entries++ [i]).map nV))) sts=some (.lst ((p.entries++ [i]).map nV)):=upd_same
  generalize upd H sts (.lst ((p.entries++ [i]).map nV))=H1 at*
  refine⟨_,rfl,Po,_,_,_,_,rfl,hP1,T.cl_C4,T.na_o,rfl,sts,_,rfl,.inl (SqL.of hS1),?_⟩
  have hlm2:((p.entries++ [i]).map nV).length=p.entries.length+1:=by rw[List.length_map];exact len_snoc
  have px:PX a o H1 Po dx sts Ro (addE p i):=⟨⟨hP1,hS1⟩,h.tP,h.tS,(h.rs.ent (by omega)).same g1 (fun t z y=>by cases z;exact y.2.1 rfl),by show (p.entries++ [i]).length≤8;rw[len_snoc];omega⟩
  have:=q.one (g1.mono all_sts) px (e0.trans (if_neg z2))
  rw[hlm2]
  refine⟨_,_,rfl,rfl,?_⟩
  have e3:((p.entries.length+1:Nat):Int)-1=(p.entries.length:Int):=by omega
  rw[←e3] at this
  exact this
end R
end
section
set_option maxHeartbeats 400000
namespace R
open PySem PySem.Spec PyProof.Rows L2
open KA (Pl InP get put)
open KTh (Kn Off Rec Cov Cl1 IsMin WF Bk By)
open KG (Stp stepsOf Eg EgAt Val GB GOk KOk)
open KL (Nn Mm Gd Ld In1)
variable {P:Program} {w:World} {K:PySem.W.Frag} {mg:Str→Option Value} {base:Heap} {a:Ad}
theorem wf_r {p:Kcv7.Prog} {r:Kcv7.Rule} (W:WF p) (h:r.point<p.points∧(r.set<p.values∨r.set=4)∧r.kind≤2∧(r.kind=0→r.to_<p.points)∧(r.kind=1→r.to_<p.entries.length∧r.next<p.points)):WF (addR p r):=by
 have key:∀{C:Kcv7.Rule→Prop},(∀x∈p.rules,C x)→C r→∀x∈(addR p r).rules,C x:=fun h1 h2 x hx=>(List.mem_append.mp hx).elim (h1 x) fun z=>by rw[List.mem_singleton.mp z];exact h2
 exact⟨W.vpos,W.vle,W.ppos,W.ple,W.ent,key W.pt h.1,key W.set_ h.2.1,key W.kind_ h.2.2.1,key W.to0 h.2.2.2.1,key W.to1 h.2.2.2.2⟩
theorem getD_get {l:List Nat} {t:Nat} (h:t<l.length):(l.map nV)[t]?=some (nV (l.getD t 0)):=by
 rw[List.getElem?_map,List.getD_eq_getElem?_getD,List.getElem?_eq_getElem h]
 rfl
def spRule (a:Ad):Sp:=fun vs H Q _=>∃(Po:Addr) (o:Ow) (p:Kcv7.Prog) (i w' k x t n:Nat),vs= [.ref Po,nV i,nV w',nV k,nV x,nV t,nV n]∧PS a o H Po p∧Done a o H Po (Kcv7.step ⟨p⟩ (.rule i w' k x t n)) Q
theorem ok_M (T:Txt K mg a):FnOk P w K mg base CX0 8 a.f_M a.d_M ["self","point","when","kind","set_to","to","goes_on"] (spRule a):=by
 have G_u:=ok_u (P:=P) (w:=w) (base:=base) T
 have G_K:=ok_K (P:=P) (w:=w) (base:=base) T
 have G_F:=ok_F (P:=P) (w:=w) (base:=base) T
 have G_L:=ok_L (P:=P) (w:=w) (base:=base) T
 refine T.F_M.ok sc_M (fun vs H Q E h=> ?_) (fun cdv A outer s H vs Q E hr h=> ?_)
 ·obtain⟨Po,o,p,i,w',k,x,t,n,rfl,_⟩:=h
  rfl
 ·obtain⟨Po,o,p,i,w',k,x,t,n,rfl,⟨dx,sts,Ro,h⟩,q⟩:=h
  have hu:=hu_of hr
  refine⟨_,(pss_cons (ps_if (PW.pt (pw_or (pt_not (pt_val (pe_meth (pv 0) T.cl_C4 T.m_F G_F (hr.mono (by decide)) T.b_F .nil pass0 (pa_cons (pv 1) pa_nil)))) (pw_or (pt_not (pt_val (pe_meth (pv 0) T.cl_C4 T.m_L G_L (hr.mono (by decide)) T.b_L .nil pass0 (pa_cons (pv 2) pa_nil)))) (pw_or1 (pt_not (pt_val (pe_meth (pv 0) T.cl_C4 T.m_L G_L (hr.mono (by decide)) T.b_L .nil pass0 (pa_cons (pv 4) pa_nil)))))))) (pss_one (ps_ret (pe_lst (pa_cons (pe_gi rfl T.g_WRONG) pa_nil)))) pss_nil)
   (pss_cons (ps_if (pt_not (pt_val (pe_meth (pv 0) T.cl_C4 T.m_K G_K (hr.mono (by decide)) T.b_K .nil pass0 (pa_cons (pv 3) (pa_cons (pv 5) (pa_cons (pv 6) pa_nil)))))) (pss_one (ps_ret (pe_lst (pa_cons (pe_gi rfl T.g_WRONG) pa_nil)))) pss_nil)
   (pss_cons (ps_if (pt_cmpR op_eq (pe_fld (pe_fld (pv 0) rfl) rfl) (pe_gi rfl T.g_MOST_RULES) (nomark _)) (pss_one (ps_ret (pe_lst (pa_cons (pe_gi rfl T.g_FULL) pa_nil)))) pss_nil)
   (pss_cons (ps_set (i:=7) sc_M.nd rfl (Or.inl rfl) (pe_ifExp (pt_cmpR op_eq (pv 3) (pe_gi rfl T.g_CALL) (nomark _)) (pe_ix ix_list (pe_fld (pv 0) rfl) (pv 5) (fun _ _=>rfl)) (pv 5)))
   (pss_cons (ps_expr (pe_meth (pe_fld (pv 0) rfl) T.cl_C3 T.m_u G_u (hr.mono (by decide)) T.b_u .nil pass0 (pa_cons (pv 1) (pa_cons (pv 2) (pa_cons (pv 3) (pa_cons (pv 4) (pa_cons (pv 7) (pa_cons (pv 6) pa_nil))))))))
   (pss_one (ps_ret (pe_lst (pa_cons (pe_op op_sub (pe_fld (pe_fld (pv 0) rfl) rfl) pe_int) pa_nil))))))))),?_⟩
  have hl8:=h.l8
  have e4:Kcv7.VALUES=4:=rfl
  have bad:(p.points≤i∨(p.values≤w'∧w'≠Kcv7.VALUES)∨2<k∨(p.values≤x∧x≠Kcv7.VALUES)∨(k=0∧p.points≤t)∨(k=1∧(p.entries.length≤t∨p.points≤n)))→ [V.int (-22)].length≤sizeLine∧∀l,H l=none→Q (.ref l) (upd H l (.lst [V.int (-22)])):=fun z=>q.one (Go.refl h.all) h (if_pos z)
  refine⟨_,rfl,Po,dx,_,rfl,h.po.obj,rfl,_,rfl,Po,dx,sts,Ro,_,_,i,_,rfl,h.po,_,rfl,?_⟩
  by_cases z1:p.points≤i
  ·exact ifT (by rw[decide_eq_false (by omega)];rfl) (iteT (bad (.inl z1)))
  refine ifF (by rw[decide_eq_true (by omega)];rfl) ?_
  refine⟨_,rfl,Po,dx,_,rfl,h.po.obj,rfl,_,rfl,Po,dx,sts,Ro,_,_,w',_,rfl,h.po,_,rfl,?_⟩
  by_cases z2:w'<p.values∨w'=4
  ·rw[decide_eq_true z2]
   refine iteF ?_
   refine⟨_,rfl,Po,dx,_,rfl,h.po.obj,rfl,_,rfl,Po,dx,sts,Ro,_,_,x,_,rfl,h.po,_,rfl,?_⟩
   by_cases z3:x<p.values∨x=4
   ·rw[decide_eq_true z3]
    refine iteF ?_
    refine⟨_,rfl,Po,dx,_,rfl,h.po.obj,rfl,_,rfl,_,rfl,_,rfl,Po,dx,sts,Ro,_,_,k,t,n,_,rfl,h.po,_,rfl,?_⟩
    by_cases z5:(k=0∧t<p.points)∨(k=1∧t<p.entries.length∧n<p.points)∨k=2
    ·refine ifF (by unfold leads;rw[decide_eq_true z5];rfl) ?_
     have nb:¬(p.points≤i∨(p.values≤w'∧w'≠Kcv7.VALUES)∨2<k∨(p.values≤x∧x≠Kcv7.VALUES)∨(k=0∧p.points≤t)∨(k=1∧(p.entries.length≤t∨p.points≤n))):=by omega
     have e0:Kcv7.step ⟨p⟩ (.rule i w' k x t n)=if Kcv7.RULES≤p.rules.length then(⟨p⟩,.num (-28)) else(⟨addR p ⟨i,w',k,x,t,n⟩⟩,.num p.rules.length):=if_neg nb
     have h64:=h.rs.l64
     have hRS:=h.rs
     obtain⟨dr,pl,st,B,gv,b,Kk,O,rs,r1,r2⟩:=h.rs
     refine⟨_,rfl,Po,_,_,_,_,rfl,h.po.obj,T.cl_C4,T.na_p,rfl,Ro,_,_,_,_,rfl,r1.obj,T.cl_C3,T.na_i,rfl,rfl,_,rfl,?_⟩
     by_cases z6:64≤p.rules.length
     ·refine ifT (dT (by omega)) ?_
      exact q.one (Go.refl h.all) h (e0.trans (if_pos z6))
     refine ifF (dF (by omega)) ?_
     have W:WF (addR p ⟨i,w',k,x,t,n⟩):=wf_r r1.wf ⟨by show i<p.points;omega,by show x<p.values∨x=4;omega,by show k≤2;omega,fun e=>by have e:k=0:=e;show t<p.points;omega,fun e=>by have e:k=1:=e;show t<p.entries.length∧n<p.points;omega⟩
     have fin:∀(y:V),y=nV (if k=1 then Kcv7.entry p t else t)→∀{Q':VK} {E':XK},(∀o1 H1,Go All o H o1 H1→PX a o1 H1 Po dx sts Ro (addR p ⟨i,w',k,x,t,n⟩)→Q' .non H1)→spAddRule a [.ref Ro,nV i,nV w',nV k,nV x,y,nV n] H Q' E':=by
      rintro y rfl Q' E' hQ
      refine⟨Ro,dr,pl,st,B,gv,o,p,b,Kk,O,rs,⟨i,w',k,x,t,n⟩,rfl,r1,W,by omega,fun o1 H1 O1 rs1 g1 rb1=>hQ o1 H1 (g1.mono fun _ z=>z.2.2) ?_⟩
      exact⟨⟨g1.at h.po.obj h.tP (fun z=>z.1 rfl),g1.at h.po.lst h.tS (fun z=>z.2.1 rfl)⟩,g1.tag h.tP,g1.tag h.tS,⟨dr,pl,st,B,.non,b,Kk,O1,rs1,rb1,.inl rfl⟩,hl8⟩
     have last:∀(y:V) (o1:Ow) (H1:Hp),Go All o H o1 H1→PX a o1 H1 Po dx sts Ro (addR p ⟨i,w',k,x,t,n⟩)→ [V.int (((addR p ⟨i,w',k,x,t,n⟩).rules.length:Int)-1)].length≤sizeLine∧∀l,H1 l=none→Q (.ref l) (upd H1 l (.lst [V.int (((addR p ⟨i,w',k,x,t,n⟩).rules.length:Int)-1)])):=fun y o1 H1 g1 px=>by
      have e3:((addR p ⟨i,w',k,x,t,n⟩).rules.length:Int)-1=(p.rules.length:Int):=by
       have:(addR p ⟨i,w',k,x,t,n⟩).rules.length=p.rules.length+1:=len_snoc
       omega
      rw[e3]
      exact q.one g1 px (e0.trans (if_neg z6))
     by_cases z7:k=1
     ·refine⟨_,rfl,rfl,_,rfl,ifT (dT (by omega)) ?_⟩
      refine⟨_,rfl,Po,_,_,_,_,rfl,h.po.obj,T.cl_C4,T.na_o,rfl,_,rfl,sts,_,_,_,rfl,rfl,SqL.of h.po.lst,atI_nat (j:=t) (getD_get (by omega)),?_⟩
      refine⟨_,rfl,Po,_,_,_,_,rfl,h.po.obj,T.cl_C4,T.na_p,rfl,Ro,dr,_,rfl,r1.obj,rfl,_,rfl,_,rfl,_,rfl,_,rfl,_,rfl,_,rfl,?_⟩
      dsimp only[tNil]
      refine fin _ (by rw[if_pos z7];rfl) fun o1 H1 g1 px=> ?_
      obtain⟨dr2,pl2,st2,B2,gv2,e5⟩:=px.rs.obj
      refine⟨_,rfl,Po,_,_,_,_,rfl,px.po.obj,T.cl_C4,T.na_p,rfl,Ro,_,_,_,_,rfl,e5,T.cl_C3,T.na_i,rfl,_,_,rfl,rfl,?_⟩
      exact last .non o1 H1 g1 px
     ·refine⟨_,rfl,rfl,_,rfl,ifF (dF (by omega)) ⟨_,rfl,?_⟩⟩
      refine⟨_,rfl,Po,_,_,_,_,rfl,h.po.obj,T.cl_C4,T.na_p,rfl,Ro,dr,_,rfl,r1.obj,rfl,_,rfl,_,rfl,_,rfl,_,rfl,_,rfl,_,rfl,?_⟩
      dsimp only[tNil]
      refine fin _ (by rw[if_neg z7]) fun o1 H1 g1 px=> ?_
      obtain⟨dr2,pl2,st2,B2,gv2,e5⟩:=px.rs.obj
      refine⟨_,rfl,Po,_,_,_,_,rfl,px.po.obj,T.cl_C4,T.na_p,rfl,Ro,_,_,_,_,rfl,e5,T.cl_C3,T.na_i,rfl,_,_,rfl,rfl,?_⟩
      exact last .non o1 H1 g1 px
    ·refine ifT (by unfold leads;rw[decide_eq_false z5];rfl) ?_
     exact bad (by omega)
   ·rw[decide_eq_false z3]
    exact iteT (bad (by omega))
  ·rw[decide_eq_false z2]
   exact iteT (iteT (bad (by omega)))
end R
end
section
set_option maxHeartbeats 400000
namespace R
open PySem PySem.Spec PyProof.Rows L2
open KA (Pl InP get put)
open KTh (Kn Off Rec Cov Cl1 IsMin WF Bk By)
open KG (Stp stepsOf Eg EgAt Val GB GOk KOk)
open KL (Nn Mm Gd Ld In1)
variable {P:Program} {w:World} {K:PySem.W.Frag} {mg:Str→Option Value} {base:Heap} {a:Ad}
def spBack (a:Ad):Sp:=fun vs H Q _=>∃(Po:Addr) (o:Ow) (p:Kcv7.Prog) (f v x:Nat),vs= [.ref Po,nV f,nV v,nV x]∧PS a o H Po p∧Done a o H Po (Kcv7.step ⟨p⟩ (.back f v x)) Q
theorem ok_N (T:Txt K mg a):FnOk P w K mg base CX0 9 a.f_N a.d_N ["self","number","value","end"] (spBack a):=by
 have G_C:=ok_C (P:=P) (w:=w) (base:=base) T
 have G_x:=ok_x (P:=P) (w:=w) (base:=base) T
 have G_H:=ok_H (P:=P) (w:=w) (base:=base) T
 have G_E:=ok_E (P:=P) (w:=w) (base:=base) T
 refine T.F_N.ok sc_N (fun vs H Q E h=> ?_) (fun cdv A outer s H vs Q E hr h=> ?_)
 ·obtain⟨Po,o,p,f,v,x,rfl,_⟩:=h
  rfl
 ·obtain⟨Po,o,p,f,v,x,rfl,⟨dx,sts,Ro,h⟩,q⟩:=h
  have hu:=hu_of hr
  refine⟨_,(pss_cons (ps_if (PW.pt (pw_or (pt_not (pt_val (pe_meth (pv 0) T.cl_C4 T.m_H G_H (hr.mono (by decide)) T.b_H .nil pass0 (pa_cons (pv 1) pa_nil)))) (pw_or (pt_not (pt_val (pe_meth (pv 0) T.cl_C4 T.m_E G_E (hr.mono (by decide)) T.b_E .nil pass0 (pa_cons (pv 2) pa_nil)))) (pw_or1 (pt_not (pt_val (pe_meth (pv 0) T.cl_C4 T.m_E G_E (hr.mono (by decide)) T.b_E .nil pass0 (pa_cons (pv 3) pa_nil)))))))) (pss_one (ps_ret (pe_lst (pa_cons (pe_gi rfl T.g_NOT_THERE) pa_nil)))) pss_nil)
   (pss_one (ps_ret (pe_call G_C (hr.mono (by decide)) rfl T.mg_C T.k_C T.b_C .nil pass0 (pa_cons (pe_meth (pe_fld (pv 0) rfl) T.cl_C3 T.m_x G_x (hr.mono (by decide)) T.b_x .nil pass0 (pa_cons (pe_tup (pa_cons (pe_ix ix_list (pe_fld (pv 0) rfl) (pv 1) (fun _ _=>rfl)) (pa_cons (pv 2) pa_nil))) (pa_cons (pv 3) pa_nil))) pa_nil))))),?_⟩
  have bad:(p.entries.length≤f∨p.values≤v∨p.values≤x)→ [V.int (-2)].length≤sizeLine∧∀l,H l=none→Q (.ref l) (upd H l (.lst [V.int (-2)])):=fun z=>q.one (Go.refl h.all) h (if_pos z)
  refine⟨_,rfl,Po,dx,_,rfl,h.po.obj,rfl,_,rfl,Po,dx,sts,Ro,_,_,f,_,rfl,h.po,_,rfl,?_⟩
  by_cases z1:p.entries.length≤f
  ·exact ifT (by rw[decide_eq_false (by omega)];rfl) (iteT (bad (.inl z1)))
  refine ifF (by rw[decide_eq_true (by omega)];rfl) ?_
  refine⟨_,rfl,Po,dx,_,rfl,h.po.obj,rfl,_,rfl,Po,dx,sts,Ro,_,_,v,_,rfl,h.po,_,rfl,?_⟩
  by_cases z2:p.values≤v
  ·rw[decide_eq_false (by omega)]
   exact iteT (iteT (bad (.inr (.inl z2))))
  rw[decide_eq_true (by omega)]
  refine iteF ?_
  refine⟨_,rfl,Po,dx,_,rfl,h.po.obj,rfl,_,rfl,Po,dx,sts,Ro,_,_,x,_,rfl,h.po,_,rfl,?_⟩
  by_cases z3:p.values≤x
  ·rw[decide_eq_false (by omega)]
   exact iteT (bad (.inr (.inr z3)))
  rw[decide_eq_true (by omega)]
  refine iteF ?_
  obtain⟨dr,pl,st,B,gv,e5⟩:=h.rs.obj
  have e0:Kcv7.step ⟨p⟩ (.back f v x)=(⟨p⟩,Kcv7.tellFew (Kcv7.look (Kcv7.table p) v (Kcv7.entry p f) x)):=if_neg (show¬(p.entries.length≤f∨p.values≤v∨p.values≤x) by omega)
  refine⟨_,rfl,Po,_,_,_,_,rfl,h.po.obj,T.cl_C4,T.na_p,rfl,Ro,dr,_,rfl,e5,rfl,_,rfl,Po,_,_,_,_,rfl,h.po.obj,T.cl_C4,T.na_o,rfl,_,rfl,sts,_,_,_,rfl,rfl,SqL.of h.po.lst,atI_nat (j:=f) (getD_get (by omega)),_,rfl,by show 2≤sizeLine;decide,fun t ht=> ?_⟩
  have g1:Go S0 o H o _:=Go.alloc h.all ht (.tup [nV (p.entries.getD f 0),nV v])
  have h1:=h.same g1
  refine⟨_,rfl,Ro,t,o,p,(Kcv7.entry p f,v),x,rfl,h1.rs,upd_same,⟨h.rs.wf.entry f,by show v<p.values;omega⟩,fun o2 H2 g2 r2=> ?_⟩
  have h2:=h1.runs g2 r2
  refine⟨_,rfl,?_⟩
  have g:=(g1.mono (S':=All) fun _ z=>z.elim).trans (g2.mono fun _ z=>z.2.2)
  have:=Done.tell (y:=(⟨p⟩,Kcv7.tellFew (Kcv7.look (Kcv7.table p) v (Kcv7.entry p f) x))) (by rw[←e0];exact q) g h2
  exact this
def spReach (a:Ad):Sp:=fun vs H Q _=>∃(Po:Addr) (o:Ow) (p:Kcv7.Prog) (v i x j:Nat),vs= [.ref Po,nV v,nV i,nV x,nV j]∧PS a o H Po p∧Done a o H Po (Kcv7.step ⟨p⟩ (.reach v i x j)) Q
theorem okh {p:Kcv7.Prog} {v i:Nat}:Kcv7.okHead p v i=(decide (v<p.values)&&decide (i<p.points)):=rfl
theorem okT {p:Kcv7.Prog} {v i:Nat} (h:Kcv7.okHead p v i=true):Val p (i,v):=by
 unfold Kcv7.okHead at h
 rw[Bool.and_eq_true] at h
 exact⟨of_decide_eq_true h.2,of_decide_eq_true h.1⟩
theorem ok_O (T:Txt K mg a):FnOk P w K mg base CX0 10 a.f_O a.d_O ["self","value","point","end","goal"] (spReach a):=by
 have G_C:=ok_C (P:=P) (w:=w) (base:=base) T
 have G_y:=ok_y (P:=P) (w:=w) (base:=base) T
 have G_G:=ok_G (P:=P) (w:=w) (base:=base) T
 refine T.F_O.ok sc_O (fun vs H Q E h=> ?_) (fun cdv A outer s H vs Q E hr h=> ?_)
 ·obtain⟨Po,o,p,v,i,x,j,rfl,_⟩:=h
  rfl
 ·obtain⟨Po,o,p,v,i,x,j,rfl,⟨dx,sts,Ro,h⟩,q⟩:=h
  have hu:=hu_of hr
  refine⟨_,(pss_cons (ps_if (PW.pt (pw_or (pt_not (pt_val (pe_meth (pv 0) T.cl_C4 T.m_G G_G (hr.mono (by decide)) T.b_G .nil pass0 (pa_cons (pv 1) (pa_cons (pv 2) pa_nil))))) (pw_or1 (pt_not (pt_val (pe_meth (pv 0) T.cl_C4 T.m_G G_G (hr.mono (by decide)) T.b_G .nil pass0 (pa_cons (pv 3) (pa_cons (pv 4) pa_nil)))))))) (pss_one (ps_ret (pe_lst (pa_cons (pe_gi rfl T.g_NOT_THERE) pa_nil)))) pss_nil)
   (pss_one (ps_ret (pe_call G_C (hr.mono (by decide)) rfl T.mg_C T.k_C T.b_C .nil pass0 (pa_cons (pe_meth (pe_fld (pv 0) rfl) T.cl_C3 T.m_y G_y (hr.mono (by decide)) T.b_y .nil pass0 (pa_cons (pe_tup (pa_cons (pv 2) (pa_cons (pv 1) pa_nil))) (pa_cons (pe_tup (pa_cons (pv 4) (pa_cons (pv 3) pa_nil))) pa_nil))) pa_nil))))),?_⟩
  have bad:(Kcv7.okHead p v i=false∨Kcv7.okHead p x j=false)→ [V.int (-2)].length≤sizeLine∧∀l,H l=none→Q (.ref l) (upd H l (.lst [V.int (-2)])):=fun z=>q.one (Go.refl h.all) h (if_pos z)
  refine⟨_,rfl,Po,dx,_,rfl,h.po.obj,rfl,_,rfl,_,rfl,Po,dx,sts,Ro,_,_,v,i,_,rfl,h.po,_,rfl,?_⟩
  rw[←okh (p:=p)]
  cases z1:Kcv7.okHead p v i with
  |false=>exact iteT (iteT (bad (.inl z1)))
  |true=>
   refine iteF ?_
   refine⟨_,rfl,Po,dx,_,rfl,h.po.obj,rfl,_,rfl,_,rfl,Po,dx,sts,Ro,_,_,x,j,_,rfl,h.po,_,rfl,?_⟩
   rw[←okh (p:=p)]
   cases z2:Kcv7.okHead p x j with
   |false=>exact iteT (bad (.inr z2))
   |true=>
    refine iteF ?_
    obtain⟨dr,pl,st,B,gv,e5⟩:=h.rs.obj
    have e0:Kcv7.step ⟨p⟩ (.reach v i x j)=(⟨p⟩,Kcv7.tellFew (dist p (j,x) (i,v))):=if_neg (by rw[z1,z2];exact fun z=>z.elim (fun z=>nomatch z) (fun z=>nomatch z))
    refine⟨_,rfl,Po,_,_,_,_,rfl,h.po.obj,T.cl_C4,T.na_p,rfl,Ro,dr,_,rfl,e5,rfl,_,rfl,_,rfl,by show 2≤sizeLine;decide,fun t ht=> ?_⟩
    refine⟨_,rfl,_,rfl,by show 2≤sizeLine;decide,fun t' ht'=> ?_⟩
    have g1:Go S0 o H o _:=Go.alloc h.all ht (.tup [nV i,nV v])
    have g2:Go S0 o _ o _:=Go.alloc g1.own ht' (.tup [nV j,nV x])
    have g12:=g1.trans g2
    have h1:=h.same g12
    refine⟨Ro,t,t',o,p,(i,v),(j,x),rfl,h1.rs,g2.tup upd_same,okT z1,upd_same,okT z2,fun o2 H2 g2 r2=> ?_⟩
    have h2:=h1.runs g2 r2
    have g:=(g12.mono (S':=All) fun _ z=>z.elim).trans (g2.mono fun _ z=>z.2.2)
    have:=Done.tell (y:=(⟨p⟩,Kcv7.tellFew (dist p (j,x) (i,v)))) (by rw[←e0];exact q) g h2
    exact⟨_,rfl,this⟩
theorem way_len {p:Kcv7.Prog} (W:WF p) {j k:Pl} (hj:Val p j) (hk:Val p k) {n:Nat} (hd:dist p j k=some n):(wayF p j n ⟨k.2,[k.1]⟩).length=n:=by
 have hj4:j.2<4:=Nat.lt_of_lt_of_le hj.2 W.vle
 have hk4:k.2<4:=Nat.lt_of_lt_of_le hk.2 W.vle
 have hs:∀x∈ [k.1],x<p.points:=fun x hx=>by rw[List.mem_singleton.mp hx];exact hk.1
 have h1:=KTh.isMin_to W hj4 hj.1 (st:= [k.1]) (v:=k.2) hs hk4
 have h2:=lft_one W hj hk
 unfold KG.lft at h2
 rw[h2,hd] at h1
 exact(KTh.wayFrom_least W hj4 hj.1 n ⟨k.2,[k.1]⟩ hk4 hs h1).1
def spWay (a:Ad):Sp:=fun vs H Q _=>∃(Po:Addr) (o:Ow) (p:Kcv7.Prog) (v i x j:Nat),vs= [.ref Po,nV v,nV i,nV x,nV j]∧PS a o H Po p∧Done a o H Po (Kcv7.step ⟨p⟩ (.way v i x j)) Q
theorem ok_P (T:Txt K mg a):FnOk P w K mg base CX0 10 a.f_P a.d_P ["self","value","point","end","goal"] (spWay a):=by
 have G_y:=ok_y (P:=P) (w:=w) (base:=base) T
 have G_z:=ok_z (P:=P) (w:=w) (base:=base) T
 have G_G:=ok_G (P:=P) (w:=w) (base:=base) T
 refine T.F_P.ok sc_P (fun vs H Q E h=> ?_) (fun cdv A outer s H vs Q E hr h=> ?_)
 ·obtain⟨Po,o,p,v,i,x,j,rfl,_⟩:=h
  rfl
 ·obtain⟨Po,o,p,v,i,x,j,rfl,⟨dx,sts,Ro,h⟩,q⟩:=h
  have hu:=hu_of hr
  refine⟨_,(pss_cons (ps_if (PW.pt (pw_or (pt_not (pt_val (pe_meth (pv 0) T.cl_C4 T.m_G G_G (hr.mono (by decide)) T.b_G .nil pass0 (pa_cons (pv 1) (pa_cons (pv 2) pa_nil))))) (pw_or1 (pt_not (pt_val (pe_meth (pv 0) T.cl_C4 T.m_G G_G (hr.mono (by decide)) T.b_G .nil pass0 (pa_cons (pv 3) (pa_cons (pv 4) pa_nil)))))))) (pss_one (ps_ret (pe_lst (pa_cons (pe_gi rfl T.g_NOT_THERE) pa_nil)))) pss_nil)
   (pss_cons (ps_set (i:=5) sc_P.nd rfl (Or.inl rfl) (pe_meth (pe_fld (pv 0) rfl) T.cl_C3 T.m_y G_y (hr.mono (by decide)) T.b_y .nil pass0 (pa_cons (pe_tup (pa_cons (pv 2) (pa_cons (pv 1) pa_nil))) (pa_cons (pe_tup (pa_cons (pv 4) (pa_cons (pv 3) pa_nil))) pa_nil))))
   (pss_cons (ps_if (pt_cmpR op_isN (pv 5) pe_non (nomark _)) (pss_one (ps_ret (pe_lst (pa_cons (pe_gi rfl T.g_NO_RUN) pa_nil)))) pss_nil)
   (pss_cons (ps_if (pt_cmpR op_gt (pv 5) (pe_gi rfl T.g_MOST_STEPS) (nomark _)) (pss_one (ps_ret (pe_lst (pa_cons (pe_gi rfl T.g_TOO_LONG) pa_nil)))) pss_nil)
   (pss_one (ps_ret (pe_op op_cat (pe_lst (pa_cons (pv 5) pa_nil)) (pe_meth (pe_fld (pv 0) rfl) T.cl_C3 T.m_z G_z (hr.mono (by decide)) T.b_z .nil pass0 (pa_cons (pe_tup (pa_cons (pv 2) (pa_cons (pv 1) pa_nil))) (pa_cons (pe_tup (pa_cons (pv 4) (pa_cons (pv 3) pa_nil))) pa_nil)))))))))),?_⟩
  have bad:(Kcv7.okHead p v i=false∨Kcv7.okHead p x j=false)→ [V.int (-2)].length≤sizeLine∧∀l,H l=none→Q (.ref l) (upd H l (.lst [V.int (-2)])):=fun z=>q.one (Go.refl h.all) h (if_pos z)
  refine⟨_,rfl,Po,dx,_,rfl,h.po.obj,rfl,_,rfl,_,rfl,Po,dx,sts,Ro,_,_,v,i,_,rfl,h.po,_,rfl,?_⟩
  rw[←okh (p:=p)]
  cases z1:Kcv7.okHead p v i with
  |false=>exact iteT (iteT (bad (.inl z1)))
  |true=>
   refine iteF ?_
   refine⟨_,rfl,Po,dx,_,rfl,h.po.obj,rfl,_,rfl,_,rfl,Po,dx,sts,Ro,_,_,x,j,_,rfl,h.po,_,rfl,?_⟩
   rw[←okh (p:=p)]
   cases z2:Kcv7.okHead p x j with
   |false=>exact iteT (bad (.inr z2))
   |true=>
    refine iteF ?_
    obtain⟨dr,pl,st,B,gv,e5⟩:=h.rs.obj
    have e0:Kcv7.step ⟨p⟩ (.way v i x j)=match dist p (j,x) (i,v) with
     |none=>(⟨p⟩,.num (-6))
     |some n=>if Kcv7.LONG<n then(⟨p⟩,.num (-28)) else(⟨p⟩,.some_ (Kcv7.wayFrom p (Kcv7.table p) (Kcv7.far p (Kcv7.table p)) x j n ⟨v,[i]⟩)):=if_neg (by rw[z1,z2];exact fun z=>z.elim (fun z=>nomatch z) (fun z=>nomatch z))
    refine⟨_,rfl,Po,_,_,_,_,rfl,h.po.obj,T.cl_C4,T.na_p,rfl,Ro,dr,_,rfl,e5,rfl,_,rfl,_,rfl,by show 2≤sizeLine;decide,fun t ht=> ?_⟩
    refine⟨_,rfl,_,rfl,by show 2≤sizeLine;decide,fun t' ht'=> ?_⟩
    have g1:Go S0 o H o _:=Go.alloc h.all ht (.tup [nV i,nV v])
    have g2:Go S0 o _ o _:=Go.alloc g1.own ht' (.tup [nV j,nV x])
    have g12:=g1.trans g2
    have h1:=h.same g12
    refine⟨Ro,t,t',o,p,(i,v),(j,x),rfl,h1.rs,g2.tup upd_same,okT z1,upd_same,okT z2,fun o2 H2 g2 r2=> ?_⟩
    have h2:=h1.runs g2 r2
    have g:=(g12.mono (S':=All) fun _ z=>z.elim).trans (g2.mono fun _ z=>z.2.2)
    cases ed:dist p (j,x) (i,v) with
    |none=>
     rw[ed] at e0
     exact⟨_,rfl,rfl,_,rfl,iteT (q.one g h2 e0)⟩
    |some n=>
     rw[ed] at e0
     refine⟨_,rfl,rfl,_,rfl,iteF ?_⟩
     refine⟨_,rfl,_,_,rfl,rfl,_,rfl,?_⟩
     by_cases z3:32<n
     ·refine ifT (decide_eq_true (by omega)) ?_
      exact q.one g h2 (e0.trans (if_pos z3))
     refine ifF (decide_eq_false (by omega)) ?_
     have e1:=e0.trans (if_neg z3)
     refine⟨_,rfl,by show 1≤sizeLine;decide,fun l1 hl1=> ?_⟩
     have g3:Go S0 o2 H2 o2 _:=Go.alloc h2.all hl1 (.lst [nV n])
     have h3:=h2.same g3
     obtain⟨dr,pl,st,B,gv,e6⟩:=h3.rs.obj
     refine⟨_,rfl,Po,_,_,_,_,rfl,h3.po.obj,T.cl_C4,T.na_p,rfl,Ro,dr,_,rfl,e6,rfl,_,rfl,_,rfl,by show 2≤sizeLine;decide,fun t ht=> ?_⟩
     refine⟨_,rfl,_,rfl,by show 2≤sizeLine;decide,fun t' ht'=> ?_⟩
     have g4:Go S0 o2 _ o2 _:=Go.alloc g3.own ht (.tup [nV i,nV v])
     have g5:Go S0 o2 _ o2 _:=Go.alloc g4.own ht' (.tup [nV j,nV x])
     have g45:=g4.trans g5
     have h5:=h3.same g45
     refine⟨Ro,t,t',o2,p,(i,v),(j,x),n,rfl,h5.rs,g5.tup upd_same,okT z1,upd_same,okT z2,ed,by omega,fun o6 H6 l g6 r6 tl hl=> ?_⟩
     have h6:=h5.runs g6 r6
     have g36:Go All o2 H2 o6 H6:=((g3.trans g45).mono (S':=All) fun _ z=>z.elim).trans (g6.mono fun _ z=>z.2.2)
     have hl16:H6 l1=some (.lst [nV n]):=g6.fr l1 _ (g45.fr l1 _ upd_same fun _ _ z=>z) fun t' e'=>absurd e' (by rw[h2.all.free hl1];exact fun z=>nomatch z)
     have hlen:=way_len h.rs.wf (okT z2) (okT z1) ed
     have hl':(wayF p (j,x) n ⟨v,[i]⟩).length=n:=hlen
     have hlm:((wayF p (j,x) n ⟨v,[i]⟩).map nV).length=n:=by rw[List.length_map];exact hlen
     refine⟨l1,l,_,_,rfl,rfl,hl16,hl,by show 1+((wayF p (j,x) n ⟨v,[i]⟩).map nV).length≤sizeLine;rw[hlm];exact Nat.le_trans (show 1+n≤33 by omega) (by decide),fun l9 hl9=> ?_⟩
     have:=Done.tell (y:=(⟨p⟩,.some_ (Kcv7.wayFrom p (Kcv7.table p) (Kcv7.far p (Kcv7.table p)) x j n ⟨v,[i]⟩))) (by rw[←e1];exact q) (g.trans g36) h6 l9 hl9
     have e9:(Kcv7Neutral.tell (.some_ (Kcv7.wayFrom p (Kcv7.table p) (Kcv7.far p (Kcv7.table p)) x j n ⟨v,[i]⟩))).map V.int= [nV n]++(wayF p (j,x) n ⟨v,[i]⟩).map nV:=by
      show V.int ((wayF p (j,x) n ⟨v,[i]⟩).length:Int)::((wayF p (j,x) n ⟨v,[i]⟩).map fun(x:Nat)=>(x:Int)).map V.int=_
      rw[hl',List.map_map]
      rfl
     rw[←e9]
     exact this
def spForever (a:Ad):Sp:=fun vs H Q _=>∃(Po:Addr) (o:Ow) (p:Kcv7.Prog) (v i:Nat),vs= [.ref Po,nV v,nV i]∧PS a o H Po p∧Done a o H Po (Kcv7.step ⟨p⟩ (.forever v i)) Q
theorem ok_Q (T:Txt K mg a):FnOk P w K mg base CX0 10 a.f_Q a.d_Q ["self","value","point"] (spForever a):=by
 have G_G:=ok_G (P:=P) (w:=w) (base:=base) T
 have G_A:=ok_A (P:=P) (w:=w) (base:=base) T
 refine T.F_Q.ok sc_Q (fun vs H Q E h=> ?_) (fun cdv A outer s H vs Q E hr h=> ?_)
 ·obtain⟨Po,o,p,v,i,rfl,_⟩:=h
  rfl
 ·obtain⟨Po,o,p,v,i,rfl,⟨dx,sts,Ro,h⟩,q⟩:=h
  have hu:=hu_of hr
  refine⟨_,(pss_cons (ps_if (pt_not (pt_val (pe_meth (pv 0) T.cl_C4 T.m_G G_G (hr.mono (by decide)) T.b_G .nil pass0 (pa_cons (pv 1) (pa_cons (pv 2) pa_nil))))) (pss_one (ps_ret (pe_lst (pa_cons (pe_gi rfl T.g_NOT_THERE) pa_nil)))) pss_nil)
   (pss_one (ps_ret (pe_lst (pa_cons (pe_ifExp (pt_val (pe_meth (pe_fld (pv 0) rfl) T.cl_C3 T.m_A G_A (hr.mono (by decide)) T.b_A .nil pass0 (pa_cons (pe_tup (pa_cons (pv 2) (pa_cons (pv 1) pa_nil))) pa_nil))) pe_int pe_int) pa_nil))))),?_⟩
  have bad:(Kcv7.okHead p v i=false)→ [V.int (-2)].length≤sizeLine∧∀l,H l=none→Q (.ref l) (upd H l (.lst [V.int (-2)])):=fun z=>q.one (Go.refl h.all) h (if_pos z)
  refine⟨_,rfl,Po,dx,_,rfl,h.po.obj,rfl,_,rfl,_,rfl,Po,dx,sts,Ro,_,_,v,i,_,rfl,h.po,_,rfl,?_⟩
  rw[←okh (p:=p)]
  cases z1:Kcv7.okHead p v i with
  |false=>exact iteT (bad z1)
  |true=>
   refine iteF ?_
   obtain⟨dr,pl,st,B,gv,e5⟩:=h.rs.obj
   have e0:Kcv7.step ⟨p⟩ (.forever v i)=(⟨p⟩,.num (if Kcv7.forever p (Kcv7.table p) v i then 1 else 0)):=if_neg (show¬(Kcv7.okHead p v i=false) by rw[z1];exact fun z=>nomatch z)
   refine⟨_,rfl,Po,_,_,_,_,rfl,h.po.obj,T.cl_C4,T.na_p,rfl,Ro,dr,_,rfl,e5,rfl,_,rfl,_,rfl,by show 2≤sizeLine;decide,fun t ht=> ?_⟩
   have g1:Go S0 o H o _:=Go.alloc h.all ht (.tup [nV i,nV v])
   have h1:=h.same g1
   refine⟨Ro,t,o,p,(i,v),rfl,h1.rs,upd_same,okT z1,fun o2 H2 g2 r2=>⟨_,rfl,?_⟩⟩
   have h2:=h1.runs g2 r2
   have g:=(g1.mono (S':=All) fun _ z=>z.elim).trans (g2.mono fun _ z=>z.2.2)
   show if Kcv7.forever p (Kcv7.table p) v i=true then _ else _
   cases z2:Kcv7.forever p (Kcv7.table p) v i with
   |true=>rw[z2] at e0;exact iteT (q.one g h2 e0)
   |false=>rw[z2] at e0;exact iteF (q.one g h2 e0)
def spAlways2 (a:Ad):Sp:=fun vs H Q _=>∃(Po:Addr) (o:Ow) (p:Kcv7.Prog) (v i:Nat),vs= [.ref Po,nV v,nV i]∧PS a o H Po p∧Done a o H Po (Kcv7.step ⟨p⟩ (.always v i)) Q
theorem ok_R (T:Txt K mg a):FnOk P w K mg base CX0 10 a.f_R a.d_R ["self","value","point"] (spAlways2 a):=by
 have G_G:=ok_G (P:=P) (w:=w) (base:=base) T
 have G_B:=ok_B (P:=P) (w:=w) (base:=base) T
 refine T.F_R.ok sc_R (fun vs H Q E h=> ?_) (fun cdv A outer s H vs Q E hr h=> ?_)
 ·obtain⟨Po,o,p,v,i,rfl,_⟩:=h
  rfl
 ·obtain⟨Po,o,p,v,i,rfl,⟨dx,sts,Ro,h⟩,q⟩:=h
  have hu:=hu_of hr
  refine⟨_,(pss_cons (ps_if (pt_not (pt_val (pe_meth (pv 0) T.cl_C4 T.m_G G_G (hr.mono (by decide)) T.b_G .nil pass0 (pa_cons (pv 1) (pa_cons (pv 2) pa_nil))))) (pss_one (ps_ret (pe_lst (pa_cons (pe_gi rfl T.g_NOT_THERE) pa_nil)))) pss_nil)
   (pss_one (ps_ret (pe_lst (pa_cons (pe_ifExp (pt_val (pe_meth (pe_fld (pv 0) rfl) T.cl_C3 T.m_B G_B (hr.mono (by decide)) T.b_B .nil pass0 (pa_cons (pe_tup (pa_cons (pv 2) (pa_cons (pv 1) pa_nil))) pa_nil))) pe_int pe_int) pa_nil))))),?_⟩
  have bad:(Kcv7.okHead p v i=false)→ [V.int (-2)].length≤sizeLine∧∀l,H l=none→Q (.ref l) (upd H l (.lst [V.int (-2)])):=fun z=>q.one (Go.refl h.all) h (if_pos z)
  refine⟨_,rfl,Po,dx,_,rfl,h.po.obj,rfl,_,rfl,_,rfl,Po,dx,sts,Ro,_,_,v,i,_,rfl,h.po,_,rfl,?_⟩
  rw[←okh (p:=p)]
  cases z1:Kcv7.okHead p v i with
  |false=>exact iteT (bad z1)
  |true=>
   refine iteF ?_
   obtain⟨dr,pl,st,B,gv,e5⟩:=h.rs.obj
   have e0:Kcv7.step ⟨p⟩ (.always v i)=(⟨p⟩,.num (if Kcv7.forever p (Kcv7.table p) v i||Kcv7.stuck p (Kcv7.table p) v i then 0 else 1)):=if_neg (show¬(Kcv7.okHead p v i=false) by rw[z1];exact fun z=>nomatch z)
   refine⟨_,rfl,Po,_,_,_,_,rfl,h.po.obj,T.cl_C4,T.na_p,rfl,Ro,dr,_,rfl,e5,rfl,_,rfl,_,rfl,by show 2≤sizeLine;decide,fun t ht=> ?_⟩
   have g1:Go S0 o H o _:=Go.alloc h.all ht (.tup [nV i,nV v])
   have h1:=h.same g1
   refine⟨Ro,t,o,p,(i,v),rfl,h1.rs,upd_same,okT z1,fun o2 H2 g2 r2=>⟨_,rfl,?_⟩⟩
   have h2:=h1.runs g2 r2
   have g:=(g1.mono (S':=All) fun _ z=>z.elim).trans (g2.mono fun _ z=>z.2.2)
   show if (!(Kcv7.forever p (Kcv7.table p) v i||Kcv7.stuck p (Kcv7.table p) v i))=true then _ else _
   cases z2:(Kcv7.forever p (Kcv7.table p) v i||Kcv7.stuck p (Kcv7.table p) v i) with
   |true=>rw[z2] at e0;exact iteF (q.one g h2 e0)
   |false=>rw[z2] at e0;exact iteT (q.one g h2 e0)
end R
end
section
set_option maxHeartbeats 400000
namespace R
open PySem PySem.Spec PyProof.Rows L2
open KA (Pl InP get put)
open KTh (Kn Off Rec Cov Cl1 IsMin WF Bk By)
open KG (Stp stepsOf Eg EgAt Val GB GOk KOk)
open KL (Nn Mm Gd Ld In1)
variable {P:Program} {w:World} {K:PySem.W.Frag} {mg:Str→Option Value} {base:Heap} {a:Ad}
theorem dne {x y:Int} (h:x≠y):decide (V.int x=V.int y)=false:=decide_eq_false fun e=>h (by injection e)
theorem deq {x y:Int} (h:x=y):decide (V.int x=V.int y)=true:=decide_eq_true (by rw[h])
def NB (a:Ad) (o:Ow) (H:Hp) (Po:Addr):Prop:=∃dx sts Ro,PO a H Po dx 0 0 sts Ro []∧o Po=some .pg∧Own o H∧Unf o H∧o sts=some .sts
theorem n32 {x:Int} (h:KTop.N32 x):V.int x=nV x.toNat:=by
 show V.int x=V.int (x.toNat:Int)
 rw[show (x.toNat:Int)=x from Int.toNat_of_nonneg h.1]
def spAnswer (a:Ad):Sp:=fun vs H Q _=>∃(nb:Prop) (Po gl:Addr) (o:Ow) (s:Kcv7.Abs) (k:Int) (args:List Int) (c:Kcv7.Call),vs= [.ref Po,.int k,.ref gl]∧H gl=some (.lst (args.map V.int))∧KTop.Cl k args c∧(PS a o H Po s.prog∨(s=Kcv7.first∧NB a o H Po∧k=0∧nb))∧
 ∀(o':Ow) (H':Hp) (l:Addr),Go All o H o' H'→(PS a o' H' Po (Kcv7.step s c).1.prog∨((Kcv7.step s c).1=Kcv7.first∧NB a o' H' Po∧(Kcv7.step s c).2= .num (-22)∧nb))→o' l=none→H' l=some (.lst ((Kcv7Neutral.tell (Kcv7.step s c).2).map V.int))→Q (.ref l) H'
theorem ok_S (T:Txt K mg a):FnOk P w K mg base CX0 11 a.f_S a.d_S ["program","number","given"] (spAnswer a):=by
 have G_R:=ok_R (P:=P) (w:=w) (base:=base) T
 have G_I:=ok_I (P:=P) (w:=w) (base:=base) T
 have G_J:=ok_J (P:=P) (w:=w) (base:=base) T
 have G_M:=ok_M (P:=P) (w:=w) (base:=base) T
 have G_N:=ok_N (P:=P) (w:=w) (base:=base) T
 have G_O:=ok_O (P:=P) (w:=w) (base:=base) T
 have G_P:=ok_P (P:=P) (w:=w) (base:=base) T
 have G_Q:=ok_Q (P:=P) (w:=w) (base:=base) T
 refine T.F_S.ok sc_S (fun vs H Q E h=> ?_) (fun cdv A outer s H vs Q E hr h=> ?_)
 ·obtain⟨nb,Po,gl,o,s,k,args,c,rfl,_⟩:=h
  rfl
 ·obtain⟨nb,Po,gl,o,s,k,args,c,rfl,hgl,hc,hs,q⟩:=h
  have hu:=hu_of hr
  refine⟨_,(pss_cons (ps_if (pt_cmpR op_eq (pv 1) pe_int (nomark _)) (pss_one (ps_ret (pe_meth (pv 0) T.cl_C4 T.m_I G_I (hr.mono (by decide)) T.b_I .nil pass0 (pa_cons (pe_ix ix_list (pv 2) pe_int (fun _ _=>rfl)) (pa_cons (pe_ix ix_list (pv 2) pe_int (fun _ _=>rfl)) pa_nil))))) pss_nil)
   (pss_cons (ps_if (pt_cmpR op_eq (pv 1) pe_int (nomark _)) (pss_one (ps_ret (pe_meth (pv 0) T.cl_C4 T.m_J G_J (hr.mono (by decide)) T.b_J .nil pass0 (pa_cons (pe_ix ix_list (pv 2) pe_int (fun _ _=>rfl)) pa_nil)))) pss_nil)
   (pss_cons (ps_if (pt_cmpR op_eq (pv 1) pe_int (nomark _)) (pss_one (ps_ret (pe_meth (pv 0) T.cl_C4 T.m_M G_M (hr.mono (by decide)) T.b_M .nil pass0 (pa_cons (pe_ix ix_list (pv 2) pe_int (fun _ _=>rfl)) (pa_cons (pe_ix ix_list (pv 2) pe_int (fun _ _=>rfl)) (pa_cons (pe_ix ix_list (pv 2) pe_int (fun _ _=>rfl)) (pa_cons (pe_ix ix_list (pv 2) pe_int (fun _ _=>rfl)) (pa_cons (pe_ix ix_list (pv 2) pe_int (fun _ _=>rfl)) (pa_cons (pe_ix ix_list (pv 2) pe_int (fun _ _=>rfl)) pa_nil))))))))) pss_nil)
   (pss_cons (ps_if (pt_cmpR op_eq (pv 1) pe_int (nomark _)) (pss_one (ps_ret (pe_meth (pv 0) T.cl_C4 T.m_N G_N (hr.mono (by decide)) T.b_N .nil pass0 (pa_cons (pe_ix ix_list (pv 2) pe_int (fun _ _=>rfl)) (pa_cons (pe_ix ix_list (pv 2) pe_int (fun _ _=>rfl)) (pa_cons (pe_ix ix_list (pv 2) pe_int (fun _ _=>rfl)) pa_nil)))))) pss_nil)
   (pss_cons (ps_if (pt_cmpR op_eq (pv 1) pe_int (nomark _)) (pss_one (ps_ret (pe_meth (pv 0) T.cl_C4 T.m_O G_O (hr.mono (by decide)) T.b_O .nil pass0 (pa_cons (pe_ix ix_list (pv 2) pe_int (fun _ _=>rfl)) (pa_cons (pe_ix ix_list (pv 2) pe_int (fun _ _=>rfl)) (pa_cons (pe_ix ix_list (pv 2) pe_int (fun _ _=>rfl)) (pa_cons (pe_ix ix_list (pv 2) pe_int (fun _ _=>rfl)) pa_nil))))))) pss_nil)
   (pss_cons (ps_if (pt_cmpR op_eq (pv 1) pe_int (nomark _)) (pss_one (ps_ret (pe_meth (pv 0) T.cl_C4 T.m_P G_P (hr.mono (by decide)) T.b_P .nil pass0 (pa_cons (pe_ix ix_list (pv 2) pe_int (fun _ _=>rfl)) (pa_cons (pe_ix ix_list (pv 2) pe_int (fun _ _=>rfl)) (pa_cons (pe_ix ix_list (pv 2) pe_int (fun _ _=>rfl)) (pa_cons (pe_ix ix_list (pv 2) pe_int (fun _ _=>rfl)) pa_nil))))))) pss_nil)
   (pss_cons (ps_if (pt_cmpR op_eq (pv 1) pe_int (nomark _)) (pss_one (ps_ret (pe_meth (pv 0) T.cl_C4 T.m_Q G_Q (hr.mono (by decide)) T.b_Q .nil pass0 (pa_cons (pe_ix ix_list (pv 2) pe_int (fun _ _=>rfl)) (pa_cons (pe_ix ix_list (pv 2) pe_int (fun _ _=>rfl)) pa_nil))))) pss_nil)
   (pss_one (ps_ret (pe_meth (pv 0) T.cl_C4 T.m_R G_R (hr.mono (by decide)) T.b_R .nil pass0 (pa_cons (pe_ix ix_list (pv 2) pe_int (fun _ _=>rfl)) (pa_cons (pe_ix ix_list (pv 2) pe_int (fun _ _=>rfl)) pa_nil)))))))))))),?_⟩
  have ps:k≠0→PS a o H Po s.prog∧Done a o H Po (Kcv7.step ⟨s.prog⟩ c) Q:=fun hk=>by
   refine⟨hs.elim id fun z=>absurd z.2.2.1 hk,fun o' H' l g p tl hl=>q o' H' l g (.inl p) tl hl⟩
  cases hc with
  | @begin_ x1 x2 h1 h2=>
   have hpo:∃dx v0 n0 sts Ro es,PO a H Po dx v0 n0 sts Ro es∧o Po=some .pg∧Own o H∧Unf o H:=by
    rcases hs with ⟨dx,sts,Ro,px⟩|⟨_,⟨dx,sts,Ro,z1,z2,z3,z4,z5⟩,_⟩
    ·exact⟨_,_,_,_,_,_,px.po,px.tP,px.rs.own,px.rs.unf⟩
    ·exact⟨_,_,_,_,_,_,z1,z2,z3,z4⟩
   obtain⟨dx,v0,n0,sts,Ro,es,hP,tP,ow,uf⟩:=hpo
   refine⟨_,rfl,rfl,_,rfl,ifT (deq rfl) ?_⟩
   refine⟨_,rfl,Po,dx,_,rfl,hP.obj,rfl,_,rfl,gl,_,_,_,rfl,rfl,SqL.of hgl,atI_nat (j:=0) rfl,_,rfl,gl,_,_,_,rfl,rfl,SqL.of hgl,atI_nat (j:=1) rfl,?_⟩
   refine⟨Po,dx,sts,Ro,o,v0,n0,x1.toNat,x2.toNat,es,by rw[n32 h1,n32 h2];rfl,hP,tP,ow,uf,fun z l hl=> ?_,fun z o' H' l g p tl hl=> ?_⟩
   ·have e0:Kcv7.step s (.begin_ x1.toNat x2.toNat)=(s,.num (-22)):=if_pos z
    have ga:Go S0 o H o (upd H l (.lst [V.int (-22)])):=Go.alloc ow hl _
    refine q o _ l (ga.mono fun _ z=>z.elim) ?_ (ow.free hl) (by rw[e0];exact upd_same)
    rw[e0]
    rcases hs with ⟨dx,sts,Ro,px⟩|⟨y1,⟨dx,sts,Ro,z1,z2,z3,z4,z5⟩,_,hnb⟩
    ·exact .inl ⟨dx,sts,Ro,px.same ga⟩
    ·exact .inr ⟨y1,⟨dx,sts,Ro,⟨ga.fr _ _ z1.obj (fun _ _ z=>z),ga.fr _ _ z1.lst (fun _ _ z=>z)⟩,z2,ga.own,ga.unf z4,z5⟩,rfl,hnb⟩
   ·have e0:Kcv7.step s (.begin_ x1.toNat x2.toNat)=(⟨⟨x1.toNat,x2.toNat,[],[]⟩⟩,.num 0):=if_neg z
    refine q o' H' l g ?_ tl ?_
    ·rw[e0];exact .inl p
    ·rw[e0];exact hl
  |function h1=>
   obtain⟨pp,dn⟩:=ps (by decide)
   obtain⟨dx,sts,Ro,px⟩:=id pp
   refine⟨_,rfl,rfl,_,rfl,ifF (dne (by decide)) ?_⟩
   refine⟨_,rfl,rfl,_,rfl,ifT (deq rfl) ?_⟩
   refine⟨_,rfl,Po,dx,_,rfl,px.po.obj,rfl,_,rfl,gl,_,_,_,rfl,rfl,SqL.of hgl,atI_nat (j:=0) rfl,?_⟩
   exact⟨Po,o,s.prog,_,by rw[n32 h1];rfl,pp,dn⟩
  |rule h1 h2 h3 h4 h5 h6=>
   obtain⟨pp,dn⟩:=ps (by decide)
   obtain⟨dx,sts,Ro,px⟩:=id pp
   refine⟨_,rfl,rfl,_,rfl,ifF (dne (by decide)) ?_⟩
   refine⟨_,rfl,rfl,_,rfl,ifF (dne (by decide)) ?_⟩
   refine⟨_,rfl,rfl,_,rfl,ifT (deq rfl) ?_⟩
   refine⟨_,rfl,Po,dx,_,rfl,px.po.obj,rfl,_,rfl,gl,_,_,_,rfl,rfl,SqL.of hgl,atI_nat (j:=0) rfl,_,rfl,gl,_,_,_,rfl,rfl,SqL.of hgl,atI_nat (j:=1) rfl,_,rfl,gl,_,_,_,rfl,rfl,SqL.of hgl,atI_nat (j:=2) rfl,_,rfl,gl,_,_,_,rfl,rfl,SqL.of hgl,atI_nat (j:=3) rfl,_,rfl,gl,_,_,_,rfl,rfl,SqL.of hgl,atI_nat (j:=4) rfl,_,rfl,gl,_,_,_,rfl,rfl,SqL.of hgl,atI_nat (j:=5) rfl,?_⟩
   exact⟨Po,o,s.prog,_,_,_,_,_,_,by rw[n32 h1,n32 h2,n32 h3,n32 h4,n32 h5,n32 h6];rfl,pp,dn⟩
  |back h1 h2 h3=>
   obtain⟨pp,dn⟩:=ps (by decide)
   obtain⟨dx,sts,Ro,px⟩:=id pp
   refine⟨_,rfl,rfl,_,rfl,ifF (dne (by decide)) ?_⟩
   refine⟨_,rfl,rfl,_,rfl,ifF (dne (by decide)) ?_⟩
   refine⟨_,rfl,rfl,_,rfl,ifF (dne (by decide)) ?_⟩
   refine⟨_,rfl,rfl,_,rfl,ifT (deq rfl) ?_⟩
   refine⟨_,rfl,Po,dx,_,rfl,px.po.obj,rfl,_,rfl,gl,_,_,_,rfl,rfl,SqL.of hgl,atI_nat (j:=0) rfl,_,rfl,gl,_,_,_,rfl,rfl,SqL.of hgl,atI_nat (j:=1) rfl,_,rfl,gl,_,_,_,rfl,rfl,SqL.of hgl,atI_nat (j:=2) rfl,?_⟩
   exact⟨Po,o,s.prog,_,_,_,by rw[n32 h1,n32 h2,n32 h3];rfl,pp,dn⟩
  |reach h1 h2 h3 h4=>
   obtain⟨pp,dn⟩:=ps (by decide)
   obtain⟨dx,sts,Ro,px⟩:=id pp
   refine⟨_,rfl,rfl,_,rfl,ifF (dne (by decide)) ?_⟩
   refine⟨_,rfl,rfl,_,rfl,ifF (dne (by decide)) ?_⟩
   refine⟨_,rfl,rfl,_,rfl,ifF (dne (by decide)) ?_⟩
   refine⟨_,rfl,rfl,_,rfl,ifF (dne (by decide)) ?_⟩
   refine⟨_,rfl,rfl,_,rfl,ifT (deq rfl) ?_⟩
   refine⟨_,rfl,Po,dx,_,rfl,px.po.obj,rfl,_,rfl,gl,_,_,_,rfl,rfl,SqL.of hgl,atI_nat (j:=0) rfl,_,rfl,gl,_,_,_,rfl,rfl,SqL.of hgl,atI_nat (j:=1) rfl,_,rfl,gl,_,_,_,rfl,rfl,SqL.of hgl,atI_nat (j:=2) rfl,_,rfl,gl,_,_,_,rfl,rfl,SqL.of hgl,atI_nat (j:=3) rfl,?_⟩
   exact⟨Po,o,s.prog,_,_,_,_,by rw[n32 h1,n32 h2,n32 h3,n32 h4];rfl,pp,dn⟩
  |way h1 h2 h3 h4=>
   obtain⟨pp,dn⟩:=ps (by decide)
   obtain⟨dx,sts,Ro,px⟩:=id pp
   refine⟨_,rfl,rfl,_,rfl,ifF (dne (by decide)) ?_⟩
   refine⟨_,rfl,rfl,_,rfl,ifF (dne (by decide)) ?_⟩
   refine⟨_,rfl,rfl,_,rfl,ifF (dne (by decide)) ?_⟩
   refine⟨_,rfl,rfl,_,rfl,ifF (dne (by decide)) ?_⟩
   refine⟨_,rfl,rfl,_,rfl,ifF (dne (by decide)) ?_⟩
   refine⟨_,rfl,rfl,_,rfl,ifT (deq rfl) ?_⟩
   refine⟨_,rfl,Po,dx,_,rfl,px.po.obj,rfl,_,rfl,gl,_,_,_,rfl,rfl,SqL.of hgl,atI_nat (j:=0) rfl,_,rfl,gl,_,_,_,rfl,rfl,SqL.of hgl,atI_nat (j:=1) rfl,_,rfl,gl,_,_,_,rfl,rfl,SqL.of hgl,atI_nat (j:=2) rfl,_,rfl,gl,_,_,_,rfl,rfl,SqL.of hgl,atI_nat (j:=3) rfl,?_⟩
   exact⟨Po,o,s.prog,_,_,_,_,by rw[n32 h1,n32 h2,n32 h3,n32 h4];rfl,pp,dn⟩
  |forever h1 h2=>
   obtain⟨pp,dn⟩:=ps (by decide)
   obtain⟨dx,sts,Ro,px⟩:=id pp
   refine⟨_,rfl,rfl,_,rfl,ifF (dne (by decide)) ?_⟩
   refine⟨_,rfl,rfl,_,rfl,ifF (dne (by decide)) ?_⟩
   refine⟨_,rfl,rfl,_,rfl,ifF (dne (by decide)) ?_⟩
   refine⟨_,rfl,rfl,_,rfl,ifF (dne (by decide)) ?_⟩
   refine⟨_,rfl,rfl,_,rfl,ifF (dne (by decide)) ?_⟩
   refine⟨_,rfl,rfl,_,rfl,ifF (dne (by decide)) ?_⟩
   refine⟨_,rfl,rfl,_,rfl,ifT (deq rfl) ?_⟩
   refine⟨_,rfl,Po,dx,_,rfl,px.po.obj,rfl,_,rfl,gl,_,_,_,rfl,rfl,SqL.of hgl,atI_nat (j:=0) rfl,_,rfl,gl,_,_,_,rfl,rfl,SqL.of hgl,atI_nat (j:=1) rfl,?_⟩
   exact⟨Po,o,s.prog,_,_,by rw[n32 h1,n32 h2];rfl,pp,dn⟩
  |always h1 h2=>
   obtain⟨pp,dn⟩:=ps (by decide)
   obtain⟨dx,sts,Ro,px⟩:=id pp
   refine⟨_,rfl,rfl,_,rfl,ifF (dne (by decide)) ?_⟩
   refine⟨_,rfl,rfl,_,rfl,ifF (dne (by decide)) ?_⟩
   refine⟨_,rfl,rfl,_,rfl,ifF (dne (by decide)) ?_⟩
   refine⟨_,rfl,rfl,_,rfl,ifF (dne (by decide)) ?_⟩
   refine⟨_,rfl,rfl,_,rfl,ifF (dne (by decide)) ?_⟩
   refine⟨_,rfl,rfl,_,rfl,ifF (dne (by decide)) ?_⟩
   refine⟨_,rfl,rfl,_,rfl,ifF (dne (by decide)) ?_⟩
   refine⟨_,rfl,Po,dx,_,rfl,px.po.obj,rfl,_,rfl,gl,_,_,_,rfl,rfl,SqL.of hgl,atI_nat (j:=0) rfl,_,rfl,gl,_,_,_,rfl,rfl,SqL.of hgl,atI_nat (j:=1) rfl,?_⟩
   exact⟨Po,o,s.prog,_,_,by rw[n32 h1,n32 h2];rfl,pp,dn⟩
end R
end
section
set_option maxHeartbeats 400000
namespace R
open PySem PySem.Spec PyProof.Rows L2
open KA (Pl InP get put)
open KTh (Kn Off Rec Cov Cl1 IsMin WF Bk By)
open KG (Stp stepsOf Eg EgAt Val GB GOk KOk)
open KL (Nn Mm Gd Ld In1)
variable {P:Program} {w:World} {K:PySem.W.Frag} {mg:Str→Option Value} {base:Heap} {a:Ad}
theorem Own.bare {H:Hp}:Own (fun _=>none) H:=fun b t e=>by cases e
theorem good_step {s:Kcv7.Abs} {k:Int} {args:List Int} (hc:KTop.Cl k args (Kcv7Neutral.call [k::args])) (hg:Kcv7Neutral.good [k::args]=true) (h:(Kcv7.step s (Kcv7Neutral.call [k::args])).2= .num (-22)):False:=by
 unfold Kcv7Neutral.good at hg
 rw[Bool.and_eq_true,Bool.and_eq_true,Bool.and_eq_true,Bool.and_eq_true] at hg
 obtain⟨⟨⟨⟨h0,h1⟩,h2⟩,h3⟩,h4⟩:=hg
 have h0:=eq_of_beq h0
 have h1:=of_decide_eq_true h1
 have h2:=of_decide_eq_true h2
 have h3:=of_decide_eq_true h3
 have h4:=of_decide_eq_true h4
 have e:Kcv7Neutral.call [k::args]= .begin_ (Kcv7Neutral.n [k::args] 1) (Kcv7Neutral.n [k::args] 2):=by
  unfold Kcv7Neutral.call
  rw[h0]
  rfl
 rw[e] at h
 have e4:Kcv7.VALUES=4:=rfl
 have e32:Kcv7.POINTS=32:=rfl
 have:Kcv7.step s (.begin_ (Kcv7Neutral.n [k::args] 1) (Kcv7Neutral.n [k::args] 2))=(⟨⟨Kcv7Neutral.n [k::args] 1,Kcv7Neutral.n [k::args] 2,[],[]⟩⟩,.num 0):=if_neg (by omega)
 rw[this] at h
 cases h
theorem n0_zero {k:Int} {args:List Int} {c:Kcv7.Call} (hc:KTop.Cl k args c) (h:Kcv7Neutral.n [k::args] 0=0):k=0:=by
 have:k.toNat=0:=h
 cases hc<;>first|rfl|(exact absurd this (by decide))
def spAnswers (K:PySem.W.Frag):Sp:=fun vs H Q _=>∃(ca:Addr) (ns:List Int),vs= [.ref ca]∧SqL K H ca (ns.map V.int)∧PyKcv7.answers_asked ns=true∧
 ∀(H':Hp) (p:Addr),H' p=some (.lst ((PyKcv7.answers ns).map V.int))→Q (.ref p) H'
theorem counts {k:Int} (h0:0≤k) (h7:k≤7):(([2,1,6,3,4,4,2,2]:List Int).map V.int)[k.toNat]?=some (V.int (KTop.cnt k:Int)):=by
 obtain⟨n,rfl⟩:∃n:Nat,k=(n:Int):=⟨k.toNat,by omega⟩
 have hn:n<8:=by omega
 match n,hn with
 |0,_=>rfl
 |1,_=>rfl
 |2,_=>rfl
 |3,_=>rfl
 |4,_=>rfl
 |5,_=>rfl
 |6,_=>rfl
 |7,_=>rfl
 |n+8,h=>exact absurd h (by omega)
theorem cut_args {ns pre args t:List Int} {k:Int} {c:Nat} (h:ns=pre++k::(args++t)) (hc:args.length=c):cutV (ns.map V.int) (some ((pre.length:Int)+1)) (some ((pre.length:Int)+1+(c:Int)))=args.map V.int:=by
 have e1:(pre.length:Int)+1=((pre.length+1:Nat):Int):=by omega
 have e2:(pre.length:Int)+1+(c:Int)=((pre.length+1+c:Nat):Int):=by omega
 have hl:(ns.map V.int).length=pre.length+1+c+t.length:=by
  rw[List.length_map,h,List.length_append,List.length_cons,List.length_append];omega
 unfold cutV
 rw[e2,e1,HT.sIx_nat,HT.sIx_nat,hl,Nat.min_eq_left (by omega),Nat.min_eq_left (by omega),show pre.length+1+c-(pre.length+1)=c by omega]
 rw[←List.map_drop,←List.map_take]
 congr 1
 have e3:ns=(pre++ [k])++(args++t):=by rw[h];simp
 rw[e3,List.drop_left' (by rw[List.length_append];rfl),←hc,List.take_left']
 rfl
theorem len_told {acc one rest:List Int} {x:Int}:acc.length+(one.length+1)≤(acc++((x::one)++rest)).length:=by
 rw[List.length_append,List.length_append,List.length_cons];omega
theorem big2 {n:Nat} (h:n<1002000):n<sizeLine:=Nat.lt_trans h (by decide)
structure At (a:Ad) (H H':Hp) (ns:List Int) (Po tl:Addr) (m:Nat) (o':Ow) (s:Kcv7.Abs) (pre t:List Int) (f:Nat) (cs:List (List (List Int))) (acc:List Int):Prop where
 cut:ns=pre++t
 parse:PyFlat.calls PyKcv7.shape f t=some cs
 len:m=cs.length
 each:∀c∈cs,Kcv7Neutral.asked1 c=true
 same:Same H H'
 free:H tl=none
 un:∀b u,H b=some u→o' b=none
 told:H' tl=some (.lst (acc.map V.int))
 tag:o' tl=some .tl
 ans:acc++PyFlat.told (PyFlat.played Kcv7Neutral.step s cs)=PyKcv7.answers ns
 st:PS a o' H' Po s.prog∨(s=Kcv7.first∧NB a o' H' Po∧Kcv7Neutral.begun cs=true)
theorem ok_T (T:Txt K mg a):FnOk P w K mg base CX0 12 a.f_T a.d_T ["calls"] (spAnswers K):=by
 have G_D:=ok_D (P:=P) (w:=w) (base:=base) T
 have G_S:=ok_S (P:=P) (w:=w) (base:=base) T
 refine T.F_T.ok sc_T (fun vs H Q E h=> ?_) (fun cdv A outer s H vs Q E hr h=> ?_)
 ·obtain⟨ca,ns,rfl,_⟩:=h
  rfl
 ·obtain⟨ca,ns,rfl,hS,hask,q⟩:=h
  have hu:=hu_of hr
  refine⟨_,(pss_cons (ps_set (i:=1) sc_T.nd rfl (Or.inl rfl) (pe_make0 T.mk_C4 G_D (hr.mono (by decide)) rfl T.mg_C4 T.b_D .nil pass0))
   (pss_cons (ps_set (i:=2) sc_T.nd rfl (Or.inl rfl) (pe_lst pa_nil))
   (pss_cons (ps_set (i:=3) sc_T.nd rfl (Or.inl rfl) pe_int)
   (pss_cons (ps_while PassesOwn.never (pt_cmpR op_lt (pv 3) (pe_callB call_len_seq (by rfl) T.z_len PySem.boot_len (pa_cons (pv 0) pa_nil)) (nomark _)) (pss_cons (ps_set (i:=4) sc_T.nd rfl (Or.inl rfl) (pe_ix ix_list (pv 0) (pv 3) (fun _ _=>rfl)))
   (pss_cons (ps_set (i:=5) sc_T.nd rfl (Or.inl rfl) (pe_op op_add (pe_op op_add (pv 3) pe_int) (pe_ix ix_tup (pe_glob (v:= .ref a.t_ARGUMENT_COUNTS) rfl T.g_ARGUMENT_COUNTS rfl) (pv 4) (fun _ _=>rfl))))
   (pss_cons (ps_set (i:=6) sc_T.nd rfl (Or.inl rfl) (pe_call G_S (hr.mono (by decide)) rfl T.mg_S T.k_S T.b_S .nil pass0 (pa_cons (pv 1) (pa_cons (pv 4) (pa_cons (pe_slice sl_list (pv 0) (po_some (pe_op op_add (pv 3) pe_int)) (po_some (pv 5))) pa_nil)))))
   (pss_cons (ps_expr (pe_bm PySem.F.plainAttrs_list PySem.F.slot_list_append PySem.F.type_list_append mt_append (pv 2) (pa_cons (pe_callB call_len_seq (by rfl) T.z_len PySem.boot_len (pa_cons (pv 6) pa_nil)) pa_nil)))
   (pss_cons (ps_expr (pe_bm PySem.F.plainAttrs_list PySem.F.slot_list_extend PySem.F.type_list_extend mt_extend (pv 2) (pa_cons (pv 6) pa_nil)))
   (pss_one (ps_set (i:=3) sc_T.nd rfl (Or.inl rfl) (pv 5)))))))))
   (pss_one (ps_ret (pv 2))))))),?_⟩
  obtain⟨cs0,A⟩:=KTop.asked_of hask
  have hshort:=A.short
  have hb:Own (fun _=>none) H:=Own.bare
  intro Po dP nP ndP neP
  have g1:Go S0 (fun _=>none) H (fun _=>none) (upd H dP (.own Po)):=Go.alloc hb ndP _
  have hPn:(upd H dP (.own Po)) Po=none:=by rw[upd_ne neP.symm];exact nP
  have g2:Go S0 (fun _=>none) (upd H dP (.own Po)) (oput (fun _=>none) Po .pg) (upd (upd H dP (.own Po)) Po (.ins a.c_C4 dP [])):=Go.allocT g1.own hPn _ _ rfl rfl
  have g12:=g1.trans g2
  refine⟨Po,dP,oput (fun _=>none) Po .pg,rfl,upd_same,g12.own,oput_same,fun o3 H3 sts Ro g3 hP tP tS=>⟨rfl,?_⟩⟩
  have g03:Go All (fun _=>none) H o3 H3:=(g12.mono fun _ z=>z.elim).trans g3
  have s03:Same H H3:=fun b u e=>g03.fr b u e fun t z=>nomatch z
  have u03:Unf o3 H3:=g03.unf fun b t f u e=>nomatch e
  refine⟨by show 0≤sizeLine;decide,fun tl htl=> ?_⟩
  have g4:Go S0 o3 H3 (oput o3 tl .tl) (upd H3 tl (.lst [])):=Go.allocT g03.own htl _ _ rfl rfl
  have s04:Same H (upd H3 tl (.lst [])):=fun b u e=>by rw[upd_ne (ne_of_none (s03 b u e) htl)];exact s03 b u e
  refine⟨fun m σ H'=>∃(x4 x5 x6:Option V) (o':Ow) (s:Kcv7.Abs) (pre t:List Int) (f:Nat) (cs:List (List (List Int))) (acc:List Int),σ= [some (.ref ca),some (.ref Po),some (.ref tl),some (nV pre.length),x4,x5,x6]∧At a H H' ns Po tl m o' s pre t f cs acc,
   ⟨cs0.length,_,_,_,oput o3 tl .tl,Kcv7Neutral.start,[],ns,ns.length,cs0,[],rfl,rfl,A.parse,rfl,A.each,s04,s03.free htl,fun b u e=>by rw[oput_ne (ne_of_none (s03 b u e) htl)];exact g03.ext b (by rw[e];exact fun z=>nomatch z),upd_same,oput_same,A.ans.symm,.inr ⟨rfl,⟨dP,sts,Ro,⟨g4.fr _ _ hP.obj (fun _ _ z=>z),g4.fr _ _ hP.lst (fun _ _ z=>z)⟩,g4.tag tP,g4.own,g4.unf u03,g4.tag tS⟩,A.begun⟩⟩,?_⟩
  rintro m σ H1 ⟨x4,x5,x6,o1,s,pre,t,f,cs,acc,rfl,B⟩
  have hSq:=B.same.seq hS
  refine⟨_,rfl,_,rfl,ca,_,rfl,.inl hSq,_,_,rfl,rfl,_,rfl,ite2 (fun hlt=> ?_) (fun hge=> ?_)⟩
  ·cases cs with
   |nil=>
    have:=KTop.calls_nil B.parse
    have hl:=of_decide_eq_true hlt
    rw[List.length_map,B.cut,this,List.append_nil] at hl
    omega
   |cons c cs=>
    obtain⟨k,args,t',f',rfl,rfl,k0,k7,hn,hp⟩:=KTop.calls_cons B.parse
    have hcl:=KTop.cl_of (B.each _ List.mem_cons_self)
    refine⟨_,fun σ' H' h=>⟨cs.length,by rw[B.len,List.length_cons];omega,h⟩,?_⟩
    have hget:(ns.map V.int)[pre.length]?=some (V.int k):=by
     rw[List.getElem?_map,B.cut,List.getElem?_append_right (Nat.le_refl _),Nat.sub_self]
     rfl
    refine⟨_,rfl,_,rfl,ca,_,_,_,rfl,rfl,hSq,atI_nat (j:=pre.length) hget,?_⟩
    refine⟨_,rfl,_,_,rfl,rfl,_,rfl,a.t_ARGUMENT_COUNTS,_,_,_,rfl,rfl,T.s_ARGUMENT_COUNTS H1,at_of (j:=k.toNat) (by omega) (counts k0 k7),_,_,rfl,rfl,?_⟩
    have own1:Own o1 H1:=B.st.elim (fun⟨_,_,_,px⟩=>px.rs.own) fun⟨_,⟨_,_,_,_,_,z,_,_⟩,_⟩=>z
    have ecut:=cut_args B.cut hn
    refine⟨_,rfl,_,rfl,_,rfl,_,rfl,_,_,rfl,rfl,_,rfl,_,rfl,_,rfl,ca,_,rfl,hSq,fun gl hgl=> ?_⟩
    rw[ecut]
    have g5:Go S0 o1 H1 o1 (upd H1 gl (.lst (args.map V.int))):=Go.alloc own1 hgl _
    refine⟨Kcv7Neutral.begun ([k::args]::cs)=true,Po,gl,o1,s,k,args,_,rfl,upd_same,hcl,?_,fun o2 H2 l g6 hst tlf hl=> ?_⟩
    ·rcases B.st with ⟨dx,sts,Ro,px⟩|⟨y1,⟨dx,sts,Ro,z1,z2,z3,z4,z5⟩,hbg⟩
     ·exact .inl ⟨dx,sts,Ro,px.same g5⟩
     ·refine .inr ⟨y1,⟨dx,sts,Ro,⟨g5.fr _ _ z1.obj (fun _ _ z=>z),g5.fr _ _ z1.lst (fun _ _ z=>z)⟩,z2,g5.own,g5.unf z4,z5⟩,?_,hbg⟩
      rcases KTop.begun_cons hbg with hg|hg
      ·unfold Kcv7Neutral.good at hg
       rw[Bool.and_eq_true,Bool.and_eq_true,Bool.and_eq_true,Bool.and_eq_true] at hg
       exact n0_zero hcl (eq_of_beq hg.1.1.1.1)
      ·exact n0_zero hcl hg.1
    have htl2:H2 tl=some (.lst (acc.map V.int)):=g6.at (g5.fr _ _ B.told (fun _ _ z=>z)) B.tag (fun z=>z rfl)
    have ttl2:o2 tl=some .tl:=g6.tag B.tag
    have nl:l≠tl:=fun e=>by rw[e,ttl2] at tlf;cases tlf
    have same2:Same H H2:=fun b u e=>by
     have e1:=B.same b u e
     have e2:=g5.fr b u e1 (fun _ _ z=>z)
     exact g6.fr b u e2 fun t z=>by rw[B.un b u e] at z;cases z
    have un2:∀b u,H b=some u→o2 b=none:=fun b u e=>(g6.ext b (by rw[g5.fr b u (B.same b u e) (fun _ _ z=>z)];exact fun z=>nomatch z)).trans (B.un b u e)
    have own2:Own o2 H2:=g6.own
    have hanswer:=B.ans
    have epl:PyFlat.played Kcv7Neutral.step s ([k::args]::cs)=Kcv7Neutral.tell (Kcv7.step s (Kcv7Neutral.call [k::args])).2::PyFlat.played Kcv7Neutral.step (Kcv7.step s (Kcv7Neutral.call [k::args])).1 cs:=rfl
    rw[epl,KTop.told_cons] at hanswer
    generalize Kcv7Neutral.tell (Kcv7.step s (Kcv7Neutral.call [k::args])).2=one at hl hanswer
    have hlens:acc.length+(one.length+1)≤(PyKcv7.answers ns).length:=by
     rw[←hanswer]
     exact len_told
    have l1:(acc.map V.int).length=acc.length:=List.length_map _
    have l2:(one.map V.int).length=one.length:=List.length_map _
    refine⟨_,rfl,.inl ⟨rfl,_,SqL.of htl2⟩,_,rfl,l,_,rfl,.inl (SqL.of hl),tl,_,_,rfl,rfl,htl2,by rw[l1];exact big2 (by omega),?_⟩
    have g7:Go (fun t=>t= .tl) o2 H2 o2 (upd H2 tl (.lst (acc.map V.int++ [V.int ((one.map V.int).length:Int)]))):=Go.set (S:=fun t=>t= .tl) own2 ttl2 rfl _ rfl rfl
    have hl3:(upd H2 tl (.lst (acc.map V.int++ [V.int ((one.map V.int).length:Int)]))) l=some (.lst (one.map V.int)):=by rw[upd_ne nl];exact hl
    refine⟨_,rfl,.inl ⟨rfl,_,SqL.of upd_same⟩,_,rfl,tl,l,_,_,rfl,rfl,upd_same,hl3,by rw[len_snoc,l1,l2];exact Nat.le_of_lt (big2 (by omega)),?_⟩
    have g8:Go (fun t=>t= .tl) o2 _ o2 (upd (upd H2 tl (.lst (acc.map V.int++ [V.int ((one.map V.int).length:Int)]))) tl (.lst (acc.map V.int++ [V.int ((one.map V.int).length:Int)]++one.map V.int))):=Go.set (S:=fun t=>t= .tl) g7.own ttl2 rfl _ rfl rfl
    have g78:=g7.trans g8
    have e8:nV (pre++k::args).length=V.int ((pre.length:Int)+1+(KTop.cnt k:Int)):=by
     show V.int (((pre++k::args).length:Nat):Int)=_
     congr 1
     rw[List.length_append,List.length_cons,hn]
     omega
    have e9:acc.map V.int++ [V.int ((one.map V.int).length:Int)]++one.map V.int=(acc++((one.length:Int)::one)).map V.int:=by
     rw[l2,List.map_append,List.map_cons,List.append_assoc]
     rfl
    refine⟨_,rfl,_,_,_,o2,(Kcv7.step s (Kcv7Neutral.call [k::args])).1,pre++k::args,t',f',cs,acc++((one.length:Int)::one),by rw[e8];rfl,?_,hp,rfl,fun c hc=>B.each c (List.mem_cons_of_mem _ hc),?_,B.free,un2,by rw[upd_same,e9],ttl2,?_,?_⟩
    ·rw[B.cut];simp
    ·intro b u e
     have n:b≠tl:=ne_of_none e B.free
     rw[upd_ne n,upd_ne n];exact same2 b u e
    ·rw[List.append_assoc];exact hanswer
    ·rcases hst with ⟨dx,sts,Ro,px⟩|⟨y1,⟨dx,sts,Ro,z1,z2,z3,z4,z5⟩,y2,hbg⟩
     ·exact .inl ⟨dx,sts,Ro,px.told g78⟩
     ·refine .inr ⟨y1,⟨dx,sts,Ro,⟨g78.at z1.obj z2 (fun z=>nomatch z),g78.at z1.lst z5 (fun z=>nomatch z)⟩,g78.tag z2,g78.own,g78.unf z4,g78.tag z5⟩,?_⟩
      rcases KTop.begun_cons hbg with hg|hg
      ·exact(good_step hcl hg y2).elim
      ·exact hg.2
  ·have hcs:cs= []:=by
    cases cs with
    |nil=>rfl
    |cons c cs=>
     obtain⟨k,args,t',f',rfl,rfl,k0,k7,hn,hp⟩:=KTop.calls_cons B.parse
     have hl:¬(pre.length:Int)<((ns.map V.int).length:Int):=fun z=>hge (decide_eq_true z)
     rw[List.length_map,B.cut,List.length_append,List.length_cons] at hl
     omega
   subst hcs
   refine⟨_,rfl,q _ tl ?_⟩
   have:=B.ans
   rw[show PyFlat.told (PyFlat.played Kcv7Neutral.step s [])= [] from rfl,List.append_nil] at this
   rw[B.told,this]
end R
end
section
set_option maxHeartbeats 0
namespace R
open PySem PySem.Spec PyProof.Rows L2
theorem u0 {p:List Value→Prop} (h:p []):∀us:List Value,us.length=0→p us
 | [],_=>h
theorem u1 {p:List Value→Prop} (h:∀a,p [a]):∀us:List Value,us.length=1→p us
 |a::r,e=>u0 (p:=fun l=>p (a::l)) (h a) r (Nat.succ.inj e)
theorem u2 {p:List Value→Prop} (h:∀a b,p [a,b]):∀us:List Value,us.length=2→p us
 |a::r,e=>u1 (p:=fun l=>p (a::l)) (h a) r (Nat.succ.inj e)
theorem u3 {p:List Value→Prop} (h:∀a b c,p [a,b,c]):∀us:List Value,us.length=3→p us
 |a::r,e=>u2 (p:=fun l=>p (a::l)) (h a) r (Nat.succ.inj e)
theorem u4 {p:List Value→Prop} (h:∀a b c d,p [a,b,c,d]):∀us:List Value,us.length=4→p us
 |a::r,e=>u3 (p:=fun l=>p (a::l)) (h a) r (Nat.succ.inj e)
theorem u5 {p:List Value→Prop} (h:∀a b c d e,p [a,b,c,d,e]):∀us:List Value,us.length=5→p us
 |a::r,e=>u4 (p:=fun l=>p (a::l)) (h a) r (Nat.succ.inj e)
theorem u6 {p:List Value→Prop} (h:∀a b c d e f,p [a,b,c,d,e,f]):∀us:List Value,us.length=6→p us
 |a::r,e=>u5 (p:=fun l=>p (a::l)) (h a) r (Nat.succ.inj e)
theorem u7 {p:List Value→Prop} (h:∀a b c d e f g,p [a,b,c,d,e,f,g]):∀us:List Value,us.length=7→p us
 |a::r,e=>u6 (p:=fun l=>p (a::l)) (h a) r (Nat.succ.inj e)
theorem bn_0 {K:PySem.W.Frag} {f:Addr} {fd:FuncData} (F:Fun K "push" "push" s_0 f fd):Binds K fd ["heap","entry"] []:=F.binds fun _ _ _ _ _ _=>u2 fun _ _=>rfl
theorem bn_1 {K:PySem.W.Frag} {f:Addr} {fd:FuncData} (F:Fun K "lesser_child" "lesser_child" s_1 f fd):Binds K fd ["heap","at"] []:=F.binds fun _ _ _ _ _ _=>u2 fun _ _=>rfl
theorem bn_2 {K:PySem.W.Frag} {f:Addr} {fd:FuncData} (F:Fun K "sink" "sink" s_2 f fd):Binds K fd ["heap","entry"] []:=F.binds fun _ _ _ _ _ _=>u2 fun _ _=>rfl
theorem bn_3 {K:PySem.W.Frag} {f:Addr} {fd:FuncData} (F:Fun K "pop_least" "pop_least" s_3 f fd):Binds K fd ["heap"] []:=F.binds fun _ _ _ _ _ _=>u1 fun _=>rfl
theorem bn_4 {K:PySem.W.Frag} {f:Addr} {fd:FuncData} (F:Fun K "__init__" "Backs.__init__" s_4 f fd):Binds K fd ["self"] []:=F.binds fun _ _ _ _ _ _=>u1 fun _=>rfl
theorem bn_5 {K:PySem.W.Frag} {f:Addr} {fd:FuncData} (F:Fun K "add_step" "Backs.add_step" s_5 f fd):Binds K fd ["self","place","kind","target","goes_on"] []:=F.binds fun _ _ _ _ _ _=>u5 fun _ _ _ _ _=>rfl
theorem bn_6 {K:PySem.W.Frag} {f:Addr} {fd:FuncData} (F:Fun K "ends_of" "Backs.ends_of" s_6 f fd):Binds K fd ["self","place"] []:=F.binds fun _ _ _ _ _ _=>u2 fun _ _=>rfl
theorem bn_7 {K:PySem.W.Frag} {f:Addr} {fd:FuncData} (F:Fun K "offer" "Backs.offer" s_7 f fd):Binds K fd ["self","place","end","steps"] []:=F.binds fun _ _ _ _ _ _=>u4 fun _ _ _ _=>rfl
theorem bn_8 {K:PySem.W.Frag} {f:Addr} {fd:FuncData} (F:Fun K "offer_through" "Backs.offer_through" s_8 f fd):Binds K fd ["self","place","onward","steps"] []:=F.binds fun _ _ _ _ _ _=>u4 fun _ _ _ _=>rfl
theorem bn_9 {K:PySem.W.Frag} {f:Addr} {fd:FuncData} (F:Fun K "is_better" "Backs.is_better" s_9 f fd):Binds K fd ["self","place","end","steps"] []:=F.binds fun _ _ _ _ _ _=>u4 fun _ _ _ _=>rfl
theorem bn_a {K:PySem.W.Frag} {f:Addr} {fd:FuncData} (F:Fun K "take_offers" "Backs.take_offers" s_a f fd):Binds K fd ["self"] []:=F.binds fun _ _ _ _ _ _=>u1 fun _=>rfl
theorem bn_b {K:PySem.W.Frag} {f:Addr} {fd:FuncData} (F:Fun K "take" "Backs.take" s_b f fd):Binds K fd ["self","place","end","steps"] []:=F.binds fun _ _ _ _ _ _=>u4 fun _ _ _ _=>rfl
theorem bn_c {K:PySem.W.Frag} {f:Addr} {fd:FuncData} (F:Fun K "tell_goers" "Backs.tell_goers" s_c f fd):Binds K fd ["self","place","end","steps"] []:=F.binds fun _ _ _ _ _ _=>u4 fun _ _ _ _=>rfl
theorem bn_d {K:PySem.W.Frag} {f:Addr} {fd:FuncData} (F:Fun K "tell_callers" "Backs.tell_callers" s_d f fd):Binds K fd ["self","place","end","steps"] []:=F.binds fun _ _ _ _ _ _=>u4 fun _ _ _ _=>rfl
theorem bn_e {K:PySem.W.Frag} {f:Addr} {fd:FuncData} (F:Fun K "tell_waiters" "Backs.tell_waiters" s_e f fd):Binds K fd ["self","place","end","steps"] []:=F.binds fun _ _ _ _ _ _=>u4 fun _ _ _ _=>rfl
theorem bn_f {K:PySem.W.Frag} {f:Addr} {fd:FuncData} (F:Fun K "__init__" "Graph.__init__" s_f f fd):Binds K fd ["self","places","steps_at","backs"] []:=F.binds fun _ _ _ _ _ _=>u4 fun _ _ _ _=>rfl
theorem bn_g {K:PySem.W.Frag} {f:Addr} {fd:FuncData} (F:Fun K "add_edges" "Graph.add_edges" s_g f fd):Binds K fd ["self","place","kind","target","goes_on","backs"] []:=F.binds fun _ _ _ _ _ _=>u6 fun _ _ _ _ _ _=>rfl
theorem bn_h {K:PySem.W.Frag} {f:Addr} {fd:FuncData} (F:Fun K "add_edge" "Graph.add_edge" s_h f fd):Binds K fd ["self","place","onward","steps"] []:=F.binds fun _ _ _ _ _ _=>u4 fun _ _ _ _=>rfl
theorem bn_i {K:PySem.W.Frag} {f:Addr} {fd:FuncData} (F:Fun K "distances_to" "Graph.distances_to" s_i f fd):Binds K fd ["self","target"] []:=F.binds fun _ _ _ _ _ _=>u2 fun _ _=>rfl
theorem bn_j {K:PySem.W.Frag} {f:Addr} {fd:FuncData} (F:Fun K "find_distances_to" "Graph.find_distances_to" s_j f fd):Binds K fd ["self","target"] []:=F.binds fun _ _ _ _ _ _=>u2 fun _ _=>rfl
theorem bn_k {K:PySem.W.Frag} {f:Addr} {fd:FuncData} (F:Fun K "ending_places" "Graph.ending_places" s_k f fd):Binds K fd ["self"] []:=F.binds fun _ _ _ _ _ _=>u1 fun _=>rfl
theorem bn_l {K:PySem.W.Frag} {f:Addr} {fd:FuncData} (F:Fun K "places_always_back" "Graph.places_always_back" s_l f fd):Binds K fd ["self"] []:=F.binds fun _ _ _ _ _ _=>u1 fun _=>rfl
theorem bn_m {K:PySem.W.Frag} {f:Addr} {fd:FuncData} (F:Fun K "leading_only_to" "Graph.leading_only_to" s_m f fd):Binds K fd ["self","last"] []:=F.binds fun _ _ _ _ _ _=>u2 fun _ _=>rfl
theorem bn_n {K:PySem.W.Frag} {f:Addr} {fd:FuncData} (F:Fun K "__init__" "Ways.__init__" s_n f fd):Binds K fd ["self","value_count","steps_at","backs","distances"] []:=F.binds fun _ _ _ _ _ _=>u5 fun _ _ _ _ _=>rfl
theorem bn_o {K:PySem.W.Frag} {f:Addr} {fd:FuncData} (F:Fun K "fewest_from" "Ways.fewest_from" s_o f fd):Binds K fd ["self","place","latest"] []:=F.binds fun _ _ _ _ _ _=>u3 fun _ _ _=>rfl
theorem bn_p {K:PySem.W.Frag} {f:Addr} {fd:FuncData} (F:Fun K "call" "Ways.call" s_p f fd):Binds K fd ["self","goes_on","latest"] []:=F.binds fun _ _ _ _ _ _=>u3 fun _ _ _=>rfl
theorem bn_q {K:PySem.W.Frag} {f:Addr} {fd:FuncData} (F:Fun K "state_after" "Ways.state_after" s_q f fd):Binds K fd ["self","kind","target","goes_on","latest"] []:=F.binds fun _ _ _ _ _ _=>u5 fun _ _ _ _ _=>rfl
theorem bn_r {K:PySem.W.Frag} {f:Addr} {fd:FuncData} (F:Fun K "first_step" "Ways.first_step" s_r f fd):Binds K fd ["self","state","left"] []:=F.binds fun _ _ _ _ _ _=>u3 fun _ _ _=>rfl
theorem bn_s {K:PySem.W.Frag} {f:Addr} {fd:FuncData} (F:Fun K "earliest_from" "Ways.earliest_from" s_s f fd):Binds K fd ["self","place"] []:=F.binds fun _ _ _ _ _ _=>u2 fun _ _=>rfl
theorem bn_t {K:PySem.W.Frag} {f:Addr} {fd:FuncData} (F:Fun K "__init__" "Runs.__init__" s_t f fd):Binds K fd ["self","value_count","point_count"] []:=F.binds fun _ _ _ _ _ _=>u3 fun _ _ _=>rfl
theorem bn_u {K:PySem.W.Frag} {f:Addr} {fd:FuncData} (F:Fun K "add_rule" "Runs.add_rule" s_u f fd):Binds K fd ["self","point","when","kind","set_to","start","goes_on"] []:=F.binds fun _ _ _ _ _ _=>u7 fun _ _ _ _ _ _ _=>rfl
theorem bn_v {K:PySem.W.Frag} {f:Addr} {fd:FuncData} (F:Fun K "add_step" "Runs.add_step" s_v f fd):Binds K fd ["self","place","kind","target","goes_on"] []:=F.binds fun _ _ _ _ _ _=>u5 fun _ _ _ _ _=>rfl
theorem bn_w {K:PySem.W.Frag} {f:Addr} {fd:FuncData} (F:Fun K "graph_of_now" "Runs.graph_of_now" s_w f fd):Binds K fd ["self"] []:=F.binds fun _ _ _ _ _ _=>u1 fun _=>rfl
theorem bn_x {K:PySem.W.Frag} {f:Addr} {fd:FuncData} (F:Fun K "fewest_till_back" "Runs.fewest_till_back" s_x f fd):Binds K fd ["self","place","end"] []:=F.binds fun _ _ _ _ _ _=>u3 fun _ _ _=>rfl
theorem bn_y {K:PySem.W.Frag} {f:Addr} {fd:FuncData} (F:Fun K "fewest_to" "Runs.fewest_to" s_y f fd):Binds K fd ["self","place","target"] []:=F.binds fun _ _ _ _ _ _=>u3 fun _ _ _=>rfl
theorem bn_z {K:PySem.W.Frag} {f:Addr} {fd:FuncData} (F:Fun K "earliest_way" "Runs.earliest_way" s_z f fd):Binds K fd ["self","place","target"] []:=F.binds fun _ _ _ _ _ _=>u3 fun _ _ _=>rfl
theorem bn_A {K:PySem.W.Frag} {f:Addr} {fd:FuncData} (F:Fun K "can_go_on_for_ever" "Runs.can_go_on_for_ever" s_A f fd):Binds K fd ["self","place"] []:=F.binds fun _ _ _ _ _ _=>u2 fun _ _=>rfl
theorem bn_B {K:PySem.W.Frag} {f:Addr} {fd:FuncData} (F:Fun K "is_always_back" "Runs.is_always_back" s_B f fd):Binds K fd ["self","place"] []:=F.binds fun _ _ _ _ _ _=>u2 fun _ _=>rfl
theorem bn_C {K:PySem.W.Frag} {f:Addr} {fd:FuncData} (F:Fun K "told_of_steps" "told_of_steps" s_C f fd):Binds K fd ["steps"] []:=F.binds fun _ _ _ _ _ _=>u1 fun _=>rfl
theorem bn_D {K:PySem.W.Frag} {f:Addr} {fd:FuncData} (F:Fun K "__init__" "Program.__init__" s_D f fd):Binds K fd ["self"] []:=F.binds fun _ _ _ _ _ _=>u1 fun _=>rfl
theorem bn_E {K:PySem.W.Frag} {f:Addr} {fd:FuncData} (F:Fun K "has_value" "Program.has_value" s_E f fd):Binds K fd ["self","value"] []:=F.binds fun _ _ _ _ _ _=>u2 fun _ _=>rfl
theorem bn_F {K:PySem.W.Frag} {f:Addr} {fd:FuncData} (F:Fun K "has_point" "Program.has_point" s_F f fd):Binds K fd ["self","point"] []:=F.binds fun _ _ _ _ _ _=>u2 fun _ _=>rfl
theorem bn_G {K:PySem.W.Frag} {f:Addr} {fd:FuncData} (F:Fun K "has_place" "Program.has_place" s_G f fd):Binds K fd ["self","value","point"] []:=F.binds fun _ _ _ _ _ _=>u3 fun _ _ _=>rfl
theorem bn_H {K:PySem.W.Frag} {f:Addr} {fd:FuncData} (F:Fun K "has_function" "Program.has_function" s_H f fd):Binds K fd ["self","number"] []:=F.binds fun _ _ _ _ _ _=>u2 fun _ _=>rfl
theorem bn_I {K:PySem.W.Frag} {f:Addr} {fd:FuncData} (F:Fun K "begin" "Program.begin" s_I f fd):Binds K fd ["self","value_count","point_count"] []:=F.binds fun _ _ _ _ _ _=>u3 fun _ _ _=>rfl
theorem bn_J {K:PySem.W.Frag} {f:Addr} {fd:FuncData} (F:Fun K "function" "Program.function" s_J f fd):Binds K fd ["self","point"] []:=F.binds fun _ _ _ _ _ _=>u2 fun _ _=>rfl
theorem bn_K {K:PySem.W.Frag} {f:Addr} {fd:FuncData} (F:Fun K "leads_somewhere" "Program.leads_somewhere" s_K f fd):Binds K fd ["self","kind","to","goes_on"] []:=F.binds fun _ _ _ _ _ _=>u4 fun _ _ _ _=>rfl
theorem bn_L {K:PySem.W.Frag} {f:Addr} {fd:FuncData} (F:Fun K "is_value_or_any" "Program.is_value_or_any" s_L f fd):Binds K fd ["self","value"] []:=F.binds fun _ _ _ _ _ _=>u2 fun _ _=>rfl
theorem bn_M {K:PySem.W.Frag} {f:Addr} {fd:FuncData} (F:Fun K "rule" "Program.rule" s_M f fd):Binds K fd ["self","point","when","kind","set_to","to","goes_on"] []:=F.binds fun _ _ _ _ _ _=>u7 fun _ _ _ _ _ _ _=>rfl
theorem bn_N {K:PySem.W.Frag} {f:Addr} {fd:FuncData} (F:Fun K "back" "Program.back" s_N f fd):Binds K fd ["self","number","value","end"] []:=F.binds fun _ _ _ _ _ _=>u4 fun _ _ _ _=>rfl
theorem bn_O {K:PySem.W.Frag} {f:Addr} {fd:FuncData} (F:Fun K "reach" "Program.reach" s_O f fd):Binds K fd ["self","value","point","end","goal"] []:=F.binds fun _ _ _ _ _ _=>u5 fun _ _ _ _ _=>rfl
theorem bn_P {K:PySem.W.Frag} {f:Addr} {fd:FuncData} (F:Fun K "way" "Program.way" s_P f fd):Binds K fd ["self","value","point","end","goal"] []:=F.binds fun _ _ _ _ _ _=>u5 fun _ _ _ _ _=>rfl
theorem bn_Q {K:PySem.W.Frag} {f:Addr} {fd:FuncData} (F:Fun K "forever" "Program.forever" s_Q f fd):Binds K fd ["self","value","point"] []:=F.binds fun _ _ _ _ _ _=>u3 fun _ _ _=>rfl
theorem bn_R {K:PySem.W.Frag} {f:Addr} {fd:FuncData} (F:Fun K "always" "Program.always" s_R f fd):Binds K fd ["self","value","point"] []:=F.binds fun _ _ _ _ _ _=>u3 fun _ _ _=>rfl
theorem bn_S {K:PySem.W.Frag} {f:Addr} {fd:FuncData} (F:Fun K "answer" "answer" s_S f fd):Binds K fd ["program","number","given"] []:=F.binds fun _ _ _ _ _ _=>u3 fun _ _ _=>rfl
theorem bn_T {K:PySem.W.Frag} {f:Addr} {fd:FuncData} (F:Fun K "answers" "answers" s_T f fd):Binds K fd ["calls"] []:=F.binds fun _ _ _ _ _ _=>u1 fun _=>rfl
theorem t_mk {K:PySem.W.Frag} {p:Addr} {o:Obj} {xs:List V} (l:K.lookup p=some o) (e:∃(its:Array Value) (n:Nat),o.cls= .type "tuple" ∧o.data= .seq its n∧its.size≤sizeLine∧Vals xs its.toList) (H:Hp):SqT K H p xs:=by
 obtain⟨its,n,e1,e2,e3,e4⟩:=e
 exact .inr ⟨_,its,n,l,e1,e2,e3,e4⟩
theorem i_mk {K:PySem.W.Frag} {h:Heap} {mg:Str→Option Value} {n:Str} {i:Int} {t:Tok} (X:K.In h) (G:h.Ns mainGlobals mg) (e:PySem.W.nsIn K mainGlobals n=some (some (.int i t))):∃t,mg n=some (.int i t):=⟨t,PySem.W.mg_of X G e⟩
theorem na_mk {K:PySem.W.Frag} {C:Addr} {f:Str} (h:PySem.W.findIn K (.ref C) f=some none):NoAttr K C f:=h
theorem fin {P:Program} {w:World} {K:PySem.W.Frag} {mg:Str→Option Value} {fa:Addr} {c0 c1 c2 c3 c4 f0 f1 f2 f3 f4 f5 f6 f7 f8 f9 f10 f11 f12 f13 f14 f15 f16 f17 f18 f19 f20 f21 f22 f23 f24 f25 f26 f27 f28 f29 f30 f31 f32 f33 f34 f35 f36 f37 f38 f39 f40 f41 f42 f43 f44 f45 f46 f47 f48 f49 f50 f51 f52 f53 f54 f55 t0:Addr} {d0 d1 d2 d3 d4 d5 d6 d7 d8 d9 d10 d11 d12 d13 d14 d15 d16 d17 d18 d19 d20 d21 d22 d23 d24 d25 d26 d27 d28 d29 d30 d31 d32 d33 d34 d35 d36 d37 d38 d39 d40 d41 d42 d43 d44 d45 d46 d47 d48 d49 d50 d51 d52 d53 d54 d55:FuncData} (hfa:mg "answers" =some (.ref fa)) (T:Txt K mg ⟨c0,c1,c2,c3,c4,f0,d0,f1,d1,f2,d2,f3,d3,f4,d4,f5,d5,f6,d6,f7,d7,f8,d8,f9,d9,f10,d10,f11,d11,f12,d12,f13,d13,f14,d14,f15,d15,f16,d16,f17,d17,f18,d18,f19,d19,f20,d20,f21,d21,f22,d22,f23,d23,f24,d24,f25,d25,f26,d26,f27,d27,f28,d28,f29,d29,f30,d30,f31,d31,f32,d32,f33,d33,f34,d34,f35,d35,f36,d36,f37,d37,f38,d38,f39,d39,f40,d40,f41,d41,f42,d42,f43,d43,f44,d44,f45,d45,f46,d46,f47,d47,f48,d48,f49,d49,f50,d50,f51,d51,f52,d52,f53,d53,f54,d54,f55,d55,t0⟩)
  (b:∀(s:Shared) (us:List Value),us.length=(["calls"]:List Str).length→BindsTo s d55 ⟨us,[]⟩ ((["calls"]:List Str).zip us)):
  ∃fd:FuncData,(∀(s:Shared) (us:List Value),us.length=(["calls"]:List Str).length→BindsTo s fd ⟨us,[]⟩ ((["calls"]:List Str).zip us))∧∀base:Heap,K.In base→base.Ns mainGlobals mg→FnOk P w K mg base CX0 12 fa fd ["calls"] (spAnswers K):=by
 have e:=hfa.symm.trans T.mg_T
 cases e
 exact⟨_,b,fun base _ _=>ok_T T⟩
end R
end
namespace PySem.W.Fast
noncomputable def twz:=0
def tw9202988410654854173:=twz
def tw378427836050724602:=twz
def tw12910170955723193624:=twz
def tw15282865624901676468:=twz
def tw5456222682708643791:=twz
def tw7083698186825262805:=twz
def tw18388138861007342455:=twz
def tw1036440733504309606:=twz
def tw1242091452100689113:=twz
def tw9258807618691776413:=twz
def tw12925528473033225581:=twz
def tw10513491210968645227:=twz
def tw11681877571718862893:=twz
def tw9058221596318201097:=twz
def tw12087713526706142787:=twz
def tw10620861985920121773:=twz
def tw3286360204100482570:=twz
def tw350774365046993079:=twz
def tw1688035914908228014:=twz
def tw14455109120746553576:=twz
def tw17710494419712645754:=twz
def tw17794758323324224552:=twz
def tw860015496141115684:=twz
def tw7534018650693507824:=twz
def tw8653488473822471661:=twz
def tw12378059050854269325:=twz
def tw8133863202292308793:=twz
def tw13737916955523964286:=twz
def tw14043654349958815893:=twz
def tw14500136953521097130:=twz
def tw13844167678366177464:=twz
def tw1720771306911836484:=twz
def tw17057525479277081732:=twz
def tw13356630549072242877:=twz
def tw13489477506184493175:=twz
def tw12594006691316446154:=twz
def tw16942142298394031877:=twz
def tw16287522475983075546:=twz
def tw8367312280079426931:=twz
def tw10627902149533206266:=twz
def tw13598837859636125801:=twz
def tw4717201887440764711:=twz
def tw2233380166253150328:=twz
def tw2422437082125906728:=twz
def tw14375795266860734451:=twz
def tw12999008168707947134:=twz
def tw9904324245669349712:=twz
def tw15176928078929113324:=twz
def tw2263771554512498103:=twz
def tw7492097693300242358:=twz
def tw12372074049075524177:=twz
def tw13324044984088497705:=twz
def tw3828245127237104215:=twz
def tw2102344775008141618:=twz
def tw14771408293061068433:=twz
def tw7760364930889107377:=twz
def tw6427529864117092724:=twz
def tw17668810489010567023:=twz
def tw685485686085663658:=twz
def tw3734231344737795338:=twz
def tw2331547136743087010:=twz
def tw12137637762156411103:=twz
def tw12937332397411252144:=twz
def tw8843911050392709516:=twz
def tw403673733762623541:=twz
def tw10737349914538620318:=twz
def tw17305957645310907218:=twz
def tw14913144070393560183:=twz
def tw13487704509530706161:=twz
def tw12130951133820826724:=twz
def tw4444948179808307913:=twz
def tw6857819994131794042:=twz
def tw13509523641941438464:=twz
def tw3318935611158754701:=twz
def tw7772311258245412940:=twz
def tw2828182266685515789:=twz
def tw13631038855719726035:=twz
def tw2546032594546583201:=twz
def tw5722404687193164068:=twz
def tw8727969333880753127:=twz
def tw18041399435184731746:=twz
def tw8733670047681548066:=twz
def tw5356411574555021022:=twz
def tw1656197614793209221:=twz
def tw9450337183779830410:=twz
def tw1443804170369395736:=twz
def tw10381864410410355004:=twz
def tw18361410165768049925:=twz
def tw2785297052882480021:=twz
def tw16777619068180925096:=twz
def tw10893567445381883634:=twz
def tw2519849298434822908:=twz
def tw5756421586833813152:=twz
def tw4488005423980765903:=twz
def tw14814224575103639753:=twz
def tw1987023230705508450:=twz
def tw6199557913120430380:=twz
def tw5993980353030253303:=twz
def tw16688729875397903645:=twz
def tw8067878159211336661:=twz
def tw7385355626114166622:=twz
def tw18125136996681793344:=twz
def tw2237245321795454039:=twz
def tw3934462762470364803:=twz
def tw6259514562305476901:=twz
def tw7851462387895211153:=twz
def tw12674518535915833267:=twz
def tw1601214902238647062:=twz
def tw11838891628266569909:=twz
def tw14472668341747731098:=twz
def tw9006620083376616060:=twz
def tw2030677949288009347:=twz
def tw10974775296078260636:=twz
def tw13830596620505075044:=twz
def tw5384429579490819674:=twz
def tw17151484373483179349:=twz
def tw7082837335159173:=twz
def tw4931603286439495989:=twz
def tw16473381614844351363:=twz
def tw15326369277218111176:=twz
def tw16435635481839883912:=twz
def tw11986890287951460885:=twz
def tw17277236975949060565:=twz
def tw13820101408633235778:=twz
def tw8108799380331072193:=twz
def tw5542674712834202531:=twz
def tw8173231634704617843:=twz
def tw15094206363652877746:=twz
def tw494885494464424064:=twz
def tw3886261013895063281:=twz
def tw15760210992221047123:=twz
def tw18428842638486209191:=twz
def tw6663000527686492882:=twz
def tw7600702931196249509:=twz
def tw5439759815777628787:=twz
def tw4241547558197600099:=twz
def tw6416924700911380206:=twz
def tw4382491717355075443:=twz
def tw12238392426186035937:=twz
def tw16189428589719354828:=twz
def tw2860734543228806004:=twz
def tw5045719792052279066:=twz
def tw3480939111194405254:=twz
def tw14975063016783823845:=twz
def tw5904895091497454460:=twz
def tw10802549388574512401:=twz
def tw18304850792787072892:=twz
def tw14892544922775067556:=twz
def tw3131707909607028890:=twz
def tw2754714999743320435:=twz
def tw17486367463093908059:=twz
def tw11682630142361896594:=twz
def tw11641955421915515183:=twz
def tw16790346277703463080:=twz
def tw16903325778145192655:=twz
def tw4064862362528596237:=twz
def tw10011879866256604414:=twz
def tw11291958905458934304:=twz
def tw6131228815220674342:=twz
def tw7538307893517811072:=twz
def tw11177360912441100130:=twz
def tw2437052604548257836:=twz
def tw1420428839275209984:=twz
def tw1365050710976309143:=twz
def tw15750548915576899784:=twz
def tw3562270765436938451:=twz
def tw7811774421668166818:=twz
def tw12376644323431923261:=twz
def tw15710623112044850162:=twz
def tw13983530171306510496:=twz
def tw5406686980457521303:=twz
def tw5501149022227371637:=twz
def tw8433247154389101465:=twz
def tw13967504784668445928:=twz
def tw1133408200195580062:=twz
def tw16793352466295457145:=twz
def tw1261488532291718415:=twz
def tw2898146769383736691:=twz
def tw11042570691835050644:=twz
def tw8064773563130940897:=twz
def tw10712033309743805608:=twz
def tw12559645252964345018:=twz
def tw10684600511938790975:=twz
def tw12607722509397483889:=twz
def tw3929298087734889257:=twz
def tw8026094461680785214:=twz
def tw3786450134495482883:=twz
def tw4916758305618264217:=twz
def tw14906279246098998511:=twz
def tw2848977817184107232:=twz
def tw3644454058485652620:=twz
def tw8505346166557291122:=twz
def tw14523644506444190335:=twz
def tw5748647662938902070:=twz
def tw7839307315422177396:=twz
def tw1346017522981537409:=twz
def tw6408815094668523127:=twz
def tw11683270369003036962:=twz
def tw13148419968444288924:=twz
def tw1192369671549895914:=twz
def tw17066279070125168150:=twz
def tw3507303856949450158:=twz
def tw1197671262270044596:=twz
def tw15585761269384087265:=twz
def tw10353895056358844358:=twz
def tw2746796870686953358:=twz
def tw8000976761776495188:=twz
def tw2890006682452926200:=twz
def tw16647321257188843385:=twz
def tw18332268930575889486:=twz
def tw1865475256918440295:=twz
def tw13804365038091435956:=twz
def tw17961984088857580287:=twz
def tw316816301260387955:=twz
def tw5690314911916409808:=twz
def tw5404624940415613183:=twz
def tw13024410927453093537:=twz
def tw342571299217449592:=twz
def tw11253364362117290153:=twz
def tw16995123711189864694:=twz
def tw11154490064441936420:=twz
def tw5512338096654773447:=twz
def tw13805241623558105960:=twz
def tw4767447305607147772:=twz
def tw3402066816345559836:=twz
def tw15175841614241760742:=twz
def tw10430153006838732967:=twz
def tw547706066512104589:=twz
def tw17759868570871173735:=twz
def tw6447505006952769227:=twz
def tw3750706985706080676:=twz
def tw10095979484222675513:=twz
def tw5378406640069047409:=twz
def tw14300872806786566612:=twz
def tw1555513108953476869:=twz
def tw16535743775003065052:=twz
def tw16929685098029902803:=twz
def tw16693751409534585743:=twz
def tw13177241623036762550:=twz
def tw11215272095188085088:=twz
def tw10660548441756596996:=twz
def tw14030397664965496355:=twz
def tw5870600562685563567:=twz
def tw18215181108301742909:=twz
def tw17008915018965196910:=twz
def tw2192595546397874267:=twz
def tw12177082395448948087:=twz
def tw16431508574167822467:=twz
def tw9381184943759109167:=twz
def tw2088457270665268211:=twz
def tw10610276898399432849:=twz
def tw17595802956249822630:=twz
def tw12530167031531378008:=twz
def tw14511548300357169416:=twz
def tw7013454428565714997:=twz
def tw13548858274129096833:=twz
def tw121050669737042563:=twz
def tw1129046508652093769:=twz
def tw13655414480732334302:=twz
def tw15033626362128238338:=twz
def tw16952335456139515086:=twz
def tw15590047053869104841:=twz
def tw8613537011613304348:=twz
def tw2933599373547939247:=twz
def tw10645335058285170674:=twz
def tw16117634077513537770:=twz
def tw1654170615907360935:=twz
def tw18281896787032036706:=twz
def tw8052360148740030161:=twz
def tw2830977811761799905:=twz
def tw10504446597068742033:=twz
def tw6017201258691416122:=twz
def tw13772544975215182994:=twz
def tw9986833751028299774:=twz
def tw3911541253445072196:=twz
def tw6057858233767854465:=twz
def tw6687955722995355039:=twz
def tw12471465212839688474:=twz
def tw1235098367645385361:=twz
def tw3604726420059236578:=twz
def tw2451954048411667588:=twz
def tw11737897635044003281:=twz
def tw731540410956276465:=twz
def tw8713798139071053899:=twz
def tw12172799583887774561:=twz
def tw16725980581931222329:=twz
def tw16995929504152709243:=twz
def tw991819646027703141:=twz
def tw14914270502047765196:=twz
def tw10861423007139065224:=twz
def tw3332504317743226500:=twz
def tw12660877536658180866:=twz
def tw17590545677221792092:=twz
def tw502229098709311021:=twz
def tw12594545951618839211:=twz
def tw17852718751617635405:=twz
def tw740567664790016785:=twz
def tw5662813895333744780:=twz
def tw18198231163611002744:=twz
def tw143046197307261507:=twz
def tw9314215483118312301:=twz
def tw14844847134180342149:=twz
def tw16244853099341818061:=twz
def tw11766356778999852952:=twz
def tw5279527867677854880:=twz
def tw10944953210912372564:=twz
def tw5786532214323778313:=twz
def tw3473520678803970134:=twz
def tw8441123931258070780:=twz
def tw2596507575908993876:=twz
def tw11341208476288348302:=twz
def tw11641761738371800277:=twz
def tw11276686012948963569:=twz
def tw9203123539201729919:=twz
def tw18110137149287235831:=twz
def tw318509945128326708:=twz
def tw16343357091035548724:=twz
def tw16302381296786001584:=twz
def tw3985226957951911106:=twz
def tw4980588244939091165:=twz
def tw15789913819613732090:=twz
def tw6922552872889222310:=twz
def tw17329009641102810786:=twz
def tw6515274484897852789:=twz
def tw6265215005144772865:=twz
def tw17253289489400434089:=twz
def tw15579370042851284334:=twz
def tw11083124915160316605:=twz
def tw1329202748772602359:=twz
def tw3236594384771786480:=twz
def tw5401178649350390871:=twz
def tw10146518853671744747:=twz
def tw5802043510757130369:=twz
def tw16941093115109692466:=twz
def tw10765262744790589955:=twz
def tw3934554759873130817:=twz
def tw6885119638033081826:=twz
def tw17568282760831647892:=twz
def tw11674812435916106674:=twz
def tw24658476532724608:=twz
def tw11302823026098334640:=twz
def tw74311981276826388:=twz
def tw5436412391901691245:=twz
def tw4658060633643707695:=twz
def tw6202539365314085137:=twz
def tw10810225558802276191:=twz
def tw122710806060872828:=twz
def tw15289427288359133737:=twz
def tw16176946475602501228:=twz
def tw9964345192159051983:=twz
def tw10423191075610048692:=twz
def tw14381732241953483131:=twz
def tw16642999458959859132:=twz
def tw9321030691618492178:=twz
def tw12208248424046352993:=twz
def tw13624445089504063587:=twz
def tw9744835450134972692:=twz
def tw11490112525945384914:=twz
def tw8869885979542343016:=twz
def tw13628728131895771819:=twz
def tw10992155446161921341:=twz
def tw7905025749048962831:=twz
def tw1879788859624891043:=twz
def tw2233645679463389725:=twz
def tw14278508160025149346:=twz
def tw17529291677121097553:=twz
def tw11775377024312342949:=twz
def tw1410482036825541763:=twz
def tw12581467650211607908:=twz
def tw4533055908251187627:=twz
def tw16005633547519803357:=twz
def tw1262437069407443876:=twz
def tw12063237444762131251:=twz
def tw13747505964778424034:=twz
def tw18370843173415573971:=twz
def tw11328906858032836651:=twz
def tw14621377913116934530:=twz
def tw4610351503780678428:=twz
def tw3156121461107800100:=twz
def tw1957683750944230532:=twz
def tw3361700115802345501:=twz
def tw7078026571546361506:=twz
def tw6262430203347284361:=twz
def tw2599249850529164235:=twz
def tw11204087333350535464:=twz
def tw3154923766564007411:=twz
def tw16641130033655649232:=twz
def tw14754182379141557443:=twz
def tw8050960982282692700:=twz
def tw7249859947976404813:=twz
def tw526429342268965060:=twz
def tw1710630938106208142:=twz
def tw10696252262911502403:=twz
def tw9988940980363078264:=twz
def tw3313055808822754154:=twz
def tw4303242334673543016:=twz
def tw3136939127087770252:=twz
def tw11323721536746332130:=twz
def tw9857706010168003441:=twz
def tw7746993807537889753:=twz
def tw865959898411217614:=twz
def tw6289162745999479437:=twz
def tw1847429683191557932:=twz
def tw16889762702830660848:=twz
def tw15805009443264966429:=twz
def tw2160678049355529116:=twz
def tw605239938554706148:=twz
def tw3375302376971364923:=twz
def tw3827036843757118839:=twz
def tw5260107317110160561:=twz
def tw8229867471480193900:=twz
def tw7510694610237525971:=twz
def tw14914848025168718920:=twz
def tw5602207532506146264:=twz
def tw2189873870402090625:=twz
def tw13430004285383763052:=twz
def tw11054743472473553360:=twz
def tw12189396845837451169:=twz
def tw2536910058935258183:=twz
def tw14442759046656852202:=twz
def tw12735333690983987234:=twz
def tw3749079913568375378:=twz
def tw17922411756313403124:=twz
def tw17773836909169000091:=twz
def tw15828443935068390534:=twz
def tw917345505685409628:=twz
def tw18421452680125665066:=twz
def tw311313456151706315:=twz
def tw14735190782202522744:=twz
def tw11916479728262887819:=twz
def tw1621807054535727785:=twz
def tw13169031392477749182:=twz
def tw10538929013146691216:=twz
def tw2185973449480589678:=twz
def tw13503247714349975714:=twz
def tw3907338842345797151:=twz
def tw3474766999673137468:=twz
def tw5084738683495080835:=twz
def tw1260842363557163245:=twz
def tw8477863517542998945:=twz
def tw11225319985737217241:=twz
def tw13019931276243220369:=twz
def tw14898150159960426804:=twz
def tw9581198929057159311:=twz
def tw7832376808610855919:=twz
def tw1212750629913203714:=twz
def tw16821800241985437469:=twz
def tw13097928672578168037:=twz
def tw1072999351760198489:=twz
def tw11170645503181504267:=twz
def tw8073250581311897286:=twz
def tw11906072432580348991:=twz
def tw958867241631397271:=twz
def tw14297279472178129000:=twz
def tw11921202659324614983:=twz
def tw1029227310042255828:=twz
def tw2587434739057333264:=twz
def tw6906391269433959272:=twz
def tw14986816007406805197:=twz
def tw3875522314743299263:=twz
def tw16492638412366908028:=twz
def tw995348172479704591:=twz
def tw12909947800853530460:=twz
def tw14368816491419188054:=twz
def tw13599705450468837630:=twz
def tw11475403429101813577:=twz
def tw7136066892843154822:=twz
def tw1439199152222993046:=twz
def tw4466780044479431709:=twz
def tw2606490045725959276:=twz
def tw17152304372677048072:=twz
def tw4735749791033854880:=twz
def tw9962407663034167766:=twz
def tw51469720613262479:=twz
def tw4581118197323252145:=twz
def tw3890462326305566517:=twz
def tw15957637867610472256:=twz
def tw12899538790895321411:=twz
def tw16520462756748957316:=twz
def tw8075582707394618568:=twz
def tw1620718048376000839:=twz
def tw13301924638017892152:=twz
def tw17364531838808416647:=twz
def tw13283164056690639418:=twz
def tw7356508113772965224:=twz
def tw15941244259818215308:=twz
def tw15562766266363322670:=twz
def tw10266109034843485317:=twz
def tw17484947820127809205:=twz
def tw4734334684757119793:=twz
def tw17076303401359617541:=twz
def tw2914212153586360346:=twz
def tw2302264572703037959:=twz
def tw3484825445423706926:=twz
def tw8134190701254636860:=twz
def tw11275629681354907516:=twz
def tw7400708167090383122:=twz
def tw7265135593930167682:=twz
def tw662746933045421961:=twz
def tw11418151811605082066:=twz
def tw18285617621217705192:=twz
def tw13341479279173373381:=twz
def tw18406580595998956043:=twz
def tw17851875732091807600:=twz
def tw7623096657599189766:=twz
def tw9629565800767229428:=twz
def tw4713994135487304556:=twz
def tw9358285406337499623:=twz
def tw10921628612361806406:=twz
def tw9820093921620988846:=twz
def tw16355091160749535220:=twz
end PySem.W.Fast
open PySem PySem.W PyProof.Rows
set_option maxRecDepth 100000 in
set_option maxHeartbeats 0 in
theorem PySem.Challenge.cw_callruns_s01_answers_holds : PySem.Challenge.rw_callruns_s01_answers.Holds := by
 w_on;k_headS;(case hw=>exact⟨[.list [.int 0,.int 1,.int 1]],by decide +kernel,by decide +kernel⟩)
 k_fillS
 refine L2.walk_specK (r:=PySem.Challenge.rw_callruns_s01_answers) (k:=12) (CX:=L2.CX0) (ps:= ["calls"]) (sp:=R.spAnswers) (by decide +kernel) rfl rfl ⟨rfl,by decide,by decide⟩ (fun w h Y=>PySem.W.kIn_of Y) ?F ?S (fun _ _ _ _ z=>z)
 case F=>
  intro w mg fa h Y KX G hmg
  refine' R.fin hmg ⟨⟨?Rp0,?Rh0,?Ro0,?Rs0⟩,PySem.W.mg_of KX G ?Rx0,⟨?Rm0,?Ra4,?Ri4,?Ry0⟩,R.na_mk ?Rn0_0,R.na_mk ?Rn0_1,R.na_mk ?Rn0_2,R.na_mk ?Rn0_3,R.na_mk ?Rn0_4,⟨?Rp1,?Rh1,?Ro1,?Rs1⟩,PySem.W.mg_of KX G ?Rx1,⟨?Rm1,?Ra15,?Ri15,?Ry1⟩,R.na_mk ?Rn1_0,R.na_mk ?Rn1_1,R.na_mk ?Rn1_2,R.na_mk ?Rn1_3,R.na_mk ?Rn1_4,R.na_mk ?Rn1_5,R.na_mk ?Rn1_6,⟨?Rp2,?Rh2,?Ro2,?Rs2⟩,PySem.W.mg_of KX G ?Rx2,⟨?Rm2,?Ra23,?Ri23,?Ry2⟩,R.na_mk ?Rn2_0,R.na_mk ?Rn2_1,R.na_mk ?Rn2_2,R.na_mk ?Rn2_3,⟨?Rp3,?Rh3,?Ro3,?Rs3⟩,PySem.W.mg_of KX G ?Rx3,⟨?Rm3,?Ra29,?Ri29,?Ry3⟩,R.na_mk ?Rn3_0,R.na_mk ?Rn3_1,R.na_mk ?Rn3_2,R.na_mk ?Rn3_3,R.na_mk ?Rn3_4,R.na_mk ?Rn3_5,⟨?Rp4,?Rh4,?Ro4,?Rs4⟩,PySem.W.mg_of KX G ?Rx4,⟨?Rm4,?Ra39,?Ri39,?Ry4⟩,R.na_mk ?Rn4_0,R.na_mk ?Rn4_1,R.na_mk ?Rn4_2,R.na_mk ?Rn4_3,(L2.fun_mk ?Rl0 ?Rc0 ?Rk0),R.bn_0 (L2.fun_mk ?Rl0 ?Rc0 ?Rk0),PySem.W.mg_of KX G ?Ra0,?Rk0,(L2.fun_mk ?Rl1 ?Rc1 ?Rk1),R.bn_1 (L2.fun_mk ?Rl1 ?Rc1 ?Rk1),PySem.W.mg_of KX G ?Ra1,?Rk1,(L2.fun_mk ?Rl2 ?Rc2 ?Rk2),R.bn_2 (L2.fun_mk ?Rl2 ?Rc2 ?Rk2),PySem.W.mg_of KX G ?Ra2,?Rk2,(L2.fun_mk ?Rl3 ?Rc3 ?Rk3),R.bn_3 (L2.fun_mk ?Rl3 ?Rc3 ?Rk3),PySem.W.mg_of KX G ?Ra3,?Rk3,(L2.fun_mk ?Rl4 ?Rc4 ?Rk4),R.bn_4 (L2.fun_mk ?Rl4 ?Rc4 ?Rk4),⟨?Ra4,?Ri4,?Rk4⟩,(L2.fun_mk ?Rl5 ?Rc5 ?Rk5),R.bn_5 (L2.fun_mk ?Rl5 ?Rc5 ?Rk5),⟨?Ra5,?Ri5,?Rk5⟩,(L2.fun_mk ?Rl6 ?Rc6 ?Rk6),R.bn_6 (L2.fun_mk ?Rl6 ?Rc6 ?Rk6),⟨?Ra6,?Ri6,?Rk6⟩,(L2.fun_mk ?Rl7 ?Rc7 ?Rk7),R.bn_7 (L2.fun_mk ?Rl7 ?Rc7 ?Rk7),⟨?Ra7,?Ri7,?Rk7⟩,(L2.fun_mk ?Rl8 ?Rc8 ?Rk8),R.bn_8 (L2.fun_mk ?Rl8 ?Rc8 ?Rk8),⟨?Ra8,?Ri8,?Rk8⟩,(L2.fun_mk ?Rl9 ?Rc9 ?Rk9),R.bn_9 (L2.fun_mk ?Rl9 ?Rc9 ?Rk9),⟨?Ra9,?Ri9,?Rk9⟩,(L2.fun_mk ?Rl10 ?Rc10 ?Rk10),R.bn_a (L2.fun_mk ?Rl10 ?Rc10 ?Rk10),⟨?Ra10,?Ri10,?Rk10⟩,(L2.fun_mk ?Rl11 ?Rc11 ?Rk11),R.bn_b (L2.fun_mk ?Rl11 ?Rc11 ?Rk11),⟨?Ra11,?Ri11,?Rk11⟩,(L2.fun_mk ?Rl12 ?Rc12 ?Rk12),R.bn_c (L2.fun_mk ?Rl12 ?Rc12 ?Rk12),⟨?Ra12,?Ri12,?Rk12⟩,(L2.fun_mk ?Rl13 ?Rc13 ?Rk13),R.bn_d (L2.fun_mk ?Rl13 ?Rc13 ?Rk13),⟨?Ra13,?Ri13,?Rk13⟩,(L2.fun_mk ?Rl14 ?Rc14 ?Rk14),R.bn_e (L2.fun_mk ?Rl14 ?Rc14 ?Rk14),⟨?Ra14,?Ri14,?Rk14⟩,(L2.fun_mk ?Rl15 ?Rc15 ?Rk15),R.bn_f (L2.fun_mk ?Rl15 ?Rc15 ?Rk15),⟨?Ra15,?Ri15,?Rk15⟩,(L2.fun_mk ?Rl16 ?Rc16 ?Rk16),R.bn_g (L2.fun_mk ?Rl16 ?Rc16 ?Rk16),⟨?Ra16,?Ri16,?Rk16⟩,(L2.fun_mk ?Rl17 ?Rc17 ?Rk17),R.bn_h (L2.fun_mk ?Rl17 ?Rc17 ?Rk17),⟨?Ra17,?Ri17,?Rk17⟩,(L2.fun_mk ?Rl18 ?Rc18 ?Rk18),R.bn_i (L2.fun_mk ?Rl18 ?Rc18 ?Rk18),⟨?Ra18,?Ri18,?Rk18⟩,(L2.fun_mk ?Rl19 ?Rc19 ?Rk19),R.bn_j (L2.fun_mk ?Rl19 ?Rc19 ?Rk19),⟨?Ra19,?Ri19,?Rk19⟩,(L2.fun_mk ?Rl20 ?Rc20 ?Rk20),R.bn_k (L2.fun_mk ?Rl20 ?Rc20 ?Rk20),⟨?Ra20,?Ri20,?Rk20⟩,(L2.fun_mk ?Rl21 ?Rc21 ?Rk21),R.bn_l (L2.fun_mk ?Rl21 ?Rc21 ?Rk21),⟨?Ra21,?Ri21,?Rk21⟩,(L2.fun_mk ?Rl22 ?Rc22 ?Rk22),R.bn_m (L2.fun_mk ?Rl22 ?Rc22 ?Rk22),⟨?Ra22,?Ri22,?Rk22⟩,(L2.fun_mk ?Rl23 ?Rc23 ?Rk23),R.bn_n (L2.fun_mk ?Rl23 ?Rc23 ?Rk23),⟨?Ra23,?Ri23,?Rk23⟩,(L2.fun_mk ?Rl24 ?Rc24 ?Rk24),R.bn_o (L2.fun_mk ?Rl24 ?Rc24 ?Rk24),⟨?Ra24,?Ri24,?Rk24⟩,(L2.fun_mk ?Rl25 ?Rc25 ?Rk25),R.bn_p (L2.fun_mk ?Rl25 ?Rc25 ?Rk25),⟨?Ra25,?Ri25,?Rk25⟩,(L2.fun_mk ?Rl26 ?Rc26 ?Rk26),R.bn_q (L2.fun_mk ?Rl26 ?Rc26 ?Rk26),⟨?Ra26,?Ri26,?Rk26⟩,(L2.fun_mk ?Rl27 ?Rc27 ?Rk27),R.bn_r (L2.fun_mk ?Rl27 ?Rc27 ?Rk27),⟨?Ra27,?Ri27,?Rk27⟩,(L2.fun_mk ?Rl28 ?Rc28 ?Rk28),R.bn_s (L2.fun_mk ?Rl28 ?Rc28 ?Rk28),⟨?Ra28,?Ri28,?Rk28⟩,(L2.fun_mk ?Rl29 ?Rc29 ?Rk29),R.bn_t (L2.fun_mk ?Rl29 ?Rc29 ?Rk29),⟨?Ra29,?Ri29,?Rk29⟩,(L2.fun_mk ?Rl30 ?Rc30 ?Rk30),R.bn_u (L2.fun_mk ?Rl30 ?Rc30 ?Rk30),⟨?Ra30,?Ri30,?Rk30⟩,(L2.fun_mk ?Rl31 ?Rc31 ?Rk31),R.bn_v (L2.fun_mk ?Rl31 ?Rc31 ?Rk31),⟨?Ra31,?Ri31,?Rk31⟩,(L2.fun_mk ?Rl32 ?Rc32 ?Rk32),R.bn_w (L2.fun_mk ?Rl32 ?Rc32 ?Rk32),⟨?Ra32,?Ri32,?Rk32⟩,(L2.fun_mk ?Rl33 ?Rc33 ?Rk33),R.bn_x (L2.fun_mk ?Rl33 ?Rc33 ?Rk33),⟨?Ra33,?Ri33,?Rk33⟩,(L2.fun_mk ?Rl34 ?Rc34 ?Rk34),R.bn_y (L2.fun_mk ?Rl34 ?Rc34 ?Rk34),⟨?Ra34,?Ri34,?Rk34⟩,(L2.fun_mk ?Rl35 ?Rc35 ?Rk35),R.bn_z (L2.fun_mk ?Rl35 ?Rc35 ?Rk35),⟨?Ra35,?Ri35,?Rk35⟩,(L2.fun_mk ?Rl36 ?Rc36 ?Rk36),R.bn_A (L2.fun_mk ?Rl36 ?Rc36 ?Rk36),⟨?Ra36,?Ri36,?Rk36⟩,(L2.fun_mk ?Rl37 ?Rc37 ?Rk37),R.bn_B (L2.fun_mk ?Rl37 ?Rc37 ?Rk37),⟨?Ra37,?Ri37,?Rk37⟩,(L2.fun_mk ?Rl38 ?Rc38 ?Rk38),R.bn_C (L2.fun_mk ?Rl38 ?Rc38 ?Rk38),PySem.W.mg_of KX G ?Ra38,?Rk38,(L2.fun_mk ?Rl39 ?Rc39 ?Rk39),R.bn_D (L2.fun_mk ?Rl39 ?Rc39 ?Rk39),⟨?Ra39,?Ri39,?Rk39⟩,(L2.fun_mk ?Rl40 ?Rc40 ?Rk40),R.bn_E (L2.fun_mk ?Rl40 ?Rc40 ?Rk40),⟨?Ra40,?Ri40,?Rk40⟩,(L2.fun_mk ?Rl41 ?Rc41 ?Rk41),R.bn_F (L2.fun_mk ?Rl41 ?Rc41 ?Rk41),⟨?Ra41,?Ri41,?Rk41⟩,(L2.fun_mk ?Rl42 ?Rc42 ?Rk42),R.bn_G (L2.fun_mk ?Rl42 ?Rc42 ?Rk42),⟨?Ra42,?Ri42,?Rk42⟩,(L2.fun_mk ?Rl43 ?Rc43 ?Rk43),R.bn_H (L2.fun_mk ?Rl43 ?Rc43 ?Rk43),⟨?Ra43,?Ri43,?Rk43⟩,(L2.fun_mk ?Rl44 ?Rc44 ?Rk44),R.bn_I (L2.fun_mk ?Rl44 ?Rc44 ?Rk44),⟨?Ra44,?Ri44,?Rk44⟩,(L2.fun_mk ?Rl45 ?Rc45 ?Rk45),R.bn_J (L2.fun_mk ?Rl45 ?Rc45 ?Rk45),⟨?Ra45,?Ri45,?Rk45⟩,(L2.fun_mk ?Rl46 ?Rc46 ?Rk46),R.bn_K (L2.fun_mk ?Rl46 ?Rc46 ?Rk46),⟨?Ra46,?Ri46,?Rk46⟩,(L2.fun_mk ?Rl47 ?Rc47 ?Rk47),R.bn_L (L2.fun_mk ?Rl47 ?Rc47 ?Rk47),⟨?Ra47,?Ri47,?Rk47⟩,(L2.fun_mk ?Rl48 ?Rc48 ?Rk48),R.bn_M (L2.fun_mk ?Rl48 ?Rc48 ?Rk48),⟨?Ra48,?Ri48,?Rk48⟩,(L2.fun_mk ?Rl49 ?Rc49 ?Rk49),R.bn_N (L2.fun_mk ?Rl49 ?Rc49 ?Rk49),⟨?Ra49,?Ri49,?Rk49⟩,(L2.fun_mk ?Rl50 ?Rc50 ?Rk50),R.bn_O (L2.fun_mk ?Rl50 ?Rc50 ?Rk50),⟨?Ra50,?Ri50,?Rk50⟩,(L2.fun_mk ?Rl51 ?Rc51 ?Rk51),R.bn_P (L2.fun_mk ?Rl51 ?Rc51 ?Rk51),⟨?Ra51,?Ri51,?Rk51⟩,(L2.fun_mk ?Rl52 ?Rc52 ?Rk52),R.bn_Q (L2.fun_mk ?Rl52 ?Rc52 ?Rk52),⟨?Ra52,?Ri52,?Rk52⟩,(L2.fun_mk ?Rl53 ?Rc53 ?Rk53),R.bn_R (L2.fun_mk ?Rl53 ?Rc53 ?Rk53),⟨?Ra53,?Ri53,?Rk53⟩,(L2.fun_mk ?Rl54 ?Rc54 ?Rk54),R.bn_S (L2.fun_mk ?Rl54 ?Rc54 ?Rk54),PySem.W.mg_of KX G ?Ra54,?Rk54,(L2.fun_mk ?Rl55 ?Rc55 ?Rk55),R.bn_T (L2.fun_mk ?Rl55 ?Rc55 ?Rk55),PySem.W.mg_of KX G ?Ra55,?Rk55,R.i_mk KX G ?Rg0,R.i_mk KX G ?Rg1,R.i_mk KX G ?Rg2,R.i_mk KX G ?Rg3,R.i_mk KX G ?Rg4,R.i_mk KX G ?Rg5,R.i_mk KX G ?Rg6,R.i_mk KX G ?Rg7,R.i_mk KX G ?Rg8,R.i_mk KX G ?Rg9,R.i_mk KX G ?Rg10,R.i_mk KX G ?Rg11,R.i_mk KX G ?Rg12,R.i_mk KX G ?Rg13,R.i_mk KX G ?Rg14,R.i_mk KX G ?Rg15,R.i_mk KX G ?Rg16,R.i_mk KX G ?Rg17,PySem.W.mg_of KX G ?Rg18,R.t_mk ?Rt18 ?Re18,PySem.W.mg_none_of KX G ?Rz0,PySem.W.mg_none_of KX G ?Rz1,PySem.W.mg_none_of KX G ?Rz2,PySem.W.mg_none_of KX G ?Rz3,PySem.W.mg_none_of KX G ?Rz4,PySem.W.mg_none_of KX G ?Rz5⟩ (fun s us hu=>match us,hu with| [_],_=> .of_eq rfl)
  all_goals (try dsimp only)
  (case Rx0=>k_is)
  (case Rp0=>k_is)
  (case Rh0=>k_is)
  (case Ro0=>k_is)
  (case Rs0=>k_is)
  (case Rm0=>k_is)
  (case Ry0=>k_is)
  (case Rn0_0=>k_is)
  (case Rn0_1=>k_is)
  (case Rn0_2=>k_is)
  (case Rn0_3=>k_is)
  (case Rn0_4=>k_is)
  (case Rx1=>k_is)
  (case Rp1=>k_is)
  (case Rh1=>k_is)
  (case Ro1=>k_is)
  (case Rs1=>k_is)
  (case Rm1=>k_is)
  (case Ry1=>k_is)
  (case Rn1_0=>k_is)
  (case Rn1_1=>k_is)
  (case Rn1_2=>k_is)
  (case Rn1_3=>k_is)
  (case Rn1_4=>k_is)
  (case Rn1_5=>k_is)
  (case Rn1_6=>k_is)
  (case Rx2=>k_is)
  (case Rp2=>k_is)
  (case Rh2=>k_is)
  (case Ro2=>k_is)
  (case Rs2=>k_is)
  (case Rm2=>k_is)
  (case Ry2=>k_is)
  (case Rn2_0=>k_is)
  (case Rn2_1=>k_is)
  (case Rn2_2=>k_is)
  (case Rn2_3=>k_is)
  (case Rx3=>k_is)
  (case Rp3=>k_is)
  (case Rh3=>k_is)
  (case Ro3=>k_is)
  (case Rs3=>k_is)
  (case Rm3=>k_is)
  (case Ry3=>k_is)
  (case Rn3_0=>k_is)
  (case Rn3_1=>k_is)
  (case Rn3_2=>k_is)
  (case Rn3_3=>k_is)
  (case Rn3_4=>k_is)
  (case Rn3_5=>k_is)
  (case Rx4=>k_is)
  (case Rp4=>k_is)
  (case Rh4=>k_is)
  (case Ro4=>k_is)
  (case Rs4=>k_is)
  (case Rm4=>k_is)
  (case Ry4=>k_is)
  (case Rn4_0=>k_is)
  (case Rn4_1=>k_is)
  (case Rn4_2=>k_is)
  (case Rn4_3=>k_is)
  (case Ra0=>k_is)
  (case Rl0=>k_is)
  (case Rc0=>k_is)
  (case Rk0=>k_is)
  (case Ra1=>k_is)
  (case Rl1=>k_is)
  (case Rc1=>k_is)
  (case Rk1=>k_is)
  (case Ra2=>k_is)
  (case Rl2=>k_is)
  (case Rc2=>k_is)
  (case Rk2=>k_is)
  (case Ra3=>k_is)
  (case Rl3=>k_is)
  (case Rc3=>k_is)
  (case Rk3=>k_is)
  (case Ra4=>k_is)
  (case Ri4=>k_is)
  (case Rl4=>k_is)
  (case Rc4=>k_is)
  (case Rk4=>k_is)
  (case Ra5=>k_is)
  (case Ri5=>k_is)
  (case Rl5=>k_is)
  (case Rc5=>k_is)
  (case Rk5=>k_is)
  (case Ra6=>k_is)
  (case Ri6=>k_is)
  (case Rl6=>k_is)
  (case Rc6=>k_is)
  (case Rk6=>k_is)
  (case Ra7=>k_is)
  (case Ri7=>k_is)
  (case Rl7=>k_is)
  (case Rc7=>k_is)
  (case Rk7=>k_is)
  (case Ra8=>k_is)
  (case Ri8=>k_is)
  (case Rl8=>k_is)
  (case Rc8=>k_is)
  (case Rk8=>k_is)
  (case Ra9=>k_is)
  (case Ri9=>k_is)
  (case Rl9=>k_is)
  (case Rc9=>k_is)
  (case Rk9=>k_is)
  (case Ra10=>k_is)
  (case Ri10=>k_is)
  (case Rl10=>k_is)
  (case Rc10=>k_is)
  (case Rk10=>k_is)
  (case Ra11=>k_is)
  (case Ri11=>k_is)
  (case Rl11=>k_is)
  (case Rc11=>k_is)
  (case Rk11=>k_is)
  (case Ra12=>k_is)
  (case Ri12=>k_is)
  (case Rl12=>k_is)
  (case Rc12=>k_is)
  (case Rk12=>k_is)
  (case Ra13=>k_is)
  (case Ri13=>k_is)
  (case Rl13=>k_is)
  (case Rc13=>k_is)
  (case Rk13=>k_is)
  (case Ra14=>k_is)
  (case Ri14=>k_is)
  (case Rl14=>k_is)
  (case Rc14=>k_is)
  (case Rk14=>k_is)
  (case Ra15=>k_is)
  (case Ri15=>k_is)
  (case Rl15=>k_is)
  (case Rc15=>k_is)
  (case Rk15=>k_is)
  (case Ra16=>k_is)
  (case Ri16=>k_is)
  (case Rl16=>k_is)
  (case Rc16=>k_is)
  (case Rk16=>k_is)
  (case Ra17=>k_is)
  (case Ri17=>k_is)
  (case Rl17=>k_is)
  (case Rc17=>k_is)
  (case Rk17=>k_is)
  (case Ra18=>k_is)
  (case Ri18=>k_is)
  (case Rl18=>k_is)
  (case Rc18=>k_is)
  (case Rk18=>k_is)
  (case Ra19=>k_is)
  (case Ri19=>k_is)
  (case Rl19=>k_is)
  (case Rc19=>k_is)
  (case Rk19=>k_is)
  (case Ra20=>k_is)
  (case Ri20=>k_is)
  (case Rl20=>k_is)
  (case Rc20=>k_is)
  (case Rk20=>k_is)
  (case Ra21=>k_is)
  (case Ri21=>k_is)
  (case Rl21=>k_is)
  (case Rc21=>k_is)
  (case Rk21=>k_is)
  (case Ra22=>k_is)
  (case Ri22=>k_is)
  (case Rl22=>k_is)
  (case Rc22=>k_is)
  (case Rk22=>k_is)
  (case Ra23=>k_is)
  (case Ri23=>k_is)
  (case Rl23=>k_is)
  (case Rc23=>k_is)
  (case Rk23=>k_is)
  (case Ra24=>k_is)
  (case Ri24=>k_is)
  (case Rl24=>k_is)
  (case Rc24=>k_is)
  (case Rk24=>k_is)
  (case Ra25=>k_is)
  (case Ri25=>k_is)
  (case Rl25=>k_is)
  (case Rc25=>k_is)
  (case Rk25=>k_is)
  (case Ra26=>k_is)
  (case Ri26=>k_is)
  (case Rl26=>k_is)
  (case Rc26=>k_is)
  (case Rk26=>k_is)
  (case Ra27=>k_is)
  (case Ri27=>k_is)
  (case Rl27=>k_is)
  (case Rc27=>k_is)
  (case Rk27=>k_is)
  (case Ra28=>k_is)
  (case Ri28=>k_is)
  (case Rl28=>k_is)
  (case Rc28=>k_is)
  (case Rk28=>k_is)
  (case Ra29=>k_is)
  (case Ri29=>k_is)
  (case Rl29=>k_is)
  (case Rc29=>k_is)
  (case Rk29=>k_is)
  (case Ra30=>k_is)
  (case Ri30=>k_is)
  (case Rl30=>k_is)
  (case Rc30=>k_is)
  (case Rk30=>k_is)
  (case Ra31=>k_is)
  (case Ri31=>k_is)
  (case Rl31=>k_is)
  (case Rc31=>k_is)
  (case Rk31=>k_is)
  (case Ra32=>k_is)
  (case Ri32=>k_is)
  (case Rl32=>k_is)
  (case Rc32=>k_is)
  (case Rk32=>k_is)
  (case Ra33=>k_is)
  (case Ri33=>k_is)
  (case Rl33=>k_is)
  (case Rc33=>k_is)
  (case Rk33=>k_is)
  (case Ra34=>k_is)
  (case Ri34=>k_is)
  (case Rl34=>k_is)
  (case Rc34=>k_is)
  (case Rk34=>k_is)
  (case Ra35=>k_is)
  (case Ri35=>k_is)
  (case Rl35=>k_is)
  (case Rc35=>k_is)
  (case Rk35=>k_is)
  (case Ra36=>k_is)
  (case Ri36=>k_is)
  (case Rl36=>k_is)
  (case Rc36=>k_is)
  (case Rk36=>k_is)
  (case Ra37=>k_is)
  (case Ri37=>k_is)
  (case Rl37=>k_is)
  (case Rc37=>k_is)
  (case Rk37=>k_is)
  (case Ra38=>k_is)
  (case Rl38=>k_is)
  (case Rc38=>k_is)
  (case Rk38=>k_is)
  (case Ra39=>k_is)
  (case Ri39=>k_is)
  (case Rl39=>k_is)
  (case Rc39=>k_is)
  (case Rk39=>k_is)
  (case Ra40=>k_is)
  (case Ri40=>k_is)
  (case Rl40=>k_is)
  (case Rc40=>k_is)
  (case Rk40=>k_is)
  (case Ra41=>k_is)
  (case Ri41=>k_is)
  (case Rl41=>k_is)
  (case Rc41=>k_is)
  (case Rk41=>k_is)
  (case Ra42=>k_is)
  (case Ri42=>k_is)
  (case Rl42=>k_is)
  (case Rc42=>k_is)
  (case Rk42=>k_is)
  (case Ra43=>k_is)
  (case Ri43=>k_is)
  (case Rl43=>k_is)
  (case Rc43=>k_is)
  (case Rk43=>k_is)
  (case Ra44=>k_is)
  (case Ri44=>k_is)
  (case Rl44=>k_is)
  (case Rc44=>k_is)
  (case Rk44=>k_is)
  (case Ra45=>k_is)
  (case Ri45=>k_is)
  (case Rl45=>k_is)
  (case Rc45=>k_is)
  (case Rk45=>k_is)
  (case Ra46=>k_is)
  (case Ri46=>k_is)
  (case Rl46=>k_is)
  (case Rc46=>k_is)
  (case Rk46=>k_is)
  (case Ra47=>k_is)
  (case Ri47=>k_is)
  (case Rl47=>k_is)
  (case Rc47=>k_is)
  (case Rk47=>k_is)
  (case Ra48=>k_is)
  (case Ri48=>k_is)
  (case Rl48=>k_is)
  (case Rc48=>k_is)
  (case Rk48=>k_is)
  (case Ra49=>k_is)
  (case Ri49=>k_is)
  (case Rl49=>k_is)
  (case Rc49=>k_is)
  (case Rk49=>k_is)
  (case Ra50=>k_is)
  (case Ri50=>k_is)
  (case Rl50=>k_is)
  (case Rc50=>k_is)
  (case Rk50=>k_is)
  (case Ra51=>k_is)
  (case Ri51=>k_is)
  (case Rl51=>k_is)
  (case Rc51=>k_is)
  (case Rk51=>k_is)
  (case Ra52=>k_is)
  (case Ri52=>k_is)
  (case Rl52=>k_is)
  (case Rc52=>k_is)
  (case Rk52=>k_is)
  (case Ra53=>k_is)
  (case Ri53=>k_is)
  (case Rl53=>k_is)
  (case Rc53=>k_is)
  (case Rk53=>k_is)
  (case Ra54=>k_is)
  (case Rl54=>k_is)
  (case Rc54=>k_is)
  (case Rk54=>k_is)
  (case Ra55=>k_is)
  (case Rl55=>k_is)
  (case Rc55=>k_is)
  (case Rk55=>k_is)
  (case Rg0=>k_is)
  (case Rg1=>k_is)
  (case Rg2=>k_is)
  (case Rg3=>k_is)
  (case Rg4=>k_is)
  (case Rg5=>k_is)
  (case Rg6=>k_is)
  (case Rg7=>k_is)
  (case Rg8=>k_is)
  (case Rg9=>k_is)
  (case Rg10=>k_is)
  (case Rg11=>k_is)
  (case Rg12=>k_is)
  (case Rg13=>k_is)
  (case Rg14=>k_is)
  (case Rg15=>k_is)
  (case Rg16=>k_is)
  (case Rg17=>k_is)
  (case Rg18=>k_is)
  (case Rt18=>k_is)
  (case Re18=>exact⟨_,_,rfl,rfl,by decide,(.cons ⟨_,rfl⟩ (.cons ⟨_,rfl⟩ (.cons ⟨_,rfl⟩ (.cons ⟨_,rfl⟩ (.cons ⟨_,rfl⟩ (.cons ⟨_,rfl⟩ (.cons ⟨_,rfl⟩ (.cons ⟨_,rfl⟩ .nil))))))))⟩)
  (case Rz0=>k_is)
  (case Rz1=>k_is)
  (case Rz2=>k_is)
  (case Rz3=>k_is)
  (case Rz4=>k_is)
  (case Rz5=>k_is)
 case S=>
  intro K H xs a hO hwi hask hx
  cases hx with
  |cons h1 h2=>
   cases h2
   cases h1 with
   |lst hs ha=>
    have e:=L2.ints_dw a.1 _ ha
    subst e
    exact⟨_,a.1,rfl,hs,hask,fun H' p hp=> .lst (L2.SqL.of hp) (L2.dw_ints _)⟩
