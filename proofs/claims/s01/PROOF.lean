import PyProof.Rows.All
import Wide.All
import OpenK.AllK
import Wide.FinOn
import PyProof.EqAt
import PyProof.EqKinds
import PyProof.TupleCall
import KE.BitLaws
import Open.SpecLaws
import KE.OsHead
import KE.OsGo
import PySem.Challenge.RW_loosesets_s01_answers
import PyProof.Rows.SortShellAny
import PyProof.Rows.RuleM_int
import PyProof.ListRange
import PyWrbind
import PyProof.Rows.SetFrom
import PyProof.Rows.SortWalkRead
set_option Elab.async false
set_option linter.all false
set_option maxRecDepth 100000
set_option maxHeartbeats 8000000
namespace L2
open PySem PySem.Spec PyProof.Rows
abbrev Key:=Sum Int Str
def keyIs:Key→Value→Bool
 |.inl k,v=>Value.isInt k v
 |.inr x,v=>Value.isStrOf x v
def keyH (w:World):Key→Int
 |.inl k=>hashInt k
 |.inr x=>hashStr w x
theorem keyIs_shape:∀{k:Key} {v:Value},keyIs k v=true→(∃i t,k=Sum.inl i∧v=Value.int i t)∨(∃x t,k=Sum.inr x∧v=Value.str x t)
 |.inl i,v,h=>by
  obtain⟨t,e⟩:=Value.isInt_shape (k:=i) (v:=v) h
  exact .inl ⟨i,t,rfl,e⟩
 |.inr x,v,h=>by
  obtain⟨t,e⟩:=Value.isStrOf_shape (x:=x) (v:=v) h
  exact .inr ⟨x,t,rfl,e⟩
theorem keyIs_int (i:Int) (t:Tok):keyIs (.inl i) (.int i t)=true:=by simp [keyIs,Value.isInt]
theorem keyIs_str (x:Str) (t:Tok):keyIs (.inr x) (.str x t)=true:=by simp [keyIs,Value.isStrOf]
theorem key_ll (a b:Int):decide ((Sum.inl a:Key)=Sum.inl b)=(a==b):=by
 by_cases e:a=b
 ·subst e;simp
 ·have h:¬(Sum.inl a:Key)=Sum.inl b:=fun q=>e (Sum.inl.inj q)
  rw[decide_eq_false h]
  exact (beq_eq_false_iff_ne.mpr e).symm
theorem key_rr (a b:Str):decide ((Sum.inr a:Key)=Sum.inr b)=decide (a=b):=by
 by_cases e:a=b
 ·subst e;simp
 ·have h:¬(Sum.inr a:Key)=Sum.inr b:=fun q=>e (Sum.inr.inj q)
  rw[decide_eq_false h,decide_eq_false e]
theorem key_lr (a:Int) (b:Str):decide ((Sum.inl a:Key)=Sum.inr b)=false:=decide_eq_false (fun q=>nomatch q)
theorem key_rl (a:Str) (b:Int):decide ((Sum.inr a:Key)=Sum.inl b)=false:=decide_eq_false (fun q=>nomatch q)
def mixKind (prog:Program) (w:World):PySem.KeyKind prog w Key where
 is:=keyIs
 hash:=keyH w
 inj:=fun v a b ha hb=>by
  rcases keyIs_shape ha with⟨i,t,rfl,rfl⟩|⟨x,t,rfl,rfl⟩
  ·rcases keyIs_shape hb with⟨j,u,rfl,e⟩|⟨y,u,rfl,e⟩
   ·injection e with e1 _;rw[e1]
   ·exact nomatch e
  ·rcases keyIs_shape hb with⟨j,u,rfl,e⟩|⟨y,u,rfl,e⟩
   ·exact nomatch e
   ·injection e with e1 _;rw[e1]
 byValue:=fun k v h=>by
  rcases keyIs_shape h with⟨i,t,rfl,rfl⟩|⟨x,t,rfl,rfl⟩<;>rfl
 pyHash:=fun hv h=>by
  rcases keyIs_shape hv with⟨i,t,rfl,rfl⟩|⟨x,t,rfl,rfl⟩
  ·exact wpAny_pyHash_int h
  ·exact wpAny_pyHash_str h
 eqBool:=fun hu hv h=>by
  rcases keyIs_shape hu with⟨i,t,rfl,rfl⟩|⟨x,t,rfl,rfl⟩
  ·rcases keyIs_shape hv with⟨j,u,rfl,rfl⟩|⟨y,u,rfl,rfl⟩
   ·rw[key_ll] at h;exact wpAny_eqBool_int h
   ·rw[key_lr] at h;exact SeqAt.EqAt.int_str i t y u _ _ _ _ h
  ·rcases keyIs_shape hv with⟨j,u,rfl,rfl⟩|⟨y,u,rfl,rfl⟩
   ·rw[key_rl] at h;exact SeqAt.EqAt.str_int x t j u _ _ _ _ h
   ·rw[key_rr] at h;exact wpAny_eqBool_str h
 «strs»:=fun k x t v h=>by
  rcases keyIs_shape h with⟨i,u,rfl,e⟩|⟨y,u,rfl,e⟩
  ·exact nomatch e
  ·injection e with e1 _
   subst e1
   cases v<;>rfl
theorem mixKind_int (prog:Program) (w:World) (i:Int) (t:Tok):(mixKind prog w).is (.inl i) (.int i t)=true:=keyIs_int i t
theorem mixKind_str (prog:Program) (w:World) (x:Str) (t:Tok):(mixKind prog w).is (.inr x) (.str x t)=true:=keyIs_str x t
end L2
namespace L2
open PySem PySem.Spec PyProof.Rows
inductive V where
 |non|bl (b:Bool)|int (i:Int)|str (x:Str)|byt (b:Array UInt8)|flt (b:UInt64)|ref (a:Addr)|ty (n:String)
 deriving DecidableEq
def RelV:V→Value→Prop
 |.non,u=>u=Value.none
 |.bl b,u=>u=Value.bool b
 |.int i,u=>∃t,u=Value.int i t
 |.str x,u=>∃t,u=Value.str x t
 |.byt b,u=>∃t,u=Value.bytes b t
 |.flt b,u=>∃t,u=Value.float b t
 |.ref a,u=>u=Value.ref a
 |.ty n,u=>u=Value.type n
abbrev Vals:List V→List Value→Prop:=Paired RelV
theorem Vals.length {xs:List V} {us:List Value} (r:Vals xs us):xs.length=us.length:=Paired.length r
theorem Vals.get:∀{xs:List V} {us:List Value} {i:Nat} {x:V},Vals xs us→xs[i]?=some x→∃u,us[i]?=some u∧RelV x u
 |_,_,_,_,.nil,e=>by simp at e
 |_,_,0,_,.cons r _,e=>by simp at e;subst e;exact⟨_,rfl,r⟩
 |_,_,i+1,x,.cons _ t,e=>by
  obtain⟨u,h1,h2⟩:=Vals.get (i:=i) (x:=x) t (by simpa using e)
  exact⟨u,by simpa using h1,h2⟩
theorem Vals.set {x:V} {u:Value} (r:RelV x u):∀{xs:List V} {us:List Value} (i:Nat),Vals xs us→Vals (xs.set i x) (us.set i u)
 |_,_,_,.nil=>.nil
 |_,_,0,.cons _ t=>.cons r t
 |_,_,i+1,.cons q t=>.cons q (Vals.set r i t)
theorem Vals.append:∀{xs ys:List V} {us ws:List Value},Vals xs us→Vals ys ws→Vals (xs++ys) (us++ws)
 |_,_,_,_,.nil,s=>s
 |_,_,_,_,.cons r t,s=>.cons r (Vals.append t s)
theorem Vals.take:∀{xs:List V} {us:List Value} (n:Nat),Vals xs us→Vals (xs.take n) (us.take n)
 |_,_,0,_=>.nil
 |_,_,_+1,.nil=>.nil
 |_,_,n+1,.cons r t=>.cons r (Vals.take n t)
theorem Vals.drop:∀{xs:List V} {us:List Value} (n:Nat),Vals xs us→Vals (xs.drop n) (us.drop n)
 |_,_,0,r=>r
 |_,_,_+1,.nil=>.nil
 |_,_,n+1,.cons _ t=>Vals.drop n t
def RelO:Option V→Option Value→Prop
 |some v,some u=>RelV v u
 |none,none=>True
 |_,_=>False
def KV {κ:Type}:List (κ×V)→List (κ×Value)→Prop:=Paired fun (p:κ×V) (q:κ×Value)=>p.1=q.1∧RelV p.2 q.2
def kV:Key→V
 |.inl i=>.int i
 |.inr x=>.str x
inductive HO where
 |lst (xs:List V)
 |tup (xs:List V)
 |dK (kvs:List (Key×V))|dT (kvs:List (List Key×V))
 |set (S:Int→Bool) (n:Nat)
 |ins (C dx:Addr) (fs:List (Str×V))
 |own (x:Addr)
 |xd (fs:List (Str×V))
 |met (f x:Addr)
 |rng (lo hi:Int)
 |frz (o:Obj) (u:HO)
 |tbl (ps:Array Value)
 |ext (φ:Heap→Prop)
abbrev Hp:=Addr→Option HO
def upd (H:Hp) (a:Addr) (o:HO):Hp:=fun b=>if b=a then some o else H b
theorem upd_same {H:Hp} {a:Addr} {o:HO}:upd H a o a=some o:=by unfold upd;rw[if_pos rfl]
theorem upd_ne {H:Hp} {a b:Addr} {o:HO} (h:b≠a):upd H a o b=H b:=by unfold upd;rw[if_neg h]
theorem upd_upd {H:Hp} {a:Addr} {o u:HO}:upd (upd H a o) a u=upd H a u:=by
 funext b;unfold upd;split<;>rfl
theorem ne_of {H:Hp} {a b:Addr} {o u:HO} (h:H a=some o) (h':H b=some u) (d:o≠u):a≠b:=by
 intro e;subst e;rw[h] at h';exact d (Option.some.inj h')
theorem ne_of_none {H:Hp} {a b:Addr} {o:HO} (h:H a=some o) (h':H b=none):a≠b:=by
 intro e;subst e;rw[h] at h';cases h'
section
variable (P : Program) (w : World)
def ObjOk (H:Hp) (h:Heap) (a:Addr):HO→Prop
 |.lst xs=>xs.length≤sizeLine∧∃(its:List Value) (n:Nat),Vals xs its∧h.get? a=some {cls:=.type "list",data:=.seq its.toArray n}
 |.tup xs=>xs.length≤sizeLine∧∃its:List Value,Vals xs its∧IsTup h a its.toArray
 |.dK kvs=>kvs.length≤sizeLine∧(a==sysModules)=false∧∃vs,KV kvs vs∧h.DictOf (mixKind P w) a vs
 |.dT kvs=>kvs.length≤sizeLine∧(a==sysModules)=false∧∃xs:List (List Key×Addr×Value),
   Paired (fun (p:List Key×V) (q:List Key×Addr×Value)=>p.1=q.1∧H q.2.1=some (.tup (p.1.map kV))∧RelV p.2 q.2.2) kvs xs ∧
   ∃o es ep,h.get? a=some o∧o.ExactDict∧o.data=.dict es ep∧es.toList=xs.map (entryOfKey (tupleKind (mixKind P w)))∧(xs.map (·.1)).Nodup
 |.set S n=>h.SetOf (intKind P w) a S n
 |.ins C dx fs=>H dx=some (.own a)∧fs.length≤1000∧dx≠a∧h.get? a=some (PySem.W.instObj C dx) ∧
   ∃mA,h.Ns1 dx mA∧(∀f,RelO (fs.lookup f) (mA f))∧PySem.Within mA (fs.map (·.1))
 |.own _=>∃o,h.get? a=some o
 |.xd fs=>∃mA,h.Ns1 a mA∧∀f,RelO (fs.lookup f) (mA f)
 |.rng lo hi=>∃t u v,h.get? a=some {cls:=.type "range",data:=.fields #[.int lo t,.int hi u,.int 1 v]}
 |.frz o u=>h.get? a=some o∧ObjOk H h a u
 |.tbl ps=>h.get? a=some {cls:=.none,data:=.fields ps}
 |.met f x=>h.get? a=some (PySem.W.methodObj (.ref f) (.ref x))
 |.ext φ=>φ h∧(∃o,h.get? a=some o)∧∀h1 h2:Heap,φ h1→(∀o,h1.get? a=some o→h2.get? a=some o)→φ h2
def HOk (H:Hp) (h:Heap):Prop:=∀a o,H a=some o→ObjOk P w H h a o
end
section
variable {P : Program} {w : World} {H H' : Hp} {h h' : Heap} {a : Addr} {o : HO}
theorem ObjOk.lt (x:ObjOk P w H h a o):a<h.objs.size:=by
 cases o with
 |lst xs=>obtain⟨_,_,_,_,e⟩:=x;exact Heap.lt_size e
 |tup xs=>obtain⟨_,_,_,p⟩:=x;exact p.lt
 |dK kvs=>obtain⟨_,_,_,_,o,_,_,e,_⟩:=x;exact Heap.lt_size e
 |dT kvs=>obtain⟨_,_,_,_,o,_,_,e,_⟩:=x;exact Heap.lt_size e
 |set S n=>obtain⟨o,_,_,_,e,_⟩:=x;exact Heap.lt_size e
 |ins C dx fs=>obtain⟨_,_,_,e,_⟩:=x;exact Heap.lt_size e
 |own y=>obtain⟨_,e⟩:=x;exact Heap.lt_size e
 |xd fs=>obtain⟨_,⟨_,_,_,e,_⟩,_⟩:=x;exact Heap.lt_size e
 |rng lo hi=>obtain⟨_,_,_,e⟩:=x;exact Heap.lt_size e
 |frz ob u=>obtain⟨e,_⟩:=x;exact Heap.lt_size e
 |tbl ps=>exact Heap.lt_size (show h.get? a=some _ from x)
 |met f y=>exact Heap.lt_size (show h.get? a=some _ from x)
 |ext φ=>obtain⟨_,⟨_,e⟩,_⟩:=x;exact Heap.lt_size e
theorem Paired.mapP {α β:Type} {F G:α→β→Prop}:∀{l₁:List α} {l₂:List β},Paired F l₁ l₂→(∀a b,F a b→G a b)→Paired G l₁ l₂
 |_,_,.nil,_=>.nil
 |_,_,.cons r t,f=>.cons (f _ _ r) (Paired.mapP t f)
theorem ObjOk.stay (x:ObjOk P w H h a o) (k:∀b u,(b=a∨H b=some (.own a))→h.get? b=some u→h'.get? b=some u)
  (ho:∀b,H b=some (.own a)→H' b=some (.own a)) (ht:∀b xs,H b=some (.tup xs)→H' b=some (.tup xs)):ObjOk P w H' h' a o:=by
 induction o with
 |lst xs=>obtain⟨z,its,n,r,e⟩:=x;exact⟨z,its,n,r,k _ _ (.inl rfl) e⟩
 |tup xs=>obtain⟨z,its,r,ob,e,c⟩:=x;exact⟨z,its,r,ob,k _ _ (.inl rfl) e,c⟩
 |dK kvs=>obtain⟨z,y,vs,r,ob,es,ep,e,c⟩:=x;exact⟨z,y,vs,r,ob,es,ep,k _ _ (.inl rfl) e,c⟩
 |dT kvs =>
  obtain⟨z,y,xs,r,ob,es,ep,e,c⟩:=x
  exact⟨z,y,xs,Paired.mapP r fun p q z=>⟨z.1,ht _ _ z.2.1,z.2.2⟩,ob,es,ep,k _ _ (.inl rfl) e,c⟩
 |set S n=>obtain⟨ob,es,ep,t,e,c⟩:=x;exact⟨ob,es,ep,t,k _ _ (.inl rfl) e,c⟩
 |ins C dx fs =>
  obtain⟨d,z,ne,e,mA,⟨od,es,ep,e2,c⟩,r⟩:=x
  exact⟨ho _ d,z,ne,k _ _ (.inl rfl) e,mA,⟨od,es,ep,k _ _ (.inr d) e2,c⟩,r⟩
 |own y=>obtain⟨ob,e⟩:=x;exact⟨ob,k _ _ (.inl rfl) e⟩
 |xd fs=>obtain⟨mA,⟨od,es,ep,e,c⟩,r⟩:=x;exact⟨mA,⟨od,es,ep,k _ _ (.inl rfl) e,c⟩,r⟩
 |rng lo hi=>obtain⟨t,u,v,e⟩:=x;exact⟨t,u,v,k _ _ (.inl rfl) e⟩
 |frz ob u ih=>obtain⟨e,q⟩:=x;exact⟨k _ _ (.inl rfl) e,ih q⟩
 |tbl ps =>
  have e:h.get? a=some {cls:=.none,data:=.fields ps}:=x
  show h'.get? a=some {cls:=.none,data:=.fields ps}
  exact k a _ (.inl rfl) e
 |met f y =>
  have e:h.get? a=some (PySem.W.methodObj (.ref f) (.ref y)):=x
  show h'.get? a=some (PySem.W.methodObj (.ref f) (.ref y))
  exact k a _ (.inl rfl) e
 |ext φ=>obtain⟨p,⟨o,e⟩,st⟩:=x;exact⟨st _ _ p fun o q=>k _ _ (.inl rfl) q,⟨o,k _ _ (.inl rfl) e⟩,st⟩
theorem HOk.lt (x:HOk P w H h) (e:H a=some o):a<h.objs.size:=(x a o e).lt
theorem HOk.fresh (x:HOk P w H h) (e:h.objs.size≤a):H a=none:=by
 cases q:H a with
 |none=>rfl
 |some u=>exact absurd (Nat.lt_of_lt_of_le (x.lt q) e) (Nat.lt_irrefl _)
theorem HOk.kept (x:HOk P w H h) (k:∀b u,h.get? b=some u→h'.get? b=some u):HOk P w H h':=fun a o e =>
 (x a o e).stay (fun b u _ q=>k b u q) (fun _ q=>q) fun _ _ q=>q
theorem HOk.laid (x:HOk P w H h) (k:∀b u,h.get? b=some u→h'.get? b=some u) (hp:h.objs.size≤a) (new:ObjOk P w (upd H a o) h' a o):HOk P w (upd H a o) h':=fun b u e=>by
 have hn:=x.fresh hp
 by_cases hb:b=a
 ·subst hb;rw[upd_same] at e;cases e;exact new
 ·rw[upd_ne hb] at e
  exact (x b u e).stay (fun c v _ q=>k c v q) (fun c q=>by rw[upd_ne (ne_of_none q hn)];exact q) fun c xs q=>by rw[upd_ne (ne_of_none q hn)];exact q
end
def Rd (H:Hp) (a:Addr) (u:HO):Prop:=H a=some u∨∃o,H a=some (.frz o u)
theorem Rd.ok {P:Program} {w:World} {H:Hp} {h:Heap} {a:Addr} {u:HO} (r:Rd H a u) (x:HOk P w H h):ObjOk P w H h a u:=by
 rcases r with r|⟨o,r⟩
 ·exact x a u r
 ·obtain⟨_,q⟩:=x a _ r
  exact q
def Mut:Option HO→Prop
 |some (.lst _)=>True
 |some (.dK _)=>True
 |some (.dT _)=>True
 |some (.set _ _)=>True
 |some (.ins _ _ _)=>True
 |some (.ext _)=>True
 |_=>False
section
variable {P : Program} {w : World} {H : Hp} {h h' : Heap} {x e : Addr} {o' : HO}
theorem HOk.write (ok:HOk P w H h) (mu:Mut (H x)) (he:e=x∨H e=some (.own x)) (k:∀b u,b≠e→h.get? b=some u→h'.get? b=some u) (heo:∃u,h'.get? e=some u)
  (new:ObjOk P w (upd H x o') h' x o'):HOk P w (upd H x o') h':=fun b u q=>by
 have nown:∀c y,H c=some (.own y)→c≠x:=fun c y r z=>by subst z;rw[r] at mu;exact mu
 have ntup:∀c xs,H c=some (.tup xs)→c≠x:=fun c xs r z=>by subst z;rw[r] at mu;exact mu
 by_cases hb:b=x
 ·subst hb;rw[upd_same] at q;cases q;exact new
 ·rw[upd_ne hb] at q
  by_cases hbe:b=e
  ·have q':H b=some (.own x):=by
    rcases he with z|z
    ·exact absurd (hbe.trans z) hb
    ·rw[hbe];exact z
   rw[q] at q';cases q'
   obtain⟨v,hv⟩:=heo
   exact⟨v,by rw[hbe];exact hv⟩
  ·refine (ok b u q).stay (fun c v hc r=>k c v ?_ r) (fun c r=>by rw[upd_ne (nown c b r)];exact r) fun c xs r=>by rw[upd_ne (ntup c xs r)];exact r
   rcases hc with rfl|hc
   ·exact hbe
   ·rintro rfl
    rcases he with z|z
    ·exact nown c b hc z
    ·rw[hc] at z;cases z;exact hb rfl
end
structure Un (fs ex:List Addr) (H H':Hp) (h h':Heap):Prop where
 keep:∀b o,h.get? b=some o→H b=none→b∉fs→b∉ex→h'.get? b=some o
 slot:∀b o,h.get? b=some o→H b=none→b∈fs→b∉ex→∃sl,h'.get? b=some {o with slots:=sl}
 free:∀b o,h.get? b=some o→H b=none→b∉ex→H' b=none
 there:∀b o,h.get? b=some o→b∉ex→∃o',h'.get? b=some o'
 tups:∀b xs,H b=some (.tup xs)→H' b=some (.tup xs)
 frzs:∀b o u,H b=some (.frz o u)→H' b=some (.frz o u)
 tbls:∀b ps,H b=some (.tbl ps)→∃more,H' b=some (.tbl (ps++more))
section
variable {fs fs' ex ex' : List Addr} {H H1 H2 : Hp} {h h1 h2 h' : Heap} {a x e : Addr} {o : HO}
theorem Un.any (u:Un fs ex H H1 h h1) {b:Addr} {ob:Obj} (q:h.get? b=some ob) (n:H b=none) (hx:b∉ex):∃sl,h1.get? b=some {ob with slots:=sl}:=by
 by_cases hb:b∈fs
 ·exact u.slot b ob q n hb hx
 ·exact⟨ob.slots,u.keep b ob q n hb hx⟩
theorem Un.kept (k:∀b u,h.get? b=some u→h'.get? b=some u):Un fs ex H H h h' :=
 ⟨fun b ob q _ _ _=>k b ob q,fun b ob q _ _ _=>⟨ob.slots,k b ob q⟩,fun _ _ _ n _=>n,fun b ob q _=>⟨ob,k b ob q⟩,fun _ _ q=>q,fun _ _ _ q=>q,fun _ ps q=>⟨#[],by rw[q];simp⟩⟩
theorem Un.refl:Un fs ex H H h h:=Un.kept fun _ _ q=>q
theorem Un.laid (k:∀b u,h.get? b=some u→h'.get? b=some u) (hp:h.objs.size≤a) (hn:H a=none):Un fs ex H (upd H a o) h h' where
 keep:=fun b u q _ _ _=>k b u q
 slot:=fun b u q _ _ _=>⟨u.slots,k b u q⟩
 free:=fun b u q n _=>by rw[upd_ne (Nat.ne_of_lt (Nat.lt_of_lt_of_le (Heap.lt_size q) hp))];exact n
 there:=fun b u q _=>⟨u,k b u q⟩
 tups:=fun b xs q=>by rw[upd_ne (ne_of_none q hn)];exact q
 frzs:=fun b u xs q=>by rw[upd_ne (ne_of_none q hn)];exact q
 tbls:=fun b ps q=>⟨#[],by rw[upd_ne (ne_of_none q hn),q];simp⟩
theorem Un.write (mu:Mut (H x)) (he:e=x∨H e=some (.own x)) (k:∀b u,b≠e→h.get? b=some u→h'.get? b=some u) (heo:∃u,h'.get? e=some u):Un fs ex H (upd H x o) h h':=by
 have hx:∀b,H b=none→b≠x:=fun b n z=>by subst z;rw[n] at mu;exact mu
 have hb:∀b,H b=none→b≠e:=fun b n z=>by
  subst z
  rcases he with r|r
  ·exact hx b n r
  ·rw[n] at r;cases r
 have hm:∀b u,H b=some u→¬Mut (some u)→b≠x:=fun b u q nm z=>by subst z;rw[q] at mu;exact nm mu
 refine⟨fun b u q n _ _=>k b u (hb b n) q,fun b u q n _ _=>⟨u.slots,k b u (hb b n) q⟩,fun b u q n _=>by rw[upd_ne (hx b n)];exact n,fun b u q _=>?_,
  fun b xs q=>by rw[upd_ne (hm b _ q fun z=>z)];exact q,fun b u xs q=>by rw[upd_ne (hm b _ q fun z=>z)];exact q,fun b ps q=>⟨#[],by rw[upd_ne (hm b _ q fun z=>z),q];simp⟩⟩
 by_cases hbe:b=e
 ·subst hbe;exact heo
 ·exact⟨u,k b u hbe q⟩
end
def trk (h:Heap) (H:Hp):List Addr:=(List.range h.objs.size).filter fun a=>(H a).isSome
def hidT (h:Heap) (H:Hp):Heap:=PySem.W.hideAll h (trk h H)
theorem hidT_size (h:Heap) (H:Hp):(hidT h H).objs.size=h.objs.size:=PySem.W.hideAll_size _ _
theorem hidT_get {h:Heap} {H:Hp} {b:Addr} {o:Obj} (e:h.get? b=some o) (n:H b=none):(hidT h H).get? b=some o :=
 PySem.W.hideAll_get _ e fun hm=>by
  have q:(H b).isSome=true:=(List.mem_filter.mp hm).2
  rw[n] at q;simp at q
theorem of_hidT {h:Heap} {H:Hp} {b:Addr} {o:Obj} (e:(hidT h H).get? b=some o):h.get? b=some o∧H b=none:=by
 have e':h.get? b=some o:=PySem.W.of_hideAll (trk h H) e
 refine⟨e',?_⟩
 cases q:H b with
 |none=>rfl
 |some x =>
  have hm:b∈trk h H:=List.mem_filter.mpr ⟨List.mem_range.mpr (Heap.lt_size e'),by simp [q]⟩
  have z:(hidT h H).get? b=none:=PySem.W.hideAll_none (trk h H) hm
  rw[z] at e;cases e
def allNews (g h:Heap) (L:Addr):List (Addr×Obj):=(List.range h.objs.size).filterMap fun a=>if a=L∨(g.get? a).isSome=true then none else (h.get? a).map fun o=>(a,o)
def rest (g h:Heap) (L d:Addr):List (Addr×Obj):=(allNews g h L).filter fun p=>decide (p.1≠d)
end L2
namespace L2
open PySem PySem.Spec PyProof.Rows
structure Mod (K:PySem.W.Frag) (mg:Str→Option Value) (base:Heap):Prop where
 kin:K.In base
 glob:base.Ns mainGlobals mg
 blt:∃mb,base.Ns builtinsNs mb∧∀x:Str,x≠"__name__"→mb x=bootBuiltins x
 nolimit:base.NoLimit
structure Cx where
 prog:Program
 w:World
 K:PySem.W.Frag
 mg:Str→Option Value
 base:Heap
 A:Around
 N:List Str
 s_0:Shared
 H_0:Hp
 env:Env
 outer:List Env
 stack:List Env
 ex:List Addr
 fn:Str→Bool
 calm:Bool
 pn:List (Addr×Obj)
 xe:Value→Shared→Prop
def frs (l:List Env):List Addr:=l.filterMap (·.frame)
abbrev Cx.fs (X:Cx):List Addr:=frs X.outer
def Vis (sc:Scope) (x:Str):Prop:=sc.names.lookup x=some .local∨sc.names.lookup x=some .cell∨sc.names.lookup x=some .free
def Loc (sc:Scope) (x:Str):Prop:=sc.names.lookup x=some .local∨sc.names.lookup x=some .cell
def Look (env:Env) (h:Heap) (m:Str→Option Value) (x:Str) (u:Value):Prop :=
 (env.kindOf x=some .local∧m x=some u)∨((env.kindOf x=some .cell∨env.kindOf x=some .free)∧∃c,env.cells.lookup x=some c∧h.IsCell c (some u))
structure Cx.Ok (X:Cx):Prop where
 mod:Mod X.K X.mg X.base
 kind:X.env.scope.kind=.function
 glob:X.env.globals=mainGlobals
 blt:X.env.builtins=builtinsNs
 above:X.s_0.heap.objs.size≤X.env.locals
 inj:∀x y c,X.env.cells.lookup x=some c→X.env.cells.lookup y=some c→x=y
 has:∀x,(X.env.kindOf x=some .cell∨X.env.kindOf x=some .free)→∃c,X.env.cells.lookup x=some c
 cab:∀x c,X.fn x=true→X.env.cells.lookup x=some c→X.s_0.heap.objs.size≤c
 hd:X.calm=true→X.A.handled=none
 frames:X.A.frames=some X.stack
 stk:X.stack=X.outer∨(X.stack=X.env::X.outer∧X.env.frame=some X.env.locals)
 exf:∀b∈X.ex,b≠X.env.locals∧∀x c,X.env.cells.lookup x=some c→c≠b
 bs:∀b o,X.base.get? b=some o→X.s_0.heap.get? b=some o∧X.H_0 b=none
 bsz:X.base.objs.size≤X.s_0.heap.objs.size
 noex:∀b o,X.base.get? b=some o→b∉X.ex
 exfs:∀b∈X.ex,b∉X.fs
 funs:X.s_0.heap.FunFrames X.base X.outer
 frf:∀b∈X.fs,X.H_0 b=none
structure Inv (X:Cx) (pins:List (Addr×Obj)) (σ:List (Option V)) (H:Hp) (s:Shared):Prop where
 ok:X.Ok
 os:s.os=X.s_0.os
 bare:AllBare s.gens
 base:Un X.fs X.ex X.H_0 H X.s_0.heap s.heap
 loc:∃m,s.heap.Ns X.env.locals m∧∀(i:Nat) (x:Str) (v:V),X.N[i]?=some x→σ[i]?=some (some v)→Vis X.env.scope x→∃u,RelV v u∧Look X.env s.heap m x u
 cell:∀x c,X.env.cells.lookup x=some c→∃v,s.heap.IsCell c v
 free:H X.env.locals=none
 freeC:∀x c,X.env.cells.lookup x=some c→H c=none
 pin:∀p∈X.pn++pins,s.heap.get? p.1=some p.2∧H p.1=none∧p.1≠X.env.locals∧p.1∉X.fs∧∀v,p.2.data≠.cell v
 hok:HOk X.prog X.w H s.heap
 len:σ.length=X.N.length
section
variable {X : Cx} {pins : List (Addr × Obj)} {σ : List (Option V)} {H H' : Hp} {s : Shared} {h' : Heap}
theorem Cx.Ok.nofr (ok:X.Ok) {b:Addr} {o:Obj} (e:X.base.get? b=some o):b∉X.fs:=fun hb=>by
 have:=(ok.funs.mem hb).1
 rw[e] at this;cases this
theorem Inv.bs (I:Inv X pins σ H s):∀b o,X.base.get? b=some o→s.heap.get? b=some o∧H b=none:=fun b o e =>
 ⟨I.base.keep b o (I.ok.bs b o e).1 (I.ok.bs b o e).2 (I.ok.nofr e) (I.ok.noex b o e),I.base.free b o (I.ok.bs b o e).1 (I.ok.bs b o e).2 (I.ok.noex b o e)⟩
theorem Inv.bk (I:Inv X pins σ H s):∀b o,X.base.get? b=some o→s.heap.get? b=some o:=fun b o e=>(I.bs b o e).1
theorem Inv.mod (I:Inv X pins σ H s):Mod X.K X.mg X.base:=I.ok.mod
theorem Inv.kIn (I:Inv X pins σ H s):X.K.In s.heap:=I.ok.mod.kin.keeps I.bk
theorem Inv.fr (I:Inv X pins σ H s):∃m,Fr X.base X.env.locals s.heap m :=
 let ⟨m,hn,_⟩:=I.loc
 ⟨m,hn,I.bk,Nat.le_trans I.ok.bsz I.ok.above⟩
theorem Inv.lt (I:Inv X pins σ H s):X.env.locals<s.heap.objs.size:=let ⟨_,hn,_⟩:=I.loc;hn.lt
theorem Inv.sz (I:Inv X pins σ H s):X.s_0.heap.objs.size≤s.heap.objs.size:=Nat.le_trans I.ok.above (Nat.le_of_lt I.lt)
theorem Inv.nofs (I:Inv X pins σ H s) {a:Addr} (h:s.heap.objs.size≤a):a∉X.fs:=fun hb=>by
 obtain⟨_,o,ho,_⟩:=I.ok.funs.mem hb
 exact absurd (Nat.lt_of_lt_of_le (Heap.lt_size ho) (Nat.le_trans I.sz h)) (Nat.lt_irrefl _)
theorem Inv.cne (I:Inv X pins σ H s):∀x c,X.env.cells.lookup x=some c→c≠X.env.locals:=fun x c e z=>by
 obtain⟨v,o,ho,hd⟩:=I.cell x c e
 obtain⟨m,⟨o',es,ep,ho',hd',_⟩,_⟩:=I.loc
 rw[z,ho'] at ho;cases ho;rw[hd'] at hd;cases hd
theorem Inv.funs (I:Inv X pins σ H s):s.heap.FunFrames X.base X.outer:=by
 have all:∀(l:List Env),(∀b∈frs l,b∈X.fs)→X.s_0.heap.FunFrames X.base l→s.heap.FunFrames X.base l:=by
  intro l
  induction l with
  |nil=>intro _ _;trivial
  |cons env r ih =>
   intro hs hl
   obtain⟨hk,⟨L,o,hf,hn,ho,hd⟩,hr⟩:=hl
   have hL:L∈X.fs:=hs L (by unfold frs;rw[List.filterMap_cons,hf];exact List.mem_cons_self)
   obtain⟨sl,e⟩:=I.base.slot L o ho (I.ok.frf L hL) hL fun z=>I.ok.exfs L z hL
   exact⟨hk,⟨L,_,hf,hn,e,hd⟩,ih (fun b hb=>hs b (by unfold frs;rw[List.filterMap_cons,hf];exact List.mem_cons_of_mem _ hb)) hr⟩
 exact all X.outer (fun _ hb=>hb) I.ok.funs
theorem Inv.stack (I:Inv X pins σ H s):s.heap.FunFrames X.base X.stack:=by
 rcases I.ok.stk with e|⟨e,hf⟩
 ·rw[e];exact I.funs
 ·rw[e]
  obtain⟨m,hn,_⟩:=I.loc
  refine .cons (by rw[I.ok.kind];decide) hf hn ?_ I.funs
  exact Heap.get?_none_of_le (Nat.le_trans I.ok.bsz I.ok.above)
theorem Inv.stkSub (I:Inv X pins σ H s):∀b∈frs X.stack,b∈X.env.locals::X.fs:=fun b hb=>by
 rcases I.ok.stk with e|⟨e,hf⟩
 ·rw[e] at hb;exact List.mem_cons_of_mem _ hb
 ·rw[e] at hb
  unfold frs at hb
  rw[List.filterMap_cons,hf] at hb
  exact hb
theorem Inv.stkFree (I:Inv X pins σ H s):∀b∈frs X.stack,H b=none:=fun b hb=>by
 rcases List.mem_cons.mp (I.stkSub b hb) with e|hb
 ·rw[e];exact I.free
 ·obtain⟨_,o,ho,_⟩:=I.ok.funs.mem hb
  exact I.base.free b o ho (I.ok.frf b hb) fun z=>I.ok.exfs b z hb
theorem Inv.step {g':Array GenState} {t':Nat} {d':Drawn} {ch:List Addr} (I:Inv X pins σ H s)
  (hch:∀b∈ch,(b∈X.ex∨X.s_0.heap.objs.size≤b)∧b≠X.env.locals∧(∀x c,X.env.cells.lookup x=some c→c≠b)∧∀p∈X.pn++pins,p.1≠b)
  (keep:∀b o,b≠X.env.locals→b∉X.fs→b∉ch→s.heap.get? b=some o→H b=none→h'.get? b=some o)
  (slot:∀b o,b≠X.env.locals→b∈X.fs→b∉ch→s.heap.get? b=some o→H b=none→∃sl,h'.get? b=some {o with slots:=sl}) (free:∀b o,b∉ch→s.heap.get? b=some o→H b=none→H' b=none)
  (there:∀b o,b∉ch→s.heap.get? b=some o→∃o',h'.get? b=some o')
  (tups:∀b xs,H b=some (.tup xs)→H' b=some (.tup xs)) (frzs:∀b o u,H b=some (.frz o u)→H' b=some (.frz o u)) (tbls:∀b ps,H b=some (.tbl ps)→∃more,H' b=some (.tbl (ps++more)))
  (ns:∀m,s.heap.Ns X.env.locals m→h'.Ns X.env.locals m) (hok:HOk X.prog X.w H' h') (hg:AllBare g') :
  Inv X pins σ H' {s with heap:=h',gens:=g',drawn:=d',toks:=t'}:=by
 have neL:∀b o,X.s_0.heap.get? b=some o→b≠X.env.locals:=fun b o e=>Nat.ne_of_lt (Nat.lt_of_lt_of_le (Heap.lt_size e) I.ok.above)
 have neC:∀b o,X.s_0.heap.get? b=some o→b∉X.ex→b∉ch:=fun b o e hx hb=>by
  rcases (hch b hb).1 with z|z
  ·exact hx z
  ·exact absurd (Nat.lt_of_lt_of_le (Heap.lt_size e) z) (Nat.lt_irrefl _)
 have cellK:∀x c,X.env.cells.lookup x=some c→∀v,s.heap.IsCell c v→h'.IsCell c v:=fun x c e v ⟨o,ho,hd⟩=>by
  have nch:c∉ch:=fun z=>(hch c z).2.2.1 x c e rfl
  by_cases hc:c∈X.fs
  ·obtain⟨sl,q⟩:=slot c o (I.cne x c e) hc nch ho (I.freeC x c e)
   exact⟨_,q,hd⟩
  ·exact⟨o,keep c o (I.cne x c e) hc nch ho (I.freeC x c e),hd⟩
 refine⟨I.ok,I.os,hg,⟨fun b o e n hb hx=>?_,fun b o e n hb hx=>?_,fun b o e n hx=>?_,fun b o e hx=>?_,fun b xs e=>tups b xs (I.base.tups b xs e),fun b o xs e=>frzs b o xs (I.base.frzs b o xs e),fun b ps e=>?_⟩,?_,fun x c e=>?_,?_,fun x c e=>?_,fun p hp=>?_,hok,I.len⟩
 ·exact keep b o (neL b o e) hb (neC b o e hx) (I.base.keep b o e n hb hx) (I.base.free b o e n hx)
 ·obtain⟨sl,e1⟩:=I.base.slot b o e n hb hx
  obtain⟨sl',e2⟩:=slot b _ (neL b o e) hb (neC b o e hx) e1 (I.base.free b o e n hx)
  exact⟨sl',e2⟩
 ·obtain⟨o',e1⟩:=I.base.there b o e hx
  exact free b o' (neC b o e hx) e1 (I.base.free b o e n hx)
 ·obtain⟨o',e1⟩:=I.base.there b o e hx
  exact there b o' (neC b o e hx) e1
 ·obtain⟨m1,e1⟩:=I.base.tbls b ps e
  obtain⟨m2,e2⟩:=tbls b _ e1
  exact⟨m1++m2,by rw[e2,Array.append_assoc]⟩
 ·obtain⟨m,hn,hl⟩:=I.loc
  refine⟨m,ns m hn,fun i x v e1 e2 e3=>?_⟩
  obtain⟨u,r,l⟩:=hl i x v e1 e2 e3
  refine⟨u,r,?_⟩
  rcases l with l|⟨k,c,e,z⟩
  ·exact .inl l
  ·exact .inr ⟨k,c,e,cellK x c e _ z⟩
 ·obtain⟨v,z⟩:=I.cell x c e
  exact⟨v,cellK x c e v z⟩
 ·obtain⟨m,⟨o,_,_,ho,_⟩,_⟩:=I.loc
  exact free _ o (fun z=>(hch _ z).2.1 rfl) ho I.free
 ·obtain⟨v,o,ho,hd⟩:=I.cell x c e
  exact free c o (fun z=>(hch c z).2.2.1 x c e rfl) ho (I.freeC x c e)
 ·obtain⟨e,n,ne,nf,d⟩:=I.pin p hp
  have nch:p.1∉ch:=fun z=>(hch p.1 z).2.2.2 p hp rfl
  exact⟨keep p.1 p.2 ne nf nch e n,free p.1 p.2 nch e n,ne,nf,d⟩
theorem Inv.un {t':Nat} (I:Inv X pins σ H s) (u:Un X.fs [] H H' s.heap h') (hok:HOk X.prog X.w H' h'):Inv X pins σ H' {s with heap:=h',toks:=t'}:=by
 obtain⟨m,⟨o,es,ep,ho,r⟩,_⟩:=id I.loc
 obtain⟨sl,hL⟩:=u.any ho I.free (by simp)
 exact I.step (g':=s.gens) (d':=s.drawn) (ch:=[]) (fun _ z=>nomatch z) (fun b o _ hb _ e n=>u.keep b o e n hb (by simp)) (fun b o _ hb _ e n=>u.slot b o e n hb (by simp)) (fun b o _ e n=>u.free b o e n (by simp)) (fun b o _ e=>u.there b o e (by simp)) u.tups u.frzs u.tbls (fun m' hm=>by
  obtain⟨o',es',ep',ho',r'⟩:=hm
  rw[ho] at ho';cases ho'
  exact⟨_,es',ep',hL,r'⟩) hok I.bare
theorem Inv.call {g':Array GenState} {t':Nat} {d':Drawn} {ch:List Addr} (I:Inv X pins σ H s) (u:Un (frs X.stack) ch H H' s.heap h') (hok:HOk X.prog X.w H' h') (hg:AllBare g')
  (hch:∀b∈ch,(b∈X.ex∨X.s_0.heap.objs.size≤b)∧b≠X.env.locals∧(∀x c,X.env.cells.lookup x=some c→c≠b)∧∀p∈X.pn++pins,p.1≠b) :
  Inv X pins σ H' {s with heap:=h',gens:=g',drawn:=d',toks:=t'}:=by
 obtain⟨m,⟨o,es,ep,ho,r⟩,_⟩:=id I.loc
 obtain⟨sl,hL⟩:=u.any ho I.free fun z=>(hch _ z).2.1 rfl
 exact I.step (ch:=ch) hch (fun b o hL hb hc e n=>u.keep b o e n (fun z=>(List.mem_cons.mp (I.stkSub b z)).elim hL hb) hc) (fun b o _ _ hc e n=>u.any e n hc) (fun b o hc e n=>u.free b o e n hc) (fun b o hc e=>u.there b o e hc) u.tups u.frzs u.tbls (fun m' hm=>by
  obtain⟨o',es',ep',ho',r'⟩:=hm
  rw[ho] at ho';cases ho'
  exact⟨_,es',ep',hL,r'⟩) hok hg
theorem Inv.turned {t':Nat} {it:Addr} (I:Inv X pins σ H s) (k:∀b o,b≠it→s.heap.get? b=some o→h'.get? b=some o) (hn:H it=none) (hL:it≠X.env.locals)
  (h1:it∈X.ex∨X.s_0.heap.objs.size≤it) (h2:∀x c,X.env.cells.lookup x=some c→c≠it) (h3:∀p∈X.pn++pins,p.1≠it):Inv X pins σ H {s with heap:=h',toks:=t'}:=by
 have nit:∀b u,H b=some u→b≠it:=fun b u e z=>by rw[z,hn] at e;cases e
 refine I.step (g':=s.gens) (d':=s.drawn) (ch:=[it]) (fun b hb=>?_) (fun b o _ _ hc e _=>k b o (fun z=>hc (by simp [z])) e) (fun b o _ _ hc e _=>⟨o.slots,k b o (fun z=>hc (by simp [z])) e⟩) (fun _ _ _ _ n=>n)
  (fun b o hc e=>⟨o,k b o (fun z=>hc (by simp [z])) e⟩) (fun _ _ e=>e) (fun _ _ _ e=>e) (fun b ps e=>⟨#[],by rw[e];simp⟩) (fun m hm=>?_) (fun b u e=>?_) I.bare
 ·have e:b=it:=by simpa using hb
  subst e
  exact⟨h1,hL,h2,h3⟩
 ·obtain⟨o,es,ep,ho,r⟩:=hm
  exact⟨o,es,ep,k _ o (Ne.symm hL) ho,r⟩
 ·refine (I.hok b u e).stay (fun c v hc q=>k c v ?_ q) (fun _ q=>q) fun _ _ q=>q
  rcases hc with z|z
  ·rw[z];exact nit b u e
  ·exact nit c _ z
theorem Inv.tok (I:Inv X pins σ H s) (t:Nat):Inv X pins σ H {s with toks:=t}:=I.un (h':=s.heap) (t':=t) Un.refl I.hok
theorem Inv.kept {t':Nat} (I:Inv X pins σ H s) (k:∀b u,s.heap.get? b=some u→h'.get? b=some u):Inv X pins σ H {s with heap:=h',toks:=t'}:=I.un (Un.kept k) (I.hok.kept k)
theorem Inv.laid {a:Addr} {o:HO} {t':Nat} (I:Inv X pins σ H s) (k:∀b u,s.heap.get? b=some u→h'.get? b=some u) (hp:s.heap.objs.size≤a) (new:ObjOk X.prog X.w (upd H a o) h' a o) :
  Inv X pins σ (upd H a o) {s with heap:=h',toks:=t'}:=I.un (Un.laid k hp (I.hok.fresh hp)) (I.hok.laid k hp new)
theorem Inv.write {x e:Addr} {o:HO} {t':Nat} (I:Inv X pins σ H s) (mu:Mut (H x)) (he:e=x∨H e=some (.own x)) (k:∀b u,b≠e→s.heap.get? b=some u→h'.get? b=some u) (heo:∃u,h'.get? e=some u)
  (new:ObjOk X.prog X.w (upd H x o) h' x o):Inv X pins σ (upd H x o) {s with heap:=h',toks:=t'}:=I.un (Un.write mu he k heo) (I.hok.write mu he k heo new)
theorem Inv.weak {σ':List (Option V)} (I:Inv X pins σ H s) (hl:σ'.length=σ.length) (w:∀(i:Nat) v,σ'[i]?=some (some v)→σ[i]?=some (some v)):Inv X pins σ' H s :=
 ⟨I.ok,I.os,I.bare,I.base,let ⟨m,hn,hl'⟩:=I.loc;⟨m,hn,fun i x v e1 e2 e3=>hl' i x v e1 (w i v e2) e3⟩,I.cell,I.free,I.freeC,I.pin,I.hok,hl.trans I.len⟩
theorem Inv.pins_of {pins':List (Addr×Obj)} (I:Inv X pins σ H s) (h:∀p∈pins',s.heap.get? p.1=some p.2∧H p.1=none∧p.1≠X.env.locals∧p.1∉X.fs∧∀v,p.2.data≠.cell v):Inv X pins' σ H s :=
 ⟨I.ok,I.os,I.bare,I.base,I.loc,I.cell,I.free,I.freeC,fun p hp=>(List.mem_append.mp hp).elim (fun z=>I.pin p (List.mem_append_left _ z)) (h p),I.hok,I.len⟩
theorem nodup_ix {N:List Str} (hN:N.Nodup) {i j:Nat} {x:Str} (a:N[i]?=some x) (b:N[j]?=some x):i=j:=by
 obtain⟨h1,e1⟩:=List.getElem?_eq_some_iff.mp a
 obtain⟨h2,e2⟩:=List.getElem?_eq_some_iff.mp b
 exact (List.getElem_inj hN).mp (e1.trans e2.symm)
theorem store_ok2 {M:Model} {A:Around} {E:Value→Shared→Prop} {i:Nat} {x:Str} {v:V} {u:Value} {Q:Unit→Shared→Prop} (I:Inv X pins σ H s) (hN:X.N.Nodup) (hi:X.N[i]?=some x) (hx:Loc X.env.scope x) (r:RelV v u)
  (h:∀s',Inv X pins (σ.set i (some v)) H s'→(∃a,Heap.SameBut a s.heap s'.heap∧(a=X.env.locals∨X.env.cells.lookup x=some a))→Q () s') (hf:X.fn x=true∨X.env.scope.names.lookup x=some .local:=by first|exact .inl rfl|exact .inr rfl|assumption):wpAny M A (storeName X.env x u) Q E s:=by
 obtain⟨m,hn,hl⟩:=id I.loc
 have hcls:(X.env.scope.kind==.class||(X.env.scope.kind==.module&&X.env.locals !=X.env.globals))=false:=by rw[I.ok.kind];rfl
 have hiσ:i<σ.length:=by rw[I.len];exact (List.getElem?_eq_some_iff.mp hi).1
 have cne:=I.cne
 have tracked:∀{a:Addr} {h':Heap},(∃o,s.heap.get? a=some o∧H a=none)→Heap.SameBut a s.heap h'→HOk X.prog X.w H h':=fun {a h'} ha hs b ob e=>by
  obtain⟨_,_,hfree⟩:=ha
  refine (I.hok b ob e).stay (fun c w' hc q=>(hs.2 c ?_).trans q) (fun _ q=>q) fun _ _ q=>q
  rintro rfl
  rcases hc with rfl|hc
  ·rw[hfree] at e;cases e
  ·rw[hfree] at hc;cases hc
 rcases hx with hk|hk
 ·refine wpAny_storeName_local hk hn (fun h' hn' hs=>?_) hcls
  obtain⟨oL,_,_,hoL,_⟩:=id hn
  refine h _ ⟨I.ok,I.os,I.bare,⟨fun b o e n hb hx=>?_,fun b o e n hb hx=>?_,I.base.free,fun b o e hx=>?_,I.base.tups,I.base.frzs,I.base.tbls⟩,⟨_,hn',fun j y v' e1 e2 e3=>?_⟩,fun y c e=>?_,I.free,I.freeC,fun p hp=>?_,tracked ⟨oL,hoL,I.free⟩ hs,by simpa using I.len⟩ ⟨_,hs,.inl rfl⟩
  ·exact (hs.2 b (Nat.ne_of_lt (Nat.lt_of_lt_of_le (Heap.lt_size e) I.ok.above))).trans (I.base.keep b o e n hb hx)
  ·obtain⟨sl,e1⟩:=I.base.slot b o e n hb hx
   exact⟨sl,(hs.2 b (Nat.ne_of_lt (Nat.lt_of_lt_of_le (Heap.lt_size e) I.ok.above))).trans e1⟩
  ·obtain⟨o',e1⟩:=I.base.there b o e hx
   exact⟨o',(hs.2 b (Nat.ne_of_lt (Nat.lt_of_lt_of_le (Heap.lt_size e) I.ok.above))).trans e1⟩
  ·by_cases hj:j=i
   ·subst hj
    rw[hi] at e1;cases e1
    rw[List.getElem?_set_self hiσ] at e2
    cases e2
    exact⟨u,r,.inl ⟨hk,by simp⟩⟩
   ·rw[List.getElem?_set_ne (Ne.symm hj)] at e2
    obtain⟨u',r',q⟩:=hl j y v' e1 e2 e3
    refine⟨u',r',?_⟩
    rcases q with⟨k,e⟩|⟨k,c,e,z⟩
    ·refine .inl ⟨k,?_⟩
     have:y≠x:=fun e=>hj (nodup_ix hN e1 (e ▸ hi))
     simp [this,e]
    ·exact .inr ⟨k,c,e,z.sameBut hs (cne y c e)⟩
  ·obtain⟨w',z⟩:=I.cell y c e
   exact⟨w',z.sameBut hs (cne y c e)⟩
  ·obtain⟨e,n,ne,nf,d⟩:=I.pin p hp
   exact⟨(hs.2 p.1 ne).trans e,n,ne,nf,d⟩
 ·have hfn:X.fn x=true:=by
   rcases hf with z|z
   ·exact z
   ·rw[z] at hk;cases hk
  obtain⟨c,hc⟩:=I.ok.has x (.inl hk)
  obtain⟨w',z⟩:=I.cell x c hc
  refine wpAny_storeName_cell I.ok.kind hk hc z (fun h' hc' hs=>?_)
  obtain⟨oc,hoc,hocd⟩:=id z
  refine h {s with heap:=h'} ⟨I.ok,I.os,I.bare,⟨fun b o e n hb hx=>?_,fun b o e n hb hx=>?_,I.base.free,fun b o e hx=>?_,I.base.tups,I.base.frzs,I.base.tbls⟩,⟨m,hn.sameBut hs (Ne.symm (cne x c hc)),fun j y v' e1 e2 e3=>?_⟩,fun y c' e=>?_,I.free,I.freeC,fun p hp=>?_,tracked ⟨oc,hoc,I.freeC x c hc⟩ hs,by simpa using I.len⟩ ⟨c,hs,.inr hc⟩
  ·exact (hs.2 b (Nat.ne_of_lt (Nat.lt_of_lt_of_le (Heap.lt_size e) (I.ok.cab x c hfn hc)))).trans (I.base.keep b o e n hb hx)
  ·obtain⟨sl,e1⟩:=I.base.slot b o e n hb hx
   exact⟨sl,(hs.2 b (Nat.ne_of_lt (Nat.lt_of_lt_of_le (Heap.lt_size e) (I.ok.cab x c hfn hc)))).trans e1⟩
  ·obtain⟨o',e1⟩:=I.base.there b o e hx
   exact⟨o',(hs.2 b (Nat.ne_of_lt (Nat.lt_of_lt_of_le (Heap.lt_size e) (I.ok.cab x c hfn hc)))).trans e1⟩
  ·by_cases hj:j=i
   ·subst hj
    rw[hi] at e1;cases e1
    rw[List.getElem?_set_self hiσ] at e2
    cases e2
    exact⟨u,r,.inr ⟨.inl hk,c,hc,hc'⟩⟩
   ·rw[List.getElem?_set_ne (Ne.symm hj)] at e2
    obtain⟨u',r',q⟩:=hl j y v' e1 e2 e3
    refine⟨u',r',?_⟩
    rcases q with q|⟨k,c',e,z'⟩
    ·exact .inl q
    ·refine .inr ⟨k,c',e,z'.sameBut hs ?_⟩
     rintro rfl
     exact hj (nodup_ix hN e1 (I.ok.inj _ _ _ e hc ▸ hi))
  ·by_cases hcc:c'=c
   ·subst hcc;exact⟨_,hc'⟩
   ·obtain⟨w2,z2⟩:=I.cell y c' e
    exact⟨w2,z2.sameBut hs hcc⟩
  ·obtain⟨e,n,ne,nf,d⟩:=I.pin p hp
   refine⟨(hs.2 p.1 ?_).trans e,n,ne,nf,d⟩
   intro q
   rw[q,hoc] at e
   have q':oc=p.2:=Option.some.inj e
   exact d w' (by rw[←q'];exact hocd)
theorem store_ok {M:Model} {A:Around} {E:Value→Shared→Prop} {i:Nat} {x:Str} {v:V} {u:Value} {Q:Unit→Shared→Prop} (I:Inv X pins σ H s) (hN:X.N.Nodup) (hi:X.N[i]?=some x) (hx:Loc X.env.scope x) (r:RelV v u)
  (h:∀s',Inv X pins (σ.set i (some v)) H s'→Q () s') (hf:X.fn x=true∨X.env.scope.names.lookup x=some .local:=by first|exact .inl rfl|exact .inr rfl|assumption):wpAny M A (storeName X.env x u) Q E s :=
 store_ok2 I hN hi hx r (fun s' I' _=>h s' I') hf
theorem Inv.call' {s':Shared} {ch:List Addr} (I:Inv X pins σ H s) (ho:s'.os=s.os) (u:Un (frs X.stack) ch H H' s.heap s'.heap) (hok:HOk X.prog X.w H' s'.heap) (hg:AllBare s'.gens)
  (hch:∀b∈ch,(b∈X.ex∨X.s_0.heap.objs.size≤b)∧b≠X.env.locals∧(∀x c,X.env.cells.lookup x=some c→c≠b)∧∀p∈X.pn++pins,p.1≠b):Inv X pins σ H' s':=by
 obtain⟨h',g',d',t',o'⟩:=s'
 have e:o'=s.os:=ho
 subst e
 exact I.call (g':=g') (t':=t') (d':=d') u hok hg hch
end
abbrev XK:=Value→Option Addr→Hp→Prop
abbrev St:=List (Option V)
abbrev VK:=V→Hp→Prop
abbrev TE:=St→Hp→VK→Prop
abbrev TT:=St→Hp→(Bool→Hp→Prop)→Prop
abbrev TA:=St→Hp→(List V→Hp→Prop)→Prop
structure Ends where
 nx:St→Hp→Prop
 rt:VK
 bk:St→Hp→Prop:=fun _ _=>False
 ct:St→Hp→Prop:=fun _ _=>False
abbrev TS:=Ends→St→Hp→Prop
def EP (X:Cx) (pins:List (Addr×Obj)) (σ:St) (Q:VK) (u:Value) (s':Shared):Prop:=∃v H',Inv X pins σ H' s'∧RelV v u∧Q v H'
def TP (X:Cx) (pins:List (Addr×Obj)) (σ:St) (Q:Bool→Hp→Prop) (b:Bool) (s':Shared):Prop:=∃H',Inv X pins σ H' s'∧Q b H'
def AP (X:Cx) (pins:List (Addr×Obj)) (σ:St) (Q:List V→Hp→Prop) (us:List Value) (s':Shared):Prop:=∃vs H',Inv X pins σ H' s'∧Vals vs us∧Q vs H'
def SP (X:Cx) (pins:List (Addr×Obj)) (D:Ends) (f:Flow) (s':Shared):Prop :=
 match f with
 |.next=>∃σ' H',Inv X pins σ' H' s'∧D.nx σ' H'
 |.brk=>∃σ' H',Inv X pins σ' H' s'∧D.bk σ' H'
 |.cont=>∃σ' H',Inv X pins σ' H' s'∧D.ct σ' H'
 |.ret u=>∃v σ' H',Inv X pins σ' H' s'∧RelV v u∧D.rt v H'
def PE (X:Cx) (e:Expr) (t:TE):Prop :=
 ∀(pins:List (Addr×Obj)) (s:Shared) (σ:St) (H:Hp) (Q:VK),Inv X pins σ H s→t σ H Q→wpAny (model X.prog X.w) X.A (eval e X.env) (EP X pins σ Q) X.xe s
def PT (X:Cx) (e:Expr) (t:TT):Prop :=
 ∀(pins:List (Addr×Obj)) (s:Shared) (σ:St) (H:Hp) (Q:Bool→Hp→Prop),Inv X pins σ H s→t σ H Q→wpAny (model X.prog X.w) X.A (isTrue e X.env (eval e X.env)) (TP X pins σ Q) X.xe s
def PW (X:Cx) (e:Expr) (t:TT):Prop :=
 ∀(whole:Sem Value) (pins:List (Addr×Obj)) (s:Shared) (σ:St) (H:Hp) (Q:Bool→Hp→Prop),Inv X pins σ H s→t σ H Q→wpAny (model X.prog X.w) X.A (isTrue e X.env whole) (TP X pins σ Q) X.xe s
theorem PW.pt {X:Cx} {e:Expr} {t:TT} (h:PW X e t):PT X e t:=h _
def PA (X:Cx) (es:List Expr) (t:TA):Prop :=
 ∀(pos:Pos) (pins:List (Addr×Obj)) (s:Shared) (σ:St) (H:Hp) (Q:List V→Hp→Prop),Inv X pins σ H s→t σ H Q→wpAny (model X.prog X.w) X.A (spliced (backTo pos (starEach es X.env))) (AP X pins σ Q) X.xe s
def PS (X:Cx) (st:Stmt) (t:TS):Prop :=
 ∀(pins:List (Addr×Obj)) (s:Shared) (σ:St) (H:Hp) (D:Ends),Inv X pins σ H s→t D σ H→wpAny (model X.prog X.w) X.A (exec st X.env) (SP X pins D) X.xe s
def PSs (X:Cx) (st:List Stmt) (t:TS):Prop :=
 ∀(pins:List (Addr×Obj)) (s:Shared) (σ:St) (H:Hp) (D:Ends),Inv X pins σ H s→t D σ H→wpAny (model X.prog X.w) X.A (execs st X.env) (SP X pins D) X.xe s
theorem thn {α:Type} {t:Sem α} {Q Q':α→Shared→Prop} {M:Model} {A:Around} {E:Value→Shared→Prop} {s:Shared} (h:wpAny M A t Q E s) (hQ:∀a s,Q a s→Q' a s):wpAny M A t Q' E s:=wpAny_mono h hQ fun _ _ x=>x
end L2
namespace L2
open PySem PySem.Spec PyProof.Rows
section
variable {X : Cx}
theorem bin {a b:Expr} {ta tb:TE} (ha:PE X a ta) (hb:PE X b tb) {pins:List (Addr×Obj)} {s:Shared} {σ:St} {H:Hp} {R:V→V→Hp→Prop} (I:Inv X pins σ H s) (h:ta σ H fun x H1=>tb σ H1 fun y H2=>R x y H2)
  {α:Type} {Q:α→Shared→Prop} {f:Value→Value→Sem α}
  (hf:∀v u s2 x y H2,Inv X pins σ H2 s2→RelV x v→RelV y u→R x y H2→wpAny (model X.prog X.w) X.A (f v u) Q X.xe s2) :
  wpAny (model X.prog X.w) X.A (eval a X.env) (fun v s₁=>wpAny (model X.prog X.w) X.A (eval b X.env) (fun u s₂=>wpAny (model X.prog X.w) X.A (f v u) Q X.xe s₂) X.xe s₁) X.xe s:=by
 refine thn (ha pins s σ H _ I h) fun v s1 ⟨x,H1,I1,r1,q1⟩=>?_
 refine thn (hb pins s1 σ H1 _ I1 q1) fun u s2 ⟨y,H2,I2,r2,q2⟩=>?_
 exact hf v u s2 x y H2 I2 r1 r2 q2
def tVar (i:Nat):TE:=fun σ H Q=>∃v,σ[i]?=some (some v)∧Q v H
def tC (v:V):TE:=fun _ H Q=>Q v H
theorem pe_var {i:Nat} {x:Str} {pos:Pos} (hN:X.N[i]?=some x) (hv:Vis X.env.scope x) (hd:(x==("__debug__":Str))=false:=by decide) (hcd:(x==("__classdict__":Str))=false:=by decide):PE X (.Name x pos) (tVar i):=by
 intro pins s σ H Q I h
 obtain⟨v,e,h⟩:=h
 obtain⟨m,hn,hl⟩:=I.loc
 obtain⟨u,r,l⟩:=hl i x v hN e hv
 have fin:EP X pins σ Q u s:=⟨v,H,I,r,h⟩
 rcases l with⟨hk,hm⟩|⟨hk,c,hc,hcell⟩
 ·exact wpAny_Name (wpAny_loadName_local I.ok.kind hk hn hm fin) hd
 ·rcases hk with hk|hk
  ·exact wpAny_Name (wpAny_loadName_cell I.ok.kind hk hc hcell fin) hd
  ·exact wpAny_Name (wpAny_loadName_free I.ok.kind hk hc hcell fin hcd) hd
theorem pe_int {i j pos}:PE X (.Constant (.int i) j pos) (tC (.int i)):=fun _ _ _ H _ I h=>wpAny_Constant_int ⟨.int i,H,I.tok _,⟨_,rfl⟩,h⟩
theorem pe_bl {b j pos}:PE X (.Constant (.bool b) j pos) (tC (.bl b)):=fun _ _ _ H _ I h=>Constant_bool ⟨.bl b,H,I,rfl,h⟩
def Gl (X:Cx) (x:Str):Prop:=X.env.kindOf x=some .globalImplicit
theorem ld_glob {E:Value→Shared→Prop} {pins:List (Addr×Obj)} {s:Shared} {σ:St} {H:Hp} {x:Str} {u:Value} {pos:Pos} {Q:Value→Shared→Prop} (I:Inv X pins σ H s) (hg:Gl X x) (hm:X.mg x=some u) (h:Q u s)
  (hd:(x==("__debug__":Str))=false:=by decide):wpAny (model X.prog X.w) X.A (eval (.Name x pos) X.env) Q E s :=
 Calls.Name_function_global I.ok.kind hg (Calls.loadGlobal_global (by rw[I.ok.glob];exact I.mod.glob.keeps I.bk) hm h) hd
theorem ld_blt {E:Value→Shared→Prop} {pins:List (Addr×Obj)} {s:Shared} {σ:St} {H:Hp} {x:Str} {u:Value} {pos:Pos} {Q:Value→Shared→Prop} (I:Inv X pins σ H s) (hg:Gl X x) (hm:X.mg x=none) (hv:bootBuiltins x=some u) (h:Q u s)
  (hn:x≠"__name__":=by decide) (hd:(x==("__debug__":Str))=false:=by decide):wpAny (model X.prog X.w) X.A (eval (.Name x pos) X.env) Q E s:=by
 obtain⟨mb,h1,h2⟩:=I.mod.blt
 exact Calls.Name_function_global I.ok.kind hg (Calls.loadGlobal_builtin (by rw[I.ok.glob];exact I.mod.glob.keeps I.bk) hm (by rw[I.ok.blt];exact h1.keeps I.bk) ((h2 x hn).trans hv) h) hd
theorem pe_glob {x:Str} {v:V} {u:Value} {pos:Pos} (hg:Gl X x) (hm:X.mg x=some u) (r:RelV v u) (hd:(x==("__debug__":Str))=false:=by decide):PE X (.Name x pos) (tC v) :=
 fun _ _ _ H _ I h=>ld_glob I hg hm ⟨v,H,I,r,h⟩ hd
variable {a b : Expr} {ta tb : TE} {pos : Pos}
def PC (X:Cx) (op:CmpOp) (a b:Expr) (t:TE):Prop :=
 ∀(pins:List (Addr×Obj)) (s:Shared) (σ:St) (H:Hp) (Q:VK),Inv X pins σ H s→t σ H Q →
  wpAny (model X.prog X.w) X.A (eval a X.env) (fun v s₁=>wpAny (model X.prog X.w) X.A (eval b X.env) (fun u s₂=>wpAny (model X.prog X.w) X.A (compareOp op v u) (EP X pins σ Q) X.xe s₂) X.xe s₁) X.xe s
theorem nobehind (b:Expr) {op:CmpOp} (h:op≠.In) (h2:op≠.NotIn):behindInMarks op b=false:=by
 have e1:(op==CmpOp.In)=false:=by cases op<;>first|rfl|exact absurd rfl h
 have e2:(op==CmpOp.NotIn)=false:=by cases op<;>first|rfl|exact absurd rfl h2
 cases b<;>simp [behindInMarks,e1,e2]
def tB (t:TE):TT:=fun σ H Q=>t σ H fun x H1=>∃c,x=.bl c∧Q c H1
theorem pt_cmp {op:CmpOp} {t:TE} (h:PC X op a b t) (h1:behindInMarks op b=false:=by first|exact nobehind _ (by decide) (by decide)|rfl):PT X (.Compare a [op] [b] pos) (tB t):=by
 intro pins s σ H Q I hw
 refine wpAny_isTrue_Compare1 (thn (h pins s σ H _ I hw) fun v s1 h1=>thn h1 fun u s2 h2=>thn h2 fun c s3 ⟨x,H1,I1,r1,q1⟩=>?_) h1
 obtain⟨d,rfl,q⟩:=q1
 cases r1
 exact wpAny_truthy_bool ⟨H1,I1,q⟩
theorem pt_val {e:Expr} {t:TE} (h:PE X e t) (he:∀whole,isTrue e X.env whole=(do let v ←whole;standAt e.pos;holding [v] (truthy v)):=by intro _;rfl):PT X e (tB t):=by
 intro pins s σ H Q I hw
 refine isTrue_plain (thn (h pins s σ H _ I hw) fun v s1 ⟨x,H1,I1,r1,q1⟩=>?_) (he _)
 obtain⟨d,rfl,q⟩:=q1
 cases r1
 exact wpAny_truthy_bool ⟨H1,I1,q⟩
variable {tA tB' : TT} {rest : List Expr}
def tAnd (t u:TT):TT:=fun σ H Q=>t σ H fun c H1=>if c=true then u σ H1 Q else Q false H1
def tOr (t u:TT):TT:=fun σ H Q=>t σ H fun c H1=>if c=true then Q true H1 else u σ H1 Q
def tNot (t:TT):TT:=fun σ H Q=>t σ H fun c H1=>Q (!c) H1
theorem pw_and1 (ha:PT X a tA):PW X (.BoolOp .And [a] pos) tA:=by
 intro wh pins s σ H Q I h
 refine isTrue_and (thn (ha pins s σ H Q I h) fun c s1 e=>?_)
 cases c with
 |true=>exact isTrue_and_nil e
 |false=>exact e
theorem pw_or1 (ha:PT X a tA):PW X (.BoolOp .Or [a] pos) tA:=by
 intro wh pins s σ H Q I h
 refine isTrue_or (thn (ha pins s σ H Q I h) fun c s1 e=>?_)
 cases c with
 |false=>exact isTrue_or_nil e
 |true=>exact e
theorem pw_and (ha:PT X a tA) (hb:PW X (.BoolOp .And (b::rest) pos) tB'):PW X (.BoolOp .And (a::b::rest) pos) (tAnd tA tB'):=by
 intro wh pins s σ H Q I h
 refine isTrue_and (thn (ha pins s σ H _ I h) fun c s1 ⟨H1,I1,q1⟩=>?_)
 cases c with
 |true=>exact hb wh pins s1 σ H1 Q I1 q1
 |false=>exact⟨H1,I1,q1⟩
theorem pw_or (ha:PT X a tA) (hb:PW X (.BoolOp .Or (b::rest) pos) tB'):PW X (.BoolOp .Or (a::b::rest) pos) (tOr tA tB'):=by
 intro wh pins s σ H Q I h
 refine isTrue_or (thn (ha pins s σ H _ I h) fun c s1 ⟨H1,I1,q1⟩=>?_)
 cases c with
 |true=>exact⟨H1,I1,q1⟩
 |false=>exact hb wh pins s1 σ H1 Q I1 q1
theorem pt_not (ha:PT X a tA):PT X (.UnaryOp .Not a pos) (tNot tA):=by
 intro pins s σ H Q I h
 exact isTrue_not (ha pins s σ H (fun c H1=>Q (!c) H1) I h)
def tAndV (ta tb:TE):TE:=fun σ H Q=>ta σ H fun x H1=>∃c,x=.bl c∧if c=true then tb σ H1 Q else Q (.bl false) H1
def tNotV (ta:TE):TE:=fun σ H Q=>ta σ H fun x H1=>∃c,x=.bl c∧Q (.bl (!c)) H1
theorem pe_one {op} {t:TE} (h:PE X a t):PE X (.BoolOp op [a] pos) t:=fun pins s σ H Q I hw=>BoolOp_one (h pins s σ H Q I hw)
theorem pe_and (ha:PE X a ta) (hb:PE X (.BoolOp .And (b::rest) pos) tb):PE X (.BoolOp .And (a::b::rest) pos) (tAndV ta tb):=by
 intro pins s σ H Q I h
 refine BoolOp_and (thn (ha pins s σ H _ I h) fun v s1 ⟨x,H1,I1,r1,q1⟩=>?_)
 obtain⟨c,rfl,q1⟩:=q1
 cases r1
 refine wpAny_truthy_bool ?_
 cases c with
 |true=>exact hb pins s1 σ H1 Q I1 q1
 |false=>exact⟨.bl false,H1,I1,rfl,q1⟩
theorem pe_not (ha:PE X a ta):PE X (.UnaryOp .Not a pos) (tNotV ta):=by
 intro pins s σ H Q I h
 refine UnaryOp_ (thn (ha pins s σ H _ I h) fun v s1 ⟨x,H1,I1,r1,q1⟩=>?_)
 obtain⟨c,rfl,q1⟩:=q1
 cases r1
 exact not_of (wpAny_truthy_bool ⟨.bl (!c),H1,I1,rfl,q1⟩)
def tIf (t:TT) (ta tb:TE):TE:=fun σ H Q=>t σ H fun c H1=>if c=true then ta σ H1 Q else tb σ H1 Q
theorem pe_ifExp {c:Expr} (hc:PT X c tA) (ha:PE X a ta) (hb:PE X b tb):PE X (.IfExp c a b pos) (tIf tA ta tb):=by
 intro pins s σ H Q I h
 refine wpAny_IfExp (thn (hc pins s σ H _ I h) fun d s1 ⟨H1,I1,q1⟩=>?_)
 cases d with
 |true=>exact ha pins s1 σ H1 Q I1 q1
 |false=>exact hb pins s1 σ H1 Q I1 q1
end
end L2
namespace L2
open PySem PySem.Spec PyProof.Rows
def SqL (K:PySem.W.Frag) (H:Hp) (a:Addr) (xs:List V):Prop :=
 Rd H a (.lst xs) ∨
  ∃(o:Obj) (its:Array Value) (n:Nat),K.lookup a=some o∧o.cls=.type "list"∧o.dict=none∧o.data=.seq its n∧its.size≤sizeLine∧Vals xs its.toList
def SqT (K:PySem.W.Frag) (H:Hp) (a:Addr) (xs:List V):Prop :=
 Rd H a (.tup xs) ∨
  ∃(o:Obj) (its:Array Value) (n:Nat),K.lookup a=some o∧o.cls=.type "tuple"∧o.data=.seq its n∧its.size≤sizeLine∧Vals xs its.toList
def absV:Value→Option V
 |.none=>some .non
 |.bool b=>some (.bl b)
 |.int i _=>some (.int i)
 |.str x _=>some (.str x)
 |.bytes b _=>some (.byt b)
 |.float b _=>some (.flt b)
 |.ref a=>some (.ref a)
 |.type n=>some (.ty n)
 |_=>none
theorem RelV.abs {x:V} {u:Value} (r:RelV x u):absV u=some x:=by
 cases x with
 |non=>cases r;rfl
 |bl _=>cases r;rfl
 |int _=>obtain⟨t,rfl⟩:=r;rfl
 |str _=>obtain⟨t,rfl⟩:=r;rfl
 |byt _=>obtain⟨t,rfl⟩:=r;rfl
 |flt _=>obtain⟨t,rfl⟩:=r;rfl
 |ref _=>cases r;rfl
 |ty _=>cases r;rfl
theorem RelV.inj {x y:V} {u:Value} (r:RelV x u) (q:RelV y u):x=y:=Option.some.inj (r.abs.symm.trans q.abs)
theorem Vals.inj:∀{xs ys:List V} {us:List Value},Vals xs us→Vals ys us→xs=ys
 |_,_,_,.nil,.nil=>rfl
 |_,_,_,.cons r t,.cons r' t'=>by rw[r.inj r',Vals.inj t t']
section
variable {X : Cx} {pins : List (Addr × Obj)} {σ : St} {H : Hp} {s : Shared} {a : Addr} {xs ys : List V}
theorem SqL.of {K:PySem.W.Frag} (h:H a=some (.lst xs)):SqL K H a xs:=.inl (.inl h)
theorem SqT.of {K:PySem.W.Frag} (h:H a=some (.tup xs)):SqT K H a xs:=.inl (.inl h)
theorem Inv.list (I:Inv X pins σ H s) (h:SqL X.K H a xs):∃its:List Value,Vals xs its∧PlainL s.heap a its.toArray∧xs.length≤sizeLine:=by
 rcases h with h|⟨o,its,n,hk,hc,hd,hs,hz,r⟩
 ·obtain⟨z,its,n,r,e⟩:=h.ok I.hok
  exact⟨its,r,⟨_,n,e,rfl,rfl,rfl⟩,z⟩
 ·refine⟨its.toList,r,⟨o,n,I.kIn a o hk,hc,hd,by simpa using hs⟩,?_⟩
  have e:=r.length
  simp only [Array.length_toList] at e
  omega
theorem Inv.tuple (I:Inv X pins σ H s) (h:SqT X.K H a xs):∃its:List Value,Vals xs its∧IsTup s.heap a its.toArray∧xs.length≤sizeLine:=by
 rcases h with h|⟨o,its,n,hk,hc,hs,hz,r⟩
 ·obtain⟨z,its,r,p⟩:=h.ok I.hok
  exact⟨its,r,p,z⟩
 ·refine⟨its.toList,r,⟨o,I.kIn a o hk,hc,n,by simpa using hs⟩,?_⟩
  have e:=r.length
  simp only [Array.length_toList] at e
  omega
theorem Inv.list_inj (I:Inv X pins σ H s) (h:SqL X.K H a xs) (h':SqL X.K H a ys):xs=ys:=by
 obtain⟨its,r,⟨o,n,e,_,_,d⟩,_⟩:=I.list h
 obtain⟨its',r',⟨o',n',e',_,_,d'⟩,_⟩:=I.list h'
 rw[e] at e';cases e'
 rw[d] at d'
 injection d' with d1 _
 have:its=its':=by simpa using congrArg Array.toList d1
 subst this
 exact r.inj r'
end
abbrev Cx.wish (X:Cx) (E:Value→Shared→Prop):Cx:={X with xe:=E}
abbrev Cx.nox (X:Cx):Cx:=X.wish fun _ _=>False
theorem Cx.Ok.wish {X:Cx} (ok:X.Ok) (E:Value→Shared→Prop):(X.wish E).Ok :=
 ⟨ok.mod,ok.kind,ok.glob,ok.blt,ok.above,ok.inj,ok.has,ok.cab,ok.hd,ok.frames,ok.stk,ok.exf,ok.bs,ok.bsz,ok.noex,ok.exfs,ok.funs,ok.frf⟩
theorem Cx.Ok.unwish {X:Cx} {E:Value→Shared→Prop} (ok:(X.wish E).Ok):X.Ok :=
 ⟨ok.mod,ok.kind,ok.glob,ok.blt,ok.above,ok.inj,ok.has,ok.cab,ok.hd,ok.frames,ok.stk,ok.exf,ok.bs,ok.bsz,ok.noex,ok.exfs,ok.funs,ok.frf⟩
section
variable {X : Cx} {pins : List (Addr × Obj)} {σ : St} {H : Hp} {s : Shared} {E : Value → Shared → Prop}
theorem Inv.wish (I:Inv X pins σ H s) (E:Value→Shared→Prop):Inv (X.wish E) pins σ H s:=⟨I.ok.wish E,I.os,I.bare,I.base,I.loc,I.cell,I.free,I.freeC,I.pin,I.hok,I.len⟩
theorem Inv.unwish (I:Inv (X.wish E) pins σ H s):Inv X pins σ H s:=⟨I.ok.unwish,I.os,I.bare,I.base,I.loc,I.cell,I.free,I.freeC,I.pin,I.hok,I.len⟩
theorem SP.unwish {D:Ends} {f:Flow} {s':Shared} (h:SP (X.wish E) pins D f s'):SP X pins D f s':=by
 cases f with
 |next=>obtain⟨σ',H',I,q⟩:=h;exact⟨σ',H',I.unwish,q⟩
 |brk=>obtain⟨σ',H',I,q⟩:=h;exact⟨σ',H',I.unwish,q⟩
 |cont=>obtain⟨σ',H',I,q⟩:=h;exact⟨σ',H',I.unwish,q⟩
 |ret u=>obtain⟨v,σ',H',I,r,q⟩:=h;exact⟨v,σ',H',I.unwish,r,q⟩
theorem PSs.nox {st:List Stmt} {t:TS} (h:PSs X.nox st t):PSs X st t:=fun pins s σ H D I hw =>
 wpAny_mono (h pins s σ H D (I.wish _) hw) (fun _ _ q=>q.unwish) fun _ _ z=>False.elim z
end
section
variable {X : Cx} {st : Stmt} {rest : List Stmt} {t u : TS} {e : Expr} {te : TE} {pos : Pos}
def tNext:TS:=fun D σ H=>D.nx σ H
def tSeq (t u:TS):TS:=fun D σ H=>t {D with nx:=u D} σ H
theorem pss_nil:PSs X [] tNext:=fun _ _ σ H _ I h=>wpAny_execs_nil ⟨σ,H,I,h⟩
theorem pss_cons (h1:PS X st t) (h2:PSs X rest u):PSs X (st::rest) (tSeq t u):=by
 intro pins s σ H D I h
 refine wpAny_execs_cons (thn (h1 pins s σ H {D with nx:=u D} I h) fun f s1 q=>?_)
 cases f with
 |next =>
  obtain⟨σ',H',I',q⟩:=q
  exact h2 pins s1 σ' H' D I' q
 |ret v=>exact q
 |brk=>exact q
 |cont=>exact q
theorem pss_one (h1:PS X st t):PSs X [st] t:=by
 intro pins s σ H D I h
 refine wpAny_execs_cons (thn (h1 pins s σ H D I h) fun f s1 q=>?_)
 cases f with
 |next=>exact wpAny_execs_nil q
 |ret v=>exact q
 |brk=>exact q
 |cont=>exact q
theorem Inv.quiet {pins:List (Addr×Obj)} {σ:St} {H:Hp} {s:Shared} (I:Inv X pins σ H s):interactive X.env=false:=by simp [interactive,I.ok.kind]
def tDrop (te:TE):TS:=fun D σ H=>te σ H fun _ H1=>D.nx σ H1
theorem ps_expr (he:PE X e te) (hs:swapsWith e none pos.line X.env=pure false:=by rfl):PS X (.Expr e pos) (tDrop te):=by
 intro pins s σ H D I h
 exact wpAny_Expr_any (thn (he pins s σ H _ I h) fun v s1 ⟨x,H1,I1,r1,q1⟩=>⟨σ,H1,I1,q1⟩) I.quiet hs
def tRet (te:TE):TS:=fun D σ H=>te σ H D.rt
theorem ps_ret (he:PE X e te):PS X (.Return (some e) pos) (tRet te):=by
 intro pins s σ H D I h
 exact wpAny_Return_some (thn (he pins s σ H _ I h) fun v s1 ⟨x,H1,I1,r1,q1⟩=>⟨x,σ,H1,I1,r1,q1⟩)
def tIfS (c:TT) (t u:TS):TS:=fun D σ H=>c σ H fun b H1=>if b=true then t D σ H1 else u D σ H1
theorem ps_if {c:Expr} {a b:List Stmt} {tc:TT} (hc:PT X c tc) (ha:PSs X a t) (hb:PSs X b u):PS X (.If c a b pos) (tIfS tc t u):=by
 intro pins s σ H D I h
 refine wpAny_If (thn (hc pins s σ H _ I h) fun d s1 ⟨H1,I1,q1⟩=>?_)
 cases d with
 |true=>exact ha pins s1 σ H1 D I1 q1
 |false=>exact hb pins s1 σ H1 D I1 q1
end
abbrev TG:=V→St→Hp→(St→Hp→Prop)→Prop
abbrev TGs:=List V→St→Hp→(St→Hp→Prop)→Prop
def PG (X:Cx) (target:Expr) (t:TG):Prop :=
 ∀(pins:List (Addr×Obj)) (s:Shared) (σ:St) (H:Hp) (v:V) (u:Value) (Q:St→Hp→Prop),Inv X pins σ H s→RelV v u→t v σ H Q →
  wpAny (model X.prog X.w) X.A (assign target X.env u) (fun _ s'=>∃σ' H',Inv X pins σ' H' s'∧Q σ' H') X.xe s
def PGs (X:Cx) (ts:List Expr) (t:TGs):Prop :=
 ∀(pins:List (Addr×Obj)) (s:Shared) (σ:St) (H:Hp) (vs:List V) (us:List Value) (Q:St→Hp→Prop),Inv X pins σ H s→Vals vs us→t vs σ H Q →
  wpAny (model X.prog X.w) X.A (assignInOrder ((assignEach ts X.env).map (·.2)) us) (fun _ s'=>∃σ' H',Inv X pins σ' H' s'∧Q σ' H') X.xe s
abbrev TSet:=V→V→V→Hp→(Hp→Prop)→Prop
def PSet (X:Cx) (t:TSet):Prop :=
 ∀(pins:List (Addr×Obj)) (s:Shared) (σ:St) (H:Hp) (o i v:V) (ov iv u:Value) (Q:Hp→Prop),Inv X pins σ H s→RelV o ov→RelV i iv→RelV v u→t o i v H Q →
  wpAny (model X.prog X.w) X.A (setItem ov iv u) (fun _ s'=>∃H',Inv X pins σ H' s'∧Q H') X.xe s
abbrev TIp:=V→V→Hp→VK→Prop
def PIp (X:Cx) (op:Operator) (t:TIp):Prop :=
 ∀(pins:List (Addr×Obj)) (s:Shared) (σ:St) (H:Hp) (x y:V) (v u:Value) (Q:VK),Inv X pins σ H s→RelV x v→RelV y u→t x y H Q →
  wpAny (model X.prog X.w) X.A (inplaceOp op v u) (EP X pins σ Q) X.xe s
section
variable {X : Cx} {pos : Pos}
def gName (i:Nat):TG:=fun v σ H Q=>Q (σ.set i (some v)) H
theorem pg_name {i:Nat} {x:Str} (hN:X.N.Nodup) (hi:X.N[i]?=some x) (hx:Loc X.env.scope x) (hf:X.fn x=true∨X.env.scope.names.lookup x=some .local:=by first|exact .inl rfl|exact .inr rfl|assumption):PG X (.Name x pos) (gName i):=by
 intro pins s σ H v u Q I r h
 exact wpAny_assign_Name (store_ok I hN hi hx r (fun s' I'=>⟨_,H,I',h⟩) hf)
def gNil:TGs:=fun vs σ H Q=>vs=[]∧Q σ H
def gCons (t:TG) (u:TGs):TGs:=fun vs σ H Q=>∃v r,vs=v::r∧t v σ H fun σ' H'=>u r σ' H' Q
theorem pgs_nil:PGs X [] gNil:=by
 intro pins s σ H vs us Q I r h
 obtain⟨e,h⟩:=h
 subst e
 cases r
 exact assignInOrder_nil ⟨σ,H,I,h⟩
theorem pgs_cons {e:Expr} {es:List Expr} {t:TG} {u:TGs} (h1:PG X e t) (h2:PGs X es u)
  (hs:(assignEach (e::es) X.env).map (·.2)=assign e X.env::(assignEach es X.env).map (·.2):=by rfl):PGs X (e::es) (gCons t u):=by
 intro pins s σ H vs us Q I r h
 obtain⟨v,vr,e1,h⟩:=h
 subst e1
 cases r with
 |cons r rr =>
  rw[hs]
  refine assignInOrder_cons (thn (h1 pins s σ H _ _ _ I r h) fun _ s1 ⟨σ1,H1,I1,q1⟩=>?_)
  exact h2 pins s1 σ1 H1 _ _ Q I1 rr q1
def gTup (K:PySem.W.Frag) (n:Nat) (t:TGs):TG:=fun v σ H Q=>∃a xs,v=.ref a∧SqT K H a xs∧xs.length=n∧t xs σ H Q
theorem pg_tup {es:List Expr} {k:Nat} {t:TGs} {n:Nat} (hc:X.calm=true) (h:PGs X es t)
  (hn:(assignEach es X.env).length=n:=by rfl) (hst:(assignEach es X.env).findIdx? (·.1)=none:=by rfl):PG X (.Tuple es k pos) (gTup X.K n t):=by
 intro pins s σ H v u Q I r hw
 obtain⟨a,xs,e1,hq,hl,hw⟩:=hw
 subst e1
 cases r
 obtain⟨its,rv,ht,hz⟩:=I.tuple hq
 refine assign_Tuple_tuple (I.ok.hd hc) ht (by simp [hn,←hl,rv.length]) hst fun h' hx=>?_
 have I1:Inv X pins σ H {s with heap:=h'}:=I.kept (t':=s.toks) fun b o e=>hx b o (Nat.ne_of_lt (Heap.lt_size e)) e
 exact h pins _ σ H xs _ Q I1 (by simpa using rv) hw
def gSub (to ti:TE) (t:TSet):TG:=fun v σ H Q=>to σ H fun o H1=>ti σ H1 fun i H2=>t o i v H2 fun H3=>Q σ H3
theorem pg_sub {o i:Expr} {to ti:TE} {t:TSet} (ho:PE X o to) (hi:PE X i ti) (hs:PSet X t)
  (ha:∀v,assign (.Subscript o i pos) X.env v=(do
   let ov ←holding [v] (eval o X.env)
   let iv ←holding [v,ov] (eval i X.env)
   standAt pos
   holding [v,ov,iv] (setItem ov iv v)
   release [v,ov,iv] []):=by intro _;rfl):PG X (.Subscript o i pos) (gSub to ti t):=by
 intro pins s σ H v u Q I r h
 rw[ha]
 refine wpAny_bind (wpAny_holding (thn (ho pins s σ H _ I h) fun ov s1 ⟨x,H1,I1,r1,q1⟩=>?_))
 refine wpAny_bind (wpAny_holding (thn (hi pins s1 σ H1 _ I1 q1) fun iv s2 ⟨y,H2,I2,r2,q2⟩=>?_))
 refine wpAny_bind (wpAny_standAt (wpAny_bind (wpAny_holding (thn (hs pins s2 σ H2 x y v ov iv u _ I2 r1 r2 r q2) fun _ s3 ⟨H3,I3,q3⟩=>?_))))
 exact wpAny_release ⟨σ,H3,I3,q3⟩
def tAsg (te:TE) (g:TG):TS:=fun D σ H=>te σ H fun x H1=>g x σ H1 D.nx
theorem ps_asg {tg e:Expr} {te:TE} {g:TG} (he:PE X e te) (hg:PG X tg g) (hs:swapsWithSole [tg] e pos.line X.env=pure false:=by rfl) (hw:swappedStores [tg] e X.env=pure none:=by rfl)
  (h1:(assignEach [tg] X.env).map (·.2)=[assign tg X.env]:=by rfl):PS X (.Assign [tg] e pos) (tAsg te g):=by
 intro pins s σ H D I h
 refine wpAny_Assign_stores (thn (he pins s σ H _ I h) fun v s1 ⟨x,H1,I1,r1,q1⟩=>?_) hs hw
 rw[h1]
 exact thn (hg pins s1 σ H1 x v _ I1 r1 q1) fun _ s2 q=>q
theorem ps_set {i:Nat} {x:Str} {e:Expr} {te:TE} {pos':Pos} (hN:X.N.Nodup) (hi:X.N[i]?=some x) (hx:Loc X.env.scope x) (he:PE X e te) (hs:swapsWith e (some (.Name x pos')) pos.line X.env=pure false:=by rfl) (hf:X.fn x=true∨X.env.scope.names.lookup x=some .local:=by first|exact .inl rfl|exact .inr rfl|assumption) :
  PS X (.Assign [.Name x pos'] e pos) (tAsg te (gName i)):=by
 intro pins s σ H D I h
 refine wpAny_Assign_Name (thn (he pins s σ H _ I h) fun v s1 ⟨y,H1,I1,r1,q1⟩=>?_) hs
 exact store_ok I1 hN hi hx r1 (fun s2 I2=>⟨_,H1,I2,q1⟩) hf
def tAug (i:Nat) (te:TE) (ti:TIp):TS:=fun D σ H=>∃x,σ[i]?=some (some x)∧te σ H fun y H1=>ti x y H1 fun z H2=>D.nx (σ.set i (some z)) H2
theorem ps_aug {i:Nat} {x:Str} {e:Expr} {te:TE} {op:Operator} {ti:TIp} {pos':Pos} (hN:X.N.Nodup) (hi:X.N[i]?=some x) (hx:Loc X.env.scope x) (he:PE X e te) (ho:PIp X op ti) (hf:X.fn x=true∨X.env.scope.names.lookup x=some .local:=by first|exact .inl rfl|exact .inr rfl|assumption) :
  PS X (.AugAssign (.Name x pos') op e pos) (tAug i te ti):=by
 intro pins s σ H D I h
 obtain⟨v,e1,h⟩:=h
 obtain⟨m,hn,hl⟩:=I.loc
 have vis:Vis X.env.scope x:=by rcases hx with k|k;exact .inl k;exact .inr (.inl k)
 obtain⟨u,r,l⟩:=hl i x v hi e1 vis
 refine wpAny_AugAssign_Name ?_
 have go:wpAny (model X.prog X.w) X.A (eval e X.env) (fun w s₂=>wpAny (model X.prog X.w) X.A (inplaceOp op u w) (fun r s₃=>wpAny (model X.prog X.w) X.A (storeName X.env x r) (fun _=>SP X pins D .next) X.xe s₃) X.xe s₂) X.xe s:=by
  refine thn (he pins s σ H _ I h) fun w s1 ⟨y,H1,I1,r1,q1⟩=>?_
  refine thn (ho pins s1 σ H1 v y u w _ I1 r r1 q1) fun z s2 ⟨zv,H2,I2,r2,q2⟩=>?_
  exact store_ok I2 hN hi hx r2 (fun s3 I3=>⟨_,H2,I3,q2⟩) hf
 rcases l with⟨hk,hm⟩|⟨hk,c,hc,hcell⟩
 ·exact wpAny_loadName_local I.ok.kind hk hn hm go
 ·rcases hk with hk|hk
  ·exact wpAny_loadName_cell I.ok.kind hk hc hcell go
  ·rcases hx with k|k
   ·have:X.env.scope.names.lookup x=some .free:=hk
    rw[k] at this;cases this
   ·have:X.env.scope.names.lookup x=some .free:=hk
    rw[k] at this;cases this
def ipI (f:Int→Int→Int):TIp:=fun x y H Q=>∃i j,x=.int i∧y=.int j∧Q (.int (f i j)) H
theorem ip_add:PIp X .Add (ipI fun i j=>i+j):=by
 intro pins s σ H x y v u Q I r1 r2 h
 obtain⟨i,j,e1,e2,q⟩:=h
 subst e1;subst e2
 obtain⟨t,rfl⟩:=r1
 obtain⟨t',rfl⟩:=r2
 exact iadd_int ⟨.int _,H,I.tok _,⟨_,rfl⟩,q⟩
end
section
variable {X : Cx} {pos : Pos}
def tWhile (c:TT) (tb:TS):TS:=fun D σ H=>∃W:Nat→St→Hp→Prop,(∃m,W m σ H)∧∀m σ H,W m σ H →
 c σ H fun b H1=>if b=true then ∃N:St→Hp→Prop,(∀σ' H',N σ' H'→∃m',m'<m∧W m' σ' H')∧tb {D with nx:=N,ct:=N,bk:=D.nx} σ H1 else D.nx σ H1
theorem ps_while {c:Expr} {body:List Stmt} {tc:TT} {tb:TS} (hp:PassesOwn (model X.prog X.w) X.A X.env X.xe) (hc:PT X c tc) (hb:PSs X body tb):PS X (.While c body [] pos) (tWhile tc tb):=by
 intro pins s σ H D I h
 obtain⟨W,⟨m0,w0⟩,turn⟩:=h
 refine wpAny_While (codeAny_whileLoop (fun n s'=>∃σ' H',Inv X pins σ' H' s'∧W n σ' H') ?_ m0 ⟨σ,H,I,w0⟩)
 rintro n s1 ⟨σ1,H1,I1,w1⟩
 refine wpAny_passesOwn hp (thn (hc pins s1 σ1 H1 _ I1 (turn n σ1 H1 w1)) fun b s2 ⟨H2,I2,q2⟩=>?_)
 cases b with
 |true =>
  obtain⟨N,hN,q2⟩:=q2
  rw[if_pos rfl]
  refine wpAny_passesOwn hp (thn (hb pins s2 σ1 H2 _ I2 q2) fun f s3 q3=>?_)
  cases f with
  |next =>
   obtain⟨σ3,H3,I3,n3⟩:=q3
   obtain⟨m',hm,w3⟩:=hN σ3 H3 n3
   exact⟨m',hm,σ3,H3,I3,w3⟩
  |cont =>
   obtain⟨σ3,H3,I3,n3⟩:=q3
   obtain⟨m',hm,w3⟩:=hN σ3 H3 n3
   exact⟨m',hm,σ3,H3,I3,w3⟩
  |brk=>exact q3
  |ret v=>exact q3
 |false =>
  rw[if_neg Bool.false_ne_true]
  exact wpAny_execs_nil ⟨σ1,H2,I2,q2⟩
end
structure It where
 go:Nat→Hp→Prop
 yld:Nat→Hp→V→Hp→Prop
 stop:Nat→Hp→Prop
def FpOk (X:Cx) (pins:List (Addr×Obj)) (H:Hp) (b:Addr):Prop :=
 H b=none∧b≠X.env.locals∧b∉X.fs∧(b∈X.ex∨X.s_0.heap.objs.size≤b)∧(∀x c,X.env.cells.lookup x=some c→c≠b)∧∀p∈X.pn++pins,p.1≠b
theorem Inv.fpOk {X:Cx} {pins:List (Addr×Obj)} {σ:St} {H H':Hp} {s:Shared} {b:Addr} (I:Inv X pins σ H s) (hb:s.heap.objs.size≤b) (hn:H' b=none):FpOk X pins H' b:=by
 refine⟨hn,Nat.ne_of_gt (Nat.lt_of_lt_of_le I.lt hb),I.nofs hb,.inr (Nat.le_trans I.sz hb),fun x c e z=>?_,fun p hp z=>?_⟩
 ·obtain⟨v,q⟩:=I.cell x c e
  exact absurd (Nat.lt_of_lt_of_le q.lt (by rw[z];exact hb)) (Nat.lt_irrefl _)
 ·exact absurd (Nat.lt_of_lt_of_le (Heap.lt_size (I.pin p hp).1) (by rw[z];exact hb)) (Nat.lt_irrefl _)
structure Turn (P:Program) (w:World) (K:PySem.W.Frag) (tg:Expr) (J:It) (fp:List Addr) (it:Addr) (tn:Nat→Heap→Prop):Prop where
 mem:it∈fp
 obj:∀i h,tn i h→∀b∈fp,∃o,h.get? b=some o∧∀v,o.data≠.cell v
 keep:∀i h h',tn i h→(∀b∈fp,∀o,h.get? b=some o→h'.get? b=some o)→tn i h'
 item:∀(X:Cx),X.prog=P→X.w=w→X.K=K→X.calm=true→∀(i:Nat) (pins:List (Addr×Obj)) (s:Shared) (σ:St) (H:Hp) (E:Value→Shared→Prop),Inv X pins σ H s→(∀b∈fp,FpOk X pins H b)→tn i s.heap→J.go i H →
  wpAny (model P w) X.A (pyNext (.ref it)) (fun r s1=>∃u,r=some u ∧
   wpAny (model P w) X.A (letOwnedTupleGo tg (.ref it) u) (fun _ s2=>∃x H',Inv X pins σ H' s2∧RelV x u∧J.yld i H x H'∧tn (i+1) s2.heap∧∀b∈fp,H' b=none) E s1) E s
 done:∀(X:Cx),X.prog=P→X.w=w→X.K=K→X.calm=true→∀(i:Nat) (pins:List (Addr×Obj)) (s:Shared) (σ:St) (H:Hp) (E:Value→Shared→Prop),Inv X pins σ H s→(∀b∈fp,FpOk X pins H b)→tn i s.heap→J.stop i H →
  wpAny (model P w) X.A (pyNext (.ref it)) (fun r s1=>r=none∧Inv X pins σ H s1) E s
 self:∀(A:Around) (i:Nat) (s:Shared) (Q:Value→Shared→Prop) (E:Value→Shared→Prop),tn i s.heap→Q (.ref it) s→wpAny (model P w) A (pyIter (.ref it)) Q E s
abbrev TI:=St→Hp→(It→Hp→Prop)→Prop
def PIE (X:Cx) (pins:List (Addr×Obj)) (σ:St) (tg:Expr) (R:It→Hp→Prop) (itv:Value) (s2:Shared):Prop :=
 ∃(it:Addr) (fp:List Addr) (tn:Nat→Heap→Prop) (J:It) (H':Hp),itv=.ref it∧Inv X pins σ H' s2∧Turn X.prog X.w X.K tg J fp it tn∧tn 0 s2.heap∧(∀b∈fp,FpOk X pins H' b)∧R J H'
def PI (X:Cx) (tg iter:Expr) (wi:TI):Prop :=
 ∀(pins:List (Addr×Obj)) (s:Shared) (σ:St) (H:Hp) (R:It→Hp→Prop),Inv X pins σ H s→wi σ H R →
  wpAny (model X.prog X.w) X.A (eval iter X.env) (fun v s1=>wpAny (model X.prog X.w) X.A (pyIter v) (PIE X pins σ tg R) X.xe s1) X.xe s
theorem go_of {M:Model} {A:Around} {E:Value→Shared→Prop} {s:Shared} {tg:Expr} {it:Addr} {u:Value} {o:Obj} {n:String} {vs:Array Value} {Q:Unit→Shared→Prop} (ho:s.heap.get? it=some o) (hc:o.cls=.type n) (hd:o.data=.fields vs)
    (hn:["enumerate","zip","dict_itemiterator","dict_reverseitemiterator","odict_iterator","itertools.zip_longest","itertools.pairwise"].contains n=false) (hQ:Q () s):wpAny M A (letOwnedTupleGo tg (.ref it) u) Q E s:=by
  unfold letOwnedTupleGo
  cases tg<;>first
    | exact wpAny_pure hQ
    | (cases u<;>first
        | exact wpAny_pure hQ
        | (refine wpAny_bind (wpAny_load ho ?_)
           rw[hc,hd]
           show wpAny M A (if (["enumerate","zip","dict_itemiterator","dict_reverseitemiterator","odict_iterator","itertools.zip_longest","itertools.pairwise"].contains n&&vs[0]?==some (rawInt _))=true then _ else _) Q E s
           rw[if_neg (by intro h;rw[hn,Bool.false_and] at h;cases h)]
           exact wpAny_pure hQ))
def Itl (K:PySem.W.Frag) (a:Addr):It :=
 ⟨fun i H=>∃xs x,SqL K H a xs∧xs[i]?=some x,fun i H x H'=>H'=H∧∀xs,SqL K H a xs→xs[i]?=some x,fun i H=>∃xs,SqL K H a xs∧xs.length≤i⟩
def Itr (lo:Int) (n:Nat):It:=⟨fun i _=>i<n,fun i H x H'=>H'=H∧x=.int (lo+i),fun i _=>n≤i⟩
theorem turn_list {P:Program} {w:World} {K:PySem.W.Frag} {tg:Expr} (a it:Addr):Turn P w K tg (Itl K a) [it] it (fun i h=>h.IsListIter it a i) where
 mem:=by simp
 obj:=fun i h st b hb=>by
  have e:b=it:=by simpa using hb
  subst e
  obtain⟨o,e,c,d⟩:=st
  exact⟨o,e,fun v z=>by rw[d] at z;cases z⟩
 keep:=fun i h h' st k=>st.at fun o e=>k it (by simp) o e
 item:=by
  intro X hP hw hK hc i pins s σ H E I hf st hg
  subst hP hw hK
  obtain⟨xs,x,hq,hx⟩:=hg
  obtain⟨its,rv,p,hz⟩:=I.list hq
  obtain⟨u,hu,ru⟩:=rv.get hx
  obtain⟨f0,f1,f2,f3,f4,f5⟩:=hf it (by simp)
  refine wpAny_pyNext_list_item st p.isList (x:=u) (by simpa using hu) fun h' st' sb=>?_
  have I1:Inv X pins σ H {s with heap:=h'}:=I.turned (t':=s.toks) (fun b o hb e=>(sb.2 b hb).trans e) f0 f1 f3 f4 f5
  obtain⟨o,e,c,d⟩:=id st'
  exact⟨u,rfl,go_of (s:={s with heap:=h'}) e c d (by decide) ⟨x,H,I1,ru,⟨rfl,fun ys hy=>by rw[I.list_inj hy hq];exact hx⟩,st',fun b hb=>(hf b hb).1⟩⟩
 done:=by
  intro X hP hw hK hc i pins s σ H E I hf st hg
  subst hP hw hK
  obtain⟨xs,hq,hx⟩:=hg
  obtain⟨its,rv,p,hz⟩:=I.list hq
  obtain⟨f0,f1,f2,f3,f4,f5⟩:=hf it (by simp)
  have hl:=rv.length
  exact wpAny_pyNext_list_end (I.ok.hd hc) st p.isList (by simp;omega) fun h' eb=>⟨rfl,I.turned (t':=s.toks) (fun b o hb e=>eb b o hb e) f0 f1 f3 f4 f5⟩
 self:=fun _ _ _ _ _ st h=>wpAny_pyIter_listiter st h
theorem turn_range {P:Program} {w:World} {K:PySem.W.Frag} {tg:Expr} (it:Addr) (lo:Int) (n:Nat):Turn P w K tg (Itr lo n) [it] it (fun i h=>IsRangeIter h it (lo+(i:Nat)*1) ((n:Int)-(i:Nat)) 1) where
 mem:=by simp
 obj:=fun i h st b hb=>by
  have e:b=it:=by simpa using hb
  subst e
  exact⟨_,st,fun v z=>by
   have z':Data.fields _=Data.cell v:=z
   cases z'⟩
 keep:=fun i h h' st k=>k it (by simp) _ st
 item:=by
  intro X hP hw hK hc i pins s σ H E I hf st hg
  subst hP hw hK
  obtain⟨f0,f1,f2,f3,f4,f5⟩:=hf it (by simp)
  have W:=Walks.range (prog:=X.prog) (w:=X.w) (I.ok.hd hc) it lo 1 n
  refine W.item i s _ _ hg st fun v h' tk hv st' kk=>?_
  obtain⟨t,rfl⟩:=hv
  have I1:Inv X pins σ H {s with heap:=h',toks:=tk}:=I.turned (fun b o hb e=>kk b o (by simpa using hb) e) f0 f1 f3 f4 f5
  refine⟨_,rfl,go_of (s:={s with heap:=h',toks:=tk}) (n:="range_iterator") st' rfl rfl (by decide) ⟨.int (lo+i),H,I1,⟨t,?_⟩,⟨rfl,rfl⟩,st',fun b hb=>(hf b hb).1⟩⟩
  rw[Int.mul_one]
 done:=by
  intro X hP hw hK hc i pins s σ H E I hf st hg
  subst hP hw hK
  obtain⟨f0,f1,f2,f3,f4,f5⟩:=hf it (by simp)
  exact wpAny_pyNext_range_end (I.ok.hd hc) st (by have:n≤i:=hg;omega) fun h' eb=>⟨rfl,I.turned (t':=s.toks) (fun b o hb e=>eb b o hb e) f0 f1 f3 f4 f5⟩
 self:=fun _ _ _ _ _ st h=>wpAny_pyIter_rangeiter st h
end L2
namespace L2
open PySem PySem.Spec PyProof.Rows
section
variable {X : Cx} {tg : Expr}
def iList (K:PySem.W.Frag) (tl:TE):TI:=fun σ H R=>tl σ H fun x H1=>∃a,x=.ref a∧(∃xs,SqL K H1 a xs)∧R (Itl K a) H1
theorem pi_list {l:Expr} {tl:TE} (hl:PE X l tl):PI X tg l (iList X.K tl):=by
 intro pins s σ H R I h
 refine thn (hl pins s σ H _ I h) fun v s1 ⟨x,H1,I1,r1,q1⟩=>?_
 obtain⟨a,e,⟨xs,hq⟩,q⟩:=q1
 subst e
 cases r1
 obtain⟨its,rv,p,hz⟩:=I1.list hq
 refine wpAny_pyIter_list p.isList ?_
 refine⟨s1.heap.objs.size,[s1.heap.objs.size],_,_,H1,rfl,I1.kept (t':=s1.toks) fun b o e=>Heap.get?_push_of_some _ e,turn_list a _,⟨_,Heap.get?_push_size _ rfl,rfl,rfl⟩,fun b hb=>?_,q⟩
 have e:b=s1.heap.objs.size:=by simpa using hb
 subst e
 exact I1.fpOk (Nat.le_refl _) (I1.hok.fresh (Nat.le_refl _))
theorem range_it {pins:List (Addr×Obj)} {σ:St} {H:Hp} {s:Shared} {R:It→Hp→Prop} {E:Value→Shared→Prop} {lo hi:Int} {t u v:Tok} {tk:Nat} (I:Inv X pins σ H s) (h1:-(2^62)≤lo) (h2:lo<2^62) (h3:-(2^62)≤hi) (h4:hi<2^62)
  (q:R (Itr lo (hi-lo).toNat) H):wpAny (model X.prog X.w) X.A (pyIter (.ref s.heap.objs.size)) (PIE X pins σ tg R) E {s with heap:=s.heap.push {cls:=.type "range",data:=.fields #[.int lo t,.int hi u,.int 1 v]},toks:=tk}:=by
 refine wpAny_pyIter_range (IsRange.new ..) (small_one h1 h2 h3 h4) ?_
 have I1:Inv X pins σ H {s with heap:=s.heap.push {cls:=.type "range",data:=.fields #[.int lo t,.int hi u,.int 1 v]},toks:=tk}:=I.kept fun b o e=>Heap.get?_push_of_some _ e
 refine⟨(s.heap.push {cls:=.type "range",data:=.fields #[.int lo t,.int hi u,.int 1 v]}).objs.size,[(s.heap.push {cls:=.type "range",data:=.fields #[.int lo t,.int hi u,.int 1 v]}).objs.size],_,_,H,rfl,
  I1.kept (t':=tk) fun b o e=>Heap.get?_push_of_some _ e,turn_range _ lo (hi-lo).toNat,?_,fun b hb=>?_,q⟩
 ·have e1:lo+((0:Nat):Int)*1=lo:=by simp
  have e2:(((hi-lo).toNat:Nat):Int)-((0:Nat):Int)=Builtin.Range.rangeSize lo hi 1:=by rw[rangeSize_one];split<;>omega
  show IsRangeIter _ _ (lo+((0:Nat):Int)*1) ((((hi-lo).toNat:Nat):Int)-((0:Nat):Int)) 1
  rw[e1,e2]
  exact Heap.get?_push_size _ rfl
 ·have e:b=(s.heap.push {cls:=.type "range",data:=.fields #[.int lo t,.int hi u,.int 1 v]}).objs.size:=by simpa using hb
  subst e
  exact I1.fpOk (Nat.le_refl _) (I1.hok.fresh (Nat.le_refl _))
def iRng1 (ta:TA):TI:=fun σ H R=>ta σ H fun vs H1=>∃j:Int,vs=[.int j]∧-(2^62)≤j∧j<2^62∧R (Itr 0 j.toNat) H1
theorem pi_range1 {a:Expr} {ta:TA} {p pos:Pos} (hg:Gl X "range") (hm:X.mg "range"=none) (ha:PA X [a] ta) (hs:starEach [a] X.env=[(false,eval a X.env)]:=by rfl):PI X tg (.Call (.Name "range" p) [a] [] pos) (iRng1 ta):=by
 intro pins s σ H R I h
 refine Call_ (ld_blt I hg hm boot_range (PyProof.Rows.callWith_type1 (thn (ha pos pins s σ H _ I h) fun us s1 ⟨vs,H1,I1,r1,q1⟩=>?_) hs rfl))
 obtain⟨j,e,q1,q2,q⟩:=q1
 subst e
 cases r1 with
 |cons r rr =>
  cases rr
  obtain⟨t,rfl⟩:=r
  exact call_range_1 (range_it I1 (by omega) (by omega) q1 q2 (by simpa using q))
def tFor (wi:TI) (g:TG) (tb:TS):TS:=fun D σ H=>wi σ H fun J H1=>∃W:Nat→Nat→St→Hp→Prop,(∃m,W 0 m σ H1)∧∀i m σ H,W i m σ H →
 (J.stop i H∧D.nx σ H)∨(J.go i H∧∃N:St→Hp→Prop,(∀σ' H',N σ' H'→∃m',m'<m∧W (i+1) m' σ' H')∧∀x H',J.yld i H x H'→g x σ H' fun σ2 H2=>tb {D with nx:=N,ct:=N,bk:=D.nx} σ2 H2)
def pinsAt (fp:List Addr) (h:Heap):List (Addr×Obj):=fp.filterMap fun b=>(h.get? b).map fun o=>(b,o)
theorem mem_pinsAt {fp:List Addr} {h:Heap} {b:Addr} {o:Obj} (hb:b∈fp) (e:h.get? b=some o):(b,o)∈pinsAt fp h:=List.mem_filterMap.mpr ⟨b,hb,by rw[e];rfl⟩
theorem of_pinsAt {fp:List Addr} {h:Heap} {p:Addr×Obj} (hp:p∈pinsAt fp h):p.1∈fp∧h.get? p.1=some p.2:=by
 obtain⟨b,hb,e⟩:=List.mem_filterMap.mp hp
 cases q:h.get? b with
 |none=>rw[q] at e;cases e
 |some o =>
  rw[q] at e
  have e':(b,o)=p:=Option.some.inj e
  subst e'
  exact⟨hb,q⟩
theorem Inv.pinned {pins:List (Addr×Obj)} {σ:St} {H:Hp} {s:Shared} {fp:List Addr} (I:Inv X pins σ H s) (hf:∀b∈fp,FpOk X pins H b) (ho:∀b∈fp,∃o,s.heap.get? b=some o∧∀v,o.data≠.cell v):Inv X (pins++pinsAt fp s.heap) σ H s :=
 I.pins_of fun p hp=>(List.mem_append.mp hp).elim (fun z=>I.pin p (List.mem_append_right _ z)) fun z=>by
  obtain⟨hb,e⟩:=of_pinsAt z
  obtain⟨f0,f1,f2,_⟩:=hf p.1 hb
  obtain⟨o,e',d⟩:=ho p.1 hb
  rw[e] at e';cases e'
  exact⟨e,f0,f1,f2,d⟩
theorem Inv.unpinned {pins pl:List (Addr×Obj)} {σ:St} {H:Hp} {s:Shared} (I:Inv X (pins++pl) σ H s):Inv X pins σ H s:=I.pins_of fun p hp=>I.pin p (List.mem_append_right _ (List.mem_append_left _ hp))
theorem ps_for {iter:Expr} {body:List Stmt} {wi:TI} {g:TG} {tb:TS} {pos:Pos} (hp:PassesOwn (model X.prog X.w) X.A X.env X.xe) (hc:X.calm=true) (hi:PI X tg iter wi) (hg:PG X tg g) (hb:PSs X body tb)
  (hs:∀x,foldedSetIterable iter X.env x=pure x:=by intro _;rfl):PS X (.For tg iter body [] pos) (tFor wi g tb):=by
 intro pins s σ H D I h
 refine wpAny_For (thn (hi pins s σ H _ I h) fun v s1 h1=>thn h1 fun itv s2 h2=>?_) hs
 obtain⟨it,fp,tn,J,H2,e,I2,T,st2,f2,W,⟨m0,w0⟩,turn⟩:=h2
 subst e
 have stat:∀{H':Hp},(∀b∈fp,H' b=none)→∀b∈fp,FpOk X pins H' b:=fun hn b hb=>⟨hn b hb,(f2 b hb).2⟩
 refine codeAny_forLoop_any (fun n s'=>∃i σ' H',Inv X pins σ' H' s'∧tn i s'.heap∧(∀b∈fp,H' b=none)∧W i n σ' H') ?_ m0 ⟨0,σ,H2,I2,st2,fun b hb=>(f2 b hb).1,w0⟩
 rintro n s3 ⟨i,σ3,H3,I3,st3,fr3,w3⟩
 rcases turn i n σ3 H3 w3 with⟨stop,qn⟩|⟨go,N,hN,step⟩
 ·refine wpAny_passesOwn hp (thn (T.done X rfl rfl rfl hc i pins s3 σ3 H3 X.xe I3 (stat fr3) st3 stop) fun r s4 ⟨hr,I4⟩=>?_)
  subst hr
  exact wpAny_execs_nil ⟨σ3,H3,I4,qn⟩
 ·refine wpAny_passesOwn hp (thn (T.item X rfl rfl rfl hc i pins s3 σ3 H3 X.xe I3 (stat fr3) st3 go) fun r s4 ⟨u,hr,h4⟩=>?_)
  subst hr
  refine wpAny_passesOwn hp (thn h4 fun _ s5 ⟨x,H5,I5,r5,y5,st5,fr5⟩=>?_)
  have I5':=I5.pinned (stat fr5) (T.obj _ _ st5)
  refine wpAny_passesOwn hp (thn (hg _ s5 σ3 H5 x u _ I5' r5 (step x H5 y5)) fun _ s6 ⟨σ6,H6,I6,q6⟩=>?_)
  refine wpAny_passesOwn hp (thn (hb _ s6 σ6 H6 _ I6 q6) fun f s7 q7=>?_)
  have again:∀{σ7:St} {H7:Hp},Inv X (pins++pinsAt fp s5.heap) σ7 H7 s7→N σ7 H7→∃m,m<n∧∃i σ' H',Inv X pins σ' H' s7∧tn i s7.heap∧(∀b∈fp,H' b=none)∧W i m σ' H':=fun {σ7 H7} I7 n7=>by
   obtain⟨m',hm,w7⟩:=hN σ7 H7 n7
   refine⟨m',hm,i+1,σ7,H7,I7.unpinned,T.keep _ _ _ st5 fun b hb o e=>(I7.pin (b,o) (List.mem_append_right _ (List.mem_append_right _ (mem_pinsAt hb e)))).1,fun b hb=>?_,w7⟩
   obtain⟨o,e,d⟩:=T.obj _ _ st5 b hb
   exact (I7.pin (b,o) (List.mem_append_right _ (List.mem_append_right _ (mem_pinsAt hb e)))).2.1
  cases f with
  |next=>obtain⟨σ7,H7,I7,n7⟩:=q7;exact again I7 n7
  |cont=>obtain⟨σ7,H7,I7,n7⟩:=q7;exact again I7 n7
  |brk=>obtain⟨σ7,H7,I7,q7⟩:=q7;exact⟨σ7,H7,I7.unpinned,q7⟩
  |ret v=>obtain⟨x7,σ7,H7,I7,r7,q7⟩:=q7;exact⟨x7,σ7,H7,I7.unpinned,r7,q7⟩
end
theorem for_list {K:PySem.W.Frag} {a:Addr} {xs:List V} {g:TG} {tb:TS} {D:Ends} {σ:St} {H:Hp} (Pv:Nat→St→Hp→Prop) (h0:Pv 0 σ H) (hl:∀i σ H,i≤xs.length→Pv i σ H→SqL K H a xs)
  (hs:∀i x σ H,xs[i]?=some x→Pv i σ H→g x σ H fun σ2 H2=>tb {D with nx:=Pv (i+1),ct:=Pv (i+1),bk:=D.nx} σ2 H2) (hd:∀σ H,Pv xs.length σ H→D.nx σ H) :
  ∃W:Nat→Nat→St→Hp→Prop,(∃m,W 0 m σ H)∧∀i m σ H,W i m σ H →
   ((Itl K a).stop i H∧D.nx σ H)∨((Itl K a).go i H∧∃N:St→Hp→Prop,(∀σ' H',N σ' H'→∃m',m'<m∧W (i+1) m' σ' H')∧∀x H',(Itl K a).yld i H x H'→g x σ H' fun σ2 H2=>tb {D with nx:=N,ct:=N,bk:=D.nx} σ2 H2):=by
 refine⟨fun i m σ H=>m=xs.length-i∧i≤xs.length∧Pv i σ H,⟨xs.length,by simp,Nat.zero_le _,h0⟩,?_⟩
 rintro i m σ H ⟨rfl,hi,p⟩
 have q:=hl i σ H hi p
 by_cases hlt:i<xs.length
 ·refine .inr ⟨⟨xs,xs[i],q,by simp [hlt]⟩,Pv (i+1),fun σ' H' p'=>⟨xs.length-(i+1),by omega,rfl,hlt,p'⟩,fun x H' y=>?_⟩
  obtain⟨e,y⟩:=y
  subst e
  exact hs i x σ _ (y xs q) p
 ·have e:i=xs.length:=by omega
  subst e
  exact .inl ⟨⟨xs,q,Nat.le_refl _⟩,hd σ H p⟩
theorem for_range {lo:Int} {n:Nat} {g:TG} {tb:TS} {D:Ends} {σ:St} {H:Hp} (Pv:Nat→St→Hp→Prop) (h0:Pv 0 σ H)
  (hs:∀i σ H,i<n→Pv i σ H→g (.int (lo+i)) σ H fun σ2 H2=>tb {D with nx:=Pv (i+1),ct:=Pv (i+1),bk:=D.nx} σ2 H2) (hd:∀σ H,Pv n σ H→D.nx σ H) :
  ∃W:Nat→Nat→St→Hp→Prop,(∃m,W 0 m σ H)∧∀i m σ H,W i m σ H →
   ((Itr lo n).stop i H∧D.nx σ H)∨((Itr lo n).go i H∧∃N:St→Hp→Prop,(∀σ' H',N σ' H'→∃m',m'<m∧W (i+1) m' σ' H')∧∀x H',(Itr lo n).yld i H x H'→g x σ H' fun σ2 H2=>tb {D with nx:=N,ct:=N,bk:=D.nx} σ2 H2):=by
 refine⟨fun i m σ H=>m=n-i∧i≤n∧Pv i σ H,⟨n,by simp,Nat.zero_le _,h0⟩,?_⟩
 rintro i m σ H ⟨rfl,hi,p⟩
 by_cases hlt:i<n
 ·refine .inr ⟨hlt,Pv (i+1),fun σ' H' p'=>⟨n-(i+1),by omega,rfl,hlt,p'⟩,fun x H' y=>?_⟩
  obtain⟨e,y⟩:=y
  subst e y
  exact hs i σ _ hlt p
 ·have e:i=n:=by omega
  subst e
  exact .inl ⟨Nat.le_refl _,hd σ H p⟩
theorem while_by {c:TT} {tb:TS} {D:Ends} {σ:St} {H:Hp} (Pv:St→Hp→Prop) (μ:St→Hp→Nat) (h0:Pv σ H)
  (hs:∀σ H,Pv σ H→c σ H fun b H1=>if b=true then tb {D with nx:=fun σ' H'=>Pv σ' H'∧μ σ' H'<μ σ H,ct:=fun σ' H'=>Pv σ' H'∧μ σ' H'<μ σ H,bk:=D.nx} σ H1 else D.nx σ H1)
  (mono:∀σ H Q Q',(∀b H1,Q b H1→Q' b H1)→c σ H Q→c σ H Q'):tWhile c tb D σ H:=by
 refine⟨fun m σ H=>m=μ σ H∧Pv σ H,⟨_,rfl,h0⟩,?_⟩
 rintro m σ H ⟨rfl,p⟩
 refine mono σ H _ _ (fun b H1 q=>?_) (hs σ H p)
 cases b with
 |true=>exact⟨_,fun σ' H' ⟨p',l⟩=>⟨_,l,rfl,p'⟩,q⟩
 |false=>exact q
end L2
namespace L2
open PySem PySem.Spec PyProof.Rows
abbrev R2:=V→V→Hp→VK→Prop
def OpR (X:Cx) (f:Value→Value→Sem Value) (r:R2):Prop :=
 ∀(pins:List (Addr×Obj)) (s:Shared) (σ:St) (H:Hp) (x y:V) (v u:Value) (Q:VK),Inv X pins σ H s→RelV x v→RelV y u→r x y H Q →
  wpAny (model X.prog X.w) X.A (f v u) (EP X pins σ Q) X.xe s
def UnR (X:Cx) (f:Value→Sem Value) (r:V→Hp→VK→Prop):Prop :=
 ∀(pins:List (Addr×Obj)) (s:Shared) (σ:St) (H:Hp) (x:V) (v:Value) (Q:VK),Inv X pins σ H s→RelV x v→r x H Q →
  wpAny (model X.prog X.w) X.A (f v) (EP X pins σ Q) X.xe s
def CallR (X:Cx) (f:Value) (r:List V→Hp→VK→Prop):Prop :=
 ∀(pins:List (Addr×Obj)) (s:Shared) (σ:St) (H:Hp) (xs:List V) (us:List Value) (Q:VK),Inv X pins σ H s→Vals xs us→r xs H Q →
  wpAny (model X.prog X.w) X.A (call f us) (EP X pins σ Q) X.xe s
def tOp (r:R2) (ta tb:TE):TE:=fun σ H Q=>ta σ H fun x H1=>tb σ H1 fun y H2=>r x y H2 Q
def tUn (r:V→Hp→VK→Prop) (ta:TE):TE:=fun σ H Q=>ta σ H fun x H1=>r x H1 Q
def rI (C:Int→Int→Prop) (g:Int→Int→V):R2:=fun x y H Q=>∃i j,x=.int i∧y=.int j∧C i j∧Q (g i j) H
def rI0 (g:Int→Int→V):R2:=fun x y H Q=>∃i j,x=.int i∧y=.int j∧Q (g i j) H
def rU (g:Int→V):V→Hp→VK→Prop:=fun x H Q=>∃i,x=.int i∧Q (g i) H
section
variable {X : Cx} {a b c : Expr} {ta tb tc : TE} {pos : Pos}
theorem binT (ha:PE X a ta) (hb:PE X b tb) {pins:List (Addr×Obj)} {s:Shared} {σ:St} {H:Hp} {R:V→V→Hp→Prop} (I:Inv X pins σ H s)
  (h:ta σ H fun x H1=>tb σ H1 fun y H2=>R x y H2) {Q:Value→Shared→Prop} {f:Value→Value→Sem Value}
  (hf:∀v u s2 x y H2,Inv X pins σ H2 s2→RelV x v→RelV y u→R x y H2→wpAny (model X.prog X.w) X.A (f v u) Q X.xe s2) :
  wpAny (model X.prog X.w) X.A (eval a X.env) (fun v s₁=>wpAny (model X.prog X.w) X.A (eval b X.env) (fun u s₂=>wpAny (model X.prog X.w) X.A (f v u) Q X.xe s₂) X.xe s₁) X.xe s:=by
 refine thn (ha pins s σ H _ I h) fun v s1 ⟨x,H1,I1,r1,q1⟩=>?_
 refine thn (hb pins s1 σ H1 _ I1 q1) fun u s2 ⟨y,H2,I2,r2,q2⟩=>?_
 exact hf v u s2 x y H2 I2 r1 r2 q2
theorem pe_op {op:Operator} {r:R2} (ho:OpR X (binaryOp op) r) (ha:PE X a ta) (hb:PE X b tb):PE X (.BinOp a op b pos) (tOp r ta tb):=by
 intro pins s σ H Q I h
 exact wpAny_BinOp (binT ha hb I h fun v u s2 x y H2 I2 rx ry q=>ho pins s2 σ H2 x y v u Q I2 rx ry q)
theorem pe_un {op:UnaryOp} {r:V→Hp→VK→Prop} (ho:UnR X (unaryOp op) r) (ha:PE X a ta):PE X (.UnaryOp op a pos) (tUn r ta):=by
 intro pins s σ H Q I h
 exact UnaryOp_ (thn (ha pins s σ H _ I h) fun v s1 ⟨x,H1,I1,r1,q1⟩=>ho pins s1 σ H1 x v Q I1 r1 q1)
theorem opI {f:Value→Value→Sem Value} {C:Int→Int→Prop} {g:Int→Int→Int}
  (rule:∀(i j:Int) (t u:Tok) (s:Shared) (Q:Value→Shared→Prop) (E:Value→Shared→Prop),C i j→Q (.int (g i j) s.toks) {s with toks:=s.toks+1}→wpAny (model X.prog X.w) X.A (f (.int i t) (.int j u)) Q E s) :
  OpR X f (rI C fun i j=>.int (g i j)):=by
 intro pins s σ H x y v u Q I rx ry h
 obtain⟨i,j,rfl,rfl,hc,q⟩:=h
 obtain⟨t,rfl⟩:=rx
 obtain⟨t',rfl⟩:=ry
 exact rule i j t t' s _ _ hc ⟨.int (g i j),H,I.tok _,⟨_,rfl⟩,q⟩
theorem opI0 {f:Value→Value→Sem Value} {g:Int→Int→Int}
  (rule:∀(i j:Int) (t u:Tok) (s:Shared) (Q:Value→Shared→Prop) (E:Value→Shared→Prop),Q (.int (g i j) s.toks) {s with toks:=s.toks+1}→wpAny (model X.prog X.w) X.A (f (.int i t) (.int j u)) Q E s) :
  OpR X f (rI0 fun i j=>.int (g i j)):=by
 intro pins s σ H x y v u Q I rx ry h
 obtain⟨i,j,rfl,rfl,q⟩:=h
 obtain⟨t,rfl⟩:=rx
 obtain⟨t',rfl⟩:=ry
 exact rule i j t t' s _ _ ⟨.int (g i j),H,I.tok _,⟨_,rfl⟩,q⟩
theorem opB0 {f:Value→Value→Sem Value} {g:Int→Int→Bool}
  (rule:∀(i j:Int) (t u:Tok) (s:Shared) (Q:Value→Shared→Prop) (E:Value→Shared→Prop),Q (.bool (g i j)) s→wpAny (model X.prog X.w) X.A (f (.int i t) (.int j u)) Q E s) :
  OpR X f (rI0 fun i j=>.bl (g i j)):=by
 intro pins s σ H x y v u Q I rx ry h
 obtain⟨i,j,rfl,rfl,q⟩:=h
 obtain⟨t,rfl⟩:=rx
 obtain⟨t',rfl⟩:=ry
 exact rule i j t t' s _ _ ⟨.bl (g i j),H,I,rfl,q⟩
def CPow (i j:Int):Prop:=0≤j∧j≤1000000∧i.natAbs<2^64
def CMul (i j:Int):Prop:=(-(2^64)<i∧i<2^64)∨(-(2^64)<j∧j<2^64)
theorem CMul.ok {i j:Int} (h:CMul i j):IntMulOk i j:=by
 rcases h with⟨h1,h2⟩|⟨h1,h2⟩
 ·exact .of_left (intBits_le_64 h1 h2)
 ·exact .of_right (intBits_le_64 h1 h2)
theorem two_pow_nn (k:Nat):(0:Int)≤2^k:=by
 rw[two_pow_cast]
 exact Int.natCast_nonneg _
theorem op_add:OpR X (binaryOp .Add) (rI0 fun i j=>.int (i+j)):=opI0 fun _ _ _ _ _ _ _ q=>add_int q
theorem op_sub:OpR X (binaryOp .Sub) (rI0 fun i j=>.int (i-j)):=opI0 fun _ _ _ _ _ _ _ q=>sub_int q
theorem op_mul:OpR X (binaryOp .Mult) (rI CMul fun i j=>.int (i*j)):=opI fun _ _ _ _ _ _ _ hc q=>mul_int q hc.ok
theorem op_mod:OpR X (binaryOp .Mod) (rI (fun _ j=>0<j) fun i j=>.int (i%j)):=opI fun i j _ _ _ _ _ hc q=>by
 have h1:(0:Int)<j:=hc
 exact mod_int' (by omega) (by rw[Int.fmod_eq_emod_of_nonneg i (by omega)];exact q)
theorem op_shl:OpR X (binaryOp .LShift) (rI CPow fun i j=>.int (i*2^j.toNat)):=opI fun _ _ _ _ _ _ _ hc q=>lshift_int_small hc.1 hc.2.1 hc.2.2 q
theorem op_shr:OpR X (binaryOp .RShift) (rI (fun _ j=>0≤j) fun i j=>.int (i / 2^j.toNat)):=opI fun i j _ _ _ _ _ hc q =>
 rshift_int hc (by rw[Int.fdiv_eq_ediv_of_nonneg i (two_pow_nn _)];exact q)
theorem op_and:OpR X (binaryOp .BitAnd) (rI0 fun i j=>.int (Builtin.bitAnd i j)):=opI0 fun _ _ _ _ _ _ _ q=>and_int q
theorem op_or:OpR X (binaryOp .BitOr) (rI0 fun i j=>.int (Builtin.bitOr i j)):=opI0 fun _ _ _ _ _ _ _ q=>or_int q
theorem op_xor:OpR X (binaryOp .BitXor) (rI0 fun i j=>.int (Builtin.bitXor i j)):=opI0 fun _ _ _ _ _ _ _ q=>xor_int q
theorem unI {f:Value→Sem Value} {g:Int→Int}
  (rule:∀(i:Int) (t:Tok) (s:Shared) (Q:Value→Shared→Prop) (E:Value→Shared→Prop),Q (.int (g i) s.toks) {s with toks:=s.toks+1}→wpAny (model X.prog X.w) X.A (f (.int i t)) Q E s) :
  UnR X f (rU fun i=>.int (g i)):=by
 intro pins s σ H x v Q I rx h
 obtain⟨i,rfl,q⟩:=h
 obtain⟨t,rfl⟩:=rx
 exact rule i t s _ _ ⟨.int (g i),H,I.tok _,⟨_,rfl⟩,q⟩
theorem un_neg:UnR X (unaryOp .USub) (rU fun i=>.int (-i)):=unI fun _ _ _ _ _ q=>neg_int q
end
def scal:V→V→Bool
 |.non,.non=>true|.non,.int _=>true|.int _,.non=>true|.non,.bl _=>true|.bl _,.non=>true|.non,.str _=>true|.str _,.non=>true
 |.int _,.int _=>true|.bl _,.bl _=>true|.str _,.str _=>true|.byt _,.byt _=>true
 |.int _,.str _=>true|.str _,.int _=>true|.bl _,.str _=>true|.str _,.bl _=>true
 |_,_=>false
def rEq:R2:=fun x y H Q=>scal x y=true∧Q (.bl (decide (x=y))) H
def rNe:R2:=fun x y H Q=>scal x y=true∧Q (.bl (!decide (x=y))) H
theorem dec_int {i j:Int}:decide (V.int i=V.int j)=(i==j):=by
 rw[Bool.eq_iff_iff]
 simp
theorem dec_bl {i j:Bool}:decide (V.bl i=V.bl j)=(i==j):=by
 rw[Bool.eq_iff_iff]
 simp
theorem dec_str {i j:Str}:decide (V.str i=V.str j)=(i==j):=by
 rw[Bool.eq_iff_iff]
 simp
theorem dec_byt {i j:Array UInt8}:decide (V.byt i=V.byt j)=(i.toList==j.toList):=by
 rw[Bool.eq_iff_iff]
 cases i
 cases j
 simp
section
variable {X : Cx} {a b c : Expr} {ta tb tc : TE} {pos : Pos}
theorem fin_bl {pins:List (Addr×Obj)} {σ:St} {H:Hp} {s:Shared} {Q:VK} {k k':Bool} (I:Inv X pins σ H s) (q:Q (.bl k) H) (e:k=k'):EP X pins σ Q (.bool k') s:=by
 subst e
 exact⟨.bl k,H,I,rfl,q⟩
theorem op_eq:OpR X (compareOp .Eq) rEq:=by
 intro pins s σ H x y v u Q I rx ry h
 obtain⟨hs,q⟩:=h
 cases x with
 |non =>
  cases rx
  cases y with
  |non=>cases ry;exact PySem.EqNone.eq_none_none (fin_bl I q (by simp))
  |bl j=>cases ry;exact PySem.EqNone.eq_none_bool (fin_bl I q (by simp))
  |int j=>obtain⟨t',rfl⟩:=ry;exact PySem.EqNone.eq_none_int (fin_bl I q (by simp))
  |str j=>obtain⟨t',rfl⟩:=ry;exact PySem.EqNone.eq_none_str (fin_bl I q (by simp))
  |_=>exact absurd (show false=true from hs) Bool.false_ne_true
 |bl i =>
  cases rx
  cases y with
  |non=>cases ry;exact PySem.EqNone.eq_bool_none (fin_bl I q (by simp))
  |bl j=>cases ry;exact eq_bool (fin_bl I q dec_bl)
  |str j=>obtain⟨t',rfl⟩:=ry;exact PySem.EqMixed.eq_bool_str (fin_bl I q (by simp))
  |_=>exact absurd (show false=true from hs) Bool.false_ne_true
 |int i =>
  obtain⟨t,rfl⟩:=rx
  cases y with
  |non=>cases ry;exact PySem.EqNone.eq_int_none (fin_bl I q (by simp))
  |int j=>obtain⟨t',rfl⟩:=ry;exact eq_int (fin_bl I q dec_int)
  |str j=>obtain⟨t',rfl⟩:=ry;exact PySem.EqMixed.eq_int_str (fin_bl I q (by simp))
  |_=>exact absurd (show false=true from hs) Bool.false_ne_true
 |str i =>
  obtain⟨t,rfl⟩:=rx
  cases y with
  |non=>cases ry;exact PySem.EqNone.eq_str_none (fin_bl I q (by simp))
  |bl j=>cases ry;exact PySem.EqMixed.eq_str_bool (fin_bl I q (by simp))
  |int j=>obtain⟨t',rfl⟩:=ry;exact PySem.EqMixed.eq_str_int (fin_bl I q (by simp))
  |str j=>obtain⟨t',rfl⟩:=ry;exact eq_str (fin_bl I q dec_str)
  |_=>exact absurd (show false=true from hs) Bool.false_ne_true
 |byt i =>
  obtain⟨t,rfl⟩:=rx
  cases y with
  |byt j=>obtain⟨t',rfl⟩:=ry;exact PySem.W.eq_bytes (fin_bl I q dec_byt)
  |_=>exact absurd (show false=true from hs) Bool.false_ne_true
 |_=>cases y<;>exact absurd (show false=true from hs) Bool.false_ne_true
theorem op_ne:OpR X (compareOp .NotEq) rNe:=by
 intro pins s σ H x y v u Q I rx ry h
 obtain⟨hs,q⟩:=h
 cases x with
 |non =>
  cases rx
  cases y with
  |non=>cases ry;exact PySem.EqNone.ne_none_none (fin_bl I q (by simp))
  |bl j=>cases ry;exact PySem.EqNone.ne_none_bool (fin_bl I q (by simp))
  |int j=>obtain⟨t',rfl⟩:=ry;exact PySem.EqNone.ne_none_int (fin_bl I q (by simp))
  |str j=>obtain⟨t',rfl⟩:=ry;exact PySem.EqNone.ne_none_str (fin_bl I q (by simp))
  |_=>exact absurd (show false=true from hs) Bool.false_ne_true
 |bl i =>
  cases rx
  cases y with
  |non=>cases ry;exact PySem.EqNone.ne_bool_none (fin_bl I q (by simp))
  |bl j=>cases ry;exact ne_bool (fin_bl I q (congrArg not dec_bl))
  |str j=>obtain⟨t',rfl⟩:=ry;exact PySem.EqMixed.ne_bool_str (fin_bl I q (by simp))
  |_=>exact absurd (show false=true from hs) Bool.false_ne_true
 |int i =>
  obtain⟨t,rfl⟩:=rx
  cases y with
  |non=>cases ry;exact PySem.EqNone.ne_int_none (fin_bl I q (by simp))
  |int j=>obtain⟨t',rfl⟩:=ry;exact ne_int (fin_bl I q (congrArg not dec_int))
  |str j=>obtain⟨t',rfl⟩:=ry;exact PySem.EqMixed.ne_int_str (fin_bl I q (by simp))
  |_=>exact absurd (show false=true from hs) Bool.false_ne_true
 |str i =>
  obtain⟨t,rfl⟩:=rx
  cases y with
  |non=>cases ry;exact PySem.EqNone.ne_str_none (fin_bl I q (by simp))
  |bl j=>cases ry;exact PySem.EqMixed.ne_str_bool (fin_bl I q (by simp))
  |int j=>obtain⟨t',rfl⟩:=ry;exact PySem.EqMixed.ne_str_int (fin_bl I q (by simp))
  |str j=>obtain⟨t',rfl⟩:=ry;exact ne_str (fin_bl I q (congrArg not dec_str))
  |_=>exact absurd (show false=true from hs) Bool.false_ne_true
 |byt i =>
  obtain⟨t,rfl⟩:=rx
  cases y with
  |byt j=>obtain⟨t',rfl⟩:=ry;exact PySem.W.ne_bytes (fin_bl I q (congrArg not dec_byt))
  |_=>exact absurd (show false=true from hs) Bool.false_ne_true
 |_=>cases y<;>exact absurd (show false=true from hs) Bool.false_ne_true
theorem op_lt:OpR X (compareOp .Lt) (rI0 fun i j=>.bl (decide (i<j))):=opB0 fun _ _ _ _ _ _ _ q=>lt_int q
theorem op_le:OpR X (compareOp .LtE) (rI0 fun i j=>.bl (decide (i≤j))):=opB0 fun _ _ _ _ _ _ _ q=>le_int q
theorem op_gt:OpR X (compareOp .Gt) (rI0 fun i j=>.bl (decide (j<i))):=opB0 fun _ _ _ _ _ _ _ q=>gt_int q
theorem op_ge:OpR X (compareOp .GtE) (rI0 fun i j=>.bl (decide (j≤i))):=opB0 fun _ _ _ _ _ _ _ q=>ge_int q
theorem nomark (b:Expr) {op:CmpOp} (h:op≠.In:=by decide) (h2:op≠.NotIn:=by decide):behindInMarks op b=false:=by
 have e1:(op==CmpOp.In)=false:=by cases op<;>first|rfl|exact absurd rfl h
 have e2:(op==CmpOp.NotIn)=false:=by cases op<;>first|rfl|exact absurd rfl h2
 cases b<;>simp [behindInMarks,e1,e2]
theorem pe_cmpR {op:CmpOp} {r:R2} (ho:OpR X (compareOp op) r) (ha:PE X a ta) (hb:PE X b tb) (hm:behindInMarks op b=false):PE X (.Compare a [op] [b] pos) (tOp r ta tb):=by
 intro pins s σ H Q I h
 exact wpAny_Compare1 (binT ha hb I h fun v u s2 x y H2 I2 rx ry q=>ho pins s2 σ H2 x y v u Q I2 rx ry q) hm
def tTest (t:TE):TT:=fun σ H Q=>t σ H fun x H'=>∃k,x=.bl k∧Q k H'
theorem pt_cmpR {op:CmpOp} {r:R2} (ho:OpR X (compareOp op) r) (ha:PE X a ta) (hb:PE X b tb) (hm:behindInMarks op b=false):PT X (.Compare a [op] [b] pos) (tTest (tOp r ta tb)):=by
 intro pins s σ H Q I h
 refine wpAny_isTrue_Compare1 (thn (ha pins s σ H _ I h) fun v s1 ⟨x,H1,I1,r1,q1⟩=>thn (hb pins s1 σ H1 _ I1 q1) fun u s2 ⟨y,H2,I2,r2,q2⟩ =>
  thn (ho pins s2 σ H2 x y v u _ I2 r1 r2 q2) fun c s3 ⟨z,H3,I3,r3,k,e,q3⟩=>?_) hm
 subst e
 cases r3
 exact wpAny_truthy_bool ⟨H3,I3,q3⟩
def tChain (r r':R2) (ta tb tc:TE):TE:=fun σ H Q=>ta σ H fun x H1=>tb σ H1 fun y H2=>r x y H2 fun z H3=>∃k,z=.bl k ∧
 (if k=true then tc σ H3 fun w' H4=>r' y w' H4 Q else Q (.bl false) H3)
theorem pe_chain {op op':CmpOp} {r r':R2} (ho:OpR X (compareOp op) r) (ho':OpR X (compareOp op') r') (ha:PE X a ta) (hb:PE X b tb) (hc:PE X c tc)
  (hm:lastMarks [op,op'] [b,c]=false:=by with_unfolding_all rfl):PE X (.Compare a [op,op'] [b,c] pos) (tChain r r' ta tb tc):=by
 intro pins s σ H Q I h
 refine Compare_chain (thn (ha pins s σ H _ I h) fun v s1 ⟨x,H1,I1,r1,q1⟩=>chain_link (thn (hb pins s1 σ H1 _ I1 q1) fun u s2 ⟨y,H2,I2,r2,q2⟩ =>
  thn (ho pins s2 σ H2 x y v u _ I2 r1 r2 q2) fun d s3 ⟨z,H3,I3,r3,k,e,q3⟩=>?_)) hm
 subst e
 cases r3
 refine wpAny_truthy_bool ?_
 cases k with
 |false=>exact ite_ff ⟨.bl false,H3,I3,rfl,q3⟩
 |true=>exact ite_tt (chain_last (thn (hc pins s3 σ H3 _ I3 q3) fun w' s4 ⟨z',H4,I4,r4,q4⟩=>ho' pins s4 σ H4 y z' u w' Q I4 r2 r4 q4))
theorem line63:(sizeLine:Nat)<2^63:=by rw[sizeLine_eq];decide
theorem vals1 {x:V} {us:List Value} (r:Vals [x] us):∃u,us=[u]∧RelV x u:=by
 cases r with
 |cons r1 r2=>cases r2;exact⟨_,rfl,r1⟩
end
end L2
namespace L2
open PySem PySem.Spec PyProof.Rows
structure ObjM (h:Heap) (x dx C:Addr) (mA:Str→Option Value):Prop where
 obj:h.get? x=some (PySem.W.instObj C dx)
 ns:h.Ns1 dx mA
 ne:dx≠x
theorem lookIn_ns {h:Heap} {dx:Addr} {mA:Str→Option Value} (n:h.Ns1 dx mA):∃od,h.get? dx=some od∧∀name,PySem.W.lookIn name od=some (mA name):=by
 obtain⟨o,es,ep,ho,hd,hk,_,hm⟩:=n
 refine⟨o,ho,fun name=>?_⟩
 have e:=hm name
 unfold nsFind findBy at e
 rw[←Array.find?_toList] at e
 unfold PySem.W.lookIn
 rw[hd]
 dsimp only
 split
 ·rename_i y q
  rw[q] at e
  exact congrArg some e
 ·rename_i q
  rw[q] at e
  have a:es.toList.any (·.refKey)=false:=by
   rw[List.any_eq_false]
   intro y hy
   obtain⟨z,t,hkey⟩:=hk y (Array.mem_toList_iff.mp hy)
   simp [DictEntry.refKey,hkey]
  have a':¬es.toList.any (·.refKey)=true:=by rw[a];exact Bool.false_ne_true
  rw[if_neg a']
  exact congrArg some e
theorem ObjM.look {h:Heap} {x dx C:Addr} {mA:Str→Option Value} (I:ObjM h x dx C mA):∃od,PySem.W.InstAt h x (PySem.W.instObj C dx) C (some od)∧∀name,PySem.W.lookIn name od=some (mA name) :=
 let ⟨od,ho,hl⟩:=lookIn_ns I.ns
 ⟨od,⟨I.obj,rfl,rfl,ho⟩,hl⟩
section
variable {prog : Program} {w : World} {A : Around} {E : Value → Shared → Prop} {s : Shared} {K : PySem.W.Frag} {x dx C f : Addr} {mA : Str → Option Value} {name : Str} {v : Value}
theorem get_map {expr:Bool} {Q:Value→Shared→Prop} (X:K.In s.heap) (I:ObjM s.heap x dx C mA) (hg:PySem.W.plainGet K C name=true) (hh:PySem.W.hasDictIn K C=true)
  (ha:PySem.W.findIn K (.ref C) name=some none) (hv:mA name=some v) (hv':PySem.W.handedIn v=true) (h:Q v {s with toks:=s.toks+1}) :
  wpAny (model prog w) A (getAttr (.ref x) name expr) Q E s:=by
 obtain⟨od,J,hl⟩:=I.look
 exact PySem.W.get_value X J (PySem.W.plainGet_of hg).1 (PySem.W.findObj_own hh ha rfl (by rw[hl,hv])) hv' h
theorem get_meth {pl:Sem Bool} {Q:Value×List Value→Shared→Prop} (X:K.In s.heap) (I:ObjM s.heap x dx C mA) (hg:PySem.W.plainGet K C name=true)
  (hf:PySem.W.findIn K (.ref C) name=some (some (.ref f))) (ht:PySem.W.isFn K (.ref f)=true) (hv:mA name=none) (h:Q (.ref f,[.ref x]) s) :
  wpAny (model prog w) A (getMethod (.ref x) name pl) Q E s:=by
 obtain⟨od,J,hl⟩:=I.look
 exact PySem.W.method_fn X J (PySem.W.plainGet_of hg).1 (PySem.W.plainGet_of hg).2 hf (beq_iff_eq.mp ht) (by show (PySem.W.lookIn name od).map (·.isSome)=some false;rw[hl,hv];rfl) h
theorem set_map {ns:List Str} {Q:Unit→Shared→Prop} (X:K.In s.heap) (I:ObjM s.heap x dx C mA)
  (hs:PySem.W.findIn K (.ref C) "__setattr__"=some (some (.builtin "object.__setattr__"))) (hp:PySem.W.plainOver K C=true) (ht:PySem.W.takerIn K C name=some none) (hh:PySem.W.hasDictIn K C=true)
  (hw:PySem.Within mA ns) (hsz:ns.length≤sizeLine)
  (h:∀h',ObjM h' x dx C (fun y=>if y=name then some v else mA y)→Heap.SameBut dx s.heap h'→Q () {s with heap:=h',toks:=s.toks+2}) :
  wpAny (model prog w) A (setAttr (.ref x) name v) Q E s:=by
 obtain⟨od,J,hl⟩:=I.look
 refine PySem.W.set_plain X J hs (PySem.W.osa_open (s:={s with toks:=s.toks+1}) (r:=none) X J hp ht fun b=>?_)
 obtain⟨cd,hc,hd'⟩:=PySem.W.any_some hh
 have hx:s.heap.get? x=some ⟨.ref C,some dx,.plain,#[]⟩:=I.obj
 refine wpAny_bind (wpAny_pure (wpAny_bind (wpAny_bind (wpAny_loadPart hx (wpAny_bind (PySem.W.Looks.here (s:={s with toks:=s.toks+1}) (PySem.W.looks_clsIn X hc) ?_))))))
 rw[hd']
 refine wpAny_pure (a:=some dx) (wpAny_bind (wpAny_pure (wpAny_bind ?_)))
 refine wpAny_nsSet1 (s:={s with toks:=s.toks+1}) I.ns fun h' hn2 hs2=>?_
 obtain⟨oD,esD,epD,hoD,hdD,hcD⟩:=hn2.count (PySem.Within.cons name v hw)
 refine wpAny_bind (wpAny_lookBehind hoD (by rw[hdD];exact pastItsLine_dict (Nat.le_trans hcD (by rw[List.length_cons];omega))) ?_)
 exact wpAny_pure (h _ ⟨(hs2.2 _ (Ne.symm I.ne)).trans I.obj,hn2,I.ne⟩ hs2)
theorem make_map {R:Result→Shared→Prop} {vs:List Value} {kw:List (Str×Value)} (X:K.In s.heap) (hm:PySem.W.makesIn K C=true)
  (hi:PySem.W.findIn K (.ref C) "__init__"=some (some (.ref f))) (hf:PySem.W.typeIn K (.ref f)=some (.type "function"))
  (h:codeAny (model prog w) (A.under (.builtin "type.__call__" ⟨.ref C::vs,kw⟩)) (.call (.ref f) ⟨.ref (s.heap.objs.size+1)::vs,kw⟩) (PySem.W.InitBack (s.heap.objs.size+1) R)
   {s with heap:=(s.heap.push PySem.W.emptyDict).push (PySem.W.instObj C s.heap.objs.size)}) :
  codeAny (model prog w) A (.call (.ref C) ⟨vs,kw⟩) R s:=by
 obtain⟨hh,g,d,t,os⟩:=s
 exact PySem.W.make_core (PySem.W.makes_of X hm) (PySem.W.looks_findIn X hi) (fun self=>PySem.W.bind_fn X self hf) (.inl rfl) h
end
def putF (f:Str) (v:V):List (Str×V)→List (Str×V)
 |[]=>[(f,v)]
 |(g,x)::r=>if g=f then (g,v)::r else (g,x)::putF f v r
theorem lookup_putF (f g:Str) (v:V):∀fs:List (Str×V),(putF f v fs).lookup g=if g=f then some v else fs.lookup g
 |[]=>by
  show List.lookup g [(f,v)]=_
  by_cases h:g=f
  ·have hb:(g==f)=true:=beq_iff_eq.mpr h
   simp only [List.lookup,hb,if_pos h]
  ·have hb:(g==f)=false:=beq_eq_false_iff_ne.mpr h
   simp only [List.lookup,hb,if_neg h]
 |(k,x)::r=>by
  have ih:=lookup_putF f g v r
  rw[show putF f v ((k,x)::r)=(if k=f then (k,v)::r else (k,x)::putF f v r) from rfl]
  by_cases hk:k=f
  ·rw[if_pos hk]
   by_cases h:g=k
   ·have hb:(g==k)=true:=beq_iff_eq.mpr h
    simp only [List.lookup,hb,if_pos (h.trans hk)]
   ·have hb:(g==k)=false:=beq_eq_false_iff_ne.mpr h
    simp only [List.lookup,hb,if_neg (fun e:g=f=>h (e.trans hk.symm))]
  ·rw[if_neg hk]
   by_cases h:g=k
   ·have hb:(g==k)=true:=beq_iff_eq.mpr h
    simp only [List.lookup,hb,if_neg (fun e:g=f=>hk (h.symm.trans e))]
   ·have hb:(g==k)=false:=beq_eq_false_iff_ne.mpr h
    simp only [List.lookup,hb]
    exact ih
theorem keys_putF (f:Str) (v:V):∀fs:List (Str×V),f∈(putF f v fs).map (·.1)∧∀g,g∈fs.map (·.1)→g∈(putF f v fs).map (·.1)
 |[]=>⟨by simp [putF],fun g h=>by simp at h⟩
 |(k,x)::r=>by
  obtain⟨i1,i2⟩:=keys_putF f v r
  rw[show putF f v ((k,x)::r)=(if k=f then (k,v)::r else (k,x)::putF f v r) from rfl]
  by_cases hk:k=f
  ·rw[if_pos hk]
   subst hk
   exact⟨by simp,fun g h=>by simpa using h⟩
  ·rw[if_neg hk]
   refine⟨?_,fun g h=>?_⟩
   ·rw[List.map_cons]
    exact List.mem_cons_of_mem _ i1
   ·rw[List.map_cons] at h ⊢
    rcases List.mem_cons.mp h with e|e
    ·exact List.mem_cons.mpr (.inl e)
    ·exact List.mem_cons_of_mem _ (i2 g e)
theorem length_putF (f:Str) (v:V):∀fs:List (Str×V),(putF f v fs).length≤fs.length+1
 |[]=>by simp [putF]
 |(k,x)::r=>by
  have ih:=length_putF f v r
  rw[show putF f v ((k,x)::r)=(if k=f then (k,v)::r else (k,x)::putF f v r) from rfl]
  by_cases hk:k=f
  ·rw[if_pos hk,List.length_cons,List.length_cons];omega
  ·rw[if_neg hk,List.length_cons,List.length_cons];omega
theorem RelO.some_of {v:V} {o:Option Value} (r:RelO (some v) o):∃u,o=some u∧RelV v u:=by
 cases o with
 |none=>exact (show False from r).elim
 |some u=>exact⟨u,rfl,r⟩
theorem RelO.none_of {o:Option Value} (r:RelO none o):o=none:=by
 cases o with
 |none=>rfl
 |some u=>exact (show False from r).elim
theorem handed_of {v:V} {u:Value} (r:RelV v u):PySem.W.handedIn u=true:=by
 cases v with
 |non=>cases (show u=Value.none from r);rfl
 |bl b=>cases (show u=Value.bool b from r);rfl
 |int i=>obtain⟨t,e⟩:=(show ∃t,u=Value.int i t from r);cases e;rfl
 |str x=>obtain⟨t,e⟩:=(show ∃t,u=Value.str x t from r);cases e;rfl
 |byt b=>obtain⟨t,e⟩:=(show ∃t,u=Value.bytes b t from r);cases e;rfl
 |flt b=>obtain⟨t,e⟩:=(show ∃t,u=Value.float b t from r);cases e;rfl
 |ref a=>cases (show u=Value.ref a from r);rfl
 |ty n=>cases (show u=Value.type n from r);rfl
section
variable {P : Program} {w : World} {H H' : Hp} {h h' : Heap} {a C dx : Addr} {fs fs' : List (Str × V)}
theorem ins_get (hok:HOk P w H h) (e:H a=some (.ins C dx fs)):∃mA,ObjM h a dx C mA∧(∀f,RelO (fs.lookup f) (mA f))∧PySem.Within mA (fs.map (·.1))∧fs.length≤1000∧H dx=some (.own a):=by
 obtain⟨d,z,ne,ob,mA,n,r,q⟩:=(show ObjOk P w H h a (.ins C dx fs) from hok a _ e)
 exact⟨mA,⟨ob,n,ne⟩,r,q,z,d⟩
end
structure Cls (K:PySem.W.Frag) (C:Addr):Prop where
 pg:PySem.W.plainGet K C Str.empty=true
 hd:PySem.W.hasDictIn K C=true
 po:PySem.W.plainOver K C=true
 sa:PySem.W.findIn K (.ref C) "__setattr__"=some (some (.builtin "object.__setattr__"))
theorem Cls.get {K:PySem.W.Frag} {C:Addr} (c:Cls K C) (f:Str):PySem.W.plainGet K C f=true:=c.pg
def NoAttr (K:PySem.W.Frag) (C:Addr) (f:Str):Prop:=PySem.W.findIn K (.ref C) f=some none
theorem NoAttr.taker {K:PySem.W.Frag} {C:Addr} {f:Str} (n:NoAttr K C f):PySem.W.takerIn K C f=some none:=by
 unfold PySem.W.takerIn
 rw[show PySem.W.findIn K (.ref C) f=some none from n]
 rfl
structure Meth (K:PySem.W.Frag) (C:Addr) (m:Str) (f:Addr):Prop where
 at_:PySem.W.findIn K (.ref C) m=some (some (.ref f))
 fn:PySem.W.isFn K (.ref f)=true
 kp:PySem.W.keepIn K (.ref f)=true
section
variable {X : Cx} {pins : List (Addr × Obj)} {σ : St} {H : Hp} {s : Shared} {a C dx : Addr} {fs : List (Str × V)} {f : Str} {v : V} {A : Around} {E : Value → Shared → Prop}
theorem getattr_ok {b:Bool} {Q:Value→Shared→Prop} (I:Inv X pins σ H s) (e:H a=some (.ins C dx fs)) (c:Cls X.K C) (n:NoAttr X.K C f) (l:fs.lookup f=some v)
  (h:∀u s',Inv X pins σ H s'→RelV v u→Q u s'):wpAny (model X.prog X.w) A (getAttr (.ref a) f b) Q E s:=by
 obtain⟨mA,O,r,_,_,_⟩:=ins_get I.hok e
 obtain⟨u,hu,ru⟩:=RelO.some_of (v:=v) (o:=mA f) (by rw[←l];exact r f)
 exact get_map I.kIn O (c.get f) c.hd n hu (handed_of ru) (h u _ (I.tok _) ru)
theorem getmeth_ok {m:Str} {g:Addr} {pl:Sem Bool} {Q:Value×List Value→Shared→Prop} (I:Inv X pins σ H s) (e:H a=some (.ins C dx fs)) (c:Cls X.K C) (k:Meth X.K C m g) (l:fs.lookup m=none)
  (h:Q (.ref g,[.ref a]) s):wpAny (model X.prog X.w) A (getMethod (.ref a) m pl) Q E s:=by
 obtain⟨mA,O,r,_,_,_⟩:=ins_get I.hok e
 have hn:mA m=none:=RelO.none_of (by rw[←l];exact r m)
 exact get_meth I.kIn O (c.get m) k.at_ k.fn hn h
theorem setattr_ok {y:V} {u:Value} {Q:Unit→Shared→Prop} (I:Inv X pins σ H s) (e:H a=some (.ins C dx fs)) (c:Cls X.K C) (n:NoAttr X.K C f) (hl:fs.length<1000) (ry:RelV y u)
  (h:∀s',Inv X pins σ (upd H a (.ins C dx (putF f y fs))) s'→Q () s'):wpAny (model X.prog X.w) A (setAttr (.ref a) f u) Q E s:=by
 obtain⟨mA,O,r,wi,_,ho⟩:=ins_get I.hok e
 have hz:(fs.map (·.1)).length≤sizeLine:=by rw[List.length_map,sizeLine_eq];omega
 refine set_map I.kIn O c.sa c.po n.taker c.hd wi hz fun h' O' sb=>h _ ?_
 have hd:∃o,h'.get? dx=some o:=let ⟨o,_,_,e',_⟩:=O'.ns;⟨o,e'⟩
 refine I.write (x:=a) (e:=dx) (by rw[e];exact True.intro) (.inr ho) (fun b q hb z=>(sb.2 b hb).trans z) hd ?_
 refine⟨by rw[upd_ne O.ne];exact ho,?_,O.ne,O'.obj,_,O'.ns,fun g=>?_,fun g hg=>?_⟩
 ·have:=length_putF f y fs;omega
 ·show RelO ((putF f y fs).lookup g) (if g=f then some u else mA g)
  rw[lookup_putF]
  by_cases q:g=f
  ·rw[if_pos q,if_pos q];exact ry
  ·rw[if_neg q,if_neg q];exact r g
 ·by_cases q:g=f
  ·rw[q];exact (keys_putF f y fs).1
  ·refine (keys_putF f y fs).2 g (wi g fun z=>hg ?_)
   show (if g=f then some u else mA g)=none
   rw[if_neg q];exact z
theorem Inv.made (I:Inv X pins σ H s):Inv X pins σ (upd (upd H s.heap.objs.size (.own (s.heap.objs.size+1))) (s.heap.objs.size+1) (.ins C s.heap.objs.size []))
  {s with heap:=(s.heap.push PySem.W.emptyDict).push (PySem.W.instObj C s.heap.objs.size)}:=by
 have e1:(s.heap.push PySem.W.emptyDict).get? s.heap.objs.size=some PySem.W.emptyDict:=Heap.get?_push_size s.heap rfl
 have e2:((s.heap.push PySem.W.emptyDict).push (PySem.W.instObj C s.heap.objs.size)).get? (s.heap.objs.size+1)=some (PySem.W.instObj C s.heap.objs.size):=by
  have:=Heap.get?_push_size (s.heap.push PySem.W.emptyDict) (o:=PySem.W.instObj C s.heap.objs.size) rfl
  rwa [Heap.size_push] at this
 have e3:(s.heap.push PySem.W.emptyDict).Ns s.heap.objs.size (fun _=>none):=⟨PySem.W.emptyDict,#[],_,e1,rfl,(fun e he=>absurd he (by simp)),fun _=>rfl⟩
 have I1:=I.laid (a:=s.heap.objs.size) (o:=.own (s.heap.objs.size+1)) (h':=s.heap.push PySem.W.emptyDict) (t':=s.toks) (fun b u q=>Heap.get?_push_of_some _ q) (Nat.le_refl _) ⟨_,e1⟩
 refine I1.laid (a:=s.heap.objs.size+1) (o:=.ins C s.heap.objs.size []) (t':=s.toks) (fun b u q=>Heap.get?_push_of_some _ q) (Nat.le_of_eq (Heap.size_push _ _)) ?_
 have ne:s.heap.objs.size≠s.heap.objs.size+1:=Nat.ne_of_lt (Nat.lt_succ_self _)
 refine⟨by rw[upd_ne ne,upd_same],Nat.zero_le _,ne,e2,fun _=>none,(Heap.Ns1.of_empty e3).at fun o q=>Heap.get?_push_of_some _ q,fun _=>True.intro,fun y hy=>absurd rfl hy⟩
theorem attr_of {prog:Program} {w:World} {env:Env} {e:Expr} {f:Str} {pos:Pos} {s:Shared} {Q:Value→Shared→Prop} (hb:attributeBase e f env (eval e env)=eval e env)
  (h:wpAny (model prog w) A (eval e env) (fun o s₁=>wpAny (model prog w) A (getAttr o f true) Q E s₁) E s):wpAny (model prog w) A (eval (.Attribute e f pos) env) Q E s :=
 Attribute_any_ h (by rw[arm_eval_Attribute,hb])
end
def tFld (K:PySem.W.Frag) (ta:TE) (f:Str):TE:=fun σ H Q=>ta σ H fun x H1=>∃a C dx fs v,x=.ref a∧H1 a=some (.ins C dx fs)∧Cls K C∧NoAttr K C f∧fs.lookup f=some v∧Q v H1
def sFld (K:PySem.W.Frag) (ta tv:TE) (f:Str):TS:=fun D σ H=>tv σ H fun y H1=>ta σ H1 fun x H2=>∃a C dx fs,x=.ref a∧H2 a=some (.ins C dx fs)∧Cls K C∧NoAttr K C f∧fs.length<1000 ∧
 D.nx σ (upd H2 a (.ins C dx (putF f y fs)))
def InOp (X:Cx) (op:Operator) (rd:V→V→Hp→VK→Prop):Prop :=
 ∀(pins:List (Addr×Obj)) (s:Shared) (σ:St) (H:Hp) (x y:V) (u v:Value) (Q:VK),Inv X pins σ H s→RelV x u→RelV y v→rd x y H Q→wpAny (model X.prog X.w) X.A (inplaceOp op u v) (EP X pins σ Q) X.xe s
def sFldAug (K:PySem.W.Frag) (ta tv:TE) (rd:V→V→Hp→VK→Prop) (f:Str):TS:=fun D σ H=>ta σ H fun x H1=>∃a C dx fs v,x=.ref a∧H1 a=some (.ins C dx fs)∧Cls K C∧NoAttr K C f∧fs.lookup f=some v ∧
 tv σ H1 fun y H2=>rd v y H2 fun z H3=>∃dx' fs',H3 a=some (.ins C dx' fs')∧fs'.length<1000∧D.nx σ (upd H3 a (.ins C dx' (putF f z fs')))
section
variable {X : Cx} {o e value : Expr} {f : Str} {pos pos' tpos : Pos} {ta tv : TE}
theorem pe_fld (he:PE X e ta) (hb:attributeBase e f X.env (eval e X.env)=eval e X.env):PE X (.Attribute e f pos) (tFld X.K ta f):=by
 intro pins s σ H Q I h
 refine attr_of hb (thn (he pins s σ H _ I h) fun u s1 ⟨x,H1,I1,rx,a,C,dx,fs,v,ex,ea,c,n,l,q⟩=>?_)
 subst ex
 obtain rfl:u=Value.ref a:=rx
 exact getattr_ok I1 ea c n l fun u' s2 I2 ru=>⟨v,H1,I2,ru,q⟩
theorem ps_fld (ha:PE X o ta) (hv:PE X value tv) (hs:swapsWith value (some (.Attribute o f pos')) pos.line X.env=pure false):PS X (.Assign [.Attribute o f pos'] value pos) (sFld X.K ta tv f):=by
 intro pins s σ H D I h
 refine plainObj_wpAny_Assign_Attribute (thn (hv pins s σ H _ I h) fun u s1 ⟨y,H1,I1,ry,q⟩=>thn (ha pins s1 σ H1 _ I1 q) fun ov s2 ⟨x,H2,I2,rx,a,C,dx,fs,ex,ea,c,n,l,q2⟩=>?_) hs
 subst ex
 obtain rfl:ov=Value.ref a:=rx
 exact setattr_ok I2 ea c n l ry fun s3 I3=>⟨σ,_,I3,q2⟩
theorem ps_fldaug {op:Operator} {rd:V→V→Hp→VK→Prop} (ha:PE X o ta) (hv:PE X value tv) (hop:InOp X op rd):PS X (.AugAssign (.Attribute o f tpos) op value pos) (sFldAug X.K ta tv rd f):=by
 intro pins s σ H D I h
 refine wpAny_AugAssign_AttributeAny (thn (ha pins s σ H _ I h) fun ov s1 ⟨x,H1,I1,rx,a,C,dx,fs,v,ex,ea,c,n,l,q⟩=>?_)
 subst ex
 obtain rfl:ov=Value.ref a:=rx
 refine getattr_ok I1 ea c n l fun u s2 I2 ru=>thn (hv pins s2 σ H1 _ I2 q) fun w3 s3 ⟨y,H2,I3,ry,q3⟩=>thn (hop pins s3 σ H2 v y u w3 _ I3 ru ry q3) fun w4 s4 ⟨z,H3,I4,rz,dx',fs',ea',l',q4⟩=>?_
 exact setattr_ok I4 ea' c n l' rz fun s5 I5=>⟨σ,_,I5,q4⟩
def rAdd:V→V→Hp→VK→Prop:=fun x y H Q=>∃i j,x=.int i∧y=.int j∧Q (.int (i+j)) H
theorem in_add:InOp X .Add rAdd:=by
 rintro pins s σ H x y u v Q I rx ry ⟨i,j,rfl,rfl,q⟩
 obtain⟨t,rfl⟩:=(show ∃t,u=Value.int i t from rx)
 obtain⟨t',rfl⟩:=(show ∃t',v=Value.int j t' from ry)
 exact PyProof.Rows.iadd_int ⟨.int (i+j),H,I.tok _,⟨_,rfl⟩,q⟩
theorem methcall_of {pl:Sem Bool} {m:Str} {apos:Pos} {args:List Expr} {pins:List (Addr×Obj)} {s:Shared} {σ:St} {H:Hp} {Q:Value→Shared→Prop} {te:TE} (he:PE X e te) (I:Inv X pins σ H s)
  (h:te σ H fun x H1=>∃a C dx fs g,x=.ref a∧H1 a=some (.ins C dx fs)∧Cls X.K C∧Meth X.K C m g∧fs.lookup m=none ∧
   ∀s1,Inv X pins σ H1 s1→wpAny (model X.prog X.w) X.A (callWith pos (.ref g) [.ref a] (backTo pos (starEach args X.env)) (backToKw pos (keywordEach [] X.env))) Q X.xe s1)
  (ht:eval (.Call (.Attribute e m apos) args [] pos) X.env=(do
   let ov ←eval e X.env
   standAt apos.atName
   let (f,first) ←holding [ov] (getMethod ov m pl)
   callWith pos f first (backTo pos (starEach args X.env)) (backToKw pos (keywordEach [] X.env)))) :
  wpAny (model X.prog X.w) X.A (eval (.Call (.Attribute e m apos) args [] pos) X.env) Q X.xe s:=by
 refine PySem.W.methodCall_KW (pl:=pl) (thn (he pins s σ H _ I h) fun u s1 ⟨x,H1,I1,rx,a,C,dx,fs,g,ex,ea,c,k,l,q⟩=>?_) ht
 subst ex
 obtain rfl:u=Value.ref a:=rx
 exact getmeth_ok I1 ea c k l (q s1 I1)
end
end L2
namespace L2
open PySem PySem.Spec PyProof.Rows
structure Room (k:Nat) (A:Around):Prop where
 hd:A.handled=none
 dp:A.depth+3*k+5<recursionLimit
 un:A.units+16*k+200<cLine
theorem Room.mono {j k:Nat} {A:Around} (r:Room k A) (h:j≤k):Room j A:=⟨r.hd,by have:=r.dp;omega,by have:=r.un;omega⟩
theorem Room.deeper {k:Nat} {A:Around} (r:Room (k+1) A) (env:Env):Room k (A.deeper env) :=
 ⟨r.hd,by have:=r.dp;show A.depth+1+3*k+5<_;omega,by have:=r.un;show A.units+3+16*k+200<_;omega⟩
theorem make_depth {A:Around} {C:Addr} {us:List Value} {kw:List (Str×Value)}:(A.under (.builtin "type.__call__" ⟨.ref C::us,kw⟩)).depth=A.depth+1:=by
 first|rfl|simp [Around.under,Code.weight,Code.isCreation,Code.isGuard,Code.isCaller,Code.frames,Code.isFrame,guardIds]
theorem make_units {A:Around} {C:Addr} {us:List Value} {kw:List (Str×Value)}:(A.under (.builtin "type.__call__" ⟨.ref C::us,kw⟩)).units=A.units+1:=by
 first|rfl|simp [Around.under,Code.cUnits,Code.frames,Code.isFrame]
theorem Room.make {k:Nat} {A:Around} (r:Room (k+1) A) (C:Addr) (us:List Value) (kw:List (Str×Value)):Room k (A.under (.builtin "type.__call__" ⟨.ref C::us,kw⟩)) :=
 ⟨r.hd,by have:=r.dp;rw[make_depth];omega,by have:=r.un;rw[make_units];omega⟩
theorem Room.depth {k:Nat} {A:Around} (r:Room k A):A.depth<recursionLimit:=by have:=r.dp;omega
theorem Room.units {k:Nat} {A:Around} (r:Room k A):A.units+64<cLine:=by have:=r.un;omega
def tNil:TA:=fun _ H Q=>Q [] H
def tCons (ta:TE) (tr:TA):TA:=fun σ H Q=>ta σ H fun x H1=>tr σ H1 fun xs H2=>Q (x::xs) H2
section
variable {X : Cx} {e : Expr} {es : List Expr} {te : TE} {t : TA} {pos : Pos}
theorem pa_nil:PA X [] tNil:=fun _ _ _ _ H Q I h=>Calls.spliced_nil ⟨[],H,I,.nil,h⟩
theorem pa_cons (ha:PE X e te) (hr:PA X es t) (hs:starEach (e::es) X.env=(false,eval e X.env)::starEach es X.env:=by rfl):PA X (e::es) (tCons te t):=by
 intro pos pins s σ H Q I h
 rw[hs]
 show wpAny _ _ (spliced ((false,eval e X.env)::backTo pos (starEach es X.env))) _ _ s
 refine Calls.spliced_cons (thn (ha pins s σ H _ I h) fun u s1 ⟨x,H1,I1,r1,q1⟩=>?_)
 exact thn (hr pos pins s1 σ H1 _ I1 q1) fun us s2 ⟨xs,H2,I2,r2,q2⟩=>⟨x::xs,H2,I2,.cons r1 r2,q2⟩
def tTup (t:TA):TE:=fun σ H Q=>t σ H fun xs H1=>xs.length≤sizeLine∧∀p,H1 p=none→Q (.ref p) (upd H1 p (.tup xs))
def tLst (t:TA):TE:=fun σ H Q=>t σ H fun xs H1=>xs.length≤sizeLine∧∀p,H1 p=none→Q (.ref p) (upd H1 p (.lst xs))
theorem pe_tup {x1} (h:PA X es t):PE X (.Tuple es x1 pos) (tTup t):=by
 intro pins s σ H Q I hq
 refine wpAny_Tuple_spliced (thn (h pos pins s σ H _ I hq) fun us s1 ⟨xs,H1,I1,r,z,q⟩=>⟨by rw[←r.length];exact z,?_⟩)
 have hf:H1 s1.heap.objs.size=none:=I1.hok.fresh (Nat.le_refl _)
 refine⟨.ref s1.heap.objs.size,upd H1 s1.heap.objs.size (.tup xs),I1.laid (t':=s1.toks) (fun b u e=>Heap.get?_push_of_some _ e) (Nat.le_refl _) ?_,rfl,q _ hf⟩
 exact⟨z,us,r,⟨_,Heap.get?_push_size _ rfl,rfl,_,rfl⟩⟩
theorem pe_lst (h:PA X es t):PE X (.List es pos) (tLst t):=by
 intro pins s σ H Q I hq
 refine wpAny_List_spliced (thn (h pos pins s σ H _ I hq) fun us s1 ⟨xs,H1,I1,r,z,q⟩=>⟨by rw[←r.length];exact z,?_⟩)
 have hf:H1 s1.heap.objs.size=none:=I1.hok.fresh (Nat.le_refl _)
 refine⟨.ref s1.heap.objs.size,upd H1 s1.heap.objs.size (.lst xs),I1.laid (t':=s1.toks) (fun b u e=>Heap.get?_push_of_some _ e) (Nat.le_refl _) ?_,rfl,q _ hf⟩
 exact⟨z,us,0,r,Heap.get?_push_size _ rfl⟩
end
abbrev Sp:=List V→Hp→VK→XK→Prop
abbrev CXT:=List Env→Hp→Shared→XK→Value→Shared→Prop
structure Env0 (P:Program) (w:World) (K:PySem.W.Frag) (mg:Str→Option Value) (base:Heap) (A:Around) (outer:List Env) (s:Shared) (H:Hp):Prop where
 frames:A.frames=some outer
 mod:Mod K mg base
 bs:∀b o,base.get? b=some o→s.heap.get? b=some o∧H b=none
 bsz:base.objs.size≤s.heap.objs.size
 funs:s.heap.FunFrames base outer
 frf:∀b∈frs outer,H b=none
 hok:HOk P w H s.heap
 bare:AllBare s.gens
def CE (outer:List Env) (P:Program) (w:World) (H:Hp) (s:Shared) (Q:VK) (u:Value) (s':Shared):Prop :=
 ∃v H',s'.os=s.os∧AllBare s'.gens∧Un (frs outer) [] H H' s.heap s'.heap∧HOk P w H' s'.heap∧RelV v u∧Q v H'
def CR (CX:CXT) (outer:List Env) (P:Program) (w:World) (H:Hp) (s:Shared) (Q:VK) (E:XK) (r:Result) (s':Shared):Prop :=
 match r with
 |.ok (.ret u)=>CE outer P w H s Q u s'
 |.ok _=>False
 |.error e=>CX outer H s E e s'
structure FnOk (P:Program) (w:World) (K:PySem.W.Frag) (mg:Str→Option Value) (base:Heap) (CX:CXT) (k:Nat) (f:Addr) (fd:FuncData) (ps:List Str) (sp:Sp):Prop where
 len:∀vs H Q E,sp vs H Q E→vs.length=ps.length
 run:∀(A:Around) (outer:List Env) (s:Shared) (H:Hp) (args:Args) (us:List Value) (vs:List V) (Q:VK) (E:XK),Room k A→Env0 P w K mg base A outer s H→BindsTo s fd args (ps.zip us)→Vals vs us→sp vs H Q E →
  codeAny (model P w) A (.call (.ref f) args) (CR CX outer P w H s Q E) s
theorem FnOk.mono {P:Program} {w:World} {K:PySem.W.Frag} {mg:Str→Option Value} {base:Heap} {CX:CXT} {j k:Nat} {f:Addr} {fd:FuncData} {ps:List Str} {sp:Sp} (F:FnOk P w K mg base CX j f fd ps sp) (h:j≤k) :
  FnOk P w K mg base CX k f fd ps sp:=⟨F.len,fun A outer s H args us vs Q E hr=>F.run A outer s H args us vs Q E (hr.mono h)⟩
theorem Env0.make {P:Program} {w:World} {K:PySem.W.Frag} {mg:Str→Option Value} {base:Heap} {A:Around} {outer:List Env} {s:Shared} {H:Hp} (e:Env0 P w K mg base A outer s H) (C:Addr) (us:List Value) (kw:List (Str×Value)) :
  Env0 P w K mg base (A.under (.builtin "type.__call__" ⟨.ref C::us,kw⟩)) outer s H:=⟨by first|exact e.frames|(simpa [Around.under,Code.envs,Code.isFrame,pushEnvs] using e.frames),e.mod,e.bs,e.bsz,e.funs,e.frf,e.hok,e.bare⟩
section
variable {X : Cx} {pins : List (Addr × Obj)} {σ : St} {H : Hp} {s s' : Shared}
theorem Inv.env0 (I:Inv X pins σ H s):Env0 X.prog X.w X.K X.mg X.base X.A X.stack s H :=
 ⟨I.ok.frames,I.ok.mod,I.bs,Nat.le_trans I.ok.bsz I.sz,I.stack,I.stkFree,I.hok,I.bare⟩
theorem Inv.after {Q:VK} {u:Value} (I:Inv X pins σ H s) (h:CE X.stack X.prog X.w H s Q u s'):EP X pins σ Q u s':=by
 obtain⟨v,H',os,bare,un,hok,r,q⟩:=h
 obtain⟨hh,g,d,t,os'⟩:=s'
 obtain rfl:os'=s.os:=os
 exact⟨v,H',I.call (h':=hh) (g':=g) (d':=d) (t':=t) (ch:=[]) un hok bare (fun b z=>absurd z (by simp)),r,q⟩
end
def tCall (sp:Sp) (dvs:List V) (E:XK) (t:TA):TE:=fun σ H Q=>t σ H fun vs H1=>sp (vs++dvs) H1 Q E
def tMeth (C:Addr) (m:Str) (sp:Sp) (dvs:List V) (E:XK) (ta:TE) (t:TA):TE:=fun σ H Q=>ta σ H fun x H1=>∃a dx fs,x=.ref a∧H1 a=some (.ins C dx fs)∧fs.lookup m=none ∧
 t σ H1 fun vs H2=>sp (x::(vs++dvs)) H2 Q E
def tMake (C:Addr) (sp:Sp) (dvs:List V) (E:XK) (t:TA):TE:=fun σ H Q=>t σ H fun vs H1=>∀x dx,H1 x=none→H1 dx=none→dx≠x →
 sp (.ref x::(vs++dvs)) (upd (upd H1 dx (.own x)) x (.ins C dx [])) (fun v H2=>v=.non∧Q (.ref x) H2) E
def Binds (K:PySem.W.Frag) (fd:FuncData) (ps:List Str) (ds:List Value):Prop :=
 ∀(s:Shared) (us:List Value),K.In s.heap→(us++ds).length=ps.length→BindsTo s fd ⟨us,[]⟩ (ps.zip (us++ds))
theorem Binds.all {K:PySem.W.Frag} {fd:FuncData} {ps:List Str} (h:∀us:List Value,us.length=ps.length→bindArgs fd ⟨us,[]⟩=pure (ps.zip us)):Binds K fd ps []:=fun s us _ hl=>by
 rw[List.append_nil] at hl ⊢
 exact .of_eq (h us hl)
def Passes (CX:CXT) (X:Cx) (E:XK):Prop:=∀(pins:List (Addr×Obj)) (σ:St) (H:Hp) (s:Shared) (e:Value) (s':Shared),Inv X pins σ H s→CX X.stack H s E e s'→X.xe e s'
section
variable {X : Cx} {CX : CXT} {k : Nat} {f C : Addr} {fd : FuncData} {ps : List Str} {sp : Sp} {dvs : List V} {ds : List Value} {E : XK} {x m : Str} {p pos apos : Pos} {e o : Expr} {es : List Expr} {ta : TE} {t : TA}
theorem run_fn {pins:List (Addr×Obj)} {σ:St} {H:Hp} {s:Shared} {Q:VK} {us:List Value} {vs:List V} (F:FnOk X.prog X.w X.K X.mg X.base CX k f fd ps sp) (hr:Room k X.A) (hb:Binds X.K fd ps ds) (hd:Vals dvs ds) (hx:Passes CX X E)
  (I:Inv X pins σ H s) (r:Vals vs us) (h:sp (vs++dvs) H Q E):wpAny (model X.prog X.w) X.A (call (.ref f) us) (EP X pins σ Q) X.xe s:=by
 have r2:Vals (vs++dvs) (us++ds):=r.append hd
 have hl:(us++ds).length=ps.length:=by rw[←r2.length];exact F.len _ _ _ _ h
 refine wpAny_call (codeAny_mono (F.run X.A X.stack s H ⟨us,[]⟩ (us++ds) (vs++dvs) Q E hr I.env0 (hb s us I.kIn hl) r2 h) fun r s' hq=>?_)
 cases r with
 |error e=>exact hx pins σ H s e s' I hq
 |ok fl =>
  cases fl with
  |ret u=>exact I.after hq
  |next=>exact False.elim hq
  |brk=>exact False.elim hq
  |cont=>exact False.elim hq
theorem pe_call (F:FnOk X.prog X.w X.K X.mg X.base CX k f fd ps sp) (hr:Room k X.A) (hg:Gl X x) (hm:X.mg x=some (.ref f)) (hk:PySem.W.keepIn X.K (.ref f)=true) (hb:Binds X.K fd ps ds) (hd:Vals dvs ds) (hx:Passes CX X E)
  (ha:PA X (e::es) t) (hdb:(x==("__debug__":Str))=false:=by decide) (he:starEach (e::es) X.env=(false,eval e X.env)::starEach es X.env:=by rfl) (hpl:(backTo pos (starEach es X.env)).any (·.1)=false:=by rfl) :
  PE X (.Call (.Name x p) (e::es) [] pos) (tCall sp dvs E t):=by
 intro pins s σ H Q I h
 refine wpAny_Call_Name_kw (ld_glob I hg hm ?_ hdb)
 refine PySem.W.callWith_K (h₀:=X.base) I.ok.mod.kin hk (thn (ha pos pins s σ H _ I h) fun us s1 ⟨vs,H1,I1,r,q⟩=>⟨I1.kIn,?_⟩) he hpl
 exact run_fn F hr hb hd hx I1 r q
theorem pe_call0 (F:FnOk X.prog X.w X.K X.mg X.base CX k f fd ps sp) (hr:Room k X.A) (hg:Gl X x) (hm:X.mg x=some (.ref f)) (hk:PySem.W.keepIn X.K (.ref f)=true) (hb:Binds X.K fd ps ds) (hd:Vals dvs ds) (hx:Passes CX X E)
  (hdb:(x==("__debug__":Str))=false:=by decide):PE X (.Call (.Name x p) [] [] pos) (tCall sp dvs E tNil):=by
 intro pins s σ H Q I h
 refine wpAny_Call_Name_kw (ld_glob I hg hm ?_ hdb)
 exact PySem.W.callWith_K0 I.kIn hk (run_fn (us:=[]) F hr hb hd hx I .nil h)
theorem pe_meth0 {pl:Sem Bool} (he:PE X o ta) (c:Cls X.K C) (hm:Meth X.K C m f) (F:FnOk X.prog X.w X.K X.mg X.base CX k f fd ps sp) (hr:Room k X.A) (hb:Binds X.K fd ps ds) (hd:Vals dvs ds) (hx:Passes CX X E)
  (ht:eval (.Call (.Attribute o m apos) [] [] pos) X.env=(do
   let ov ←eval o X.env
   standAt apos.atName
   let (f,first) ←holding [ov] (getMethod ov m pl)
   callWith pos f first (backTo pos (starEach [] X.env)) (backToKw pos (keywordEach [] X.env))):=by rfl) :
  PE X (.Call (.Attribute o m apos) [] [] pos) (tMeth C m sp dvs E ta tNil):=by
 intro pins s σ H Q I h
 refine PySem.W.methodCall_KW (pl:=pl) (thn (he pins s σ H _ I h) fun u s1 ⟨x,H1,I1,rx,a,dx,fs,ex,ea,l,q⟩=>?_) ht
 subst ex
 obtain rfl:u=Value.ref a:=rx
 refine getmeth_ok I1 ea c hm l ?_
 exact PySem.W.callWith_K0 (first:=[.ref a]) I1.kIn hm.kp (run_fn (us:=[.ref a]) (vs:=[.ref a]) F hr hb hd hx I1 (.cons rfl .nil) q)
structure Mk (K:PySem.W.Frag) (C f:Addr):Prop where
 makes:PySem.W.makesIn K C=true
 init:PySem.W.findIn K (.ref C) "__init__"=some (some (.ref f))
 fn:PySem.W.isFn K (.ref f)=true
 kp:PySem.W.keepIn K (.ref C)=true
theorem run_make {pins:List (Addr×Obj)} {σ:St} {H:Hp} {s:Shared} {Q:VK} {us:List Value} {vs:List V} (M:Mk X.K C f) (F:FnOk X.prog X.w X.K X.mg X.base CX k f fd ps sp) (hr:Room (k+1) X.A) (hb:Binds X.K fd ps ds) (hd:Vals dvs ds)
  (hx:Passes CX X E) (I:Inv X pins σ H s) (r:Vals vs us)
  (h:∀x dx,H x=none→H dx=none→dx≠x→sp (.ref x::(vs++dvs)) (upd (upd H dx (.own x)) x (.ins C dx [])) (fun v H2=>v=.non∧Q (.ref x) H2) E) :
  wpAny (model X.prog X.w) X.A (call (.ref C) us) (EP X pins σ Q) X.xe s:=by
 have hq:=h (s.heap.objs.size+1) s.heap.objs.size (I.hok.fresh (Nat.le_succ _)) (I.hok.fresh (Nat.le_refl _)) (Nat.ne_of_lt (Nat.lt_succ_self _))
 have I2:=Inv.made (C:=C) I
 have r2:Vals (V.ref (s.heap.objs.size+1)::(vs++dvs)) (Value.ref (s.heap.objs.size+1)::(us++ds)):=.cons rfl (r.append hd)
 have hl:(Value.ref (s.heap.objs.size+1)::us++ds).length=ps.length:=by
  have e:=r2.length
  rw[F.len _ _ _ _ hq] at e
  exact e.symm
 refine wpAny_call (make_map (f:=f) I.kIn M.makes M.init (beq_iff_eq.mp M.fn) (codeAny_mono (F.run _ X.stack _ _ ⟨Value.ref (s.heap.objs.size+1)::us,[]⟩ (Value.ref (s.heap.objs.size+1)::(us++ds)) _ _ E (hr.make C us [])
  (I2.env0.make C us []) (hb _ (Value.ref (s.heap.objs.size+1)::us) I2.kIn hl) r2 hq) fun r s' hq'=>?_))
 cases r with
 |error e=>exact hx pins σ _ _ e s' I2 hq'
 |ok fl =>
  cases fl with
  |ret u =>
   obtain⟨v,H',I3,rv,ev,q3⟩:=I2.after hq'
   subst ev
   exact⟨rv,⟨V.ref (s.heap.objs.size+1),H',I3,rfl,q3⟩⟩
  |next=>exact False.elim hq'
  |brk=>exact False.elim hq'
  |cont=>exact False.elim hq'
theorem pe_make (M:Mk X.K C f) (F:FnOk X.prog X.w X.K X.mg X.base CX k f fd ps sp) (hr:Room (k+1) X.A) (hg:Gl X x) (hm:X.mg x=some (.ref C)) (hb:Binds X.K fd ps ds) (hd:Vals dvs ds) (hx:Passes CX X E)
  (ha:PA X (e::es) t) (hdb:(x==("__debug__":Str))=false:=by decide) (he:starEach (e::es) X.env=(false,eval e X.env)::starEach es X.env:=by rfl) (hpl:(backTo pos (starEach es X.env)).any (·.1)=false:=by rfl) :
  PE X (.Call (.Name x p) (e::es) [] pos) (tMake C sp dvs E t):=by
 intro pins s σ H Q I h
 refine wpAny_Call_Name_kw (ld_glob I hg hm ?_ hdb)
 refine PySem.W.callWith_K (h₀:=X.base) I.ok.mod.kin M.kp (thn (ha pos pins s σ H _ I h) fun us s1 ⟨vs,H1,I1,r,q⟩=>⟨I1.kIn,?_⟩) he hpl
 exact run_make M F hr hb hd hx I1 r q
end
structure FnScope (N P:List Str) (sc:Scope):Prop where
 kind:sc.kind=.function
 co:sc.isCoroutine=false
 gen:sc.isGenerator=false
 nd:N.Nodup
 pre:N.take P.length=P
 par:∀x∈P,sc.names.lookup x=some .local∨sc.names.lookup x=some .cell
 nofree:∀y∈sc.names,y.2≠.free
theorem bindL_out {kindOf:Str→Option NameKind} {x:Str}:∀{binds:List (Str×Value)} {m:Str→Option Value},(∀v,(x,v)∉binds)→bindL kindOf binds m x=m x
 |[],_,_=>rfl
 |(n,v)::r,m,h=>by
  unfold bindL
  rw[bindL_out fun w hw=>h w (List.mem_cons_of_mem _ hw)]
  split
  ·have:x≠n:=by rintro rfl;exact h v List.mem_cons_self
   simp [this]
  ·rfl
theorem bindC_out {kindOf:Str→Option NameKind} {x:Str}:∀{binds:List (Str×Value)} {m:Str→Option Value},(∀v,(x,v)∉binds)→bindC kindOf binds m x=m x
 |[],_,_=>rfl
 |(n,v)::r,m,h=>by
  unfold bindC
  rw[bindC_out fun w hw=>h w (List.mem_cons_of_mem _ hw)]
  split
  ·rfl
  ·have:x≠n:=by rintro rfl;exact h v List.mem_cons_self
   simp [this]
theorem bindL_get {kindOf:Str→Option NameKind} {x:Str} {v:Value}:∀{P:List Str} {vs:List Value} {i:Nat} {m:Str→Option Value},P.Nodup→P[i]?=some x→vs[i]?=some v→kindOf x=some .local →
  bindL kindOf (P.zip vs) m x=some v
 |[],_,_,_,_,h,_,_=>by simp at h
 |_::_,[],_,_,_,_,h,_=>by simp at h
 |p::P,w::vs,0,m,nd,h1,h2,hk=>by
  simp at h1 h2;subst h1;subst h2
  show bindL kindOf ((p,w)::P.zip vs) m p=_
  unfold bindL
  rw[bindL_out fun v hv=>(List.nodup_cons.mp nd).1 (List.of_mem_zip hv).1,if_pos hk]
  simp
 |p::P,w::vs,i+1,m,nd,h1,h2,hk=>by
  show bindL kindOf ((p,w)::P.zip vs) m x=_
  unfold bindL
  exact bindL_get (i:=i) (List.nodup_cons.mp nd).2 (by simpa using h1) (by simpa using h2) hk
theorem bindC_get {kindOf:Str→Option NameKind} {x:Str} {v:Value}:∀{P:List Str} {vs:List Value} {i:Nat} {m:Str→Option Value},P.Nodup→P[i]?=some x→vs[i]?=some v→kindOf x≠some .local →
  bindC kindOf (P.zip vs) m x=some v
 |[],_,_,_,_,h,_,_=>by simp at h
 |_::_,[],_,_,_,_,h,_=>by simp at h
 |p::P,w::vs,0,m,nd,h1,h2,hk=>by
  simp at h1 h2;subst h1;subst h2
  show bindC kindOf ((p,w)::P.zip vs) m p=_
  unfold bindC
  rw[bindC_out fun v hv=>(List.nodup_cons.mp nd).1 (List.of_mem_zip hv).1,if_neg hk]
  simp
 |p::P,w::vs,i+1,m,nd,h1,h2,hk=>by
  show bindC kindOf ((p,w)::P.zip vs) m x=_
  unfold bindC
  exact bindC_get (i:=i) (List.nodup_cons.mp nd).2 (by simpa using h1) (by simpa using h2) hk
def start (N:List Str) (vs:List V):St:=vs.map some++List.replicate (N.length-vs.length) none
def cxOf (CX:CXT) (P:Program) (w:World) (K:PySem.W.Frag) (mg:Str→Option Value) (base:Heap) (N:List Str) (qual:Str) (scope:Scope) (f:Addr) (cd:Value) (A:Around) (outer:List Env) (s:Shared) (H:Hp) (E:XK):Cx where
 prog:=P
 w:=w
 K:=K
 mg:=mg
 base:=base
 A:=A.deeper (envOfC qual scope s.heap.objs.size f cd)
 N:=N
 s_0:=s
 H_0:=H
 env:=envOfC qual scope s.heap.objs.size f cd
 outer:=outer
 stack:=envOfC qual scope s.heap.objs.size f cd::outer
 ex:=[]
 calm:=true
 fn:=fun _=>true
 pn:=[]
 xe:=fun e s'=>wpAny (model P w) (A.deeper (envOfC qual scope s.heap.objs.size f cd)) (leaving (envOfC qual scope s.heap.objs.size f cd) e) (fun _ s''=>CX outer H s E e s'') (fun e' s''=>CX outer H s E e' s'') s'
theorem cell_has {sc:Scope} {n:Nat} {x:Str} (h:sc.names.lookup x=some .cell):∃c,(cellsFrom n sc.names []).lookup x=some c:=by
 have q:=PySem.W.cellsFrom_some sc.names n [] (.inl h)
 exact Option.isSome_iff_exists.mp q
theorem inv_start {CX:CXT} {P:Program} {w:World} {K:PySem.W.Frag} {mg:Str→Option Value} {base:Heap} {N ps:List Str} {qual:Str} {scope:Scope} {f:Addr} {cd:Value} {A:Around} {outer:List Env} {s s1:Shared} {H:Hp} {E:XK} {us:List Value} {vs:List V}
  (S:FnScope N ps scope) (hd:A.handled=none) (e0:Env0 P w K mg base A outer s H) (hl:vs.length=ps.length) (r:Vals vs us)
  (x:InCallC s s.heap.objs.size (bindL (envOfC qual scope s.heap.objs.size f cd).kindOf (ps.zip us) fun _=>none) (cellsFrom (s.heap.objs.size+1) scope.names []) (bindC (envOfC qual scope s.heap.objs.size f cd).kindOf (ps.zip us) fun _=>none) s1) :
  Inv (cxOf CX P w K mg base N qual scope f cd A outer s H E) [] (start N vs) H s1:=by
 have hpl:ps.length≤N.length:=by have:=congrArg List.length S.pre;rw[List.length_take] at this;omega
 obtain⟨h1,tk,rfl,hk⟩:=x.done
 have noA:∀b:Addr,b∉(cxOf CX P w K mg base N qual scope f cd A outer s H E).ex:=fun b z=>absurd (show b∈([]:List Addr) from z) (by simp)
 refine⟨⟨e0.mod,S.kind,rfl,rfl,Nat.le_refl _,fun y z c h1 h2=>?_,fun y hy=>?_,fun y c _ h=>?_,fun _=>hd,Around.frames_deeper e0.frames,.inr ⟨rfl,rfl⟩,fun b z=>absurd z (noA b),e0.bs,e0.bsz,fun b _ _=>noA b,fun b z=>absurd z (noA b),e0.funs,e0.frf⟩,
  rfl,e0.bare,Un.kept hk,⟨_,x.toInCall.ns,fun i y v h1 h2 h3=>?_⟩,fun y c h=>⟨_,x.cell y c h⟩,e0.hok.fresh (Nat.le_refl _),fun y c h=>?_,fun p hp=>absurd (show p∈([]:List (Addr×Obj)) from hp) (by simp),e0.hok.kept hk,?_⟩
 ·exact name_of_addr x.apart (PySem.mem_of_lookup h1) (PySem.mem_of_lookup h2)
 ·have hy:scope.names.lookup y=some .cell∨scope.names.lookup y=some .free:=hy
  rcases hy with hy|hy
  ·exact cell_has hy
  ·exact absurd rfl (S.nofree _ (PySem.mem_of_lookup hy))
 ·exact Nat.le_of_lt (x.above y c (PySem.mem_of_lookup h))
 ·have hi:i<vs.length:=by
   unfold start at h2
   by_cases hi:i<vs.length
   ·exact hi
   ·rw[List.getElem?_append_right (by simpa using hi)] at h2
    rw[List.getElem?_replicate] at h2
    split at h2<;>cases h2
  have ha:vs[i]?=some v:=by
   unfold start at h2
   rw[List.getElem?_append_left (by simpa using hi),List.getElem?_map] at h2
   cases e:vs[i]? with
   |none=>rw[e] at h2;cases h2
   |some a=>rw[e] at h2;cases h2;rfl
  obtain⟨u,hu,rv⟩:=r.get ha
  have hp:ps[i]?=some y:=by
   rw[←S.pre,List.getElem?_take_of_lt (by omega)];exact h1
  have ndP:ps.Nodup:=by rw[←S.pre];exact S.nd.sublist (List.take_sublist _ _)
  refine⟨u,rv,?_⟩
  rcases S.par y (List.mem_of_getElem? hp) with k|k
  ·exact .inl ⟨k,bindL_get ndP hp hu k⟩
  ·obtain⟨c,e⟩:=cell_has (n:=s.heap.objs.size+1) k
   refine .inr ⟨.inl k,c,e,?_⟩
   have q:=x.cell y c e
   rw[bindC_get ndP hp hu (by show scope.names.lookup y≠_;rw[k];decide)] at q
   exact q
 ·exact e0.hok.fresh (Nat.le_of_lt (x.above y c (PySem.mem_of_lookup h)))
 ·unfold start
  show _=N.length
  rw[List.length_append,List.length_map,List.length_replicate]
  omega
theorem fn_of {CX:CXT} {P:Program} {w:World} {K:PySem.W.Frag} {mg:Str→Option Value} {base:Heap} {k:Nat} {f:Addr} {name qual:Str} {params:Arguments} {body:List Stmt} {scope:Scope} {dV kV doc pm cdv ct oc:Value} {an od:Option Addr}
  {osl:Array (Option Value)} {N ps:List Str} {sp:Sp} (lk:K.lookup f=some ⟨oc,od,.func (PySem.W.fnOf name qual params body scope dV kV doc pm an cdv ct),osl⟩) (hcd:PySem.W.codeIn K cdv qual=true) (S:FnScope N ps scope)
  (len:∀vs H Q E,sp vs H Q E→vs.length=ps.length)
  (hbody:∀(A:Around) (outer:List Env) (s:Shared) (H:Hp) (vs:List V) (Q:VK) (E:XK),Room k (A.deeper (envOfC qual scope s.heap.objs.size f cdv))→sp vs H Q E →
   ∃t,PSs (cxOf CX P w K mg base N qual scope f cdv A outer s H E) body t∧t {nx:=fun _ H'=>Q .non H',rt:=Q} (start N vs) H) :
  FnOk P w K mg base CX (k+1) f (PySem.W.fnOf name qual params body scope dV kV doc pm an cdv ct) ps sp:=by
 refine⟨len,fun A outer s H args us vs Q E hr e0 hb r hsp=>?_⟩
 have hl:=len _ _ _ _ hsp
 have KX:K.In s.heap:=e0.mod.kin.keeps fun b o e=>(e0.bs b o e).1
 have lim:s.heap.NoLimit:=e0.mod.nolimit.keeps fun b o e=>(e0.bs b o e).1
 have hkind:∀y∈ps.zip us,scope.names.lookup y.1=some .local∨(scope.names.lookup y.1=some .cell∧((cellsFrom (s.heap.objs.size+1) scope.names []).lookup y.1).isSome=true):=fun⟨n,v⟩ hy=>by
  rcases S.par n (List.of_mem_zip hy).1 with q|q
  ·exact .inl q
  ·exact .inr ⟨q,PySem.W.cellsFrom_some _ _ _ (.inl q)⟩
 refine codeAny_call_function hr.depth (KX _ _ lk) rfl S.co S.gen rfl (PySem.W.codeRec_of KX hcd) (hb _ _ _ _ ?_)
 refine wpAny_newFunctionEnv_cells S.kind hkind fun env he s1 x=>?_
 subst he
 refine⟨lim.keeps x.toInCall.keep,codeAny_func ?_⟩
 obtain⟨t,ht,hq⟩:=hbody A outer s H vs Q E (hr.deeper _) hsp
 have I:Inv (cxOf CX P w K mg base N qual scope f cdv A outer s H E) [] (start N vs) H s1:=inv_start S hr.hd e0 hl r x
 refine wpAny_mono (ht [] s1 (start N vs) H _ I hq) (fun fl s' hs=>?_) fun e s' hs=>hs
 have fin:∀{σ':St} {H':Hp} {v:V} {u:Value},Inv (cxOf CX P w K mg base N qual scope f cdv A outer s H E) [] σ' H' s'→RelV v u→Q v H'→CE outer P w H s Q u s' :=
  fun {σ' H' v u} J rv q=>⟨v,H',J.os,J.bare,J.base,J.hok,rv,q⟩
 cases fl with
 |ret u =>
  obtain⟨v,σ',H',J,rv,q⟩:=hs
  exact fin J rv q
 |next =>
  obtain⟨σ',H',J,q⟩:=hs
  exact fin (v:=V.non) (u:=Value.none) J rfl q
 |brk =>
  obtain⟨_,_,_,q⟩:=hs
  exact False.elim q
 |cont =>
  obtain⟨_,_,_,q⟩:=hs
  exact False.elim q
end L2
namespace L2
open PySem PySem.Spec PyProof.Rows
section
variable {X : Cx} {x : Str} {p pos : Pos} {e : Expr} {es : List Expr} {t : TA} {id T : String} {r : List V → Hp → VK → Prop}
def tCB (r:List V→Hp→VK→Prop) (t:TA):TE:=fun σ H Q=>t σ H fun vs H1=>r vs H1 Q
theorem pe_callB (hc:CallR X (.builtin id) r) (hg:Gl X x) (hm:X.mg x=none) (hv:bootBuiltins x=some (.builtin id)) (ha:PA X (e::es) t) (hn:x≠"__name__":=by decide) (hdb:(x==("__debug__":Str))=false:=by decide)
  (he:starEach (e::es) X.env=(false,eval e X.env)::starEach es X.env:=by rfl) (hpl:(backTo pos (starEach es X.env)).any (·.1)=false:=by rfl):PE X (.Call (.Name x p) (e::es) [] pos) (tCB r t):=by
 intro pins s σ H Q I h
 refine wpAny_Call_Name_kw (ld_blt I hg hm hv ?_ hn hdb)
 exact PyProof.Rows.callWith_builtin1 (thn (ha pos pins s σ H _ I h) fun us s1 ⟨vs,H1,I1,r1,q1⟩=>hc pins s1 σ H1 vs us Q I1 r1 q1) he hpl
theorem pe_callTy (hc:CallR X (.type T) r) (hg:Gl X x) (hm:X.mg x=none) (hv:bootBuiltins x=some (.type T)) (ha:PA X (e::es) t) (hn:x≠"__name__":=by decide) (hdb:(x==("__debug__":Str))=false:=by decide)
  (he:starEach (e::es) X.env=(false,eval e X.env)::starEach es X.env:=by rfl) (hpl:(backTo pos (starEach es X.env)).any (·.1)=false:=by rfl):PE X (.Call (.Name x p) (e::es) [] pos) (tCB r t):=by
 intro pins s σ H Q I h
 refine wpAny_Call_Name_kw (ld_blt I hg hm hv ?_ hn hdb)
 exact PyProof.Rows.callWith_type1 (thn (ha pos pins s σ H _ I h) fun us s1 ⟨vs,H1,I1,r1,q1⟩=>hc pins s1 σ H1 vs us Q I1 r1 q1) he hpl
end
end L2
namespace HT
open PySem PyProof.Rows
section
variable {prog : Program} {w : World} {A : Around} {E : Value → Shared → Prop} {s : Shared}
def sIx (n d:Nat):Option Int→Nat
 |none=>d
 |some v=>if v<0 then (v+(n:Int)).toNat else min v.toNat n
end
end HT
namespace L2
open PySem PySem.Spec PyProof.Rows
abbrev TO:=St→Hp→(Option Int→Hp→Prop)→Prop
def PO (X:Cx) (e:Option Expr) (t:TO):Prop :=
 ∀(pins:List (Addr×Obj)) (s:Shared) (σ:St) (H:Hp) (Q:Option Int→Hp→Prop),Inv X pins σ H s→t σ H Q →
  wpAny (model X.prog X.w) X.A (evalPart e X.env) (fun u s'=>∃o H',Inv X pins σ H' s'∧IsPart u o∧Q o H') X.xe s
def tPart (t:TE):TO:=fun σ H Q=>t σ H fun x H1=>∃i,x=.int i∧Q (some i) H1
section
variable {X : Cx} {e : Expr} {te : TE} {lo hi : Option Expr} {tl th : TO} {pos p2 : Pos}
theorem po_some (h:PE X e te):PO X (some e) (tPart te):=by
 intro pins s σ H Q I hw
 rw[evalPart_some]
 refine thn (h pins s σ H _ I hw) fun u s1 ⟨x,H1,I1,r1,q1⟩=>?_
 obtain⟨i,rfl,q⟩:=q1
 obtain⟨t,rfl⟩:=r1
 exact⟨some i,H1,I1,.int i t,q⟩
def SlR (X:Cx) (r:V→Option Int→Option Int→Hp→VK→Prop):Prop :=
 ∀(pins:List (Addr×Obj)) (s:Shared) (σ:St) (H:Hp) (x:V) (v vl vu:Value) (lo hi:Option Int) (sl:Addr) (Q:VK),Inv X pins σ H s→RelV x v→s.heap.IsSliceOf sl vl vu .none→IsPart vl lo→IsPart vu hi→r x lo hi H Q →
  ∃T id,typeLookup (.type T) "__getitem__"=pure (some (.builtin id))∧s.TypeIs v T∧wpAny (model X.prog X.w) X.A (getItem v (.ref sl)) (EP X pins σ Q) X.xe s
def tSl (r:V→Option Int→Option Int→Hp→VK→Prop) (te:TE) (tl th:TO):TE:=fun σ H Q=>te σ H fun x H1=>tl σ H1 fun l H2=>th σ H2 fun u H3=>r x l u H3 Q
theorem pe_slice {r:V→Option Int→Option Int→Hp→VK→Prop} (hr:SlR X r) (he:PE X e te) (hl:PO X lo tl) (hu:PO X hi th):PE X (.Subscript e (.Slice lo hi none p2) pos) (tSl r te tl th):=by
 intro pins s σ H Q I h
 refine Subscript_ (thn (he pins s σ H _ I h) fun v s1 ⟨x,H1,I1,r1,q1⟩=>?_)
 refine wpAny_Slice (thn (hl pins s1 σ H1 _ I1 q1) fun vl s2 ⟨l,H2,I2,pl,q2⟩=>thn (hu pins s2 σ H2 _ I2 q2) fun vu s3 ⟨u,H3,I3,pu,q3⟩=>?_)
 rw[evalPart_none]
 refine wpAny_pure ?_
 have I4:Inv X pins σ H3 {s3 with heap:=s3.heap.push {cls:=.type "slice",data:=.fields #[vl,vu,.none]}}:=I3.kept (t':=s3.toks) fun b ob q=>Heap.get?_push_of_some _ q
 obtain⟨T,id,hT,ht,hg⟩:=hr pins {s3 with heap:=s3.heap.push {cls:=.type "slice",data:=.fields #[vl,vu,.none]}} σ H3 x v vl vu l u s3.heap.objs.size Q I4 r1 (Heap.IsSliceOf.new ..) pl pu q3
 show wpAny (model X.prog X.w) X.A (subscriptTail e (.Slice lo hi none p2) v (.ref s3.heap.objs.size)) (EP X pins σ Q) X.xe {s3 with heap:=s3.heap.push {cls:=.type "slice",data:=.fields #[vl,vu,.none]}}
 exact tail_any (ops:=[.ref s3.heap.objs.size,v]) ht hT hg (by with_unfolding_all rfl)
def cutV (xs:List V) (lo hi:Option Int):List V:=(xs.drop (HT.sIx xs.length 0 lo)).take (HT.sIx xs.length xs.length hi-HT.sIx xs.length 0 lo)
theorem cutV_length (xs:List V) (lo hi:Option Int):(cutV xs lo hi).length≤xs.length:=by
 unfold cutV
 rw[List.length_take,List.length_drop]
 omega
end
end L2
namespace L2
open PySem PySem.Spec PyProof.Rows
def ixN (n:Nat) (i:Int):Option Nat:=if 0≤i then (if i<n then some i.toNat else none) else if -(n:Int)≤i then some (i+n).toNat else none
def atI {α:Type} (xs:List α) (i:Int):Option α:=(ixN xs.length i).bind fun j=>xs[j]?
theorem ixN_seq {n:Nat} {i:Int} {j:Nat} (h:ixN n i=some j):seqIndex? i n=some j∧j<n∧-(n:Int)≤i∧i<n:=by
 unfold ixN at h
 by_cases h0:0≤i
 ·rw[if_pos h0] at h
  by_cases h1:i<n
  ·rw[if_pos h1] at h
   have e:i.toNat=j:=Option.some.inj h
   exact⟨by rw[seqIndex_of h0 h1,e],by omega,by omega,h1⟩
  ·rw[if_neg h1] at h;cases h
 ·rw[if_neg h0] at h
  by_cases h1:-(n:Int)≤i
  ·rw[if_pos h1] at h
   have e:(i+n).toNat=j:=Option.some.inj h
   exact⟨by rw[seqIndex_neg (by omega) h1,e],by omega,h1,by omega⟩
  ·rw[if_neg h1] at h;cases h
theorem atI_get {α:Type} {xs:List α} {i:Int} {v:α} (h:atI xs i=some v):∃j,seqIndex? i xs.length=some j∧xs[j]?=some v∧j<xs.length∧-(xs.length:Int)≤i∧i<xs.length:=by
 unfold atI at h
 cases e:ixN xs.length i with
 |none=>rw[e] at h;cases h
 |some j =>
  rw[e] at h
  obtain⟨h1,h2,h3,h4⟩:=ixN_seq e
  exact⟨j,h1,h,h2,h3,h4⟩
theorem atI_nat {α:Type} {xs:List α} {j:Nat} {v:α} (h:xs[j]?=some v):atI xs (j:Int)=some v:=by
 have hj:j<xs.length:=(List.getElem?_eq_some_iff.mp h).1
 have e:ixN xs.length (j:Int)=some j:=by
  unfold ixN
  rw[if_pos (by omega),if_pos (by omega)];simp
 unfold atI;rw[e];exact h
def PlainIx (b:Expr):Prop:=∀o i,subscripted b false o i=operate [o,i] (getItem o i)
def IxR (X:Cx) (r:R2):Prop :=
 ∀(value slice:Expr) (pins:List (Addr×Obj)) (s:Shared) (σ:St) (H:Hp) (x y:V) (v u:Value) (Q:VK),Inv X pins σ H s→RelV x v→RelV y u→r x y H Q →
  subscripted slice false v u=operate [v,u] (getItem v u)→wpAny (model X.prog X.w) X.A (subscriptTail value slice v u) (EP X pins σ Q) X.xe s
def MtR (X:Cx) (id:String) (r:V→List V→Hp→VK→Prop):Prop :=
 ∀(pins:List (Addr×Obj)) (s:Shared) (σ:St) (H:Hp) (x:V) (xs:List V) (v:Value) (us:List Value) (Q:VK),Inv X pins σ H s→RelV x v→Vals xs us→r x xs H Q →
  wpAny (model X.prog X.w) X.A (call (.builtin id) (v::us)) (EP X pins σ Q) X.xe s
section
variable {X : Cx} {a b : Expr} {ta tb : TE} {pos : Pos}
theorem pe_ix {r:R2} (hr:IxR X r) (ha:PE X a ta) (hb:PE X b tb) (hs:PlainIx b):PE X (.Subscript a b pos) (tOp r ta tb):=by
 intro pins s σ H Q I h
 exact Subscript_ (binT ha hb I h fun v u s2 x y H2 I2 rx ry q=>hr a b pins s2 σ H2 x y v u Q I2 rx ry q (hs _ _))
def rIxL (K:PySem.W.Frag):R2:=fun x y H Q=>∃p xs i v,x=.ref p∧y=.int i∧SqL K H p xs∧atI xs i=some v∧Q v H
def rIxT (K:PySem.W.Frag):R2:=fun x y H Q=>∃p xs i v,x=.ref p∧y=.int i∧SqT K H p xs∧atI xs i=some v∧Q v H
theorem ix_list:IxR X (rIxL X.K):=by
 intro value slice pins s σ H x y v u Q I rx ry h hs
 obtain⟨p,xs,i,z,rfl,rfl,hq,he,q⟩:=h
 cases rx
 obtain⟨t,rfl⟩:=ry
 obtain⟨its,r,pl,hz⟩:=I.list hq
 obtain⟨j,h1,h2,h3,h4,h5⟩:=atI_get he
 obtain⟨w,ew,rw'⟩:=r.get h2
 have hl:=r.length
 have hn:=line63
 have fin:EP X pins σ Q w s:=⟨z,H,I,rw',q⟩
 by_cases h0:0≤i
 ·have hj:i.toNat=j:=by
   rw[seqIndex_of h0 h5] at h1
   exact Option.some.inj h1
  exact item_listR pl.isList h0 (by omega) (by rw[hj];simpa using ew) fin hs
 ·have hj:(i+(its.toArray.size:Int)).toNat=j:=by
   rw[seqIndex_neg (by omega) h4] at h1
   rw[List.size_toArray,←hl]
   exact Option.some.inj h1
  exact subscriptTail_builtinR (x:=w) pl.isList.typeIs slot_list_getitem.lookup
   (wpAny_getItem_list_neg (Q:=fun r s'=>r=w∧EP X pins σ Q r s') pl.isList (by omega) (by rw[List.size_toArray]<;>omega) (by omega) (by rw[hj];simpa using ew) ⟨rfl,fin⟩) hs
theorem ix_tup:IxR X (rIxT X.K):=by
 intro value slice pins s σ H x y v u Q I rx ry h hs
 obtain⟨p,xs,i,z,rfl,rfl,hq,he,q⟩:=h
 cases rx
 obtain⟨t,rfl⟩:=ry
 obtain⟨its,r,pl,hz⟩:=I.tuple hq
 obtain⟨j,h1,h2,h3,h4,h5⟩:=atI_get he
 obtain⟨w,ew,rw'⟩:=r.get h2
 have hl:=r.length
 have hn:=line63
 have fin:EP X pins σ Q w s:=⟨z,H,I,rw',q⟩
 exact subscriptTail_builtinR (x:=w) pl.typeIs slot_tuple_getitem.lookup
  (getItem_tuple (j:=j) (Q:=fun r s'=>r=w∧EP X pins σ Q r s') pl (by omega) (by omega) (by rw[List.size_toArray,←hl];exact h1) (by simpa using ew) ⟨rfl,fin⟩) hs
theorem mapSeq_set (its:List Value) (n j:Nat) (u:Value):Obj.mapSeq (·.setIfInBounds j u) {cls:=.type "list",data:=.seq its.toArray n}={cls:=.type "list",data:=.seq (its.set j u).toArray n}:=by
 simp [Obj.mapSeq]
theorem Inv.lst {pins:List (Addr×Obj)} {σ:St} {H:Hp} {s:Shared} {p:Addr} {xs:List V} (I:Inv X pins σ H s) (h:H p=some (.lst xs)) :
  ∃(its:List Value) (n:Nat),Vals xs its∧s.heap.get? p=some {cls:=.type "list",data:=.seq its.toArray n}∧xs.length≤sizeLine:=by
 obtain⟨z,its,n,r,e⟩:=I.hok p _ h
 exact⟨its,n,r,e,z⟩
theorem Inv.lstUpd {pins:List (Addr×Obj)} {σ:St} {H:Hp} {s:Shared} {p:Addr} {xs ys:List V} {its its':List Value} {n n':Nat} {f:Obj→Obj} (I:Inv X pins σ H s) (h:H p=some (.lst xs))
  (ho:s.heap.get? p=some {cls:=.type "list",data:=.seq its.toArray n}) (hf:f {cls:=.type "list",data:=.seq its.toArray n}={cls:=.type "list",data:=.seq its'.toArray n'}) (r:Vals ys its') (hz:ys.length≤sizeLine) (t:Nat) :
  Inv X pins σ (upd H p (.lst ys)) {s with heap:=s.heap.update p f,toks:=t}:=by
 have e:(s.heap.update p f).get? p=some {cls:=.type "list",data:=.seq its'.toArray n'}:=by
  rw[Heap.get?_update_self f ho (by rw[hf]<;>rfl),hf]
 refine I.write (x:=p) (e:=p) (by rw[h];trivial) (.inl rfl) (fun b u hb q=>(Heap.get?_update_other _ _ (Ne.symm hb)).trans q) ⟨_,e⟩ ?_
 exact⟨hz,its',n',r,e⟩
def rSetL:V→V→V→Hp→(Hp→Prop)→Prop:=fun o i v H Q=>∃p xs k j,o=.ref p∧i=.int k∧H p=some (.lst xs)∧ixN xs.length k=some j∧Q (upd H p (.lst (xs.set j v)))
theorem set_list:PSet X rSetL:=by
 intro pins s σ H o i v ov iv u Q I ro ri rv h
 obtain⟨p,xs,k,j,rfl,rfl,hp,hj,q⟩:=h
 cases ro
 obtain⟨t,rfl⟩:=ri
 obtain⟨its,n,r,ho,hz⟩:=I.lst hp
 obtain⟨h1,h2,h3,h4⟩:=ixN_seq hj
 have hl:=r.length
 have hn:=line63
 have I':Inv X pins σ (upd H p (.lst (xs.set j v))) {s with heap:=s.heap.update p (Obj.mapSeq (·.setIfInBounds j u))} :=
  I.lstUpd hp ho (mapSeq_set its n j u) (r.set rv j) (by rw[List.length_set];exact hz) s.toks
 by_cases h0:0≤k
 ·have hk:k.toNat=j:=by
   rw[seqIndex_of h0 h4] at h1
   exact Option.some.inj h1
  exact PySem.W.ki_setAt ho h0 (by omega) (by rw[List.size_toArray,←hl];exact h4) (by rw[hk];exact⟨_,I',q⟩)
 ·have hk:(k+(its.toArray.size:Int)).toNat=j:=by
   rw[seqIndex_neg (by omega) h3] at h1
   rw[List.size_toArray,←hl]
   exact Option.some.inj h1
  exact PySem.W.ki_setBack ho (by omega) (by rw[List.size_toArray,←hl];exact h3) (by omega) (by rw[hk];exact⟨_,I',q⟩)
theorem slice_bounds (lo hi:Option Int) (n:Nat):(sliceBounds lo hi none n).1=((HT.sIx n 0 lo:Nat):Int)∧(sliceBounds lo hi none n).2.1=((HT.sIx n n hi:Nat):Int)∧(sliceBounds lo hi none n).2.2=1:=by
 refine⟨?_,?_,rfl⟩
 ·cases lo with
  |none=>simp [sliceBounds,HT.sIx]
  |some i =>
   simp only [sliceBounds,HT.sIx,Option.getD_none,show (1:Int)>0 by decide,if_true]
   by_cases h:i<0
   ·simp only [h,if_true]<;>omega
   ·simp only [h,if_false]<;>omega
 ·cases hi with
  |none=>simp [sliceBounds,HT.sIx]
  |some i =>
   simp only [sliceBounds,HT.sIx,Option.getD_none,show (1:Int)>0 by decide,if_true]
   by_cases h:i<0
   ·simp only [h,if_true]<;>omega
   ·simp only [h,if_false]<;>omega
theorem slicePick_cut (its:List Value) (lo hi:Option Int):slicePick its.toArray lo hi none=((its.drop (HT.sIx its.length 0 lo)).take (HT.sIx its.length its.length hi-HT.sIx its.length 0 lo)).toArray:=by
 obtain⟨h1,h2,h3⟩:=slice_bounds lo hi its.toArray.size
 unfold slicePick
 rw[h1,h2,h3]
 simp only [sliceRange_one,pick_run,List.size_toArray]<;>rfl
def rSlL (K:PySem.W.Frag):V→Option Int→Option Int→Hp→VK→Prop:=fun x lo hi H Q=>∃a xs,x=.ref a∧SqL K H a xs∧∀p,H p=none→Q (.ref p) (upd H p (.lst (cutV xs lo hi)))
theorem sl_list:SlR X (rSlL X.K):=by
 intro pins s σ H x v vl vu lo hi sl Q I rx hs pl pu h
 obtain⟨a,xs,rfl,hx,q⟩:=h
 cases rx
 obtain⟨its,r,ht,hz⟩:=I.list hx
 have hlen:=r.length
 refine⟨"list",_,slot_list_getitem.lookup,ht.isList.typeIs,?_⟩
 refine wpAny_getItem_list_slice ht.isList hs pl pu .none (by simp) ?_ (by rw[List.size_toArray]<;>omega)
 rw[slicePick_cut,←hlen]
 refine⟨.ref s.heap.objs.size,_,I.laid (t':=s.toks) (o:=.lst (cutV xs lo hi)) (fun b ob q=>Heap.get?_push_of_some _ q) (Nat.le_refl _) ?_,rfl,q _ (I.hok.fresh (Nat.le_refl _))⟩
 exact⟨Nat.le_trans (cutV_length xs lo hi) hz,_,0,(r.drop (HT.sIx xs.length 0 lo)).take (HT.sIx xs.length xs.length hi-HT.sIx xs.length 0 lo),Heap.get?_push_size _ rfl⟩
def flatV:V→Bool
 |.non=>true
 |.bl _=>true
 |.int _=>true
 |.str _=>true
 |_=>false
def eqV:V→V→Bool
 |.non,.non=>true
 |.bl a,.bl b=>a==b
 |.bl a,.int b=>(if a then 1 else 0)==b
 |.int a,.bl b=>a==(if b then 1 else 0)
 |.int a,.int b=>a==b
 |.str a,.str b=>a==b
 |_,_=>false
theorem eqAt_V {A:Around} {s:Shared} {y x:V} {u v:Value} (ry:RelV y u) (rx:RelV x v) (fy:flatV y=true) (fx:flatV x=true):SeqAt.EqAt A s u v (eqV y x):=by
 cases y with
 |non =>
  cases ry
  cases x with
  |non=>cases rx;exact SeqAt.EqAt.same _
  |bl b=>cases rx;exact SeqAt.EqAt.none_bool b
  |int b=>obtain⟨t,rfl⟩:=rx;exact SeqAt.EqAt.none_int b t
  |str b=>obtain⟨t,rfl⟩:=rx;exact SeqAt.EqAt.none_str b t
  |_=>exact absurd (show false=true from fx) Bool.false_ne_true
 |bl a =>
  cases ry
  cases x with
  |non=>cases rx;exact SeqAt.EqAt.bool_none a
  |bl b=>cases rx;exact SeqAt.EqAt.bool_bool a b
  |int b=>obtain⟨t,rfl⟩:=rx;exact SeqAt.EqAt.bool_int a b t
  |str b=>obtain⟨t,rfl⟩:=rx;exact SeqAt.EqAt.bool_str a b t
  |_=>exact absurd (show false=true from fx) Bool.false_ne_true
 |int a =>
  obtain⟨t',rfl⟩:=ry
  cases x with
  |non=>cases rx;exact SeqAt.EqAt.int_none a t'
  |bl b=>cases rx;exact SeqAt.EqAt.int_bool a t' b
  |int b=>obtain⟨t,rfl⟩:=rx;exact SeqAt.EqAt.int_int a t' b t
  |str b=>obtain⟨t,rfl⟩:=rx;exact SeqAt.EqAt.int_str a t' b t
  |_=>exact absurd (show false=true from fx) Bool.false_ne_true
 |str a =>
  obtain⟨t',rfl⟩:=ry
  cases x with
  |non=>cases rx;exact SeqAt.EqAt.str_none a t'
  |bl b=>cases rx;exact SeqAt.EqAt.str_bool a t' b
  |int b=>obtain⟨t,rfl⟩:=rx;exact SeqAt.EqAt.str_int a t' b t
  |str b=>obtain⟨t,rfl⟩:=rx;exact SeqAt.EqAt.str_str a t' b t
  |_=>exact absurd (show false=true from fx) Bool.false_ne_true
 |_=>exact absurd (show false=true from fy) Bool.false_ne_true
def eqU (x:V) (u:Value):Bool:=match u with
 |.none=>eqV .non x
 |.bool b=>eqV (.bl b) x
 |.int i _=>eqV (.int i) x
 |.str z _=>eqV (.str z) x
 |_=>false
theorem eqU_of {x y:V} {u:Value} (r:RelV y u) (f:flatV y=true):eqU x u=eqV y x:=by
 cases y with
 |non=>cases r;rfl
 |bl b=>cases r;rfl
 |int i=>obtain⟨t,rfl⟩:=r;rfl
 |str z=>obtain⟨t,rfl⟩:=r;rfl
 |_=>exact absurd (show false=true from f) Bool.false_ne_true
theorem any_eqU {x:V}:∀{xs:List V} {us:List Value},Vals xs us→xs.all flatV=true→us.any (eqU x)=xs.any fun y=>eqV y x
 |_,_,.nil,_=>rfl
 |y::xs,u::us,.cons r t,f=>by
  rw[List.all_cons,Bool.and_eq_true] at f
  rw[List.any_cons,List.any_cons,eqU_of r f.1,any_eqU t f.2]
theorem mem_eqAt {A:Around} {s:Shared} {x:V} {v:Value} (rx:RelV x v) (fx:flatV x=true):∀{xs:List V} {us:List Value},Vals xs us→xs.all flatV=true→∀u∈us,SeqAt.EqAt A s u v (eqU x u)
 |_,_,.nil,_=>fun u hu=>by cases hu
 |y::xs,u::us,.cons r t,f=>fun u' hu=>by
  rw[List.all_cons,Bool.and_eq_true] at f
  rcases List.mem_cons.mp hu with rfl|hu
  ·rw[eqU_of r f.1];exact eqAt_V r rx f.1 fx
  ·exact mem_eqAt rx fx t f.2 u' hu
def inV (x:V) (xs:List V):Bool:=xs.any fun y=>eqV y x
def rIn (K:PySem.W.Frag) (neg:Bool):R2:=fun x y H Q=>∃p xs,y=.ref p∧(SqL K H p xs∨SqT K H p xs)∧flatV x=true∧xs.all flatV=true∧Q (.bl (if neg then !inV x xs else inV x xs)) H
theorem op_in_seq:OpR X (compareOp .In) (rIn X.K false):=by
 intro pins s σ H x y v u Q I rx ry h
 obtain⟨p,xs,rfl,hq,fx,fs,q⟩:=h
 cases ry
 rcases hq with hq|hq
 ·obtain⟨its,r,pl,hz⟩:=I.list hq
  refine SeqAt.in_listAt (eqU x) pl.isList (fun w hw=>mem_eqAt rx fx r fs w (by simpa using hw)) ⟨.bl _,H,I,rfl,?_⟩
  rw[show its.toArray.any (eqU x)=its.any (eqU x) by simp,any_eqU r fs]
  exact q
 ·obtain⟨its,r,pl,hz⟩:=I.tuple hq
  refine SeqAt.in_tupleAt (eqU x) pl (fun w hw=>mem_eqAt rx fx r fs w (by simpa using hw)) ⟨.bl _,H,I,rfl,?_⟩
  rw[show its.toArray.any (eqU x)=its.any (eqU x) by simp,any_eqU r fs]
  exact q
theorem op_notIn_seq:OpR X (compareOp .NotIn) (rIn X.K true):=by
 intro pins s σ H x y v u Q I rx ry h
 obtain⟨p,xs,rfl,hq,fx,fs,q⟩:=h
 cases ry
 rcases hq with hq|hq
 ·obtain⟨its,r,pl,hz⟩:=I.list hq
  refine SeqAt.notIn_listAt (eqU x) pl.isList (fun w hw=>mem_eqAt rx fx r fs w (by simpa using hw)) ⟨.bl _,H,I,rfl,?_⟩
  rw[show its.toArray.any (eqU x)=its.any (eqU x) by simp,any_eqU r fs]
  exact q
 ·obtain⟨its,r,pl,hz⟩:=I.tuple hq
  refine SeqAt.notIn_tupleAt (eqU x) pl (fun w hw=>mem_eqAt rx fx r fs w (by simpa using hw)) ⟨.bl _,H,I,rfl,?_⟩
  rw[show its.toArray.any (eqU x)=its.any (eqU x) by simp,any_eqU r fs]
  exact q
theorem call_len_seq:CallR X (.builtin "len") (fun xs H Q=>∃p ys,xs=[.ref p]∧(SqL X.K H p ys∨SqT X.K H p ys)∧Q (.int ys.length) H):=by
 intro pins s σ H xs us Q I r h
 obtain⟨p,ys,rfl,hq,q⟩:=h
 obtain⟨u,rfl,rx⟩:=vals1 r
 cases rx
 have hn:=line63
 rcases hq with hq|hq
 ·obtain⟨its,r',pl,hz⟩:=I.list hq
  have hlen:=r'.length
  exact Calls.call_len_list pl.isList (by simp only [List.size_toArray]<;>omega) ⟨.int ys.length,H,I.tok _,⟨s.toks+1,by rw[List.size_toArray,hlen]⟩,q⟩
 ·obtain⟨its,r',pl,hz⟩:=I.tuple hq
  have hlen:=r'.length
  exact len_tuple pl (by simp only [List.size_toArray]<;>omega) ⟨.int ys.length,H,I.tok _,⟨s.toks+1,by rw[List.size_toArray,hlen]⟩,q⟩
def tyV (K:PySem.W.Frag) (T:String) (x:V) (H:Hp):Prop:=match x with
 |.str _=>T="str"
 |.int _=>T="int"
 |.ref p=>(T="list"∧∃xs,SqL K H p xs)∨(T="tuple"∧∃o,K.lookup p=some o∧o.cls=.type "tuple"∧o.dict=none) ∨
   (T="dict"∧((∃kvs,H p=some (.dK kvs))∨∃kvs,H p=some (.dT kvs)))∨(T="set"∧∃S n,H p=some (.set S n))
 |_=>False
theorem tyV_is {pins:List (Addr×Obj)} {σ:St} {H:Hp} {s:Shared} {T:String} {x:V} {v:Value} (I:Inv X pins σ H s) (r:RelV x v) (ty:tyV X.K T x H) :
  s.TypeIs v T∧∀a,v=.ref a→∃ob,s.heap.get? a=some ob∧ob.dict=none:=by
 cases x with
 |str z =>
  obtain⟨t,rfl⟩:=r
  cases (show T="str" from ty)
  exact⟨typeIs_str s z t,fun _ e=>nomatch e⟩
 |int i =>
  obtain⟨t,rfl⟩:=r
  cases (show T="int" from ty)
  exact⟨typeIs_int s i t,fun _ e=>nomatch e⟩
 |ref p =>
  cases r
  rcases ty with⟨rfl,xs,hq⟩|⟨rfl,o,hk,hc,hd⟩|⟨rfl,hk⟩|⟨rfl,S,n,hk⟩
  ·obtain⟨its,_,pl,_⟩:=I.list hq
   refine⟨pl.isList.typeIs,fun a e=>?_⟩
   cases e
   obtain⟨o,n,e,c,hd,_⟩:=pl
   exact⟨o,e,hd⟩
  ·refine⟨⟨o,I.kIn p o hk,hc⟩,fun a e=>?_⟩
   cases e
   exact⟨o,I.kIn _ o hk,hd⟩
  ·have z:∃o,s.heap.get? p=some o∧o.ExactDict:=by
    rcases hk with⟨kvs,hk⟩|⟨kvs,hk⟩
    ·obtain⟨_,_,_,_,o,_,_,e,ex,_⟩:=I.hok p _ hk
     exact⟨o,e,ex⟩
    ·obtain⟨_,_,_,_,o,_,_,e,ex,_⟩:=I.hok p _ hk
     exact⟨o,e,ex⟩
   obtain⟨o,e,ex⟩:=z
   refine⟨⟨o,e,ex.1⟩,fun a e2=>?_⟩
   cases e2
   exact⟨o,e,ex.2.1⟩
  ·obtain⟨o,_,_,_,e,ex,_⟩:=I.hok p _ hk
   refine⟨⟨o,e,ex.1⟩,fun a e2=>?_⟩
   cases e2
   exact⟨o,e,ex.2.1⟩
 |_=>exact False.elim ty
def tBM0 (K:PySem.W.Frag) (T:String) (r:V→List V→Hp→VK→Prop) (to:TE):TE:=fun σ H Q=>to σ H fun x H1=>tyV K T x H1∧r x [] H1 Q
def tBM (K:PySem.W.Frag) (T:String) (r:V→List V→Hp→VK→Prop) (to:TE) (t:TA):TE:=fun σ H Q=>to σ H fun x H1=>tyV K T x H1∧t σ H1 fun xs H2=>r x xs H2 Q
variable {o e : Expr} {es : List Expr} {to : TE} {t : TA} {name : Str} {apos cpos : Pos} {T id : String} {r : V → List V → Hp → VK → Prop}
theorem pe_bm0 (pa:PlainAttrs T) (slot:Slot T name id) (hty:typeOf (.builtin id)=pure (.type "method_descriptor")) (hm:MtR X id r) (ho:PE X o to)
  (hbase:attributeBase o name X.env (eval o X.env)=eval o X.env:=by rfl) (hline:(apos.endLine==cpos.line)=true:=by rfl):PE X (.Call (.Attribute o name apos) [] [] cpos) (tBM0 X.K T r to):=by
 intro pins s σ H Q I h
 refine wpAny_Call_method0_late hbase hline (thn (ho pins s σ H _ I h) fun v s1 ⟨x,H1,I1,r1,ty,q1⟩=>?_)
 obtain⟨h1,h2⟩:=tyV_is I1 r1 ty
 exact⟨T,id,pa,slot,hty,h1,h2,Calls.callWith_builtin rfl (PySem.evalArgs_none (hm pins s1 σ H1 x [] v [] Q I1 r1 .nil q1))⟩
theorem pe_bm (pa:PlainAttrs T) (slot:Slot T name id) (hty:typeOf (.builtin id)=pure (.type "method_descriptor")) (hm:MtR X id r) (ho:PE X o to) (ha:PA X (e::es) t)
  (hbase:attributeBase o name X.env (eval o X.env)=eval o X.env:=by rfl)
  (hfew:((backTo cpos (starEach (e::es) X.env)).all (fun x=>!x.1)&&(backToKw cpos (keywordEach [] X.env)).all (fun x=>x.1.isSome)
   && decide ((e::es).length+([]:List Keyword).length+(if ([]:List Keyword).isEmpty then 0 else 1)<30))=true:=by rfl)
  (hline:(apos.endLine==cpos.line)=true:=by rfl) (hs:starEach (e::es) X.env=(false,eval e X.env)::starEach es X.env:=by rfl) (hplain:(backTo cpos (starEach es X.env)).any (·.1)=false:=by rfl) :
  PE X (.Call (.Attribute o name apos) (e::es) [] cpos) (tBM X.K T r to t):=by
 intro pins s σ H Q I h
 refine wpAny_Call_method_late hbase hfew hline rfl (thn (ho pins s σ H _ I h) fun v s1 ⟨x,H1,I1,r1,ty,q1⟩=>?_)
 obtain⟨h1,h2⟩:=tyV_is I1 r1 ty
 refine⟨T,id,pa,slot,hty,h1,h2,?_⟩
 have hA:=ha cpos pins s1 σ H1 _ I1 q1
 rw[hs] at hA ⊢
 refine Calls.callWith_builtin (by show (false||(backTo cpos (starEach es X.env)).any (·.1))=false;rw[hplain]<;>rfl) (Calls.evalArgs_plain ?_)
 exact thn hA fun us s2 ⟨vs,H2,I2,r2,q2⟩=>hm pins s2 σ H2 x vs v us Q I2 r1 r2 q2
end
end L2
namespace L2
open PySem PySem.Spec PyProof.Rows
def MtM (X:Cx) (id:String) (r:V→List V→Hp→VK→Prop):Prop :=
 ∀(pins:List (Addr×Obj)) (s:Shared) (σ:St) (H:Hp) (x:V) (xs:List V) (v:Value) (us:List Value) (Q:VK),Inv X pins σ H s→RelV x v→Vals xs us→r x xs H Q →
  wpAny (model X.prog X.w) X.A (call (.builtin id) (v::us)) (EP X pins σ Q) X.xe s
theorem Vals.one:∀{x:V} {us:List Value},Vals [x] us→∃u,us=[u]∧RelV x u
 |_,_,.cons r .nil=>⟨_,rfl,r⟩
theorem Vals.rep {xs:List V} {us:List Value} (h:Vals xs us):∀k:Nat,Vals (List.replicate k xs).flatten (List.replicate k us).flatten
 |0=>.nil
 |k+1=>by
  rw[List.replicate_succ,List.replicate_succ,List.flatten_cons,List.flatten_cons]
  exact Vals.append h (Vals.rep h k)
theorem foldl_rep (its:List Value):∀(k:Nat) (acc:List Value),
  List.foldl (fun x1 x2=>x1++x2) acc.toArray (List.replicate k its.toArray)=(acc++(List.replicate k its).flatten).toArray
 |0,acc=>by simp
 |k+1,acc=>by
  have e:acc.toArray++its.toArray=(acc++its).toArray:=by simp
  have e2:(acc++its)++(List.replicate k its).flatten=acc++(List.replicate (k+1) its).flatten:=by
   rw[List.replicate_succ,List.flatten_cons,List.append_assoc]
  rw[←e2,←foldl_rep its k (acc++its),←e,List.replicate_succ,List.foldl_cons]
section
variable {X : Cx} {pins : List (Addr × Obj)} {σ : St} {H : Hp} {s : Shared} {l b : Addr} {xs ys zs : List V}
theorem Inv.lset {its its':List Value} {n:Nat} {f:Array Value→Array Value} {t':Nat} (I:Inv X pins σ H s) (hH:H l=some (.lst xs))
  (e:s.heap.get? l=some {cls:=.type "list",data:=.seq its.toArray n}) (hf:f its.toArray=its'.toArray) (hv:Vals ys its') (hz:ys.length≤sizeLine) :
  Inv X pins σ (upd H l (.lst ys)) {s with heap:=s.heap.update l (Obj.mapSeq f),toks:=t'}:=by
 have q:=PySem.IsL.update e f
 rw[hf] at q
 refine I.write (x:=l) (e:=l) (by rw[hH];exact trivial) (.inl rfl) (fun b' u hb hu=>(Heap.get?_update_other s.heap (Obj.mapSeq f) (Ne.symm hb)).trans hu) ⟨_,q⟩ ?_
 exact⟨hz,its',_,hv,q⟩
theorem Inv.lnew {its:List Value} {t':Nat} (I:Inv X pins σ H s) (hv:Vals ys its) (hz:ys.length≤sizeLine) :
  Inv X pins σ (upd H s.heap.objs.size (.lst ys)) {s with heap:=s.heap.push {cls:=.type "list",data:=.seq its.toArray},toks:=t'} :=
 I.laid (fun _ _ q=>Heap.get?_push_of_some _ q) (Nat.le_refl _) ⟨hz,its,0,hv,Heap.get?_push_size _ rfl⟩
theorem Inv.fresh (I:Inv X pins σ H s):H s.heap.objs.size=none:=I.hok.fresh (Nat.le_refl _)
theorem Inv.lstM (I:Inv X pins σ H s) (hH:H l=some (.lst xs)):xs.length≤sizeLine∧∃(its:List Value) (n:Nat),Vals xs its∧xs.length=its.length∧s.heap.get? l=some {cls:=.type "list",data:=.seq its.toArray n}:=by
 obtain⟨z,its,n,r,e⟩:=I.hok l _ hH
 exact⟨z,its,n,r,r.length,e⟩
theorem notLongL {n:Nat} (h:n≤sizeLine):Builtin.List.listTooLong n=false:=by
 unfold Builtin.List.listTooLong
 exact decide_eq_false (by omega)
end
section
variable {X : Cx}
def rAppend:V→List V→Hp→VK→Prop:=fun x vs H Q=>∃l xs y,x=.ref l∧vs=[y]∧H l=some (.lst xs)∧xs.length<sizeLine∧Q .non (upd H l (.lst (xs++[y])))
theorem mt_append:MtM X "list.append" rAppend:=by
 intro pins s σ H x vs v us Q I rx rv h
 obtain⟨l,xs,y,rfl,rfl,hH,hz,q⟩:=h
 cases rx
 obtain⟨u,rfl,ru⟩:=rv.one
 obtain⟨z,its,n,r,hl,e⟩:=I.lstM hH
 refine call_meets F.slot_list_append ⟨_,e,rfl⟩ F.entry_list_append (F.args_list_append_2 _ _) (PySem.list_append l its.toArray n u (by rw[List.size_toArray];omega)) ⟨e,?_⟩
 refine⟨.non,_,I.lset (its':=its++[u]) hH e (by simp) (r.append (.cons ru .nil)) ?_,rfl,q⟩
 rw[List.length_append,List.length_singleton]
 omega
def rExtend:V→List V→Hp→VK→Prop:=fun x vs H Q=>∃l b xs zs,x=.ref l∧vs=[.ref b]∧H l=some (.lst xs)∧H b=some (.lst zs)∧xs.length+zs.length≤sizeLine∧Q .non (upd H l (.lst (xs++zs)))
theorem mt_extend:MtM X "list.extend" rExtend:=by
 intro pins s σ H x vs v us Q I rx rv h
 obtain⟨l,b,xs,zs,rfl,rfl,hH,hB,hz,q⟩:=h
 cases rx
 obtain⟨u,rfl,ru⟩:=rv.one
 cases ru
 obtain⟨z,its,n,r,hl,e⟩:=I.lstM hH
 obtain⟨z2,its2,n2,r2,hl2,e2⟩:=I.lstM hB
 have hsz:its.toArray.size+its2.toArray.size≤sizeLine:=by rw[List.size_toArray,List.size_toArray];omega
 have hlong:¬(!its.toArray.isEmpty&&Builtin.List.listTooLong (its.toArray.size+its2.toArray.size))=true:=by
  rw[notLongL hsz,Bool.and_false]
  exact Bool.false_ne_true
 refine call_meets F.slot_list_extend ⟨_,e,rfl⟩ F.entry_list_extend (F.args_list_extend_2 _ _)
  (AutoSeq1.list_extend_list_list_0 l its.toArray n b its2.toArray n2 hlong (by rw[List.size_toArray];omega) (by omega)) ⟨e,e2,?_⟩
 refine⟨.non,_,I.lset (its':=its++its2) hH e (by simp) (r.append r2) ?_,rfl,q⟩
 rw[List.length_append]
 omega
def rCat:R2:=fun x y H Q=>∃l b xs zs,x=.ref l∧y=.ref b∧H l=some (.lst xs)∧H b=some (.lst zs)∧xs.length+zs.length≤sizeLine∧∀p,H p=none→Q (.ref p) (upd H p (.lst (xs++zs)))
theorem op_cat:OpR X (binaryOp .Add) rCat:=by
 intro pins s σ H x y v u Q I rx ry h
 obtain⟨l,b,xs,zs,rfl,rfl,hH,hB,hz,q⟩:=h
 cases rx
 cases ry
 obtain⟨z,its,n,r,hl,e⟩:=I.lstM hH
 obtain⟨z2,its2,n2,r2,hl2,e2⟩:=I.lstM hB
 refine PySem.P.add_list e e2 ?_ (by rw[List.size_toArray,List.size_toArray];omega)
 have ea:its.toArray++its2.toArray=(its++its2).toArray:=by simp
 rw[ea]
 exact⟨.ref _,_,I.lnew (t':=s.toks) (r.append r2) (by rw[List.length_append];omega),rfl,q _ I.fresh⟩
def rRep:R2:=fun x y H Q=>∃l k xs,x=.ref l∧y=.int k∧H l=some (.lst xs)∧-(2^63)≤k∧k<2^63∧xs.length*k.toNat≤sizeLine ∧
 ∀p,H p=none→Q (.ref p) (upd H p (.lst (List.replicate k.toNat xs).flatten))
theorem len_rep {α:Type} (xs:List α) (k:Nat):(List.replicate k xs).flatten.length=k*xs.length:=by
 induction k with
 |zero=>simp
 |succ k ih=>rw[List.replicate_succ,List.flatten_cons,List.length_append,ih,Nat.succ_mul,Nat.add_comm]
theorem op_rep:OpR X (binaryOp .Mult) rRep:=by
 intro pins s σ H x y v u Q I rx ry h
 obtain⟨l,k,xs,rfl,rfl,hH,h1,h2,hz,q⟩:=h
 cases rx
 obtain⟨t,rfl⟩:=ry
 obtain⟨z,its,n,r,hl,e⟩:=I.lstM hH
 have hlen:its.toArray.size*k.toNat≤sizeLine:=by rw[List.size_toArray,←hl];exact hz
 have hcap:¬its.toArray.size*k.toNat>(2^63-1) / 8:=by
  have:(sizeLine:Nat)≤(2^63-1) / 8:=by decide
  omega
 have hfit:¬(!Builtin.List.listFitsIndex k)=true:=by
  rw[fitsIndex_both h1 h2]
  exact Bool.false_ne_true
 have hlong:¬Builtin.List.listTooLong (its.toArray.size*k.toNat)=true:=by
  rw[notLongL hlen]
  exact Bool.false_ne_true
 have hnew:List.foldl (fun x1 x2=>x1++x2) #[] (List.replicate (if its.toArray.isEmpty=true then 0 else k.toNat) its.toArray)=(List.replicate k.toNat its).flatten.toArray:=by
  have f0:∀m:Nat,List.foldl (fun x1 x2=>x1++x2) #[] (List.replicate m its.toArray)=(List.replicate m its).flatten.toArray:=fun m=>by
   have:=foldl_rep its m []
   rw[List.nil_append] at this
   exact this
  rw[f0]
  cases its with
  |nil=>simp
  |cons a r'=>rw[if_neg (by simp)]
 refine wpAny_binaryOp_repeat_ref (T:="list") (U:="int") (by decide) ⟨_,e,rfl⟩ (fun s'=>typeIs_int s' k t) noFill_list_mul F.fills_int_mul F.slot_int_rmul repeat_list F.slot_int_index.lookup
  (call_meets F.slot_int_rmul (typeIs_int s k t) F.entry_int_rmul (F.args_int_rmul_2 _ _) (int___rmul___int_list k t l its.toArray n)
   ⟨e,rfl,⟨_,e,rfl⟩,call_meets F.slot_list_mul ⟨_,e,rfl⟩ F.entry_list_mul (F.args_list_mul_2 _ _) (AutoListH.list___mul___list_int_3 l its.toArray n k t hfit hcap hlong) ⟨e,?_⟩⟩)
 rw[hnew]
 exact⟨.ref _,_,I.lnew (t':=s.toks) (r.rep k.toNat) (by rw[len_rep,Nat.mul_comm];exact hz),rfl,q _ I.fresh⟩
end
end L2
namespace L2
open PySem PySem.Spec PyProof.Rows
theorem Vals.ints:∀{ns:List Int} {us:List Value},Vals (ns.map V.int) us→IntsAre us ns
 |[],us,h=>by
  rw[List.map_nil] at h
  cases h
  exact IntsAre.nil
 |n::ns,us,h=>by
  rw[List.map_cons] at h
  cases h with
  |cons r t =>
   obtain⟨k,rfl⟩:=r
   exact IntsAre.cons n k (Vals.ints t)
theorem vals_of_ints:∀{us:List Value} {ns:List Int},IntsAre us ns→Vals (ns.map V.int) us
 |_,_,.nil=>by rw[List.map_nil];exact Paired.nil
 |_,_,.cons n t h=>by rw[List.map_cons];exact Paired.cons (show RelV (V.int n) (Value.int n t) from⟨t,rfl⟩) (vals_of_ints h)
theorem Vals.bls:∀{bs:List Bool} {us:List Value},Vals (bs.map V.bl) us→us=bs.map Value.bool
 |[],us,h=>by
  rw[List.map_nil] at h
  cases h
  rfl
 |b::bs,us,h=>by
  rw[List.map_cons] at h
  cases h with
  |cons r t =>
   cases r
   rw[Vals.bls t,List.map_cons]
theorem Vals.ref1 {a:Addr} {us:List Value} (r:Vals [V.ref a] us):us=[Value.ref a]:=by
 cases r with
 |cons r t =>
  cases t
  cases r
  rfl
section
variable {prog : Program} {w : World} {A : Around} {E : Value → Shared → Prop} {s : Shared} {l : Addr} {its : List Value} {ns : List Int} {Q : Value → Shared → Prop}
theorem sum_raw (hh:A.handled=none) (hl:s.heap.IsList l its.toArray) (hi:IntsAre its ns)
  (h:∀h' tk t',(∀b o,s.heap.get? b=some o→h'.get? b=some o)→Q (.int ns.sum t') {s with heap:=h',toks:=tk}):wpAny (model prog w) A (call (.builtin "sum") [.ref l]) Q E s:=by
 obtain⟨xs,e⟩:=hi.allInts.items
 have hn:numsOf (intItems xs).toList=ns:=by rw[←e];exact hi.numsOf
 rw[nums_intItems] at hn
 rw[e] at hl
 refine PySem.sum_intListG hh hl fun h' tk t' hk=>?_
 have:=h h' tk t' hk
 rw[preSum_eq,List.take_of_length_le (by simp),hn];exact this
theorem max_raw (hh:A.handled=none) (hl:s.heap.IsList l its.toArray) (hi:IntsAre its ns) (hne:0<ns.length)
  (h:∀h' tk M t',(∀b o,s.heap.get? b=some o→h'.get? b=some o)→M∈ns→(∀a,a∈ns→a≤M)→Q (.int M t') {s with heap:=h',toks:=tk}):wpAny (model prog w) A (call (.builtin "max") [.ref l]) Q E s:=by
 obtain⟨xs,e⟩:=hi.allInts.items
 have hn:numsOf (intItems xs).toList=ns:=by rw[←e];exact hi.numsOf
 rw[nums_intItems] at hn
 subst hn
 rw[e] at hl
 have hsz:0<xs.size:=by simpa using hne
 refine PySem.max_intList hh hl hsz fun v h' tk hv hk=>?_
 obtain⟨t,rfl⟩:=intItems_at hv
 obtain⟨h1,h2⟩:=argBest_gt (numAt xs) (xs.size-1)
 refine h h' tk _ t hk ?_ fun a ha=>?_
 ·rw[numAt_eq];exact PySem.getD_mem (by rw[List.length_map,Array.length_toList];omega)
 ·obtain⟨j,hj,rfl⟩:=mem_getD ha
  rw[List.length_map,Array.length_toList] at hj
  rw[←numAt_eq];exact h2 j (by omega)
theorem min_raw (hh:A.handled=none) (hl:s.heap.IsList l its.toArray) (hi:IntsAre its ns) (hne:0<ns.length)
  (h:∀h' tk M t',(∀b o,s.heap.get? b=some o→h'.get? b=some o)→M∈ns→(∀a,a∈ns→M≤a)→Q (.int M t') {s with heap:=h',toks:=tk}):wpAny (model prog w) A (call (.builtin "min") [.ref l]) Q E s:=by
 obtain⟨xs,e⟩:=hi.allInts.items
 have hn:numsOf (intItems xs).toList=ns:=by rw[←e];exact hi.numsOf
 rw[nums_intItems] at hn
 subst hn
 rw[e] at hl
 have hsz:0<xs.size:=by simpa using hne
 refine PySem.min_intList hh hl hsz fun v h' tk hv hk=>?_
 obtain⟨t,rfl⟩:=intItems_at hv
 obtain⟨h1,h2⟩:=argBest_lt (numAt xs) (xs.size-1)
 refine h h' tk _ t hk ?_ fun a ha=>?_
 ·rw[numAt_eq];exact PySem.getD_mem (by rw[List.length_map,Array.length_toList];omega)
 ·obtain⟨j,hj,rfl⟩:=mem_getD ha
  rw[List.length_map,Array.length_toList] at hj
  rw[←numAt_eq];exact h2 j (by omega)
end
section
variable {X : Cx}
def rSum (K:PySem.W.Frag):List V→Hp→VK→Prop:=fun vs H Q=>∃(a:Addr) (ns:List Int),vs=[V.ref a]∧SqL K H a (ns.map V.int)∧Q (.int ns.sum) H
def rMax (K:PySem.W.Frag):List V→Hp→VK→Prop:=fun vs H Q=>∃(a:Addr) (ns:List Int),vs=[V.ref a]∧SqL K H a (ns.map V.int)∧0<ns.length∧∀m,m∈ns→(∀y,y∈ns→y≤m)→Q (.int m) H
def rMin (K:PySem.W.Frag):List V→Hp→VK→Prop:=fun vs H Q=>∃(a:Addr) (ns:List Int),vs=[V.ref a]∧SqL K H a (ns.map V.int)∧0<ns.length∧∀m,m∈ns→(∀y,y∈ns→m≤y)→Q (.int m) H
theorem cr_sum (hc:X.calm=true):CallR X (.builtin "sum") (rSum X.K):=by
 intro pins s σ H vs us Q I r h
 obtain⟨a,ns,rfl,hs,q⟩:=h
 obtain⟨its,rv,hl,_⟩:=I.list hs
 rw[Vals.ref1 r]
 exact sum_raw (I.ok.hd hc) hl.isList rv.ints fun h' tk t' hk=>⟨.int _,H,I.kept hk,⟨_,rfl⟩,q⟩
theorem cr_max (hc:X.calm=true):CallR X (.builtin "max") (rMax X.K):=by
 intro pins s σ H vs us Q I r h
 obtain⟨a,ns,rfl,hs,hne,q⟩:=h
 obtain⟨its,rv,hl,_⟩:=I.list hs
 rw[Vals.ref1 r]
 exact max_raw (I.ok.hd hc) hl.isList rv.ints hne fun h' tk m t' hk h1 h2=>⟨.int _,H,I.kept hk,⟨_,rfl⟩,q m h1 h2⟩
theorem cr_min (hc:X.calm=true):CallR X (.builtin "min") (rMin X.K):=by
 intro pins s σ H vs us Q I r h
 obtain⟨a,ns,rfl,hs,hne,q⟩:=h
 obtain⟨its,rv,hl,_⟩:=I.list hs
 rw[Vals.ref1 r]
 exact min_raw (I.ok.hd hc) hl.isList rv.ints hne fun h' tk m t' hk h1 h2=>⟨.int _,H,I.kept hk,⟨_,rfl⟩,q m h1 h2⟩
end
section
variable {X : Cx}
def rIndex (K:PySem.W.Frag):V→List V→Hp→VK→Prop:=fun x xs H Q=>∃(a:Addr) (ys:List V) (y:V) (j:Nat) (z:V),x=V.ref a∧xs=[y]∧SqL K H a ys∧flatV y=true∧ys.all flatV=true∧ys[j]?=some z∧eqV z y=true ∧
 (∀(m:Nat) (z':V),m<j→ys[m]?=some z'→eqV z' y=false)∧Q (.int (j:Nat)) H
theorem flat_at {ys:List V} (f:ys.all flatV=true) {j:Nat} {z:V} (h:ys[j]?=some z):flatV z=true:=List.all_eq_true.mp f z (List.mem_of_getElem? h)
theorem mt_index:MtR X "list.index" (rIndex X.K):=by
 intro pins s σ H x xs v us Q I rx rxs h
 obtain⟨a,ys,y,j,z,rfl,rfl,hs,fy,fys,hz,hzj,hno,q⟩:=h
 cases rx
 cases rxs with
 |cons ry rt =>
  rename_i uy ut
  cases rt
  obtain⟨its,rv,⟨⟨cls,dd,data,sl⟩,n,ho,hc,hdn,hd⟩,hlen⟩:=I.list hs
  simp only at hc hd
  subst hc hd
  obtain⟨u,hu,ru⟩:=rv.get hz
  obtain⟨hjl,hje⟩:=List.getElem?_eq_some_iff.mp hu
  have hvl:=rv.length
  have hj:j<its.toArray.size:=by simpa using hjl
  have hsl:=sizeLine_eq
  refine call_meets PySem.F.slot_list_index ⟨_,ho,rfl⟩ PySem.F.entry_list_index (PySem.F.args_list_index_2 _ _)
   (SeqAt.list_indexAt a its.toArray n dd sl uy (eqU y) j hj (by omega) ?_ ?_) ⟨ho,fun u' hu'=>mem_eqAt ry fy rv fys u' (by simpa using hu'),?_⟩
  ·have e1:its.toArray[j]=u:=by simpa using hje
   rw[e1,eqU_of ru (flat_at fys hz)]
   exact hzj
  ·intro m hm hmj
   have hml:m<its.length:=by simpa using hm
   have hmy:m<ys.length:=by omega
   have hy':ys[m]?=some ys[m]:=List.getElem?_eq_getElem hmy
   obtain⟨u2,hu2,ru2⟩:=rv.get hy'
   obtain⟨_,hme⟩:=List.getElem?_eq_some_iff.mp hu2
   have e1:its.toArray[m]=u2:=by simpa using hme
   rw[e1,eqU_of ru2 (flat_at fys hy')]
   exact hno m _ hmj hy'
  ·exact⟨.int (j:Nat),H,I.tok _,⟨_,rfl⟩,q⟩
end
theorem iter_any {prog:Program} {w:World} {A:Around} {E:Value→Shared→Prop} {s:Shared} {l:Addr} {items:Array Value} {Q:Value→Shared→Prop} (hl:s.heap.IsList l items)
  (h:∀s₂:Shared,s₂={s with heap:=s.heap.push {cls:=.type "list_iterator",data:=.fields #[.ref l,.int 0 0]}} →
   (s₂.heap.IsListIter s.heap.objs.size l 0∧s₂.heap.IsList l items)→l≠s.heap.objs.size→Q (.ref s.heap.objs.size) s₂):wpAny (model prog w) A (pyIter (.ref l)) Q E s:=by
 have hlt:l<s.heap.objs.size:=by obtain⟨_,e,_⟩:=hl;exact Heap.lt_size e
 exact wpAny_pyIter_list hl (h _ rfl ⟨⟨_,Heap.get?_push_size _ rfl,rfl,rfl⟩,hl.push _⟩ (Nat.ne_of_lt hlt))
theorem truth_bools {prog:Program} {w:World} {A:Around} {bs:List Bool} {its:List Value} (e:its=bs.map Value.bool) :
  TruthOf prog w A (fun i v=>its.toArray[i]?=some v) (fun i=>bs.getD i false):=fun i v s Q E hv hq=>by
 have hv':its[i]?=some v:=by simpa using hv
 rw[e,List.getElem?_map] at hv'
 obtain⟨b,hb,rfl⟩:=Option.map_eq_some_iff.mp hv'
 have hg:bs.getD i false=b:=by rw[List.getD_eq_getElem?_getD,hb]<;>rfl
 have hq':Q (bs.getD i false) s:=hq
 rw[hg] at hq'
 exact wpAny_truthy_bool hq'
theorem any_range:∀bs:List Bool,(List.range bs.length).any (fun i=>bs.getD i false)=bs.any id
 |[]=>rfl
 |b::bs=>by
  rw[List.length_cons,List.range_succ_eq_map,List.any_cons,List.any_map,List.any_cons,←any_range bs]
  all_goals rfl
theorem all_range:∀bs:List Bool,(List.range bs.length).all (fun i=>bs.getD i false)=bs.all id
 |[]=>rfl
 |b::bs=>by
  rw[List.length_cons,List.range_succ_eq_map,List.all_cons,List.all_map,List.all_cons,←all_range bs]
  all_goals rfl
section
variable {X : Cx}
def rAny (K:PySem.W.Frag):List V→Hp→VK→Prop:=fun vs H Q=>∃(a:Addr) (bs:List Bool),vs=[V.ref a]∧SqL K H a (bs.map V.bl)∧Q (.bl (bs.any id)) H
def rAll (K:PySem.W.Frag):List V→Hp→VK→Prop:=fun vs H Q=>∃(a:Addr) (bs:List Bool),vs=[V.ref a]∧SqL K H a (bs.map V.bl)∧Q (.bl (bs.all id)) H
theorem cr_any (hc:X.calm=true):CallR X (.builtin "any") (rAny X.K):=by
 intro pins s σ H vs us Q I r h
 obtain⟨a,bs,rfl,hs,q⟩:=h
 obtain⟨its,rv,hl,_⟩:=I.list hs
 rw[Vals.ref1 r]
 have hb:=rv.bls
 refine call_any_walk (iter_any hl.isList fun s₂ e2 st hne=>?_)
 subst e2
 refine⟨_,_,_,_,_,_,_,rfl,Walks.list (A:=X.A.in1) (I.ok.hd hc) _ a hne its.toArray,st,truth_bools hb,fun h' tk hk=>?_⟩
 refine⟨.bl _,H,I.kept fun b o eo=>hk b o (fun hmem=>?_) (Heap.get?_push_of_some _ eo),?_,q⟩
 ·rcases List.mem_cons.mp hmem with e1|hmem
  ·exact absurd (e1 ▸ Heap.lt_size eo) (Nat.lt_irrefl _)
  ·cases hmem
 ·show Value.bool _=Value.bool _
  rw[←any_range,hb,List.size_toArray,List.length_map]
theorem cr_all (hc:X.calm=true):CallR X (.builtin "all") (rAll X.K):=by
 intro pins s σ H vs us Q I r h
 obtain⟨a,bs,rfl,hs,q⟩:=h
 obtain⟨its,rv,hl,_⟩:=I.list hs
 rw[Vals.ref1 r]
 have hb:=rv.bls
 refine call_all_walk (iter_any hl.isList fun s₂ e2 st hne=>?_)
 subst e2
 refine⟨_,_,_,_,_,_,_,rfl,Walks.list (A:=X.A.in1) (I.ok.hd hc) _ a hne its.toArray,st,truth_bools hb,fun h' tk hk=>?_⟩
 refine⟨.bl _,H,I.kept fun b o eo=>hk b o (fun hmem=>?_) (Heap.get?_push_of_some _ eo),?_,q⟩
 ·rcases List.mem_cons.mp hmem with e1|hmem
  ·exact absurd (e1 ▸ Heap.lt_size eo) (Nat.lt_irrefl _)
  ·cases hmem
 ·show Value.bool _=Value.bool _
  rw[←all_range,hb,List.size_toArray,List.length_map]
end
mutual
inductive Dp (K:PySem.W.Frag) (H:Hp):V→PyData→Prop
 |non:Dp K H .non .none
 |bl (b:Bool):Dp K H (.bl b) (.bool b)
 |int (i:Int):Dp K H (.int i) (.int i)
 |str (x:Str):Dp K H (.str x) (.str x)
 |lst {a:Addr} {xs:List V} {ds:List PyData}:SqL K H a xs→DpAll K H xs ds→Dp K H (.ref a) (.list ds)
 |tup {a:Addr} {xs:List V} {ds:List PyData}:SqT K H a xs→DpAll K H xs ds→Dp K H (.ref a) (.tuple ds)
inductive DpAll (K:PySem.W.Frag) (H:Hp):List V→List PyData→Prop
 |nil:DpAll K H [] []
 |cons {v:V} {vs:List V} {d:PyData} {ds:List PyData}:Dp K H v d→DpAll K H vs ds→DpAll K H (v::vs) (d::ds)
end
section
variable {X : Cx} {pins : List (Addr × Obj)} {σ : St} {H : Hp} {s : Shared}
mutual
theorem Dp.reads (I:Inv X pins σ H s):∀(d:PyData) (v:V) (u:Value),Dp X.K H v d→RelV v u→∃as,Reads s.heap u d as
 |.none,_,_,h,r=>by
  cases h
  cases r
  exact⟨_,Reads.none⟩
 |.bool b,_,_,h,r=>by
  cases h
  cases r
  exact⟨_,Reads.bool b⟩
 |.int i,_,_,h,r=>by
  cases h
  obtain⟨t,rfl⟩:=r
  exact⟨_,Reads.int i t⟩
 |.str x,_,_,h,r=>by
  cases h
  obtain⟨t,rfl⟩:=r
  exact⟨_,Reads.str x t⟩
 |.list ds,_,_,h,r=>by
  cases h with
  |lst hs ha =>
   cases r
   obtain⟨its,rv,⟨o,n,ho,hc,_,hd⟩,_⟩:=I.list hs
   obtain⟨as,hr⟩:=Dp.readsAll I ds _ its ha rv
   exact⟨_,Reads.list ho hc hd hr⟩
 |.tuple ds,_,_,h,r=>by
  cases h with
  |tup hs ha =>
   cases r
   obtain⟨its,rv,⟨o,ho,hc,n,hd⟩,_⟩:=I.tuple hs
   obtain⟨as,hr⟩:=Dp.readsAll I ds _ its ha rv
   exact⟨_,Reads.tuple ho hc hd hr⟩
 |.dict _,_,_,h,_=>by cases h
theorem Dp.readsAll (I:Inv X pins σ H s):∀(ds:List PyData) (vs:List V) (us:List Value),DpAll X.K H vs ds→Vals vs us→∃as,ReadsAll s.heap us ds as
 |[],_,_,h,r=>by
  cases h
  cases r
  exact⟨_,ReadsAll.nil⟩
 |d::ds,_,_,h,r=>by
  cases h with
  |cons h1 h2 =>
   cases r with
   |cons r1 r2 =>
    obtain⟨as,q1⟩:=Dp.reads I d _ _ h1 r1
    obtain⟨bs,q2⟩:=Dp.readsAll I ds _ _ h2 r2
    exact⟨_,ReadsAll.cons q1 q2⟩
end
end
section
variable {X : Cx}
def rEqD (K:PySem.W.Frag):R2:=fun x y H Q=>∃d e,Dp K H x d∧Dp K H y e∧SeqAt.shaped d=true∧SeqAt.shaped e=true∧Q (.bl (PyData.eqv d e)) H
theorem op_eqD (hu:X.A.units+64<cLine):OpR X (compareOp .Eq) (rEqD X.K):=by
 intro pins s σ H x y v u Q I rx ry h
 obtain⟨d,e,hd,he,sd,se,q⟩:=h
 obtain⟨as,r1⟩:=Dp.reads I d x v hd rx
 obtain⟨bs,r2⟩:=Dp.reads I e y u he ry
 exact SeqAt.compareEq_shaped r1 r2 sd se hu ⟨.bl _,H,I,rfl,q⟩
end
end L2
namespace L2
open PySem PySem.Spec PyProof.Rows
abbrev CellAt (h:Heap) (c:Addr) (v:Option Value):Prop:=h.IsCell c v
def relS (scope sc:Scope):Scope :=
 {scope with names:=scope.names.map fun (n,k)=>if (k==.free&&sc.kind==.function&&sc.names.lookup n==some .cell) then (n,.cell) else (n,k)}
def cloFrom (cells:List (Str×Addr)):List (Str×NameKind)→List (Str×Addr)→List (Str×Addr)
 |[],acc=>acc
 |(n,k)::r,acc=>if k==.free then cloFrom cells r ((n,(cells.lookup n).getD 0)::acc) else cloFrom cells r acc
theorem closure_loop (env:Env) (f:Str×NameKind→List (Str×Addr)→Sem (ForInStep (List (Str×Addr))))
  (hf:∀n k c,f (n,k) c=if k==.free then (do let a ←cellOf env n;pure (.yield ((n,a)::c))) else pure (.yield c)) :
  ∀(names:List (Str×NameKind)) (acc:List (Str×Addr)),(∀y∈names,y.2=.free→∃c,env.cells.lookup y.1=some c)→forIn names acc f=pure (cloFrom env.cells names acc)
 |[],acc,_=>by rw[List.forIn_nil];rfl
 |(n,k)::r,acc,h=>by
  rw[List.forIn_cons,hf]
  have ih:=fun acc=>closure_loop env f hf r acc fun y hy=>h y (List.mem_cons_of_mem _ hy)
  unfold cloFrom
  by_cases hk:(k==NameKind.free)=true
  ·rw[if_pos hk,if_pos hk]
   obtain⟨c,hc⟩:=h (n,k) List.mem_cons_self (by simpa using hk)
   have e:cellOf env n=pure c:=by unfold cellOf;rw[hc]
   rw[e]
   have e2:(env.cells.lookup n).getD 0=c:=by rw[hc];rfl
   rw[e2]
   exact ih _
  ·rw[if_neg hk,if_neg hk]
   exact ih _
theorem closure_ok {scope:Scope} {env:Env} (h:∀y∈scope.names,y.2=.free→∃c,env.cells.lookup y.1=some c):closureFor scope env=pure (cloFrom env.cells scope.names []):=by
 simp only [closureFor]
 rw[closure_loop env _ (fun n k c=>rfl) scope.names [] h]
 rfl
theorem mem_lookup {α:Type}:∀{l:List (Str×α)} {n:Str} {c:α},(n,c)∈l→∃c',l.lookup n=some c'
 |(k,v)::r,n,c,h=>by
  rw[List.lookup_cons]
  cases hb:n==k with
  |true=>exact⟨_,rfl⟩
  |false =>
   rcases List.mem_cons.mp h with e|h
   ·cases e;simp at hb
   ·exact mem_lookup h
theorem cloFrom_mem {cells:List (Str×Addr)}:∀{names:List (Str×NameKind)} {acc:List (Str×Addr)} {n:Str} {c:Addr},(n,c)∈cloFrom cells names acc→(n,c)∈acc∨((n,.free)∈names∧c=(cells.lookup n).getD 0)
 |[],_,_,_,h=>.inl h
 |(m,k)::r,acc,n,c,h=>by
  unfold cloFrom at h
  split at h
  ·rename_i hk
   have hk:k=.free:=by simpa using hk
   rcases cloFrom_mem h with h|⟨h1,h2⟩
   ·rcases List.mem_cons.mp h with e|h
    ·cases e;exact .inr ⟨hk ▸ List.mem_cons_self,rfl⟩
    ·exact .inl h
   ·exact .inr ⟨List.mem_cons_of_mem _ h1,h2⟩
  ·rcases cloFrom_mem h with h|⟨h1,h2⟩
   ·exact .inl h
   ·exact .inr ⟨List.mem_cons_of_mem _ h1,h2⟩
theorem cloFrom_acc {cells:List (Str×Addr)}:∀{names:List (Str×NameKind)} {acc:List (Str×Addr)} {p:Str×Addr},p∈acc→p∈cloFrom cells names acc
 |[],_,_,h=>h
 |(m,k)::r,acc,p,h=>by
  unfold cloFrom
  split
  ·exact cloFrom_acc (List.mem_cons_of_mem _ h)
  ·exact cloFrom_acc h
theorem cloFrom_has {cells:List (Str×Addr)}:∀{names:List (Str×NameKind)} {acc:List (Str×Addr)} {n:Str},(n,.free)∈names→(n,(cells.lookup n).getD 0)∈cloFrom cells names acc
 |(m,k)::r,acc,n,h=>by
  unfold cloFrom
  rcases List.mem_cons.mp h with e|h
  ·cases e
   exact cloFrom_acc List.mem_cons_self
  ·split
   ·exact cloFrom_has h
   ·exact cloFrom_has h
theorem cells_mem:∀{names:List (Str×NameKind)} {h:Heap} {acc:List (Str×Addr)} {x:Str} {c:Addr},(x,c)∈cellsFrom h.objs.size names acc →
  (x,c)∈acc∨((x,.cell)∈names∧h.objs.size≤c∧CellAt (pushCells h names) c none)
 |[],_,_,_,_,h=>.inl h
 |(n,k)::r,h,acc,x,c,hm=>by
  unfold cellsFrom at hm
  unfold pushCells
  split at hm
  ·rename_i hk
   rw[if_pos hk]
   have hk:k=.cell:=by simpa using hk
   rw[←Heap.size_push h {cls:=.type "cell",data:=.cell none}] at hm
   rcases cells_mem hm with hm|⟨h1,h2,h3⟩
   ·rcases List.mem_cons.mp hm with e|hm
    ·cases e
     exact .inr ⟨hk ▸ List.mem_cons_self,Nat.le_refl _,_,pushCells_keeps r _ _ _ (Heap.get?_push_size _ rfl),rfl⟩
    ·exact .inl hm
   ·rw[Heap.size_push] at h2
    exact .inr ⟨List.mem_cons_of_mem _ h1,Nat.le_of_succ_le h2,h3⟩
  ·rename_i hk
   rw[if_neg hk]
   rcases cells_mem hm with hm|⟨h1,h2,h3⟩
   ·exact .inl hm
   ·exact .inr ⟨List.mem_cons_of_mem _ h1,h2,h3⟩
theorem cells_acc:∀{names:List (Str×NameKind)} {n:Nat} {acc:List (Str×Addr)} {p:Str×Addr},p∈acc→p∈cellsFrom n names acc
 |[],_,_,_,h=>h
 |(m,k)::r,n,acc,p,h=>by
  unfold cellsFrom
  split
  ·exact cells_acc (List.mem_cons_of_mem _ h)
  ·exact cells_acc h
theorem cells_has:∀{names:List (Str×NameKind)} {n:Nat} {acc:List (Str×Addr)} {x:Str},(x,.cell)∈names→∃c,(x,c)∈cellsFrom n names acc
 |(m,k)::r,n,acc,x,h=>by
  unfold cellsFrom
  rcases List.mem_cons.mp h with e|h
  ·cases e
   exact⟨n,cells_acc List.mem_cons_self⟩
  ·split
   ·exact cells_has h
   ·exact cells_has h
theorem cells_inj:∀{names:List (Str×NameKind)} {h:Heap} {acc:List (Str×Addr)} {x y:Str} {c:Addr},(∀p∈acc,p.2<h.objs.size)→(∀x y c,(x,c)∈acc→(y,c)∈acc→x=y) →
  (x,c)∈cellsFrom h.objs.size names acc→(y,c)∈cellsFrom h.objs.size names acc→x=y
 |[],_,_,_,_,_,_,hi,h1,h2=>hi _ _ _ h1 h2
 |(n,k)::r,h,acc,x,y,c,hl,hi,h1,h2=>by
  unfold cellsFrom at h1 h2
  split at h1
  ·rename_i hk
   rw[if_pos hk] at h2
   rw[←Heap.size_push h {cls:=.type "cell",data:=.cell none}] at h1 h2
   refine cells_inj (h:=h.push _) (fun p hp=>?_) (fun x y c a b=>?_) h1 h2
   ·rw[Heap.size_push]
    rcases List.mem_cons.mp hp with rfl|hp
    ·exact Nat.lt_succ_self _
    ·exact Nat.lt_succ_of_lt (hl p hp)
   ·rcases List.mem_cons.mp a with e|a<;>rcases List.mem_cons.mp b with e'|b
    ·cases e;cases e';rfl
    ·cases e;exact absurd (hl _ b) (Nat.lt_irrefl _)
    ·cases e';exact absurd (hl _ a) (Nat.lt_irrefl _)
    ·exact hi _ _ _ a b
  ·rename_i hk
   rw[if_neg hk] at h2
   exact cells_inj hl hi h1 h2
theorem newEnv_comp {M:Model} {A:Around} {E:Value→Shared→Prop} {s:Shared} {scope:Scope} {globals:Addr} {closure:List (Str×Addr)} {qual:Str} {func:Option Addr} {code:Value} {around:Env} {builtins:Addr} {Q:Env→Shared→Prop}
  (h:Q (newEnv scope s.heap.objs.size globals (cellsFrom (s.heap.objs.size+1) scope.names closure) qual func code (some around) builtins)
   {s with heap:=pushCells (s.heap.push {cls:=.type "dict",data:=.dict #[]}) scope.names}) :
  wpAny M A (newFunctionEnv scope globals closure [] qual func code (some around) builtins) Q E s:=by
 simp only [newFunctionEnv,Option.isSome_some,if_true]
 refine wpAny_bind (wpAny_alloc ?_)
 refine wpAny_bind (wpAny_layCells _ (fun n k c=>rfl) scope.names closure _ _ ?_)
 rw[show ({s with heap:=s.heap.push {cls:=.type "dict",data:=.dict #[]}}:Shared).heap.objs.size=s.heap.objs.size+1 from Heap.size_push ..]
 rw[List.forIn_nil]
 exact wpAny_bind (wpAny_pure (wpAny_pure h))
theorem lookup_relS {sc:Scope}:∀{names:List (Str×NameKind)} {x:Str} {k:NameKind},
  (names.map fun (n,k)=>if (k==NameKind.free&&sc.kind==.function&&sc.names.lookup n==some .cell) then (n,NameKind.cell) else (n,k)).lookup x=some k →
  ∃k',names.lookup x=some k'∧(k=k'∨(k'=.free∧k=.cell))
 |[],_,_,h=>by simp at h
 |(n,k₀)::r,x,k,h=>by
  have ih:=@lookup_relS sc r x k
  have h':List.lookup x ((if (k₀==NameKind.free&&sc.kind==.function&&sc.names.lookup n==some .cell)=true then (n,NameKind.cell) else (n,k₀))::(r.map _))=some k:=h
  cases hx:x==n with
  |true =>
   simp only [List.lookup_cons,hx]
   by_cases hc:(k₀==NameKind.free&&sc.kind==.function&&sc.names.lookup n==some .cell)=true
   ·rw[if_pos hc] at h'
    simp only [List.lookup_cons,hx] at h'
    cases h'
    simp only [Bool.and_eq_true,beq_iff_eq] at hc
    exact⟨k₀,rfl,.inr ⟨hc.1.1,rfl⟩⟩
   ·rw[if_neg hc] at h'
    simp only [List.lookup_cons,hx] at h'
    cases h'
    exact⟨_,rfl,.inl rfl⟩
  |false =>
   simp only [List.lookup_cons,hx]
   by_cases hc:(k₀==NameKind.free&&sc.kind==.function&&sc.names.lookup n==some .cell)=true
   ·rw[if_pos hc] at h'
    simp only [List.lookup_cons,hx] at h'
    exact ih h'
   ·rw[if_neg hc] at h'
    simp only [List.lookup_cons,hx] at h'
    exact ih h'
structure BlkOk (N:List Str) (sc scope:Scope) (own:List (Str×Nat)):Prop where
 kind:scope.kind=.function
 uniq:∀y∈scope.names,scope.names.lookup y.1=some y.2
 ix:∀p∈own,N[p.2]?=some p.1
 free:∀y∈scope.names,y.2=.free→sc.names.lookup y.1=some .cell∨sc.names.lookup y.1=some .free
 own:∀y∈scope.names,y.2=.local∨y.2=.cell→y.1∈own.map (·.1)∨y.1∉N
def wipe (σ:St):List Nat→St
 |[]=>σ
 |v::vs=>(wipe σ vs).set v none
theorem wipe_length (σ:St):∀vs:List Nat,(wipe σ vs).length=σ.length
 |[]=>rfl
 |v::vs=>by unfold wipe;rw[List.length_set,wipe_length σ vs]
theorem wipe_some {σ:St} {i:Nat} {x:V}:∀{vs:List Nat},(wipe σ vs)[i]?=some (some x)→σ[i]?=some (some x)∧i∉vs
 |[],h=>⟨h,by simp⟩
 |v::vs,h=>by
  unfold wipe at h
  by_cases hi:v=i
  ·subst hi
   by_cases hv:v<(wipe σ vs).length
   ·rw[List.getElem?_set_self hv] at h;cases h
   ·rw[List.getElem?_eq_none (by simpa using hv)] at h;cases h
  ·rw[List.getElem?_set_ne hi] at h
   obtain⟨h1,h2⟩:=wipe_some h
   exact⟨h1,by simp only [List.mem_cons,not_or];exact⟨fun e=>hi e.symm,h2⟩⟩
abbrev Cx.blk (X:Cx) (s:Shared) (H:Hp) (scope:Scope) (cenv:Env) (fp:List Addr):Cx:={X with s_0:=s,H_0:=H,env:=cenv,outer:=X.stack,ex:=fp,fn:=fun x=>scope.names.lookup x==some .cell,pn:=[],xe:=fun _ _=>False}
section
variable {X : Cx} {pins : List (Addr × Obj)} {σ : St} {H : Hp} {s : Shared}
theorem block_start {scope:Scope} {own:List (Str×Nat)} {fp:List Addr} (I:Inv X pins σ H s) (ok:BlkOk X.N X.env.scope scope own) (hN:X.N.Nodup) (hfp:∀b∈fp,FpOk X pins H b∧b<s.heap.objs.size) :
  Inv (X.blk s H scope (compEnvC scope (cellsFrom (s.heap.objs.size+1) scope.names (cloFrom X.env.cells scope.names [])) s.heap.objs.size X.env) fp) [] (wipe σ (own.map (·.2))) H {s with heap:=pushCells (s.heap.push {cls:=.type "dict",data:=.dict #[]}) scope.names}:=by
 have hfree:∀y∈scope.names,y.2=.free→∃c,X.env.cells.lookup y.1=some c:=fun y hy e=>by
  rcases ok.free y hy e with k|k
  ·exact I.ok.has _ (.inl k)
  ·exact I.ok.has _ (.inr k)
 generalize hcenv:compEnvC scope (cellsFrom (s.heap.objs.size+1) scope.names (cloFrom X.env.cells scope.names [])) s.heap.objs.size X.env=cenv
 have kp:∀b o,s.heap.get? b=some o→(pushCells (s.heap.push {cls:=.type "dict",data:=.dict #[]}) scope.names).get? b=some o:=fun b o e=>pushCells_keeps _ _ _ _ (Heap.get?_push_of_some _ e)
 have hL:cenv.locals=s.heap.objs.size:=by rw[←hcenv];rfl
 have hcl:cenv.cells=cellsFrom (s.heap.objs.size+1) scope.names (cloFrom X.env.cells scope.names []):=by rw[←hcenv];rfl
 have hsc:cenv.scope=relS scope X.env.scope:=by rw[←hcenv];rfl
 rw[←Heap.size_push s.heap {cls:=.type "dict",data:=.dict #[]}] at hcl
 have cm:∀{y c},(y,c)∈cloFrom X.env.cells scope.names []→X.env.cells.lookup y=some c∧c<s.heap.objs.size:=fun {y c} hm=>by
  rcases cloFrom_mem hm with hm|⟨h1,rfl⟩
  ·cases hm
  ·obtain⟨c,hc⟩:=hfree _ h1 rfl
   rw[hc]
   obtain⟨w,z⟩:=I.cell _ _ hc
   exact⟨rfl,z.lt⟩
 have mem:∀{y c},cenv.cells.lookup y=some c→(X.env.cells.lookup y=some c∧c<s.heap.objs.size)∨(s.heap.objs.size+1≤c∧CellAt (pushCells (s.heap.push {cls:=.type "dict",data:=.dict #[]}) scope.names) c none):=fun {y c} e=>by
  rw[hcl] at e
  rcases cells_mem (PySem.mem_of_lookup e) with hm|⟨_,h2,h3⟩
  ·exact .inl (cm hm)
  ·rw[Heap.size_push] at h2;exact .inr ⟨h2,h3⟩
 have look:∀{y},scope.names.lookup y=some .free→∃c,cenv.cells.lookup y=some c∧X.env.cells.lookup y=some c:=fun {y} hl=>by
  have hy:(y,NameKind.free)∈scope.names:=PySem.mem_of_lookup hl
  obtain⟨c',e'⟩:=mem_lookup (cells_acc (names:=scope.names) (n:=(s.heap.push {cls:=.type "dict",data:=.dict #[]}).objs.size) (cloFrom_has (cells:=X.env.cells) (acc:=[]) hy))
  rw[←hcl] at e'
  refine⟨c',e',?_⟩
  rw[hcl] at e'
  rcases cells_mem (PySem.mem_of_lookup e') with hm|⟨h1,_,_⟩
  ·exact (cm hm).1
  ·have:=ok.uniq _ h1
   rw[hl] at this;cases this
 have okB:(X.blk s H scope cenv fp).Ok:=by
  refine⟨I.ok.mod,by show cenv.scope.kind=_;rw[hsc];exact ok.kind,by show cenv.globals=_;rw[←hcenv];exact I.ok.glob,by show cenv.builtins=_;rw[←hcenv];exact I.ok.blt,by show s.heap.objs.size≤cenv.locals;rw[hL];exact Nat.le_refl _,
   fun y z c e1 e2=>?_,fun y hy=>?_,fun y c z e=>?_,I.ok.hd,I.ok.frames,.inl rfl,fun b hb=>⟨?_,fun y c e z=>?_⟩,I.bs,Nat.le_trans I.ok.bsz I.sz,fun b o e hb=>?_,fun b hb z=>?_,I.stack,I.stkFree⟩
  ·have e1:cenv.cells.lookup y=some c:=e1
   have e2:cenv.cells.lookup z=some c:=e2
   rw[hcl] at e1 e2
   refine cells_inj (fun p hp=>?_) (fun y z c a b=>I.ok.inj y z c (cm a).1 (cm b).1) (PySem.mem_of_lookup e1) (PySem.mem_of_lookup e2)
   rw[Heap.size_push]
   exact Nat.lt_succ_of_lt (cm (y:=p.1) (c:=p.2) hp).2
  ·show ∃c,cenv.cells.lookup y=some c
   have key:∀k,cenv.kindOf y=some k→(k=.cell∨k=.free)→∃c,cenv.cells.lookup y=some c:=fun k hk hk'=>by
    unfold Env.kindOf at hk
    rw[hsc] at hk
    obtain⟨k',e,r⟩:=lookup_relS hk
    have:k'=.cell∨k'=.free:=by
     rcases r with rfl|⟨rfl,_⟩
     ·exact hk'
     ·exact .inr rfl
    rcases this with rfl|rfl
    ·obtain⟨c,hm⟩:=cells_has (n:=(s.heap.push {cls:=.type "dict",data:=.dict #[]}).objs.size) (acc:=cloFrom X.env.cells scope.names []) (PySem.mem_of_lookup e)
     obtain⟨c',e'⟩:=mem_lookup hm
     exact⟨c',by rw[hcl];exact e'⟩
    ·obtain⟨c,h1,_⟩:=look e
     exact⟨c,h1⟩
   rcases hy with hy|hy
   ·exact key _ hy (.inl rfl)
   ·exact key _ hy (.inr rfl)
  ·have z:(scope.names.lookup y==some NameKind.cell)=true:=z
   have z:scope.names.lookup y=some .cell:=by simpa using z
   have e:cenv.cells.lookup y=some c:=e
   rw[hcl] at e
   rcases cells_mem (PySem.mem_of_lookup e) with hm|⟨_,h2,_⟩
   ·rcases cloFrom_mem hm with hm|⟨h1,_⟩
    ·cases hm
    ·have q:=ok.uniq _ h1
     rw[z] at q;cases q
   ·rw[Heap.size_push] at h2
    exact Nat.le_of_succ_le h2
  ·show b≠cenv.locals
   rw[hL];exact Nat.ne_of_lt (hfp b hb).2
  ·have e:cenv.cells.lookup y=some c:=e
   rcases mem e with⟨h1,_⟩|⟨h1,_⟩
   ·exact (hfp b hb).1.2.2.2.2.1 y c h1 z
   ·have h2:s.heap.objs.size+1≤b:=by rw[←z];exact h1
    exact absurd (Nat.lt_of_lt_of_le (hfp b hb).2 (Nat.le_of_succ_le h2)) (Nat.lt_irrefl _)
  ·rcases (hfp b hb).1.2.2.2.1 with z|z
   ·exact I.ok.noex b o e z
   ·exact absurd (Nat.lt_of_lt_of_le (Heap.lt_size e) (Nat.le_trans I.ok.bsz z)) (Nat.lt_irrefl _)
  ·rcases List.mem_cons.mp (I.stkSub b z) with z|z
   ·exact (hfp b hb).1.2.1 z
   ·exact (hfp b hb).1.2.2.1 z
 refine⟨okB,rfl,I.bare,Un.kept kp,⟨fun _=>none,?_,fun i y av e1 e2 e3=>?_⟩,fun y c e=>?_,?_,fun y c e=>?_,fun p hp=>?_,I.hok.kept kp,by rw[wipe_length];exact I.len⟩
 ·show Heap.Ns _ cenv.locals _
  rw[hL]
  exact Heap.Ns.keeps (Heap.Ns.new ..) fun b o e=>pushCells_keeps _ _ _ _ e
 ·obtain⟨e2,hne⟩:=wipe_some e2
  have hfr:scope.names.lookup y=some .free∧(cenv.kindOf y=some .cell∨cenv.kindOf y=some .free):=by
   have key:∀k,cenv.scope.names.lookup y=some k→k=.local∨k=.cell∨k=.free→scope.names.lookup y=some .free∧(cenv.kindOf y=some .cell∨cenv.kindOf y=some .free):=fun k hk hk'=>by
    have hk0:=hk
    rw[hsc] at hk
    obtain⟨k',e,r⟩:=lookup_relS hk
    have no:¬(k'=.local∨k'=.cell):=fun hh=>by
     rcases ok.own _ (PySem.mem_of_lookup e) hh with e'|e'
     ·obtain⟨p,hp,hpy⟩:=List.mem_map.mp e'
      have e3:=ok.ix p hp
      have:p.1=y:=hpy
      rw[this] at e3
      exact hne (List.mem_map.mpr ⟨p,hp,nodup_ix hN e3 e1⟩)
     ·exact e' (List.mem_of_getElem? e1)
    rcases r with rfl|⟨rfl,rfl⟩
    ·rcases hk' with rfl|rfl|rfl
     ·exact absurd (.inl rfl) no
     ·exact absurd (.inr rfl) no
     ·exact⟨e,.inr hk0⟩
    ·exact⟨e,.inl hk0⟩
   have e3:Vis cenv.scope y:=e3
   rcases e3 with e3|e3|e3
   ·exact key _ e3 (.inl rfl)
   ·exact key _ e3 (.inr (.inl rfl))
   ·exact key _ e3 (.inr (.inr rfl))
  obtain⟨m,hn,hl⟩:=I.loc
  have hvis:Vis X.env.scope y:=(ok.free _ (PySem.mem_of_lookup hfr.1) rfl).elim (fun k=>.inr (.inl k)) (fun k=>.inr (.inr k))
  obtain⟨w,r,q⟩:=hl i y av e1 e2 hvis
  refine⟨w,r,.inr ⟨hfr.2,?_⟩⟩
  obtain⟨c,h1,h2⟩:=look hfr.1
  rcases q with⟨k,_⟩|⟨_,c',e',z⟩
  ·have k:X.env.scope.names.lookup y=some .local:=k
   rcases ok.free _ (PySem.mem_of_lookup hfr.1) rfl with k'|k'<;>rw[show X.env.scope.names.lookup y=_ from k'] at k<;>cases k
  ·rw[h2] at e';cases e'
   exact⟨c,h1,z.keeps kp⟩
 ·have e:cenv.cells.lookup y=some c:=e
  rcases mem e with⟨h1,_⟩|⟨_,z⟩
  ·obtain⟨w,z⟩:=I.cell y c h1
   exact⟨w,z.keeps kp⟩
  ·exact⟨_,z⟩
 ·show H cenv.locals=none
  rw[hL];exact I.hok.fresh (Nat.le_refl _)
 ·have e:cenv.cells.lookup y=some c:=e
  rcases mem e with⟨h1,_⟩|⟨h1,_⟩
  ·exact I.freeC y c h1
  ·exact I.hok.fresh (Nat.le_of_succ_le h1)
 ·exact absurd (show p∈([]:List (Addr×Obj))++[] from hp) (by simp)
theorem app_ok {E:Value→Shared→Prop} {D:Addr} {xs:List V} {y:V} {v:Value} {Q:Value→Shared→Prop} (I:Inv X pins σ H s) (hD:H D=some (.lst xs)) (hz:xs.length<sizeLine) (r:RelV y v)
  (h:∀s',Inv X pins σ (upd H D (.lst (xs++[y]))) s'→Q .none s'):wpAny (model X.prog X.w) X.A (call (.builtin "list.append") [.ref D,v]) Q E s:=by
 obtain⟨hz',its,n,ri,e⟩:=I.hok D _ hD
 have hl:=ri.length
 refine append_at (hsz:=by rw[List.size_toArray];omega) e fun h' sb ho'=>?_
 refine h {s with heap:=h'} (I.write (t':=s.toks) (by rw[hD];trivial) (.inl rfl) (fun b u hb q=>(sb.2 b hb).trans q) ⟨_,ho'⟩ ⟨by rw[List.length_append];exact hz,its++[v],n+1,ri.append (.cons r .nil),?_⟩)
 rw[ho']
 simp
def PTs (X:Cx) (ifs:List Expr) (t:TT):Prop :=
 ∀(pins:List (Addr×Obj)) (s:Shared) (σ:St) (H:Hp) (Q:Bool→Hp→Prop),Inv X pins σ H s→t σ H Q →
  wpAny (model X.prog X.w) X.A (forIn ifs true fun c r=>if r=true then do let ok ←isTrue c X.env (eval c X.env);pure (ForInStep.yield ok) else pure (ForInStep.yield r)) (TP X pins σ Q) X.xe s
def tYes:TT:=fun _ H Q=>Q true H
theorem pts_nil:PTs X [] tYes:=fun _ _ _ H _ I h=>wpAny_tests_nil ⟨H,I,h⟩
theorem pts_one {c:Expr} {t:TT} (h:PT X c t):PTs X [c] t:=fun pins s σ H Q I hw=>wpAny_tests_one (h pins s σ H Q I hw)
end
theorem thnF {α:Type} {t:Sem α} {Q Q':α→Shared→Prop} {M:Model} {A:Around} {E:Value→Shared→Prop} {s:Shared} (h:wpAny M A t Q (fun _ _=>False) s) (hQ:∀a s,Q a s→Q' a s):wpAny M A t Q' E s:=wpAny_mono h hQ fun _ _ z=>False.elim z
theorem compLoop_any {prog:Program} {w:World} {A:Around} {R:Result→Shared→Prop} {s:Shared} {elt target iter:Expr} {ifs:List Expr} {scope:Scope} {pos:Pos} {it acc:Value} {env:Env} (I:Nat→Shared→Prop)
  (turn:∀n s,I n s→wpAny (model prog w) A (pyNext it) (fun r s₁=>match r with
   |none=>R (.ok .next) s₁
   |some v=>wpAny (model prog w) A (letOwnedTupleGo target it v) (fun _ s₁'=>wpAny (model prog w) A (assign target env v) (fun _ s₂ =>
     wpAny (model prog w) A (forIn ifs true fun c r=>if r=true then do let ok ←isTrue c env (eval c env);pure (ForInStep.yield ok) else pure (ForInStep.yield r)) (fun ok s₃ =>
      if ok=true then wpAny (model prog w) A (eval elt env) (fun x s₄ =>
       wpAny (model prog w) A (call (.builtin "list.append") [acc,x]) (fun _ s₅=>∃m,m<n∧I m s₅) (notedBy (model prog w) A env fun e s'=>R (.error e) s') s₄) (notedBy (model prog w) A env fun e s'=>R (.error e) s') s₃
      else ∃m,m<n∧I m s₃) (notedBy (model prog w) A env fun e s'=>R (.error e) s') s₂) (notedBy (model prog w) A env fun e s'=>R (.error e) s') s₁') (notedBy (model prog w) A env fun e s'=>R (.error e) s') s₁) (notedBy (model prog w) A env fun e s'=>R (.error e) s') s)
  (n:Nat) (h:I n s) :
  codeAny (model prog w) A (.compLoop (.ListComp elt [⟨target,iter,ifs,0⟩] scope pos) 0 it acc env) R s:=by
 refine codeAny_loop rfl I (fun n s hI=>?_) n h
 show wpAny _ A ((compTurn (.ListComp elt [⟨target,iter,ifs,0⟩] scope pos) 0 it acc env).onRaise (fun x=>do noteFrame x env;theTreesLotGoes x)) _ _ s
 refine wpAny_noted ?_
 rw[compTurn_list]
 refine wpAny_bind (wpAny_standAt (wpAny_bind (wpAny_mono (turn n s hI) (fun r s₁ h₁=>?_) fun _ _ h'=>h')))
 cases r with
 |none=>exact wpAny_pure h₁
 |some v =>
  refine wpAny_bind (wpAny_mono h₁ (fun _ s₁' h₁'=>?_) fun _ _ h'=>h')
  refine wpAny_bind (wpAny_mono h₁' (fun _ s₂ h₂=>wpAny_bind (wpAny_mono h₂ (fun ok s₃ h₃=>?_) fun _ _ h'=>h')) fun _ _ h'=>h')
  cases ok with
  |false=>exact wpAny_pure ⟨rfl,h₃⟩
  |true =>
   exact wpAny_bind (wpAny_bind (wpAny_mono h₃ (fun x s₄ h₄=>wpAny_bind (wpAny_mono h₄ (fun _ s₅ h₅=>wpAny_pure (wpAny_pure ⟨rfl,h₅⟩)) fun _ _ h'=>h')) fun _ _ h'=>h'))
section
variable {X : Cx}
def tLc (wi:TI) (g:TG) (tt:TT) (te:TE) (vs:List Nat):TE:=fun σ H Q=>wi σ H fun J H1=>∀D,H1 D=none→∃W:Nat→Nat→Hp→Prop,(∃m,W 0 m (upd H1 D (.lst [])))∧∀i m H,W i m H →
 (J.stop i H∧Q (.ref D) H)∨(J.go i H∧∃Nx:Hp→Prop,(∀H',Nx H'→∃m',m'<m∧W (i+1) m' H')∧∀x H',J.yld i H x H'→g x (wipe σ vs) H' fun σ2 H2=>wipe σ2 vs=wipe σ vs∧tt σ2 H2 fun b H3 =>
  if b=true then te σ2 H3 fun y H4=>∃acc,H4 D=some (.lst acc)∧acc.length<sizeLine∧Nx (upd H4 D (.lst (acc++[y]))) else Nx H3)
theorem lc_core {pins:List (Addr×Obj)} {s:Shared} {σ:St} {H:Hp} {Q:VK} {elt tg iter:Expr} {ifs:List Expr} {scope:Scope} {own:List (Str×Nat)} {pos pos':Pos} {wi:TI} {g:TG} {tt:TT} {te:TE} {use:Option (Value→Sem Unit)} {Qf:Value→Shared→Prop}
  (hc:X.calm=true) (hN:X.N.Nodup) (I:Inv X pins σ H s) (hi:PI X tg iter wi) (ok:BlkOk X.N X.env.scope scope own)
  (hg:∀(s:Shared) (H:Hp) (C:Addr) (cl:List (Str×Addr)) (fp:List Addr),PG (X.blk s H scope (compEnvC scope cl C X.env) fp) tg g) (ht:∀(s:Shared) (H:Hp) (C:Addr) (cl:List (Str×Addr)) (fp:List Addr),PTs (X.blk s H scope (compEnvC scope cl C X.env) fp) ifs tt)
  (he:∀(s:Shared) (H:Hp) (C:Addr) (cl:List (Str×Addr)) (fp:List Addr),PE (X.blk s H scope (compEnvC scope cl C X.env) fp) elt te) (hs:∀x,foldedSetIterable iter X.env x=pure x)
  (h:tLc wi g tt te (own.map (·.2)) σ H Q)
  (hRR:∀D C s' m H',Inv X pins σ H' s'→Q (.ref D) H'→s'.heap.Ns C m→FpOk X pins H' C→compPost (model X.prog X.w) X.A X.xe use Qf (.ref D) C (.ok .next) s') :
  wpAny (model X.prog X.w) X.A (comprehension (.ListComp elt [⟨tg,iter,ifs,0⟩] scope pos) scope X.env pos' (newList []) false (eval iter X.env) use) Qf X.xe s:=by
 have hfree:∀y∈scope.names,y.2=.free→∃c,X.env.cells.lookup y.1=some c:=fun y hy e=>by
  rcases ok.free y hy e with k|k
  ·exact I.ok.has _ (.inl k)
  ·exact I.ok.has _ (.inr k)
 refine wpAny_comprehension_free (use:=use) rfl hs (closure_ok hfree) ok.kind (fun y hy e=>by rw[ok.uniq y hy,e])
  (thn (hi pins s σ H _ I h) fun xv s1 hx=>thn hx fun itv s2 h2=>?_)
 obtain⟨it,fp,tn,J,H2,e,I2,T,st2,f2,q⟩:=h2
 subst e
 refine wpAny_newObj_type (newEnv_comp ?_) (by show 0≤sizeLine;decide)
 generalize hD:s2.heap.objs.size=D
 have hDn:H2 D=none:=I2.hok.fresh (Nat.le_of_eq hD)
 obtain⟨W,⟨m0,w0⟩,turn⟩:=q D hDn
 generalize hs3:({s2 with heap:=s2.heap.push {cls:=.type "list",data:=.seq ([]:List Value).toArray}}:Shared)=s3
 have I3:Inv X pins σ (upd H2 D (.lst [])) s3:=by
  rw[←hs3]
  refine I2.laid (t':=s2.toks) (fun b o e=>Heap.get?_push_of_some _ e) (Nat.le_of_eq hD) ⟨Nat.zero_le _,[],0,.nil,?_⟩
  rw[←hD]
  exact Heap.get?_push_size _ rfl
 have h3:s3.heap=s2.heap.push {cls:=.type "list",data:=.seq ([]:List Value).toArray}:=by rw[←hs3]
 have sz:∀b∈fp,b<s2.heap.objs.size:=fun b hb=>by
  obtain⟨o,e,_⟩:=T.obj _ _ st2 b hb
  exact Heap.lt_size e
 have f3:∀b∈fp,FpOk X pins (upd H2 D (.lst [])) b∧b<s3.heap.objs.size:=fun b hb=>by
  have hlt:=sz b hb
  refine⟨⟨?_,(f2 b hb).2⟩,by rw[h3,Heap.size_push];exact Nat.lt_succ_of_lt hlt⟩
  rw[upd_ne (by rw[←hD];exact Nat.ne_of_lt hlt)]
  exact (f2 b hb).1
 have st3:tn 0 s3.heap:=T.keep _ _ _ st2 fun b _ o e=>by rw[h3];exact Heap.get?_push_of_some _ e
 have I4:=block_start I3 ok hN f3
 have pg:=hg s3 (upd H2 D (.lst [])) s3.heap.objs.size (cellsFrom (s3.heap.objs.size+1) scope.names (cloFrom X.env.cells scope.names [])) fp
 have pt:=ht s3 (upd H2 D (.lst [])) s3.heap.objs.size (cellsFrom (s3.heap.objs.size+1) scope.names (cloFrom X.env.cells scope.names [])) fp
 have pe:=he s3 (upd H2 D (.lst [])) s3.heap.objs.size (cellsFrom (s3.heap.objs.size+1) scope.names (cloFrom X.env.cells scope.names [])) fp
 show codeAny _ _ (.compStart (.ListComp elt [⟨tg,iter,ifs,0⟩] scope pos) 0 (.ref it) (.ref D) (compEnvC scope (cellsFrom (s3.heap.objs.size+1) scope.names (cloFrom X.env.cells scope.names [])) s3.heap.objs.size X.env)) (compPost (model X.prog X.w) X.A X.xe use Qf (.ref D) s3.heap.objs.size) {s3 with heap:=pushCells (s3.heap.push {cls:=.type "dict",data:=.dict #[]}) scope.names}
 have nfp:∀b∈fp,(upd H2 D (.lst [])) b=none:=fun b hb=>(f3 b hb).1.1
 generalize hce:compEnvC scope (cellsFrom (s3.heap.objs.size+1) scope.names (cloFrom X.env.cells scope.names [])) s3.heap.objs.size X.env=ce at I4 pg pt pe ⊢
 have cL:ce.locals=s3.heap.objs.size:=by subst hce;rfl
 generalize hH3:upd H2 D (.lst [])=H3 at I3 I4 pg pt pe w0 nfp f3
 generalize hs4:({s3 with heap:=pushCells (s3.heap.push {cls:=.type "dict",data:=.dict #[]}) scope.names}:Shared)=s4 at I4 ⊢
 have st4:tn 0 s4.heap:=T.keep _ _ _ st3 fun b _ o e=>by rw[←hs4];exact pushCells_keeps _ _ _ _ (Heap.get?_push_of_some _ e)
 have stat:∀{σ':St} {H':Hp} {s':Shared},Inv (X.blk s3 H3 scope ce fp) [] σ' H' s'→(∀b∈fp,H' b=none)→∀b∈fp,FpOk (X.blk s3 H3 scope ce fp) [] H' b:=fun {σ' H' s'} I' hn b hb =>
  ⟨hn b hb,(I'.ok.exf b hb).1,I'.ok.exfs b hb,.inl hb,fun x c e=>(I'.ok.exf b hb).2 x c e,fun p hp=>absurd (show p∈([]:List (Addr×Obj))++[] from hp) (by simp)⟩
 have loop:codeAny (model X.prog X.w) X.A (.compLoop (.ListComp elt [⟨tg,iter,ifs,0⟩] scope pos) 0 (.ref it) (.ref D) ce) (compPost (model X.prog X.w) X.A X.xe use Qf (.ref D) s3.heap.objs.size) s4:=by
  refine compLoop_any (fun n s'=>∃i H',Inv (X.blk s3 H3 scope ce fp) [] (wipe σ (own.map (·.2))) H' s'∧tn i s'.heap∧(∀b∈fp,H' b=none)∧W i n H') ?_ m0 ⟨0,H3,I4,st4,nfp,w0⟩
  rintro n s5 ⟨i,H5,I5,st5,n5,w5⟩
  rcases turn i n H5 w5 with⟨stop,qq⟩|⟨go,Nx,hNx,step⟩
  ·have td:=T.done (X.blk s3 H3 scope ce fp) rfl rfl rfl hc i [] s5 _ H5 (fun _ _=>False) I5 (stat I5 n5) st5 stop
   refine thnF td fun r s6 ⟨hr,I6⟩=>?_
   subst hr
   have I7:Inv X pins σ H5 s6:=I3.call' (ch:=fp) I6.os I6.base I6.hok I6.bare fun b hb=>⟨(f3 b hb).1.2.2.2.1,(f3 b hb).1.2.1,(f3 b hb).1.2.2.2.2.1,(f3 b hb).1.2.2.2.2.2⟩
   have nC:H5 s3.heap.objs.size=none:=by
    have z:H5 ce.locals=none:=I6.free
    rw[cL] at z
    exact z
   obtain⟨m,hn,_⟩:=I6.loc
   have hn:s6.heap.Ns ce.locals m:=hn
   rw[cL] at hn
   exact hRR D s3.heap.objs.size s6 m H5 I7 qq hn (I3.fpOk (Nat.le_refl _) nC)
  ·have ti:=T.item (X.blk s3 H3 scope ce fp) rfl rfl rfl hc i [] s5 _ H5 (fun _ _=>False) I5 (stat I5 n5) st5 go
   refine thnF ti fun r s6 ⟨u,hr,h6⟩=>?_
   subst hr
   refine thnF h6 fun _ s7 ⟨x,H7,I7,r7,y7,st7,n7⟩=>?_
   have I7':=I7.pinned (stat I7 n7) (T.obj _ _ st7)
   refine thnF (pg _ s7 _ H7 x u _ I7' r7 (step x H7 y7)) fun _ s8 ⟨σ8,H8,I8,hw8,q8⟩=>?_
   refine thnF (pt _ s8 σ8 H8 _ I8 q8) fun b s9 ⟨H9,I9,q9⟩=>?_
   have fin:∀{s':Shared} {H':Hp},Inv (X.blk s3 H3 scope ce fp) ([]++pinsAt fp s7.heap) σ8 H' s'→Nx H'→∃m,m<n∧∃i H',Inv (X.blk s3 H3 scope ce fp) [] (wipe σ (own.map (·.2))) H' s'∧tn i s'.heap∧(∀b∈fp,H' b=none)∧W i m H':=fun {s' H'} I' nx=>by
    obtain⟨m',hm,w'⟩:=hNx H' nx
    have pin':∀b∈fp,∀o,s7.heap.get? b=some o→s'.heap.get? b=some o∧H' b=none:=fun b hb o e =>
     let z:=I'.pin (b,o) (List.mem_append_right _ (List.mem_append_right _ (mem_pinsAt hb e)))
     ⟨z.1,z.2.1⟩
    have hl:(wipe σ (own.map (·.2))).length=σ8.length:=by rw[←hw8,wipe_length]
    refine⟨m',hm,i+1,H',(I'.unpinned (pins:=[])).weak hl (fun j v e=>?_),T.keep _ _ _ st7 fun b hb o e=>(pin' b hb o e).1,fun b hb=>?_,w'⟩
    ·rw[←hw8] at e
     exact (wipe_some e).1
    ·obtain⟨o,e,_⟩:=T.obj _ _ st7 b hb
     exact (pin' b hb o e).2
   cases b with
   |false =>
    simp only [Bool.false_eq_true,if_false] at q9 ⊢
    exact fin I9 q9
   |true =>
    simp only [if_true] at q9 ⊢
    refine thnF (pe _ s9 σ8 H9 _ I9 q9) fun z s10 ⟨yv,H10,I10,r10,acc,hD10,hz10,nx⟩=>?_
    exact app_ok (X:=X.blk s3 H3 scope ce fp) I10 hD10 hz10 r10 fun s11 I11=>fin I11 nx
 exact codeAny_compStart_list loop (T.self X.A 0 _ _ _ st4 loop)
theorem pe_lc {elt tg iter:Expr} {ifs:List Expr} {scope:Scope} {own:List (Str×Nat)} {pos:Pos} {wi:TI} {g:TG} {tt:TT} {te:TE} (hc:X.calm=true) (hN:X.N.Nodup) (hi:PI X tg iter wi) (ok:BlkOk X.N X.env.scope scope own)
  (hg:∀(s:Shared) (H:Hp) (C:Addr) (cl:List (Str×Addr)) (fp:List Addr),PG (X.blk s H scope (compEnvC scope cl C X.env) fp) tg g) (ht:∀(s:Shared) (H:Hp) (C:Addr) (cl:List (Str×Addr)) (fp:List Addr),PTs (X.blk s H scope (compEnvC scope cl C X.env) fp) ifs tt)
  (he:∀(s:Shared) (H:Hp) (C:Addr) (cl:List (Str×Addr)) (fp:List Addr),PE (X.blk s H scope (compEnvC scope cl C X.env) fp) elt te) (hs:∀x,foldedSetIterable iter X.env x=pure x:=by intro _;rfl) :
  PE X (.ListComp elt [⟨tg,iter,ifs,0⟩] scope pos) (tLc wi g tt te (own.map (·.2))):=by
 intro pins s σ H Q I h
 rw[eval_ListComp]
 refine lc_core hc hN I hi ok hg ht he hs h fun D C s' m H' I' q hn f=>⟨m,hn,fun h'' sb=>?_⟩
 obtain⟨f0,f1,f2,f3,f4,f5⟩:=f
 exact⟨.ref D,H',I'.turned (t':=s'.toks) (fun b o hb e=>(sb.2 b hb).trans e) f0 f1 f3 f4 f5,rfl,q⟩
theorem ps_setLc {i:Nat} {y:Str} {py:Pos} {elt tg iter:Expr} {ifs:List Expr} {scope:Scope} {own:List (Str×Nat)} {pos spos:Pos} {wi:TI} {g:TG} {tt:TT} {te:TE} (hc:X.calm=true) (hN:X.N.Nodup) (hy:X.N[i]?=some y) (hyl:X.env.scope.names.lookup y=some .local)
  (hsw:swapsWith (.ListComp elt [⟨tg,iter,ifs,0⟩] scope pos) (some (.Name y py)) spos.line X.env=pure true) (hi:PI X tg iter wi) (ok:BlkOk X.N X.env.scope scope own)
  (hg:∀(s:Shared) (H:Hp) (C:Addr) (cl:List (Str×Addr)) (fp:List Addr),PG (X.blk s H scope (compEnvC scope cl C X.env) fp) tg g) (ht:∀(s:Shared) (H:Hp) (C:Addr) (cl:List (Str×Addr)) (fp:List Addr),PTs (X.blk s H scope (compEnvC scope cl C X.env) fp) ifs tt)
  (he:∀(s:Shared) (H:Hp) (C:Addr) (cl:List (Str×Addr)) (fp:List Addr),PE (X.blk s H scope (compEnvC scope cl C X.env) fp) elt te) (hs:∀x,foldedSetIterable iter X.env x=pure x:=by intro _;rfl) :
  PS X (.Assign [.Name y py] (.ListComp elt [⟨tg,iter,ifs,0⟩] scope pos) spos) (tAsg (tLc wi g tt te (own.map (·.2))) (gName i)):=by
 intro pins s σ H D I h
 rw[exec_Assign_Name_used _ _ _ _ hsw]
 refine wpAny_bind (wpAny_standAt (wpAny_bind ?_))
 show wpAny _ X.A (do let _ ←comprehension (.ListComp elt [⟨tg,iter,ifs,0⟩] scope pos) scope X.env (firstIterPos [⟨tg,iter,ifs,0⟩] pos) (newList []) false (eval iter X.env) (some (assign (.Name y py) X.env))) _ _ s
 have h:tLc wi g tt te (own.map (·.2)) σ H (fun x H1=>gName i x σ H1 D.nx):=h
 refine wpAny_bind (thn (lc_core (Qf:=fun _ s'=>SP X pins D .next s') hc hN I hi ok hg ht he hs h fun L C s' m H' I' q hn f=>?_) fun _ s' hq=>wpAny_pure (wpAny_pure hq))
 show wpAny _ _ (assign (.Name y py) X.env (.ref L)) _ _ _
 refine wpAny_assign_Name (store_ok2 (v:=V.ref L) I' hN hy (.inl hyl) rfl (fun s2 I2 ⟨a,sb,ha⟩=>?_) (.inr hyl))
 obtain⟨f0,f1,f2,f3,f4,f5⟩:=f
 have haC:C≠a:=by
  rcases ha with z|z
  ·rw[z];exact f1
  ·exact fun e=>f4 y a z e.symm
 refine⟨m,hn.sameBut sb haC,fun h3 sb3=>?_⟩
 exact⟨_,H',I2.turned (t':=s2.toks) (fun b o hb e=>(sb3.2 b hb).trans e) f0 f1 f3 f4 f5,q⟩
theorem sw_true {elt:Expr} {gs:List Comprehension} {scope:Scope} {pos py:Pos} {y:Str} {l:Nat} {env:Env} (hk:env.scope.kind=.function) (hy:env.scope.names.lookup y=some .local) (hl:(py.line==pos.line)=true)
  (ha:(scope.names.any fun (n,k)=>n==y&&(k==.local||k==.cell))=false):swapsWith (.ListComp elt gs scope pos) (some (.Name y py)) l env=pure true:=by
 have ky:env.kindOf y=some .local:=hy
 have hb:env.blockKind=.function:=by unfold Env.blockKind;rw[hk];rfl
 unfold swapsWith
 simp only [hb,ky,ha,Expr.pos,hl]
 rfl
end
theorem lc_range {lo:Int} {n:Nat} {g:TG} {tt:TT} {te:TE} {vs:List Nat} {σ:St} {H1:Hp} {D:Addr} {Qd:Hp→Prop} (Pv:Nat→Hp→Prop) (h0:Pv 0 (upd H1 D (.lst [])))
  (hs:∀i H,i<n→Pv i H→g (.int (lo+i)) (wipe σ vs) H fun σ2 H2=>wipe σ2 vs=wipe σ vs∧tt σ2 H2 fun b H3 =>
   if b=true then te σ2 H3 fun y H4=>∃acc,H4 D=some (.lst acc)∧acc.length<sizeLine∧Pv (i+1) (upd H4 D (.lst (acc++[y]))) else Pv (i+1) H3) (hd:∀H,Pv n H→Qd H) :
  ∃W:Nat→Nat→Hp→Prop,(∃m,W 0 m (upd H1 D (.lst [])))∧∀i m H,W i m H →
   ((Itr lo n).stop i H∧Qd H)∨((Itr lo n).go i H∧∃Nx:Hp→Prop,(∀H',Nx H'→∃m',m'<m∧W (i+1) m' H')∧∀x H',(Itr lo n).yld i H x H'→g x (wipe σ vs) H' fun σ2 H2=>wipe σ2 vs=wipe σ vs∧tt σ2 H2 fun b H3 =>
    if b=true then te σ2 H3 fun y H4=>∃acc,H4 D=some (.lst acc)∧acc.length<sizeLine∧Nx (upd H4 D (.lst (acc++[y]))) else Nx H3):=by
 refine⟨fun i m H=>m=n-i∧i≤n∧Pv i H,⟨n,by simp,Nat.zero_le _,h0⟩,?_⟩
 rintro i m H ⟨rfl,hi,p⟩
 by_cases hlt:i<n
 ·refine .inr ⟨hlt,Pv (i+1),fun H' p'=>⟨n-(i+1),by omega,rfl,hlt,p'⟩,fun x H' y=>?_⟩
  obtain⟨e,y⟩:=y
  subst e y
  exact hs i _ hlt p
 ·have e:i=n:=by omega
  subst e
  exact .inl ⟨Nat.le_refl _,hd H p⟩
theorem lc_list {K:PySem.W.Frag} {a:Addr} {xs:List V} {g:TG} {tt:TT} {te:TE} {vs:List Nat} {σ:St} {H1:Hp} {D:Addr} {Qd:Hp→Prop} (Pv:Nat→Hp→Prop) (h0:Pv 0 (upd H1 D (.lst []))) (hl:∀i H,i≤xs.length→Pv i H→SqL K H a xs)
  (hs:∀i x H,xs[i]?=some x→Pv i H→g x (wipe σ vs) H fun σ2 H2=>wipe σ2 vs=wipe σ vs∧tt σ2 H2 fun b H3 =>
   if b=true then te σ2 H3 fun y H4=>∃acc,H4 D=some (.lst acc)∧acc.length<sizeLine∧Pv (i+1) (upd H4 D (.lst (acc++[y]))) else Pv (i+1) H3) (hd:∀H,Pv xs.length H→Qd H) :
  ∃W:Nat→Nat→Hp→Prop,(∃m,W 0 m (upd H1 D (.lst [])))∧∀i m H,W i m H →
   ((Itl K a).stop i H∧Qd H)∨((Itl K a).go i H∧∃Nx:Hp→Prop,(∀H',Nx H'→∃m',m'<m∧W (i+1) m' H')∧∀x H',(Itl K a).yld i H x H'→g x (wipe σ vs) H' fun σ2 H2=>wipe σ2 vs=wipe σ vs∧tt σ2 H2 fun b H3 =>
    if b=true then te σ2 H3 fun y H4=>∃acc,H4 D=some (.lst acc)∧acc.length<sizeLine∧Nx (upd H4 D (.lst (acc++[y]))) else Nx H3):=by
 refine⟨fun i m H=>m=xs.length-i∧i≤xs.length∧Pv i H,⟨xs.length,by simp,Nat.zero_le _,h0⟩,?_⟩
 rintro i m H ⟨rfl,hi,p⟩
 have q:=hl i H hi p
 by_cases hlt:i<xs.length
 ·refine .inr ⟨⟨xs,xs[i],q,by simp [hlt]⟩,Pv (i+1),fun H' p'=>⟨xs.length-(i+1),by omega,rfl,hlt,p'⟩,fun x H' y=>?_⟩
  obtain⟨e,y⟩:=y
  subst e
  exact hs i x _ (y xs q) p
 ·have e:i=xs.length:=by omega
  subst e
  exact .inl ⟨⟨xs,q,Nat.le_refl _⟩,hd H p⟩
def blkC (N:List Str) (sc scope:Scope) (own:List (Str×Nat)):Bool :=
 (match scope.kind with|.function=>true|_=>false)&&(scope.names.all fun y=>decide (scope.names.lookup y.1=some y.2))&&(own.all fun p=>decide (N[p.2]?=some p.1)) &&
  (scope.names.all fun y=>match y.2 with
   |.free=>(match sc.names.lookup y.1 with|some .cell=>true|some .free=>true|_=>false)
   |.local=>decide (y.1∈own.map (·.1))||decide (y.1∉N)
   |.cell=>decide (y.1∈own.map (·.1))||decide (y.1∉N)
   |_=>true)
theorem blkOk_by {N:List Str} {sc scope:Scope} {own:List (Str×Nat)} (h:blkC N sc scope own=true):BlkOk N sc scope own:=by
 unfold blkC at h
 simp only [Bool.and_eq_true,List.all_eq_true,decide_eq_true_eq] at h
 obtain⟨⟨⟨h1,h2⟩,h3⟩,h4⟩:=h
 refine⟨?_,h2,h3,fun y hy e=>?_,fun y hy e=>?_⟩
 ·split at h1
  ·assumption
  ·cases h1
 ·have q:=h4 y hy
  simp only [e] at q
  split at q<;>first|exact .inl (by assumption)|exact .inr (by assumption)|cases q
 ·have q:=h4 y hy
  rcases e with e|e<;>(simp only [e,Bool.or_eq_true,decide_eq_true_eq] at q;exact q)
end L2
namespace L2
open PySem PySem.Spec PyProof.Rows
section
variable {κ : Type} [DecidableEq κ]
def valV (kvs:List (κ×V)) (k:κ):Option V:=(kvs.find? fun kv=>decide (kv.1=k)).map (·.2)
def putK (kvs:List (κ×V)) (k:κ) (v:V):List (κ×V) :=
 if (kvs.any fun kv=>decide (kv.1=k))=true then kvs.map (fun kv=>if kv.1=k then (kv.1,v) else kv) else kvs++[(k,v)]
theorem valV_pos {p:κ×V} {r:List (κ×V)} {k:κ} (e:p.1=k):valV (p::r) k=some p.2:=by simp [valV,List.find?_cons,e]
theorem valV_neg {p:κ×V} {r:List (κ×V)} {k:κ} (e:¬p.1=k):valV (p::r) k=valV r k:=by simp [valV,List.find?_cons,e]
theorem valV_any (k:κ):∀kvs:List (κ×V),(kvs.any fun kv=>decide (kv.1=k))=(valV kvs k).isSome
 |[]=>rfl
 |p::r=>by
  rw[List.any_cons]
  by_cases e:p.1=k
  ·simp only [valV_pos e,decide_eq_true e,Bool.true_or,Option.isSome_some]
  ·rw[valV_neg e,decide_eq_false e,Bool.false_or];exact valV_any k r
theorem valV_map (k j:κ) (y:V):∀kvs:List (κ×V),valV (kvs.map fun kv=>if kv.1=k then (kv.1,y) else kv) j=(valV kvs j).map fun x=>if j=k then y else x
 |[]=>rfl
 |p::r=>by
  have ih:=valV_map k j y r
  rw[List.map_cons]
  by_cases h:p.1=k
  ·rw[if_pos h]
   by_cases e:p.1=j
   ·rw[valV_pos (p:=(p.1,y)) e,valV_pos e,Option.map_some,if_pos (e.symm.trans h)]
   ·rw[valV_neg (p:=(p.1,y)) e,valV_neg e,ih]
  ·rw[if_neg h]
   by_cases e:p.1=j
   ·rw[valV_pos (p:=p) e,valV_pos e,Option.map_some,if_neg (fun z=>h (e.trans z))]
   ·rw[valV_neg (p:=p) e,valV_neg e,ih]
theorem valV_snoc (k j:κ) (y:V):∀kvs:List (κ×V),valV kvs k=none→valV (kvs++[(k,y)]) j=if j=k then some y else valV kvs j
 |[],_=>by
  by_cases e:k=j
  ·rw[if_pos e.symm];exact valV_pos (p:=(k,y)) e
  ·rw[if_neg (fun z=>e z.symm)];exact valV_neg (p:=(k,y)) e
 |p::r,hn=>by
  rw[List.cons_append]
  have hk:¬p.1=k:=fun z=>by rw[valV_pos z] at hn;cases hn
  rw[valV_neg hk] at hn
  have ih:=valV_snoc k j y r hn
  by_cases e:p.1=j
  ·rw[valV_pos e,valV_pos e,if_neg (fun z=>hk (e.trans z))]
  ·rw[valV_neg e,valV_neg e,ih]
theorem valV_put (kvs:List (κ×V)) (k j:κ) (y:V):valV (putK kvs k y) j=if j=k then some y else valV kvs j:=by
 unfold putK
 by_cases a:(kvs.any fun kv=>decide (kv.1=k))=true
 ·rw[if_pos a,valV_map]
  rw[valV_any] at a
  by_cases e:j=k
  ·obtain⟨x,hx⟩:=Option.isSome_iff_exists.mp a
   rw[if_pos e,e,hx,Option.map_some,if_pos rfl]
  ·rw[if_neg e]
   cases valV kvs j with
   |none=>rfl
   |some x=>rw[Option.map_some,if_neg e]
 ·rw[if_neg a]
  refine valV_snoc k j y kvs ?_
  rw[valV_any] at a
  cases q:valV kvs k with
  |none=>rfl
  |some x=>rw[q] at a;exact (a rfl).elim
theorem length_putK (kvs:List (κ×V)) (k:κ) (v:V):(putK kvs k v).length≤kvs.length+1:=by
 unfold putK
 split
 ·rw[List.length_map];omega
 ·rw[List.length_append,List.length_cons,List.length_nil];omega
theorem RelO.isSome_eq {o:Option V} {u:Option Value} (r:RelO o u):o.isSome=u.isSome:=by
 cases o with
 |none=>cases u with
  |none=>rfl
  |some _=>exact (show False from r).elim
 |some _=>cases u with
  |none=>exact (show False from r).elim
  |some _=>rfl
theorem RelO.getD {o:Option V} {u:Option Value} {d:V} {d':Value} (r:RelO o u) (rd:RelV d d'):RelV (o.getD d) (u.getD d'):=by
 cases o with
 |none=>cases u with
  |none=>exact rd
  |some _=>exact (show False from r).elim
 |some _=>cases u with
  |none=>exact (show False from r).elim
  |some _=>exact r
theorem KV.val {kvs:List (κ×V)} {vs:List (κ×Value)} (r:KV kvs vs) (k:κ):RelO (valV kvs k) (valueAt vs k):=by
 unfold KV at r
 induction r with
 |nil=>exact True.intro
 |@cons p q ps qs h t ih =>
  obtain⟨h1,h2⟩:=h
  by_cases e:p.1=k
  ·have e':q.1=k:=h1.symm.trans e
   have b:valueAt (q::qs) k=some q.2:=by simp [valueAt,List.find?_cons,e']
   rw[valV_pos e,b];exact h2
  ·have e':¬q.1=k:=fun z=>e (h1.trans z)
   have b:valueAt (q::qs) k=valueAt qs k:=by simp [valueAt,List.find?_cons,e']
   rw[valV_neg e,b];exact ih
theorem KV.any {kvs:List (κ×V)} {vs:List (κ×Value)} (r:KV kvs vs) (k:κ):(kvs.any fun kv=>decide (kv.1=k))=vs.any fun kv=>decide (kv.1=k):=by
 unfold KV at r
 induction r with
 |nil=>rfl
 |cons h t ih=>rw[List.any_cons,List.any_cons,ih,h.1]
theorem KV.repl {kvs:List (κ×V)} {vs:List (κ×Value)} (r:KV kvs vs) (k:κ) {y:V} {u:Value} (ry:RelV y u) :
  KV (kvs.map fun kv=>if kv.1=k then (kv.1,y) else kv) (vs.map fun kv=>if kv.1=k then (kv.1,u) else kv):=by
 unfold KV at r ⊢
 induction r with
 |nil=>exact .nil
 |@cons p q ps qs h t ih =>
  rw[List.map_cons,List.map_cons]
  refine .cons ?_ ih
  obtain⟨h1,h2⟩:=h
  by_cases e:p.1=k
  ·rw[if_pos e,if_pos (h1.symm.trans e)];exact⟨h1,ry⟩
  ·rw[if_neg e,if_neg (fun z=>e (h1.trans z))];exact⟨h1,h2⟩
theorem KV.put {kvs:List (κ×V)} {vs:List (κ×Value)} (r:KV kvs vs) (k:κ) {y:V} {u:Value} (ry:RelV y u):KV (putK kvs k y) (stored vs k u):=by
 unfold putK stored
 rw[r.any k]
 by_cases e:(vs.any fun kv=>decide (kv.1=k))=true
 ·rw[if_pos e,if_pos e];exact r.repl k ry
 ·rw[if_neg e,if_neg e];exact Paired.snoc r ⟨rfl,ry⟩
theorem KV.length {kvs:List (κ×V)} {vs:List (κ×Value)} (r:KV kvs vs):kvs.length=vs.length:=Paired.length r
end
theorem kV_is {P:Program} {w:World} {k:Key} {u:Value} (r:RelV (kV k) u):(mixKind P w).is k u=true:=by
 cases k with
 |inl i=>obtain⟨t,e⟩:=(show ∃t,u=Value.int i t from r);subst e;exact mixKind_int P w i t
 |inr x=>obtain⟨t,e⟩:=(show ∃t,u=Value.str x t from r);subst e;exact mixKind_str P w x t
theorem items_are {P:Program} {w:World}:∀{ks:List Key} {us:List Value},Vals (ks.map kV) us→ItemsAre (mixKind P w) ks us
 |[],_,r=>by rw[List.map_nil] at r;cases r;exact .nil
 |k::ks,_,r=>by
  rw[List.map_cons] at r
  cases r with
  |cons h t=>exact .cons (kV_is h) (items_are t)
abbrev KT (H:Hp):List (List Key×V)→List (List Key×Addr×Value)→Prop:=Paired fun p q=>p.1=q.1∧H q.2.1=some (.tup (p.1.map kV))∧RelV p.2 q.2.2
theorem KT.val {H:Hp} {kvs:List (List Key×V)} {xs:List (List Key×Addr×Value)} (r:KT H kvs xs) (k:List Key):RelO (valV kvs k) ((atKey xs k).map (·.2)):=by
 induction r with
 |nil=>exact True.intro
 |@cons p q ps qs h t ih =>
  obtain⟨h1,_,h2⟩:=h
  by_cases e:p.1=k
  ·have e':q.1=k:=h1.symm.trans e
   have b:atKey (q::qs) k=some q.2:=by simp [atKey,List.find?_cons,e']
   rw[valV_pos e,b];exact h2
  ·have e':¬q.1=k:=fun z=>e (h1.trans z)
   have b:atKey (q::qs) k=atKey qs k:=by simp [atKey,List.find?_cons,e']
   rw[valV_neg e,b];exact ih
theorem KT.repl {H:Hp} {kvs:List (List Key×V)} {xs:List (List Key×Addr×Value)} (r:KT H kvs xs) (k:List Key) {y:V} {u:Value} (ry:RelV y u) :
  KT H (kvs.map fun kv=>if kv.1=k then (kv.1,y) else kv) (xs.map (putAt k u)):=by
 induction r with
 |nil=>exact .nil
 |@cons p q ps qs h t ih =>
  rw[List.map_cons,List.map_cons]
  refine .cons ?_ ih
  obtain⟨h1,h2,h3⟩:=h
  unfold putAt
  by_cases e:p.1=k
  ·rw[if_pos e,if_pos (h1.symm.trans e)];exact⟨h1,h2,ry⟩
  ·rw[if_neg e,if_neg (fun z=>e (h1.trans z))];exact⟨h1,h2,h3⟩
theorem KT.put {H:Hp} {kvs:List (List Key×V)} {xs:List (List Key×Addr×Value)} (r:KT H kvs xs) (k:List Key) {b:Addr} {y:V} {u:Value} (hb:H b=some (.tup (k.map kV))) (ry:RelV y u) :
  KT H (putK kvs k y) (storedH xs k b u):=by
 have e:(kvs.any fun kv=>decide (kv.1=k))=(atKey xs k).isSome:=by
  rw[valV_any,(r.val k).isSome_eq,Option.isSome_map]
 unfold putK storedH
 rw[e]
 by_cases q:(atKey xs k).isSome=true
 ·rw[if_pos q,if_pos q];exact r.repl k ry
 ·rw[if_neg q,if_neg q];exact Paired.snoc r ⟨rfl,hb,ry⟩
theorem KT.keeps {H H':Hp} {kvs:List (List Key×V)} {xs:List (List Key×Addr×Value)} (r:KT H kvs xs) (ht:∀b ys,H b=some (.tup ys)→H' b=some (.tup ys)):KT H' kvs xs :=
 Paired.mapP r fun _ _ z=>⟨z.1,ht _ _ z.2.1,z.2.2⟩
section
variable {P : Program} {w : World} {H : Hp} {h : Heap} {a : Addr}
theorem rd_of {u:HO} (ok:HOk P w H h) (e:Rd H a u):ObjOk P w H h a u:=e.ok ok
theorem dk_rd {kvs:List (Key×V)} (ok:HOk P w H h) (e:Rd H a (.dK kvs)):kvs.length≤sizeLine∧(a==sysModules)=false∧∃vs,KV kvs vs∧h.DictOf (mixKind P w) a vs :=
 show ObjOk P w H h a (.dK kvs) from rd_of ok e
theorem dk_of {kvs:List (Key×V)} (ok:HOk P w H h) (e:H a=some (.dK kvs)):kvs.length≤sizeLine∧(a==sysModules)=false∧∃vs,KV kvs vs∧h.DictOf (mixKind P w) a vs:=dk_rd ok (.inl e)
theorem key_of {ks:List Key} (ok:HOk P w H h) (e:H a=some (.tup (ks.map kV))):(tupleKind (mixKind P w)).is h ks a:=by
 obtain⟨_,its,r,o,h1,h2,n,h3⟩:=(show ObjOk P w H h a (.tup (ks.map kV)) from ok a _ e)
 exact⟨o,its.toArray,n,h1,h2,h3,by simpa using items_are r⟩
theorem dt_rd {kvs:List (List Key×V)} (ok:HOk P w H h) (e:Rd H a (.dT kvs)):kvs.length≤sizeLine∧(a==sysModules)=false ∧
  ∃xs,KT H kvs xs∧h.DictOfH (tupleKind (mixKind P w)) a xs:=by
 obtain⟨z,y,xs,r,o,es,ep,h1,h2,h3,h4,h5⟩:=(show ObjOk P w H h a (.dT kvs) from rd_of ok e)
 refine⟨z,y,xs,r,o,es,ep,h1,h2,h3,h4,fun x hx=>?_,h5⟩
 have all:∀{l:List (List Key×V)} {m:List (List Key×Addr×Value)},KT H l m→∀x∈m,(tupleKind (mixKind P w)).is h x.1 x.2.1:=by
  intro l m q
  induction q with
  |nil=>intro x hx;exact nomatch hx
  |@cons p q ps qs hq t ih =>
   intro x hx
   rcases List.mem_cons.mp hx with e|hx
   ·subst e
    exact key_of ok (by rw[←hq.1];exact hq.2.1)
   ·exact ih x hx
 exact all r x hx
theorem dt_of {kvs:List (List Key×V)} (ok:HOk P w H h) (e:H a=some (.dT kvs)):kvs.length≤sizeLine∧(a==sysModules)=false ∧
  ∃xs,KT H kvs xs∧h.DictOfH (tupleKind (mixKind P w)) a xs:=dt_rd ok (.inl e)
end
def DGet (H:Hp) (a:Addr) (y:V) (r:Option V):Prop :=
 (∃kvs k,Rd H a (.dK kvs)∧y=kV k∧r=valV kvs k)∨∃kvs k b,Rd H a (.dT kvs)∧y=.ref b∧H b=some (.tup (k.map kV))∧r=valV kvs k
def DPut (H:Hp) (a:Addr) (y v:V) (H':Hp):Prop :=
 (∃kvs k,H a=some (.dK kvs)∧y=kV k∧kvs.length<sizeLine∧H'=upd H a (.dK (putK kvs k v))) ∨
 ∃kvs k b,H a=some (.dT kvs)∧y=.ref b∧H b=some (.tup (k.map kV))∧kvs.length<sizeLine∧H'=upd H a (.dT (putK kvs k v))
theorem DGet.k {H:Hp} {a:Addr} {kvs:List (Key×V)} {k:Key} (e:H a=some (.dK kvs)):DGet H a (kV k) (valV kvs k):=.inl ⟨kvs,k,.inl e,rfl,rfl⟩
theorem DPut.k {H:Hp} {a:Addr} {kvs:List (Key×V)} {k:Key} {v:V} (e:H a=some (.dK kvs)) (hl:kvs.length<sizeLine):DPut H a (kV k) v (upd H a (.dK (putK kvs k v))):=.inl ⟨kvs,k,e,rfl,hl,rfl⟩
section
variable {X : Cx} {pins : List (Addr × Obj)} {σ : St} {H : Hp} {s : Shared} {a : Addr} {y v : V} {u r : Value} {o : Option V} {A : Around} {E : Value → Shared → Prop}
theorem Inv.big (I:Inv X pins σ H s):sysModules<s.heap.objs.size:=by
 have h:mainGlobals<s.heap.objs.size:=(I.mod.glob.keeps I.bk).lt
 exact Nat.lt_trans (by decide) h
theorem d_getItem {Q:Value→Shared→Prop} (hu:A.units+1<cLine) (I:Inv X pins σ H s) (g:DGet H a y (some v)) (ry:RelV y u) (h:∀w' s',Inv X pins σ H s'→RelV v w'→Q w' s') :
  wpAny (model X.prog X.w) A (getItem (.ref a) u) Q E s:=by
 rcases g with⟨kvs,k,e,ey,l⟩|⟨kvs,k,b,e,ey,eb,l⟩
 ·subst ey
  obtain⟨z,hd,vs,rel,dd⟩:=dk_rd I.hok e
  obtain⟨w',hw,rw'⟩:=RelO.some_of (v:=v) (o:=valueAt vs k) (by rw[l];exact rel.val k)
  exact wpAny_getItem_of (kV_is ry) dd.mapOf hw (h w' _ (I.tok _) rw')
 ·subst ey
  cases (show u=Value.ref b from ry)
  obtain⟨z,hd,xs,rel,dd⟩:=dt_rd I.hok e
  obtain⟨w',hw,rw'⟩:=RelO.some_of (v:=v) (o:=(atKey xs k).map (·.2)) (by rw[l];exact rel.val k)
  obtain⟨p,hp,hp2⟩:=Option.map_eq_some_iff.mp hw
  refine wpAny_getItem_heap (tupleKind_room_in1 hu) (key_of I.hok eb) dd hp ?_
  rw[hp2]
  exact h w' _ (I.tok _) rw'
theorem d_write {h':Heap} {t':Nat} {ob:HO} (I:Inv X pins σ H s) (mu:Mut (H a)) (hs:Heap.SameBut a s.heap h') (he:∃q,h'.get? a=some q) (new:ObjOk X.prog X.w (upd H a ob) h' a ob) :
  Inv X pins σ (upd H a ob) {s with heap:=h',toks:=t'} :=
 I.write (x:=a) (e:=a) mu (.inl rfl) (fun b q hb z=>(hs.2 b hb).trans z) he new
theorem dk_new {P:Program} {w:World} {H':Hp} {h':Heap} {kvs:List (Key×V)} {vs:List (Key×Value)} (z:kvs.length≤sizeLine) (hd:(a==sysModules)=false) (rel:KV kvs vs) (dd:h'.DictOf (mixKind P w) a vs) :
  ObjOk P w H' h' a (.dK kvs):=⟨z,hd,vs,rel,dd⟩
theorem d_setItem {H':Hp} {Q:Unit→Shared→Prop} (hu:A.units+1<cLine) (I:Inv X pins σ H s) (g:DPut H a y v H') (ry:RelV y u) (rv:RelV v r) (h:∀s',Inv X pins σ H' s'→Q () s') :
  wpAny (model X.prog X.w) A (setItem (.ref a) u r) Q E s:=by
 rcases g with⟨kvs,k,e,ey,l,eH⟩|⟨kvs,k,b,e,ey,eb,l,eH⟩
 ·subst ey eH
  obtain⟨z,hd,vs,rel,dd⟩:=dk_of I.hok e
  have hz:vs.length≤sizeLine:=by rw[←rel.length];exact z
  have hl:(putK kvs k v).length≤sizeLine:=by have:=length_putK kvs k v;omega
  refine wpAny_setItem_pairs (hsz:=hz) (kV_is ry) dd fun h' dd' hs=>h _ ?_
  have he:∃q,h'.get? a=some q:=let ⟨q,_,_,hq,_⟩:=dd';⟨q,hq⟩
  exact d_write I (by rw[e];exact True.intro) hs he (dk_new hl hd (rel.put k rv) dd')
 ·subst ey eH
  cases (show u=Value.ref b from ry)
  obtain⟨z,hd,xs,rel,dd⟩:=dt_of I.hok e
  have hz:xs.length≤sizeLine:=by rw[←Paired.length rel];exact z
  have hl:(putK kvs k v).length≤sizeLine:=by have:=length_putK kvs k v;omega
  refine wpAny_setItem_heap (hsz:=hz) (tupleKind_room_in1 hu) (key_of I.hok eb) dd fun h' dd' hs=>h _ ?_
  obtain⟨q,es,ep,hq,h2,h3,h4,_,h5⟩:=dd'
  refine d_write I (by rw[e];exact True.intro) hs ⟨q,hq⟩ ⟨hl,hd,_,(rel.put k eb rv).keeps fun c ys ec=>?_,q,es,ep,hq,h2,h3,h4,h5⟩
  rw[upd_ne (ne_of ec e (fun z=>nomatch z))]
  exact ec
end
def NoSl (i:Expr):Prop:=∀ov iv,subscripted i false ov iv=operate [ov,iv] (getItem ov iv)
theorem subD_of {prog:Program} {w:World} {A:Around} {E:Value→Shared→Prop} {s:Shared} {env:Env} {value slice:Expr} {pos:Pos} {T id:String} {Q:Value→Shared→Prop}
  (hl:typeLookup (.type T) "__getitem__"=pure (some (.builtin id))) (hs:NoSl slice)
  (h:wpAny (model prog w) A (eval value env) (fun o s₁=>wpAny (model prog w) A (eval slice env) (fun i s₂=>s₂.TypeIs o T∧wpAny (model prog w) A (getItem o i) Q E s₂) E s₁) E s) :
  wpAny (model prog w) A (eval (.Subscript value slice pos) env) Q E s:=by
 refine Subscript_ (wpAny_mono h (fun o s₁ h₁=>wpAny_mono h₁ (fun i s₂ h₂=>?_) fun _ _ x=>x) fun _ _ x=>x)
 obtain⟨hT,h₂⟩:=h₂
 unfold subscriptTail
 refine wpAny_bind ?_
 rw[getitemInPython_of_ne hT.not_modules]
 refine wpAny_bind (wpAny_specialOf hT hl ?_)
 have fin:wpAny (model prog w) A (subscripted slice false o i) (fun r s₃=>wpAny (model prog w) A (letTemporaryGo value o r >>= fun _=>pure r) Q E s₃) E s₂:=by
  rw[hs o i]
  exact wpAny_operating (wpAny_mono h₂ (fun r s₃ h₃=>wpAny_bind (wpAny_letTemporaryGo (wpAny_pure h₃))) fun _ _ x=>x)
 first
  |exact wpAny_pure (wpAny_bind fin)
  |exact wpAny_bind (wpAny_pure (wpAny_bind fin))
  |exact wpAny_bind fin
theorem dict_typeIs {X:Cx} {pins:List (Addr×Obj)} {σ:St} {H:Hp} {s:Shared} {a:Addr} {y:V} {o:Option V} (I:Inv X pins σ H s) (g:DGet H a y o):s.TypeIs (.ref a) "dict":=by
 rcases g with⟨kvs,k,e,_,_⟩|⟨kvs,k,b,e,_,_,_⟩
 ·obtain⟨_,_,vs,_,dd⟩:=dk_rd I.hok e
  exact dd.typeIs
 ·obtain⟨_,_,xs,_,dd⟩:=dt_rd I.hok e
  exact dd.typeIs
def tDGet (td ty:TE):TE:=fun σ H Q=>td σ H fun x H1=>ty σ H1 fun y H2=>∃a v,x=.ref a∧DGet H2 a y (some v)∧Q v H2
def sDPut (td ty tv:TE):TS:=fun D σ H=>tv σ H fun v H1=>td σ H1 fun x H2=>ty σ H2 fun y H3=>∃a H4,x=.ref a∧DPut H3 a y v H4∧D.nx σ H4
section
variable {X : Cx} {o i e value : Expr} {pos pos' tpos : Pos} {td ty tv : TE}
theorem pe_dget (hu:X.A.units+1<cLine) (ho:PE X o td) (hi:PE X i ty) (hs:NoSl i):PE X (.Subscript o i pos) (tDGet td ty):=by
 intro pins s σ H Q I h
 refine subD_of PySem.F.slot_dict_getitem.lookup hs (thn (ho pins s σ H _ I h) fun u s1 ⟨x,H1,I1,rx,q1⟩=>thn (hi pins s1 σ H1 _ I1 q1) fun iv s2 ⟨y,H2,I2,ry,a,v,ex,g,q2⟩=>?_)
 subst ex
 obtain rfl:u=Value.ref a:=rx
 exact⟨dict_typeIs I2 g,d_getItem hu I2 g ry fun w' s3 I3 rw'=>⟨v,H2,I3,rw',q2⟩⟩
theorem ps_dput (hu:X.A.units+1<cLine) (ho:PE X o td) (hi:PE X i ty) (hv:PE X value tv) (hs:swapsWith value (some (.Subscript o i pos')) pos.line X.env=pure false) :
  PS X (.Assign [.Subscript o i pos'] value pos) (sDPut td ty tv):=by
 intro pins s σ H D I h
 refine wpAny_Assign_Subscript (thn (hv pins s σ H _ I h) fun r s1 ⟨v,H1,I1,rv,q1⟩=>thn (ho pins s1 σ H1 _ I1 q1) fun u s2 ⟨x,H2,I2,rx,q2⟩=>thn (hi pins s2 σ H2 _ I2 q2) fun iv s3 ⟨y,H3,I3,ry,a,H4,ex,g,q3⟩=>?_) hs
 subst ex
 obtain rfl:u=Value.ref a:=rx
 exact d_setItem hu I3 g ry rv fun s4 I4=>⟨σ,H4,I4,q3⟩
end
theorem dk_empty {P:Program} {w:World} {H:Hp} (h:Heap) (hb:sysModules<h.objs.size):ObjOk P w H (h.push {cls:=.type "dict",data:=.dict #[]}) h.objs.size (.dK []) :=
 ⟨Nat.zero_le _,beq_eq_false_iff_ne.mpr (Ne.symm (Nat.ne_of_lt hb)),[],.nil,Heap.DictOf.new h⟩
def tDNewK:TE:=fun _ H Q=>∀p,H p=none→Q (.ref p) (upd H p (.dK []))
section
variable {X : Cx} {pos : Pos}
theorem pe_dnewK:PE X (.Dict [] [] pos) tDNewK:=fun pins s σ H Q I h =>
 wpAny_Dict_empty ⟨.ref s.heap.objs.size,_,I.laid (a:=s.heap.objs.size) (o:=.dK []) (t':=s.toks) (fun _ _ q=>Heap.get?_push_of_some _ q) (Nat.le_refl _) (dk_empty s.heap I.big),rfl,h _ (I.hok.fresh (Nat.le_refl _))⟩
end
structure M2 (X:Cx) (o:Expr) (m:Str) (apos:Pos) (e f:Expr) (cpos:Pos):Prop where
 base:attributeBase o m X.env (eval o X.env)=eval o X.env
 few:((backTo cpos (starEach [e,f] X.env)).all (fun x=>!x.1)&&(backToKw cpos (keywordEach [] X.env)).all (fun x=>x.1.isSome)
  && decide (([e,f]:List Expr).length+([]:List Keyword).length+(if ([]:List Keyword).isEmpty then 0 else 1)<30))=true
 line:(apos.endLine==cpos.line)=true
 trees:backTo cpos (starEach [e,f] X.env)=[(false,eval e X.env),(false,eval f X.env)]
def IsD (H:Hp) (a:Addr):Prop:=(∃kvs,Rd H a (.dK kvs))∨∃kvs,Rd H a (.dT kvs)
theorem isD_at {X:Cx} {pins:List (Addr×Obj)} {σ:St} {H:Hp} {s:Shared} {a:Addr} (I:Inv X pins σ H s) (d:IsD H a) :
  s.TypeIs (.ref a) "dict"∧(∀b,Value.ref a=.ref b→∃ob,s.heap.get? b=some ob∧ob.dict=none)∧(a==sysModules)=false:=by
 rcases d with⟨kvs,e⟩|⟨kvs,e⟩
 ·obtain⟨_,hd,vs,_,dd⟩:=dk_rd I.hok e
  refine⟨dd.typeIs,fun b q=>?_,hd⟩
  cases q
  obtain⟨ob,_,_,h1,h2,_⟩:=dd
  exact⟨ob,h1,h2.2.1⟩
 ·obtain⟨_,hd,xs,_,dd⟩:=dt_rd I.hok e
  refine⟨dd.typeIs,fun b q=>?_,hd⟩
  cases q
  obtain⟨ob,_,_,h1,h2,_⟩:=dd
  exact⟨ob,h1,h2.2.1⟩
section
variable {X : Cx} {pins : List (Addr × Obj)} {σ : St} {H : Hp} {s : Shared} {a : Addr} {y d : V} {u r : Value} {o : Option V} {A : Around} {E : Value → Shared → Prop}
theorem d_get2 {Q:Value→Shared→Prop} (hu:A.units+1<cLine) (I:Inv X pins σ H s) (g:DGet H a y o) (ry:RelV y u) (rd:RelV d r) (h:∀w' s',Inv X pins σ H s'→RelV (o.getD d) w'→Q w' s') :
  wpAny (model X.prog X.w) A (call (.builtin "dict.get") [.ref a,u,r]) Q E s:=by
 rcases g with⟨kvs,k,e,ey,l⟩|⟨kvs,k,b,e,ey,eb,l⟩
 ·subst ey
  obtain⟨z,hd,vs,rel,dd⟩:=dk_rd I.hok e
  refine call_meetsIn PySem.F.slot_dict_get dd.typeIs PySem.F.entry_dict_get (PySem.F.args_dict_get_3 _ _ _) (meets_dict_get_default (mixKind X.prog X.w) a (kV_is ry) hd r) ⟨_,dd.mapOf,h _ _ (I.tok _) ?_⟩
  rw[l]
  exact (rel.val k).getD rd
 ·subst ey
  cases (show u=Value.ref b from ry)
  obtain⟨z,hd,xs,rel,dd⟩:=dt_rd I.hok e
  refine call_meetsIn PySem.F.slot_dict_get dd.typeIs PySem.F.entry_dict_get (PySem.F.args_dict_get_3 _ _ _) (meetsH_dict_get_default (tupleKind (mixKind X.prog X.w)) a b hd r) ⟨tupleKind_room_in1 hu,k,xs,key_of I.hok eb,dd,h _ _ (I.tok _) ?_⟩
  rw[l]
  exact (rel.val k).getD rd
end
def tDGet2 (td ty tx:TE):TE:=fun σ H Q=>td σ H fun x H1=>∃a,x=.ref a∧IsD H1 a∧ty σ H1 fun y H2=>tx σ H2 fun z H3=>∃o,DGet H3 a y o∧Q (o.getD z) H3
section
variable {X : Cx} {o e f : Expr} {apos cpos : Pos} {td ty tx : TE}
theorem pe_dget2 (hu:X.A.units+1<cLine) (ho:PE X o td) (he:PE X e ty) (hf:PE X f tx) (m:M2 X o "get" apos e f cpos):PE X (.Call (.Attribute o "get" apos) [e,f] [] cpos) (tDGet2 td ty tx):=by
 intro pins s σ H Q I h
 refine wpAny_Call_method m.base m.few m.line PySem.F.plainAttrs_dict PySem.F.slot_dict_get PySem.F.type_dict_get (thn (ho pins s σ H _ I h) fun u s1 ⟨x,H1,I1,rx,a,ex,d,q1⟩=>?_)
 subst ex
 obtain rfl:u=Value.ref a:=rx
 obtain⟨t1,t2,_⟩:=isD_at I1 d
 refine⟨t1,t2,?_⟩
 rw[m.trees]
 refine Calls.callWith_builtin rfl (Calls.evalArgs_plain (Calls.spliced_cons (thn (he pins s1 σ H1 _ I1 q1) fun iv s2 ⟨y,H2,I2,ry,q2⟩ =>
  Calls.spliced_cons (thn (hf pins s2 σ H2 _ I2 q2) fun fv s3 ⟨z,H3,I3,rz,ov,g,q3⟩=>Calls.spliced_nil ?_))))
 exact d_get2 hu I3 g ry rz fun w' s4 I4 rw'=>⟨_,H3,I4,rw',q3⟩
end
end L2
namespace L2
open PySem PySem.Spec PyProof.Rows
section
variable {X : Cx} {pins : List (Addr × Obj)} {σ : St} {H : Hp} {s : Shared} {h' : Heap}
theorem Inv.turnedL {t':Nat} {ch:List Addr} (I:Inv X pins σ H s) (k:∀b o,b∉ch→s.heap.get? b=some o→h'.get? b=some o) (hf:∀b∈ch,FpOk X pins H b):Inv X pins σ H {s with heap:=h',toks:=t'}:=by
 have nit:∀b u,H b=some u→b∉ch:=fun b u e z=>by
  have q:=(hf b z).1
  rw[q] at e;cases e
 refine I.step (g':=s.gens) (d':=s.drawn) (ch:=ch) (fun b hb=>⟨(hf b hb).2.2.2.1,(hf b hb).2.1,(hf b hb).2.2.2.2.1,(hf b hb).2.2.2.2.2⟩) (fun b o _ _ hc e _=>k b o hc e) (fun b o _ _ hc e _=>⟨o.slots,k b o hc e⟩)
  (fun _ _ _ _ n=>n) (fun b o hc e=>⟨o,k b o hc e⟩) (fun _ _ e=>e) (fun _ _ _ e=>e) (fun b ps e=>⟨#[],by rw[e];simp⟩) (fun m hm=>?_) (fun b u e=>?_) I.bare
 ·obtain⟨o,es,ep,ho,r⟩:=hm
  exact⟨o,es,ep,k _ o (fun z=>(hf _ z).2.1 rfl) ho,r⟩
 ·refine (I.hok b u e).stay (fun c v hc q=>k c v ?_ q) (fun _ q=>q) fun _ _ q=>q
  rcases hc with z|z
  ·rw[z];exact nit b u e
  ·exact nit c _ z
theorem Inv.turnedNew {t':Nat} {ch:List Addr} {T:Addr} {ob:HO} (I:Inv X pins σ H s) (k:∀b o,b∉ch→s.heap.get? b=some o→h'.get? b=some o) (hf:∀b∈ch,FpOk X pins H b) (hT:s.heap.objs.size≤T)
  (new:ObjOk X.prog X.w (upd H T ob) h' T ob):Inv X pins σ (upd H T ob) {s with heap:=h',toks:=t'}:=by
 have hn:H T=none:=I.hok.fresh hT
 have nit:∀b u,H b=some u→b∉ch:=fun b u e z=>by
  have q:=(hf b z).1
  rw[q] at e;cases e
 refine I.step (g':=s.gens) (d':=s.drawn) (ch:=ch) (fun b hb=>⟨(hf b hb).2.2.2.1,(hf b hb).2.1,(hf b hb).2.2.2.2.1,(hf b hb).2.2.2.2.2⟩) (fun b o _ _ hc e _=>k b o hc e) (fun b o _ _ hc e _=>⟨o.slots,k b o hc e⟩)
  (fun b o _ e n=>?_) (fun b o hc e=>⟨o,k b o hc e⟩) (fun b xs e=>?_) (fun b o u e=>?_) (fun b ps e=>⟨#[],?_⟩) (fun m hm=>?_) (fun b u e=>?_) I.bare
 ·rw[upd_ne (Nat.ne_of_lt (Nat.lt_of_lt_of_le (Heap.lt_size e) hT))];exact n
 ·rw[upd_ne (ne_of_none e hn)];exact e
 ·rw[upd_ne (ne_of_none e hn)];exact e
 ·rw[upd_ne (ne_of_none e hn),e];simp
 ·obtain⟨o,es,ep,ho,r⟩:=hm
  exact⟨o,es,ep,k _ o (fun z=>(hf _ z).2.1 rfl) ho,r⟩
 ·by_cases hb:b=T
  ·subst hb
   rw[upd_same] at e
   cases e
   exact new
  ·rw[upd_ne hb] at e
   refine (I.hok b u e).stay (fun c v hc q=>k c v ?_ q) (fun c q=>by rw[upd_ne (ne_of_none q hn)];exact q) fun c xs q=>by rw[upd_ne (ne_of_none q hn)];exact q
   rcases hc with z|z
   ·rw[z];exact nit b u e
   ·exact nit c _ z
end
section
variable {X : Cx}
theorem pi_one {tg:Expr} {pins:List (Addr×Obj)} {σ:St} {H:Hp} {s:Shared} {R:It→Hp→Prop} {J:It} {tn:Nat→Heap→Prop} {tk:Nat} (I:Inv X pins σ H s) (o:Obj)
  (T:Turn X.prog X.w X.K tg J [s.heap.objs.size] s.heap.objs.size tn) (st:tn 0 (s.heap.push o)) (q:R J H):PIE X pins σ tg R (.ref s.heap.objs.size) {s with heap:=s.heap.push o,toks:=tk}:=by
 refine⟨s.heap.objs.size,[s.heap.objs.size],tn,J,H,rfl,I.kept fun b ob e=>Heap.get?_push_of_some _ e,T,st,fun b hb=>?_,q⟩
 have e:b=s.heap.objs.size:=by simpa using hb
 subst e
 exact I.fpOk (Nat.le_refl _) (I.hok.fresh (Nat.le_refl _))
end
def Itc (lo c:Int) (n:Nat):It:=⟨fun i _=>i<n,fun i H x H'=>H'=H∧x=.int (lo+(i:Nat)*c),fun i _=>n≤i⟩
theorem turn_rangeC {P:Program} {w:World} {K:PySem.W.Frag} {tg:Expr} (it:Addr) (lo c:Int) (n:Nat):Turn P w K tg (Itc lo c n) [it] it (fun i h=>IsRangeIter h it (lo+(i:Nat)*c) ((n:Int)-(i:Nat)) c) where
 mem:=by simp
 obj:=fun i h st b hb=>by
  have e:b=it:=by simpa using hb
  subst e
  exact⟨_,st,fun v z=>nomatch z⟩
 keep:=fun i h h' st k=>k it (by simp) _ st
 item:=by
  intro X hP hw hK hc i pins s σ H E I hf st hg
  subst hP hw hK
  obtain⟨f0,f1,f2,f3,f4,f5⟩:=hf it (by simp)
  have W:=Walks.range (prog:=X.prog) (w:=X.w) (I.ok.hd hc) it lo c n
  refine W.item i s _ _ hg st fun v h' tk hv st' kk=>?_
  obtain⟨t,rfl⟩:=hv
  have I1:Inv X pins σ H {s with heap:=h',toks:=tk}:=I.turned (fun b o hb e=>kk b o (by simpa using hb) e) f0 f1 f3 f4 f5
  exact⟨_,rfl,go_of (s:={s with heap:=h',toks:=tk}) (n:="range_iterator") st' rfl rfl (by decide) ⟨.int (lo+(i:Nat)*c),H,I1,⟨t,rfl⟩,⟨rfl,rfl⟩,st',fun b hb=>(hf b hb).1⟩⟩
 done:=by
  intro X hP hw hK hc i pins s σ H E I hf st hg
  subst hP hw hK
  obtain⟨f0,f1,f2,f3,f4,f5⟩:=hf it (by simp)
  exact wpAny_pyNext_range_end (I.ok.hd hc) st (by have:n≤i:=hg;omega) fun h' eb=>⟨rfl,I.turned (t':=s.toks) (fun b o hb e=>eb b o hb e) f0 f1 f3 f4 f5⟩
 self:=fun A i s Q E st h=>wpAny_pyIter_rangeiter st h
def RgC (i j c:Int) (n:Nat):Prop:=c≠0∧c.natAbs<1073741824∧Builtin.Range.small i j c=true∧Builtin.Range.rangeSize i j c=n
def iRng3 (ta:TA):TI:=fun σ H R=>ta σ H fun vs H1=>∃(i j c:Int) (n:Nat),vs=[.int i,.int j,.int c]∧RgC i j c n∧R (Itc i c n) H1
section
variable {X : Cx} {tg : Expr}
theorem pi_range3 {a b c:Expr} {ta:TA} {p pos:Pos} (hg:Gl X "range") (hm:X.mg "range"=none) (ha:PA X [a,b,c] ta)
  (hs:starEach [a,b,c] X.env=(false,eval a X.env)::starEach [b,c] X.env:=by rfl) (hpl:(backTo pos (starEach [b,c] X.env)).any (·.1)=false:=by rfl) :
  PI X tg (.Call (.Name "range" p) [a,b,c] [] pos) (iRng3 ta):=by
 intro pins s σ H R I h
 refine Call_ (ld_blt I hg hm boot_range (PyProof.Rows.callWith_type1 (thn (ha pos pins s σ H _ I h) fun us s1 ⟨vs,H1,I1,r1,q1⟩=>?_) hs hpl))
 obtain⟨i,j,k,n,e,⟨c0,c1,c2,c3⟩,q⟩:=q1
 subst e
 cases r1 with
 |cons r rr =>
  cases rr with
  |cons r' rr =>
   cases rr with
   |cons r'' rr =>
    cases rr
    obtain⟨t,rfl⟩:=r
    obtain⟨t',rfl⟩:=r'
    obtain⟨t'',rfl⟩:=r''
    refine call_range_3 c0 ?_ (.inl (PyProof.noPylong_small c1))
    refine wpAny_pyIter_range (IsRange.new ..) c2 ?_
    have I2:Inv X pins σ H1 {s1 with heap:=s1.heap.push {cls:=.type "range",data:=.fields #[.int i t,.int j t',.int k t'']}}:=I1.kept (t':=s1.toks) fun b o e=>Heap.get?_push_of_some _ e
    refine pi_one (tk:=s1.toks) I2 _ (turn_rangeC _ i k n) ?_ q
    have e1:i+((0:Nat):Int)*k=i:=by simp
    have e2:(n:Int)-((0:Nat):Int)=Builtin.Range.rangeSize i j k:=by rw[c3];simp
    show IsRangeIter _ _ (i+((0:Nat):Int)*k) ((n:Int)-((0:Nat):Int)) k
    rw[e1,e2]
    exact Heap.get?_push_size _ rfl
end
def Ite (K:PySem.W.Frag) (a:Addr):It :=
 ⟨fun i H=>∃(xs:List V) (x:V),SqL K H a xs∧xs[i]?=some x,fun i H v H'=>∃T x,v=.ref T∧H T=none∧H'=upd H T (.tup [.int (i:Nat),x])∧∀xs,SqL K H a xs→xs[i]?=some x,fun i H=>∃xs:List V,SqL K H a xs∧xs.length≤i⟩
theorem turn_enum {P:Program} {w:World} {K:PySem.W.Frag} {elts:List Expr} {kk:Nat} {tpos:Pos} (a e it:Addr) :
  Turn P w K (.Tuple elts kk tpos) (Ite K a) [e,it] e (fun i h=>(∃old,IsEnum h e it ((i:Nat):Int) old)∧h.IsListIter it a i∧e≠it) where
 mem:=by simp
 obj:=fun i h st b hb=>by
  obtain⟨⟨old,he⟩,⟨o,ho,hc,hd⟩,_⟩:=st
  have e':b=e∨b=it:=by simpa using hb
  rcases e' with z|z
  ·rw[z];exact⟨_,he,fun v q=>nomatch q⟩
  ·rw[z];exact⟨o,ho,fun v q=>by rw[hd] at q;cases q⟩
 keep:=fun i h h' st k=>let ⟨⟨old,he⟩,hi,hne⟩:=st;⟨⟨old,k e (by simp) _ he⟩,hi.at fun o q=>k it (by simp) o q,hne⟩
 item:=by
  intro X hP hw hK hc i pins s σ H E I hf st hg
  subst hP hw hK
  obtain⟨⟨old,he⟩,hit,hne⟩:=st
  obtain⟨xs,x,hq,hx⟩:=hg
  obtain⟨its,rv,p,hz⟩:=I.list hq
  obtain⟨u,hu,ru⟩:=rv.get hx
  have hel:e<s.heap.objs.size:=Heap.lt_size he
  have hil:it<s.heap.objs.size:=by obtain⟨_,q,_⟩:=hit;exact Heap.lt_size q
  refine wpAny_pyNext_enum_item he hit p.isList (x:=u) (by simpa using hu) hne fun h' ho hit' hT hsz hk=>?_
  refine⟨_,rfl,wpAny_letOwnedTupleGo_enum (s:={s with heap:=h',toks:=s.toks+1}) ho fun h'' he' sb=>?_⟩
  have hT2:h''.get? s.heap.objs.size=some {cls:=.type "tuple",data:=.seq #[.int i s.toks,u]}:=(sb.2 _ (Nat.ne_of_gt hel)).trans hT
  have new:ObjOk X.prog X.w (upd H s.heap.objs.size (.tup [.int (i:Nat),x])) h'' s.heap.objs.size (.tup [.int (i:Nat),x]) :=
   ⟨by show 2≤sizeLine;decide,[.int i s.toks,u],.cons ⟨_,rfl⟩ (.cons ru .nil),⟨_,hT2,rfl,_,rfl⟩⟩
  have I1:Inv X pins σ (upd H s.heap.objs.size (.tup [.int (i:Nat),x])) {s with heap:=h'',toks:=s.toks+1} :=
   I.turnedNew (ch:=[e,it]) (fun b ob hb q=>(sb.2 b (fun z=>hb (by simp [z]))).trans (hk b ob (fun z=>hb (by simp [z])) (fun z=>hb (by simp [z])) q)) hf (Nat.le_refl _) new
  refine⟨.ref s.heap.objs.size,_,I1,rfl,⟨_,x,rfl,I.hok.fresh (Nat.le_refl _),rfl,fun ys hy=>by rw[I.list_inj hy hq];exact hx⟩,⟨⟨u,?_⟩,hit'.at fun o q=>(sb.2 it (Ne.symm hne)).trans q,hne⟩,fun b hb=>?_⟩
  ·have e1:((i+1:Nat):Int)=(i:Int)+1:=by omega
   rw[e1];exact he'
  ·have hb':b<s.heap.objs.size:=by
    have e':b=e∨b=it:=by simpa using hb
    rcases e' with z|z
    ·rw[z];exact hel
    ·rw[z];exact hil
   rw[upd_ne (Nat.ne_of_lt hb')]
   exact (hf b hb).1
 done:=by
  intro X hP hw hK hc i pins s σ H E I hf st hg
  subst hP hw hK
  obtain⟨⟨old,he⟩,hit,hne⟩:=st
  obtain⟨xs,hq,hx⟩:=hg
  obtain⟨its,rv,p,hz⟩:=I.list hq
  obtain⟨f0,f1,f2,f3,f4,f5⟩:=hf it (by simp)
  have hl:=rv.length
  exact wpAny_pyNext_enum_end (I.ok.hd hc) he hit p.isList (by simp;omega) fun h' eb=>⟨rfl,I.turned (t':=s.toks) (fun b o hb q=>eb b o hb q) f0 f1 f3 f4 f5⟩
 self:=fun A i s Q E st h=>let ⟨⟨_,he⟩,_⟩:=st;wpAny_pyIter_enum he h
def iEnum (K:PySem.W.Frag) (ta:TA):TI:=fun σ H R=>ta σ H fun vs H1=>∃a xs,vs=[.ref a]∧SqL K H1 a xs∧R (Ite K a) H1
theorem pi_enum {X:Cx} {e:Expr} {ta:TA} {p pos tpos:Pos} {elts:List Expr} {kk:Nat} (hg:Gl X "enumerate") (hm:X.mg "enumerate"=none) (ha:PA X [e] ta) (hs:starEach [e] X.env=[(false,eval e X.env)]:=by rfl) :
  PI X (.Tuple elts kk tpos) (.Call (.Name "enumerate" p) [e] [] pos) (iEnum X.K ta):=by
 intro pins s σ H R I h
 refine Call_ (ld_blt I hg hm boot_enumerate (PyProof.Rows.callWith_type1 (thn (ha pos pins s σ H _ I h) fun us s1 ⟨vs,H1,I1,r1,q1⟩=>?_) hs rfl))
 obtain⟨a,xs,ex,hq,q⟩:=q1
 subst ex
 cases r1 with
 |cons r rr =>
  cases rr
  cases r
  obtain⟨its,rv,p',hz⟩:=I1.list hq
  refine call_enumerate_list p'.isList fun h' he hit hsz hk=>wpAny_pyIter_enum he ?_
  have I2:Inv X pins σ H1 {s1 with heap:=h'}:=I1.kept (t':=s1.toks) hk
  refine⟨s1.heap.objs.size+1,[s1.heap.objs.size+1,s1.heap.objs.size],_,_,H1,rfl,I2,turn_enum a (s1.heap.objs.size+1) s1.heap.objs.size,⟨⟨.none,he⟩,hit,Nat.succ_ne_self _⟩,fun b hb=>?_,q⟩
  have e':b=s1.heap.objs.size+1∨b=s1.heap.objs.size:=by simpa using hb
  have hle:s1.heap.objs.size≤b:=by
   rcases e' with z|z
   ·rw[z];exact Nat.le_add_right _ _
   ·rw[z];exact Nat.le_refl _
  exact I1.fpOk hle (I1.hok.fresh hle)
theorem boot_zip5:bootBuiltins "zip"=some (.type "zip"):=by decide +kernel
def Itz (K:PySem.W.Frag) (a b:Addr):It :=
 ⟨fun i H=>∃(xs ys:List V) (x y:V),SqL K H a xs∧SqL K H b ys∧xs[i]?=some x∧ys[i]?=some y,
  fun i H v H'=>∃T x y,v=.ref T∧H T=none∧H'=upd H T (.tup [x,y])∧(∀xs,SqL K H a xs→xs[i]?=some x)∧∀ys,SqL K H b ys→ys[i]?=some y,
  fun i H=>∃xs ys:List V,SqL K H a xs∧SqL K H b ys∧(xs.length≤i∨ys.length≤i)⟩
theorem turn_zip {P:Program} {w:World} {K:PySem.W.Frag} {elts:List Expr} {kk:Nat} {tpos:Pos} {a b z TI TO i1 i2:Addr} (D:ZipApart z TI TO i1 i2 a b) :
  Turn P w K (.Tuple elts kk tpos) (Itz K a b) [z,TI,TO,i1,i2] z (fun i h=>IsZip h z TI TO .none∧IsPair h TI (.ref i1) (.ref i2)∧(∃x y,IsPair h TO x y)∧h.IsListIter i1 a i∧h.IsListIter i2 b i) where
 mem:=by simp
 obj:=fun i h st c hc=>by
  obtain⟨hz,hTI,⟨x,y,hTO⟩,⟨o1,e1,_,d1⟩,⟨o2,e2,_,d2⟩⟩:=st
  have e':c=z∨c=TI∨c=TO∨c=i1∨c=i2:=by simpa using hc
  rcases e' with q|q|q|q|q
  ·rw[q];exact⟨_,hz,fun v q=>nomatch q⟩
  ·rw[q];exact⟨_,hTI,fun v q=>nomatch q⟩
  ·rw[q];exact⟨_,hTO,fun v q=>nomatch q⟩
  ·rw[q];exact⟨o1,e1,fun v q=>by rw[d1] at q;cases q⟩
  ·rw[q];exact⟨o2,e2,fun v q=>by rw[d2] at q;cases q⟩
 keep:=fun i h h' st k=>by
  obtain⟨hz,hTI,⟨x,y,hTO⟩,h1,h2⟩:=st
  exact⟨k z (by simp) _ hz,k TI (by simp) _ hTI,⟨x,y,k TO (by simp) _ hTO⟩,h1.at fun o q=>k i1 (by simp) o q,h2.at fun o q=>k i2 (by simp) o q⟩
 item:=by
  intro X hP hw hK hc i pins s σ H E I hf st hg
  subst hP hw hK
  obtain⟨hz,hTI,⟨x0,y0,hTO⟩,h1,h2⟩:=st
  obtain⟨xs,ys,x,y,hqx,hqy,hx,hy⟩:=hg
  obtain⟨its,rv,p,_⟩:=I.list hqx
  obtain⟨its2,rv2,p2,_⟩:=I.list hqy
  obtain⟨u,hu,ru⟩:=rv.get hx
  obtain⟨u2,hu2,ru2⟩:=rv2.get hy
  have hzl:z<s.heap.objs.size:=Heap.lt_size hz
  refine wpAny_pyNext_zip_item D hz hTI hTO h1 h2 p.isList p2.isList (x:=u) (y:=u2) (by simpa using hu) (by simpa using hu2) fun h' z' TO' h1' h2' hT hsz hk=>?_
  refine⟨_,rfl,wpAny_letOwnedTupleGo_zip (s:={s with heap:=h'}) z' fun h'' z'' sb=>?_⟩
  have hT2:h''.get? s.heap.objs.size=some {cls:=.type "tuple",data:=.seq #[u,u2]}:=(sb.2 _ (Nat.ne_of_gt hzl)).trans hT
  have new:ObjOk X.prog X.w (upd H s.heap.objs.size (.tup [x,y])) h'' s.heap.objs.size (.tup [x,y]) :=
   ⟨by show 2≤sizeLine;decide,[u,u2],.cons ru (.cons ru2 .nil),⟨_,hT2,rfl,_,rfl⟩⟩
  have I1:Inv X pins σ (upd H s.heap.objs.size (.tup [x,y])) {s with heap:=h''} :=
   I.turnedNew (t':=s.toks) (ch:=[z,TI,TO,i1,i2]) (fun c o hb q=>(sb.2 c (fun q'=>hb (by simp [q']))).trans (hk c o (fun q'=>hb (by simp [q'])) (fun q'=>hb (by simp [q'])) (fun q'=>hb (by simp [q'])) (fun q'=>hb (by simp [q'])) q)) hf (Nat.le_refl _) new
  refine⟨.ref s.heap.objs.size,_,I1,rfl,⟨_,x,y,rfl,I.hok.fresh (Nat.le_refl _),rfl,fun l hl=>by rw[I.list_inj hl hqx];exact hx,fun l hl=>by rw[I.list_inj hl hqy];exact hy⟩,⟨z'',?_,⟨u,u2,?_⟩,?_,?_⟩,fun c hcm=>?_⟩
  ·exact (sb.2 _ D.TIz).trans (hk _ _ D.TIz D.TITO D.TIi1 D.TIi2 hTI)
  ·exact (sb.2 _ D.TOz).trans TO'
  ·exact h1'.at fun o q=>(sb.2 _ D.i1z).trans q
  ·exact h2'.at fun o q=>(sb.2 _ D.i2z).trans q
  ·have hlt:c<s.heap.objs.size:=by
    have e':c=z∨c=TI∨c=TO∨c=i1∨c=i2:=by simpa using hcm
    rcases e' with q|q|q|q|q
    ·rw[q];exact hzl
    ·rw[q];exact Heap.lt_size hTI
    ·rw[q];exact Heap.lt_size hTO
    ·rw[q];obtain⟨_,e1,_⟩:=h1;exact Heap.lt_size e1
    ·rw[q];obtain⟨_,e2,_⟩:=h2;exact Heap.lt_size e2
   rw[upd_ne (Nat.ne_of_lt hlt)]
   exact (hf c hcm).1
 done:=by
  intro X hP hw hK hc i pins s σ H E I hf st hg
  subst hP hw hK
  obtain⟨hz,hTI,⟨x0,y0,hTO⟩,h1,h2⟩:=st
  obtain⟨xs,ys,hqx,hqy,hend⟩:=hg
  obtain⟨its,rv,p,_⟩:=I.list hqx
  obtain⟨its2,rv2,p2,_⟩:=I.list hqy
  have l1:=rv.length
  have l2:=rv2.length
  have he:its.toArray[i]?=none∨its2.toArray[i]?=none:=by
   rcases hend with q|q
   ·exact .inl (by simp;omega)
   ·exact .inr (by simp;omega)
  exact wpAny_pyNext_zip_end (I.ok.hd hc) D hz hTI hTO h1 h2 p.isList p2.isList he fun h' hk=>⟨rfl,I.turnedL (t':=s.toks) (ch:=[z,TI,TO,i1,i2]) (fun c o hb q =>
   hk c o (fun q'=>hb (by simp [q'])) (fun q'=>hb (by simp [q'])) (fun q'=>hb (by simp [q'])) (fun q'=>hb (by simp [q'])) q) hf⟩
 self:=fun A i s Q E st h=>wpAny_pyIter_zip st.1 h
def iZip (K:PySem.W.Frag) (ta:TA):TI:=fun σ H R=>ta σ H fun vs H1=>∃a b xs ys,vs=[.ref a,.ref b]∧SqL K H1 a xs∧SqL K H1 b ys∧R (Itz K a b) H1
theorem pi_zip {X:Cx} {e e2:Expr} {ta:TA} {p pos tpos:Pos} {elts:List Expr} {kk:Nat} (hg:Gl X "zip") (hm:X.mg "zip"=none) (ha:PA X [e,e2] ta)
  (hs:starEach [e,e2] X.env=(false,eval e X.env)::starEach [e2] X.env:=by rfl) (hpl:(backTo pos (starEach [e2] X.env)).any (·.1)=false:=by rfl) :
  PI X (.Tuple elts kk tpos) (.Call (.Name "zip" p) [e,e2] [] pos) (iZip X.K ta):=by
 intro pins s σ H R I h
 refine Call_ (ld_blt I hg hm boot_zip5 (PyProof.Rows.callWith_type1 (thn (ha pos pins s σ H _ I h) fun us s1 ⟨vs,H1,I1,r1,q1⟩=>?_) hs hpl))
 obtain⟨a,b,xs,ys,ex,hqx,hqy,q⟩:=q1
 subst ex
 cases r1 with
 |cons r rr =>
  cases rr with
  |cons r' rr =>
   cases rr
   cases r
   cases r'
   obtain⟨its,rv,p1,_⟩:=I1.list hqx
   obtain⟨its2,rv2,p2,_⟩:=I1.list hqy
   have la:a<s1.heap.objs.size:=p1.lt
   have lb:b<s1.heap.objs.size:=p2.lt
   refine call_zip_2 p1.isList p2.isList fun h' hz hTI hTO h1 h2 hsz hk=>wpAny_pyIter_zip hz ?_
   have I2:Inv X pins σ H1 {s1 with heap:=h'}:=I1.kept (t':=s1.toks) hk
   refine⟨s1.heap.objs.size+4,[s1.heap.objs.size+4,s1.heap.objs.size+2,s1.heap.objs.size+3,s1.heap.objs.size,s1.heap.objs.size+1],_,_,H1,rfl,I2,turn_zip (PySem.W.ktu_apart s1.heap.objs.size a b la lb),⟨hz,hTI,⟨_,_,hTO⟩,h1,h2⟩,fun c hcm=>?_,q⟩
   have e':c=s1.heap.objs.size+4∨c=s1.heap.objs.size+2∨c=s1.heap.objs.size+3∨c=s1.heap.objs.size∨c=s1.heap.objs.size+1:=by simpa using hcm
   have hle:s1.heap.objs.size≤c:=by
    rcases e' with z|z|z|z|z
    ·rw[z];exact Nat.le_add_right _ _
    ·rw[z];exact Nat.le_add_right _ _
    ·rw[z];exact Nat.le_add_right _ _
    ·rw[z];exact Nat.le_refl _
    ·rw[z];exact Nat.le_add_right _ _
   exact I1.fpOk hle (I1.hok.fresh hle)
end L2
section
namespace TL
open PySem PySem.Builtin PySem.Builtin.Str PySem.StrLaws
abbrev tl (x:Str):List Nat:=x.cps.toList
theorem len_tl (x:Str):x.length=(tl x).length:=by simp [tl,Str.length]
def pre (S l:List Nat):Bool:=l.take S.length==S
def par (S:List Nat):List Nat→List Nat→Option (List Nat×List Nat)
 |_,[]=>none
 |acc,c::r=>if pre S (c::r)=true then some (acc,(c::r).drop S.length) else par S (acc++[c]) r
theorem len1 {y:Str} (hy:tl y≠[]):1≤y.length:=by
 have e2:0<(tl y).length:=List.length_pos_iff.mpr hy
 rw[len_tl y]
 exact e2
end TL
end
namespace L2
open PySem PySem.Spec PyProof.Rows
theorem vals_ints:∀{vs:List Value} {ns:List Int},IntsAre vs ns→Vals (ns.map V.int) vs
 |_,_,.nil=>.nil
 |_,_,.cons n t h=>.cons ⟨t,rfl⟩ (vals_ints h)
def Only (H:Hp):Prop:=∀b,H b=none∨∃o xs,H b=some (.frz o (.lst xs))
theorem law_call {P:Program} {w:World} {K:PySem.W.Frag} {mg mb:Str→Option Value} {CX:CXT} {k:Nat} {fa a:Addr} {fd:FuncData} {x:Str} {sp:Sp} {s₁:Shared} {vs:List Value} {ns:List Int}
  (KX:K.In s₁.heap) (hns:s₁.heap.Ns mainGlobals mg) (hb:s₁.heap.Ns builtinsNs mb) (hbb:∀x:Str,x≠"__name__"→mb x=bootBuiltins x) (hlim:s₁.heap.NoLimit) (hg:s₁.gens=#[])
  (ha:s₁.heap.get? a=some {cls:=.type "list",data:=.seq vs.toArray}) (hi:IntsAre vs ns) (hl:ns.length≤sizeLine) (hr:Room k callerA)
  (F:∀base:Heap,K.In base→base.Ns mainGlobals mg→FnOk P w K mg base CX k fa fd [x] sp) (hbind:∀(s:Shared) (u:Value),BindsTo s fd ⟨[u],[]⟩ [(x,u)])
  (hsp:∀H:Hp,Only H→SqL K H a (ns.map V.int)→sp [.ref a] H (fun v _=>v=.bl true) fun _ _ _=>False)
  (hCX:∀H e s',CX [] H s₁ (fun _ _ _=>False) e s'→False) :
  codeAny (model P w) callerA (.call (.ref fa) ⟨[.ref a],[]⟩) (fun r s'=>r=.ok (.ret (.bool true))∧OldK s₁.heap s'.heap∧s'.os=s₁.os∧AllBare s'.gens) s₁:=by
 have rv:=vals_ints hi
 have lenV:=hi.length
 have core:∀H:Hp,Only H→SqL K H a (ns.map V.int)→HOk P w H s₁.heap→(∀b,H b≠none→b=a)→(H a≠none→K.lookup a=none) →
   codeAny (model P w) callerA (.call (.ref fa) ⟨[.ref a],[]⟩) (fun r s'=>r=.ok (.ret (.bool true))∧OldK s₁.heap s'.heap∧s'.os=s₁.os∧AllBare s'.gens) s₁:=by
  intro H hO hS hok hA hK
  have base_of:∀{b:Addr} {o:Obj},s₁.heap.get? b=some o→H b=none→(hidT s₁.heap H).get? b=some o:=fun e n=>hidT_get e n
  have noA:∀{b:Addr} {o:Obj} {es:Array DictEntry} {ep:Nat},s₁.heap.get? b=some o→o.data=.dict es ep→H b=none:=fun {b o es ep} e d=>by
   cases q:H b with
   |none=>rfl
   |some u =>
    have e':b=a:=hA b (by rw[q];simp)
    subst e'
    rw[ha] at e;cases e
    have d':Data.seq vs.toArray _=Data.dict es ep:=d
    cases d'
  have nsK:∀{b:Addr} {m:Str→Option Value},s₁.heap.Ns b m→(hidT s₁.heap H).Ns b m:=fun {b m} ⟨o,es,ep,e,d,r⟩=>⟨o,es,ep,base_of e (noA e d),d,r⟩
  have hKb:K.In (hidT s₁.heap H):=fun b o e=>base_of (KX b o e) (by
   cases q:H b with
   |none=>rfl
   |some u =>
    have e':b=a:=hA b (by rw[q];simp)
    subst e'
    rw[hK (by rw[q];simp)] at e;cases e)
  have hM:Mod K mg (hidT s₁.heap H):=⟨hKb,nsK hns,⟨mb,nsK hb,hbb⟩,let ⟨mc,h1,h2⟩:=hlim;⟨mc,nsK h1,h2⟩⟩
  have e0:Env0 P w K mg (hidT s₁.heap H) callerA [] s₁ H:=⟨rfl,hM,fun b o e=>of_hidT e,Nat.le_of_eq (hidT_size _ _),trivial,fun b hb=>absurd (show b∈([]:List Addr) from hb) (by simp),hok,.of_eq hg⟩
  refine codeAny_mono ((F _ hKb (nsK hns)).run callerA [] s₁ H ⟨[.ref a],[]⟩ [.ref a] [.ref a] _ _ hr e0 (hbind s₁ (.ref a)) (.cons rfl .nil) (hsp H hO hS)) fun r s' h=>?_
  cases r with
  |error e=>exact (hCX H e s' h).elim
  |ok fl =>
   cases fl with
   |next=>exact False.elim h
   |brk=>exact False.elim h
   |cont=>exact False.elim h
   |ret u =>
    obtain⟨v,H',os,bare,un,hok',r',q⟩:=h
    have q':v=.bl true:=q
    subst q'
    obtain rfl:u=Value.bool true:=r'
    refine⟨rfl,OldK.of_keep fun b o e=>?_,os,bare⟩
    cases q:H b with
    |none=>exact un.keep b o e q (by intro z;exact absurd (show b∈([]:List Addr) from z) (by simp)) (by simp)
    |some u =>
     rcases hO b with z|⟨ob,xs,z⟩
     ·rw[q] at z;cases z
     ·have z2:=un.frzs b ob _ z
      obtain⟨e1,_⟩:=hok b _ z
      obtain⟨e2,_⟩:=hok' b _ z2
      rw[e] at e1;cases e1
      exact e2
 cases hk:K.lookup a with
 |some o =>
  have e:=KX a o hk
  rw[ha] at e
  cases e
  refine core (fun _=>none) (fun _=>.inl rfl) (.inr ⟨_,vs.toArray,_,hk,rfl,rfl,rfl,by rw[List.size_toArray,lenV];exact hl,by simpa using rv⟩) (fun b u z=>by have z':(none:Option HO)=some u:=z;cases z') (fun b z=>absurd rfl z) fun z=>absurd rfl z
 |none =>
  refine core (fun b=>if b=a then some (.frz {cls:=.type "list",data:=.seq vs.toArray} (.lst (ns.map V.int))) else none) (fun b=>?_) (.inl (.inr ⟨{cls:=.type "list",data:=.seq vs.toArray},if_pos rfl⟩)) (fun b u z=>?_) (fun b z=>?_) fun _=>hk
  ·by_cases hb:b=a
   ·exact .inr ⟨_,_,if_pos hb⟩
   ·exact .inl (if_neg hb)
  ·by_cases hb:b=a
   ·have z':=(if_pos hb).symm.trans z
    cases z'
    subst hb
    exact⟨ha,by rw[List.length_map];exact hl,vs,_,rv,ha⟩
   ·have z':=(if_neg hb).symm.trans z
    cases z'
  ·by_cases hb:b=a
   ·exact hb
   ·exact absurd (if_neg hb) z
end L2
namespace L2
open PySem PySem.Spec PyProof.Rows
def inClass (s:Stmt) (j:Nat):Stmt:=match s with
 |.ClassDef _ _ _ body _ _ _ _ _ _ _=>body.getD j (.Pass ⟨0,0,0,0⟩)
 |_=>.Pass ⟨0,0,0,0⟩
def defArgs (s:Stmt):Arguments:=match s with
 |.FunctionDef _ a _ _ _ _ _ _ _ _=>a
 |_=>{posonlyargs:=[],args:=[],vararg:=none,kwonlyargs:=[],kw_defaults:=[],kwarg:=none,defaults:=[]}
def defBody (s:Stmt):List Stmt:=match s with
 |.FunctionDef _ _ b _ _ _ _ _ _ _=>b
 |_=>[]
def defScope (s:Stmt):Scope:=match s with
 |.FunctionDef _ _ _ _ _ _ sc _ _ _=>sc
 |_=>{kind:=.function,names:=[],isGenerator:=false,isCoroutine:=false}
abbrev CX0:CXT:=fun _ _ _ _ _ _=>False
abbrev E0:XK:=fun _ _ _=>False
theorem pass0 {X:Cx}:Passes CX0 X E0:=fun _ _ _ _ _ _ _ h=>h.elim
structure Fun (K:PySem.W.Frag) (x qual:Str) (st:Stmt) (f:Addr) (fd:FuncData):Prop where
 ex:∃(oc:Value) (od:Option Addr) (kV doc pm:Value) (an:Option Addr) (cdv ct:Value) (osl:Array (Option Value)),
  fd=PySem.W.fnOf x qual (defArgs st) (defBody st) (defScope st) .none kV doc pm an cdv ct∧K.lookup f=some ⟨oc,od,.func fd,osl⟩∧PySem.W.codeIn K cdv qual=true
 kp:PySem.W.keepIn K (.ref f)=true
section
variable {P : Program} {w : World} {K : PySem.W.Frag} {mg : Str → Option Value} {base : Heap}
theorem Fun.ok {x qual:Str} {st:Stmt} {f:Addr} {fd:FuncData} {N ps:List Str} {k:Nat} {sp:Sp} (F:Fun K x qual st f fd) (S:FnScope N ps (defScope st)) (len:∀vs H Q E,sp vs H Q E→vs.length=ps.length)
  (hbody:∀(cdv:Value) (A:Around) (outer:List Env) (s:Shared) (H:Hp) (vs:List V) (Q:VK) (E:XK),Room k (A.deeper (envOfC qual (defScope st) s.heap.objs.size f cdv))→sp vs H Q E →
   ∃t,PSs (cxOf CX0 P w K mg base N qual (defScope st) f cdv A outer s H E).nox (defBody st) t∧t {nx:=fun _ H'=>Q .non H',rt:=Q} (start N vs) H):FnOk P w K mg base CX0 (k+1) f fd ps sp:=by
 obtain⟨oc,od,kV,doc,pm,an,cdv,ct,osl,rfl,lk,hcd⟩:=F.ex
 refine fn_of lk hcd S len fun A outer s H vs Q E hr hsp=>?_
 obtain⟨t,h,q⟩:=hbody cdv A outer s H vs Q E hr hsp
 exact⟨t,h.nox,q⟩
theorem Fun.binds {x qual:Str} {st:Stmt} {f:Addr} {fd:FuncData} {ps:List Str} (F:Fun K x qual st f fd)
  (h:∀(kV doc pm:Value) (an:Option Addr) (cdv ct:Value) (us:List Value),us.length=ps.length→bindArgs (PySem.W.fnOf x qual (defArgs st) (defBody st) (defScope st) .none kV doc pm an cdv ct) ⟨us,[]⟩=pure (ps.zip us)):Binds K fd ps []:=by
 obtain⟨oc,od,kV,doc,pm,an,cdv,ct,osl,rfl,lk,hcd⟩:=F.ex
 exact .all (h kV doc pm an cdv ct)
theorem fun_mk {x qual:Str} {st:Stmt} {f:Addr} {oc:Value} {od an:Option Addr} {osl:Array (Option Value)} {kV doc pm cdv ct:Value} (l:K.lookup f=some ⟨oc,od,.func (PySem.W.fnOf x qual (defArgs st) (defBody st) (defScope st) .none kV doc pm an cdv ct),osl⟩)
  (c:PySem.W.codeIn K cdv qual=true) (k:PySem.W.keepIn K (.ref f)=true):Fun K x qual st f (PySem.W.fnOf x qual (defArgs st) (defBody st) (defScope st) .none kV doc pm an cdv ct):=⟨⟨oc,od,kV,doc,pm,an,cdv,ct,osl,rfl,l,c⟩,k⟩
end
theorem hu_of {A:Around} {k:Nat} (hr:Room k A):A.units+1<cLine:=Nat.lt_of_le_of_lt (Nat.add_le_add_left (by decide:1≤64) _) hr.units
section
variable {X : Cx}
theorem pv (i:Nat) {x:Str} {pos:Pos} (hN:X.N[i]?=some x:=by rfl) (hv:Vis X.env.scope x:=by first|exact Or.inl rfl|exact Or.inr (Or.inl rfl)|exact Or.inr (Or.inr rfl)) (hd:(x==("__debug__":Str))=false:=by decide)
  (hcd:(x==("__classdict__":Str))=false:=by decide):PE X (.Name x pos) (tVar i):=pe_var hN hv hd hcd
end
theorem iteF {A B:Prop} (h:B):if false=true then A else B:=by
 rw[if_neg Bool.false_ne_true]
 exact h
theorem iteT {A B:Prop} (h:A):if true=true then A else B:=by
 rw[if_pos rfl]
 exact h
def Same (H H':Hp):Prop:=∀b o,H b=some o→H' b=some o
theorem Same.refl (H:Hp):Same H H:=fun _ _ h=>h
theorem Same.trans {H H1 H2:Hp} (a:Same H H1) (b:Same H1 H2):Same H H2:=fun c o h=>b c o (a c o h)
theorem Same.free {H H':Hp} (e:Same H H') {l:Addr} (h:H' l=Option.none):H l=Option.none:=by
 cases q:H l with
 |none=>rfl
 |some o =>
  rw[e l o q] at h
  cases h
theorem Same.seq {K:PySem.W.Frag} {H H':Hp} {a:Addr} {xs:List V} (e:Same H H') (h:SqL K H a xs):SqL K H' a xs:=by
 rcases h with (h|⟨o,h⟩)|h
 ·exact .inl (.inl (e _ _ h))
 ·exact .inl (.inr ⟨o,e _ _ h⟩)
 ·exact .inr h
theorem at_of {xs:List V} {z:Int} {j:Nat} {v:V} (e:z=(j:Int)) (h:xs[j]?=some v):atI xs z=some v:=by
 rw[e]
 exact atI_nat h
theorem Same.made {H H1:Hp} {x dx C:Addr} (nx:H x=Option.none) (nd:H dx=Option.none) (k:∀b o,(upd (upd H dx (.own x)) x (.ins C dx [])) b=some o→b≠x→H1 b=some o):Same H H1:=fun b o e =>
 k b o (by rw[upd_ne (ne_of_none e nx),upd_ne (ne_of_none e nd)];exact e) (ne_of_none e nx)
end L2
section
namespace L2
open PySem PySem.Spec PyProof.Rows
open PySem.W (WData Codec OpenSpec Well WellAll ReadsW ReadsAllW)
mutual
inductive Dw (K:PySem.W.Frag) (H:Hp):V→WData→Prop
 |non:Dw K H .non .none
 |bl (b:Bool):Dw K H (.bl b) (.bool b)
 |int (i:Int):Dw K H (.int i) (.int i)
 |str (x:Str):Dw K H (.str x) (.str x)
 |byt (b:Array UInt8):Dw K H (.byt b) (.bytes b.toList)
 |lst {a:Addr} {xs:List V} {ds:List WData}:SqL K H a xs→DwAll K H xs ds→Dw K H (.ref a) (.list ds)
 |tup {a:Addr} {xs:List V} {ds:List WData}:SqT K H a xs→DwAll K H xs ds→Dw K H (.ref a) (.tuple ds)
inductive DwAll (K:PySem.W.Frag) (H:Hp):List V→List WData→Prop
 |nil:DwAll K H [] []
 |cons {v:V} {vs:List V} {d:WData} {ds:List WData}:Dw K H v d→DwAll K H vs ds→DwAll K H (v::vs) (d::ds)
end
theorem dw_ints {K:PySem.W.Frag} {H:Hp}:∀ns:List Int,DwAll K H (ns.map V.int) (ns.map WData.int)
 |[]=>.nil
 |n::r=>.cons (.int n) (dw_ints r)
theorem ints_dw {K:PySem.W.Frag} {H:Hp}:∀(ns:List Int) (xs:List V),DwAll K H xs (ns.map WData.int)→xs=ns.map V.int
 |[],xs,h=>by
  cases h
  rfl
 |n::r,xs,h=>by
  cases h with
  |cons h1 h2 =>
   cases h1
   rw[ints_dw r _ h2]<;>rfl
section
variable {P : Program} {w : World} {K : PySem.W.Frag} {H : Hp} {h : Heap} {R : PySem.W.WRecords} {cl : Str → Option Addr}
theorem sqL_at {a:Addr} {xs:List V} (hok:HOk P w H h) (KX:K.In h) (q:SqL K H a xs):∃(its:List Value) (o:Obj) (n:Nat),Vals xs its∧h.get? a=some o∧o.cls=.type "list"∧o.data=.seq its.toArray n:=by
 rcases q with q|⟨o,its,n,e,hc,_,hd,_,hv⟩
 ·obtain⟨_,its,n,hv,e⟩:=(show ObjOk P w H h a (.lst xs) from q.ok hok)
  exact⟨its,_,n,hv,e,rfl,rfl⟩
 ·exact⟨its.toList,o,n,hv,KX _ _ e,hc,by simp [hd]⟩
theorem sqT_at {a:Addr} {xs:List V} (hok:HOk P w H h) (KX:K.In h) (q:SqT K H a xs):∃(its:List Value) (o:Obj) (n:Nat),Vals xs its∧h.get? a=some o∧o.cls=.type "tuple"∧o.data=.seq its.toArray n:=by
 rcases q with q|⟨o,its,n,e,hc,hd,_,hv⟩
 ·obtain⟨_,its,hv,o,e,hc,n,hd⟩:=(show ObjOk P w H h a (.tup xs) from q.ok hok)
  exact⟨its,o,n,hv,e,hc,hd⟩
 ·exact⟨its.toList,o,n,hv,KX _ _ e,hc,by simp [hd]⟩
mutual
theorem Dw.reads (hok:HOk P w H h) (KX:K.In h):∀(d:WData) (v:V) (u:Value),Dw K H v d→RelV v u→∃as,ReadsW R cl h u d as
 |.none,_,_,x,r=>by
  cases x
  cases r
  exact⟨_,ReadsW.none⟩
 |.bool b,_,_,x,r=>by
  cases x
  cases r
  exact⟨_,ReadsW.bool b⟩
 |.int i,_,_,x,r=>by
  cases x
  obtain⟨t,rfl⟩:=r
  exact⟨_,ReadsW.int i t⟩
 |.str s,_,_,x,r=>by
  cases x
  obtain⟨t,rfl⟩:=r
  exact⟨_,ReadsW.str s t⟩
 |.bytes b,_,_,x,r=>by
  cases x
  obtain⟨t,rfl⟩:=r
  exact⟨_,ReadsW.bytes _ t⟩
 |.list ds,_,_,x,r=>by
  cases x with
  |lst hs ha =>
   cases r
   obtain⟨its,o,n,rv,ho,hc,hd⟩:=sqL_at hok KX hs
   obtain⟨as,hr⟩:=Dw.readsAll hok KX ds _ its ha rv
   exact⟨_,ReadsW.list ho hc hd hr⟩
 |.tuple ds,_,_,x,r=>by
  cases x with
  |tup hs ha =>
   cases r
   obtain⟨its,o,n,rv,ho,hc,hd⟩:=sqT_at hok KX hs
   obtain⟨as,hr⟩:=Dw.readsAll hok KX ds _ its ha rv
   exact⟨_,ReadsW.tuple ho hc hd hr⟩
 |.float _,_,_,x,_=>by cases x
 |.dict _,_,_,x,_=>by cases x
 |.bytearray _,_,_,x,_=>by cases x
 |.set _,_,_,x,_=>by cases x
 |.frozenset _,_,_,x,_=>by cases x
 |.obj _ _,_,_,x,_=>by cases x
theorem Dw.readsAll (hok:HOk P w H h) (KX:K.In h):∀(ds:List WData) (vs:List V) (us:List Value),DwAll K H vs ds→Vals vs us→∃as,ReadsAllW R cl h us ds as
 |[],_,_,x,r=>by
  cases x
  cases r
  exact⟨_,ReadsAllW.nil⟩
 |d::ds,_,_,x,r=>by
  cases x with
  |cons h1 h2 =>
   cases r with
   |cons r1 r2 =>
    obtain⟨as,q1⟩:=Dw.reads hok KX d _ _ h1 r1
    obtain⟨bs,q2⟩:=Dw.readsAll hok KX ds _ _ h2 r2
    exact⟨_,ReadsAllW.cons q1 q2⟩
end
end
mutual
def plW:WData→Bool
 |.none=>true
 |.bool _=>true
 |.int _=>true
 |.str _=>true
 |.bytes _=>true
 |.list xs=>plWs xs
 |.tuple xs=>plWs xs
 |_=>false
def plWs:List WData→Bool
 |[]=>true
 |x::r=>plW x&&plWs r
end
theorem plWs_map {α:Type} {f:α→WData} (h:∀a,plW (f a)=true):∀l:List α,plWs (l.map f)=true
 |[]=>rfl
 |x::r=>by
  show (plW (f x)&&plWs (r.map f))=true
  rw[h x,plWs_map h r]<;>rfl
theorem pl_enc:∀(c:Codec) (a:c.denote),plW (c.enc a)=true
 |.unit,_=>rfl
 |.bool,_=>rfl
 |.int _ _,_=>rfl
 |.nat _ _,_=>rfl
 |.u8,_=>rfl
 |.bytes _ _,_=>rfl
 |.text _ _ _ _,_=>rfl
 |.list _ _ c,a=>plWs_map (fun x=>pl_enc c x) a
 |.pair c d,a=>by
  show (plW (c.enc a.1)&&(plW (d.enc a.2)&&true))=true
  rw[pl_enc c a.1,pl_enc d a.2]<;>rfl
 |.triple c d e,a=>by
  show (plW (c.enc a.1)&&(plW (d.enc a.2.1)&&(plW (e.enc a.2.2)&&true)))=true
  rw[pl_enc c a.1,pl_enc d a.2.1,pl_enc e a.2.2]<;>rfl
 |.option c,none=>rfl
 |.option c,some x=>pl_enc c x
theorem pl_encAll:∀(cs:List Codec) (a:Codec.denoteAll cs),plWs (Codec.encAll cs a)=true
 |[],_=>rfl
 |c::cs,a=>by
  show (plW (c.enc a.1)&&plWs (Codec.encAll cs a.2))=true
  rw[pl_enc c a.1,pl_encAll cs a.2]<;>rfl
theorem weight_mem:∀{xs:List WData} {d:WData},d∈xs→d.weight≤WData.weightAll xs
 |[],d,h=>absurd h (by simp)
 |x::r,d,h=>by
  show d.weight≤x.weight+1+WData.weightAll r
  rcases List.mem_cons.mp h with e|m
  ·rw[e]
   omega
  ·have z:=weight_mem m
   omega
def toV:Value→V
 |.none=>.non
 |.bool b=>.bl b
 |.int i _=>.int i
 |.str x _=>.str x
 |.bytes b _=>.byt b
 |.ref a=>.ref a
 |_=>.non
def OkU (A:List Addr):Value→Prop
 |.none=>True
 |.bool _=>True
 |.int _ _=>True
 |.str _ _=>True
 |.bytes _ _=>True
 |.ref a=>a∈A
 |_=>False
theorem OkU.mono {A B:List Addr} (h:∀a∈A,a∈B):∀{u:Value},OkU A u→OkU B u:=fun {u} x=>by
 cases u with
 |ref a=>exact h a x
 |none=>trivial
 |bool b=>trivial
 |int i t=>trivial
 |str s t=>trivial
 |bytes b t=>trivial
 |_=>exact False.elim x
theorem relV_toV {A:List Addr} {u:Value} (x:OkU A u):RelV (toV u) u:=by
 cases u with
 |ref a=>rfl
 |none=>rfl
 |bool b=>rfl
 |int i t=>exact⟨t,rfl⟩
 |str s t=>exact⟨t,rfl⟩
 |bytes b t=>exact⟨t,rfl⟩
 |_=>exact False.elim x
theorem vals_toV {A:List Addr}:∀{vs:List Value},(∀u∈vs,OkU A u)→Vals (vs.map toV) vs
 |[],_=>.nil
 |u::r,h=>.cons (relV_toV (h u (List.mem_cons_self ..))) (vals_toV fun x hx=>h x (List.mem_cons_of_mem _ hx))
def ArgOb (h:Heap) (A:List Addr) (a:Addr):Prop:=∃vs:List Value,vs.length≤sizeLine∧(∀u∈vs,OkU A u) ∧
 (h.get? a=some {cls:=.type "list",data:=.seq vs.toArray}∨h.get? a=some {cls:=.type "tuple",data:=.seq vs.toArray})
theorem ArgOb.mono {h:Heap} {A B:List Addr} {a:Addr} (k:∀a∈A,a∈B) (x:ArgOb h A a):ArgOb h B a:=by
 obtain⟨vs,h1,h2,h3⟩:=x
 exact⟨vs,h1,fun u hu=>(h2 u hu).mono k,h3⟩
theorem wellAll_len {P:Params} {h:Heap}:∀{vs:List Value} {ds:List WData},WellAll P h vs ds→vs.length=ds.length
 |_,_,.nil=>rfl
 |_,_,.cons _ b=>by
  show _+1=_+1
  rw[wellAll_len b]
theorem well_list {P:Params} {h:Heap} {v:Value} {ds:List WData} (x:Well P h v (.list ds)):∃(a:Addr) (vs:List Value),v=.ref a∧h.get? a=some {cls:=.type "list",data:=.seq vs.toArray}∧WellAll P h vs ds:=by
 cases x with
 |list ho hall=>exact⟨_,_,rfl,ho,hall⟩
theorem well_tuple {P:Params} {h:Heap} {v:Value} {ds:List WData} (x:Well P h v (.tuple ds)):∃(a:Addr) (vs:List Value),v=.ref a∧h.get? a=some {cls:=.type "tuple",data:=.seq vs.toArray}∧WellAll P h vs ds:=by
 cases x with
 |tuple ho hall=>exact⟨_,_,rfl,ho,hall⟩
theorem well_cons {P:Params} {h:Heap} {us:List Value} {d:WData} {ds:List WData} (x:WellAll P h us (d::ds)):∃(v:Value) (vs:List Value),us=v::vs∧Well P h v d∧WellAll P h vs ds:=by
 cases x with
 |cons a b=>exact⟨_,_,rfl,a,b⟩
theorem line_of {n:Nat} (h:n≤1048576):n≤sizeLine:=Nat.le_trans h (by decide)
section
variable {P : Params} {h : Heap}
mutual
theorem area_one:∀(d:WData) (v:Value),Well P h v d→plW d=true→d.weight≤1048576→∃A:List Addr,OkU A v∧∀a∈A,ArgOb h A a
 |.none,_,x,_,_=>by
  cases x
  exact⟨[],trivial,fun a m=>absurd m (by simp)⟩
 |.bool b,_,x,_,_=>by
  cases x
  exact⟨[],trivial,fun a m=>absurd m (by simp)⟩
 |.int i,_,x,_,_=>by
  cases x
  exact⟨[],trivial,fun a m=>absurd m (by simp)⟩
 |.str s,_,x,_,_=>by
  cases x
  exact⟨[],trivial,fun a m=>absurd m (by simp)⟩
 |.bytes b,_,x,_,_=>by
  cases x
  exact⟨[],trivial,fun a m=>absurd m (by simp)⟩
 |.list ds,_,x,p,z=>by
  obtain⟨a,vs,rfl,ho,hall⟩:=well_list x
  have z2:WData.weightAll ds≤1048576:=z
  obtain⟨A,h1,h2⟩:=area_all ds _ hall p fun d hd=>Nat.le_trans (weight_mem hd) z2
  have k:∀b∈A,b∈a::A:=fun b hb=>List.mem_cons_of_mem _ hb
  refine⟨a::A,List.mem_cons_self ..,fun b hb=>?_⟩
  rcases List.mem_cons.mp hb with e|m
  ·rw[e]
   exact⟨vs,line_of (by rw[wellAll_len hall];exact Nat.le_trans (PySem.W.length_le_weightAllW ds) z2),fun u hu=>(h1 u hu).mono k,.inl ho⟩
  ·exact (h2 b m).mono k
 |.tuple ds,_,x,p,z=>by
  obtain⟨a,vs,rfl,ho,hall⟩:=well_tuple x
  have z2:WData.weightAll ds≤1048576:=z
  obtain⟨A,h1,h2⟩:=area_all ds _ hall p fun d hd=>Nat.le_trans (weight_mem hd) z2
  have k:∀b∈A,b∈a::A:=fun b hb=>List.mem_cons_of_mem _ hb
  refine⟨a::A,List.mem_cons_self ..,fun b hb=>?_⟩
  rcases List.mem_cons.mp hb with e|m
  ·rw[e]
   exact⟨vs,line_of (by rw[wellAll_len hall];exact Nat.le_trans (PySem.W.length_le_weightAllW ds) z2),fun u hu=>(h1 u hu).mono k,.inr ho⟩
  ·exact (h2 b m).mono k
 |.float _,_,_,p,_=>Bool.noConfusion (show false=true from p)
 |.dict _,_,_,p,_=>Bool.noConfusion (show false=true from p)
 |.bytearray _,_,_,p,_=>Bool.noConfusion (show false=true from p)
 |.set _,_,_,p,_=>Bool.noConfusion (show false=true from p)
 |.frozenset _,_,_,p,_=>Bool.noConfusion (show false=true from p)
 |.obj _ _,_,_,p,_=>Bool.noConfusion (show false=true from p)
theorem area_all:∀(ds:List WData) (vs:List Value),WellAll P h vs ds→plWs ds=true→(∀d∈ds,d.weight≤1048576)→∃A:List Addr,(∀u∈vs,OkU A u)∧∀a∈A,ArgOb h A a
 |[],_,x,_,_=>by
  cases x
  exact⟨[],fun u m=>absurd m (by simp),fun a m=>absurd m (by simp)⟩
 |d::ds,_,x,p,z=>by
  obtain⟨v,vs,rfl,x1,x2⟩:=well_cons x
  have q:plW d=true∧plWs ds=true:=Bool.and_eq_true_iff.mp p
  obtain⟨A,a1,a2⟩:=area_one d v x1 q.1 (z d (List.mem_cons_self ..))
  obtain⟨B,b1,b2⟩:=area_all ds vs x2 q.2 fun e he=>z e (List.mem_cons_of_mem _ he)
  have kA:∀b∈A,b∈A++B:=fun b hb=>List.mem_append.mpr (.inl hb)
  have kB:∀b∈B,b∈A++B:=fun b hb=>List.mem_append.mpr (.inr hb)
  refine⟨A++B,fun u hu=>?_,fun b hb=>?_⟩
  ·rcases List.mem_cons.mp hu with e|m
   ·rw[e]
    exact a1.mono kA
   ·exact (b1 u m).mono kB
  ·rcases List.mem_append.mp hb with m|m
   ·exact (a2 b m).mono kA
   ·exact (b2 b m).mono kB
end
end
def hoOf (o:Obj):Option HO:=match o.data with
 |.seq vs _=>if (o.cls==Value.type "list")=true then some (.frz o (.lst (vs.toList.map toV))) else some (.frz o (.tup (vs.toList.map toV)))
 |_=>none
def argH (K:PySem.W.Frag) (h:Heap) (A:List Addr):Hp:=fun b=>if b∈A then (if (K.lookup b).isNone=true then (h.get? b).bind hoOf else none) else none
def OnlyF (H:Hp):Prop:=∀b,H b=none∨∃o u,H b=some (.frz o u)
theorem hoOf_lst (vs:List Value):hoOf {cls:=.type "list",data:=.seq vs.toArray}=some (.frz {cls:=.type "list",data:=.seq vs.toArray} (.lst (vs.map toV))):=by
 show (if (Value.type "list"==Value.type "list")=true then some (HO.frz {cls:=.type "list",data:=.seq vs.toArray} (.lst (vs.toArray.toList.map toV))) else some (HO.frz {cls:=.type "list",data:=.seq vs.toArray} (.tup (vs.toArray.toList.map toV))))=_
 rw[if_pos (beq_self_eq_true _)]
theorem hoOf_tup (vs:List Value):hoOf {cls:=.type "tuple",data:=.seq vs.toArray}=some (.frz {cls:=.type "tuple",data:=.seq vs.toArray} (.tup (vs.map toV))):=by
 show (if (Value.type "tuple"==Value.type "list")=true then some (HO.frz {cls:=.type "tuple",data:=.seq vs.toArray} (.lst (vs.toArray.toList.map toV))) else some (HO.frz {cls:=.type "tuple",data:=.seq vs.toArray} (.tup (vs.toArray.toList.map toV))))=_
 rw[if_neg (by decide)]
section
variable {P : Program} {w : World} {K : PySem.W.Frag} {h : Heap} {A : List Addr}
theorem argH_at {b:Addr} {o:Obj} (hb:b∈A) (hk:K.lookup b=none) (e:h.get? b=some o):argH K h A b=hoOf o:=by
 unfold argH
 rw[if_pos hb,hk,if_pos (show (none:Option Obj).isNone=true from rfl),e]<;>rfl
theorem of_argH {b:Addr} {u:HO} (q:argH K h A b=some u):b∈A∧K.lookup b=none:=by
 unfold argH at q
 by_cases hb:b∈A
 ·rw[if_pos hb] at q
  cases hk:K.lookup b with
  |none=>exact⟨hb,rfl⟩
  |some o =>
   rw[hk,if_neg (by simp)] at q
   cases q
 ·rw[if_neg hb] at q
  cases q
theorem argH_is (ar:∀a∈A,ArgOb h A a) {b:Addr} {u:HO} (q:argH K h A b=some u):K.lookup b=none∧∃vs:List Value,vs.length≤sizeLine∧(∀u∈vs,OkU A u) ∧
    ((h.get? b=some {cls:=.type "list",data:=.seq vs.toArray}∧u=.frz {cls:=.type "list",data:=.seq vs.toArray} (.lst (vs.map toV))) ∨
     (h.get? b=some {cls:=.type "tuple",data:=.seq vs.toArray}∧u=.frz {cls:=.type "tuple",data:=.seq vs.toArray} (.tup (vs.map toV)))):=by
  obtain⟨hb,hk⟩:=of_argH q
  obtain⟨vs,h1,h2,h3⟩:=ar b hb
  refine⟨hk,vs,h1,h2,?_⟩
  rcases h3 with e|e
  · rw[argH_at hb hk e,hoOf_lst] at q
    exact .inl ⟨e,(Option.some.inj q).symm⟩
  · rw[argH_at hb hk e,hoOf_tup] at q
    exact .inr ⟨e,(Option.some.inj q).symm⟩
theorem argH_only (ar:∀a∈A,ArgOb h A a):OnlyF (argH K h A):=fun b=>by
 cases q:argH K h A b with
 |none=>exact .inl rfl
 |some u =>
  obtain⟨_,vs,_,_,⟨_,e⟩|⟨_,e⟩⟩:=argH_is ar q
  ·exact .inr ⟨_,_,by rw[e]⟩
  ·exact .inr ⟨_,_,by rw[e]⟩
theorem argH_ok (ar:∀a∈A,ArgOb h A a):HOk P w (argH K h A) h:=fun b u q=>by
 obtain⟨_,vs,h1,h2,⟨e,rfl⟩|⟨e,rfl⟩⟩:=argH_is ar q
 ·exact⟨e,by rw[List.length_map];exact h1,vs,_,vals_toV h2,e⟩
 ·exact⟨e,by rw[List.length_map];exact h1,vs,vals_toV h2,_,e,rfl,_,rfl⟩
theorem seq_inj {c c':Value} {vs us:List Value} (e:(some {cls:=c,data:=.seq vs.toArray}:Option Obj)=some {cls:=c',data:=.seq us.toArray}):c=c'∧vs=us:=by
 have e1:=Option.some.inj e
 have e2:c=c':=congrArg Obj.cls e1
 have e3:Data.seq vs.toArray=Data.seq us.toArray:=congrArg Obj.data e1
 injection e3 with e4
 refine⟨e2,?_⟩
 have e5:=congrArg Array.toList e4
 simpa using e5
theorem argL (KX:K.In h) (ar:∀a∈A,ArgOb h A a) {a:Addr} {vs:List Value} (ha:a∈A) (e:h.get? a=some {cls:=.type "list",data:=.seq vs.toArray}):(∀u∈vs,OkU A u)∧SqL K (argH K h A) a (vs.map toV):=by
 obtain⟨us,h1,h2,h3⟩:=ar a ha
 have hu:us=vs:=by
  rcases h3 with q|q
  ·rw[e] at q
   exact (seq_inj q).2.symm
  ·rw[e] at q
   exact absurd (Value.type.inj (seq_inj q).1) (by decide)
 subst hu
 refine⟨h2,?_⟩
 cases hk:K.lookup a with
 |none=>exact .inl (.inr ⟨_,by rw[argH_at ha hk e,hoOf_lst]⟩)
 |some o =>
  have e2:=KX a o hk
  rw[e] at e2
  obtain rfl:=Option.some.inj e2
  exact .inr ⟨_,us.toArray,_,hk,rfl,rfl,rfl,by rw[List.size_toArray];exact h1,by simpa using vals_toV h2⟩
theorem argT (KX:K.In h) (ar:∀a∈A,ArgOb h A a) {a:Addr} {vs:List Value} (ha:a∈A) (e:h.get? a=some {cls:=.type "tuple",data:=.seq vs.toArray}):(∀u∈vs,OkU A u)∧SqT K (argH K h A) a (vs.map toV):=by
 obtain⟨us,h1,h2,h3⟩:=ar a ha
 have hu:us=vs:=by
  rcases h3 with q|q
  ·rw[e] at q
   exact absurd (Value.type.inj (seq_inj q).1) (by decide)
  ·rw[e] at q
   exact (seq_inj q).2.symm
 subst hu
 refine⟨h2,?_⟩
 cases hk:K.lookup a with
 |none=>exact .inl (.inr ⟨_,by rw[argH_at ha hk e,hoOf_tup]⟩)
 |some o =>
  have e2:=KX a o hk
  rw[e] at e2
  obtain rfl:=Option.some.inj e2
  exact .inr ⟨_,us.toArray,_,hk,rfl,rfl,by rw[List.size_toArray];exact h1,by simpa using vals_toV h2⟩
mutual
theorem dw_one {Pm:Params} (KX:K.In h) (ar:∀a∈A,ArgOb h A a):∀(d:WData) (v:Value),Well Pm h v d→plW d=true→OkU A v→Dw K (argH K h A) (toV v) d
 |.none,_,x,_,_=>by
  cases x
  exact .non
 |.bool b,_,x,_,_=>by
  cases x
  exact .bl b
 |.int i,_,x,_,_=>by
  cases x
  exact .int i
 |.str s,_,x,_,_=>by
  cases x
  exact .str s
 |.bytes b,_,x,_,_=>by
  cases x
  have z:=Dw.byt (K:=K) (H:=argH K h A) b.toArray
  exact z
 |.list ds,_,x,p,hu=>by
  obtain⟨a,vs,rfl,ho,hall⟩:=well_list x
  obtain⟨h2,hs⟩:=argL KX ar hu ho
  exact .lst hs (dw_all KX ar ds _ hall p h2)
 |.tuple ds,_,x,p,hu=>by
  obtain⟨a,vs,rfl,ho,hall⟩:=well_tuple x
  obtain⟨h2,hs⟩:=argT KX ar hu ho
  exact .tup hs (dw_all KX ar ds _ hall p h2)
 |.float _,_,_,p,_=>Bool.noConfusion (show false=true from p)
 |.dict _,_,_,p,_=>Bool.noConfusion (show false=true from p)
 |.bytearray _,_,_,p,_=>Bool.noConfusion (show false=true from p)
 |.set _,_,_,p,_=>Bool.noConfusion (show false=true from p)
 |.frozenset _,_,_,p,_=>Bool.noConfusion (show false=true from p)
 |.obj _ _,_,_,p,_=>Bool.noConfusion (show false=true from p)
theorem dw_all {Pm:Params} (KX:K.In h) (ar:∀a∈A,ArgOb h A a):∀(ds:List WData) (vs:List Value),WellAll Pm h vs ds→plWs ds=true→(∀u∈vs,OkU A u)→DwAll K (argH K h A) (vs.map toV) ds
 |[],_,x,_,_=>by
  cases x
  exact .nil
 |d::ds,_,x,p,hu=>by
  obtain⟨v,vs,rfl,x1,x2⟩:=well_cons x
  have q:plW d=true∧plWs ds=true:=Bool.and_eq_true_iff.mp p
  exact .cons (dw_one KX ar d v x1 q.1 (hu _ (List.mem_cons_self ..))) (dw_all KX ar ds vs x2 q.2 fun u m=>hu u (List.mem_cons_of_mem _ m))
end
end
theorem spec_call {P:Program} {w:World} {K:PySem.W.Frag} {mg mb:Str→Option Value} {CX:CXT} {k:Nat} {fa:Addr} {fd:FuncData} {ps:List Str} {sp:Sp} {s₁:Shared} {vals:List Value} {ds:List WData} {R:PySem.W.WRecords} {cl:Str→Option Addr} {d0:WData}
  (KX:K.In s₁.heap) (hns:s₁.heap.Ns mainGlobals mg) (hb:s₁.heap.Ns builtinsNs mb) (hbb:∀x:Str,x≠"__name__"→mb x=bootBuiltins x) (hlim:s₁.heap.NoLimit) (hg:s₁.gens=#[])
  (hwl:WellAll w.params s₁.heap vals ds) (hpl:plWs ds=true) (hwt:∀d∈ds,d.weight≤1048576) (hr:Room k callerA)
  (F:∀base:Heap,K.In base→base.Ns mainGlobals mg→FnOk P w K mg base CX k fa fd ps sp) (hbind:∀(s:Shared) (us:List Value),us.length=ps.length→BindsTo s fd ⟨us,[]⟩ (ps.zip us)) (hlen:ds.length=ps.length)
  (hsp:∀(H:Hp) (xs:List V),OnlyF H→DwAll K H xs ds→sp xs H (fun v H'=>Dw K H' v d0) fun _ _ _=>False)
  (hCX:∀H e s',CX [] H s₁ (fun _ _ _=>False) e s'→False) :
  codeAny (model P w) callerA (.call (.ref fa) ⟨vals,[]⟩) (fun r s'=>∃u as,r=.ok (.ret u)∧ReadsW R cl s'.heap u d0 as∧OldK s₁.heap s'.heap∧s'.os=s₁.os∧AllBare s'.gens) s₁:=by
 obtain⟨A,ho,ar⟩:=area_all ds vals hwl hpl hwt
 have hO:OnlyF (argH K s₁.heap A):=argH_only ar
 have hok:HOk P w (argH K s₁.heap A) s₁.heap:=argH_ok ar
 have hS:=dw_all KX ar ds vals hwl hpl ho
 have hV:=vals_toV ho
 have hK:∀b u,argH K s₁.heap A b=some u→K.lookup b=none:=fun b u q=>(argH_is ar q).1
 have noA:∀{b:Addr} {o:Obj} {es:Array DictEntry} {ep:Nat},s₁.heap.get? b=some o→o.data=.dict es ep→argH K s₁.heap A b=none:=fun {b o es ep} e d=>by
  cases q:argH K s₁.heap A b with
  |none=>rfl
  |some u =>
   obtain⟨_,vs,_,_,⟨e2,_⟩|⟨e2,_⟩⟩:=argH_is ar q
   ·rw[e2] at e
    cases e
    have d':Data.seq vs.toArray _=Data.dict es ep:=d
    cases d'
   ·rw[e2] at e
    cases e
    have d':Data.seq vs.toArray _=Data.dict es ep:=d
    cases d'
 generalize argH K s₁.heap A=H at hO hok hS hK noA
 have base_of:∀{b:Addr} {o:Obj},s₁.heap.get? b=some o→H b=none→(hidT s₁.heap H).get? b=some o:=fun e n=>hidT_get e n
 have nsK:∀{b:Addr} {m:Str→Option Value},s₁.heap.Ns b m→(hidT s₁.heap H).Ns b m:=fun {b m} ⟨o,es,ep,e,d,r⟩=>⟨o,es,ep,base_of e (noA e d),d,r⟩
 have nK:∀b o,K.lookup b=some o→H b=none:=fun b o e=>by
  cases q:H b with
  |none=>rfl
  |some u =>
   rw[hK b u q] at e
   cases e
 have hKb:K.In (hidT s₁.heap H):=fun b o e=>base_of (KX b o e) (nK b o e)
 have hM:Mod K mg (hidT s₁.heap H):=⟨hKb,nsK hns,⟨mb,nsK hb,hbb⟩,let ⟨mc,h1,h2⟩:=hlim;⟨mc,nsK h1,h2⟩⟩
 have e0:Env0 P w K mg (hidT s₁.heap H) callerA [] s₁ H:=⟨rfl,hM,fun b o e=>of_hidT e,Nat.le_of_eq (hidT_size _ _),trivial,fun b hb=>absurd (show b∈([]:List Addr) from hb) (by simp),hok,.of_eq hg⟩
 have hl:vals.length=ps.length:=by rw[wellAll_len hwl];exact hlen
 refine codeAny_mono ((F _ hKb (nsK hns)).run callerA [] s₁ H ⟨vals,[]⟩ vals (vals.map toV) _ _ hr e0 (hbind s₁ vals hl) hV (hsp H _ hO hS)) fun r s' x=>?_
 cases r with
 |error e=>exact (hCX H e s' x).elim
 |ok fl =>
  cases fl with
  |next=>exact False.elim x
  |brk=>exact False.elim x
  |cont=>exact False.elim x
  |ret u =>
   obtain⟨v,H',os,bare,un,hok',r',q⟩:=x
   have kept:∀b o,s₁.heap.get? b=some o→s'.heap.get? b=some o:=fun b o e=>by
    cases q2:H b with
    |none=>exact un.keep b o e q2 (by intro z;exact absurd (show b∈([]:List Addr) from z) (by simp)) (by simp)
    |some u2 =>
     rcases hO b with z|⟨ob,u3,z⟩
     ·rw[q2] at z
      cases z
     ·have z2:=un.frzs b ob _ z
      obtain⟨e1,_⟩:=hok b _ z
      obtain⟨e2,_⟩:=hok' b _ z2
      rw[e] at e1
      cases e1
      exact e2
   have KX':K.In s'.heap:=fun b o e=>kept b o (KX b o e)
   obtain⟨as,hrd⟩:=Dw.reads (R:=R) (cl:=cl) hok' KX' d0 v u q r'
   exact⟨u,as,rfl,hrd,OldK.of_keep kept,os,bare⟩
theorem layable_weight {ds:List WData} (h:WData.layableAll ds=true):∀d∈ds,d.weight≤1048576:=fun d hd =>
 (PySem.W.layableW_iff.mp (List.all_eq_true.mp h d hd)).2.2
theorem encAll_len:∀(cs:List Codec) (a:Codec.denoteAll cs),(Codec.encAll cs a).length=cs.length
 |[],_=>rfl
 |c::cs,a=>by
  show (Codec.encAll cs a.2).length+1=cs.length+1
  rw[encAll_len cs a.2]
theorem walk_spec {r:OpenSpec} {k:Nat} {q:Program} {loose:List Str} {XP:(Str→Option Value)→Heap→Prop} {YP:World→Heap→Prop} {d:DefRec} {K:Params→PySem.W.Frag} {CX:World→CXT} {ps:List Str} {sp:World→Sp}
  (hwell:r.wellSaid=true) (hdf:d.params.defaults=[]) (hlen:r.args.length=ps.length) (hr:Room k callerA)
  (hY:∀(w:World) (h:Heap),YP w h→(K w.params).In h)
  (F:∀(w:World) (mg:Str→Option Value) (fa:Addr) (h:Heap),YP w h→(K w.params).In h→h.Ns mainGlobals mg→mg d.name=some (.ref fa) →
   ∃fd:FuncData,(∀(s:Shared) (us:List Value),us.length=ps.length→BindsTo s fd ⟨us,[]⟩ (ps.zip us)) ∧
    ∀base:Heap,(K w.params).In base→base.Ns mainGlobals mg→FnOk r.prog w (K w.params) mg base (CX w) k fa fd ps (sp w))
  (hsp:∀(w:World) (H:Hp) (xs:List V) (a:Codec.denoteAll r.args),OnlyF H→Codec.withinAll r.args a=true→Codec.app r.args r.asked a=true→DwAll (K w.params) H xs (Codec.encAll r.args a) →
   sp w xs H (fun v H'=>Dw (K w.params) H' v (r.ret.enc (Codec.app r.args r.f a))) fun _ _ _=>False)
  (hCX:∀(w:World) (H:Hp) (s:Shared) (e:Value) (s':Shared),CX w [] H s (fun _ _ _=>False) e s'→False) :
  PySem.W.WalkOS q loose XP YP r d [] (fun f vs=>PySem.call f vs):=by
 intro w s_0 s₁ mg mb G Y fa o pm cd doc dV kV ho hd hcd hD hmg hg args vals as hpre hlay hrd hwl hlo
 obtain⟨a,e1,e2⟩:=PySem.W.os_pre_some hpre
 obtain⟨e3,hwi⟩:=Codec.encAll_of_decAll r.args args a e1
 subst e3
 have KX:=hY w _ Y
 obtain⟨fd,hb,hF⟩:=F w mg fa _ Y KX G.T.g hmg
 refine PySem.W.enter_call (codeAny_mono (spec_call (R:=[]) (cl:=classAt s_0.heap) (d0:=r.ret.enc (Codec.app r.args r.f a)) KX G.T.g G.T.b G.T.builtins G.T.nolimit hg hwl (pl_encAll _ _) (layable_weight hlay) hr hF hb (by rw[encAll_len];exact hlen)
  (fun H xs hO hS=>hsp w H xs a hO hwi e2 hS) fun H e s'=>hCX w H s₁ e s') fun r' s' hq=>?_)
 obtain⟨u,as',rfl,h1,h2,h3,h4⟩:=hq
 exact⟨.inl ⟨u,_,as',rfl,fun _=>rfl,h1,(OpenSpec.post_iff hwell hwi _ _).mpr rfl,fun z=>Bool.noConfusion (show false=true from z)⟩,h2,h3,h4⟩
theorem walk_specK {r:OpenSpec} {k:Nat} {q:Program} {loose:List Str} {XP:(Str→Option Value)→Heap→Prop} {YP:World→Heap→Prop} {d:DefRec} {K:Params→PySem.W.Frag} {CX:CXT} {ps:List Str} {sp:PySem.W.Frag→Sp}
  (hwell:r.wellSaid=true) (hdf:d.params.defaults=[]) (hlen:r.args.length=ps.length) (hr:Room k callerA)
  (hY:∀(w:World) (h:Heap),YP w h→(K w.params).In h)
  (F:∀(w:World) (mg:Str→Option Value) (fa:Addr) (h:Heap),YP w h→(K w.params).In h→h.Ns mainGlobals mg→mg d.name=some (.ref fa) →
   ∃fd:FuncData,(∀(s:Shared) (us:List Value),us.length=ps.length→BindsTo s fd ⟨us,[]⟩ (ps.zip us)) ∧
    ∀base:Heap,(K w.params).In base→base.Ns mainGlobals mg→FnOk r.prog w (K w.params) mg base CX k fa fd ps (sp (K w.params)))
  (hsp:∀(K:PySem.W.Frag) (H:Hp) (xs:List V) (a:Codec.denoteAll r.args),OnlyF H→Codec.withinAll r.args a=true→Codec.app r.args r.asked a=true→DwAll K H xs (Codec.encAll r.args a) →
   sp K xs H (fun v H'=>Dw K H' v (r.ret.enc (Codec.app r.args r.f a))) fun _ _ _=>False)
  (hCX:∀(H:Hp) (s:Shared) (e:Value) (s':Shared),CX [] H s (fun _ _ _=>False) e s'→False) :
  PySem.W.WalkOS q loose XP YP r d [] (fun f vs=>PySem.call f vs) :=
 walk_spec (K:=K) (CX:=fun _=>CX) (sp:=fun w=>sp (K w.params)) hwell hdf hlen hr hY F (fun w H xs a h1 h2 h3 h4=>hsp (K w.params) H xs a h1 h2 h3 h4) fun _ H s e s'=>hCX H s e s'
end L2
end
namespace L2
open PySem PySem.Spec PyProof.Rows
section
variable {X : Cx}
def rBits:V→List V→Hp→VK→Prop:=fun x xs H Q=>∃i:Int,x=.int i∧xs=[]∧Q (.int (Builtin.Int.intBits i:Nat)) H
theorem mt_bitlen:MtR X "int.bit_length" rBits:=by
 intro pins s σ H x xs v us Q I rx rs h
 obtain⟨i,rfl,rfl,h⟩:=h
 obtain⟨t,rfl⟩:=rx
 cases rs
 exact PyProof.Rows.call_int_bit_length ⟨.int _,H,I.tok _,⟨_,rfl⟩,h⟩
theorem truth_ints {prog:Program} {w:World} {A:Around} {ns:List Int} {its:List Value} (e:PyProof.Rows.IntsAre its ns) :
  TruthOf prog w A (fun i v=>its.toArray[i]?=some v) (fun i=>(ns.map fun z=>z !=0).getD i false):=fun i v s Q E hv hq=>by
 have hv':its[i]?=some v:=by simpa using hv
 obtain⟨t,rfl⟩:=PyProof.Rows.IntsAre.int_at e i v hv'
 have hi:i<ns.length:=by rw[←e.length];exact (List.getElem?_eq_some_iff.mp hv').1
 have hq':Q ((ns.map fun z=>z !=0).getD i false) s:=hq
 have hg:(ns.map fun z=>z !=0).getD i false=(ns.getD i 0 !=0):=by
  rw[List.getD_eq_getElem?_getD,List.getElem?_map,List.getD_eq_getElem?_getD,List.getElem?_eq_getElem hi]
  rfl
 rw[hg] at hq'
 exact PyProof.Rows.truthy_int hq'
def rAnyI (K:PySem.W.Frag):List V→Hp→VK→Prop:=fun vs H Q=>∃(a:Addr) (ns:List Int),vs=[V.ref a]∧SqL K H a (ns.map V.int)∧Q (.bl (ns.any fun z=>z !=0)) H
theorem cr_anyI (hc:X.calm=true):CallR X (.builtin "any") (rAnyI X.K):=by
 intro pins s σ H vs us Q I r h
 obtain⟨a,ns,rfl,hs,q⟩:=h
 obtain⟨its,rv,hl,_⟩:=I.list hs
 rw[Vals.ref1 r]
 have hi:=rv.ints
 refine call_any_walk (iter_any hl.isList fun s₂ e2 st hne=>?_)
 subst e2
 refine⟨_,_,_,_,_,_,_,rfl,Walks.list (A:=X.A.in1) (I.ok.hd hc) _ a hne its.toArray,st,truth_ints hi,fun h' tk hk=>?_⟩
 refine⟨.bl _,H,I.kept fun b o eo=>hk b o (fun hmem=>?_) (Heap.get?_push_of_some _ eo),?_,q⟩
 ·rcases List.mem_cons.mp hmem with e1|hmem
  ·exact absurd (e1 ▸ Heap.lt_size eo) (Nat.lt_irrefl _)
  ·cases hmem
 ·show Value.bool _=Value.bool _
  have h1:=any_range (ns.map fun z=>z !=0)
  rw[List.length_map] at h1
  rw[List.size_toArray,hi.length,h1,List.any_map]
  rfl
def rRange1:List V→Hp→VK→Prop:=fun vs H Q=>∃j:Int,vs=[.int j]∧∀p,H p=none→Q (.ref p) (upd H p (.rng 0 j))
theorem call_rangeR:CallR X (.type "range") rRange1:=by
 intro pins s σ H vs us Q I r h
 obtain⟨j,rfl,q⟩:=h
 obtain⟨u,rfl,ru⟩:=vals1 r
 obtain⟨t,rfl⟩:=ru
 refine call_range_1 ⟨.ref s.heap.objs.size,upd H s.heap.objs.size (.rng 0 j),?_,rfl,q _ (I.hok.fresh (Nat.le_refl _))⟩
 exact I.laid (fun b u e=>Heap.get?_push_of_some _ e) (Nat.le_refl _) ⟨_,_,_,Heap.get?_push_size _ rfl⟩
def rListRange:List V→Hp→VK→Prop:=fun vs H Q=>∃(p:Addr) (j:Int),vs=[.ref p]∧H p=some (.rng 0 j)∧0≤j∧j≤1000∧∀l,H l=none→Q (.ref l) (upd H l (.lst ((List.range j.toNat).map fun (i:Nat)=>V.int i)))
theorem call_listRange (hc:X.calm=true):CallR X (.type "list") rListRange:=by
 intro pins s σ H vs us Q I r h
 obtain⟨p,j,rfl,hp,h0,h1,q⟩:=h
 obtain⟨u,rfl,ru⟩:=vals1 r
 cases ru
 obtain⟨t,u,v,e⟩:=I.hok p _ hp
 have hn:Builtin.Range.rangeSize 0 j 1=((j.toNat:Nat):Int):=by rw[rangeSize_one];split<;>omega
 refine call_list_range (n:=j.toNat) (I.ok.hd hc) e (small_one (by omega) (by omega) (by omega) (by omega)) hn (by omega) fun h' tk acc' c' hk hS' hacc=>?_
 have hlen:((List.range j.toNat).map fun (i:Nat)=>V.int i).length≤sizeLine:=by rw[List.length_map,List.length_range];exact Nat.le_trans (by omega:j.toNat≤1000) (by decide)
 refine⟨.ref s.heap.objs.size,_,I.laid (t':=tk) hk (Nat.le_refl _) (show ObjOk X.prog X.w _ h' _ (.lst ((List.range j.toNat).map fun (i:Nat)=>V.int i)) from⟨hlen,acc'.toList,c',?_,by simpa using hS'⟩),rfl,q _ (I.hok.fresh (Nat.le_refl _))⟩
 obtain⟨hsz,hit⟩:=hacc
 have key:∀(k:Nat) (vs:List Value) (o:Nat),vs.length=k→(∀i v,vs[i]?=some v→∃t,v=Value.int ((o+i:Nat):Int) t)→Vals ((List.range' o k).map fun (i:Nat)=>V.int i) vs:=by
  intro k
  induction k with
  |zero=>intro vs o hl _;rw[List.length_eq_zero_iff.mp hl];exact .nil
  |succ k ih =>
   intro vs o hl hv
   match vs,hl with
   |v::vs,hl =>
    rw[List.range'_succ,List.map_cons]
    refine .cons ?_ (ih vs (o+1) (by simpa using hl) fun i w hw=>?_)
    ·obtain⟨t,e⟩:=hv 0 v rfl
     exact⟨t,by simpa using e⟩
    ·obtain⟨t,e⟩:=hv (i+1) w (by simpa using hw)
     exact⟨t,by rw[e];congr 2;omega⟩
 have:=key j.toNat acc'.toList 0 (by rw[Array.length_toList,hsz]) fun i v hv=>by
  obtain⟨t,e⟩:=hit i v (by simpa using hv)
  exact⟨t,by rw[e];congr 1;omega⟩
 rw[←List.range_eq_range'] at this
 exact this
end
end L2
namespace BM
open BindNs
theorem mem_things {s i:Nat}:i∈things s↔i<8∧s.testBit i=true:=by
 unfold things THINGS
 rw[List.mem_filter,List.mem_range]
theorem testBit_big {s i:Nat} (hs:s<256) (hi:8≤i):s.testBit i=false :=
 Nat.testBit_lt_two_pow (Nat.lt_of_lt_of_le hs (show 2^8≤2^i from Nat.pow_le_pow_right (by decide) hi))
theorem ext8 {a b:Nat} (ha:a<256) (hb:b<256) (h:∀i,i<8→a.testBit i=b.testBit i):a=b:=by
 refine Nat.eq_of_testBit_eq fun i=>?_
 by_cases hi:i<8
 ·exact h i hi
 ·rw[testBit_big ha (by omega),testBit_big hb (by omega)]
theorem pow_le_256 {n:Nat} (hn:n≤8):2^n≤256:=show 2^n≤2^8 from Nat.pow_le_pow_right (by decide) hn
theorem lt256 {a n:Nat} (hn:n≤8) (ha:a<2^n):a<256:=Nat.lt_of_lt_of_le ha (pow_le_256 hn)
theorem bit_out {a n i:Nat} (ha:a<2^n) (hi:n≤i):a.testBit i=false :=
 Nat.testBit_lt_two_pow (Nat.lt_of_lt_of_le ha (Nat.pow_le_pow_right (by decide) hi))
theorem bit_in {a n i:Nat} (ha:a<2^n) (hi:a.testBit i=true):i<n:=by
 refine Nat.lt_of_not_le fun h=>?_
 rw[bit_out ha h] at hi
 cases hi
theorem and_lt {a b n:Nat} (ha:a<2^n):a&&&b<2^n:=Nat.lt_of_le_of_lt Nat.and_le_left ha
theorem and_lt' {a b n:Nat} (hb:b<2^n):a&&&b<2^n:=Nat.lt_of_le_of_lt Nat.and_le_right hb
theorem one_lt {i n:Nat} (h:i<n):2^i<2^n:=Nat.pow_lt_pow_right (by decide) h
theorem tb_pow (i j:Nat):(2^i).testBit j=decide (i=j):=by rw[Nat.testBit_two_pow]
theorem size_eq (s:Nat):size s=(List.range 8).countP s.testBit:=by
 unfold size things THINGS
 rw[List.countP_eq_length_filter]
theorem countP_add {α:Type} (p q:α→Bool):∀l:List α,l.countP (fun x=>p x||q x)+l.countP (fun x=>p x&&q x)=l.countP p+l.countP q
 |[]=>rfl
 |x::l=>by
  have ih:=countP_add p q l
  simp only [List.countP_cons]
  cases p x<;>cases q x<;>simp<;>omega
theorem countP_eq_of_sub {α:Type} {p q:α→Bool}:∀{l:List α},(∀x∈l,p x=true→q x=true)→l.countP q≤l.countP p→∀x∈l,p x=q x
 |[],_,_,x,hx=>by cases hx
 |y::l,h,e,x,hx=>by
  have hle:l.countP p≤l.countP q:=List.countP_mono_left fun z hz=>h z (List.mem_cons_of_mem _ hz)
  simp only [List.countP_cons] at e
  have hy:=h y (List.mem_cons_self)
  have e1:p y=q y:=by
   cases hp:p y<;>cases hq:q y<;>simp [hp,hq] at hy e ⊢
   omega
  rcases List.mem_cons.mp hx with rfl|hx
  ·exact e1
  ·exact countP_eq_of_sub (fun z hz=>h z (List.mem_cons_of_mem _ hz)) (by rw[e1] at e;omega) x hx
theorem size_or_and (a b:Nat):size (a|||b)+size (a&&&b)=size a+size b:=by
 have h:=countP_add a.testBit b.testBit (List.range 8)
 have e1:(a|||b).testBit=fun i=>a.testBit i||b.testBit i:=funext fun i=>Nat.testBit_or ..
 have e2:(a&&&b).testBit=fun i=>a.testBit i&&b.testBit i:=funext fun i=>Nat.testBit_and ..
 rw[size_eq,size_eq,size_eq,size_eq,e1,e2]
 exact h
theorem size_mono {a b:Nat} (h:∀i,i<8→a.testBit i=true→b.testBit i=true):size a≤size b:=by
 rw[size_eq,size_eq]
 exact List.countP_mono_left fun i hi=>h i (List.mem_range.mp hi)
theorem size_and_le_left (a b:Nat):size (a&&&b)≤size a:=size_mono fun i _ h=>by
 rw[Nat.testBit_and,Bool.and_eq_true] at h;exact h.1
theorem size_and_le_right (a b:Nat):size (a&&&b)≤size b:=size_mono fun i _ h=>by
 rw[Nat.testBit_and,Bool.and_eq_true] at h;exact h.2
theorem eq_of_sub_size {a b:Nat} (ha:a<256) (hb:b<256) (h:∀i,i<8→a.testBit i=true→b.testBit i=true) (e:size b≤size a):a=b:=by
 rw[size_eq,size_eq] at e
 exact ext8 ha hb fun i hi=>countP_eq_of_sub (fun j hj=>h j (List.mem_range.mp hj)) e i (List.mem_range.mpr hi)
theorem and_eq_iff_size {b s:Nat} (hs:s<256):b&&&s=s↔size (b&&&s)=size s:=by
 constructor
 ·intro h;rw[h]
 ·intro h
  refine eq_of_sub_size (and_lt' (n:=8) hs) hs (fun i _ hi=>?_) (Nat.le_of_eq h.symm)
  rw[Nat.testBit_and,Bool.and_eq_true] at hi
  exact hi.2
theorem size_le_8 (s:Nat):size s≤8:=by
 rw[size_eq]
 exact Nat.le_trans List.countP_le_length (by simp)
theorem size_zero:size 0=0:=by decide +kernel
theorem setOf_fold (l:List Nat):∀(k a:Nat),a<2^k→∀m,(((List.range' k m).foldl (fun (a i:Nat)=>if l.contains i=true then a+2^i else a) a)<2^(k+m)) ∧
  ∀i,((List.range' k m).foldl (fun (a i:Nat)=>if l.contains i=true then a+2^i else a) a).testBit i=if i<k then a.testBit i else (decide (i<k+m)&&l.contains i)
 |k,a,ha,0=>by
  refine⟨ha,fun i=>?_⟩
  show a.testBit i=_
  by_cases hi:i<k
  ·rw[if_pos hi]
  ·rw[if_neg hi,bit_out ha (by omega)]
   simp;omega
 |k,a,ha,m+1=>by
  rw[List.range'_succ,List.foldl_cons]
  have hp:2^(k+1)=2^k+2^k:=by rw[Nat.pow_succ];omega
  have key:(if l.contains k=true then a+2^k else a)<2^(k+1):=by split<;>omega
  obtain⟨h1,h2⟩:=setOf_fold l (k+1) (if l.contains k=true then a+2^k else a) key m
  refine⟨by rw[show k+(m+1)=k+1+m by omega];exact h1,fun i=>?_⟩
  rw[h2 i]
  by_cases hik:i<k
  ·rw[if_pos (by omega),if_pos hik]
   split
   ·rw[Nat.add_comm,Nat.testBit_two_pow_add_gt hik]
   ·rfl
  ·rw[if_neg hik]
   by_cases e:i=k
   ·subst e
    rw[if_pos (by omega)]
    have hai:=bit_out ha (Nat.le_refl i)
    by_cases hc:l.contains i=true
    ·rw[if_pos hc,Nat.add_comm,Nat.testBit_two_pow_add_eq,hai,hc];simp
    ·rw[if_neg hc,hai,Bool.eq_false_iff.mpr hc,Bool.and_false]
   ·rw[if_neg (by omega),show k+1+m=k+(m+1) by omega]
theorem testBit_setOf (l:List Nat) (i:Nat):(setOf l).testBit i=(decide (i<8)&&l.contains i):=by
 unfold setOf THINGS
 rw[List.range_eq_range']
 have:=(setOf_fold l 0 0 (by decide) 8).2 i
 rw[this,if_neg (by omega),Nat.zero_add]
theorem setOf_lt (l:List Nat):setOf l<256:=by
 unfold setOf THINGS
 rw[List.range_eq_range']
 exact (setOf_fold l 0 0 (by decide) 8).1
theorem testBit_less (a b i:Nat):(less a b).testBit i=(decide (i<8)&&(a.testBit i&&!b.testBit i)):=by
 unfold less
 rw[testBit_setOf]
 by_cases hi:i<8
 ·rw[decide_eq_true hi,Bool.true_and,Bool.true_and,Bool.eq_iff_iff,List.contains_iff_mem,List.mem_filter,mem_things,Bool.and_eq_true]
  exact⟨fun h=>⟨h.1.2,h.2⟩,fun h=>⟨⟨hi,h.1⟩,h.2⟩⟩
 ·rw[decide_eq_false hi];rfl
theorem less_lt (a b:Nat):less a b<256:=setOf_lt _
theorem mem_things_less {a b i:Nat}:i∈things (less a b)↔i<8∧a.testBit i=true∧b.testBit i=false:=by
 rw[mem_things,testBit_less]
 constructor
 ·rintro⟨h,e⟩
  rw[decide_eq_true h,Bool.true_and,Bool.and_eq_true,Bool.not_eq_true'] at e
  exact⟨h,e⟩
 ·rintro⟨h,e1,e2⟩
  exact⟨h,by rw[decide_eq_true h,e1,e2];rfl⟩
theorem or_add:∀(n a b:Nat),a<n→a&&&b=0→a|||b=a+b
 |0,a,b,h,_=>by omega
 |n+1,a,b,h,e=>by
  by_cases ha:a=0
  ·subst ha;simp
  ·have e2:a / 2&&&b / 2=0:=Nat.eq_of_testBit_eq fun i=>by
    have:=congrArg (fun z=>z.testBit (i+1)) e
    simp only [Nat.testBit_and,Nat.zero_testBit] at this
    rw[Nat.testBit_and,Nat.testBit_div_two,Nat.testBit_div_two,Nat.zero_testBit]
    exact this
   have ih:=or_add n (a / 2) (b / 2) (by omega) e2
   have e3:(a|||b) / 2=a / 2|||b / 2:=Nat.eq_of_testBit_eq fun i=>by
    rw[Nat.testBit_or,Nat.testBit_div_two,Nat.testBit_div_two,Nat.testBit_div_two,Nat.testBit_or]
   have e0:=congrArg (fun z=>z.testBit 0) e
   simp only [Nat.testBit_and,Nat.zero_testBit] at e0
   have o0:(a|||b).testBit 0=(a.testBit 0||b.testBit 0):=Nat.testBit_or ..
   rw[Nat.testBit_zero,Nat.testBit_zero] at e0
   rw[Nat.testBit_zero,Nat.testBit_zero,Nat.testBit_zero] at o0
   have o1:(a|||b)%2=1↔(a%2=1∨b%2=1):=by simpa using o0
   have o2:¬(a%2=1∧b%2=1):=by
    intro⟨p,q⟩
    rw[decide_eq_true p,decide_eq_true q] at e0
    cases e0
   have e4:(a|||b) / 2=a / 2+b / 2:=e3.trans ih
   omega
theorem sub_pow_eq_xor {s i:Nat} (h:s.testBit i=true):s-2^i=s^^^2^i:=by
 have h1:(s^^^2^i)+2^i=s:=by
  have hd:(s^^^2^i)&&&2^i=0:=by
   refine Nat.eq_of_testBit_eq fun j=>?_
   rw[Nat.testBit_and,Nat.testBit_xor,tb_pow,Nat.zero_testBit]
   by_cases e:i=j
   ·subst e;rw[h];simp
   ·simp [e]
  rw[←or_add _ _ _ (Nat.lt_succ_self _) hd]
  refine Nat.eq_of_testBit_eq fun j=>?_
  rw[Nat.testBit_or,Nat.testBit_xor,tb_pow]
  by_cases e:i=j
  ·subst e;rw[h];simp
  ·simp [e]
 omega
theorem testBit_sub {s i:Nat} (h:s.testBit i=true) (j:Nat):(s-2^i).testBit j=(s.testBit j&&!decide (i=j)):=by
 rw[sub_pow_eq_xor h,Nat.testBit_xor,tb_pow]
 by_cases e:i=j
 ·subst e;rw[h];simp
 ·simp [e]
theorem add_pow_eq_or {s i:Nat} (h:s.testBit i=false):s+2^i=s|||2^i:=by
 have hd:s&&&2^i=0:=by
  refine Nat.eq_of_testBit_eq fun j=>?_
  rw[Nat.testBit_and,tb_pow,Nat.zero_testBit]
  by_cases e:i=j
  ·subst e;rw[h];simp
  ·simp [e]
 rw[or_add _ _ _ (Nat.lt_succ_self _) hd]
theorem testBit_add {s i:Nat} (h:s.testBit i=false) (j:Nat):(s+2^i).testBit j=(s.testBit j||decide (i=j)):=by
 rw[add_pow_eq_or h,Nat.testBit_or,tb_pow]
abbrev Z (p:Nat) (z:Int):Prop:=(p:Int) ∣ z
def Pr (p:Nat):Prop:=p=0∨p=2∨p=3∨p=5∨p=7
theorem dom_aux (p:Nat) (hp:0<p) (h:∀x,x<p→∀y,y<p→(x*y)%p=0→x=0∨y=0) {a b:Int} (hab:Z p (a*b)):Z p a∨Z p b:=by
 have hp':(0:Int)<(p:Int):=by omega
 have ea:=Int.emod_nonneg a (show (p:Int)≠0 by omega)
 have eb:=Int.emod_nonneg b (show (p:Int)≠0 by omega)
 have la:=Int.emod_lt_of_pos a hp'
 have lb:=Int.emod_lt_of_pos b hp'
 have hm:(a*b)%(p:Int)=0:=Int.emod_eq_zero_of_dvd hab
 rw[Int.mul_emod] at hm
 obtain⟨x,hx⟩:=Int.eq_ofNat_of_zero_le ea
 obtain⟨y,hy⟩:=Int.eq_ofNat_of_zero_le eb
 rw[hx,hy] at hm
 have hm':(x*y)%p=0:=by exact_mod_cast hm
 rcases h x (by omega) y (by omega) hm' with e|e
 ·left;exact Int.dvd_of_emod_eq_zero (by rw[hx,e];rfl)
 ·right;exact Int.dvd_of_emod_eq_zero (by rw[hy,e];rfl)
theorem dom {p:Nat} (hp:Pr p) {a b:Int} (h:Z p (a*b)):Z p a∨Z p b:=by
 rcases hp with rfl|rfl|rfl|rfl|rfl
 ·have h0:a*b=0:=Int.zero_dvd.mp h
  rcases Int.mul_eq_zero.mp h0 with e|e
  ·exact .inl (e ▸ Int.dvd_refl _)
  ·exact .inr (e ▸ Int.dvd_refl _)
 all_goals exact dom_aux _ (by decide) (by decide) h
theorem Z_one {p:Nat} (hp:Pr p):¬Z p 1:=by
 rcases hp with rfl|rfl|rfl|rfl|rfl<;>decide
theorem Z.add {p:Nat} {a b:Int} (h:Z p a) (h':Z p b):Z p (a+b):=Int.dvd_add h h'
theorem Z.sub {p:Nat} {a b:Int} (h:Z p a) (h':Z p b):Z p (a-b):=Int.dvd_sub h h'
theorem Z.mull {p:Nat} {a:Int} (b:Int) (h:Z p a):Z p (b*a):=Int.dvd_mul_of_dvd_right h
theorem Z.mulr {p:Nat} {a:Int} (b:Int) (h:Z p a):Z p (a*b):=Int.dvd_mul_of_dvd_left h
theorem Z.zero {p:Nat}:Z p 0:=Int.dvd_zero _
def comb:List Int→List (List Int)→Nat→Int
 |c::cs,r::rs,i=>c*r.getD i 0+comb cs rs i
 |_,_,_=>0
def Dep (p n:Nat) (rows:List (List Int)):Prop:=∃cs:List Int,cs.length=rows.length∧(∃c,c∈cs∧¬Z p c)∧∀i,i<n→Z p (comb cs rows i)
theorem comb_perm {l l':List (List Int)} (h:l.Perm l'):∀cs:List Int,cs.length=l.length→∃cs':List Int,cs'.length=l'.length∧(∀i,comb cs l i=comb cs' l' i)∧∀c,c∈cs→c∈cs':=by
 induction h with
 |nil=>intro cs h;exact⟨cs,h,fun _=>rfl,fun _ h=>h⟩
 |cons x _ ih =>
  intro cs hl
  match cs,hl with
  |c::cs,hl =>
   obtain⟨cs',h1,h2,h3⟩:=ih cs (by simpa using hl)
   refine⟨c::cs',by simp [h1],fun i=>?_,fun d hd=>?_⟩
   ·show _+_=_+_;rw[h2]
   ·rcases List.mem_cons.mp hd with rfl|hd
    ·exact List.mem_cons_self
    ·exact List.mem_cons_of_mem _ (h3 d hd)
 |swap x y l =>
  intro cs hl
  match cs,hl with
  |c::d::cs,hl =>
   refine⟨d::c::cs,by simpa using hl,fun i=>?_,fun e he=>?_⟩
   ·show _+(_+_)=_+(_+_);omega
   ·simp only [List.mem_cons] at he ⊢
    rcases he with h|h|h
    ·exact .inr (.inl h)
    ·exact .inl h
    ·exact .inr (.inr h)
 |trans _ _ ih1 ih2 =>
  intro cs hl
  obtain⟨c1,a1,a2,a3⟩:=ih1 cs hl
  obtain⟨c2,b1,b2,b3⟩:=ih2 c1 a1
  exact⟨c2,b1,fun i=>(a2 i).trans (b2 i),fun c hc=>b3 c (a3 c hc)⟩
theorem Dep.perm {p n:Nat} {l l':List (List Int)} (h:l.Perm l'):Dep p n l→Dep p n l':=fun⟨cs,h1,⟨c,hc,hz⟩,h3⟩=>by
 obtain⟨cs',a1,a2,a3⟩:=comb_perm h cs h1
 exact⟨cs',a1,⟨c,a3 c hc,hz⟩,fun i hi=>by rw[←a2];exact h3 i hi⟩
theorem dep_perm {p n:Nat} {l l':List (List Int)} (h:l.Perm l'):Dep p n l↔Dep p n l':=⟨Dep.perm h,Dep.perm h.symm⟩
theorem comb_smul (x:Int):∀(cs:List Int) (l:List (List Int)) (i:Nat),comb (cs.map (x*·)) l i=x*comb cs l i
 |[],l,i=>by cases l<;>simp [comb]
 |c::cs,[],i=>by simp [comb]
 |c::cs,r::l,i=>by
  show x*c*_+comb (cs.map (x*·)) l i=x*(c*_+comb cs l i)
  rw[comb_smul x cs l i,Int.mul_add,Int.mul_assoc]
theorem comb_congr {p:Nat}:∀(cs:List Int) (l l':List (List Int)) (i:Nat),l.length=l'.length→(∀j,Z p ((l.getD j []).getD i 0-(l'.getD j []).getD i 0))→Z p (comb cs l i-comb cs l' i)
 |[],l,l',i,_,_=>by cases l<;>cases l'<;>exact Z.zero
 |c::cs,[],[],i,_,_=>Z.zero
 |c::cs,r::l,r'::l',i,hl,h=>by
  have ih:=comb_congr cs l l' i (by simpa using hl) fun j=>by simpa using h (j+1)
  have h0:=h 0
  simp only [List.getD_cons_zero] at h0
  show Z p (c*r.getD i 0+comb cs l i-(c*r'.getD i 0+comb cs l' i))
  have e:c*r.getD i 0+comb cs l i-(c*r'.getD i 0+comb cs l' i)=c*(r.getD i 0-r'.getD i 0)+(comb cs l i-comb cs l' i):=by
   rw[Int.mul_sub];omega
  rw[e]
  exact Z.add (Z.mull c h0) ih
theorem dep_congr {p n:Nat} {l l':List (List Int)} (hl:l.length=l'.length) (h:∀j i,i<n→Z p ((l.getD j []).getD i 0-(l'.getD j []).getD i 0)):Dep p n l↔Dep p n l':=by
 constructor
 ·rintro⟨cs,h1,h2,h3⟩
  refine⟨cs,h1.trans hl,h2,fun i hi=>?_⟩
  have a:=comb_congr (p:=p) cs l l' i hl fun j=>h j i hi
  have b:=Z.sub (h3 i hi) a
  have e:comb cs l i-(comb cs l i-comb cs l' i)=comb cs l' i:=by omega
  rwa [e] at b
 ·rintro⟨cs,h1,h2,h3⟩
  refine⟨cs,h1.trans hl.symm,h2,fun i hi=>?_⟩
  have a:=comb_congr (p:=p) cs l l' i hl fun j=>h j i hi
  have b:=Z.add (h3 i hi) a
  have e:comb cs l' i+(comb cs l i-comb cs l' i)=comb cs l i:=by omega
  rwa [e] at b
def mix (n:Nat) (x y:Int) (r q:List Int):List Int:=(List.range n).map fun i=>x*r.getD i 0-y*q.getD i 0
theorem getD_mix {n i:Nat} (hi:i<n) (x y:Int) (r q:List Int):(mix n x y r q).getD i 0=x*r.getD i 0-y*q.getD i 0:=by
 unfold mix
 rw[List.getD_eq_getElem?_getD,List.getElem?_map,List.getElem?_range hi]
 rfl
theorem dep_mix {p n:Nat} (hp:Pr p) {x:Int} (y:Int) (hx:¬Z p x) (q r:List Int) (o:List (List Int)):Dep p n (q::r::o)↔Dep p n (q::mix n x y r q::o):=by
 constructor
 ·rintro⟨cs,h1,⟨d,hd,hz⟩,h3⟩
  match cs,h1 with
  |a::b::cs,h1 =>
   refine⟨(x*a+y*b)::b::cs.map (x*·),by simpa using h1,?_,fun i hi=>?_⟩
   ·by_cases hb:Z p b
    ·rcases List.mem_cons.mp hd with rfl|hd
     ·refine⟨_,List.mem_cons_self,fun h=>?_⟩
      have:Z p (x*d):=by
       have:=Z.sub h (Z.mull y hb)
       have e:x*d+y*b-y*b=x*d:=by omega
       rwa [e] at this
      rcases dom hp this with h|h
      ·exact hx h
      ·exact hz h
     ·rcases List.mem_cons.mp hd with rfl|hd
      ·exact absurd hb hz
      ·refine⟨x*d,List.mem_cons_of_mem _ (List.mem_cons_of_mem _ (List.mem_map.mpr ⟨d,hd,rfl⟩)),fun h=>?_⟩
       rcases dom hp h with h|h
       ·exact hx h
       ·exact hz h
    ·exact⟨b,List.mem_cons_of_mem _ List.mem_cons_self,hb⟩
   ·have h:=h3 i hi
    show Z p ((x*a+y*b)*q.getD i 0+(b*(mix n x y r q).getD i 0+comb (cs.map (x*·)) o i))
    rw[comb_smul,getD_mix hi]
    have e:(x*a+y*b)*q.getD i 0+(b*(x*r.getD i 0-y*q.getD i 0)+x*comb cs o i)=x*(a*q.getD i 0+(b*r.getD i 0+comb cs o i)):=by
     generalize q.getD i 0=Q;generalize r.getD i 0=R;generalize comb cs o i=C
     simp only [Int.add_mul,Int.mul_add,Int.mul_sub,Int.mul_assoc]
     have e1:y*(b*Q)=b*(y*Q):=by rw[←Int.mul_assoc,Int.mul_comm y b,Int.mul_assoc]
     have e2:x*(b*R)=b*(x*R):=by rw[←Int.mul_assoc,Int.mul_comm x b,Int.mul_assoc]
     omega
    rw[e]
    exact Z.mull x h
 ·rintro⟨cs,h1,⟨d,hd,hz⟩,h3⟩
  match cs,h1 with
  |a::b::cs,h1 =>
   refine⟨(a-y*b)::(x*b)::cs,by simpa using h1,?_,fun i hi=>?_⟩
   ·by_cases hb:Z p b
    ·rcases List.mem_cons.mp hd with rfl|hd
     ·refine⟨_,List.mem_cons_self,fun h=>hz ?_⟩
      have:=Z.add h (Z.mull y hb)
      have e:d-y*b+y*b=d:=by omega
      rwa [e] at this
     ·rcases List.mem_cons.mp hd with rfl|hd
      ·exact absurd hb hz
      ·exact⟨d,List.mem_cons_of_mem _ (List.mem_cons_of_mem _ hd),hz⟩
    ·refine⟨x*b,List.mem_cons_of_mem _ List.mem_cons_self,fun h=>?_⟩
     rcases dom hp h with h|h
     ·exact hx h
     ·exact hb h
   ·have h:=h3 i hi
    have h:Z p (a*q.getD i 0+(b*(mix n x y r q).getD i 0+comb cs o i)):=h
    rw[getD_mix hi] at h
    show Z p ((a-y*b)*q.getD i 0+(x*b*r.getD i 0+comb cs o i))
    have e:(a-y*b)*q.getD i 0+(x*b*r.getD i 0+comb cs o i)=a*q.getD i 0+(b*(x*r.getD i 0-y*q.getD i 0)+comb cs o i):=by
     generalize q.getD i 0=Q;generalize r.getD i 0=R;generalize comb cs o i=C
     simp only [Int.sub_mul,Int.mul_sub,Int.mul_assoc]
     have e1:y*(b*Q)=b*(y*Q):=by rw[←Int.mul_assoc,Int.mul_comm y b,Int.mul_assoc]
     have e2:x*(b*R)=b*(x*R):=by rw[←Int.mul_assoc,Int.mul_comm x b,Int.mul_assoc]
     omega
    rw[e]
    exact h
theorem comb_zero_col:∀(cs:List Int) (l:List (List Int)) (k:Nat),(∀r,r∈l→r.getD k 0=0)→comb cs l k=0
 |[],l,k,_=>by cases l<;>rfl
 |c::cs,[],k,_=>rfl
 |c::cs,r::l,k,h=>by
  show c*r.getD k 0+comb cs l k=0
  rw[h r List.mem_cons_self,comb_zero_col cs l k fun r hr=>h r (List.mem_cons_of_mem _ hr)]
  omega
theorem dep_alone {p n k:Nat} (hp:Pr p) (hk:k<n) {q:List Int} {o:List (List Int)} (hq:¬Z p (q.getD k 0)) (ho:∀r,r∈o→r.getD k 0=0):Dep p n (q::o)↔Dep p n o:=by
 constructor
 ·rintro⟨cs,h1,⟨d,hd,hz⟩,h3⟩
  match cs,h1 with
  |a::cs,h1 =>
   have ha:Z p a:=by
    have h:Z p (a*q.getD k 0+comb cs o k):=h3 k hk
    rw[comb_zero_col cs o k ho,Int.add_zero] at h
    rcases dom hp h with h|h
    ·exact h
    ·exact absurd h hq
   refine⟨cs,by simpa using h1,?_,fun i hi=>?_⟩
   ·rcases List.mem_cons.mp hd with rfl|hd
    ·exact absurd ha hz
    ·exact⟨d,hd,hz⟩
   ·have h:Z p (a*q.getD i 0+comb cs o i):=h3 i hi
    have:=Z.sub h (Z.mulr (q.getD i 0) ha)
    have e:a*q.getD i 0+comb cs o i-a*q.getD i 0=comb cs o i:=by omega
    rwa [e] at this
 ·rintro⟨cs,h1,⟨d,hd,hz⟩,h3⟩
  refine⟨0::cs,by simpa using h1,⟨d,List.mem_cons_of_mem _ hd,hz⟩,fun i hi=>?_⟩
  show Z p (0*q.getD i 0+comb cs o i)
  rw[Int.zero_mul,Int.zero_add]
  exact h3 i hi
theorem dep_nil {p n:Nat}:¬Dep p n []:=by
 rintro⟨cs,h1,⟨d,hd,_⟩,_⟩
 have:cs=[]:=List.length_eq_zero_iff.mp (by simpa using h1)
 rw[this] at hd
 cases hd
theorem comb_replicate_zero:∀(l:List (List Int)) (m i:Nat),comb (List.replicate m 0) l i=0
 |[],m,i=>by cases m<;>rfl
 |r::l,0,i=>rfl
 |r::l,m+1,i=>by
  rw[List.replicate_succ]
  show 0*_+comb _ l i=0
  rw[comb_replicate_zero l m i];omega
theorem dep_zero_row {p n:Nat} (hp:Pr p) {r:List Int} {o:List (List Int)} (h:∀i,i<n→Z p (r.getD i 0)):Dep p n (r::o):=by
 refine⟨1::List.replicate o.length 0,by simp,⟨1,List.mem_cons_self,Z_one hp⟩,fun i hi=>?_⟩
 show Z p (1*r.getD i 0+comb _ o i)
 rw[comb_replicate_zero,Int.one_mul,Int.add_zero]
 exact h i hi
def RedR (p:Nat) (r:List Int):Prop:=∀i,Z p (r.getD i 0)→r.getD i 0=0
theorem lower_Z (p:Nat) (z:Int):Z p (lower p z-z):=by
 unfold lower
 by_cases h:p=0
 ·rw[if_pos h,Int.sub_self];exact Z.zero
 ·rw[if_neg h]
  refine⟨- (z / (p:Int)),?_⟩
  have:=Int.mul_ediv_add_emod z p
  rw[Int.mul_neg]
  omega
theorem lower_red {p:Nat} {z:Int} (h:Z p (lower p z)):lower p z=0:=by
 unfold lower at h ⊢
 by_cases hp:p=0
 ·subst hp
  rw[if_pos rfl] at h ⊢
  exact Int.zero_dvd.mp h
 ·rw[if_neg hp] at h ⊢
  have h1:=Int.emod_eq_zero_of_dvd h
  rwa [Int.emod_emod_of_dvd z (Int.dvd_refl _)] at h1
theorem lower_zero (p:Nat):lower p 0=0:=by
 unfold lower
 split
 ·rfl
 ·exact Int.zero_emod _
theorem getD_map_lower (p:Nat) (r:List Int) (i:Nat):(r.map (lower p)).getD i 0=lower p (r.getD i 0):=by
 rw[List.getD_eq_getElem?_getD,List.getElem?_map,List.getD_eq_getElem?_getD]
 cases r[i]? with
 |none=>exact (lower_zero p).symm
 |some z=>rfl
theorem redR_map (p:Nat) (r:List Int):RedR p (r.map (lower p)):=fun i h=>by
 rw[getD_map_lower] at h ⊢
 exact lower_red h
theorem RedR.drop {p:Nat} {r:List Int} (h:RedR p r):RedR p (r.drop 1):=fun i=>by
 have e:(r.drop 1).getD i 0=r.getD (i+1) 0:=by
  rw[List.getD_eq_getElem?_getD,List.getElem?_drop,List.getD_eq_getElem?_getD,Nat.add_comm 1 i]
 rw[e];exact h (i+1)
theorem comb_drop:∀(cs:List Int) (l:List (List Int)) (i:Nat),comb cs (l.map fun r=>r.drop 1) i=comb cs l (i+1)
 |[],l,i=>by cases l<;>rfl
 |c::cs,[],i=>rfl
 |c::cs,r::l,i=>by
  show c*(r.drop 1).getD i 0+comb cs (l.map fun r=>r.drop 1) i=c*r.getD (i+1) 0+comb cs l (i+1)
  rw[comb_drop cs l i,List.getD_eq_getElem?_getD,List.getElem?_drop,List.getD_eq_getElem?_getD,Nat.add_comm 1 i]
theorem dep_drop {p n:Nat} {l:List (List Int)} (h:∀r,r∈l→r.getD 0 0=0):Dep p (n+1) l↔Dep p n (l.map fun r=>r.drop 1):=by
 constructor
 ·rintro⟨cs,h1,h2,h3⟩
  exact⟨cs,by simpa using h1,h2,fun i hi=>by rw[comb_drop];exact h3 (i+1) (by omega)⟩
 ·rintro⟨cs,h1,h2,h3⟩
  refine⟨cs,by simpa using h1,h2,fun i hi=>?_⟩
  cases i with
  |zero=>rw[comb_zero_col cs l 0 h];exact Z.zero
  |succ i=>rw[←comb_drop];exact h3 i (by omega)
theorem dep_mix_all {p n:Nat} (hp:Pr p) {x:Int} (hx:¬Z p x) (q:List Int) (y:List Int→Int):∀(o d:List (List Int)),Dep p n (q::(d++o))↔Dep p n (q::(d++o.map fun r=>mix n x (y r) r q))
 |[],d=>Iff.rfl
 |r::o,d=>by
  have p1:(q::(d++r::o)).Perm (q::r::(d++o)):=(List.perm_middle).cons q
  have p2:(q::mix n x (y r) r q::(d++o)).Perm (q::((d++[mix n x (y r) r q])++o)):=by
   rw[List.append_assoc]
   exact (List.perm_middle.symm).cons q
  rw[dep_perm p1,dep_mix hp (y r) hx q r (d++o),dep_perm p2,dep_mix_all hp hx q y o (d++[mix n x (y r) r q]),List.append_assoc]
  rfl
theorem headD_getD (r:List Int):r.headD 0=r.getD 0 0:=by cases r<;>rfl
theorem perm_erase {α:Type}:∀{l:List α} {i:Nat} {x:α},l[i]?=some x→l.Perm (x::l.eraseIdx i)
 |[],i,x,h=>by simp at h
 |a::l,0,x,h=>by
  have e:a=x:=Option.some.inj h
  subst e
  exact List.Perm.refl _
 |a::l,i+1,x,h=>by
  have ih:=perm_erase (l:=l) (i:=i) (x:=x) h
  exact (ih.cons a).trans (List.Perm.swap x a _)
theorem getD_zip {n i:Nat} {f:Int→Int→Int} {r q:List Int} (hr:r.length=n) (hq:q.length=n) (hi:i<n):(List.zipWith f r q).getD i 0=f (r.getD i 0) (q.getD i 0):=by
 rw[List.getD_eq_getElem?_getD,List.getElem?_zipWith,List.getD_eq_getElem?_getD,List.getD_eq_getElem?_getD,List.getElem?_eq_getElem (by omega),List.getElem?_eq_getElem (by omega)]
 rfl
theorem clear_none {p:Nat} {l:List (List Int)} (h:clear p l=none):∀r,r∈l→r.getD 0 0=0:=by
 unfold clear at h
 split at h
 ·rename_i e
  intro r hr
  have:=List.findIdx?_eq_none_iff.mp e r hr
  rw[←headD_getD]
  simpa using this
 ·cases h
theorem clear_some {p n:Nat} (hp:Pr p) {l k:List (List Int)} (hl:∀r,r∈l→r.length=n+1) (hr:∀r,r∈l→RedR p r) (h:clear p l=some k) :
  k.length+1=l.length∧(∀r,r∈k→r.length=n)∧(∀r,r∈k→RedR p r)∧(Dep p (n+1) l↔Dep p n k):=by
 unfold clear at h
 split at h
 ·cases h
 ·rename_i i e
  obtain⟨hi,hq0,_⟩:=List.findIdx?_eq_some_iff_getElem.mp e
  have hget:l[i]?=some l[i]:=List.getElem?_eq_getElem hi
  have hgd:l.getD i []=l[i]:=by rw[List.getD_eq_getElem?_getD,hget];rfl
  rw[hgd] at h
  have hk:=(Option.some.inj h).symm
  generalize hqd:l[i]=q at hk hq0 hget
  have hqm:q∈l:=List.mem_of_getElem? hget
  have hq0':q.getD 0 0≠0:=by rw[←headD_getD];simpa using hq0
  have hqZ:¬Z p (q.getD 0 0):=fun z=>hq0' (hr q hqm 0 z)
  have hmem:∀r,r∈l.eraseIdx i→r∈l:=fun r h=>List.mem_of_mem_eraseIdx h
  have step:Dep p (n+1) l↔Dep p (n+1) ((l.eraseIdx i).map fun r=>mix (n+1) (q.getD 0 0) (r.getD 0 0) r q):=by
   rw[dep_perm (perm_erase hget)]
   have h1:=dep_mix_all (n:=n+1) hp hqZ q (fun r=>r.getD 0 0) (l.eraseIdx i) []
   rw[List.nil_append,List.nil_append] at h1
   rw[h1]
   refine dep_alone hp (Nat.succ_pos n) hqZ fun r hr'=>?_
   obtain⟨r0,_,rfl⟩:=List.mem_map.mp hr'
   rw[getD_mix (Nat.succ_pos n),Int.mul_comm,Int.sub_self]
  have cong:Dep p (n+1) ((l.eraseIdx i).map fun r=>mix (n+1) (q.getD 0 0) (r.getD 0 0) r q) ↔
    Dep p (n+1) ((l.eraseIdx i).map fun r=>List.zipWith (fun x y=>lower p (q.headD 0*x-r.headD 0*y)) r q):=by
   refine dep_congr (by simp) fun j i' hi'=>?_
   have gm:∀f:List Int→List Int,((l.eraseIdx i).map f).getD j []=(((l.eraseIdx i)[j]?).map f).getD []:=fun f=>by
    rw[List.getD_eq_getElem?_getD,List.getElem?_map]
   rw[gm,gm]
   cases hj:(l.eraseIdx i)[j]? with
   |none=>exact⟨0,by simp⟩
   |some r =>
    have hrl:=hl r (hmem r (List.mem_of_getElem? hj))
    show Z p ((mix (n+1) (q.getD 0 0) (r.getD 0 0) r q).getD i' 0-(List.zipWith (fun x y=>lower p (q.headD 0*x-r.headD 0*y)) r q).getD i' 0)
    rw[getD_mix hi',getD_zip hrl (hl q hqm) hi',headD_getD,headD_getD]
    have:=lower_Z p (q.getD 0 0*r.getD i' 0-r.getD 0 0*q.getD i' 0)
    obtain⟨c,hc⟩:=this
    exact⟨-c,by rw[Int.mul_neg,←hc];omega⟩
  have drp:=dep_drop (p:=p) (n:=n) (l:=(l.eraseIdx i).map fun r=>List.zipWith (fun x y=>lower p (q.headD 0*x-r.headD 0*y)) r q) fun r hr'=>by
   obtain⟨r0,hr0,rfl⟩:=List.mem_map.mp hr'
   rw[getD_zip (hl r0 (hmem r0 hr0)) (hl q hqm) (Nat.succ_pos n),headD_getD,headD_getD,Int.mul_comm,Int.sub_self]
   exact lower_zero p
  rw[List.map_map] at drp
  subst hk
  refine⟨?_,?_,?_,?_⟩
  ·rw[List.length_map,List.length_eraseIdx,if_pos hi];omega
  ·intro r hr'
   obtain⟨r0,hr0,rfl⟩:=List.mem_map.mp hr'
   rw[List.length_drop,List.length_zipWith,hl r0 (hmem r0 hr0),hl q hqm];omega
  ·intro r hr'
   obtain⟨r0,hr0,rfl⟩:=List.mem_map.mp hr'
   refine RedR.drop fun i'=>?_
   by_cases hi':i'<n+1
   ·rw[getD_zip (hl r0 (hmem r0 hr0)) (hl q hqm) hi'];exact lower_red
   ·rw[List.getD_eq_getElem?_getD,List.getElem?_eq_none (by rw[List.length_zipWith,hl r0 (hmem r0 hr0)];omega)]
    exact fun _=>rfl
  ·rw[step,cong,drp]
   rfl
theorem dep_none {p:Nat} (hp:Pr p):∀{l:List (List Int)},Dep p 0 l↔l≠[]
 |[]=>⟨fun h=>absurd h dep_nil,fun h=>absurd rfl h⟩
 |r::l=>⟨fun _ h=>(by cases h),fun _=>dep_zero_row hp fun i hi=>absurd hi (Nat.not_lt_zero i)⟩
theorem rowRank_dep {p:Nat} (hp:Pr p):∀(n:Nat) (l:List (List Int)),(∀r,r∈l→r.length=n)→(∀r,r∈l→RedR p r)→(rowRank p n l=l.length↔¬Dep p n l)
 |0,l,_,_=>by
  rw[dep_none hp]
  show 0=l.length↔¬l≠[]
  cases l<;>simp
 |n+1,l,hl,hr=>by
  show (match clear p l with|none=>rowRank p n (l.map fun r=>r.drop 1)|some k=>1+rowRank p n k)=l.length↔_
  cases h:clear p l with
  |none =>
   dsimp only
   rw[dep_drop (clear_none h)]
   have:=rowRank_dep hp n (l.map fun r=>r.drop 1) (fun r h=>by
    obtain⟨r0,hr0,rfl⟩:=List.mem_map.mp h
    rw[List.length_drop,hl r0 hr0];omega) (fun r h=>by
    obtain⟨r0,hr0,rfl⟩:=List.mem_map.mp h
    exact (hr r0 hr0).drop)
   rw[List.length_map] at this
   exact this
  |some k =>
   dsimp only
   obtain⟨h1,h2,h3,h4⟩:=clear_some hp hl hr h
   rw[h4,←rowRank_dep hp n k h2 h3]
   generalize rowRank p n k=R
   show Nat.add 1 R=l.length↔R=k.length
   have e:Nat.add 1 R=1+R:=rfl
   rw[e]
   omega
def piv (r:List Int):Nat:=r.findIdx (fun z=>z !=0)
def clr (p:Nat) (row e:List Int):List Int:=((List.range row.length).map fun i=>e.getD (piv e) 0*row.getD i 0-row.getD (piv e) 0*e.getD i 0).map (lower p)
def leftOf (p:Nat) (row:List Int) (kept:List (List Int)):List Int:=kept.foldl (clr p) row
def hang (p:Nat):List (List Int)→List (List Int)→Bool
 |_,[]=>false
 |kept,r::rs=>if (leftOf p r kept).any (fun z=>z !=0) then hang p (kept++[leftOf p r kept]) rs else true
theorem clr_length (p:Nat) (row e:List Int):(clr p row e).length=row.length:=by unfold clr;simp
theorem clr_red (p:Nat) (row e:List Int):RedR p (clr p row e):=redR_map p _
theorem clr_eq {p n:Nat} {row e:List Int} (h:row.length=n):clr p row e=(mix n (e.getD (piv e) 0) (row.getD (piv e) 0) row e).map (lower p):=by
 unfold clr mix
 rw[h]
theorem getD_clr {p n i:Nat} {row e:List Int} (h:row.length=n) (hi:i<n):(clr p row e).getD i 0=lower p (e.getD (piv e) 0*row.getD i 0-row.getD (piv e) 0*e.getD i 0):=by
 rw[clr_eq h,getD_map_lower,getD_mix hi]
structure KeptR (p n:Nat) (e:List Int):Prop where
 len:e.length=n
 red:RedR p e
 ne:e.getD (piv e) 0≠0
 lt:piv e<n
theorem keptR_of {p n:Nat} {e:List Int} (h1:e.length=n) (h2:RedR p e) (h3:e.any (fun z=>z !=0)=true):KeptR p n e:=by
 have hlt:piv e<e.length:=by
  unfold piv
  rw[List.findIdx_lt_length]
  exact List.any_eq_true.mp h3
 refine⟨h1,h2,?_,h1 ▸ hlt⟩
 have:(e[piv e]'hlt !=0)=true:=List.findIdx_getElem (p:=fun z=>z !=0) (w:=hlt)
 rw[List.getD_eq_getElem?_getD,List.getElem?_eq_getElem hlt]
 simpa using this
theorem KeptR.nz {p n:Nat} {e:List Int} (h:KeptR p n e):¬Z p (e.getD (piv e) 0):=fun z=>h.ne (h.red _ z)
def Tri (p n:Nat):List (List Int)→Prop
 |[]=>True
 |e::r=>KeptR p n e∧(∀f,f∈r→f.getD (piv e) 0=0)∧Tri p n r
theorem Tri.snoc {p n:Nat} {l:List Int} (hl:KeptR p n l):∀{kept:List (List Int)},Tri p n kept→(∀e,e∈kept→l.getD (piv e) 0=0)→Tri p n (kept++[l])
 |[],_,_=>⟨hl,fun f h=>(by cases h),trivial⟩
 |e::r,⟨h1,h2,h3⟩,hz=>⟨h1,fun f hf=>by
   rcases List.mem_append.mp hf with hf|hf
   ·exact h2 f hf
   ·rw[List.mem_singleton.mp hf];exact hz e List.mem_cons_self,Tri.snoc hl h3 fun e' he'=>hz e' (List.mem_cons_of_mem _ he')⟩
theorem Tri.free {p n:Nat} (hp:Pr p):∀{kept:List (List Int)},Tri p n kept→¬Dep p n kept
 |[],_=>dep_nil
 |e::r,⟨h1,h2,h3⟩=>by
  rw[dep_alone hp h1.lt h1.nz h2]
  exact Tri.free hp h3
theorem dep_clr {p n:Nat} (hp:Pr p) {row e:List Int} {o:List (List Int)} (he:KeptR p n e) (hr:row.length=n):Dep p n (e::row::o)↔Dep p n (e::clr p row e::o):=by
 rw[dep_mix hp (row.getD (piv e) 0) he.nz e row o]
 refine dep_congr rfl fun j i hi=>?_
 match j with
 |0=>exact⟨0,by simp⟩
 |1 =>
  show Z p ((mix n _ _ row e).getD i 0-(clr p row e).getD i 0)
  rw[getD_mix hi,getD_clr hr hi]
  obtain⟨c,hc⟩:=lower_Z p (e.getD (piv e) 0*row.getD i 0-row.getD (piv e) 0*e.getD i 0)
  exact⟨-c,by rw[Int.mul_neg,←hc];omega⟩
 |j+2=>exact⟨0,by simp⟩
theorem left_ok {p n:Nat} (hp:Pr p) (o:List (List Int)):∀(todo done:List (List Int)) (row:List Int),Tri p n todo→(∀e,e∈done→e.getD (piv e) 0≠0∧piv e<n∧row.getD (piv e) 0=0∧∀f,f∈todo→f.getD (piv e) 0=0)→row.length=n →
  (Dep p n ((done++todo)++row::o)↔Dep p n ((done++todo)++leftOf p row todo::o))∧(∀e,e∈done++todo→(leftOf p row todo).getD (piv e) 0=0)∧(leftOf p row todo).length=n
 |[],done,row,_,hd,hr=>⟨Iff.rfl,fun e he=>(hd e (by simpa using he)).2.2.1,hr⟩
 |e::todo,done,row,⟨h1,h2,h3⟩,hd,hr=>by
  have ih:=left_ok hp o todo (done++[e]) (clr p row e) h3 (fun f hf=>by
   rcases List.mem_append.mp hf with hf|hf
   ·obtain⟨a1,a2,a3,a4⟩:=hd f hf
    refine⟨a1,a2,?_,fun g hg=>a4 g (List.mem_cons_of_mem _ hg)⟩
    rw[getD_clr hr a2,a3,a4 e List.mem_cons_self,Int.mul_zero,Int.mul_zero,Int.sub_self,lower_zero]
   ·rw[List.mem_singleton.mp hf]
    refine⟨h1.ne,h1.lt,?_,h2⟩
    rw[getD_clr hr h1.lt,Int.mul_comm,Int.sub_self,lower_zero]) ((clr_length p row e).trans hr)
  have ea:done++[e]++todo=done++e::todo:=by simp
  rw[ea] at ih
  refine⟨?_,ih.2.1,ih.2.2⟩
  show _↔Dep p n ((done++e::todo)++leftOf p (clr p row e) todo::o)
  rw[←ih.1]
  have pm:∀x:List Int,((done++e::todo)++x::o).Perm (e::x::((done++todo)++o)):=fun x=>by
   refine (List.perm_middle).trans ?_
   refine List.Perm.trans ?_ (List.Perm.swap e x _)
   refine List.Perm.cons x ?_
   rw[List.append_assoc,List.cons_append,List.append_assoc]
   exact List.perm_middle
  rw[dep_perm (pm row),dep_perm (pm (clr p row e))]
  exact dep_clr hp h1 hr
theorem left_red {p:Nat}:∀(kept:List (List Int)) (row:List Int),RedR p row→RedR p (leftOf p row kept)
 |[],_,h=>h
 |e::r,row,_=>left_red r (clr p row e) (clr_red p row e)
theorem hang_dep {p n:Nat} (hp:Pr p):∀(rows kept:List (List Int)),Tri p n kept→(∀r,r∈rows→r.length=n)→(∀r,r∈rows→RedR p r)→(hang p kept rows=true↔Dep p n (kept++rows))
 |[],kept,ht,_,_=>by
  rw[List.append_nil]
  exact⟨fun h=>(by cases h),fun h=>absurd h (ht.free hp)⟩
 |r::rs,kept,ht,hl,hr=>by
  obtain⟨h1,h2,h3⟩:=left_ok hp rs kept [] r ht (fun e he=>by cases he) (hl r List.mem_cons_self)
  rw[List.nil_append] at h1 h2
  rw[h1]
  show (if (leftOf p r kept).any (fun z=>z !=0) then hang p (kept++[leftOf p r kept]) rs else true)=true↔_
  by_cases ha:(leftOf p r kept).any (fun z=>z !=0)=true
  ·rw[if_pos ha,hang_dep hp rs _ (Tri.snoc (keptR_of h3 (left_red kept r (hr r List.mem_cons_self)) ha) ht h2) (fun x hx=>hl x (List.mem_cons_of_mem _ hx)) (fun x hx=>hr x (List.mem_cons_of_mem _ hx)),List.append_assoc]
   rfl
  ·rw[if_neg ha]
   refine⟨fun _=>?_,fun _=>rfl⟩
   refine Dep.perm List.perm_middle.symm (dep_zero_row hp fun i hi=>?_)
   have:(leftOf p r kept).getD i 0=0:=by
    rw[List.getD_eq_getElem?_getD,List.getElem?_eq_getElem (by omega)]
    have h0:¬((leftOf p r kept)[i]'(by omega) !=0)=true:=fun h=>ha (List.any_eq_true.mpr ⟨_,List.getElem_mem _,h⟩)
    simpa using h0
   rw[this];exact Z.zero
theorem hang_rank {p n:Nat} (hp:Pr p) {rows:List (List Int)} (hl:∀r,r∈rows→r.length=n) (hr:∀r,r∈rows→RedR p r):hang p [] rows=!(rowRank p n rows==rows.length):=by
 have h1:=hang_dep hp rows [] trivial hl hr
 have h2:=rowRank_dep hp n rows hl hr
 rw[List.nil_append] at h1
 by_cases hd:Dep p n rows
 ·rw[h1.mpr hd]
  have:¬rowRank p n rows=rows.length:=fun e=>(h2.mp e) hd
  simpa using this
 ·have e1:hang p [] rows=false:=by
   cases e:hang p [] rows with
   |false=>rfl
   |true=>exact absurd (h1.mp e) hd
  rw[e1,h2.mpr hd]
  simp
def shut:List Nat→List (Nat×Nat)→Bool
 |_,[]=>false
 |m,(a,b)::r=>if m.getD a 0=m.getD b 0 then true else shut (m.map fun k=>if k=m.getD b 0 then m.getD a 0 else k) r
theorem getD_map_nat (f:Nat→Nat) {l:List Nat} {i:Nat} (h:i<l.length):(l.map f).getD i 0=f (l.getD i 0):=by
 rw[List.getD_eq_getElem?_getD,List.getElem?_map,List.getD_eq_getElem?_getD,List.getElem?_eq_getElem h]
 rfl
theorem merged (I J A B:Nat):(if I=B then A else I)=(if J=B then A else J)↔I=J∨((I=A∨I=B)∧(J=A∨J=B)):=by
 split<;>split<;>omega
theorem shut_joined:∀(es:List (Nat×Nat)) (m p:List Nat),m.length=12→p.length=12→(∀i j,i<12→j<12→(m.getD i 0=m.getD j 0↔p.getD i 0=p.getD j 0))→(∀e,e∈es→e.1<12∧e.2<12) →
  shut m es=!(joined p es).isSome
 |[],m,p,_,_,_,_=>rfl
 |(a,b)::r,m,p,hm,hp,hs,he=>by
  obtain⟨ha,hb⟩:=he (a,b) List.mem_cons_self
  have hab:=hs a b ha hb
  show (if m.getD a 0=m.getD b 0 then true else shut (m.map fun k=>if k=m.getD b 0 then m.getD a 0 else k) r)=!(if p.getD a 0=p.getD b 0 then none else joined (p.map fun k=>if k=max (p.getD a 0) (p.getD b 0) then min (p.getD a 0) (p.getD b 0) else k) r).isSome
  by_cases h:m.getD a 0=m.getD b 0
  ·rw[if_pos h,if_pos (hab.mp h)];rfl
  ·rw[if_neg h,if_neg (fun e=>h (hab.mpr e))]
   refine shut_joined r _ _ (by rw[List.length_map];exact hm) (by rw[List.length_map];exact hp) (fun i j hi hj=>?_) fun e h'=>he e (List.mem_cons_of_mem _ h')
   have hne:¬p.getD a 0=p.getD b 0:=fun e=>h (hab.mpr e)
   rw[getD_map_nat _ (by omega),getD_map_nat _ (by omega),getD_map_nat _ (by omega),getD_map_nat _ (by omega)]
   have h1:=hs i j hi hj
   have h2:=hs i a hi ha
   have h3:=hs i b hi hb
   have h4:=hs j a hj ha
   have h5:=hs j b hj hb
   generalize m.getD a 0=A at *
   generalize m.getD b 0=B at *
   generalize m.getD i 0=I at *
   generalize m.getD j 0=J at *
   generalize p.getD a 0=A' at *
   generalize p.getD b 0=B' at *
   generalize p.getD i 0=I' at *
   generalize p.getD j 0=J' at *
   rcases Nat.le_total A' B' with q|q
   ·rw[Nat.max_eq_right q,Nat.min_eq_left q,merged,merged,h1,h2,h3,h4,h5]
   ·rw[Nat.max_eq_left q,Nat.min_eq_right q,merged,merged,h1,h2,h3,h4,h5,or_comm (a:=I'=B'),or_comm (a:=J'=B')]
theorem shut_ok (es:List (Nat×Nat)) (h:∀e,e∈es→e.1<12∧e.2<12):shut (List.range 12) es=!(joined (List.range POINTS) es).isSome :=
 shut_joined es _ _ (by decide) (by decide) (fun _ _ _ _=>Iff.rfl) h
def Swaps (l:List Nat):Prop:=∀a,a∈l→∀b,b∈l→∀i,i<8→a.testBit i=true→b.testBit i=false→∃j,j<8∧b.testBit j=true∧a.testBit j=false∧(a-2^i+2^j)∈l
theorem right_iff (l:List Nat):right l=true↔l≠[]∧Swaps l:=by
 unfold right Swaps
 rw[Bool.and_eq_true,Bool.not_eq_true',List.isEmpty_eq_false_iff]
 refine and_congr_right fun _=>?_
 rw[List.all_eq_true]
 refine forall_congr' fun a=>forall_congr' fun _=>?_
 rw[List.all_eq_true]
 refine forall_congr' fun b=>forall_congr' fun _=>?_
 rw[List.all_eq_true]
 constructor
 ·intro h i hi ha hb
  obtain⟨j,hj,hm⟩:=List.any_eq_true.mp (h i (mem_things_less.mpr ⟨hi,ha,hb⟩))
  obtain⟨h1,h2,h3⟩:=mem_things_less.mp hj
  exact⟨j,h1,h2,h3,List.contains_iff_mem.mp hm⟩
 ·intro h i hi
  obtain⟨h1,h2,h3⟩:=mem_things_less.mp hi
  obtain⟨j,a1,a2,a3,a4⟩:=h i h1 h2 h3
  exact List.any_eq_true.mpr ⟨j,mem_things_less.mpr ⟨a1,a2,a3⟩,List.contains_iff_mem.mpr a4⟩
theorem testBit_swap {a i j:Nat} (hi:a.testBit i=true) (hj:a.testBit j=false) (k:Nat):(a-2^i+2^j).testBit k=((a.testBit k&&!decide (i=k))||decide (j=k)):=by
 have h1:(a-2^i).testBit j=false:=by rw[testBit_sub hi,hj];rfl
 rw[testBit_add h1,testBit_sub hi]
theorem swap_lt {a i j:Nat} (ha:a<256) (hj8:j<8) (hi:a.testBit i=true) (hj:a.testBit j=false):a-2^i+2^j<256:=by
 refine Nat.lt_pow_two_of_testBit (n:=8) _ fun k hk=>?_
 rw[testBit_swap hi hj,testBit_big ha hk]
 have:¬j=k:=by omega
 simp [this]
theorem countP_one (p q:Nat→Bool) (i:Nat) (hp:p i=false) (hq:∀k,q k=(p k||decide (i=k))):∀l:List Nat,l.Nodup→l.countP q=l.countP p+(if i∈l then 1 else 0)
 |[],_=>rfl
 |x::l,h=>by
  obtain⟨h1,h2⟩:=List.nodup_cons.mp h
  have ih:=countP_one p q i hp hq l h2
  rw[List.countP_cons,List.countP_cons,ih,hq x]
  by_cases e:i=x
  ·subst e
   rw[hp,if_neg h1,if_pos List.mem_cons_self]
   simp
  ·have:(i∈x::l)↔i∈l:=by simp [e]
   simp only [this,e,decide_false,Bool.or_false]
   omega
theorem size_add {s i:Nat} (hi:i<8) (h:s.testBit i=false):size (s+2^i)=size s+1:=by
 rw[size_eq,size_eq,countP_one s.testBit (s+2^i).testBit i h (testBit_add h) _ List.nodup_range,if_pos (List.mem_range.mpr hi)]
theorem size_sub {s i:Nat} (hi:i<8) (h:s.testBit i=true):size (s-2^i)+1=size s:=by
 have h0:(s-2^i).testBit i=false:=by rw[testBit_sub h];simp
 have:=size_add hi h0
 have e:s-2^i+2^i=s:=Nat.sub_add_cancel (Nat.ge_two_pow_of_testBit h)
 rw[e] at this
 omega
theorem size_swap {a i j:Nat} (hi8:i<8) (hj8:j<8) (hi:a.testBit i=true) (hj:a.testBit j=false):size (a-2^i+2^j)=size a:=by
 have h1:(a-2^i).testBit j=false:=by rw[testBit_sub hi,hj];rfl
 rw[size_add hj8 h1]
 exact size_sub hi8 hi
theorem exists_bit_of_ne {a b:Nat} (ha:a<256) (hb:b<256) (h:a≠b):∃i,i<8∧a.testBit i≠b.testBit i:=by
 refine Classical.byContradiction fun hn=>h (ext8 ha hb fun i hi=>?_)
 exact Classical.byContradiction fun hne=>hn ⟨i,hi,hne⟩
theorem Swaps.size {l:List Nat} (hl:∀s,s∈l→s<256) (h:Swaps l):∀(n:Nat) (a b:Nat),a∈l→b∈l→BindNs.size (less a b)=n→BindNs.size a=BindNs.size b:=by
 intro n
 induction n with
 |zero =>
  intro a b ha hb e
  have hsub:∀i,i<8→a.testBit i=true→b.testBit i=true:=fun i hi hai=>by
   cases hbi:b.testBit i with
   |true=>rfl
   |false =>
    have hm:=mem_things_less.mpr ⟨hi,hai,hbi⟩
    unfold BindNs.size at e
    rw[List.length_eq_zero_iff.mp e] at hm
    cases hm
  by_cases hab:a=b
  ·rw[hab]
  ·exfalso
   obtain⟨i,hi,hne⟩:=exists_bit_of_ne (hl a ha) (hl b hb) hab
   have hbi:b.testBit i=true:=by
    cases hai:a.testBit i with
    |true=>exact hsub i hi hai
    |false =>
     cases hb':b.testBit i with
     |true=>rfl
     |false=>exact absurd (hai.trans hb'.symm) hne
   have hai:a.testBit i=false:=by
    cases hai:a.testBit i with
    |false=>rfl
    |true=>exact absurd (hai.trans hbi.symm) hne
   obtain⟨j,hj,h1,h2,_⟩:=h b hb a ha i hi hbi hai
   rw[hsub j hj h1] at h2
   cases h2
 |succ n ih =>
  intro a b ha hb e
  have hne:things (less a b)≠[]:=fun q=>by
   unfold BindNs.size at e
   rw[q] at e
   cases e
  obtain⟨i,hi⟩:=List.exists_mem_of_ne_nil _ hne
  obtain⟨hi8,hai,hbi⟩:=mem_things_less.mp hi
  obtain⟨j,hj8,hbj,haj,hm⟩:=h a ha b hb i hi8 hai hbi
  rw[←size_swap hi8 hj8 hai haj]
  refine ih _ b hm hb ?_
  have e1:less (a-2^i+2^j) b=less a b-2^i:=by
   have hli:(less a b).testBit i=true:=by rw[testBit_less,decide_eq_true hi8,hai,hbi];rfl
   refine ext8 (less_lt _ _) (Nat.lt_of_le_of_lt (Nat.sub_le _ _) (less_lt _ _)) fun k hk=>?_
   rw[testBit_less,testBit_swap hai haj,testBit_sub hli,testBit_less]
   by_cases e1:i=k
   ·subst e1
    have:¬j=i:=fun q=>by subst q;rw[haj] at hai;cases hai
    simp [this]
   ·by_cases e2:j=k
    ·subst e2;simp [hbj]
    ·simp [e1,e2]
  rw[e1]
  have hli:(less a b).testBit i=true:=by rw[testBit_less,decide_eq_true hi8,hai,hbi];rfl
  have:=size_sub hi8 hli
  omega
def Reaches (l:List Nat):Prop:=∀a,a∈l→∀i,i<8→a.testBit i=true→∀b,b∈l→∃t,t<8∧b.testBit t=true∧∃s,s∈l∧s.testBit t=true∧s^^^2^t=a^^^2^i
theorem swaps_reaches {l:List Nat} (hl:∀s,s∈l→s<256):Swaps l↔(∀a,a∈l→∀b,b∈l→size a=size b)∧Reaches l:=by
 constructor
 ·intro h
  refine⟨fun a ha b hb=>h.size hl _ a b ha hb rfl,fun a ha i hi hai b hb=>?_⟩
  cases hbi:b.testBit i with
  |true=>exact⟨i,hi,hbi,a,ha,hai,rfl⟩
  |false =>
   obtain⟨j,hj,h1,h2,h3⟩:=h a ha b hb i hi hai hbi
   refine⟨j,hj,h1,_,h3,by rw[testBit_swap hai h2];simp,?_⟩
   refine Nat.eq_of_testBit_eq fun k=>?_
   rw[Nat.testBit_xor,Nat.testBit_xor,testBit_swap hai h2,tb_pow,tb_pow]
   have:¬j=i:=fun q=>by subst q;rw[h2] at hai;cases hai
   by_cases e1:i=k
   ·subst e1;simp [this,hai]
   ·by_cases e2:j=k
    ·subst e2;simp [e1,h2]
    ·simp [e1,e2]
 ·rintro⟨_,h⟩ a ha b hb i hi hai hbi
  obtain⟨t,ht,hbt,s,hs,hst,e⟩:=h a ha i hi hai b hb
  have hti:¬t=i:=fun q=>by subst q;rw[hbt] at hbi;cases hbi
  have hat:a.testBit t=false:=by
   have:=congrArg (fun z=>z.testBit t) e
   simp only [Nat.testBit_xor,tb_pow,hst] at this
   have h2:¬i=t:=fun q=>hti q.symm
   simp [h2] at this
   exact this
  refine⟨t,ht,hbt,hat,?_⟩
  have e2:a-2^i+2^t=s:=Nat.eq_of_testBit_eq fun k=>by
   rw[testBit_swap hai hat]
   have:=congrArg (fun z=>z.testBit k) e
   simp only [Nat.testBit_xor,tb_pow] at this
   by_cases e1:i=k
   ·subst e1
    simp [hti,hai] at this ⊢
    exact this
   ·by_cases e2:t=k
    ·subst e2;simp [hst]
    ·simp [e1,e2] at this ⊢
     exact this.symm
  rw[e2];exact hs
structure Good (m:Bond):Prop where
 n8:m.n≤8
 ne:m.bases≠[]
 rise:m.bases.Pairwise (·<·)
 lt:∀b,b∈m.bases→b<2^m.n
 sz:∀a,a∈m.bases→∀b,b∈m.bases→size a=size b
theorem Good.lt8 {m:Bond} (g:Good m) {b:Nat} (h:b∈m.bases):b<256:=lt256 g.n8 (g.lt b h)
theorem foldl_max_ge:∀(l:List Nat) (a:Nat),a≤l.foldl max a∧(∀x,x∈l→x≤l.foldl max a)∧(l.foldl max a=a∨l.foldl max a∈l)
 |[],a=>⟨Nat.le_refl _,fun x h=>(by cases h),.inl rfl⟩
 |y::l,a=>by
  obtain⟨h1,h2,h3⟩:=foldl_max_ge l (max a y)
  rw[List.foldl_cons]
  refine⟨Nat.le_trans (Nat.le_max_left _ _) h1,fun x hx=>?_,?_⟩
  ·rcases List.mem_cons.mp hx with rfl|hx
   ·exact Nat.le_trans (Nat.le_max_right _ _) h1
   ·exact h2 x hx
  ·rcases h3 with e|e
   ·rcases Nat.le_total a y with q|q
    ·rw[e,Nat.max_eq_right q];exact .inr List.mem_cons_self
    ·rw[e,Nat.max_eq_left q];exact .inl rfl
   ·exact .inr (List.mem_cons_of_mem _ e)
theorem max_is {l:List Nat} {m:Nat} (hm:m∈l) (h:∀y,y∈l→y≤m):l.foldl max 0=m:=by
 obtain⟨_,h2,h3⟩:=foldl_max_ge l 0
 have a:=h2 m hm
 rcases h3 with e|e
 ·omega
 ·have:=h _ e;omega
theorem rank_le (m:Bond) {s b:Nat} (hb:b∈m.bases):size (b&&&s)≤m.rank s:=by
 unfold Bond.rank rankBy
 exact (foldl_max_ge _ 0).2.1 _ (List.mem_map.mpr ⟨b,hb,rfl⟩)
theorem rank_has {m:Bond} (hne:m.bases≠[]) (s:Nat):∃b,b∈m.bases∧size (b&&&s)=m.rank s:=by
 unfold Bond.rank rankBy
 rcases (foldl_max_ge (m.bases.map fun b=>size (both b s)) 0).2.2 with e|e
 ·obtain⟨b,hb⟩:=List.exists_mem_of_ne_nil _ hne
  refine⟨b,hb,?_⟩
  have:=(foldl_max_ge (m.bases.map fun b=>size (both b s)) 0).2.1 _ (List.mem_map.mpr ⟨b,hb,rfl⟩)
  rw[e] at this ⊢
  show size (both b s)=0
  omega
 ·obtain⟨b,hb,e⟩:=List.mem_map.mp e
  exact⟨b,hb,e⟩
theorem rank_le_size {m:Bond} (hne:m.bases≠[]) (s:Nat):m.rank s≤size s:=by
 obtain⟨b,_,e⟩:=rank_has hne s
 rw[←e];exact size_and_le_right _ _
theorem loose_iff {m:Bond} (hne:m.bases≠[]) {s:Nat} (hs:s<256):m.loose s=true↔∃b,b∈m.bases∧b&&&s=s:=by
 unfold Bond.loose
 rw[beq_iff_eq]
 constructor
 ·intro e
  obtain⟨b,hb,h⟩:=rank_has hne s
  exact⟨b,hb,(and_eq_iff_size hs).mpr (h.trans e)⟩
 ·rintro⟨b,hb,h⟩
  have h1:=rank_le m (s:=s) hb
  rw[h] at h1
  exact Nat.le_antisymm (rank_le_size hne s) h1
theorem loose_any {m:Bond} (hne:m.bases≠[]) {s:Nat} (hs:s<256):(m.bases.any fun b=>b&&&s==s)=m.loose s:=by
 rw[Bool.eq_iff_iff,loose_iff hne hs,List.any_eq_true]
 simp only [beq_iff_eq]
theorem loose_zero {m:Bond} (hne:m.bases≠[]):m.loose 0=true:=by
 rw[loose_iff hne (by decide)]
 obtain⟨b,hb⟩:=List.exists_mem_of_ne_nil _ hne
 exact⟨b,hb,Nat.and_zero b⟩
theorem and_all {b n:Nat} (hb:b<2^n):b&&&all n=b:=by
 unfold all
 rw[Nat.and_two_pow_sub_one_eq_mod,Nat.mod_eq_of_lt hb]
theorem whole_eq {m:Bond} (g:Good m) {b:Nat} (hb:b∈m.bases):m.whole=size b:=by
 unfold Bond.whole
 obtain⟨c,hc,e⟩:=rank_has g.ne (all m.n)
 rw[←e,and_all (g.lt c hc)]
 exact g.sz c hc b hb
theorem mem_sets {n s:Nat}:s∈sets n↔s<2^n:=List.mem_range
theorem sets_rise (n:Nat):(sets n).Pairwise (·<·):=List.pairwise_lt_range
theorem good_filter {n:Nat} {p:Nat→Bool} (hn:n≤8) {s0:Nat} (h0:s0<2^n) (hp:p s0=true) (hs:∀a b,a<2^n→b<2^n→p a=true→p b=true→size a=size b):Good ⟨n,(sets n).filter p⟩ where
 n8:=hn
 ne:=List.ne_nil_of_mem (List.mem_filter.mpr ⟨mem_sets.mpr h0,hp⟩)
 rise:=(sets_rise n).filter _
 lt:=fun b hb=>mem_sets.mp (List.mem_filter.mp hb).1
 sz:=fun a ha b hb=>hs a b (mem_sets.mp (List.mem_filter.mp ha).1) (mem_sets.mp (List.mem_filter.mp hb).1) (List.mem_filter.mp ha).2 (List.mem_filter.mp hb).2
theorem good_byLoose {n:Nat} {f:Nat→Bool} (hn:n≤8) {s0:Nat} (h0:s0<2^n) (hf:f s0=true):Good (byLoose n f):=by
 unfold byLoose
 dsimp only
 rw[List.filter_filter]
 obtain⟨_,h2,h3⟩:=foldl_max_ge (((sets n).filter f).map size) 0
 have hm0:s0∈(sets n).filter f:=List.mem_filter.mpr ⟨mem_sets.mpr h0,hf⟩
 obtain⟨c,hc,e⟩:∃c,c∈(sets n).filter f∧size c=(((sets n).filter f).map size).foldl max 0:=by
  rcases h3 with e|e
  ·have:=h2 _ (List.mem_map.mpr ⟨s0,hm0,rfl⟩)
   exact⟨s0,hm0,by omega⟩
  ·obtain⟨c,hc,e⟩:=List.mem_map.mp e
   exact⟨c,hc,e⟩
 obtain⟨hc1,hc2⟩:=List.mem_filter.mp hc
 refine good_filter hn (mem_sets.mp hc1) (by rw[Bool.and_eq_true,beq_iff_eq];exact⟨e,hc2⟩) fun a b _ _ ha hb=>?_
 rw[Bool.and_eq_true,beq_iff_eq] at ha hb
 exact ha.1.trans hb.1.symm
theorem any_eq:∀n,n≤8→∀r,r≤n→(byLoose n fun t=>decide (size t≤r)).bases=(sets n).filter fun s=>size s==r:=by decide +kernel
theorem good_empty:Good BindNs.empty where
 n8:=by decide
 ne:=by decide
 rise:=by decide
 lt:=by decide
 sz:=by decide +kernel
theorem rise_ext:∀{l l':List Nat},l.Pairwise (·<·)→l'.Pairwise (·<·)→(∀x,x∈l↔x∈l')→l=l'
 |[],[],_,_,_=>rfl
 |[],y::l',_,_,h=>by have:=(h y).mpr List.mem_cons_self;cases this
 |x::l,[],_,_,h=>by have:=(h x).mp List.mem_cons_self;cases this
 |x::l,y::l',h1,h2,h=>by
  obtain⟨a1,a2⟩:=List.pairwise_cons.mp h1
  obtain⟨b1,b2⟩:=List.pairwise_cons.mp h2
  have exy:x=y:=by
   rcases List.mem_cons.mp ((h x).mp List.mem_cons_self) with e|e
   ·exact e
   ·rcases List.mem_cons.mp ((h y).mpr List.mem_cons_self) with e'|e'
    ·exact e'.symm
    ·have:=b1 x e;have:=a1 y e';omega
  subst exy
  congr 1
  refine rise_ext a2 b2 fun z=>?_
  constructor
  ·intro hz
   rcases List.mem_cons.mp ((h z).mp (List.mem_cons_of_mem _ hz)) with e|e
   ·have:=a1 z hz;omega
   ·exact e
  ·intro hz
   rcases List.mem_cons.mp ((h z).mpr (List.mem_cons_of_mem _ hz)) with e|e
   ·have:=b1 z hz;omega
   ·exact e
theorem tidy_rise (n:Nat) (l:List Nat):(tidy n l).Pairwise (·<·):=(sets_rise n).filter _
theorem mem_tidy {n x:Nat} {l:List Nat}:x∈tidy n l↔x<2^n∧x∈l:=by
 unfold tidy
 rw[List.mem_filter,mem_sets,List.contains_iff_mem]
theorem good_bases {n:Nat} {l:List Nat} (hn:n≤8) (h:right (tidy n l)=true):Good ⟨n,tidy n l⟩:=by
 obtain⟨h1,h2⟩:=(right_iff _).mp h
 have hl:∀s,s∈tidy n l→s<256:=fun s hs=>lt256 hn (mem_tidy.mp hs).1
 exact⟨hn,h1,tidy_rise n l,fun b hb=>(mem_tidy.mp hb).1,((swaps_reaches hl).mp h2).1⟩
theorem fold_or {n:Nat} (f:Nat→Bool):∀(l:List Nat) (s:Nat),∀j,(l.foldl (fun c i=>if f i=true then c|||2^i else c) s).testBit j=(s.testBit j||(decide (j∈l)&&f j))
 |[],s,j=>by simp
 |x::l,s,j=>by
  rw[List.foldl_cons,fold_or (n:=n) f l _ j]
  by_cases hx:f x=true
  ·rw[if_pos hx,Nat.testBit_or,tb_pow]
   by_cases e:x=j
   ·subst e;simp [hx]
   ·have:¬j=x:=fun q=>e q.symm
    simp [e,this]
  ·rw[if_neg hx]
   by_cases e:x=j
   ·subst e;simp [hx]
   ·have:¬j=x:=fun q=>e q.symm
    simp [this]
theorem closure_eq {m:Bond} (hn:m.n≤8) {s:Nat} (hs:s<2^m.n):(List.range m.n).foldl (fun c i=>if (m.rank (s|||2^i)==m.rank s)=true then c|||2^i else c) s=m.closure s:=by
 refine Nat.eq_of_testBit_eq fun j=>?_
 rw[fold_or (n:=m.n) (fun i=>m.rank (s|||2^i)==m.rank s)]
 unfold Bond.closure
 rw[testBit_setOf]
 by_cases hj:j<m.n
 ·have h8:j<8:=by omega
  rw[decide_eq_true h8,decide_eq_true (List.mem_range.mpr hj),Bool.true_and,Bool.true_and,Bool.eq_iff_iff,List.contains_iff_mem,List.mem_filter,List.mem_range]
  exact⟨fun h=>⟨hj,h⟩,fun h=>h.2⟩
 ·rw[bit_out hs (by omega),decide_eq_false (fun h=>hj (List.mem_range.mp h))]
  have:((List.range m.n).filter fun i=>s.testBit i||m.rank (either s (2^i))==m.rank s).contains j=false:=by
   rw[Bool.eq_false_iff,Ne,List.contains_iff_mem,List.mem_filter,List.mem_range]
   exact fun h=>hj h.1
  rw[this];simp
abbrev Sub (a b:Nat):Prop:=∀i,a.testBit i=true→b.testBit i=true
abbrev ins (s i:Nat):Nat:=s|||2^i
theorem tb_ins (s i j:Nat):(ins s i).testBit j=(s.testBit j||decide (i=j)):=by rw[Nat.testBit_or,tb_pow]
theorem ins_lt {s i n:Nat} (hs:s<2^n) (hi:i<n):ins s i<2^n:=Nat.or_lt_two_pow hs (one_lt hi)
theorem ins_comm (s i j:Nat):ins (ins s i) j=ins (ins s j) i:=by
 show (s|||2^i)|||2^j=(s|||2^j)|||2^i
 rw[Nat.or_assoc,Nat.or_comm (2^i),←Nat.or_assoc]
theorem ins_in {s i:Nat} (h:s.testBit i=true):ins s i=s:=Nat.eq_of_testBit_eq fun j=>by
 rw[tb_ins]
 by_cases e:i=j
 ·subst e;rw[h];rfl
 ·simp [e]
theorem size_ins {s i:Nat} (hi:i<8) (h:s.testBit i=false):size (ins s i)=size s+1:=by
 show size (s|||2^i)=_
 rw[←add_pow_eq_or h];exact size_add hi h
theorem sub_ins (s i:Nat):Sub s (ins s i):=fun j h=>by rw[tb_ins,h];rfl
theorem size_sub_le {a b:Nat} (h:Sub a b):size a≤size b:=size_mono fun i _=>h i
def addAll (s:Nat) (l:List Nat):Nat:=l.foldl ins s
theorem tb_addAll:∀(l:List Nat) (s j:Nat),(addAll s l).testBit j=(s.testBit j||decide (j∈l))
 |[],s,j=>by simp [addAll]
 |x::l,s,j=>by
  show (addAll (ins s x) l).testBit j=_
  rw[tb_addAll l,tb_ins]
  by_cases e:x=j
  ·subst e;simp
  ·have:¬j=x:=fun q=>e q.symm
   simp [e,this]
theorem ins8 {s i:Nat} (hs:s<256) (hi:i<8):ins s i<256:=ins_lt (n:=8) hs hi
theorem addAll8:∀(l:List Nat) {s:Nat},s<256→(∀x,x∈l→x<8)→addAll s l<256
 |[],s,h,_=>h
 |x::l,s,h,hl=>addAll8 l (ins8 h (hl x List.mem_cons_self)) fun y hy=>hl y (List.mem_cons_of_mem _ hy)
theorem eq_addAll {a b:Nat} (hb:b<256) (h:Sub a b):addAll a (things b)=b:=Nat.eq_of_testBit_eq fun i=>by
 rw[tb_addAll]
 cases hbi:b.testBit i with
 |true =>
  have:i∈things b:=mem_things.mpr ⟨bit_in (n:=8) hb hbi,hbi⟩
  simp [this]
 |false =>
  have h1:a.testBit i=false:=by
   cases h1:a.testBit i with
   |false=>rfl
   |true=>rw[h i h1] at hbi;cases hbi
  have:¬i∈things b:=fun q=>by rw[(mem_things.mp q).2] at hbi;cases hbi
  simp [h1,this]
theorem lt_of_sub {a b:Nat} (hb:b<256) (h:Sub a b):a<256:=Nat.lt_pow_two_of_testBit (n:=8) a fun i hi=>by
 cases e:a.testBit i with
 |false=>rfl
 |true=>have:=bit_in (n:=8) hb (h i e);omega
theorem things8 {s x:Nat} (h:x∈things s):x<8:=(mem_things.mp h).1
structure RankF (r:Nat→Nat):Prop where
 zero:r 0=0
 up:∀s i,s<256→i<8→r s≤r (ins s i)
 unit:∀s i,s<256→i<8→r (ins s i)≤r s+1
 loc:∀s x y,s<256→x<8→y<8→r (ins s x)=r s→r (ins (ins s y) x)=r (ins s y)
namespace RankF
variable {r : Nat → Nat} (R : RankF r)
include R
theorem upAll:∀(l:List Nat) {s:Nat},s<256→(∀x,x∈l→x<8)→r s≤r (addAll s l)
 |[],s,_,_=>Nat.le_refl _
 |x::l,s,h,hl=>Nat.le_trans (R.up s x h (hl x List.mem_cons_self)) (upAll l (ins8 h (hl x List.mem_cons_self)) fun y hy=>hl y (List.mem_cons_of_mem _ hy))
theorem mono {a b:Nat} (hb:b<256) (h:Sub a b):r a≤r b:=by
 have:=R.upAll (things b) (lt_of_sub hb h) (fun x=>things8)
 rwa [eq_addAll hb h] at this
theorem locAll {x:Nat} (hx:x<8):∀(l:List Nat) {s:Nat},s<256→(∀y,y∈l→y<8)→r (ins s x)=r s→r (ins (addAll s l) x)=r (addAll s l)
 |[],s,_,_,h=>h
 |y::l,s,hs,hl,h=>locAll hx l (ins8 hs (hl y List.mem_cons_self)) (fun z hz=>hl z (List.mem_cons_of_mem _ hz)) (R.loc s x y hs hx (hl y List.mem_cons_self) h)
theorem locSub {u s x:Nat} (hx:x<8) (hs:s<256) (h:Sub u s) (e:r (ins u x)=r u):r (ins s x)=r s:=by
 have:=R.locAll hx (things s) (lt_of_sub hs h) (fun y=>things8) e
 rwa [eq_addAll hs h] at this
theorem gain1 {u s x:Nat} (hx:x<8) (hs:s<256) (h:Sub u s):r (ins s x)+r u≤r (ins u x)+r s:=by
 have h1:=R.up u x (lt_of_sub hs h) hx
 have h2:=R.unit s x hs hx
 by_cases e:r (ins u x)=r u
 ·rw[R.locSub hx hs h e];omega
 ·omega
theorem sub_ins2 {u s x:Nat} (h:Sub u s):Sub (ins u x) (ins s x):=fun i hi=>by
 rw[tb_ins,Bool.or_eq_true] at hi ⊢
 rcases hi with hi|hi
 ·exact .inl (h i hi)
 ·exact .inr hi
theorem gain:∀(l:List Nat) {u s:Nat},s<256→Sub u s→(∀x,x∈l→x<8)→r (addAll s l)+r u≤r (addAll u l)+r s
 |[],u,s,_,_,_=>Nat.le_of_eq (Nat.add_comm _ _)
 |x::l,u,s,hs,h,hl=>by
  have hx:=hl x List.mem_cons_self
  have ih:=gain l (u:=ins u x) (s:=ins s x) (ins8 hs hx) (R.sub_ins2 h) (fun y hy=>hl y (List.mem_cons_of_mem _ hy))
  have g1:=R.gain1 hx hs h
  show r (addAll (ins s x) l)+r u≤r (addAll (ins u x) l)+r s
  omega
theorem submod {s t:Nat} (hs:s<256) (ht:t<256):r (s|||t)+r (s&&&t)≤r s+r t:=by
 have sub1:Sub (s&&&t) s:=fun i hi=>by rw[Nat.testBit_and,Bool.and_eq_true] at hi;exact hi.1
 have sub2:Sub (s&&&t) t:=fun i hi=>by rw[Nat.testBit_and,Bool.and_eq_true] at hi;exact hi.2
 have g:=R.gain (things t) hs sub1 (fun x=>things8)
 have e1:addAll (s&&&t) (things t)=t:=eq_addAll ht sub2
 have e2:addAll s (things t)=s|||t:=Nat.eq_of_testBit_eq fun i=>by
  rw[tb_addAll,Nat.testBit_or]
  congr 1
  rw[Bool.eq_iff_iff,decide_eq_true_eq,mem_things]
  exact⟨fun h=>h.2,fun h=>⟨bit_in (n:=8) ht h,h⟩⟩
 rw[e1,e2] at g
 omega
theorem low {t e:Nat} (ht:t<256) (he:e<8):r (2^e)≤r (ins t e) :=
 R.mono (ins8 ht he) fun i hi=>by
  rw[tb_pow,decide_eq_true_eq] at hi
  subst hi
  rw[tb_ins];simp
theorem pinched {e:Nat} (he:e<8):RankF (fun s=>r (ins s e)-r (2^e)) where
 zero:=by
  show r (0|||2^e)-r (2^e)=0
  rw[Nat.zero_or,Nat.sub_self]
 up:=fun s i hs hi=>by
  have:=R.up (ins s e) i (ins8 hs he) hi
  rw[ins_comm] at this
  exact Nat.sub_le_sub_right this _
 unit:=fun s i hs hi=>by
  have:=R.unit (ins s e) i (ins8 hs he) hi
  rw[ins_comm] at this
  show r (ins (ins s i) e)-r (2^e)≤r (ins s e)-r (2^e)+1
  omega
 loc:=fun s x y hs hx hy h=>by
  have h:r (ins (ins s x) e)-r (2^e)=r (ins s e)-r (2^e):=h
  have a1:=R.low (ins8 hs hx) he
  have a2:=R.low hs he
  have h':r (ins (ins s e) x)=r (ins s e):=by rw[ins_comm s e x];omega
  have:=R.loc (ins s e) x y (ins8 hs he) hx hy h'
  show r (ins (ins (ins s y) x) e)-r (2^e)=r (ins (ins s y) e)-r (2^e)
  rw[ins_comm (ins s y) x e,ins_comm s y e,this]
theorem none {s:Nat} (hs:s<256) (h:∀x,x<8→s.testBit x=true→r (2^x)=0):r s=0:=by
 have key:∀(l:List Nat) (s:Nat),s<256→(∀x,x∈l→x<8∧r (2^x)=0)→r s=0→r (addAll s l)=0:=by
  intro l
  induction l with
  |nil=>intro s _ _ e;exact e
  |cons x l ih =>
   intro s hs hl e
   obtain⟨hx,hx0⟩:=hl x List.mem_cons_self
   refine ih (ins s x) (ins8 hs hx) (fun y hy=>hl y (List.mem_cons_of_mem _ hy)) ?_
   rw[R.locSub (u:=0) hx hs (fun i hi=>by rw[Nat.zero_testBit] at hi;cases hi) (by
    show r (0|||2^x)=r 0
    rw[Nat.zero_or,R.zero,hx0])]
   exact e
 have:=key (things s) 0 (by decide) (fun x hx=>⟨things8 hx,h x (things8 hx) (mem_things.mp hx).2⟩) R.zero
 rwa [eq_addAll hs (fun i hi=>by rw[Nat.zero_testBit] at hi;cases hi)] at this
end RankF
theorem size_eq_zero {s:Nat} (hs:s<256) (h:size s=0):s=0 :=
 (eq_of_sub_size (a:=0) (by decide) hs (fun i _ hi=>by rw[Nat.zero_testBit] at hi;cases hi) (by rw[h];exact Nat.zero_le _)).symm
theorem inter:∀(k E:Nat) (r1 r2:Nat→Nat),RankF r1→RankF r2→E<256→size E=k →
  ∃I A,Sub I E∧Sub A E∧r1 I=size I∧r2 I=size I∧r1 A+r2 (less E A)≤size I
 |0,E,r1,r2,R1,R2,hE,hk=>by
  have e0:=size_eq_zero hE hk
  subst e0
  refine⟨0,0,fun i h=>h,fun i h=>h,by rw[R1.zero,size_zero],by rw[R2.zero,size_zero],?_⟩
  have:less 0 0=0:=by decide +kernel
  rw[this,R1.zero,R2.zero];exact Nat.zero_le _
 |k+1,E,r1,r2,R1,R2,hE,hk=>by
  by_cases hex:∃e,e<8∧E.testBit e=true∧r1 (2^e)≠0∧r2 (2^e)≠0
  ·obtain⟨e,he,hEe,h1,h2⟩:=hex
   have u1:=R1.unit 0 e (by decide) he
   have u2:=R2.unit 0 e (by decide) he
   have z0:ins 0 e=2^e:=Nat.zero_or _
   rw[z0,R1.zero] at u1
   rw[z0,R2.zero] at u2
   have hE':E-2^e<256:=Nat.lt_of_le_of_lt (Nat.sub_le _ _) hE
   have hk':size (E-2^e)=k:=by have:=size_sub he hEe;omega
   have bE':=testBit_sub hEe
   obtain⟨I1,A,i1,i2,i3,i4,i5⟩:=inter k (E-2^e) r1 r2 R1 R2 hE' hk'
   obtain⟨I2,B,j1,j2,j3,j4,j5⟩:=inter k (E-2^e) _ _ (R1.pinched he) (R2.pinched he) hE' hk'
   have hA:=lt_of_sub hE' i2
   have hB:=lt_of_sub hE' j2
   have hI2:=lt_of_sub hE' j1
   have nI2:I2.testBit e=false:=by
    cases q:I2.testBit e with
    |false=>rfl
    |true=>have:=j1 e q;rw[bE' e] at this;simp at this
   have nA:A.testBit e=false:=by
    cases q:A.testBit e with
    |false=>rfl
    |true=>have:=i2 e q;rw[bE' e] at this;simp at this
   have sI2:=size_ins he nI2
   have l1:=R1.low hI2 he
   have l2:=R2.low hI2 he
   have l3:=R1.low hB he
   have l4:=R2.low (less_lt (E-2^e) B) he
   have j3:r1 (ins I2 e)-r1 (2^e)=size I2:=j3
   have j4:r2 (ins I2 e)-r2 (2^e)=size I2:=j4
   have j5:r1 (ins B e)-r1 (2^e)+(r2 (ins (less (E-2^e) B) e)-r2 (2^e))≤size I2:=j5
   have s1:=R1.submod hA (ins8 hB he)
   have s2:=R2.submod (less_lt (E-2^e) A) (ins8 (less_lt (E-2^e) B) he)
   have c1:less E (A&&&ins B e)=less (E-2^e) A|||ins (less (E-2^e) B) e:=by
    refine ext8 (less_lt _ _) (Nat.or_lt_two_pow (n:=8) (less_lt _ _) (ins8 (less_lt _ _) he)) fun i hi=>?_
    rw[testBit_less,Nat.testBit_or,testBit_less,tb_ins,testBit_less,bE',Nat.testBit_and,tb_ins,decide_eq_true hi]
    by_cases q:e=i
    ·subst q;simp [nA,hEe]
    ·cases E.testBit i<;>cases A.testBit i<;>cases B.testBit i<;>simp [q]
   have c2:less E (A|||ins B e)=less (E-2^e) A&&&ins (less (E-2^e) B) e:=by
    refine ext8 (less_lt _ _) (Nat.lt_of_le_of_lt Nat.and_le_left (less_lt _ _)) fun i hi=>?_
    rw[testBit_less,Nat.testBit_and,testBit_less,tb_ins,testBit_less,bE',Nat.testBit_or,tb_ins,decide_eq_true hi]
    by_cases q:e=i
    ·subst q;simp
    ·cases E.testBit i<;>cases A.testBit i<;>cases B.testBit i<;>simp [q]
   have sE:Sub (E-2^e) E:=fun i hi=>by rw[bE',Bool.and_eq_true] at hi;exact hi.1
   have eE:Sub (2^e) E:=fun i hi=>by rw[tb_pow,decide_eq_true_eq] at hi;rw[←hi];exact hEe
   have sC1:Sub (A&&&ins B e) E:=fun i hi=>by rw[Nat.testBit_and,Bool.and_eq_true] at hi;exact sE i (i2 i hi.1)
   have sC2:Sub (A|||ins B e) E:=fun i hi=>by
    rw[Nat.testBit_or,Bool.or_eq_true] at hi
    rcases hi with hi|hi
    ·exact sE i (i2 i hi)
    ·rw[Nat.testBit_or,Bool.or_eq_true] at hi
     rcases hi with hi|hi
     ·exact sE i (j2 i hi)
     ·exact eE i hi
   have sI:Sub (ins I2 e) E:=fun i hi=>by
    rw[Nat.testBit_or,Bool.or_eq_true] at hi
    rcases hi with hi|hi
    ·exact sE i (j1 i hi)
    ·exact eE i hi
   rw[←c1,←c2] at s2
   have q1:r1 (ins I2 e)=size (ins I2 e):=by omega
   have q2:r2 (ins I2 e)=size (ins I2 e):=by omega
   by_cases hc:size I2+1≤size I1
   ·by_cases hd:r1 (A&&&ins B e)+r2 (less E (A&&&ins B e))≤size I1
    ·exact⟨I1,_,fun i h=>sE i (i1 i h),sC1,i3,i4,hd⟩
    ·exact⟨I1,_,fun i h=>sE i (i1 i h),sC2,i3,i4,by omega⟩
   ·by_cases hd:r1 (A&&&ins B e)+r2 (less E (A&&&ins B e))≤size (ins I2 e)
    ·exact⟨ins I2 e,_,sI,sC1,q1,q2,hd⟩
    ·exact⟨ins I2 e,_,sI,sC2,q1,q2,by omega⟩
  ·have hno:∀x,x<8→E.testBit x=true→r1 (2^x)≠0→r2 (2^x)=0:=fun x hx hEx h1 =>
    Classical.byContradiction fun h2=>hex ⟨x,hx,hEx,h1,h2⟩
   refine⟨0,setOf ((things E).filter fun x=>r1 (2^x)==0),fun i hi=>(by rw[Nat.zero_testBit] at hi;cases hi),fun i hi=>?_,by rw[R1.zero,size_zero],by rw[R2.zero,size_zero],?_⟩
   ·rw[testBit_setOf,Bool.and_eq_true,List.contains_iff_mem,List.mem_filter,mem_things] at hi
    exact hi.2.1.2
   ·rw[R1.none (setOf_lt _) fun x hx hb=>?_,R2.none (less_lt _ _) fun x hx hb=>?_]
    ·exact Nat.zero_le _
    ·rw[testBit_less,decide_eq_true hx,Bool.true_and,Bool.and_eq_true,Bool.not_eq_true'] at hb
     refine hno x hx hb.1 fun q=>?_
     have:(setOf ((things E).filter fun x=>r1 (2^x)==0)).testBit x=true:=by
      rw[testBit_setOf,Bool.and_eq_true,List.contains_iff_mem,List.mem_filter,mem_things]
      exact⟨decide_eq_true hx,⟨hx,hb.1⟩,beq_iff_eq.mpr q⟩
     rw[hb.2] at this;cases this
    ·rw[testBit_setOf,Bool.and_eq_true,List.contains_iff_mem,List.mem_filter,mem_things] at hb
     exact eq_of_beq hb.2.2
structure Mat (m:Bond):Prop where
 good:Good m
 swaps:Swaps m.bases
structure Ind (n:Nat) (f:Nat→Prop):Prop where
 zero:f 0
 down:∀a b,b<2^n→f b→Sub a b→f a
 aug:∀a b,a<2^n→b<2^n→f a→f b→size a<size b→∃j,j<n∧b.testBit j=true∧a.testBit j=false∧f (ins a j)
theorem size_less {a b:Nat} (ha:a<256):size (less a b)+size (a&&&b)=size a:=by
 have h:=size_or_and (less a b) (a&&&b)
 have e1:less a b|||(a&&&b)=a:=by
  refine ext8 (Nat.or_lt_two_pow (n:=8) (less_lt _ _) (and_lt (n:=8) ha)) ha fun i hi=>?_
  rw[Nat.testBit_or,testBit_less,Nat.testBit_and,decide_eq_true hi]
  cases a.testBit i<;>cases b.testBit i<;>rfl
 have e2:less a b&&&(a&&&b)=0:=by
  refine ext8 (and_lt (n:=8) (less_lt _ _)) (by decide) fun i hi=>?_
  rw[Nat.testBit_and,testBit_less,Nat.testBit_and,decide_eq_true hi,Nat.zero_testBit]
  cases a.testBit i<;>cases b.testBit i<;>rfl
 rw[e1,e2,size_zero] at h
 omega
theorem sub_iff {b s:Nat} (hs:s<256):b&&&s=s↔Sub s b:=by
 constructor
 ·intro h i hi
  rw[←h,Nat.testBit_and,Bool.and_eq_true] at hi
  exact hi.1
 ·intro h
  refine Nat.eq_of_testBit_eq fun i=>?_
  rw[Nat.testBit_and]
  cases e:s.testBit i with
  |false=>rw[Bool.and_false]
  |true=>rw[h i e];rfl
abbrev Lo (l:List Nat) (s:Nat):Prop:=∃b,b∈l∧Sub s b
theorem aug_of {l:List Nat} (hl:∀s,s∈l→s<256) (hw:Swaps l):∀(d B1 B2 I J:Nat),B1∈l→B2∈l→Sub I B1→Sub J B2→size (less B2 (J|||B1))=d→size I<size J →
  ∃j,j<8∧J.testBit j=true∧I.testBit j=false∧Lo l (ins I j):=by
 intro d
 induction d with
 |zero =>
  intro B1 B2 I J h1 h2 hI hJ hd hlt
  have b1:=hl B1 h1
  have b2:=hl B2 h2
  refine Classical.byContradiction fun hno=>?_
  have hn:∀j,j<8→J.testBit j=true→I.testBit j=false→Lo l (ins I j)→False:=fun j a b c e=>hno ⟨j,a,b,c,e⟩
  have f1:∀j,j<8→J.testBit j=true→I.testBit j=false→B1.testBit j=false:=fun j hj a b=>by
   cases q:B1.testBit j with
   |false=>rfl
   |true =>
    refine (hn j hj a b ⟨B1,h1,fun i hi=>?_⟩).elim
    rw[tb_ins,Bool.or_eq_true,decide_eq_true_eq] at hi
    rcases hi with hi|hi
    ·exact hI i hi
    ·rw[←hi];exact q
  have f2:∀j,j<8→B2.testBit j=true→B1.testBit j=false→J.testBit j=true:=fun j hj a b=>by
   cases q:J.testBit j with
   |true=>rfl
   |false =>
    have hm:j∈things (less B2 (J|||B1)):=mem_things_less.mpr ⟨hj,a,by rw[Nat.testBit_or,q,b];rfl⟩
    unfold size at hd
    rw[List.length_eq_zero_iff.mp hd] at hm
    cases hm
  have f3:∀x,x<8→B1.testBit x=true→B2.testBit x=false→I.testBit x=true:=fun x hx a b=>by
   cases q:I.testBit x with
   |true=>rfl
   |false =>
    obtain⟨y,hy,c1,c2,c3⟩:=hw B1 h1 B2 h2 x hx a b
    have hIy:I.testBit y=false:=by
     cases w:I.testBit y with
     |false=>rfl
     |true=>rw[hI y w] at c2;cases c2
    refine (hn y hy (f2 y hy c1 c2) hIy ⟨_,c3,fun i hi=>?_⟩).elim
    rw[tb_ins,Bool.or_eq_true,decide_eq_true_eq] at hi
    rw[testBit_swap a c2]
    rcases hi with hi|hi
    ·have:¬x=i:=fun w=>by subst w;rw[q] at hi;cases hi
     rw[hI i hi];simp [this]
    ·simp [hi]
  have bI:=lt_of_sub b1 hI
  have bJ:=lt_of_sub b2 hJ
  have e1:=size_less (a:=B1) (b:=B2) b1
  have e2:=size_less (a:=B2) (b:=B1) b2
  have e3:=size_less (a:=I) (b:=J) bI
  have e4:=size_less (a:=J) (b:=I) bJ
  have eB:size B1=size B2:=hw.size hl _ B1 B2 h1 h2 rfl
  rw[Nat.and_comm B2 B1] at e2
  rw[Nat.and_comm J I] at e4
  have g1:size (less J I)≤size (less B2 B1):=size_mono fun i hi h=>by
   rw[testBit_less,decide_eq_true hi,Bool.true_and,Bool.and_eq_true,Bool.not_eq_true'] at h ⊢
   exact⟨hJ i h.1,f1 i hi h.1 h.2⟩
  have g2:size (less B1 B2)≤size (less I J):=size_mono fun i hi h=>by
   rw[testBit_less,decide_eq_true hi,Bool.true_and,Bool.and_eq_true,Bool.not_eq_true'] at h ⊢
   refine⟨f3 i hi h.1 h.2,?_⟩
   cases w:J.testBit i with
   |false=>rfl
   |true=>rw[hJ i w] at h;cases h.2
  omega
 |succ d ih =>
  intro B1 B2 I J h1 h2 hI hJ hd hlt
  have hne:things (less B2 (J|||B1))≠[]:=fun q=>by
   unfold size at hd
   rw[q] at hd;cases hd
  obtain⟨x,hx⟩:=List.exists_mem_of_ne_nil _ hne
  obtain⟨hx8,hx1,hx2⟩:=mem_things_less.mp hx
  rw[Nat.testBit_or,Bool.or_eq_false_iff] at hx2
  obtain⟨y,hy,c1,c2,c3⟩:=hw B2 h2 B1 h1 x hx8 hx1 hx2.2
  refine ih B1 _ I J h1 c3 hI (fun i hi=>?_) ?_ hlt
  ·rw[testBit_swap hx1 c2]
   have:¬x=i:=fun w=>by subst w;rw[hx2.1] at hi;cases hi
   rw[hJ i hi];simp [this]
  ·have hb:(less B2 (J|||B1)).testBit x=true:=(mem_things.mp hx).2
   have e1:less (B2-2^x+2^y) (J|||B1)=less B2 (J|||B1)-2^x:=by
    refine ext8 (less_lt _ _) (Nat.lt_of_le_of_lt (Nat.sub_le _ _) (less_lt _ _)) fun k hk=>?_
    rw[testBit_less,testBit_swap hx1 c2,testBit_sub hb,testBit_less,Nat.testBit_or]
    by_cases e1:x=k
    ·subst e1
     have:¬y=x:=fun q=>by subst q;rw[c2] at hx1;cases hx1
     simp [this]
    ·by_cases e2:y=k
     ·subst e2;simp [c1]
     ·simp [e1,e2]
   rw[e1]
   have:=size_sub hx8 hb
   omega
theorem loose_lo {m:Bond} (g:Good m) {s:Nat} (hs:s<256):m.loose s=true↔Lo m.bases s:=by
 rw[loose_iff g.ne hs]
 constructor
 ·rintro⟨b,hb,e⟩;exact⟨b,hb,(sub_iff hs).mp e⟩
 ·rintro⟨b,hb,e⟩;exact⟨b,hb,(sub_iff hs).mpr e⟩
theorem Mat.ind {m:Bond} (M:Mat m):Ind m.n (fun s=>m.loose s=true) where
 zero:=loose_zero M.good.ne
 down:=fun a b hb h hs=>by
  have hb8:=lt256 M.good.n8 hb
  obtain⟨c,hc,e⟩:=(loose_lo M.good hb8).mp h
  exact (loose_lo M.good (lt_of_sub hb8 hs)).mpr ⟨c,hc,fun i hi=>e i (hs i hi)⟩
 aug:=fun a b ha hb fa fb hlt=>by
  have ha8:=lt256 M.good.n8 ha
  have hb8:=lt256 M.good.n8 hb
  obtain⟨c,hc,e⟩:=(loose_lo M.good ha8).mp fa
  obtain⟨d,hd,e'⟩:=(loose_lo M.good hb8).mp fb
  obtain⟨j,h1,h2,h3,h4⟩:=aug_of (fun s hs=>M.good.lt8 hs) M.swaps _ c d a b hc hd e e' rfl hlt
  exact⟨j,bit_in hb h2,h2,h3,(loose_lo M.good (ins8 ha8 h1)).mpr h4⟩
theorem loose_le_rank {m:Bond} {s t b:Nat} (hb:b∈m.bases) (h:Sub t b) (hs:Sub t s):size t≤m.rank s:=by
 refine Nat.le_trans ?_ (rank_le m hb)
 exact size_mono fun i _ hi=>by rw[Nat.testBit_and,h i hi,hs i hi];rfl
theorem Mat.rankF {m:Bond} (M:Mat m):RankF m.rank:=by
 have hne:=M.good.ne
 have up:∀s i,m.rank s≤m.rank (ins s i):=fun s i=>by
  obtain⟨b,hb,e⟩:=rank_has hne s
  rw[←e]
  refine Nat.le_trans (size_mono fun j _ hj=>?_) (rank_le m hb)
  rw[Nat.testBit_and,Bool.and_eq_true] at hj ⊢
  exact⟨hj.1,sub_ins s i j hj.2⟩
 have unit:∀s i,i<8→m.rank (ins s i)≤m.rank s+1:=fun s i hi=>by
  obtain⟨b,hb,e⟩:=rank_has hne (ins s i)
  rw[←e]
  have h1:=rank_le m (s:=s) hb
  by_cases hz:(b&&&s).testBit i=true
  ·have:size (b&&&ins s i)≤size (b&&&s):=size_mono fun j _ hj=>by
    rw[Nat.testBit_and,tb_ins,Bool.and_eq_true,Bool.or_eq_true,decide_eq_true_eq] at hj
    rcases hj.2 with q|q
    ·rw[Nat.testBit_and,hj.1,q];rfl
    ·rw[←q];exact hz
   omega
  ·have hz:(b&&&s).testBit i=false:=by simpa using hz
   have h2:=size_ins hi hz
   have:size (b&&&ins s i)≤size (ins (b&&&s) i):=size_mono fun j _ hj=>by
    rw[Nat.testBit_and,tb_ins,Bool.and_eq_true,Bool.or_eq_true] at hj
    rw[tb_ins,Nat.testBit_and]
    rcases hj.2 with q|q
    ·rw[hj.1,q];rfl
    ·rw[q,Bool.or_true]
   omega
 have aug:∀(b1 b2 I J:Nat),b1∈m.bases→b2∈m.bases→Sub I b1→Sub J b2→size I<size J→∃j,j<8∧J.testBit j=true∧I.testBit j=false∧Lo m.bases (ins I j) :=
  fun b1 b2 I J h1 h2 h3 h4 h5=>aug_of (fun s hs=>M.good.lt8 hs) M.swaps _ b1 b2 I J h1 h2 h3 h4 rfl h5
 refine⟨?_,fun s i _ _=>up s i,fun s i _ hi=>unit s i hi,fun s x y hs hx hy h=>?_⟩
 ·have:=rank_le_size hne 0
  rw[size_zero] at this;omega
 ·refine Nat.le_antisymm ?_ (up _ _)
  refine Nat.le_of_not_lt fun hgt=>?_
  obtain⟨b,hb,eb⟩:=rank_has hne s
  obtain⟨b2,hb2,eb2⟩:=rank_has hne (ins (ins s y) x)
  have sI:Sub (b&&&s) b:=fun i hi=>by rw[Nat.testBit_and,Bool.and_eq_true] at hi;exact hi.1
  have sIs:Sub (b&&&s) s:=fun i hi=>by rw[Nat.testBit_and,Bool.and_eq_true] at hi;exact hi.2
  have sJ:Sub (b2&&&ins (ins s y) x) b2:=fun i hi=>by rw[Nat.testBit_and,Bool.and_eq_true] at hi;exact hi.1
  have inJ:∀j,(b2&&&ins (ins s y) x).testBit j=true→s.testBit j=true∨y=j∨x=j:=fun j hj=>by
   rw[Nat.testBit_and,tb_ins,tb_ins,Bool.and_eq_true,Bool.or_eq_true,Bool.or_eq_true,decide_eq_true_eq,decide_eq_true_eq] at hj
   rcases hj.2 with (q|q)|q
   ·exact .inl q
   ·exact .inr (.inl q)
   ·exact .inr (.inr q)
  have subIns:∀{I t j:Nat},Sub I t→t.testBit j=true→Sub (ins I j) t:=fun h hj i hi=>by
   rw[tb_ins,Bool.or_eq_true,decide_eq_true_eq] at hi
   rcases hi with hi|hi
   ·exact h i hi
   ·rw[←hi];exact hj
  have bitS:∀(t j:Nat),(ins t j).testBit j=true:=fun t j=>by rw[tb_ins];simp
  have tooS:∀j,j<8→(b&&&s).testBit j=false→Lo m.bases (ins (b&&&s) j)→∀t,Sub (ins (b&&&s) j) t→m.rank s+1≤m.rank t:=fun j hj hI ⟨c,hc,e⟩ t ht=>by
   have:=loose_le_rank hc e ht
   rw[size_ins hj hI] at this;omega
  have noS:∀j,j<8→s.testBit j=true→(b&&&s).testBit j=false→Lo m.bases (ins (b&&&s) j)→False:=fun j hj hs' hI hL=>by
   have:=tooS j hj hI hL s (subIns sIs hs');omega
  have noX:∀j,j<8→x=j→(b&&&s).testBit j=false→Lo m.bases (ins (b&&&s) j)→False:=fun j hj hx' hI hL=>by
   subst hx'
   have:=tooS x hj hI hL (ins s x) (subIns (fun i hi=>sub_ins s x i (sIs i hi)) (bitS s x));omega
  have hu:=unit s y hy
  have hu0:=up s y
  by_cases hy1:m.rank (ins s y)=m.rank s
  ·obtain⟨j,h1,h2,h3,h4⟩:=aug b b2 _ _ hb hb2 sI sJ (by omega)
   rcases inJ j h2 with q|q|q
   ·exact noS j h1 q h3 h4
   ·subst q
    have:=tooS y h1 h3 h4 (ins s y) (subIns (fun i hi=>sub_ins s y i (sIs i hi)) (bitS s y));omega
   ·exact noX j h1 q h3 h4
  ·obtain⟨b1,hb1,eb1⟩:=rank_has hne (ins s y)
   have sJ1:Sub (b1&&&ins s y) b1:=fun i hi=>by rw[Nat.testBit_and,Bool.and_eq_true] at hi;exact hi.1
   obtain⟨j,h1,h2,h3,h4⟩:=aug b b1 _ _ hb hb1 sI sJ1 (by omega)
   have hjy:y=j:=by
    rw[Nat.testBit_and,tb_ins,Bool.and_eq_true,Bool.or_eq_true,decide_eq_true_eq] at h2
    rcases h2.2 with q|q
    ·exact (noS j h1 q h3 h4).elim
    ·exact q
   subst hjy
   obtain⟨c,hc,ec⟩:=h4
   have sz:=size_ins h1 h3
   obtain⟨k,k1,k2,k3,d,hd,ed⟩:=aug c b2 _ _ hc hb2 ec sJ (by omega)
   rw[tb_ins,Bool.or_eq_false_iff,decide_eq_false_iff_not] at k3
   have hL:Lo m.bases (ins (b&&&s) k):=⟨d,hd,fun i hi=>ed i (by
    rw[tb_ins,Bool.or_eq_true] at hi
    rw[tb_ins,tb_ins,Bool.or_eq_true,Bool.or_eq_true]
    rcases hi with hi|hi
    ·exact .inl (.inl hi)
    ·exact .inr hi)⟩
   rcases inJ k k2 with q|q|q
   ·exact noS k k1 q k3.1 hL
   ·exact k3.2 q
   ·exact noX k k1 q k3.1 hL
theorem exists_new {a b:Nat} (h:size a<size b):∃j,j<8∧b.testBit j=true∧a.testBit j=false:=by
 refine Classical.byContradiction fun hn=>?_
 have:size b≤size a:=size_mono fun i hi hb=>by
  cases e:a.testBit i with
  |true=>rfl
  |false=>exact (hn ⟨i,hi,hb,e⟩).elim
 omega
theorem mem_byLoose {n:Nat} {f:Nat→Bool} {b:Nat} (hx:∃c,c<2^n∧f c=true):b∈(byLoose n f).bases↔b<2^n∧f b=true∧∀c,c<2^n→f c=true→size c≤size b:=by
 unfold byLoose
 dsimp only
 obtain⟨_,h2,h3⟩:=foldl_max_ge (((sets n).filter f).map size) 0
 rw[List.mem_filter,List.mem_filter,mem_sets,beq_iff_eq]
 have up:∀c,c<2^n→f c=true→size c≤(((sets n).filter f).map size).foldl max 0:=fun c hc hf =>
  h2 _ (List.mem_map.mpr ⟨c,List.mem_filter.mpr ⟨mem_sets.mpr hc,hf⟩,rfl⟩)
 constructor
 ·rintro⟨⟨hb,hf⟩,e⟩
  exact⟨hb,hf,fun c hc hf=>by rw[e];exact up c hc hf⟩
 ·rintro⟨hb,hf,hm⟩
  refine⟨⟨hb,hf⟩,Nat.le_antisymm (up b hb hf) ?_⟩
  rcases h3 with e|e
  ·rw[e];exact Nat.zero_le _
  ·obtain⟨c,hc,ec⟩:=List.mem_map.mp e
   rw[←ec]
   exact hm c (mem_sets.mp (List.mem_filter.mp hc).1) (List.mem_filter.mp hc).2
section
variable {n : Nat} {f : Nat → Bool}
theorem Ind.some (H:Ind n (fun s=>f s=true)):∃c,c<2^n∧f c=true:=⟨0,Nat.two_pow_pos n,H.zero⟩
theorem Ind.good (hn:n≤8) (H:Ind n (fun s=>f s=true)):Good (byLoose n f):=good_byLoose hn (Nat.two_pow_pos n) H.zero
theorem Ind.mat (hn:n≤8) (H:Ind n (fun s=>f s=true)):Mat (byLoose n f) where
 good:=H.good hn
 swaps:=fun a ha b hb i hi hai hbi=>by
  obtain⟨a1,a2,a3⟩:=(mem_byLoose H.some).mp ha
  obtain⟨b1,b2,b3⟩:=(mem_byLoose H.some).mp hb
  have hs:Sub (a-2^i) a:=fun k hk=>by rw[testBit_sub hai,Bool.and_eq_true] at hk;exact hk.1
  have la:a-2^i<2^n:=Nat.lt_of_le_of_lt (Nat.sub_le _ _) a1
  have sz:=size_sub hi hai
  have:=a3 b b1 b2
  have:=b3 a a1 a2
  obtain⟨j,j1,j2,j3,j4⟩:=H.aug (a-2^i) b la b1 (H.down _ _ a1 a2 hs) b2 (by omega)
  have hij:¬i=j:=fun q=>by subst q;rw[j2] at hbi;cases hbi
  have haj:a.testBit j=false:=by
   rw[testBit_sub hai] at j3
   simpa [hij] using j3
  have e:a-2^i+2^j=ins (a-2^i) j:=add_pow_eq_or j3
  refine⟨j,by omega,j2,haj,(mem_byLoose H.some).mpr ?_⟩
  rw[e]
  refine⟨ins_lt la j1,j4,fun c hc hf=>?_⟩
  rw[size_ins (by omega) j3]
  have:=a3 c hc hf
  omega
end
theorem ind_any (n r:Nat) (hn:n≤8):Ind n (fun t=>decide (size t≤r)=true) where
 zero:=by rw[size_zero];simp
 down:=fun a b _ h hs=>by
  rw[decide_eq_true_eq] at h ⊢
  exact Nat.le_trans (size_sub_le hs) h
 aug:=fun a b ha hb h1 h2 hlt=>by
  obtain⟨j,j1,j2,j3⟩:=exists_new hlt
  refine⟨j,bit_in hb j2,j2,j3,?_⟩
  rw[decide_eq_true_eq] at h2 ⊢
  rw[size_ins j1 j3];omega
theorem mat_any {n r:Nat} (hn:n≤8):Mat (byLoose n fun t=>decide (size t≤r)):=(ind_any n r hn).mat hn
theorem mat_bases {n:Nat} {l:List Nat} (hn:n≤8) (h:right (tidy n l)=true):Mat ⟨n,tidy n l⟩:=⟨good_bases hn h,((right_iff _).mp h).2⟩
theorem mat_empty:Mat BindNs.empty:=⟨good_empty,by
 intro a ha b hb i hi hai hbi
 have:a=0:=List.mem_singleton.mp ha
 rw[this,Nat.zero_testBit] at hai;cases hai⟩
section
variable {m k : Bond}
theorem common_fold (P:Nat→Bool) (h0:P 0=true):∀N,let c:=(List.range N).foldl (fun (b s:Nat)=>if P s=true∧size b<size s then s else b) 0
  P c=true∧(c=0∨c<N)∧∀s,s<N→P s=true→size s≤size c∧(size s=size c→c≤s)
 |0=>⟨h0,.inl rfl,fun s h=>absurd h (Nat.not_lt_zero s)⟩
 |N+1=>by
  have ih:=common_fold P h0 N
  dsimp only at ih ⊢
  rw[List.range_succ,List.foldl_append,List.foldl_cons,List.foldl_nil]
  generalize (List.range N).foldl (fun (b s:Nat)=>if P s=true∧size b<size s then s else b) 0=c at ih ⊢
  obtain⟨i1,i2,i3⟩:=ih
  by_cases h:P N=true∧size c<size N
  ·rw[if_pos h]
   refine⟨h.1,.inr (Nat.lt_succ_self N),fun s hs hP=>?_⟩
   by_cases e:s=N
   ·subst e;exact⟨Nat.le_refl _,fun _=>Nat.le_refl _⟩
   ·have:=(i3 s (by omega) hP).1
    exact⟨by omega,fun q=>by omega⟩
  ·rw[if_neg h]
   refine⟨i1,by omega,fun s hs hP=>?_⟩
   by_cases e:s=N
   ·subst e
    have:size s≤size c:=Nat.le_of_not_lt fun q=>h ⟨hP,q⟩
    exact⟨this,fun _=>by omega⟩
   ·exact i3 s (by omega) hP
theorem common_ok (hm:m.bases≠[]) (hk:k.bases≠[]):common m k<2^m.n∧m.loose (common m k)=true∧k.loose (common m k)=true ∧
  ∀s,s<2^m.n→m.loose s=true→k.loose s=true→size s≤size (common m k)∧(size s=size (common m k)→common m k≤s):=by
 have h:=common_fold (fun s=>m.loose s&&k.loose s) (by rw[loose_zero hm,loose_zero hk];rfl) (2^m.n)
 dsimp only at h
 have e:common m k=(List.range (2^m.n)).foldl (fun (b s:Nat)=>if (m.loose s&&k.loose s)=true∧size b<size s then s else b) 0:=rfl
 rw[←e] at h
 obtain⟨h1,h2,h3⟩:=h
 rw[Bool.and_eq_true] at h1
 refine⟨?_,h1.1,h1.2,fun s hs a b=>h3 s hs (by rw[a,b];rfl)⟩
 rcases h2 with q|q
 ·rw[q];exact Nat.two_pow_pos _
 ·exact q
theorem common_le (hm:m.bases≠[]) (hk:k.bases≠[]) (hn:m.n≤8) {c A:Nat} (hc:c<2^m.n) (h1:m.loose c=true) (h2:k.loose c=true):size c≤m.rank A+k.rank (less (all m.n) A):=by
 have c8:=lt256 hn hc
 obtain⟨b,hb,e⟩:=(loose_iff hm c8).mp h1
 obtain⟨d,hd,e'⟩:=(loose_iff hk c8).mp h2
 have s1:=(sub_iff c8).mp e
 have s2:=(sub_iff c8).mp e'
 have p1:size (c&&&A)≤m.rank A:=loose_le_rank hb (fun i hi=>by rw[Nat.testBit_and,Bool.and_eq_true] at hi;exact s1 i hi.1) (fun i hi=>by rw[Nat.testBit_and,Bool.and_eq_true] at hi;exact hi.2)
 have p2:size (less c A)≤k.rank (less (all m.n) A):=loose_le_rank hd (fun i hi=>by rw[testBit_less,Bool.and_eq_true,Bool.and_eq_true] at hi;exact s2 i hi.2.1) (fun i hi=>by
  rw[testBit_less,Bool.and_eq_true,Bool.and_eq_true] at hi
  rw[testBit_less,hi.1,hi.2.2]
  unfold all
  rw[Nat.testBit_two_pow_sub_one,decide_eq_true (bit_in hc hi.2.1)]
  rfl)
 have:=size_less (a:=c) (b:=A) c8
 omega
theorem all_lt (n:Nat):all n<2^n:=Nat.sub_lt (Nat.two_pow_pos n) (by decide)
theorem sub_all {n s:Nat} (h:Sub s (all n)):s<2^n:=Nat.lt_pow_two_of_testBit s fun i hi=>by
 cases e:s.testBit i with
 |false=>rfl
 |true =>
  have:=bit_in (all_lt n) (h i e);omega
theorem shows_some (M:Mat m) (K:Mat k) (hnk:m.n=k.n):∃A,A<2^m.n∧m.rank A+k.rank (less (all m.n) A)=size (common m k):=by
 have hE:=lt256 M.good.n8 (all_lt m.n)
 obtain⟨I,A,i1,i2,i3,i4,i5⟩:=inter _ (all m.n) m.rank k.rank M.rankF K.rankF hE rfl
 have hI:=sub_all i1
 have hA:=sub_all i2
 obtain⟨c1,c2,c3,c4⟩:=common_ok M.good.ne K.good.ne
 have l1:m.loose I=true:=by unfold Bond.loose;rw[i3];exact beq_self_eq_true _
 have l2:k.loose I=true:=by unfold Bond.loose;rw[i4];exact beq_self_eq_true _
 have g:=(c4 I hI l1 l2).1
 have le:=common_le (A:=A) M.good.ne K.good.ne M.good.n8 c1 c2 c3
 exact⟨A,hA,by omega⟩
end
theorem comb_sublist {l l':List (List Int)} (h:l.Sublist l'):∀cs:List Int,cs.length=l.length→∃cs':List Int,cs'.length=l'.length∧(∀i,comb cs l i=comb cs' l' i)∧∀c,c∈cs→c∈cs':=by
 induction h with
 |slnil=>intro cs h;exact⟨cs,h,fun _=>rfl,fun _ h=>h⟩
 |cons x _ ih =>
  intro cs hl
  obtain⟨cs',h1,h2,h3⟩:=ih cs hl
  refine⟨0::cs',by simp [h1],fun i=>?_,fun c hc=>List.mem_cons_of_mem _ (h3 c hc)⟩
  show _=0*_+_
  rw[h2];omega
 |cons_cons x _ ih =>
  intro cs hl
  match cs,hl with
  |c::cs,hl =>
   obtain⟨cs',h1,h2,h3⟩:=ih cs (by simpa using hl)
   refine⟨c::cs',by simp [h1],fun i=>?_,fun d hd=>?_⟩
   ·show _+_=_+_;rw[h2]
   ·rcases List.mem_cons.mp hd with rfl|hd
    ·exact List.mem_cons_self
    ·exact List.mem_cons_of_mem _ (h3 d hd)
theorem Dep.sublist {p n:Nat} {l l':List (List Int)} (h:l.Sublist l'):Dep p n l→Dep p n l':=fun⟨cs,h1,⟨c,hc,hz⟩,h3⟩=>by
 obtain⟨cs',a1,a2,a3⟩:=comb_sublist h cs h1
 exact⟨cs',a1,⟨c,a3 c hc,hz⟩,fun i hi=>by rw[←a2];exact h3 i hi⟩
def InSpan (p n:Nat) (I:List (List Int)) (r:List Int):Prop:=∃(d:Int) (cs:List Int),¬Z p d∧cs.length=I.length∧∀i,i<n→Z p (d*r.getD i 0-comb cs I i)
theorem comb_add:∀(cs ds:List Int) (l:List (List Int)) (i:Nat),cs.length=l.length→ds.length=l.length→comb (List.zipWith (·+·) cs ds) l i=comb cs l i+comb ds l i
 |[],[],[],i,_,_=>rfl
 |[],_::_,[],i,_,h=>by simp at h
 |_::_,_,[],i,h,_=>by simp at h
 |[],_,_::_,i,h,_=>by simp at h
 |_::_,[],_::_,i,_,h=>by simp at h
 |c::cs,d::ds,r::l,i,h1,h2=>by
  show (c+d)*_+comb (List.zipWith (·+·) cs ds) l i=c*_+comb cs l i+(d*_+comb ds l i)
  rw[comb_add cs ds l i (by simpa using h1) (by simpa using h2),Int.add_mul];omega
theorem steinitz {p n:Nat} (hp:Pr p):∀(I J:List (List Int)),(∀r,r∈J→InSpan p n I r)→I.length<J.length→Dep p n J
 |[],J,h,hl=>by
  match J,hl with
  |r::J,_ =>
   obtain⟨d,cs,hd,_,h3⟩:=h r List.mem_cons_self
   refine dep_zero_row hp fun i hi=>?_
   have e:comb cs [] i=0:=by cases cs<;>rfl
   have:=h3 i hi
   rw[e,Int.sub_zero] at this
   rcases dom hp this with q|q
   ·exact absurd q hd
   ·exact q
 |q::I,J,h,hl=>by
  by_cases hall:∀r,r∈J→InSpan p n I r
  ·exact steinitz hp I J hall (by simp at hl;omega)
  ·obtain⟨r0,hr0,hno⟩:∃r0,r0∈J∧¬InSpan p n I r0:=by
    refine Classical.byContradiction fun hn=>hall fun r hr=>Classical.byContradiction fun q=>hn ⟨r,hr,q⟩
   obtain⟨d0,cs0,hd0,hl0,h0⟩:=h r0 hr0
   match cs0,hl0 with
   |c0::cs0,hl0 =>
    have hc0:¬Z p c0:=fun hz=>hno ⟨d0,cs0,hd0,by simpa using hl0,fun i hi=>by
     have:=h0 i hi
     have a:Z p (d0*r0.getD i 0-(c0*q.getD i 0+comb cs0 I i)):=this
     have b:=Z.add a (Z.mulr (q.getD i 0) hz)
     have e:d0*r0.getD i 0-(c0*q.getD i 0+comb cs0 I i)+c0*q.getD i 0=d0*r0.getD i 0-comb cs0 I i:=by omega
     rwa [e] at b⟩
    obtain⟨k,hk⟩:=List.mem_iff_getElem?.mp hr0
    have pm:=perm_erase hk
    have hlen:(J.eraseIdx k).length+1=J.length:=by have:=pm.length_eq;simp at this;omega
    have hr:∀r,r∈J.eraseIdx k→∃x y:Int,¬Z p x∧InSpan p n I (mix n x y r r0):=fun r hr=>by
     obtain⟨d,cs,hd,hl',h'⟩:=h r (List.mem_of_mem_eraseIdx hr)
     match cs,hl' with
     |c::cs,hl' =>
      refine⟨c0*d,c*d0,fun z=>?_,1,List.zipWith (·+·) (cs.map (c0*·)) (cs0.map (-c*·)),Z_one hp,?_,fun i hi=>?_⟩
      ·rcases dom hp z with z|z
       ·exact hc0 z
       ·exact hd z
      ·simp at hl' hl0 ⊢;omega
      ·have a:Z p (d*r.getD i 0-(c*q.getD i 0+comb cs I i)):=h' i hi
       have b:Z p (d0*r0.getD i 0-(c0*q.getD i 0+comb cs0 I i)):=h0 i hi
       rw[getD_mix hi,comb_add _ _ _ _ (by simp at hl' ⊢;omega) (by simp at hl0 ⊢;omega),comb_smul,comb_smul,Int.one_mul]
       have:=Z.sub (Z.mull c0 a) (Z.mull c b)
       have e:c0*(d*r.getD i 0-(c*q.getD i 0+comb cs I i))-c*(d0*r0.getD i 0-(c0*q.getD i 0+comb cs0 I i))=c0*d*r.getD i 0-c*d0*r0.getD i 0-(c0*comb cs I i+-c*comb cs0 I i):=by
        generalize r.getD i 0=R;generalize r0.getD i 0=R0;generalize q.getD i 0=Q;generalize comb cs I i=C;generalize comb cs0 I i=C0
        simp only [Int.mul_sub,Int.mul_add,Int.mul_assoc,Int.neg_mul]
        have e1:c0*(c*Q)=c*(c0*Q):=by rw[←Int.mul_assoc,Int.mul_comm c0 c,Int.mul_assoc]
        omega
       rwa [e] at this
    have hx:∃X Y:List Int→Int,∀r,r∈J.eraseIdx k→¬Z p (X r)∧InSpan p n I (mix n (X r) (Y r) r r0):=by
     refine⟨fun r=>if hm:r∈J.eraseIdx k then Classical.choose (hr r hm) else 0,fun r=>if hm:r∈J.eraseIdx k then Classical.choose (Classical.choose_spec (hr r hm)) else 0,fun r hm=>?_⟩
     simp only [dif_pos hm]
     exact Classical.choose_spec (Classical.choose_spec (hr r hm))
    obtain⟨X,Y,hXY⟩:=hx
    have ih:=steinitz hp I ((J.eraseIdx k).map fun r=>mix n (X r) (Y r) r r0) (fun r hr=>by
     obtain⟨r1,h1,rfl⟩:=List.mem_map.mp hr
     exact (hXY r1 h1).2) (by rw[List.length_map];simp at hl;omega)
    refine Dep.perm pm.symm ?_
    have key:∀(l:List (List Int)) (cs:List Int),cs.length=l.length→(∀r,r∈l→¬Z p (X r))→∃(a:Int) (ds:List Int),ds.length=l.length∧(∀i,i<n→comb cs (l.map fun r=>mix n (X r) (Y r) r r0) i=a*r0.getD i 0+comb ds l i)∧∀c,c∈cs→¬Z p c→∃d,d∈ds∧¬Z p d:=by
     intro l
     induction l with
     |nil=>intro cs hl _;exact⟨0,[],rfl,fun i _=>(by cases cs<;>simp [comb]),fun c hc=>(by have:cs=[]:=List.length_eq_zero_iff.mp (by simpa using hl);rw[this] at hc;cases hc)⟩
     |cons r l ihl =>
      intro cs hl hX
      match cs,hl with
      |c::cs,hl =>
       obtain⟨a,ds,e1,e2,e3⟩:=ihl cs (by simpa using hl) fun r' h'=>hX r' (List.mem_cons_of_mem _ h')
       refine⟨a-c*Y r,(c*X r)::ds,by simp [e1],fun i hi=>?_,fun c' hc' hz=>?_⟩
       ·show c*(mix n (X r) (Y r) r r0).getD i 0+comb cs _ i=_+(c*X r*r.getD i 0+comb ds l i)
        rw[e2 i hi,getD_mix hi,Int.mul_sub,Int.sub_mul,Int.mul_assoc,Int.mul_assoc];omega
       ·rcases List.mem_cons.mp hc' with rfl|hc'
        ·refine⟨_,List.mem_cons_self,fun z=>?_⟩
         rcases dom hp z with z|z
         ·exact hz z
         ·exact hX r List.mem_cons_self z
        ·obtain⟨d,h1,h2⟩:=e3 c' hc' hz
         exact⟨d,List.mem_cons_of_mem _ h1,h2⟩
    obtain⟨cs,g1,⟨c,hc,hz⟩,g3⟩:=ih
    rw[List.length_map] at g1
    obtain⟨a,ds,e1,e2,e3⟩:=key _ cs g1 fun r hr'=>(hXY r hr').1
    obtain⟨d,hd1,hd2⟩:=e3 c hc hz
    refine⟨a::ds,by simp [e1],⟨d,List.mem_cons_of_mem _ hd1,hd2⟩,fun i hi=>?_⟩
    show Z p (a*r0.getD i 0+comb ds (J.eraseIdx k) i)
    rw[←e2 i hi];exact g3 i hi
def sel (R:List (List Int)) (s:Nat):List (List Int):=(things s).map fun i=>R.getD i []
theorem sel_length (R:List (List Int)) (s:Nat):(sel R s).length=size s:=by unfold sel size;rw[List.length_map]
theorem things_sublist {a b:Nat} (h:Sub a b):(things a).Sublist (things b):=by
 have:things a=(things b).filter a.testBit:=by
  unfold things
  rw[List.filter_filter]
  refine List.filter_congr fun i _=>?_
  cases e:a.testBit i with
  |false=>rfl
  |true=>rw[h i e];rfl
 rw[this];exact List.filter_sublist
theorem things_perm {a j:Nat} (hj:j<8) (h:a.testBit j=false):(things (ins a j)).Perm (j::things a):=by
 have nd:∀s,(things s).Nodup:=fun s=>by unfold things;exact List.nodup_range.filter _
 refine (List.perm_ext_iff_of_nodup (nd _) (List.nodup_cons.mpr ⟨fun q=>(by rw[(mem_things.mp q).2] at h;cases h),nd a⟩)).mpr fun x=>?_
 rw[mem_things,List.mem_cons,mem_things,tb_ins,Bool.or_eq_true,decide_eq_true_eq]
 constructor
 ·rintro⟨h1,h2|h2⟩
  ·exact .inr ⟨h1,h2⟩
  ·exact .inl h2.symm
 ·rintro (h1|h1)
  ·subst h1;exact⟨hj,.inr rfl⟩
  ·exact⟨h1.1,.inl h1.2⟩
theorem span_mem {p n:Nat} (hp:Pr p):∀{I:List (List Int)} {r:List Int},r∈I→InSpan p n I r
 |q::I,r,h=>by
  rcases List.mem_cons.mp h with rfl|h
  ·refine⟨1,1::List.replicate I.length 0,Z_one hp,by simp,fun i _=>?_⟩
   show Z p (1*r.getD i 0-(1*r.getD i 0+comb _ I i))
   rw[comb_replicate_zero,Int.add_zero,Int.sub_self];exact Z.zero
  ·obtain⟨d,cs,h1,h2,h3⟩:=span_mem hp h
   refine⟨d,0::cs,h1,by simp [h2],fun i hi=>?_⟩
   show Z p (d*r.getD i 0-(0*q.getD i 0+comb cs I i))
   rw[Int.zero_mul,Int.zero_add];exact h3 i hi
theorem span_of_dep {p n:Nat} {I:List (List Int)} {r:List Int} (h:Dep p n (r::I)) (hI:¬Dep p n I):InSpan p n I r:=by
 obtain⟨cs,h1,⟨d,hd,hz⟩,h3⟩:=h
 match cs,h1 with
 |c::cs,h1 =>
  have hc:¬Z p c:=fun zc=>hI ⟨cs,by simpa using h1,by
   rcases List.mem_cons.mp hd with rfl|hd
   ·exact absurd zc hz
   ·exact⟨d,hd,hz⟩,fun i hi=>by
    have a:Z p (c*r.getD i 0+comb cs I i):=h3 i hi
    have b:=Z.sub a (Z.mulr (r.getD i 0) zc)
    have e:c*r.getD i 0+comb cs I i-c*r.getD i 0=comb cs I i:=by omega
    rwa [e] at b⟩
  refine⟨c,cs.map (-1*·),hc,by simpa using h1,fun i hi=>?_⟩
  rw[comb_smul]
  have a:Z p (c*r.getD i 0+comb cs I i):=h3 i hi
  have e:c*r.getD i 0 - -1*comb cs I i=c*r.getD i 0+comb cs I i:=by omega
  rw[e];exact a
theorem ind_sel {p k n:Nat} (hp:Pr p) (hn:n≤8) (R:List (List Int)):Ind n (fun s=>¬Dep p k (sel R s)) where
 zero:=by
  have:sel R 0=[]:=by
   unfold sel
   have:things 0=[]:=by decide +kernel
   rw[this];rfl
  rw[this];exact dep_nil
 down:=fun a b _ h hs hd=>h (Dep.sublist ((things_sublist hs).map _) hd)
 aug:=fun a b ha hb h1 h2 hlt=>by
  refine Classical.byContradiction fun hno=>h2 ?_
  refine steinitz hp (sel R a) (sel R b) (fun r hr=>?_) (by rw[sel_length,sel_length];exact hlt)
  obtain⟨j,hj,rfl⟩:=List.mem_map.mp hr
  obtain⟨hj8,hbj⟩:=mem_things.mp hj
  cases haj:a.testBit j with
  |true=>exact span_mem hp (List.mem_map.mpr ⟨j,mem_things.mpr ⟨hj8,haj⟩,rfl⟩)
  |false =>
   have hd:Dep p k (sel R (ins a j)):=Classical.byContradiction fun q=>hno ⟨j,bit_in hb hbj,hbj,haj,q⟩
   exact span_of_dep (Dep.perm ((things_perm hj8 haj).map _) hd) h1
theorem sub_lt {n a b:Nat} (hb:b<2^n) (h:Sub a b):a<2^n:=Nat.lt_pow_two_of_testBit a fun i hi=>by
 cases e:a.testBit i with
 |false=>rfl
 |true=>have:=bit_in hb (h i e);omega
theorem Ind.congr {n:Nat} {f g:Nat→Prop} (h:∀s,s<2^n→(f s↔g s)) (H:Ind n f):Ind n g where
 zero:=(h 0 (Nat.two_pow_pos n)).mp H.zero
 down:=fun a b hb hg hs=>(h a (sub_lt hb hs)).mp (H.down a b hb ((h b hb).mpr hg) hs)
 aug:=fun a b ha hb h1 h2 hlt=>by
  obtain⟨j,j1,j2,j3,j4⟩:=H.aug a b ha hb ((h a ha).mpr h1) ((h b hb).mpr h2) hlt
  exact⟨j,j1,j2,j3,(h _ (ins_lt ha j1)).mp j4⟩
theorem sel_map (p:Nat) (l:List (List Int)) (s:Nat):sel (l.map fun r=>r.map (lower p)) s=(things s).map fun i=>(l.getD i []).map (lower p):=by
 unfold sel
 refine List.map_congr_left fun i _=>?_
 rw[List.getD_eq_getElem?_getD,List.getElem?_map,List.getD_eq_getElem?_getD]
 cases l[i]?<;>rfl
theorem rows_dep {p k s:Nat} (hp:Pr p) {l:List (List Int)} (hl:∀r,r∈l→r.length=k) (hs:s<2^l.length) :
  (rowRank p k ((things s).map fun i=>(l.getD i []).map (lower p))==size s)=true↔¬Dep p k (sel (l.map fun r=>r.map (lower p)) s):=by
 rw[sel_map,beq_iff_eq]
 have hlen:((things s).map fun i=>(l.getD i []).map (lower p)).length=size s:=by rw[List.length_map];rfl
 rw[←hlen]
 refine rowRank_dep hp k _ (fun r hr=>?_) (fun r hr=>?_)
 ·obtain⟨i,hi,rfl⟩:=List.mem_map.mp hr
  have hil:=bit_in hs (mem_things.mp hi).2
  rw[List.length_map,List.getD_eq_getElem?_getD,List.getElem?_eq_getElem hil]
  exact hl _ (List.getElem_mem hil)
 ·obtain⟨i,hi,rfl⟩:=List.mem_map.mp hr
  exact redR_map p _
theorem ind_rows {p k:Nat} (hp:Pr p) {l:List (List Int)} (hl:∀r,r∈l→r.length=k) (h8:l.length≤8) :
  Ind l.length (fun s=>(rowRank p k ((things s).map fun i=>(l.getD i []).map (lower p))==size s)=true) :=
 (ind_sel (k:=k) hp h8 (l.map fun r=>r.map (lower p))).congr fun s hs=>(rows_dep hp hl hs).symm
theorem mat_rows {p k:Nat} (hp:Pr p) {l:List (List Int)} (hl:∀r,r∈l→r.length=k) (h8:l.length≤8):Mat (ofRows p k l):=(ind_rows hp hl h8).mat h8
def del (a:Nat) (i:Nat):Int:=if i=a then 1 else 0
def vec (e:Nat×Nat):List Int:=(List.range 12).map fun i=>del e.1 i-del e.2 i
theorem getD_vec {e:Nat×Nat} {i:Nat} (hi:i<12):(vec e).getD i 0=del e.1 i-del e.2 i:=by
 unfold vec
 rw[List.getD_eq_getElem?_getD,List.getElem?_map,List.getElem?_range hi];rfl
def Made (F:List (List Int)) (x:Nat→Int):Prop:=∃cs:List Int,cs.length=F.length∧∀i,i<12→comb cs F i=x i
theorem Made.add {F:List (List Int)} {x y:Nat→Int}:Made F x→Made F y→Made F (fun i=>x i+y i):=fun⟨cs,h1,h2⟩ ⟨ds,g1,g2⟩ =>
 ⟨List.zipWith (·+·) cs ds,by simp [h1,g1],fun i hi=>by rw[comb_add cs ds F i h1 g1,h2 i hi,g2 i hi]⟩
theorem Made.neg {F:List (List Int)} {x:Nat→Int}:Made F x→Made F (fun i=>- x i):=fun⟨cs,h1,h2⟩ =>
 ⟨cs.map (-1*·),by simp [h1],fun i hi=>by rw[comb_smul,h2 i hi];show -1*x i=- x i;omega⟩
theorem Made.zero (F:List (List Int)):Made F (fun _=>0):=⟨List.replicate F.length 0,by simp,fun i _=>comb_replicate_zero F F.length i⟩
theorem comb_app:∀(cs:List Int) (F:List (List Int)) (c:Int) (r:List Int) (i:Nat),cs.length=F.length→comb (cs++[c]) (F++[r]) i=comb cs F i+c*r.getD i 0
 |[],[],c,r,i,_=>by simp [comb]
 |d::cs,[],c,r,i,h=>by simp at h
 |[],q::F,c,r,i,h=>by simp at h
 |d::cs,q::F,c,r,i,h=>by
  show d*q.getD i 0+comb (cs++[c]) (F++[r]) i=d*q.getD i 0+comb cs F i+c*r.getD i 0
  rw[comb_app cs F c r i (by simpa using h)];omega
theorem Made.more {F:List (List Int)} {x:Nat→Int} (r:List Int):Made F x→Made (F++[r]) x:=fun⟨cs,h1,h2⟩ =>
 ⟨cs++[0],by simp [h1],fun i hi=>by rw[comb_app cs F 0 r i h1,h2 i hi];omega⟩
theorem Made.last (F:List (List Int)) (r:List Int):Made (F++[r]) (fun i=>r.getD i 0):=⟨List.replicate F.length 0++[1],by simp,fun i _=>by
 rw[comb_app _ F 1 r i (by simp),comb_replicate_zero];show 0+1*r.getD i 0=r.getD i 0;omega⟩
theorem dep_made {F:List (List Int)} {r:List Int} (o:List (List Int)) (h:Made F (fun i=>r.getD i 0)):Dep 0 12 (F++r::o):=by
 obtain⟨cs,h1,h2⟩:=h
 have hd:Dep 0 12 (F++[r]):=⟨cs++[-1],by simp [h1],⟨-1,by simp,by decide⟩,fun i hi=>by
  rw[comb_app cs F (-1) r i h1,h2 i hi]
  show Z 0 (r.getD i 0+-1*r.getD i 0)
  exact⟨0,by omega⟩⟩
 refine Dep.sublist ?_ hd
 exact List.Sublist.append_left (List.Sublist.cons_cons _ (List.nil_sublist o)) F
def colsum (φ:Nat→Bool) (x:Nat→Int):List Nat→Int
 |[]=>0
 |i::l=>(if φ i=true then x i else 0)+colsum φ x l
theorem colsum_lin (φ:Nat→Bool) (c:Int) (x y:Nat→Int):∀l,colsum φ (fun i=>c*x i+y i) l=c*colsum φ x l+colsum φ y l
 |[]=>by simp [colsum]
 |i::l=>by
  show (if φ i=true then c*x i+y i else 0)+colsum φ (fun i=>c*x i+y i) l=c*((if φ i=true then x i else 0)+colsum φ x l)+((if φ i=true then y i else 0)+colsum φ y l)
  rw[colsum_lin φ c x y l,Int.mul_add]
  split<;>omega
theorem colsum_comb (φ:Nat→Bool) (l:List Nat):∀(cs:List Int) (F:List (List Int)),(∀r,r∈F→colsum φ (fun i=>r.getD i 0) l=0)→colsum φ (fun i=>comb cs F i) l=0
 |[],F,_=>by
  have:∀l,colsum φ (fun i=>comb [] F i) l=0:=by
   intro l
   induction l with
   |nil=>rfl
   |cons i l ih =>
    show (if φ i=true then comb [] F i else 0)+_=0
    rw[ih]
    have:comb [] F i=0:=by cases F<;>rfl
    rw[this];split<;>rfl
  exact this l
 |c::cs,[],_=>by
  have:∀l,colsum φ (fun i=>comb (c::cs) [] i) l=0:=by
   intro l
   induction l with
   |nil=>rfl
   |cons i l ih=>show (if φ i=true then (0:Int) else 0)+_=0;rw[ih];split<;>rfl
  exact this l
 |c::cs,r::F,h=>by
  show colsum φ (fun i=>c*r.getD i 0+comb cs F i) l=0
  rw[colsum_lin,h r List.mem_cons_self,colsum_comb φ l cs F fun r' h'=>h r' (List.mem_cons_of_mem _ h')]
  omega
theorem colsum_congr {φ:Nat→Bool} {x y:Nat→Int}:∀{l:List Nat},(∀i,i∈l→x i=y i)→colsum φ x l=colsum φ y l
 |[],_=>rfl
 |i::l,h=>by
  show (if φ i=true then x i else 0)+_=(if φ i=true then y i else 0)+_
  rw[h i List.mem_cons_self,colsum_congr fun j hj=>h j (List.mem_cons_of_mem _ hj)]
theorem colsum_del (φ:Nat→Bool) (a:Nat):∀l:List Nat,l.Nodup→colsum φ (del a) l=if a∈l∧φ a=true then 1 else 0
 |[],_=>by simp [colsum]
 |i::l,h=>by
  obtain⟨h1,h2⟩:=List.nodup_cons.mp h
  show (if φ i=true then del a i else 0)+colsum φ (del a) l=_
  rw[colsum_del φ a l h2]
  unfold del
  by_cases e:i=a
  ·subst e
   by_cases hf:φ i=true
   ·simp [hf,h1]
   ·simp [hf]
  ·have e':¬a=i:=fun q=>e q.symm
   simp [e,e']
theorem colsum_sub (φ:Nat→Bool) (a b:Nat):colsum φ (fun i=>del a i-del b i) (List.range 12)=colsum φ (del a) (List.range 12)-colsum φ (del b) (List.range 12):=by
 have:=colsum_lin φ (-1) (del b) (del a) (List.range 12)
 rw[colsum_congr (y:=fun i=>-1*del b i+del a i) (fun i _=>by omega),this];omega
theorem colsum_vec {φ:Nat→Bool} {e:Nat×Nat} (h1:e.1<12) (h2:e.2<12):colsum φ (fun i=>(vec e).getD i 0) (List.range 12)=(if φ e.1=true then 1 else 0)-(if φ e.2=true then 1 else 0):=by
 rw[colsum_congr (y:=fun i=>del e.1 i-del e.2 i) (fun i hi=>getD_vec (List.mem_range.mp hi)),colsum_sub,colsum_del _ _ _ List.nodup_range,colsum_del _ _ _ List.nodup_range]
 simp [List.mem_range,h1,h2]
theorem shut_dep:∀(es done:List (Nat×Nat)) (m:List Nat),m.length=12→(∀e,e∈done++es→e.1<12∧e.2<12)→(∀e,e∈done→m.getD e.1 0=m.getD e.2 0) →
  (∀u v,u<12→v<12→m.getD u 0=m.getD v 0→Made (done.map vec) (fun i=>del u i-del v i))→¬Dep 0 12 (done.map vec)→(shut m es=true↔Dep 0 12 ((done++es).map vec))
 |[],done,m,_,_,_,_,hd=>by
  rw[List.append_nil]
  exact⟨fun h=>(by cases h),fun h=>absurd h hd⟩
 |(a,b)::es,done,m,hm,he,h1,h2,hd=>by
  obtain⟨ha,hb⟩:=he (a,b) (by simp)
  have ha:a<12:=ha
  have hb:b<12:=hb
  have hp0:Pr 0:=.inl rfl
  show (if m.getD a 0=m.getD b 0 then true else shut (m.map fun k=>if k=m.getD b 0 then m.getD a 0 else k) es)=true↔_
  by_cases hab:m.getD a 0=m.getD b 0
  ·rw[if_pos hab]
   refine⟨fun _=>?_,fun _=>rfl⟩
   rw[List.map_append]
   refine dep_made (es.map vec) ?_
   obtain⟨cs,c1,c2⟩:=h2 a b ha hb hab
   exact⟨cs,c1,fun i hi=>(c2 i hi).trans (getD_vec (e:=(a,b)) hi).symm⟩
  ·rw[if_neg hab]
   have ih:=shut_dep es (done++[(a,b)]) (m.map fun k=>if k=m.getD b 0 then m.getD a 0 else k) (by rw[List.length_map];exact hm) (fun e h=>he e (by simpa using h)) (fun e h=>?_) (fun u v hu hv h=>?_) ?_
   ·rw[ih];simp
   ·rw[getD_map_nat _ (by have:=(he e (by simp at h ⊢;rcases h with h|h;exact .inl h;exact .inr (.inl h))).1;omega),getD_map_nat _ (by have:=(he e (by simp at h ⊢;rcases h with h|h;exact .inl h;exact .inr (.inl h))).2;omega)]
    rcases List.mem_append.mp h with h|h
    ·rw[h1 e h]
    ·rw[List.mem_singleton.mp h]
     show (if m.getD a 0=m.getD b 0 then m.getD a 0 else m.getD a 0)=(if m.getD b 0=m.getD b 0 then m.getD a 0 else m.getD b 0)
     rw[if_neg hab,if_pos rfl]
   ·rw[getD_map_nat _ (by omega),getD_map_nat _ (by omega)] at h
    rw[List.map_append]
    have old:∀u v,u<12→v<12→m.getD u 0=m.getD v 0→Made (done.map vec++[vec (a,b)]) (fun i=>del u i-del v i):=fun u v hu hv h=>(h2 u v hu hv h).more _
    have new:Made (done.map vec++[vec (a,b)]) (fun i=>del a i-del b i):=by
     obtain⟨cs,c1,c2⟩:=Made.last (done.map vec) (vec (a,b))
     exact⟨cs,c1,fun i hi=>(c2 i hi).trans (getD_vec hi)⟩
    have eqv:∀{x y:Nat→Int},Made (done.map vec++[vec (a,b)]) x→(∀i,x i=y i)→Made (done.map vec++[vec (a,b)]) y:=fun⟨cs,c1,c2⟩ e=>⟨cs,c1,fun i hi=>by rw[c2 i hi,e i]⟩
    by_cases hu':m.getD u 0=m.getD b 0
    ·by_cases hv':m.getD v 0=m.getD b 0
     ·exact old u v hu hv (hu'.trans hv'.symm)
     ·rw[if_pos hu',if_neg hv'] at h
      refine eqv (((old u b hu hb hu').add new.neg).add (old a v ha hv h)) fun i=>by omega
    ·by_cases hv':m.getD v 0=m.getD b 0
     ·rw[if_neg hu',if_pos hv'] at h
      refine eqv (((old u a hu ha h).add new).add (old b v hb hv hv'.symm)) fun i=>by omega
     ·rw[if_neg hu',if_neg hv'] at h
      exact old u v hu hv h
   ·rw[List.map_append]
    rintro⟨cs,c1,⟨d,hd1,hd2⟩,c3⟩
    have c1':cs.length=done.length+1:=by simpa using c1
    obtain⟨ds,c,rfl⟩:∃ds c,cs=ds++[c]:=⟨cs.dropLast,cs.getLast (by intro q;rw[q] at c1';simp at c1'),(List.dropLast_concat_getLast _).symm⟩
    have dl:ds.length=(done.map vec).length:=by simp at c1' ⊢;omega
    have cz:∀i,i<12→comb ds (done.map vec) i+c*(vec (a,b)).getD i 0=0:=fun i hi=>by
     rw[←comb_app ds _ c _ i dl];exact Int.zero_dvd.mp (c3 i hi)
    have hs:colsum (fun i=>m.getD i 0==m.getD a 0) (fun i=>c*(vec (a,b)).getD i 0+comb ds (done.map vec) i) (List.range 12)=0:=by
     have:∀l:List Nat,(∀i,i∈l→i<12)→colsum (fun i=>m.getD i 0==m.getD a 0) (fun i=>c*(vec (a,b)).getD i 0+comb ds (done.map vec) i) l=0:=by
      intro l
      induction l with
      |nil=>intro _;rfl
      |cons i l ihl =>
       intro hl
       have e0:c*(vec (a,b)).getD i 0+comb ds (done.map vec) i=0:=by rw[Int.add_comm];exact cz i (hl i List.mem_cons_self)
       show (if _ then c*(vec (a,b)).getD i 0+comb ds (done.map vec) i else 0)+_=0
       rw[ihl fun j hj=>hl j (List.mem_cons_of_mem _ hj),e0]
       split<;>rfl
     exact this _ fun i hi=>List.mem_range.mp hi
    rw[colsum_lin,colsum_comb _ _ ds (done.map vec) (fun r hr=>by
     obtain⟨e,he',rfl⟩:=List.mem_map.mp hr
     obtain⟨e1,e2⟩:=he e (by simp [he'])
     rw[colsum_vec e1 e2,h1 e he'];omega),colsum_vec ha hb] at hs
    have hba:¬m.getD b 0=m.getD a 0:=fun q=>hab q.symm
    have f1:(m.getD (a,b).1 0==m.getD a 0)=true:=beq_self_eq_true _
    have f2:¬(m.getD (a,b).2 0==m.getD a 0)=true:=fun q=>hba (eq_of_beq q)
    rw[if_pos f1,if_neg f2] at hs
    have hc0:c=0:=by omega
    subst hc0
    refine hd ⟨ds,dl,?_,fun i hi=>⟨0,by have:=cz i hi;omega⟩⟩
    rcases List.mem_append.mp hd1 with q|q
    ·exact⟨d,q,hd2⟩
    ·rw[List.mem_singleton.mp q] at hd2
     exact absurd Z.zero hd2
theorem edges_dep (es:List (Nat×Nat)) (h:∀e,e∈es→e.1<12∧e.2<12):(joined (List.range POINTS) es).isSome=true↔¬Dep 0 12 (es.map vec):=by
 have h1:=shut_ok es h
 have h2:=shut_dep es [] (List.range 12) (by decide) h (fun e q=>(by cases q)) (fun u v hu hv e=>by
  have g:∀i,i<12→(List.range 12).getD i 0=i:=fun i hi=>by rw[List.getD_eq_getElem?_getD,List.getElem?_range hi];rfl
  rw[g u hu,g v hv] at e
  subst e
  obtain⟨cs,c1,c2⟩:=Made.zero (([]:List (Nat×Nat)).map vec)
  exact⟨cs,c1,fun i hi=>by rw[c2 i hi];show (0:Int)=del u i-del u i;omega⟩) dep_nil
 rw[List.nil_append] at h2
 rw[←h2,h1]
 cases (joined (List.range POINTS) es).isSome<;>simp
theorem sel_vec (l:List (Nat×Nat)) {s:Nat} (hs:s<2^l.length):sel (l.map vec) s=((things s).map fun i=>l.getD i (0,0)).map vec:=by
 unfold sel
 rw[List.map_map]
 refine List.map_congr_left fun i hi=>?_
 have hil:=bit_in hs (mem_things.mp hi).2
 rw[List.getD_eq_getElem?_getD,List.getElem?_map,List.getElem?_eq_getElem hil]
 show vec l[i]=vec (l.getD i (0,0))
 rw[List.getD_eq_getElem?_getD,List.getElem?_eq_getElem hil];rfl
theorem ind_edges {l:List (Nat×Nat)} (h8:l.length≤8) (h:∀e,e∈l→e.1<12∧e.2<12) :
  Ind l.length (fun s=>(joined (List.range POINTS) ((things s).map fun i=>l.getD i (0,0))).isSome=true) :=
 (ind_sel (k:=12) (.inl rfl) h8 (l.map vec)).congr fun s hs=>by
  rw[edges_dep _ (fun e he=>by
   obtain⟨i,hi,rfl⟩:=List.mem_map.mp he
   have hil:=bit_in hs (mem_things.mp hi).2
   rw[List.getD_eq_getElem?_getD,List.getElem?_eq_getElem hil]
   exact h _ (List.getElem_mem hil)),sel_vec l hs]
theorem mat_edges {l:List (Nat×Nat)} (h8:l.length≤8) (h:∀e,e∈l→e.1<12∧e.2<12):Mat (ofEdges l):=(ind_edges h8 h).mat h8
structure Ren (n n':Nat) (g sp:Nat→Nat):Prop where
 n8:n≤8
 lt:∀j,j<n'→g j<n
 inj:∀i j,i<n'→j<n'→g i=g j→i=j
 bit:∀t,t<2^n'→∀i,(sp t).testBit i=true↔∃j,j<n'∧g j=i∧t.testBit j=true
namespace Ren
variable {n n' : Nat} {g sp : Nat → Nat} (R : Ren n n' g sp)
include R
theorem spLt {t:Nat} (ht:t<2^n'):sp t<2^n:=Nat.lt_pow_two_of_testBit _ fun i hi=>by
 cases e:(sp t).testBit i with
 |false=>rfl
 |true =>
  obtain⟨j,h1,h2,_⟩:=(R.bit t ht i).mp e
  have:=R.lt j h1;omega
theorem sp8 {t:Nat} (ht:t<2^n'):sp t<256:=lt256 R.n8 (R.spLt ht)
theorem at_ {t j:Nat} (ht:t<2^n') (hj:j<n'):(sp t).testBit (g j)=t.testBit j:=by
 rw[Bool.eq_iff_iff,R.bit t ht]
 constructor
 ·rintro⟨i,h1,h2,h3⟩
  rw[←R.inj i j h1 hj h2];exact h3
 ·intro h;exact⟨j,hj,rfl,h⟩
theorem sub {a b:Nat} (hb:b<2^n') (h:Sub a b):Sub (sp a) (sp b):=fun i hi=>by
 obtain⟨j,h1,h2,h3⟩:=(R.bit a (sub_lt hb h) i).mp hi
 exact (R.bit b hb i).mpr ⟨j,h1,h2,h j h3⟩
theorem ins {t j:Nat} (ht:t<2^n') (hj:j<n'):sp (BM.ins t j)=BM.ins (sp t) (g j):=Nat.eq_of_testBit_eq fun i=>by
 rw[Bool.eq_iff_iff,R.bit _ (ins_lt ht hj),tb_ins,Bool.or_eq_true,decide_eq_true_eq,R.bit t ht]
 constructor
 ·rintro⟨k,h1,h2,h3⟩
  rw[tb_ins,Bool.or_eq_true,decide_eq_true_eq] at h3
  rcases h3 with h3|h3
  ·exact .inl ⟨k,h1,h2,h3⟩
  ·subst h3;exact .inr h2
 ·rintro (⟨k,h1,h2,h3⟩|h)
  ·exact⟨k,h1,h2,by rw[tb_ins,h3];rfl⟩
  ·exact⟨j,hj,h,by rw[tb_ins];simp⟩
theorem zero:sp 0=0:=Nat.eq_of_testBit_eq fun i=>by
 rw[Nat.zero_testBit]
 cases e:(sp 0).testBit i with
 |false=>rfl
 |true =>
  obtain⟨j,_,_,h⟩:=(R.bit 0 (Nat.two_pow_pos _) i).mp e
  rw[Nat.zero_testBit] at h;cases h
theorem size (h8:n'≤8):∀(d t:Nat),t<2^n'→BindNs.size t=d→BindNs.size (sp t)=d
 |0,t,ht,h=>by rw[size_eq_zero (lt256 h8 ht) h,R.zero];exact size_zero
 |d+1,t,ht,h=>by
  obtain⟨j,j1,j2,_⟩:=exists_new (a:=0) (b:=t) (by rw[size_zero];omega)
  have hj:=bit_in ht j2
  have h0:(t-2^j).testBit j=false:=by rw[testBit_sub j2];simp
  have lt:t-2^j<2^n':=Nat.lt_of_le_of_lt (Nat.sub_le _ _) ht
  have e:BM.ins (t-2^j) j=t:=by
   show (t-2^j)|||2^j=t
   rw[←add_pow_eq_or h0];exact Nat.sub_add_cancel (Nat.ge_two_pow_of_testBit j2)
  have sz:=size_sub j1 j2
  have ih:=size h8 d (t-2^j) lt (by omega)
  rw[←e,R.ins lt hj,size_ins (by have:=R.lt j hj;have:=R.n8;omega) (by rw[R.at_ lt hj];exact h0),ih]
end Ren
def kept (n out:Nat):List Nat:=(List.range n).filter fun i=>!out.testBit i
theorem kept_nodup (n out:Nat):(kept n out).Nodup:=List.nodup_range.filter _
theorem kept_mem {n out i:Nat}:i∈kept n out↔i<n∧out.testBit i=false:=by
 unfold kept
 rw[List.mem_filter,List.mem_range,Bool.not_eq_true']
theorem countP_range {n out:Nat} (hn:n≤8) (ho:out<2^n):(List.range n).countP out.testBit=size out:=by
 have key:∀d,(List.range (n+d)).countP out.testBit=(List.range n).countP out.testBit:=by
  intro d
  induction d with
  |zero=>rfl
  |succ d ih =>
   rw[←Nat.add_assoc,List.range_succ,List.countP_append,ih]
   have:out.testBit (n+d)=false:=bit_out ho (by omega)
   simp [this]
 have:=key (8-n)
 rw[show n+(8-n)=8 by omega] at this
 rw[size_eq,this]
theorem kept_length {n out:Nat} (hn:n≤8) (ho:out<2^n):(kept n out).length=n-size out:=by
 have h:=List.length_eq_countP_add_countP out.testBit (l:=List.range n)
 rw[List.length_range,countP_range hn ho] at h
 unfold kept
 rw[←List.countP_eq_length_filter]
 have e:(List.range n).countP (fun i=>!out.testBit i)=(List.range n).countP (fun a=>decide ¬out.testBit a=true):=List.countP_congr fun i _=>by simp
 rw[e];omega
theorem tb_spread {n out s:Nat} (hn:n≤8) (i:Nat):(spread n out s).testBit i=true↔∃j,j<(kept n out).length∧(kept n out).getD j 0=i∧s.testBit j=true:=by
 unfold spread
 rw[testBit_setOf,Bool.and_eq_true,decide_eq_true_eq,List.contains_iff_mem,List.mem_filterMap]
 constructor
 ·rintro⟨_,x,hx,e⟩
  obtain⟨_,h2⟩:=List.mem_zipIdx_iff_getElem?.mp hx |> fun h=>(⟨trivial,h⟩:True∧_)
  by_cases hs:s.testBit x.2=true
  ·rw[if_pos hs] at e
   have e:x.1=i:=Option.some.inj e
   have h3:(kept n out)[x.2]?=some x.1:=h2
   refine⟨x.2,(List.getElem?_eq_some_iff.mp h3).1,?_,hs⟩
   rw[List.getD_eq_getElem?_getD,h3];exact e
  ·rw[if_neg hs] at e;cases e
 ·rintro⟨j,h1,h2,h3⟩
  have hm:(kept n out)[j]?=some i:=by
   rw[List.getElem?_eq_getElem h1]
   rw[List.getD_eq_getElem?_getD,List.getElem?_eq_getElem h1] at h2
   exact congrArg some h2
  have hi:=kept_mem.mp (List.mem_of_getElem? hm)
  refine⟨by omega,(i,j),List.mem_zipIdx_iff_getElem?.mpr hm,?_⟩
  rw[if_pos h3]
theorem ren_spread {n out:Nat} (hn:n≤8) (ho:out<2^n):Ren n (n-size out) (fun j=>(kept n out).getD j 0) (spread n out):=by
 have hl:=kept_length hn ho
 have g:∀j,j<(kept n out).length→(kept n out)[j]?=some ((kept n out).getD j 0):=fun j hj=>by
  rw[List.getD_eq_getElem?_getD,List.getElem?_eq_getElem hj];rfl
 refine⟨hn,fun j hj=>?_,fun i j hi hj e=>?_,fun t ht i=>by rw[tb_spread hn,hl]⟩
 ·exact (kept_mem.mp (List.mem_of_getElem? (g j (by omega)))).1
 ·have h1:=g i (by omega)
  have h2:=g j (by omega)
  have e:(kept n out).getD i 0=(kept n out).getD j 0:=e
  rw[e] at h1
  obtain⟨a1,b1⟩:=List.getElem?_eq_some_iff.mp h1
  obtain⟨a2,b2⟩:=List.getElem?_eq_some_iff.mp h2
  exact (List.getElem_inj (kept_nodup n out)).mp (b1.trans b2.symm)
theorem ind_drop {m:Bond} {s:Nat} (M:Mat m) (hs:s<2^m.n):Ind (m.n-size s) (fun t=>m.loose (spread m.n s t)=true):=by
 have R:=ren_spread M.good.n8 hs
 have h8:m.n-size s≤8:=by have:=M.good.n8;omega
 have I:=M.ind
 refine⟨by rw[R.zero];exact I.zero,fun a b hb h hs'=>I.down _ _ (R.spLt hb) h (R.sub hb hs'),fun a b ha hb h1 h2 hlt=>?_⟩
 obtain⟨x,x1,x2,x3,x4⟩:=I.aug _ _ (R.spLt ha) (R.spLt hb) h1 h2 (by rw[R.size h8 _ a ha rfl,R.size h8 _ b hb rfl];exact hlt)
 obtain⟨j,j1,j2,j3⟩:=(R.bit b hb x).mp x2
 have j2:(kept m.n s).getD j 0=x:=j2
 refine⟨j,j1,j3,?_,?_⟩
 ·rw[←R.at_ ha j1];show (spread m.n s a).testBit ((kept m.n s).getD j 0)=false;rw[j2];exact x3
 ·show m.loose (spread m.n s (ins a j))=true
  rw[R.ins ha j1]
  show m.loose (ins (spread m.n s a) ((kept m.n s).getD j 0))=true
  rw[j2];exact x4
theorem mat_drop {m:Bond} {s:Nat} (M:Mat m) (hs:s<2^m.n):Mat (m.drop s):=(ind_drop M hs).mat (by have:=M.good.n8;omega)
theorem RankF.addAll_le {r:Nat→Nat} (R:RankF r):∀(l:List Nat) {s:Nat},s<256→(∀x,x∈l→x<8)→r (addAll s l)≤r s+l.length
 |[],s,_,_=>Nat.le_refl _
 |x::l,s,hs,hl=>by
  have hx:=hl x List.mem_cons_self
  have:=R.addAll_le l (ins8 hs hx) fun y hy=>hl y (List.mem_cons_of_mem _ hy)
  have u:=R.unit s x hs hx
  show r (addAll (ins s x) l)≤r s+(l.length+1)
  omega
theorem RankF.addAll_eq {r:Nat→Nat} (R:RankF r):∀(l:List Nat) {s:Nat},s<256→(∀x,x∈l→x<8)→(∀x,x∈l→r (ins s x)=r s)→r (addAll s l)=r s
 |[],s,_,_,_=>rfl
 |y::l,s,hs,hl,h=>by
  have hy:=hl y List.mem_cons_self
  have:=R.addAll_eq l (ins8 hs hy) (fun x hx=>hl x (List.mem_cons_of_mem _ hx)) fun x hx=>R.loc s x y hs (hl x (List.mem_cons_of_mem _ hx)) hy (h x (List.mem_cons_of_mem _ hx))
  exact this.trans (h y List.mem_cons_self)
theorem or8 {a b:Nat} (ha:a<256) (hb:b<256):a|||b<256:=Nat.or_lt_two_pow (n:=8) ha hb
theorem addAll_things {a b:Nat} (hb:b<256):addAll a (things b)=a|||b:=Nat.eq_of_testBit_eq fun i=>by
 rw[tb_addAll,Nat.testBit_or]
 congr 1
 rw[Bool.eq_iff_iff,decide_eq_true_eq,mem_things]
 exact⟨fun h=>h.2,fun h=>⟨bit_in (n:=8) hb h,h⟩⟩
theorem ind_pinch {m:Bond} {s:Nat} (M:Mat m) (hs:s<2^m.n):Ind (m.n-size s) (fun t=>(m.rank (either (spread m.n s t) s)==m.rank s+size t)=true):=by
 have R:=ren_spread M.good.n8 hs
 have h8:m.n-size s≤8:=by have:=M.good.n8;omega
 have F:=M.rankF
 have s8:=lt256 M.good.n8 hs
 have orc:∀t,either (spread m.n s t) s=s|||spread m.n s t:=fun t=>Nat.or_comm _ _
 have up:∀t,t<2^(m.n-size s)→m.rank (s|||spread m.n s t)≤m.rank s+size t:=fun t ht=>by
  have:=F.addAll_le (things (spread m.n s t)) s8 (fun x=>things8)
  rw[addAll_things (R.sp8 ht)] at this
  have e:(things (spread m.n s t)).length=size t:=R.size h8 _ t ht rfl
  omega
 refine⟨?_,fun a b hb h hsub=>?_,fun a b ha hb h1 h2 hlt=>?_⟩
 ·rw[orc,R.zero,Nat.or_zero,size_zero];simp
 ·rw[beq_iff_eq,orc] at h ⊢
  have ha:=sub_lt hb hsub
  refine Nat.le_antisymm (up a ha) ?_
  have l1:=F.addAll_le (things (less (spread m.n s b) (spread m.n s a))) (or8 s8 (R.sp8 ha)) (fun x=>things8)
  rw[addAll_things (less_lt _ _)] at l1
  have e:(s|||spread m.n s a)|||less (spread m.n s b) (spread m.n s a)=s|||spread m.n s b:=by
   refine ext8 (or8 (or8 s8 (R.sp8 ha)) (less_lt _ _)) (or8 s8 (R.sp8 hb)) fun i hi=>?_
   rw[Nat.testBit_or,Nat.testBit_or,Nat.testBit_or,testBit_less,decide_eq_true hi]
   have:=R.sub hb hsub i
   cases h1:(spread m.n s a).testBit i with
   |false=>cases s.testBit i<;>cases (spread m.n s b).testBit i<;>rfl
   |true=>rw[this h1];cases s.testBit i<;>rfl
  rw[e,h] at l1
  have e2:(things (less (spread m.n s b) (spread m.n s a))).length+size a=size b:=by
   have:=size_less (a:=spread m.n s b) (b:=spread m.n s a) (R.sp8 hb)
   have e3:spread m.n s b&&&spread m.n s a=spread m.n s a:=(sub_iff (R.sp8 ha)).mpr (R.sub hb hsub)
   rw[e3,R.size h8 _ a ha rfl,R.size h8 _ b hb rfl] at this
   exact this
  omega
 ·rw[beq_iff_eq,orc] at h1 h2
  refine Classical.byContradiction fun hno=>?_
  have hA:=or8 s8 (R.sp8 ha)
  have hall:∀x,x∈things (spread m.n s b)→m.rank (ins (s|||spread m.n s a) x)=m.rank (s|||spread m.n s a):=fun x hx=>by
   obtain⟨hx8,hxb⟩:=mem_things.mp hx
   obtain⟨j,j1,j2,j3⟩:=(R.bit b hb x).mp hxb
   have j2:(kept m.n s).getD j 0=x:=j2
   cases haj:a.testBit j with
   |true =>
    have:(spread m.n s a).testBit x=true:=(R.bit a ha x).mpr ⟨j,j1,j2,haj⟩
    rw[ins_in (by rw[Nat.testBit_or,this,Bool.or_true])]
   |false =>
    have hne:¬m.rank (ins (s|||spread m.n s a) x)=m.rank s+size a+1:=fun q=>hno ⟨j,j1,j3,haj,by
     rw[beq_iff_eq,orc,R.ins ha j1,size_ins (by omega) haj]
     have e:s|||ins (spread m.n s a) ((kept m.n s).getD j 0)=ins (s|||spread m.n s a) x:=by
      rw[j2];exact (Nat.or_assoc _ _ _).symm
     show m.rank (s|||ins (spread m.n s a) ((kept m.n s).getD j 0))=_
     rw[e];exact q⟩
    have u1:=F.up _ x hA hx8
    have u2:=F.unit _ x hA hx8
    omega
  have:=F.addAll_eq (things (spread m.n s b)) hA (fun x=>things8) hall
  rw[addAll_things (R.sp8 hb)] at this
  have mono:=F.mono (a:=s|||spread m.n s b) (b:=(s|||spread m.n s a)|||spread m.n s b) (or8 hA (R.sp8 hb)) fun i hi=>by
   rw[Nat.testBit_or,Bool.or_eq_true] at hi
   rw[Nat.testBit_or,Nat.testBit_or]
   rcases hi with hi|hi
   ·rw[hi];rfl
   ·rw[hi,Bool.or_true]
  omega
theorem mat_pinch {m:Bond} {s:Nat} (M:Mat m) (hs:s<2^m.n):Mat (m.pinch s):=(ind_pinch M hs).mat (by have:=M.good.n8;omega)
theorem tb_co {n b i:Nat} (hn:n≤8):(less (all n) b).testBit i=(decide (i<n)&&!b.testBit i):=by
 rw[testBit_less]
 unfold all
 rw[Nat.testBit_two_pow_sub_one]
 by_cases h:i<n
 ·rw[decide_eq_true h,decide_eq_true (show i<8 by omega)];rfl
 ·rw[decide_eq_false h];simp
theorem co_lt {n b:Nat} (hn:n≤8):less (all n) b<2^n:=Nat.lt_pow_two_of_testBit _ fun i hi=>by
 rw[tb_co hn,decide_eq_false (by omega)];rfl
theorem size_co {n b:Nat} (hn:n≤8) (hb:b<2^n):size (less (all n) b)+size b=size (all n):=by
 have:=size_less (a:=all n) (b:=b) (lt256 hn (all_lt n))
 rw[Nat.and_comm,and_all hb] at this;exact this
theorem mem_dual {m:Bond} (hn:m.n≤8) {x:Nat}:x∈m.dual.bases↔∃b,b∈m.bases∧less (all m.n) b=x:=by
 show x∈tidy m.n (m.bases.map fun b=>less (all m.n) b)↔_
 rw[mem_tidy,List.mem_map]
 exact⟨fun h=>h.2,fun⟨b,h1,h2⟩=>⟨h2 ▸ co_lt hn,b,h1,h2⟩⟩
theorem Mat.base_of {m:Bond} (M:Mat m) {c b:Nat} (hc:c<256) (h:m.loose c=true) (hb:b∈m.bases) (e:size c=size b):c∈m.bases:=by
 obtain⟨d,hd,hs⟩:=(loose_lo M.good hc).mp h
 have:c=d:=eq_of_sub_size hc (M.good.lt8 hd) (fun i _=>hs i) (by rw[e,M.good.sz d hd b hb];exact Nat.le_refl _)
 rw[this];exact hd
theorem Mat.coswap {m:Bond} (M:Mat m) {a b i:Nat} (ha:a∈m.bases) (hb:b∈m.bases) (hi:b.testBit i=true) (hai:a.testBit i=false):∃j,j<8∧a.testBit j=true∧b.testBit j=false∧(a-2^j+2^i)∈m.bases:=by
 have a8:=M.good.lt8 ha
 have b8:=M.good.lt8 hb
 have i8:=bit_in (n:=8) b8 hi
 have an:=M.good.lt a ha
 have inn:=bit_in (M.good.lt b hb) hi
 have fill:∀(d c:Nat),c<2^m.n→m.loose c=true→Sub c (ins a i)→size c+d=size a→∃c',c'<2^m.n∧m.loose c'=true∧Sub c c'∧Sub c' (ins a i)∧size c'=size a:=by
  intro d
  induction d with
  |zero=>intro c h1 h2 h3 h4;exact⟨c,h1,h2,fun i h=>h,h3,by omega⟩
  |succ d ih =>
   intro c h1 h2 h3 h4
   obtain⟨j,j1,j2,j3,j4⟩:=M.ind.aug c a h1 an h2 ((loose_lo M.good a8).mpr ⟨a,ha,fun i h=>h⟩) (by omega)
   have hj8:j<8:=by have:=M.good.n8;omega
   obtain⟨c',k1,k2,k3,k4,k5⟩:=ih (ins c j) (ins_lt h1 j1) j4 (fun x hx=>by
    rw[tb_ins,Bool.or_eq_true,decide_eq_true_eq] at hx
    rcases hx with hx|hx
    ·exact h3 x hx
    ·subst hx;exact sub_ins a i j j2) (by rw[size_ins hj8 j3];omega)
   exact⟨c',k1,k2,fun x hx=>k3 x (sub_ins c j x hx),k4,k5⟩
 have hab:(a&&&b).testBit i=false:=by rw[Nat.testBit_and,hai];rfl
 have hsz:size (a&&&b)<size a:=by
  have h1:=size_less (a:=b) (b:=a) b8
  have h2:=M.good.sz a ha b hb
  have h3:0<size (less b a):=by
   unfold size
   exact List.length_pos_of_mem (mem_things_less.mpr ⟨i8,hi,hai⟩)
  rw[Nat.and_comm] at h1
  omega
 have h0:m.loose (ins (a&&&b) i)=true:=(loose_lo M.good (ins8 (and_lt (n:=8) a8) i8)).mpr ⟨b,hb,fun x hx=>by
  rw[tb_ins,Bool.or_eq_true,decide_eq_true_eq,Nat.testBit_and,Bool.and_eq_true] at hx
  rcases hx with hx|hx
  ·exact hx.2
  ·rw[←hx];exact hi⟩
 obtain⟨c,c1,c2,c3,c4,c5⟩:=fill (size a-size (ins (a&&&b) i)) _ (ins_lt (and_lt an) inn) h0 (fun x hx=>by
  rw[tb_ins,Bool.or_eq_true,Nat.testBit_and,Bool.and_eq_true] at hx
  rw[tb_ins,Bool.or_eq_true]
  rcases hx with hx|hx
  ·exact .inl hx.1
  ·exact .inr hx) (by rw[size_ins i8 hab];omega)
 have hcb:=M.base_of (lt256 M.good.n8 c1) c2 ha c5
 obtain⟨j,j1,j2,j3⟩:=exists_new (a:=c) (b:=ins a i) (by rw[size_ins i8 hai,c5];omega)
 have hci:c.testBit i=true:=c3 i (by rw[tb_ins];simp)
 have hji:¬i=j:=fun q=>by subst q;rw[hci] at j3;cases j3
 have haj:a.testBit j=true:=by
  rw[tb_ins,Bool.or_eq_true,decide_eq_true_eq] at j2
  rcases j2 with q|q
  ·exact q
  ·exact absurd q hji
 have hbj:b.testBit j=false:=by
  cases q:b.testBit j with
  |false=>rfl
  |true =>
   have:=c3 j (by rw[tb_ins,Nat.testBit_and,haj,q];rfl)
   rw[this] at j3;cases j3
 refine⟨j,j1,haj,hbj,?_⟩
 have e:c=a-2^j+2^i:=eq_of_sub_size (lt256 M.good.n8 c1) (swap_lt a8 i8 haj hai) (fun k _ hk=>by
  rw[testBit_swap haj hai]
  have:=c4 k hk
  rw[tb_ins,Bool.or_eq_true,decide_eq_true_eq] at this
  have hjk:¬j=k:=fun q=>by subst q;rw[j3] at hk;cases hk
  rcases this with q|q
  ·rw[q];simp [hjk]
  ·simp [q]) (by rw[size_swap j1 i8 haj hai,c5];exact Nat.le_refl _)
 rw[←e];exact hcb
theorem mat_dual {m:Bond} (M:Mat m):Mat m.dual:=by
 have hn:=M.good.n8
 have nn:m.dual.n=m.n:=rfl
 refine⟨⟨hn,?_,tidy_rise _ _,fun b hb=>?_,fun a ha b hb=>?_⟩,fun a ha b hb i hi hai hbi=>?_⟩
 ·obtain⟨b,hb⟩:=List.exists_mem_of_ne_nil _ M.good.ne
  exact List.ne_nil_of_mem ((mem_dual hn).mpr ⟨b,hb,rfl⟩)
 ·obtain⟨c,hc,e⟩:=(mem_dual hn).mp hb
  rw[←e];exact co_lt hn
 ·obtain⟨c,hc,e⟩:=(mem_dual hn).mp ha
  obtain⟨d,hd,e'⟩:=(mem_dual hn).mp hb
  have h1:=size_co hn (M.good.lt c hc)
  have h2:=size_co hn (M.good.lt d hd)
  have h3:=M.good.sz c hc d hd
  rw[←e,←e']
  generalize size (less (all m.n) c)=A at *
  generalize size (less (all m.n) d)=B at *
  omega
 ·obtain⟨c,hc,e⟩:=(mem_dual hn).mp ha
  obtain⟨d,hd,e'⟩:=(mem_dual hn).mp hb
  subst e e'
  rw[tb_co hn,Bool.and_eq_true,decide_eq_true_eq,Bool.not_eq_true'] at hai
  rw[tb_co hn,decide_eq_true hai.1,Bool.true_and,Bool.not_eq_false'] at hbi
  obtain⟨j,j1,j2,j3,j4⟩:=M.coswap hc hd hbi hai.2
  have hjn:=bit_in (M.good.lt c hc) j2
  refine⟨j,j1,by rw[tb_co hn,decide_eq_true hjn,j3];rfl,by rw[tb_co hn,j2];simp,(mem_dual hn).mpr ⟨_,j4,?_⟩⟩
  have hci:(less (all m.n) c).testBit i=true:=by rw[tb_co hn,decide_eq_true hai.1,hai.2];rfl
  have hcj:(less (all m.n) c).testBit j=false:=by rw[tb_co hn,j2];simp
  refine Nat.eq_of_testBit_eq fun k=>?_
  rw[tb_co hn,testBit_swap j2 hai.2,testBit_swap hci hcj,tb_co hn]
  by_cases e1:i=k
  ·subst e1
   have:¬j=i:=fun q=>by subst q;rw[hai.2] at j2;cases j2
   simp [this]
  ·by_cases e2:j=k
   ·subst e2;simp [hjn,e1]
   ·simp [e1,e2]
theorem tb_pair {n a b i:Nat} (ha:a<2^n):(a+2^n*b).testBit i=if i<n then a.testBit i else b.testBit (i-n):=by
 rw[Nat.add_comm,Nat.testBit_two_pow_mul_add _ ha]
theorem pair_lt {n k a b:Nat} (ha:a<2^n) (hb:b<2^k):a+2^n*b<2^(n+k):=by
 rw[Nat.pow_add]
 have:2^n*(b+1)≤2^n*2^k:=Nat.mul_le_mul_left _ hb
 rw[Nat.mul_add,Nat.mul_one] at this
 omega
theorem mem_beside {m k:Bond} (M:Good m) (K:Good k) {x:Nat}:x∈(m.beside k).bases↔∃a,a∈m.bases∧∃b,b∈k.bases∧a+2^m.n*b=x:=by
 show x∈tidy (m.n+k.n) (m.bases.flatMap fun a=>k.bases.map fun b=>a+2^m.n*b)↔_
 rw[mem_tidy,List.mem_flatMap]
 constructor
 ·rintro⟨_,a,ha,h⟩
  obtain⟨b,hb,e⟩:=List.mem_map.mp h
  exact⟨a,ha,b,hb,e⟩
 ·rintro⟨a,ha,b,hb,e⟩
  exact⟨e ▸ pair_lt (M.lt a ha) (K.lt b hb),a,ha,List.mem_map.mpr ⟨b,hb,e⟩⟩
theorem ar1 (a x y z:Nat) (h:x≤a):a-x+y+z=a+z-x+y:=by omega
theorem ar2 (a x y z:Nat) (h:x≤z):a+(z-x+y)=a+z-x+y:=by omega
theorem mat_beside {m k:Bond} (M:Mat m) (K:Mat k) (h8:m.n+k.n≤8):Mat (m.beside k):=by
 have sw:Swaps (m.beside k).bases:=fun x hx y hy i hi hxi hyi=>by
  obtain⟨a,ha,b,hb,rfl⟩:=(mem_beside M.good K.good).mp hx
  obtain⟨c,hc,d,hd,rfl⟩:=(mem_beside M.good K.good).mp hy
  have la:=M.good.lt a ha
  have lc:=M.good.lt c hc
  rw[tb_pair la] at hxi
  rw[tb_pair lc] at hyi
  by_cases hin:i<m.n
  ·rw[if_pos hin] at hxi hyi
   obtain⟨j,j1,j2,j3,j4⟩:=M.swaps a ha c hc i hi hxi hyi
   have hjn:=bit_in lc j2
   refine⟨j,j1,by rw[tb_pair lc,if_pos hjn];exact j2,by rw[tb_pair la,if_pos hjn];exact j3,(mem_beside M.good K.good).mpr ⟨_,j4,b,hb,?_⟩⟩
   exact ar1 _ _ _ _ (Nat.ge_two_pow_of_testBit hxi)
  ·rw[if_neg hin] at hxi hyi
   have hi':=bit_in (K.good.lt b hb) hxi
   obtain⟨j,j1,j2,j3,j4⟩:=K.swaps b hb d hd (i-m.n) (by omega) hxi hyi
   have hjn:=bit_in (K.good.lt d hd) j2
   refine⟨j+m.n,by omega,by rw[tb_pair lc,if_neg (by omega),Nat.add_sub_cancel];exact j2,by rw[tb_pair la,if_neg (by omega),Nat.add_sub_cancel];exact j3,(mem_beside M.good K.good).mpr ⟨a,ha,_,j4,?_⟩⟩
   have g:=Nat.ge_two_pow_of_testBit hxi
   have e1:2^i=2^m.n*2^(i-m.n):=by rw[←Nat.pow_add];congr 1;omega
   have e2:2^(j+m.n)=2^m.n*2^j:=by rw[←Nat.pow_add];congr 1;omega
   have e3:2^m.n*2^(i-m.n)≤2^m.n*b:=Nat.mul_le_mul_left _ g
   rw[e1,e2,Nat.mul_add,Nat.mul_sub]
   exact ar2 _ _ _ _ e3
 have hlt:∀x,x∈(m.beside k).bases→x<2^(m.n+k.n):=fun x hx=>(mem_tidy.mp hx).1
 have h256:∀x,x∈(m.beside k).bases→x<256:=fun x hx=>lt256 h8 (hlt x hx)
 refine⟨⟨h8,?_,tidy_rise _ _,hlt,((swaps_reaches h256).mp sw).1⟩,sw⟩
 obtain⟨a,ha⟩:=List.exists_mem_of_ne_nil _ M.good.ne
 obtain⟨b,hb⟩:=List.exists_mem_of_ne_nil _ K.good.ne
 exact List.ne_nil_of_mem ((mem_beside M.good K.good).mpr ⟨a,ha,b,hb,rfl⟩)
theorem union_iff {m k:Bond} {s:Nat} (hn:m.n≤8) (hs:s<2^m.n):((sets m.n).any fun a=>within a s&&(m.loose a&&k.loose (less s a)))=true↔∃a b,Sub a s∧Sub b s∧(∀i,s.testBit i=true→(a.testBit i=true∧b.testBit i=false)∨(a.testBit i=false∧b.testBit i=true))∧m.loose a=true∧k.loose b=true:=by
 have s8:=lt256 hn hs
 rw[List.any_eq_true]
 constructor
 ·rintro⟨a,ha,h⟩
  rw[Bool.and_eq_true,Bool.and_eq_true] at h
  have hw:a&&&s=a:=eq_of_beq (show (a&&&s==a)=true from h.1)
  have hsub:Sub a s:=fun i hi=>by rw[←hw,Nat.testBit_and,Bool.and_eq_true] at hi;exact hi.2
  refine⟨a,less s a,hsub,fun i hi=>?_,fun i hi=>?_,h.2.1,h.2.2⟩
  ·rw[testBit_less,Bool.and_eq_true,Bool.and_eq_true] at hi;exact hi.2.1
  ·have hi8:=bit_in (n:=8) s8 hi
   rw[testBit_less,decide_eq_true hi8,hi]
   cases a.testBit i<;>simp
 ·rintro⟨a,b,h1,h2,h3,h4,h5⟩
  refine⟨a,mem_sets.mpr (sub_lt hs h1),?_⟩
  have e:less s a=b:=ext8 (less_lt _ _) (lt_of_sub s8 h2) fun i hi=>by
   rw[testBit_less,decide_eq_true hi]
   cases hsi:s.testBit i with
   |true=>rcases h3 i hsi with q|q<;>rw[q.1,q.2]<;>rfl
   |false =>
    cases hb:b.testBit i with
    |false=>rfl
    |true=>rw[h2 i hb] at hsi;cases hsi
  have hw:within a s=true:=by
   show (a&&&s==a)=true
   rw[beq_iff_eq,Nat.and_comm]
   exact (sub_iff (lt_of_sub s8 h1)).mpr h1
  rw[e,hw,h4,h5];rfl
theorem ind_union {m k:Bond} (M:Mat m) (K:Mat k) (hnk:m.n=k.n):Ind m.n (fun s=>((sets m.n).any fun a=>within a s&&(m.loose a&&k.loose (less s a)))=true):=by
 have hn:=M.good.n8
 have MI:=M.ind
 have KI:=K.ind
 rw[←hnk] at KI
 refine⟨?_,fun a b hb h hsub=>?_,fun s t hs ht h1 h2 hlt=>?_⟩
 ·rw[union_iff hn (Nat.two_pow_pos _)]
  exact⟨0,0,fun i h=>h,fun i h=>h,fun i h=>(by rw[Nat.zero_testBit] at h;cases h),MI.zero,KI.zero⟩
 ·have ha:=sub_lt hb hsub
  rw[union_iff hn hb] at h
  rw[union_iff hn ha]
  obtain⟨c,d,c1,c2,c3,c4,c5⟩:=h
  have t1:Sub (c&&&a) c:=fun i hi=>by rw[Nat.testBit_and,Bool.and_eq_true] at hi;exact hi.1
  have t2:Sub (d&&&a) d:=fun i hi=>by rw[Nat.testBit_and,Bool.and_eq_true] at hi;exact hi.1
  refine⟨c&&&a,d&&&a,fun i hi=>?_,fun i hi=>?_,fun i hi=>?_,MI.down _ c (sub_lt hb c1) c4 t1,KI.down _ d (sub_lt hb c2) c5 t2⟩
  ·rw[Nat.testBit_and,Bool.and_eq_true] at hi;exact hi.2
  ·rw[Nat.testBit_and,Bool.and_eq_true] at hi;exact hi.2
  ·rw[Nat.testBit_and,Nat.testBit_and,hi,Bool.and_true,Bool.and_true];exact c3 i (hsub i hi)
 ·rw[union_iff hn hs] at h1
  rw[union_iff hn ht] at h2
  obtain⟨J1,J2,b1,b2,b3,b4,b5⟩:=h2
  have szs:∀{s a b:Nat},s<2^m.n→Sub a s→Sub b s→(∀i,s.testBit i=true→(a.testBit i=true∧b.testBit i=false)∨(a.testBit i=false∧b.testBit i=true))→size a+size b=size s:=fun {s a b} hs p1 p2 p3=>by
   have s8:=lt256 hn hs
   have h:=size_or_and a b
   have e1:a|||b=s:=Nat.eq_of_testBit_eq fun i=>by
    rw[Nat.testBit_or]
    cases hsi:s.testBit i with
    |true=>rcases p3 i hsi with q|q<;>rw[q.1,q.2]<;>rfl
    |false =>
     have x1:a.testBit i=false:=by
      cases q:a.testBit i with
      |false=>rfl
      |true=>rw[p1 i q] at hsi;cases hsi
     have x2:b.testBit i=false:=by
      cases q:b.testBit i with
      |false=>rfl
      |true=>rw[p2 i q] at hsi;cases hsi
     rw[x1,x2];rfl
   have e2:a&&&b=0:=Nat.eq_of_testBit_eq fun i=>by
    rw[Nat.testBit_and,Nat.zero_testBit]
    cases q:a.testBit i with
    |false=>rfl
    |true =>
     rcases p3 i (p1 i q) with w|w
     ·rw[w.2];rfl
     ·rw[q] at w;cases w.1
   rw[e1,e2,size_zero] at h
   omega
  have key:∀(d I1 I2:Nat),16<size (I1&&&J1)+size (I2&&&J2)+d→Sub I1 s→Sub I2 s→(∀i,s.testBit i=true→(I1.testBit i=true∧I2.testBit i=false)∨(I1.testBit i=false∧I2.testBit i=true))→m.loose I1=true→k.loose I2=true →
    ∃j,j<m.n∧t.testBit j=true∧s.testBit j=false∧((sets m.n).any fun a=>within a (ins s j)&&(m.loose a&&k.loose (less (ins s j) a)))=true:=by
   intro d
   induction d with
   |zero =>
    intro I1 I2 h
    have:=size_le_8 (I1&&&J1)
    have:=size_le_8 (I2&&&J2)
    omega
   |succ d ih =>
    intro I1 I2 hd a1 a2 a3 a4 a5
    have e1:=szs hs a1 a2 a3
    have e2:=szs ht b1 b2 b3
    by_cases hc:size I1<size J1
    ·obtain⟨x,x1,x2,x3,x4⟩:=MI.aug I1 J1 (sub_lt hs a1) (sub_lt ht b1) a4 b4 hc
     have x8:x<8:=by omega
     cases hsx:s.testBit x with
     |false =>
      refine⟨x,x1,b1 x x2,hsx,(union_iff hn (ins_lt hs x1)).mpr ⟨ins I1 x,I2,fun i hi=>?_,fun i hi=>sub_ins s x i (a2 i hi),fun i hi=>?_,x4,a5⟩⟩
      ·rw[tb_ins,Bool.or_eq_true] at hi ⊢
       rcases hi with q|q
       ·exact .inl (a1 i q)
       ·exact .inr q
      ·rw[tb_ins,Bool.or_eq_true,decide_eq_true_eq] at hi
       by_cases q:x=i
       ·subst q
        left
        refine⟨by rw[tb_ins];simp,?_⟩
        cases w:I2.testBit x with
        |false=>rfl
        |true=>rw[a2 x w] at hsx;cases hsx
       ·rcases hi with hi|hi
        ·rw[tb_ins,decide_eq_false q,Bool.or_false];exact a3 i hi
        ·exact absurd hi q
     |true =>
      have w:I2.testBit x=true:=by
       rcases a3 x hsx with q|q
       ·rw[x3] at q;cases q.1
       ·exact q.2
      have wJ:J2.testBit x=false:=by
       rcases b3 x (b1 x x2) with q|q
       ·exact q.2
       ·rw[x2] at q;cases q.1
      refine ih (ins I1 x) (I2-2^x) ?_ (fun i hi=>?_) (fun i hi=>?_) (fun i hi=>?_) x4 (KI.down _ I2 (sub_lt hs a2) a5 fun i hi=>?_)
      ·have p1:ins I1 x&&&J1=ins (I1&&&J1) x:=Nat.eq_of_testBit_eq fun i=>by
        rw[Nat.testBit_and,tb_ins,tb_ins,Nat.testBit_and]
        by_cases q:x=i
        ·subst q;rw[x2];simp
        ·simp [q]
       have p2:(I2-2^x)&&&J2=I2&&&J2:=Nat.eq_of_testBit_eq fun i=>by
        rw[Nat.testBit_and,testBit_sub w,Nat.testBit_and]
        by_cases q:x=i
        ·subst q;rw[wJ];simp
        ·simp [q]
       rw[p1,p2,size_ins x8 (by rw[Nat.testBit_and,x3];rfl)]
       omega
      ·rw[tb_ins,Bool.or_eq_true,decide_eq_true_eq] at hi
       rcases hi with q|q
       ·exact a1 i q
       ·rw[←q];exact hsx
      ·rw[testBit_sub w,Bool.and_eq_true] at hi;exact a2 i hi.1
      ·rw[tb_ins,testBit_sub w]
       by_cases q:x=i
       ·subst q;left;simp
       ·simp only [q,decide_false,Bool.or_false,Bool.not_false,Bool.and_true];exact a3 i hi
      ·rw[testBit_sub w,Bool.and_eq_true] at hi;exact hi.1
    ·have hc2:size I2<size J2:=by omega
     obtain⟨x,x1,x2,x3,x4⟩:=KI.aug I2 J2 (sub_lt hs a2) (sub_lt ht b2) a5 b5 hc2
     have x8:x<8:=by omega
     cases hsx:s.testBit x with
     |false =>
      refine⟨x,x1,b2 x x2,hsx,(union_iff hn (ins_lt hs x1)).mpr ⟨I1,ins I2 x,fun i hi=>sub_ins s x i (a1 i hi),fun i hi=>?_,fun i hi=>?_,a4,x4⟩⟩
      ·rw[tb_ins,Bool.or_eq_true] at hi ⊢
       rcases hi with q|q
       ·exact .inl (a2 i q)
       ·exact .inr q
      ·rw[tb_ins,Bool.or_eq_true,decide_eq_true_eq] at hi
       by_cases q:x=i
       ·subst q
        right
        refine⟨?_,by rw[tb_ins];simp⟩
        cases w:I1.testBit x with
        |false=>rfl
        |true=>rw[a1 x w] at hsx;cases hsx
       ·rcases hi with hi|hi
        ·rw[tb_ins,decide_eq_false q,Bool.or_false];exact a3 i hi
        ·exact absurd hi q
     |true =>
      have w:I1.testBit x=true:=by
       rcases a3 x hsx with q|q
       ·exact q.1
       ·rw[x3] at q;cases q.2
      have wJ:J1.testBit x=false:=by
       rcases b3 x (b2 x x2) with q|q
       ·rw[x2] at q;cases q.2
       ·exact q.1
      refine ih (I1-2^x) (ins I2 x) ?_ (fun i hi=>?_) (fun i hi=>?_) (fun i hi=>?_) (MI.down _ I1 (sub_lt hs a1) a4 fun i hi=>?_) x4
      ·have p1:ins I2 x&&&J2=ins (I2&&&J2) x:=Nat.eq_of_testBit_eq fun i=>by
        rw[Nat.testBit_and,tb_ins,tb_ins,Nat.testBit_and]
        by_cases q:x=i
        ·subst q;rw[x2];simp
        ·simp [q]
       have p2:(I1-2^x)&&&J1=I1&&&J1:=Nat.eq_of_testBit_eq fun i=>by
        rw[Nat.testBit_and,testBit_sub w,Nat.testBit_and]
        by_cases q:x=i
        ·subst q;rw[wJ];simp
        ·simp [q]
       rw[p1,p2,size_ins x8 (by rw[Nat.testBit_and,x3];rfl)]
       omega
      ·rw[testBit_sub w,Bool.and_eq_true] at hi;exact a1 i hi.1
      ·rw[tb_ins,Bool.or_eq_true,decide_eq_true_eq] at hi
       rcases hi with q|q
       ·exact a2 i q
       ·rw[←q];exact hsx
      ·rw[tb_ins,testBit_sub w]
       by_cases q:x=i
       ·subst q;right;simp
       ·simp only [q,decide_false,Bool.or_false,Bool.not_false,Bool.and_true];exact a3 i hi
      ·rw[testBit_sub w,Bool.and_eq_true] at hi;exact hi.1
  obtain⟨I1,I2,a1,a2,a3,a4,a5⟩:=h1
  exact key 17 I1 I2 (by omega) a1 a2 a3 a4 a5
theorem mat_union {m k:Bond} (M:Mat m) (K:Mat k) (hnk:m.n=k.n):Mat (m.union k):=(ind_union M K hnk).mat M.good.n8
theorem cover {n:Nat} (hn:n≤8) {f:Nat→Bool} {L:List Nat} (hL:∀x,x∈L→x<2^n∧f x=true) (hne:L≠[]) (hc:∀t,t<2^n→f t=true→∃x,x∈L∧Sub t x) (x:Nat) :
  x∈(byLoose n f).bases↔x∈L∧size x=(L.map size).foldl max 0:=by
 obtain⟨_,u2,u3⟩:=foldl_max_ge (L.map size) 0
 have up:∀y,y∈L→size y≤(L.map size).foldl max 0:=fun y hy=>u2 _ (List.mem_map.mpr ⟨y,hy,rfl⟩)
 have hx:∃c,c<2^n∧f c=true:=by
  obtain⟨c,h⟩:=List.exists_mem_of_ne_nil _ hne
  exact⟨c,hL c h⟩
 rw[mem_byLoose hx]
 constructor
 ·rintro⟨h1,h2,h3⟩
  obtain⟨y,hy,hs⟩:=hc x h1 h2
  have e:x=y:=eq_of_sub_size (lt256 hn h1) (lt256 hn (hL y hy).1) (fun i _=>hs i) (h3 y (hL y hy).1 (hL y hy).2)
  subst e
  refine⟨hy,Nat.le_antisymm (up x hy) ?_⟩
  rcases u3 with e|e
  ·rw[e];exact Nat.zero_le _
  ·obtain⟨c,hc',ec⟩:=List.mem_map.mp e
   rw[←ec]
   exact h3 c (hL c hc').1 (hL c hc').2
 ·rintro⟨h1,h2⟩
  refine⟨(hL x h1).1,(hL x h1).2,fun c hc' hf=>?_⟩
  obtain⟨y,hy,hs⟩:=hc c hc' hf
  rw[h2]
  exact Nat.le_trans (size_sub_le hs) (up y hy)
def sumTo (p:Nat→Bool) (N:Nat):Nat:=(((List.range N).filter p).map fun j=>2^j).sum
theorem sumTo_bit (p:Nat→Bool):∀N,sumTo p N<2^N∧∀i,(sumTo p N).testBit i=(decide (i<N)&&p i)
 |0=>⟨Nat.one_pos,fun i=>by rw[decide_eq_false (Nat.not_lt_zero i)];exact Nat.zero_testBit i⟩
 |N+1=>by
  obtain⟨h1,h2⟩:=sumTo_bit p N
  have e:sumTo p (N+1)=sumTo p N+if p N=true then 2^N else 0:=by
   unfold sumTo
   rw[List.range_succ,List.filter_append,List.map_append,List.sum_append,List.filter_cons]
   by_cases hp:p N=true
   ·rw[if_pos hp,if_pos hp];simp
   ·rw[if_neg hp,if_neg hp];simp
  have hN:(sumTo p N).testBit N=false:=bit_out h1 (Nat.le_refl _)
  by_cases hp:p N=true
  ·rw[if_pos hp] at e
   rw[e]
   refine⟨by rw[Nat.pow_succ];omega,fun i=>?_⟩
   rw[testBit_add hN,h2]
   by_cases hi:i=N
   ·subst hi;simp [hp]
   ·have:¬N=i:=fun q=>hi q.symm
    rw[decide_eq_false this,Bool.or_false,show decide (i<N+1)=decide (i<N) from decide_eq_decide.mpr (by omega)]
  ·rw[if_neg hp] at e
   rw[e,Nat.add_zero]
   refine⟨by rw[Nat.pow_succ];omega,fun i=>?_⟩
   rw[h2]
   by_cases hi:i=N
   ·subst hi
    rw[Bool.not_eq_true] at hp
    rw[hp];simp
   ·rw[show decide (i<N+1)=decide (i<N) from decide_eq_decide.mpr (by omega)]
def renum (ks:List Nat) (s:Nat):Nat:=sumTo (fun j=>s.testBit (ks.getD j 0)) ks.length
theorem renum_lt (ks:List Nat) (s:Nat):renum ks s<2^ks.length:=(sumTo_bit _ _).1
theorem renum_bit (ks:List Nat) (s j:Nat):(renum ks s).testBit j=(decide (j<ks.length)&&s.testBit (ks.getD j 0)):=(sumTo_bit _ _).2 j
theorem kept_things {n s:Nat} (hn:n≤8):things (less (all n) s)=kept n s:=by
 unfold things kept
 have key:∀d,n+d≤8→(List.range (n+d)).filter (less (all n) s).testBit=(List.range n).filter fun i=>!s.testBit i:=by
  intro d
  induction d with
  |zero =>
   intro _
   refine List.filter_congr fun i hi=>?_
   rw[tb_co hn,decide_eq_true (show i<n from List.mem_range.mp hi),Bool.true_and]
  |succ d ih =>
   intro h
   rw[←Nat.add_assoc,List.range_succ,List.filter_append,ih (by omega)]
   have:(less (all n) s).testBit (n+d)=false:=by rw[tb_co hn,decide_eq_false (by omega)];rfl
   simp [this]
 have:=key (8-n) (by omega)
 rw[show n+(8-n)=8 by omega] at this
 exact this
theorem kept_at {n s j:Nat} (hj:j<(kept n s).length):(kept n s).getD j 0<n∧s.testBit ((kept n s).getD j 0)=false:=by
 refine kept_mem.mp ?_
 rw[List.getD_eq_getElem?_getD,List.getElem?_eq_getElem hj]
 exact List.getElem_mem hj
theorem kept_ix {n s i:Nat} (h:i<n) (h':s.testBit i=false):∃j,j<(kept n s).length∧(kept n s).getD j 0=i:=by
 obtain⟨j,hj⟩:=List.mem_iff_getElem?.mp (kept_mem.mpr ⟨h,h'⟩)
 refine⟨j,(List.getElem?_eq_some_iff.mp hj).1,?_⟩
 rw[List.getD_eq_getElem?_getD,hj];rfl
section
variable {m : Bond} {s : Nat}
theorem spread_renum (hn:m.n≤8) (hs:s<2^m.n) {b:Nat} (hb:b<2^m.n):spread m.n s (renum (kept m.n s) b)=less b s:=Nat.eq_of_testBit_eq fun i=>by
 rw[Bool.eq_iff_iff,tb_spread hn,testBit_less,Bool.and_eq_true,Bool.and_eq_true,decide_eq_true_eq,Bool.not_eq_true']
 constructor
 ·rintro⟨j,j1,j2,j3⟩
  obtain⟨k1,k2⟩:=kept_at j1
  rw[renum_bit,Bool.and_eq_true] at j3
  rw[j2] at k1 k2 j3
  exact⟨by omega,j3.2,k2⟩
 ·rintro⟨h1,h2,h3⟩
  obtain⟨j,j1,j2⟩:=kept_ix (bit_in hb h2) h3
  exact⟨j,j1,j2,by rw[renum_bit,decide_eq_true j1,j2,h2];rfl⟩
theorem mem_drop (M:Mat m) (hs:s<2^m.n) (x:Nat):x∈(m.drop s).bases↔x∈m.bases.map (renum (kept m.n s))∧size x=((m.bases.map (renum (kept m.n s))).map size).foldl max 0:=by
 have hn:=M.good.n8
 have hl:=kept_length hn hs
 have R:=ren_spread hn hs
 refine cover (by omega) (fun x hx=>?_) (fun q=>M.good.ne (List.map_eq_nil_iff.mp q)) (fun t ht hf=>?_) x
 ·obtain⟨b,hb,rfl⟩:=List.mem_map.mp hx
  have hb2:=M.good.lt b hb
  refine⟨by rw[←hl];exact renum_lt _ _,?_⟩
  rw[spread_renum hn hs hb2]
  refine (loose_lo M.good (less_lt _ _)).mpr ⟨b,hb,fun i hi=>?_⟩
  rw[testBit_less,Bool.and_eq_true,Bool.and_eq_true] at hi
  exact hi.2.1
 ·obtain⟨b,hb,hsub⟩:=(loose_lo M.good (R.sp8 ht)).mp hf
  refine⟨_,List.mem_map.mpr ⟨b,hb,rfl⟩,fun j hj=>?_⟩
  have hjn:=bit_in ht hj
  rw[renum_bit,hl,decide_eq_true hjn,Bool.true_and]
  refine hsub _ ?_
  have:=R.at_ ht hjn
  rw[hj] at this
  exact this
theorem rank_le_whole (g:Good m) (t:Nat):m.rank t≤m.whole:=by
 obtain⟨b,hb,e⟩:=rank_has g.ne t
 rw[←e,whole_eq g hb]
 exact size_and_le_left b t
theorem mem_pinch (M:Mat m) (hs:s<2^m.n) (x:Nat):x∈(m.pinch s).bases↔∃b,b∈m.bases∧size (b&&&s)=m.rank s∧renum (kept m.n s) b=x:=by
 have hn:=M.good.n8
 have hl:=kept_length hn hs
 have R:=ren_spread hn hs
 have s8:=lt256 hn hs
 have hn':m.n-size s≤8:=by omega
 have rl:∀b,renum (kept m.n s) b<2^(m.n-size s):=fun b=>by rw[←hl];exact renum_lt _ _
 have sz:∀b,b∈m.bases→size (renum (kept m.n s) b)+size (b&&&s)=m.whole:=fun b hb=>by
  have h1:=R.size hn' _ _ (rl b) rfl
  rw[spread_renum hn hs (M.good.lt b hb)] at h1
  have h2:=size_less (a:=b) (b:=s) (M.good.lt8 hb)
  rw[whole_eq M.good hb]
  omega
 have full:∀b,b∈m.bases→size (b&&&s)=m.rank s→(m.rank (either (spread m.n s (renum (kept m.n s) b)) s)==m.rank s+size (renum (kept m.n s) b))=true:=fun b hb e=>by
  rw[beq_iff_eq,spread_renum hn hs (M.good.lt b hb)]
  have h1:=sz b hb
  have h2:=rank_le_whole M.good (either (less b s) s)
  have h3:=rank_le m (s:=either (less b s) s) hb
  have e3:b&&&either (less b s) s=b:=by
   rw[Nat.and_comm]
   refine (sub_iff (M.good.lt8 hb)).mpr fun i hi=>?_
   show (less b s|||s).testBit i=true
   rw[Nat.testBit_or,testBit_less,decide_eq_true (bit_in (n:=8) (M.good.lt8 hb) hi),hi]
   cases s.testBit i<;>rfl
  rw[e3,←whole_eq M.good hb] at h3
  omega
 rw[show (m.pinch s).bases=(byLoose (m.n-size s) fun t=>m.rank (either (spread m.n s t) s)==m.rank s+size t).bases from rfl,mem_byLoose (ind_pinch M hs).some]
 constructor
 ·rintro⟨h1,h2,h3⟩
  rw[beq_iff_eq] at h2
  obtain⟨b0,hb0,e0⟩:=rank_has M.good.ne s
  have g0:=h3 _ (rl b0) (full b0 hb0 e0)
  have g1:=sz b0 hb0
  have g2:=rank_le_whole M.good (either (spread m.n s x) s)
  obtain⟨b,hb,e⟩:=rank_has M.good.ne (either (spread m.n s x) s)
  have hw:=whole_eq M.good hb
  have b8:=M.good.lt8 hb
  have hr:=rank_le m (s:=s) hb
  have hsub:Sub b (either (spread m.n s x) s):=by
   refine (sub_iff b8).mp ?_
   rw[Nat.and_comm,Nat.and_comm]
   have:=(and_eq_iff_size (b:=either (spread m.n s x) s) b8).mpr (by rw[Nat.and_comm];omega)
   exact this
  have hls:Sub (less b s) (spread m.n s x):=fun i hi=>by
   rw[testBit_less,Bool.and_eq_true,Bool.and_eq_true,Bool.not_eq_true'] at hi
   have:=hsub i hi.2.1
   have this:(spread m.n s x|||s).testBit i=true:=this
   rw[Nat.testBit_or,hi.2.2,Bool.or_false] at this
   exact this
  have hsx:=R.size hn' _ x h1 rfl
  have hsl:=size_less (a:=b) (b:=s) b8
  have eq:less b s=spread m.n s x:=eq_of_sub_size (less_lt _ _) (R.sp8 h1) (fun i _=>hls i) (by omega)
  refine⟨b,hb,by rw[eq] at hsl;omega,Nat.eq_of_testBit_eq fun j=>?_⟩
  rw[renum_bit,hl]
  by_cases hj:j<m.n-size s
  ·rw[decide_eq_true hj,Bool.true_and,←R.at_ h1 hj]
   show b.testBit ((kept m.n s).getD j 0)=(spread m.n s x).testBit ((kept m.n s).getD j 0)
   rw[←eq,testBit_less]
   obtain⟨k1,k2⟩:=kept_at (n:=m.n) (s:=s) (j:=j) (by omega)
   rw[k2,decide_eq_true (show (kept m.n s).getD j 0<8 by omega)]
   simp
  ·rw[decide_eq_false hj,Bool.false_and,bit_out h1 (by omega)]
 ·rintro⟨b,hb,e,rfl⟩
  refine⟨rl b,full b hb e,fun c hc hf=>?_⟩
  rw[beq_iff_eq] at hf
  have g1:=sz b hb
  have g2:=rank_le_whole M.good (either (spread m.n s c) s)
  omega
end
theorem or_pair {n a b:Nat} (ha:a<2^n):a|||(b*2^n)=a+2^n*b:=Nat.eq_of_testBit_eq fun i=>by
 rw[tb_pair ha,Nat.testBit_or,Nat.testBit_mul_two_pow]
 by_cases h:i<n
 ·rw[if_pos h,decide_eq_false (by omega)];simp
 ·rw[if_neg h,decide_eq_true (by omega),bit_out ha (by omega)];simp
def joinedL (as bs:List Nat):List Nat:=as.flatMap fun a=>bs.map fun b=>a|||b
theorem mem_joinedL {as bs:List Nat} {x:Nat}:x∈joinedL as bs↔∃a,a∈as∧∃b,b∈bs∧a|||b=x:=by
 unfold joinedL
 rw[List.mem_flatMap]
 refine exists_congr fun a=>and_congr_right fun _=>?_
 rw[List.mem_map]
theorem mem_besideJ {m k:Bond} (M:Good m) (K:Good k) {x:Nat}:x∈(m.beside k).bases↔x∈joinedL m.bases (k.bases.map fun b=>b*2^m.n):=by
 rw[mem_beside M K,mem_joinedL]
 refine exists_congr fun a=>and_congr_right fun ha=>?_
 constructor
 ·rintro⟨b,hb,e⟩
  exact⟨b*2^m.n,List.mem_map.mpr ⟨b,hb,rfl⟩,by rw[or_pair (M.lt a ha)];exact e⟩
 ·rintro⟨c,hc,e⟩
  obtain⟨b,hb,rfl⟩:=List.mem_map.mp hc
  exact⟨b,hb,by rw[←or_pair (M.lt a ha)];exact e⟩
theorem mem_unionJ {m k:Bond} (M:Mat m) (K:Mat k) (hnk:m.n=k.n) (x:Nat):x∈(m.union k).bases↔x∈joinedL m.bases k.bases∧size x=((joinedL m.bases k.bases).map size).foldl max 0:=by
 have hn:=M.good.n8
 refine cover hn (fun x hx=>?_) (fun q=>?_) (fun t ht hf=>?_) x
 ·obtain⟨a,ha,b,hb,rfl⟩:=mem_joinedL.mp hx
  have la:=M.good.lt a ha
  have lb:b<2^m.n:=by rw[hnk];exact K.good.lt b hb
  have lx:a|||b<2^m.n:=Nat.or_lt_two_pow la lb
  refine⟨lx,(union_iff hn lx).mpr ⟨a,less b a,fun i hi=>by rw[Nat.testBit_or,hi];rfl,fun i hi=>?_,fun i hi=>?_,(loose_lo M.good (M.good.lt8 ha)).mpr ⟨a,ha,fun i h=>h⟩,(loose_lo K.good (less_lt _ _)).mpr ⟨b,hb,fun i hi=>?_⟩⟩⟩
  ·rw[testBit_less,Bool.and_eq_true,Bool.and_eq_true] at hi
   rw[Nat.testBit_or,hi.2.1];simp
  ·rw[testBit_less]
   have hi8:i<8:=Nat.lt_of_lt_of_le (bit_in lx hi) hn
   rw[Nat.testBit_or] at hi
   rw[decide_eq_true hi8]
   cases hai:a.testBit i with
   |true=>exact .inl ⟨rfl,by simp⟩
   |false =>
    rw[hai,Bool.false_or] at hi
    exact .inr ⟨rfl,by rw[hi];rfl⟩
  ·rw[testBit_less,Bool.and_eq_true,Bool.and_eq_true] at hi
   exact hi.2.1
 ·obtain⟨a,ha⟩:=List.exists_mem_of_ne_nil _ M.good.ne
  obtain⟨b,hb⟩:=List.exists_mem_of_ne_nil _ K.good.ne
  have:=mem_joinedL.mpr ⟨a,ha,b,hb,rfl⟩
  rw[q] at this;cases this
 ·obtain⟨a,b,h1,h2,h3,h4,h5⟩:=(union_iff hn ht).mp hf
  obtain⟨c,hc,sc⟩:=(loose_lo M.good (lt_of_sub (lt256 hn ht) h1)).mp h4
  obtain⟨d,hd,sd⟩:=(loose_lo K.good (lt_of_sub (lt256 hn ht) h2)).mp h5
  refine⟨c|||d,mem_joinedL.mpr ⟨c,hc,d,hd,rfl⟩,fun i hi=>?_⟩
  rw[Nat.testBit_or]
  rcases h3 i hi with q|q
  ·rw[sc i q.1];rfl
  ·rw[sd i q.2];simp
theorem xor_co {n s:Nat} (hn:n≤8) (hs:s<2^n):(2^n-1)^^^s=less (all n) s:=Nat.eq_of_testBit_eq fun i=>by
 rw[tb_co hn,Nat.testBit_xor,Nat.testBit_two_pow_sub_one]
 by_cases h:i<n
 ·rw[decide_eq_true h];cases s.testBit i<;>rfl
 ·rw[decide_eq_false h,bit_out hs (by omega)];rfl
theorem first_is {l:List Nat} {p:Nat→Bool} (hl:l.Pairwise (·<·)) {c:Nat} (hc:c∈l) (hp:p c=true) (hm:∀x,x∈l→p x=true→c≤x):(l.filter p)[0]?=some c:=by
 have hr:=hl.filter p
 have hcm:c∈l.filter p:=List.mem_filter.mpr ⟨hc,hp⟩
 cases e:l.filter p with
 |nil=>rw[e] at hcm;cases hcm
 |cons y r =>
  rw[e] at hcm hr
  have hy:y∈l∧p y=true:=List.mem_filter.mp (by rw[e];exact List.mem_cons_self)
  have h1:=hm y hy.1 hy.2
  rcases List.mem_cons.mp hcm with q|q
  ·rw[q];rfl
  ·have:=(List.pairwise_cons.mp hr).1 c q
   omega
theorem common_first {m k:Bond} (hm:m.bases≠[]) (hk:k.bases≠[]) :
  let L:=(sets m.n).filter fun s=>m.rank s==size s&&k.rank s==size s
  (L.map size).foldl max 0=size (common m k)∧(L.filter fun s=>size s==size (common m k))[0]?=some (common m k)∧L≠[]:=by
 intro L
 obtain⟨c1,c2,c3,c4⟩:=common_ok hm hk
 have hmem:∀x,x∈L↔x<2^m.n∧m.loose x=true∧k.loose x=true:=fun x=>by
  show x∈(sets m.n).filter _↔_
  rw[List.mem_filter,mem_sets,Bool.and_eq_true]
  rfl
 have hcL:common m k∈L:=(hmem _).mpr ⟨c1,c2,c3⟩
 refine⟨max_is (List.mem_map.mpr ⟨_,hcL,rfl⟩) fun y hy=>?_,first_is ((sets_rise _).filter _) hcL (beq_self_eq_true _) fun x hx hp=>?_,List.ne_nil_of_mem hcL⟩
 ·obtain⟨x,hx,rfl⟩:=List.mem_map.mp hy
  obtain⟨x1,x2,x3⟩:=(hmem x).mp hx
  exact (c4 x x1 x2 x3).1
 ·obtain⟨x1,x2,x3⟩:=(hmem x).mp hx
  exact (c4 x x1 x2 x3).2 (eq_of_beq hp)
theorem shows_first {m k:Bond} (M:Mat m) (K:Mat k) (hnk:m.n=k.n):((sets m.n).filter fun s=>m.rank s+k.rank (less (all m.n) s)==size (common m k))[0]?=some (shows m k):=by
 obtain⟨A,a1,a2⟩:=shows_some M K hnk
 have h:=List.head?_filter (p:=fun s=>m.rank s+k.rank (less (all m.n) s)==size (common m k)) (l:=sets m.n)
 rw[←List.head?_eq_getElem?,h]
 unfold shows
 cases e:(sets m.n).find? fun s=>m.rank s+k.rank (less (all m.n) s)==size (common m k) with
 |some x=>rfl
 |none =>
  have:=List.find?_eq_none.mp e A (mem_sets.mpr a1)
  exact absurd (beq_iff_eq.mpr a2) this
theorem worth_sum (w:List Int) (s:Nat):((things s).map fun i=>w.getD i 0).sum=worth w s:=by
 unfold worth
 have:∀(l:List Nat) (a:Int),l.foldl (fun (a:Int) i=>a+w.getD i 0) a=a+(l.map fun i=>w.getD i 0).sum:=by
  intro l
  induction l with
  |nil=>intro a;simp
  |cons x l ih=>intro a;rw[List.foldl_cons,ih,List.map_cons,List.sum_cons];omega
 rw[this];omega
theorem best_first (g:Nat→Int):∀(l:List Nat) (b:Nat),let c:=l.foldl (fun b s=>if g b<g s then s else b) b
  (g b≤g c∧∀x,x∈l→g x≤g c)∧((c=b∧∀x,x∈l→g x≤g b)∨∃j:Nat,l[j]?=some c∧g b<g c∧∀(i x:Nat),i<j→l[i]?=some x→g x<g c)
 |[],b=>⟨⟨Int.le_refl _,fun x h=>by cases h⟩,.inl ⟨rfl,fun x h=>by cases h⟩⟩
 |y::l,b=>by
  intro c
  have hc:c=l.foldl (fun b s=>if g b<g s then s else b) (if g b<g y then y else b):=rfl
  have ih:=best_first g l (if g b<g y then y else b)
  dsimp only at ih
  rw[←hc] at ih
  clear_value c
  by_cases h:g b<g y
  ·rw[if_pos h] at ih
   obtain⟨⟨i1,i2⟩,i3⟩:=ih
   refine⟨⟨by omega,fun x hx=>?_⟩,.inr ?_⟩
   ·rcases List.mem_cons.mp hx with q|q
    ·rw[q];exact i1
    ·exact i2 x q
   ·rcases i3 with⟨e,q⟩|⟨j,j1,j2,j3⟩
    ·exact⟨0,by rw[e];rfl,by rw[e];exact h,fun i x hi=>absurd hi (Nat.not_lt_zero i)⟩
    ·refine⟨j+1,j1,by omega,fun i x hi hx=>?_⟩
     cases i with
     |zero=>have:y=x:=Option.some.inj hx;rw[←this];exact j2
     |succ i=>exact j3 i x (by omega) hx
  ·rw[if_neg h] at ih
   obtain⟨⟨i1,i2⟩,i3⟩:=ih
   refine⟨⟨i1,fun x hx=>?_⟩,?_⟩
   ·rcases List.mem_cons.mp hx with q|q
    ·rw[q];omega
    ·exact i2 x q
   ·rcases i3 with⟨e,q⟩|⟨j,j1,j2,j3⟩
    ·refine .inl ⟨e,fun x hx=>?_⟩
     rcases List.mem_cons.mp hx with z|z
     ·rw[z];omega
     ·exact q x z
    ·refine .inr ⟨j+1,j1,j2,fun i x hi hx=>?_⟩
     cases i with
     |zero=>have:y=x:=Option.some.inj hx;rw[←this];omega
     |succ i=>exact j3 i x (by omega) hx
theorem best_at {m:Bond} (hne:m.bases≠[]) (w:List Int):∃j:Nat,m.bases[j]?=some (m.best w)∧(∀x,x∈m.bases→worth w x≤worth w (m.best w))∧∀(i x:Nat),i<j→m.bases[i]?=some x→worth w x<worth w (m.best w):=by
 cases hb:m.bases with
 |nil=>exact absurd hb hne
 |cons y l =>
  have e:m.best w=l.foldl (fun b s=>if worth w b<worth w s then s else b) y:=by
   unfold Bond.best
   rw[hb,List.headD_cons,List.foldl_cons,if_neg (Int.lt_irrefl _)]
  have h:=best_first (worth w) l y
  dsimp only at h
  rw[←e] at h
  obtain⟨⟨h1,h2⟩,h3⟩:=h
  have hall:∀x,x∈y::l→worth w x≤worth w (m.best w):=fun x hx=>by
   rcases List.mem_cons.mp hx with q|q
   ·rw[q];exact h1
   ·exact h2 x q
  rcases h3 with⟨q,_⟩|⟨j,j1,j2,j3⟩
  ·exact⟨0,by rw[q];rfl,hall,fun i x hi=>absurd hi (Nat.not_lt_zero i)⟩
  ·refine⟨j+1,j1,hall,fun i x hi hx=>?_⟩
   cases i with
   |zero=>have:y=x:=Option.some.inj hx;rw[←this];exact j2
   |succ i=>exact j3 i x (by omega) hx
def powRow:Nat→List Int
 |0=>[1,0,0,0,0,0,0,0,0]
 |p+1=>(List.range 9).map fun i=>(0::powRow p).getD i 0-(powRow p).getD i 0
theorem powRow_len:∀p,p≤8→(powRow p).length=9:=by decide +kernel
theorem powRow_is:∀p,p≤8→∀i,i≤8→(powRow p).getD i 0=signed (p-i) (choose p i):=by decide +kernel
theorem powRow_small:∀p,p≤8→∀i,i≤8→-100≤(powRow p).getD i 0∧(powRow p).getD i 0≤100:=by decide +kernel
def numTo (m:Bond) (i j N:Nat):Int:=(List.range N).foldl (fun (z:Int) s=>z+(powRow (m.whole-m.rank s)).getD i 0*(powRow (size s-m.rank s)).getD j 0) 0
theorem whole_8 {m:Bond} (g:Good m):m.whole≤8:=by
 obtain⟨b,hb⟩:=List.exists_mem_of_ne_nil _ g.ne
 rw[whole_eq g hb];exact size_le_8 b
theorem num_is {m:Bond} (g:Good m) {i j:Nat} (hi:i≤8) (hj:j≤8):numTo m i j (2^m.n)=m.number i j:=by
 unfold numTo Bond.number
 show (List.range (2^m.n)).foldl _ 0=(List.range (2^m.n)).foldl _ 0
 have:(fun (z:Int) (s:Nat)=>z+(powRow (m.whole-m.rank s)).getD i 0*(powRow (size s-m.rank s)).getD j 0)=fun (z:Int) (s:Set_) =>
   let a:=m.whole-m.rank s
   let b:=size s-m.rank s
   z+signed (a-i) (choose a i)*signed (b-j) (choose b j):=by
  funext z s
  have:=whole_8 g
  have:=size_le_8 s
  rw[powRow_is _ (by omega) i hi,powRow_is _ (by omega) j hj]
 rw[this]
def Closed (rs:List Nat) (C:Nat→Prop):Prop:=∀r,r∈rs→(∃i,i<8∧r.testBit i=true∧C i)→∀j,j<8→r.testBit j=true→C j
def pass (rs:List Nat) (s:Nat):Nat:=rs.foldl (fun t r=>if both t r=0 then t else either t r) s
theorem and_zero_iff {t r:Nat}:t&&&r=0↔∀i,¬(t.testBit i=true∧r.testBit i=true):=by
 constructor
 ·intro h i ⟨a,b⟩
  have:=congrArg (fun z=>z.testBit i) h
  simp [a,b] at this
 ·intro h
  refine Nat.eq_of_testBit_eq fun i=>?_
  rw[Nat.testBit_and,Nat.zero_testBit,Bool.and_eq_false_iff]
  cases ha:t.testBit i with
  |false=>exact .inl rfl
  |true =>
   right
   cases hb:r.testBit i with
   |false=>rfl
   |true=>exact absurd ⟨ha,hb⟩ (h i)
theorem pass_sub:∀(rs:List Nat) (s:Nat) (i:Nat),s.testBit i=true→(pass rs s).testBit i=true
 |[],s,i,h=>h
 |r::rs,s,i,h=>by
  show (pass rs (if both s r=0 then s else either s r)).testBit i=true
  refine pass_sub rs _ i ?_
  split
  ·exact h
  ·show (s|||r).testBit i=true
   rw[Nat.testBit_or,h];rfl
theorem pass_lt:∀{rs:List Nat} {s:Nat},(∀r,r∈rs→r<256)→s<256→pass rs s<256
 |[],s,_,h=>h
 |r::rs,s,hr,h=>by
  show pass rs (if both s r=0 then s else either s r)<256
  refine pass_lt (fun x hx=>hr x (List.mem_cons_of_mem _ hx)) ?_
  split
  ·exact h
  ·exact Nat.or_lt_two_pow (n:=8) h (hr r List.mem_cons_self)
theorem pass_in {C:Nat→Prop}:∀{rs:List Nat} {s:Nat},(∀r,r∈rs→r<256)→s<256→Closed rs C→(∀i,s.testBit i=true→C i)→∀i,(pass rs s).testBit i=true→C i
 |[],s,_,_,_,h=>h
 |r::rs,s,hr,hs,hc,h=>by
  show ∀i,(pass rs (if both s r=0 then s else either s r)).testBit i=true→C i
  have hr':∀x,x∈rs→x<256:=fun x hx=>hr x (List.mem_cons_of_mem _ hx)
  have hc':Closed rs C:=fun x hx=>hc x (List.mem_cons_of_mem _ hx)
  by_cases e:both s r=0
  ·rw[if_pos e];exact pass_in hr' hs hc' h
  ·rw[if_neg e]
   refine pass_in hr' (Nat.or_lt_two_pow (n:=8) hs (hr r List.mem_cons_self)) hc' fun i hi=>?_
   have hi:(s|||r).testBit i=true:=hi
   rw[Nat.testBit_or,Bool.or_eq_true] at hi
   rcases hi with hi|hi
   ·exact h i hi
   ·obtain⟨k,hk⟩:∃k,s.testBit k=true∧r.testBit k=true:=Classical.byContradiction fun hn=>e (and_zero_iff.mpr fun k hk=>hn ⟨k,hk⟩)
    have k8:k<8:=bit_in (n:=8) hs hk.1
    exact hc r List.mem_cons_self ⟨k,k8,hk.2,h k hk.1⟩ i (bit_in (n:=8) (hr r List.mem_cons_self) hi) hi
theorem pass_eq_closed:∀{rs:List Nat} {s:Nat},(∀r,r∈rs→r<256)→s<256→pass rs s=s→Closed rs (fun i=>s.testBit i=true)
 |[],s,_,_,_=>fun r h=>(by cases h)
 |r::rs,s,hr,hs,e=>by
  have hr':∀x,x∈rs→x<256:=fun x hx=>hr x (List.mem_cons_of_mem _ hx)
  have hrr:=hr r List.mem_cons_self
  have e:pass rs (if both s r=0 then s else either s r)=s:=e
  have sub:∀i,(if both s r=0 then s else either s r).testBit i=true→s.testBit i=true:=fun i h=>by
   have:=pass_sub rs _ i h
   rwa [e] at this
  have e0:(if both s r=0 then s else either s r)=s:=by
   by_cases hz:both s r=0
   ·rw[if_pos hz]
   ·rw[if_neg hz] at sub ⊢
    refine Nat.eq_of_testBit_eq fun i=>?_
    show (s|||r).testBit i=_
    rw[Nat.testBit_or]
    cases h1:s.testBit i with
    |true=>rfl
    |false =>
     cases h2:r.testBit i with
     |false=>rfl
     |true =>
      have:=sub i (show (s|||r).testBit i=true by rw[Nat.testBit_or,h2,Bool.or_true])
      rw[h1] at this;cases this
  rw[e0] at e
  have ih:=pass_eq_closed hr' hs e
  intro x hx
  rcases List.mem_cons.mp hx with rfl|hx
  ·rintro⟨i,hi,h1,h2⟩ j hj hj1
   have hne:¬both s x=0:=fun z=>and_zero_iff.mp z i ⟨h2,h1⟩
   rw[if_neg hne] at e0
   have:(s|||x).testBit j=true:=by rw[Nat.testBit_or,hj1,Bool.or_true]
   have e0:s|||x=s:=e0
   rwa [e0] at this
  ·exact ih x hx
theorem grow_fix {rs:List Nat} {s:Nat} (h:pass rs s=s):∀f,grow rs f s=s
 |0=>rfl
 |f+1=>by
  show grow rs f (pass rs s)=s
  rw[h];exact grow_fix h f
theorem grow_ok {rs:List Nat} (hr:∀r,r∈rs→r<256):∀(f s:Nat),s<256→8<size s+f→grow rs f s<256∧Closed rs (fun i=>(grow rs f s).testBit i=true)∧(∀i,s.testBit i=true→(grow rs f s).testBit i=true) ∧
  ∀C:Nat→Prop,Closed rs C→(∀i,s.testBit i=true→C i)→∀i,(grow rs f s).testBit i=true→C i
 |0,s,hs,h=>by have:=size_le_8 s;omega
 |f+1,s,hs,h=>by
  show grow rs f (pass rs s)<256∧Closed rs (fun i=>(grow rs f (pass rs s)).testBit i=true)∧(∀i,s.testBit i=true→(grow rs f (pass rs s)).testBit i=true)∧∀C:Nat→Prop,Closed rs C→(∀i,s.testBit i=true→C i)→∀i,(grow rs f (pass rs s)).testBit i=true→C i
  by_cases e:pass rs s=s
  ·rw[e,grow_fix e]
   exact⟨hs,pass_eq_closed hr hs e,fun i h=>h,fun C _ h=>h⟩
  ·have hlt:=pass_lt hr hs
   have hgt:size s<size (pass rs s):=by
    refine Nat.lt_of_not_le fun hle=>e ?_
    exact (eq_of_sub_size hs hlt (fun i _ h=>pass_sub rs s i h) hle).symm
   obtain⟨a1,a2,a3,a4⟩:=grow_ok hr f (pass rs s) hlt (by omega)
   exact⟨a1,a2,fun i h=>a3 i (pass_sub rs s i h),fun C hc h=>a4 C hc (pass_in hr hs hc h)⟩
def tie (least:List Nat) (low:Nat) (marks:List Nat):List Nat:=least.map fun k=>if k∈marks then low else k
structure Marks (n:Nat) (rs:List Nat) (L:List Nat):Prop where
 len:L.length=n
 le:∀i,i<n→L.getD i 0≤i
 self:∀i,i<n→L.getD (L.getD i 0) 0=L.getD i 0
 one:∀r,r∈rs→∀i j,i<n→j<n→r.testBit i=true→r.testBit j=true→L.getD i 0=L.getD j 0
 least:∀C:Nat→Prop,Closed rs C→∀i j,i<n→j<n→L.getD i 0=L.getD j 0→C i→C j
theorem marks_start (n:Nat):Marks n [] (List.range n):=by
 have e:∀i,i<n→(List.range n).getD i 0=i:=fun i hi=>by rw[List.getD_eq_getElem?_getD,List.getElem?_range hi];rfl
 refine⟨List.length_range,fun i hi=>Nat.le_of_eq (e i hi),fun i hi=>by rw[e i hi,e i hi],fun r h=>(by cases h),fun C _ i j hi hj h c=>?_⟩
 rw[e i hi,e j hj] at h
 rw[←h];exact c
theorem getD_tie {L marks:List Nat} {low i:Nat} (hi:i<L.length):(tie L low marks).getD i 0=if L.getD i 0∈marks then low else L.getD i 0:=by
 unfold tie
 rw[List.getD_eq_getElem?_getD,List.getElem?_map,List.getD_eq_getElem?_getD,List.getElem?_eq_getElem hi]
 rfl
theorem marks_step {n r low:Nat} {rs L marks:List Nat} (hn:n≤8) (M:Marks n rs L) (hr:r<2^n) (hm:∀k,k∈marks↔∃t,t<8∧r.testBit t=true∧L.getD t 0=k) (hl1:low∈marks) (hl2:∀k,k∈marks→low≤k) :
  Marks n (rs++[r]) (tie L low marks):=by
 have hL:=M.len
 have g:∀{i},i<n→(tie L low marks).getD i 0=if L.getD i 0∈marks then low else L.getD i 0:=fun hi=>getD_tie (by omega)
 obtain⟨t0,ht0,hrt0,elow⟩:=(hm low).mp hl1
 have ht0n:t0<n:=bit_in hr hrt0
 have hlown:low<n:=by have:=M.le t0 ht0n;omega
 have hlowself:L.getD low 0=low:=by have:=M.self t0 ht0n;rw[elow] at this;exact this
 refine⟨by unfold tie;rw[List.length_map];exact hL,fun i hi=>?_,fun i hi=>?_,fun x hx i j hi hj hxi hxj=>?_,fun C hC i j hi hj e c=>?_⟩
 ·rw[g hi]
  have:=M.le i hi
  split
  ·rename_i h;have:=hl2 _ h;omega
  ·exact this
 ·rw[g hi]
  by_cases h:L.getD i 0∈marks
  ·rw[if_pos h,g hlown,hlowself,if_pos hl1]
  ·rw[if_neg h,g (by have:=M.le i hi;omega),M.self i hi,if_neg h]
 ·rw[g hi,g hj]
  rcases List.mem_append.mp hx with hx|hx
  ·rw[M.one x hx i j hi hj hxi hxj]
  ·rw[List.mem_singleton.mp hx] at hxi hxj
   rw[if_pos ((hm _).mpr ⟨i,by omega,hxi,rfl⟩),if_pos ((hm _).mpr ⟨j,by omega,hxj,rfl⟩)]
 ·have hC':Closed rs C:=fun x hx=>hC x (List.mem_append_left _ hx)
  have hCr:=hC r (List.mem_append_right _ (List.mem_singleton.mpr rfl))
  rw[g hi,g hj] at e
  by_cases h1:L.getD i 0∈marks
  ·have h2:L.getD j 0∈marks:=by
    by_cases h2:L.getD j 0∈marks
    ·exact h2
    ·rw[if_pos h1,if_neg h2] at e
     rw[←e];exact hl1
   obtain⟨t,ht,hrt,e1⟩:=(hm _).mp h1
   obtain⟨u,hu,hru,e2⟩:=(hm _).mp h2
   have ct:C t:=M.least C hC' i t hi (bit_in hr hrt) e1.symm c
   have cu:C u:=hCr ⟨t,ht,hrt,ct⟩ u hu hru
   exact M.least C hC' u j (bit_in hr hru) hj e2 cu
  ·by_cases h2:L.getD j 0∈marks
   ·rw[if_neg h1,if_pos h2] at e
    rw[e] at h1;exact absurd hl1 h1
   ·rw[if_neg h1,if_neg h2] at e
    exact M.least C hC' i j hi hj e c
theorem things_head {s k:Nat} (hk:k<8) (h1:s.testBit k=true) (h2:∀j,j<8→s.testBit j=true→k≤j) (d:Nat):(things s).headD d=k:=by
 have hne:things s≠[]:=List.ne_nil_of_mem (mem_things.mpr ⟨hk,h1⟩)
 have hs:(things s).Pairwise (·<·):=by unfold things;exact (List.pairwise_lt_range).filter _
 have hm:=mem_things.mpr ⟨hk,h1⟩
 cases e:things s with
 |nil=>exact absurd e hne
 |cons x l =>
  rw[e] at hs hm
  have hx:x∈things s:=by rw[e];exact List.mem_cons_self
  obtain⟨a,b⟩:=mem_things.mp hx
  have:=h2 x a b
  show x=k
  rcases List.mem_cons.mp hm with q|q
  ·exact q.symm
  ·have:=(List.pairwise_cons.mp hs).1 k q;omega
theorem leasts_eq {m:Bond} (hn:m.n≤8) {L:List Nat} (M:Marks m.n m.rounds L):L=m.leasts:=by
 have hr:∀r,r∈m.rounds→r<256:=fun r h=>lt256 hn (mem_sets.mp (List.mem_filter.mp h).1)
 have hr':∀r,r∈m.rounds→r<2^m.n:=fun r h=>mem_sets.mp (List.mem_filter.mp h).1
 unfold Bond.leasts
 refine List.ext_getElem (by rw[List.length_map,List.length_range];exact M.len) fun i h1 h2=>?_
 have hi:i<m.n:=by rw[←M.len];exact h1
 rw[List.getElem_map,List.getElem_range]
 have eL:L[i]=L.getD i 0:=by rw[List.getD_eq_getElem?_getD,List.getElem?_eq_getElem h1];rfl
 rw[eL]
 unfold Bond.part
 have hs:(2:Nat)^i<256:=Nat.lt_of_lt_of_le (one_lt hi) (pow_le_256 hn)
 have hsz:size (2^i)=1:=by
  have:=size_add (s:=0) (i:=i) (by omega) (Nat.zero_testBit i)
  rw[Nat.zero_add,size_zero] at this
  exact this
 obtain⟨a1,a2,a3,a4⟩:=grow_ok hr THINGS (2^i) hs (by rw[hsz];decide)
 have hLi:=M.le i hi
 have sameC:Closed m.rounds (fun j=>j<m.n∧L.getD j 0=L.getD i 0):=fun r hr0 ⟨k,_,hk2,hk3,hk4⟩ j _ hj2 =>
  ⟨bit_in (hr' r hr0) hj2,(M.one r hr0 j k (bit_in (hr' r hr0) hj2) hk3 hj2 hk2).trans hk4⟩
 symm
 refine things_head (by omega) ?_ (fun j hj hb=>?_) i
 ·exact M.least _ a2 i (L.getD i 0) hi (by omega) (M.self i hi).symm (a3 i (by rw[tb_pow];simp))
 ·obtain⟨b1,b2⟩:=a4 _ sameC (fun k hk=>by
   rw[tb_pow,decide_eq_true_eq] at hk
   subst hk
   exact⟨hi,rfl⟩) j hb
  rw[←b2]
  exact M.le j b1
end BM
namespace L2
open PySem PySem.Spec PyProof.Rows
theorem same_new {H:Hp} {D:Addr} {o:HO} (h:H D=none):Same H (upd H D o):=fun b u e=>by
 rw[upd_ne (ne_of_none e h)];exact e
theorem same_upd {H H':Hp} {D:Addr} {o:HO} (s:Same H H') (h:H D=none):Same H (upd H' D o):=fun b u e=>by
 rw[upd_ne (ne_of_none e h)];exact s b u e
theorem lcR {lo:Int} {n:Nat} {g:TG} {tt:TT} {te:TE} {vs:List Nat} {σ:St} {H1:Hp} {Q:VK} (p:Nat→Bool) (f:Nat→V) (hn:n≤100000)
  (hs:∀i H' (R:V→Hp→Prop) (S:Hp→Prop),i<n→Same H1 H'→(p i=true→∀H4,Same H' H4→R (f i) H4)→(p i=false→∀H4,Same H' H4→S H4) →
   g (.int (lo+i)) (wipe σ vs) H' fun σ2 H2=>wipe σ2 vs=wipe σ vs∧tt σ2 H2 fun b H3=>if b=true then te σ2 H3 R else S H3)
  (hd:∀D H',Same H1 H'→H1 D=none→H' D=some (.lst (((List.range n).filter p).map f))→Q (.ref D) H'):∀D,H1 D=none →
  ∃W:Nat→Nat→Hp→Prop,(∃m,W 0 m (upd H1 D (.lst [])))∧∀i m H,W i m H →
   ((Itr lo n).stop i H∧Q (.ref D) H)∨((Itr lo n).go i H∧∃Nx:Hp→Prop,(∀H',Nx H'→∃m',m'<m∧W (i+1) m' H')∧∀x H',(Itr lo n).yld i H x H'→g x (wipe σ vs) H' fun σ2 H2=>wipe σ2 vs=wipe σ vs∧tt σ2 H2 fun b H3 =>
    if b=true then te σ2 H3 fun y H4=>∃acc,H4 D=some (.lst acc)∧acc.length<sizeLine∧Nx (upd H4 D (.lst (acc++[y]))) else Nx H3):=by
 intro D hD
 refine lc_range (fun i H=>Same H1 H∧H D=some (.lst (((List.range i).filter p).map f))) ⟨same_new hD,upd_same⟩ (fun i H hi ⟨s,e⟩=>?_) (fun H ⟨s,e⟩=>hd D H s hD e)
 refine hs i H _ _ hi s (fun hp H4 s4=>⟨_,s4 _ _ e,?_,same_upd (s.trans s4) hD,?_⟩) (fun hp H4 s4=>⟨s.trans s4,?_⟩)
 ·have h1:(((List.range i).filter p).map f).length≤i:=by rw[List.length_map];exact Nat.le_trans (List.length_filter_le _ _) (by rw[List.length_range];exact Nat.le_refl _)
  have h2:(100000:Nat)<sizeLine:=by decide
  omega
 ·rw[upd_same,List.range_succ,List.filter_append,List.map_append,List.filter_cons,if_pos hp];rfl
 ·rw[List.range_succ,List.filter_append,List.map_append,List.filter_cons,if_neg (by rw[hp];exact Bool.false_ne_true)]
  rw[List.filter_nil,List.map_nil,List.append_nil];exact s4 _ _ e
theorem lcL {K:PySem.W.Frag} {a:Addr} {xs:List V} {g:TG} {tt:TT} {te:TE} {vs:List Nat} {σ:St} {H1:Hp} {Q:VK} (p:V→Bool) (f:V→V) (hn:xs.length≤100000) (ha:SqL K H1 a xs)
  (hs:∀x H' (R:V→Hp→Prop) (S:Hp→Prop),x∈xs→Same H1 H'→(p x=true→∀H4,Same H' H4→R (f x) H4)→(p x=false→∀H4,Same H' H4→S H4) →
   g x (wipe σ vs) H' fun σ2 H2=>wipe σ2 vs=wipe σ vs∧tt σ2 H2 fun b H3=>if b=true then te σ2 H3 R else S H3)
  (hd:∀D H',Same H1 H'→H1 D=none→H' D=some (.lst ((xs.filter p).map f))→Q (.ref D) H'):∀D,H1 D=none →
  ∃W:Nat→Nat→Hp→Prop,(∃m,W 0 m (upd H1 D (.lst [])))∧∀i m H,W i m H →
   ((Itl K a).stop i H∧Q (.ref D) H)∨((Itl K a).go i H∧∃Nx:Hp→Prop,(∀H',Nx H'→∃m',m'<m∧W (i+1) m' H')∧∀x H',(Itl K a).yld i H x H'→g x (wipe σ vs) H' fun σ2 H2=>wipe σ2 vs=wipe σ vs∧tt σ2 H2 fun b H3 =>
    if b=true then te σ2 H3 fun y H4=>∃acc,H4 D=some (.lst acc)∧acc.length<sizeLine∧Nx (upd H4 D (.lst (acc++[y]))) else Nx H3):=by
 intro D hD
 refine lc_list (K:=K) (a:=a) (xs:=xs) (fun i H=>Same H1 H∧H D=some (.lst (((xs.take i).filter p).map f))) ⟨same_new hD,upd_same⟩ (fun i H _ ⟨s,_⟩=>s.seq ha) (fun i x H hi ⟨s,e⟩=>?_) (fun H ⟨s,e⟩=>hd D H s hD (by rw[List.take_length] at e;exact e))
 have hlt:i<xs.length:=(List.getElem?_eq_some_iff.mp hi).1
 have tk:xs.take (i+1)=xs.take i++[x]:=by rw[List.take_succ,hi];rfl
 refine hs x H _ _ (List.mem_of_getElem? hi) s (fun hp H4 s4=>⟨_,s4 _ _ e,?_,same_upd (s.trans s4) hD,?_⟩) (fun hp H4 s4=>⟨s.trans s4,?_⟩)
 ·have h1:(((xs.take i).filter p).map f).length≤i:=by rw[List.length_map];exact Nat.le_trans (List.length_filter_le _ _) (by rw[List.length_take];omega)
  have h2:(100000:Nat)<sizeLine:=by decide
  omega
 ·rw[upd_same,tk,List.filter_append,List.map_append,List.filter_cons,if_pos hp];rfl
 ·rw[tk,List.filter_append,List.map_append,List.filter_cons,if_neg (by rw[hp];exact Bool.false_ne_true)]
  rw[List.filter_nil,List.map_nil,List.append_nil];exact s4 _ _ e
theorem filter_true {α:Type} (l:List α):l.filter (fun _=>true)=l:=List.filter_eq_self.mpr fun _ _=>rfl
structure Callee (P:Program) (w:World) (K:PySem.W.Frag) (mg:Str→Option Value) (base:Heap) (k:Nat) (x:Str) (ps:List Str) (sp:Sp):Prop where
 ex:∃(f:Addr) (fd:FuncData),FnOk P w K mg base CX0 k f fd ps sp∧mg x=some (.ref f)∧PySem.W.keepIn K (.ref f)=true∧Binds K fd ps []
theorem pcall {X:Cx} {k:Nat} {x:Str} {ps:List Str} {sp:Sp} {e:Expr} {es:List Expr} {p pos:Pos} {t:TA} (C:Callee X.prog X.w X.K X.mg X.base k x ps sp) (hr:Room k X.A) (hg:Gl X x) (ha:PA X (e::es) t)
  (hdb:(x==("__debug__":Str))=false:=by decide) (he:starEach (e::es) X.env=(false,eval e X.env)::starEach es X.env:=by rfl) (hpl:(backTo pos (starEach es X.env)).any (·.1)=false:=by rfl) :
  PE X (.Call (.Name x p) (e::es) [] pos) (tCall sp [] E0 t):=by
 obtain⟨f,fd,F,hm,hk,hb⟩:=C.ex
 exact pe_call F hr hg hm hk hb .nil pass0 ha hdb he hpl
end L2
namespace L2
open PySem PySem.Spec PyProof.Rows
def KDict (P:Program) (w:World) (K:PySem.W.Frag) (d:Addr) (vals:Int→Option V):Prop :=
 ∀h:Heap,K.In h→∃vs,h.DictOf (mixKind P w) d vs∧∀k v,vals k=some v→∃u,valueAt vs (Sum.inl k)=some u∧RelV v u
def tKGet (vals:Int→Option V) (ty:TE):TE:=fun σ H Q=>ty σ H fun y H2=>∃(k:Int) (v:V),y=.int k∧vals k=some v∧Q v H2
section
variable {X : Cx}
theorem pe_kget {x:Str} {p pos:Pos} {i:Expr} {ty:TE} {d:Addr} {vals:Int→Option V} (hg:Gl X x) (hm:X.mg x=some (.ref d)) (hD:KDict X.prog X.w X.K d vals) (hi:PE X i ty) (hs:NoSl i) (hdb:(x==("__debug__":Str))=false:=by decide) :
  PE X (.Subscript (.Name x p) i pos) (tKGet vals ty):=by
 intro pins s σ H Q I h
 refine subD_of PySem.F.slot_dict_getitem.lookup hs (ld_glob I hg hm ?_ hdb)
 refine thn (hi pins s σ H _ I h) fun iv s2 ⟨y,H2,I2,ry,k,v,ey,hv,q2⟩=>?_
 subst ey
 obtain⟨vs,dd,hval⟩:=hD s2.heap I2.kIn
 obtain⟨u,hu,ru⟩:=hval k v hv
 refine⟨?_,?_⟩
 ·exact dd.mapOf.typeIs
 ·exact wpAny_getItem_of (kV_is (k:=Sum.inl k) ry) dd.mapOf hu ⟨v,H2,I2.tok _,ru,q2⟩
structure CalleeA (P:Program) (w:World) (K:PySem.W.Frag) (mg:Str→Option Value) (base:Heap) (k:Nat) (f:Addr) (ps:List Str) (sp:Sp):Prop where
 ex:∃fd:FuncData,FnOk P w K mg base CX0 k f fd ps sp∧PySem.W.keepIn K (.ref f)=true∧Binds K fd ps []
def tCallV (P:Program) (w:World) (K:PySem.W.Frag) (mg:Str→Option Value) (base:Heap) (k:Nat) (ps:List Str) (i:Nat) (t:TA):TE:=fun σ H Q=>∃(f:Addr) (sp:Sp),σ[i]?=some (some (V.ref f))∧CalleeA P w K mg base k f ps sp∧t σ H fun vs H1=>sp vs H1 Q E0
theorem pe_callV {i k:Nat} {x:Str} {ps:List Str} {e:Expr} {es:List Expr} {p pos:Pos} {t:TA} (hr:Room k X.A) (ha:PA X (e::es) t) (hN:X.N[i]?=some x:=by rfl) (hv:Vis X.env.scope x:=by first|exact Or.inl rfl|exact Or.inr (Or.inl rfl)|exact Or.inr (Or.inr rfl))
  (hd:(x==("__debug__":Str))=false:=by decide) (hcd:(x==("__classdict__":Str))=false:=by decide)
  (he:starEach (e::es) X.env=(false,eval e X.env)::starEach es X.env:=by rfl) (hpl:(backTo pos (starEach es X.env)).any (·.1)=false:=by rfl) :
  PE X (.Call (.Name x p) (e::es) [] pos) (tCallV X.prog X.w X.K X.mg X.base k ps i t):=by
 intro pins s σ H Q I h
 obtain⟨f,sp,ef,C,h⟩:=h
 obtain⟨fd,F,hk,hb⟩:=C.ex
 have hvar:PE X (.Name x p) (tVar i):=pe_var hN hv hd hcd
 refine wpAny_Call_Name_kw (thn (hvar pins s σ H (fun v H1=>v=.ref f∧H1=H) I ⟨_,ef,rfl,rfl⟩) fun u s1 ⟨v,H1,I1,rv,e1,e2⟩=>?_)
 subst e1 e2
 cases rv
 refine PySem.W.callWith_K (h₀:=X.base) I1.ok.mod.kin hk (thn (ha pos pins s1 σ H1 _ I1 h) fun us s2 ⟨vs,H2,I2,r,q⟩=>⟨I2.kIn,?_⟩) he hpl
 exact run_fn F hr hb .nil pass0 I2 r (by rw[List.append_nil];exact q)
end
end L2
namespace StW
open PySem
def Rs (xs:Array Nat):Prop:=∀(i k a b:Nat),i<k→xs[i]?=some a→xs[k]?=some b→a<b
theorem go_spec {xs:Array Nat} {j:Nat} (h:Rs xs):∀(fuel lo hi:Nat),hi≤xs.size→hi-lo≤fuel→lo≤hi→(∀i a,i<lo→xs[i]?=some a→a<j)→(∀i a,hi≤i→xs[i]?=some a→j≤a) →
  SetTable.below.go xs j fuel lo hi≤xs.size∧(∀i a,i<SetTable.below.go xs j fuel lo hi→xs[i]?=some a→a<j)∧(∀i a,SetTable.below.go xs j fuel lo hi≤i→xs[i]?=some a→j≤a)
 |0,lo,hi,h1,h2,h3,h4,h5=>by
  have e:lo=hi:=by omega
  subst e
  exact⟨h1,h4,h5⟩
 |fuel+1,lo,hi,h1,h2,h3,h4,h5=>by
  unfold SetTable.below.go
  by_cases hlt:lo<hi
  ·rw[if_pos hlt]
   dsimp only
   have hm:(lo+hi) / 2<xs.size:=by omega
   have hg:xs[(lo+hi) / 2]?=some (xs[(lo+hi) / 2]):=Array.getElem?_eq_getElem hm
   have hd:xs.getD ((lo+hi) / 2) j=xs[(lo+hi) / 2]:=by unfold Array.getD;rw[dif_pos hm];rfl
   rw[hd]
   by_cases hc:xs[(lo+hi) / 2]<j
   ·rw[if_pos hc]
    refine go_spec h fuel _ _ h1 (by omega) (by omega) (fun i a hi' ha=>?_) h5
    by_cases e:i=(lo+hi) / 2
    ·subst e;rw[hg] at ha;cases ha;exact hc
    ·have:=h i ((lo+hi) / 2) a _ (by omega) ha hg;omega
   ·rw[if_neg hc]
    refine go_spec h fuel _ _ (by omega) (by omega) (by omega) h4 (fun i a hi' ha=>?_)
    by_cases e:i=(lo+hi) / 2
    ·subst e;rw[hg] at ha;cases ha;omega
    ·have:=h ((lo+hi) / 2) i _ a (by omega) hg ha;omega
  ·rw[if_neg hlt]
   have e:lo=hi:=by omega
   subst e
   exact⟨h1,h4,h5⟩
theorem below_spec {xs:Array Nat} (j:Nat) (h:Rs xs):SetTable.below xs j≤xs.size∧(∀i a,i<SetTable.below xs j→xs[i]?=some a→a<j)∧(∀i a,SetTable.below xs j≤i→xs[i]?=some a→j≤a):=by
 unfold SetTable.below
 refine go_spec h _ 0 _ (Nat.le_refl _) (Nat.sub_le _ _) (Nat.zero_le _) (fun i a hi _=>absurd hi (Nat.not_lt_zero i)) (fun i a hi ha=>?_)
 have:=(Array.getElem?_eq_some_iff.mp ha).1;omega
theorem below_zero {xs:Array Nat} (h:Rs xs):SetTable.below xs 0=0:=by
 obtain⟨h1,h2,_⟩:=below_spec 0 h
 refine Nat.eq_zero_of_not_pos fun hp=>?_
 have hx:xs[0]?=some (xs[0]'(by omega)):=Array.getElem?_eq_getElem _
 exact absurd (h2 0 _ hp hx) (Nat.not_lt_zero _)
theorem below_next {xs:Array Nat} (h:Rs xs) {i a:Nat} (ha:xs[i]?=some a):SetTable.below xs (a+1)=i+1:=by
 obtain⟨h1,h2,h3⟩:=below_spec (a+1) h
 have hi:=(Array.getElem?_eq_some_iff.mp ha).1
 rcases Nat.lt_trichotomy (SetTable.below xs (a+1)) (i+1) with q|q|q
 ·have:=h3 i a (by omega) ha;omega
 ·exact q
 ·have hx:xs[i+1]?=some (xs[i+1]'(by omega)):=Array.getElem?_eq_getElem _
  have l1:=h2 (i+1) _ q hx
  have l2:=h i (i+1) a _ (Nat.lt_succ_self i) ha hx
  omega
theorem ins_get {α:Type} (xs:Array α) (p:Nat) (x:α) (hp:p≤xs.size) (i:Nat):(SetTable.insertAt xs p x)[i]?=if i<p then xs[i]? else if i=p then some x else xs[i-1]?:=by
 unfold SetTable.insertAt
 have hs:((xs.extract 0 p).push x).size=p+1:=by simp [Array.size_extract];omega
 rw[Array.getElem?_append,hs]
 by_cases h1:i<p
 ·rw[if_pos (by omega),if_pos h1,Array.getElem?_push_lt (by simp [Array.size_extract];omega)]
  rw[Array.getElem_extract,Array.getElem?_eq_getElem (by omega)]
  simp
 ·rw[if_neg h1]
  by_cases h2:i=p
  ·subst h2
   rw[if_pos (by omega),if_pos rfl]
   have:(xs.extract 0 i).size=i:=by simp [Array.size_extract];omega
   rw[Array.getElem?_push,this,if_pos rfl]
  ·rw[if_neg (by omega),if_neg h2,Array.getElem?_extract]
   by_cases h3:i-(p+1)<xs.size-p
   ·rw[if_pos (by simp;omega)];congr 1;omega
   ·rw[if_neg (by simp;omega),Array.getElem?_eq_none (by omega)]
theorem rs_ins {xs:Array Nat} (h:Rs xs) {j:Nat} (hj:xs[SetTable.below xs j]?≠some j):Rs (SetTable.insertAt xs (SetTable.below xs j) j):=by
 obtain⟨h1,h2,h3⟩:=below_spec j h
 intro i k a b hik ha hb
 rw[ins_get xs _ j h1] at ha hb
 generalize hp:SetTable.below xs j=p at *
 have gt:∀(u c:Nat),p≤u→xs[u]?=some c→j<c:=fun u c hu hc=>by
  have h4:=h3 u c hu hc
  rcases Nat.lt_or_eq_of_le h4 with q|q
  ·exact q
  ·rw[←q] at hc
   by_cases e:u=p
   ·rw[e] at hc;exact absurd hc hj
   ·have hx:xs[p]?=some (xs[p]'(by have:=(Array.getElem?_eq_some_iff.mp hc).1;omega)):=Array.getElem?_eq_getElem _
    have l1:=h3 p _ (Nat.le_refl _) hx
    have l2:=h p u _ _ (by omega) hx hc
    omega
 by_cases i1:i<p
 ·rw[if_pos i1] at ha
  by_cases k1:k<p
  ·rw[if_pos k1] at hb;exact h i k a b hik ha hb
  ·rw[if_neg k1] at hb
   have la:=h2 i a i1 ha
   by_cases k2:k=p
   ·rw[if_pos k2] at hb;cases hb;exact la
   ·rw[if_neg k2] at hb
    have:=gt (k-1) b (by omega) hb;omega
 ·rw[if_neg i1] at ha
  rw[if_neg (by omega)] at hb
  by_cases i2:i=p
  ·rw[if_pos i2] at ha
   cases ha
   rw[if_neg (by omega)] at hb
   exact gt (k-1) b (by omega) hb
  ·rw[if_neg i2] at ha
   rw[if_neg (by omega)] at hb
   exact h (i-1) (k-1) a b (by omega) ha hb
theorem rs_range (n:Nat):Rs (Array.range n):=by
 intro i k a b hik ha hb
 obtain⟨hi,ei⟩:=Array.getElem?_eq_some_iff.mp ha
 obtain⟨hk,ek⟩:=Array.getElem?_eq_some_iff.mp hb
 rw[Array.getElem_range] at ei ek
 omega
theorem rs_list {l:List Nat} (h:l.Pairwise (·<·)):Rs l.toArray:=by
 intro i k a b hik ha hb
 rw[List.getElem?_toArray] at ha hb
 obtain⟨hi,ei⟩:=List.getElem?_eq_some_iff.mp ha
 obtain⟨hk,ek⟩:=List.getElem?_eq_some_iff.mp hb
 have:=List.pairwise_iff_getElem.mp h i k hi hk hik
 rw[ei,ek] at this;exact this
theorem slot_free {t:SetTable} {j:Nat} (h:t.slot j=.empty∨t.slot j=.dummy):t.place[SetTable.below t.place j]?≠some j:=by
 intro e
 unfold SetTable.slot at h
 dsimp only at h
 rw[e,if_pos (beq_self_eq_true _)] at h
 rcases h with h|h<;>cases h
theorem probe_free {t:SetTable} {ha:Nat→Int} {h:Int}:∀(fuel:Nat) (p:SetTable.Probe),(∀d,p.dummy=some d→t.slot d=.dummy)→∀j dm,SetTable.probe.go t ha h fuel p=some (.empty j dm)→t.slot j=.empty∧∀d,dm=some d→t.slot d=.dummy
 |0,p,_,j,dm,e=>by unfold SetTable.probe.go at e;cases e
 |fuel+1,p,hp,j,dm,e=>by
  unfold SetTable.probe.go at e
  split at e
  ·rename_i hs
   cases e
   exact⟨hs,hp⟩
  ·rename_i hs
   refine probe_free fuel _ (fun d hd=>?_) j dm e
   unfold SetTable.advance at hd
   split at hd
   ·cases hd;exact hs
   ·cases hd;exact hs
  ·rename_i i hs
   split at e
   ·cases e
   ·refine probe_free fuel _ (fun d hd=>?_) j dm e
    unfold SetTable.advance at hd
    split at hd
    ·exact hp d hd
    ·exact hp d hd
theorem freeSlot_ok {t:SetTable} {h:Int} {j:Nat} {wd:Bool} (e:t.freeSlot h=some (j,wd)):t.place[SetTable.below t.place j]?≠some j:=by
 unfold SetTable.freeSlot at e
 split at e
 ·rename_i j0 dm hq
  unfold SetTable.probe at hq
  obtain⟨h1,h2⟩:=probe_free _ _ (fun d hd=>(by unfold SetTable.probeStart at hd;cases hd)) j0 dm hq
  cases hd:dm with
  |none=>rw[hd] at e;cases e;exact slot_free (.inl h1)
  |some d=>rw[hd] at e;cases e;exact slot_free (.inr (h2 d hd))
 ·cases e
structure Tb (b:Bool) (t:SetTable):Prop where
 rs:Rs t.place
 led:t.led=b
theorem tb_standIn {b:Bool} {t:SetTable} (h:t.led=b) (n:Nat):Tb b (t.standIn n):=⟨rs_range n,h⟩
theorem tb_lay {b:Bool} {t:SetTable} (T:Tb b t) (es:Array (Int×Value)) (h:Int) (x:Value):Tb b (layNew t es h x).2.1:=by
 unfold layNew
 split
 ·rename_i slot wd e
  dsimp only
  unfold SetTable.orStandIn
  split
  ·exact⟨rs_ins T.rs (freeSlot_ok e),T.led⟩
  ·exact tb_standIn T.led _
 ·exact tb_standIn T.led _
theorem tb_relay {b:Bool} {t:SetTable} (T:Tb b t) (es:Array (Int×Value)) (w:Nat):Tb b (relayAll t es w).2.1:=by
 unfold relayAll
 split
 ·rename_i t' order e
  dsimp only
  split
  ·unfold SetTable.relaid SetTable.laid at e
   simp only [Option.bind_eq_bind,Option.bind_eq_some_iff,Option.pure_def,Option.some.injEq,Prod.mk.injEq] at e
   obtain⟨owner,_,e1,_⟩:=e
   rw[←e1]
   refine⟨rs_list ?_,T.led⟩
   rw[List.pairwise_map]
   refine List.Pairwise.filterMap _ (fun a a' hlt b hb b' hb'=>?_) List.pairwise_lt_range
   obtain⟨_,_,rfl⟩:=Option.map_eq_some_iff.mp hb
   obtain⟨_,_,rfl⟩:=Option.map_eq_some_iff.mp hb'
   exact hlt
  ·exact tb_standIn T.led _
 ·exact tb_standIn T.led _
end StW
namespace StW
open PySem PyProof.Rows
def keyOf:Value→Int
 |.int k _=>k
 |_=>0
def AllInt (es:List (Int×Value)):Prop:=∀e,e∈es→∃k t,e=(hashInt k,Value.int k t)
abbrev keys (es:Array (Int×Value)):List Int:=es.toList.map fun e=>keyOf e.2
structure SObj (b:Bool) (o:Obj) (es:Array (Int×Value)) (ep:Nat) (t:SetTable) (ks:List Int):Prop where
 eq:o={cls:=.type "set",dict:=none,data:=.set es ep t,slots:=#[]}
 fits:t.fits es.size=true
 tb:Tb b t
 allInt:AllInt es.toList
 perm:(keys es).Perm ks
 nd:ks.Nodup
def SetIs (b:Bool) (h:Heap) (a:Addr) (ks:List Int):Prop:=∃o es ep t,h.get? a=some o∧SObj b o es ep t ks
theorem SObj.len {b:Bool} {o:Obj} {es:Array (Int×Value)} {ep:Nat} {t:SetTable} {ks:List Int} (S:SObj b o es ep t ks):es.size=ks.length:=by
 have:=S.perm.length_eq
 rw[List.length_map,Array.length_toList] at this;exact this
section
variable {prog : Program} {w : World} {A : Around} {E : Value → Shared → Prop} {s : Shared}
theorem elems_of {es:List (Int×Value)} (h:AllInt es):ElemsOf (PySem.intKind prog w) es:=fun e he=>by
 obtain⟨k,t,rfl⟩:=h e he
 exact⟨⟨k,intKind_is _ _ _ _,rfl⟩,rfl⟩
theorem mem_keys {es:Array (Int×Value)} (h:AllInt es.toList) (k:Int):k∈keys es↔∃e,e∈es.toList∧Value.isInt k e.2=true:=by
 rw[List.mem_map]
 constructor
 ·rintro⟨e,he,rfl⟩
  obtain⟨k,t,rfl⟩:=h e he
  exact⟨_,he,by simp [Value.isInt,keyOf]⟩
 ·rintro⟨e,he,hk⟩
  obtain⟨t,ht⟩:=Value.isInt_shape hk
  exact⟨e,he,by rw[ht];rfl⟩
theorem store_is {b:Bool} {a:Addr} {o:Obj} {es es':Array (Int×Value)} {ep:Nat} {t t':SetTable} {ks ks':List Int} (ho:s.heap.get? a=some o) (S:SObj b o es ep t ks) (hf:t'.fits es'.size=true) (T:Tb b t') (hi:AllInt es'.toList)
  (hp:(keys es').Perm ks') (nd:ks'.Nodup) (hz:es'.size<scanBound) {Q:Unit→Shared→Prop}
  (q:∀h' o',Heap.SameBut a s.heap h'→h'.get? a=some o'→SObj b o' es' (ep+1) t' ks'→Q () {s with heap:=h'}):wpAny (model prog w) A (storeSet a es' t') Q E s:=by
 have hd:o.data=.set es ep t:=by rw[S.eq]
 refine wpAny_storeSet_of ho hd (q _ _ (Heap.SameBut.update s.heap a _) (Heap.get?_update_self (Obj.putSet es' t') ho (by rw[putSet_of es' t' hd];rfl)) ?_) (fits_of_scanBound hz)
 exact⟨by rw[putSet_of es' t' hd,S.eq],hf,T,hi,hp,nd⟩
theorem rule_or {g:Bool} {u:String} {Q:Unit→Shared→Prop} (h:Q () s):wpAny (model prog w) A (match g with|true=>rule u|false=>pure ()) Q E s:=by
 cases g
 ·exact wpAny_pure h
 ·exact wpAny_rule h
theorem tail_is {b:Bool} {a:Addr} {o:Obj} {es es1:Array (Int×Value)} {ep:Nat} {t t1:SetTable} {ks ks':List Int} {wd:Bool} {g:Bool→Sem Unit} {R:Option Bool→Shared→Prop}
  (hg:∀(u:Bool) (s1:Shared) (Q':Unit→Shared→Prop),Q' () s1→wpAny (model prog w) A (g u) Q' E s1)
  (ho:s.heap.get? a=some o) (S:SObj b o es ep t ks) (hf:t1.fits es1.size=true) (T:Tb b t1) (hi:AllInt es1.toList) (hp:(keys es1).Perm ks') (nd:ks'.Nodup) (hz:es1.size<scanBound)
  (h:∀h',Heap.SameBut a s.heap h'→SetIs b h' a ks'→R (some true) {s with heap:=h'}) :
  wpAny (model prog w) A (do
   storeSet a es1 t1
   if (!wd&&t1.tooFull)=true then do
     g (relayAll t1 es1 (SetTable.grown es1.size)).2.2
     storeSet a (relayAll t1 es1 (SetTable.grown es1.size)).1 (relayAll t1 es1 (SetTable.grown es1.size)).2.1
     pure (some true)
    else pure (some true)) R E s:=by
 refine wpAny_bind (store_is ho S hf T hi hp nd hz fun h1 o1 sb e1 S1=>?_)
 by_cases hc:(!wd&&t1.tooFull)=true
 ·rw[if_pos hc]
  refine wpAny_bind (hg _ _ _ ?_)
  have pm:=relayAll_perm t1 es1 (SetTable.grown es1.size)
  have hsz:(relayAll t1 es1 (SetTable.grown es1.size)).1.size=es1.size:=by
   have:=pm.length_eq
   rw[Array.length_toList,Array.length_toList] at this;exact this
  refine wpAny_bind (store_is (s:={s with heap:=h1}) e1 S1 (relayAll_fits _ _ _) (tb_relay T _ _) (fun e he=>hi e (pm.mem_iff.mp he)) ((pm.map _).trans hp) nd (by rw[hsz];exact hz) fun h2 o2 sb2 e2 S2=>?_)
  exact wpAny_pure (h h2 (sb.trans sb2) ⟨_,_,_,_,e2,S2⟩)
 ·rw[if_neg hc]
  exact wpAny_pure (h h1 sb ⟨_,_,_,_,e1,S1⟩)
theorem add_is {b:Bool} {a:Addr} {k:Int} {tk:Tok} {ks:List Int} {Q:Bool→Shared→Prop} (hS:SetIs b s.heap a ks) (hroom:ks.length+1<scanBound)
  (h:∀(r:Bool) (h':Heap),Heap.SameBut a s.heap h'→SetIs b h' a (if k∈ks then ks else ks++[k])→Q r {s with heap:=h'}) :
  wpAny (model prog w) A (setAddHashed a (.int k tk) (hashInt k)) Q E s:=by
 obtain⟨o,es,ep,t,ho,S⟩:=hS
 have hd:o.data=.set es ep t:=by rw[S.eq]
 have hel:ElemsOf (PySem.intKind prog w) es.toList:=elems_of S.allInt
 have hlen:=S.len
 have hb:es.size<scanBound:=by omega
 have hkey:(PySem.intKind prog w).is k (Value.int k tk)=true:=intKind_is _ _ _ _
 unfold setAddHashed setAddHashedIn
 refine wpAny_holding (wpAny_bind (wpAny_setState_of ho hd S.fits ?_))
 have hby:byScan (Value.int k tk) es=true:=byScan_of (knd:=PySem.intKind prog w) rfl hb hel
 show wpAny _ _ (if byScan (Value.int k tk) es=true then _ else _) _ _ _
 rw[if_pos hby]
 unfold setAddByScan
 refine wpAny_bind (wpAny_bind (wpAny_rule (wpAny_bind (wpAny_setScan_of (knd:=PySem.intKind prog w) hkey ho hd S.fits hel ?_))))
 have hin:k∈ks↔∃e,e∈es.toList∧Value.isInt k e.2=true:=by rw[←S.perm.mem_iff];exact mem_keys S.allInt k
 cases hr:es.toList.findIdx? (fun e=>(PySem.intKind prog w).is k e.2) with
 |some j =>
  obtain⟨hj,hpj,_⟩:=List.findIdx?_eq_some_iff_getElem.mp hr
  have hk:k∈ks:=hin.mpr ⟨_,List.getElem_mem hj,hpj⟩
  have:=h false s.heap (Heap.SameBut.refl a s.heap)
  rw[if_pos hk] at this
  exact wpAny_pure (wpAny_pure (this ⟨o,es,ep,t,ho,S⟩))
 |none =>
  have hk:¬k∈ks:=fun q=>by
   obtain⟨e,he,hp⟩:=hin.mp q
   have z:(PySem.intKind prog w).is k e.2=false:=by simpa using List.findIdx?_eq_none_iff.mp hr e he
   have z2:(PySem.intKind prog w).is k e.2=true:=hp
   rw[z] at z2;cases z2
  have pm:=layNew_perm t es (hashInt k) (Value.int k tk)
  have ft:=layNew_fits t es (hashInt k) (Value.int k tk)
  have T1:=tb_lay S.tb es (hashInt k) (Value.int k tk)
  have hfin:∀h',Heap.SameBut a s.heap h'→SetIs b h' a (ks++[k])→Q true {s with heap:=h'}:=fun h' sb z=>by
   have:=h true h' sb
   rw[if_neg hk] at this
   exact this z
  dsimp only
  generalize hL:layNew t es (hashInt k) (Value.int k tk)=L at pm ft T1 ⊢
  obtain⟨es1,t1,wd,gave⟩:=L
  dsimp only at pm ft T1 ⊢
  refine wpAny_bind (rule_or (u:="set.scan.the-table-gave-way") ?_)
  have hi1:AllInt es1.toList:=fun e he=>by
   have m:=pm.mem_iff.mp he
   rw[Array.toList_push,List.mem_append,List.mem_singleton] at m
   rcases m with m|m
   ·exact S.allInt e m
   ·exact⟨k,tk,m⟩
  have hp1:(keys es1).Perm (ks++[k]):=by
   have:=pm.map (fun e=>keyOf e.2)
   rw[Array.toList_push,List.map_append] at this
   exact this.trans (S.perm.append_right _)
  have nd1:(ks++[k]).Nodup:=by
   rw[List.nodup_append]
   refine⟨S.nd,by simp,fun x hx y hy e=>?_⟩
   rw[List.mem_singleton.mp hy] at e
   exact hk (e ▸ hx)
  have hz1:es1.size<scanBound:=by
   have:=hp1.length_eq
   rw[List.length_map,Array.length_toList,List.length_append,List.length_singleton] at this
   omega
  have hH:hashByValue 8 (Value.int k tk)=pure true:=hashByValue_scannable 8 rfl
  have hgw:∀(u:Bool) (s1:Shared) (Q':Unit→Shared→Prop),Q' () s1→wpAny (model prog w) A (match u with|true=>rule "set.scan.the-table-gave-way"|false=>pure ()) Q' E s1:=fun u s1 Q' q=>rule_or q
  by_cases hpl:t1.plain=true
  ·rw[if_pos hpl,hH]
   refine wpAny_bind (wpAny_pure ?_)
   rw[if_pos rfl]
   exact tail_is hgw ho S ft T1 hi1 hp1 nd1 hz1 fun h' sb z=>wpAny_pure (hfin h' sb z)
  ·rw[if_neg hpl]
   refine wpAny_bind (wpAny_pure ?_)
   rw[if_pos rfl]
   exact tail_is hgw ho S ft T1 hi1 hp1 nd1 hz1 fun h' sb z=>wpAny_pure (hfin h' sb z)
end
end StW
namespace StW
open PySem PyProof.Rows
abbrev byT (w:World):Bool:=w.params.followText "set-order"
def fresh (b:Bool):Obj:={cls:=.type "set",dict:=none,data:=.set #[] 0 (.fresh 0 0 b)}
section
variable {prog : Program} {w : World} {A : Around} {E : Value → Shared → Prop} {s : Shared}
theorem new_is (x:Value) {Q1:Value→Shared→Prop} (h:Q1 (.ref s.heap.objs.size) {s with heap:=s.heap.push (fresh (!byT w))}) :
  codeAny (model prog w) A (.call (.builtin "set.__new__") ⟨[.type "set",x],[]⟩) (wants Q1 E) s:=by
 refine codeAny_of_tree (show wpAny _ A.in1 (do checkBuiltinCall "set.__new__" ⟨[.type "set",x],[]⟩;again (.builtin "set.__new__" ⟨[.type "set",x],[]⟩)) _ _ s from ?_)
 refine wpAny_bind (wpAny_of_eq (PySem.F.newCall_set_1 x) (wpAny_pure ⟨plainId_quiet PySem.F.plain_set_new _,codeAny_builtin PySem.F.entry_set_new ?_⟩))
 rw[Around.under_plainId PySem.F.plain_set_new _];unfold Builtin.«set.__new__»;unfold Builtin.Frozenset.newClass
 have hsub:=sub_set_self;obtain⟨hp,g,d,tk,os⟩:=s;dsimp only at h ⊢
 wp_walk
 refine wpAny_askSetting (wpAny_pure ?_);dsimp only;simp only [newObj]
 exact wpAny_bind (wpAny_alloc (wpAny_pure (wpAny_pure h)))
theorem fresh_is {b:Bool} {h:Heap} {a:Addr} (e:h.get? a=some (fresh b)):SetIs b h a [] :=
 ⟨_,#[],0,.fresh 0 0 b,e,rfl,(by cases b<;>decide),⟨fun i k x y _ h=>(by simp [SetTable.fresh] at h),rfl⟩,fun x hx=>(by simp at hx),List.Perm.refl _,List.nodup_nil⟩
def once (l:List Int):List Int:=l.foldl (fun ks v=>if v∈ks then ks else ks++[v]) []
theorem once_snoc (l:List Int) (v:Int):once (l++[v])=if v∈once l then once l else once l++[v]:=by unfold once;rw[List.foldl_append];rfl
theorem SetIs.keep {b:Bool} {h h':Heap} {a:Addr} {ks:List Int} (S:SetIs b h a ks) (k:∀o,h.get? a=some o→h'.get? a=some o):SetIs b h' a ks:=by
 obtain⟨o,es,ep,t,e,r⟩:=S
 exact⟨o,es,ep,t,k o e,r⟩
theorem once_len:∀(l acc:List Int),(l.foldl (fun ks v=>if v∈ks then ks else ks++[v]) acc).length≤acc.length+l.length
 |[],acc=>Nat.le_refl _
 |v::l,acc=>by
  rw[List.foldl_cons]
  refine Nat.le_trans (once_len l _) ?_
  split<;>simp<;>omega
theorem once_nd:∀(l acc:List Int),acc.Nodup→(l.foldl (fun ks v=>if v∈ks then ks else ks++[v]) acc).Nodup
 |[],acc,h=>h
 |v::l,acc,h=>by
  rw[List.foldl_cons]
  refine once_nd l _ ?_
  split
  ·exact h
  ·rename_i hv
   rw[List.nodup_append]
   refine⟨h,by simp,fun x hx y hy e=>?_⟩
   rw[List.mem_singleton.mp hy] at e
   exact hv (e ▸ hx)
theorem once_mem:∀(l acc:List Int) (x:Int),x∈l.foldl (fun ks v=>if v∈ks then ks else ks++[v]) acc↔x∈acc∨x∈l
 |[],acc,x=>by simp
 |v::l,acc,x=>by
  rw[List.foldl_cons,once_mem l]
  split
  ·rename_i hv
   simp only [List.mem_cons]
   constructor
   ·rintro (h|h)
    ·exact .inl h
    ·exact .inr (.inr h)
   ·rintro (h|h|h)
    ·exact .inl h
    ·exact .inl (h ▸ hv)
    ·exact .inr h
  ·rw[List.mem_append,List.mem_singleton,List.mem_cons]
   constructor
   ·rintro ((h|h)|h)
    ·exact .inl h
    ·exact .inr (.inl h)
    ·exact .inr (.inr h)
   ·rintro (h|h|h)
    ·exact .inl (.inl h)
    ·exact .inl (.inr h)
    ·exact .inr h
theorem loop_is {R:Result→Shared→Prop} {I:Addr} {fp wr:List Addr} {G:Array GenState→Array GenState→Prop} {n:Nat} {P:Nat→Value→Prop} {St:Nat→Shared→Prop} {b:Bool} (W:WalksS prog w A.in1 I fp wr G n P St) (S:Addr) (hSf:S∉fp)
  (ns:List Int) (hl:ns.length=n) (hval:∀i v,P i v→∃t,v=Value.int (ns.getD i 0) t) (hb:∀i,(once (ns.take i)).length+1<scanBound):∀(k i:Nat) (s:Shared),n-i=k→i≤n→St i s→SetIs b s.heap S (once (ns.take i)) →
   (∀s',Moved (S::wr) G s s'→SetIs b s'.heap S (once ns)→R (.ok (.ret .none)) s')→codeAny (model prog w) A (.builtin "set.update.loop" ⟨[.ref S,.ref I],[]⟩) R s:=by
 have hSw:S∉wr:=fun h=>hSf (W.sub _ h)
 have up:∀x,x∈wr→x∈S::wr:=fun x hx=>List.mem_cons_of_mem _ hx
 intro k
 induction k with
 |zero =>
  intro i s hk hi st hS hR
  obtain rfl:i=n:=by omega
  refine codeAny_builtin PyProof.Rows.F.entry_set_update_loop ?_
  rw[Around.under_plainId PyProof.Rows.F.plain_set_update_loop _]
  refine wpAny_bind (m:=pyNext (.ref I)) (W.done s _ _ st fun s' hm=>?_)
  refine wpAny_pure (hR s' (hm.mono up) ?_)
  rw[←hl,List.take_length] at hS
  exact hS.keep fun o e=>hm.heap S o hSw e
 |succ k ih =>
  intro i s hk hi st hS hR
  have hlt:i<n:=by omega
  refine codeAny_builtin PyProof.Rows.F.entry_set_update_loop ?_
  rw[Around.under_plainId PyProof.Rows.F.plain_set_update_loop _]
  refine wpAny_bind (m:=pyNext (.ref I)) (W.item i s _ _ hlt st fun v s' hP st' hm=>?_)
  obtain⟨t,rfl⟩:=hval i v hP
  have hS':=hS.keep (h':=s'.heap) fun o e=>hm.heap S o hSw e
  have hgi:ns[i]?=some (ns.getD i 0):=by rw[List.getD_eq_getElem?_getD,List.getElem?_eq_getElem (by omega)];rfl
  refine wpAny_bind (m:=holding [Value.int (ns.getD i 0) t] (setAdd S (.int (ns.getD i 0) t))) (wpAny_holding ?_)
  unfold setAdd
  refine wpAny_holding (wpAny_bind (wpAny_pyHash_int ?_))
  have hroom:=hb i
  refine add_is (s:={s' with toks:=s'.toks+1}) hS' hroom fun r h' sb z=>?_
  have tk:ns.take (i+1)=ns.take i++[ns.getD i 0]:=by rw[List.take_succ,hgi];rfl
  rw[←once_snoc,←tk] at z
  refine wpAny_pure ⟨plainId_quiet PyProof.Rows.F.plain_set_update_loop _,ih (i+1) _ (by omega) hlt (W.frame _ s' _ _ st' (Nat.le_succ _) fun x hx o e=>?_) z fun s'' hm'' S''=>?_⟩
  ·rw[sb.2 x fun q:x=S=>hSf (q ▸ hx)];exact e
  ·refine hR s'' (Moved.trans W.gtrans ((hm.mono up).then_heap (Nat.le_succ _) fun x o hx e=>?_) hm'') S''
   rw[sb.2 x fun q:x=S=>hx (q ▸ List.mem_cons_self)];exact e
end
end StW
namespace StW
open PySem PyProof.Rows
section
variable {prog : Program} {w : World} {A : Around} {E : Value → Shared → Prop} {s : Shared}
theorem init_is {l:Addr} {items:Array Value} {ns:List Int} {S:Addr} {R:Result→Shared→Prop} (hh:A.handled=none) (hS:s.heap.get? S=some (fresh (!byT w))) (hl:s.heap.IsList l items) (hi:IntsAre items.toList ns) (hb:∀i,(once (ns.take i)).length+1<scanBound)
  (hR:∀(h':Heap) (tk:Nat),SetIs (!byT w) h' S (once ns)→(∀b o,b≠S→s.heap.get? b=some o→h'.get? b=some o)→R (.ok (.ret .none)) {s with heap:=h',toks:=tk}) :
  wpAny (model prog w) A.in1 (Builtin.«set.__init__» ⟨[.ref S,.ref l],[]⟩) (fun fin s'=>match fin with|.done f=>R (.ok f) s'|.again c'=>c'.quiet=true∧codeAny (model prog w) A c' R s') (fun e s'=>R (.error e) s') s:=by
 have hT:s.TypeIs (.ref S) "set":=⟨_,hS,rfl⟩
 have hLS:l≠S:=fun q=>by
  obtain⟨o,e,c,_⟩:=hl
  rw[q,hS] at e;cases e;injection c with c;exact absurd c (by decide)
 have h0:=hl
 obtain⟨ol,hol,hcl,nl,hdl⟩:=h0
 obtain⟨ocls,odict,odata,oslots⟩:=ol
 simp only at hcl hdl;subst hcl hdl
 have q1:=PySem.F.sub_list_set;have q2:=PySem.F.sub_list_frozenset
 have q3:(Value.type "list"==Value.type "dict")=false:=by decide
 have hsz:s.heap.objs.size≠S:=fun q=>absurd (Heap.lt_size hS) (by rw[q];exact Nat.lt_irrefl _)
 have hsl:l≠s.heap.objs.size:=Nat.ne_of_lt (Heap.lt_size hol)
 unfold Builtin.«set.__init__»;unfold noKeywords;unfold Builtin.Frozenset.updateFrom
 generalize hPI:pyIter=PI
 unfold fresh at hS
 wp_walk
 subst hPI
 refine wpAny_pyIter_list hl ?_;refine wpAny_bind (wpAny_runValue ?_)
 have hnl:ns.length=items.size:=by rw[←hi.length,Array.length_toList]
 refine loop_is (b:=!byT w) ((Walks.list (by simp [hh]) s.heap.objs.size l hsl items).toS) S (by
   simp only [List.mem_cons,List.not_mem_nil,or_false,not_or];exact⟨fun q=>hsz q.symm,fun q=>hLS q.symm⟩) ns hnl
  (fun i v hv=>IntsAre.int_at hi i v (by rw[Array.getElem?_toList];exact hv)) hb (items.size-0) 0 _ (by omega) (Nat.zero_le _) ⟨⟨_,Heap.get?_push_size _ rfl,rfl,rfl⟩,hl.push _⟩ ?_ ?_
 ·exact fresh_is (Heap.get?_push_of_some _ hS)
 ·intro s' hm hS'
  obtain⟨h',g',d',tk',os'⟩:=s'
  obtain rfl:g'=s.gens:=hm.gens
  obtain rfl:d'=s.drawn:=hm.drawn
  obtain rfl:os'=s.os:=hm.os
  show wpAny _ _ _ _ _ _
  refine wpAny_pure (wpAny_pure (hR h' tk' hS' fun b o hbS e=>hm.heap b o ?_ (Heap.get?_push_of_some _ e)))
  simp only [List.mem_cons,List.not_mem_nil,or_false,not_or]
  exact⟨hbS,Nat.ne_of_lt (Heap.lt_size e)⟩
theorem set_is {l:Addr} {items:Array Value} {ns:List Int} {Q:Value→Shared→Prop} (hh:A.handled=none) (hl:s.heap.IsList l items) (hi:IntsAre items.toList ns) (hb:∀i,(once (ns.take i)).length+1<scanBound)
  (h:∀(h':Heap) (tk:Nat),SetIs (!byT w) h' s.heap.objs.size (once ns)→(∀b o,s.heap.get? b=some o→h'.get? b=some o)→Q (.ref s.heap.objs.size) {s with heap:=h',toks:=tk}) :
  wpAny (model prog w) A (call (.type "set") [.ref l]) Q E s:=by
 obtain⟨c,tl,hmro⟩:=PySem.F.called_set.mro;have hmade:=PySem.F.called_set.made;have hsub:=PySem.F.called_set.sub
 refine wpAny_call (codeAny_of_tree (show wpAny _ _ (callAny (.type "set") _) _ _ _ from wpAny_pure ⟨Code.quiet_builtin _ (by decide +kernel),codeAny_builtin PySem.F.entry_type_call ?_⟩))
 rw[Around.under_plain (weight_type_call_type "set" [.ref l] []) rfl]
 have h1:=PySem.F.called_set.notType;have h2:=PySem.F.called_set.canCreate;have hct:=PySem.F.typeCall_set_1 (.ref l)
 repeat (any_goals (first|assumption|wp_step))
 refine codeAny_mono (new_is (.ref l) (E:=E) (Q1:=fun obj s1=>obj=.ref s.heap.objs.size∧s1={s with heap:=s.heap.push (fresh (!byT w))}) ⟨rfl,rfl⟩) fun r s1 hr=>?_
 cases r with
 |error e=>exact hr
 |ok fl =>
  cases fl with
  |ret obj =>
   obtain⟨rfl,rfl⟩:=hr
   have hS:(s.heap.push (fresh (!byT w))).get? s.heap.objs.size=some (fresh (!byT w)):=Heap.get?_push_size _ rfl
   have hT:Shared.TypeIs {s with heap:=s.heap.push (fresh (!byT w))} (.ref s.heap.objs.size) "set":=⟨_,hS,rfl⟩
   have hli:=PySem.F.called_set.init.lookup;have hbi:=PySem.F.called_set.init.bind (.ref s.heap.objs.size)
   repeat (any_goals (first|assumption|wp_step))
   refine codeAny_mono (codeAny_call_builtin (R:=wants (fun r s2=>r=.none∧Q (.ref s.heap.objs.size) s2) E) PySem.F.called_set.init.plain PySem.F.entry_set_init (check_set_init_1 hT ?_)) fun r2 s2 hr2=>?_
   ·refine init_is (s:={s with heap:=s.heap.push (fresh (!byT w))}) (by simp [hh]) hS (hl.push _) hi hb fun h' tk z kp=>⟨rfl,h h' tk z fun b o e=>kp b o (Nat.ne_of_lt (Heap.lt_size e)) (Heap.get?_push_of_some _ e)⟩
   ·cases r2 with
    |error e=>exact hr2
    |ok fl2 =>
     cases fl2 with
     |ret r =>
      obtain⟨rfl,hq⟩:=hr2
      repeat (any_goals (first|assumption|wp_step))
     |_=>exact hr2.elim
  |_=>exact hr.elim
end
end StW
namespace StW
open PySem PyProof.Rows
theorem slot_next:Slot "set_iterator" "__next__" "set_iterator.__next__":=.of (owner:="set_iterator") (n:="__next__") (by rw[typeLookup_type,builtinLookup_eq_fast];kernel_rfl) (by decide +kernel) (by decide +kernel) (by decide +kernel) (by first|exact .inl (by decide +kernel)|exact .inr (by decide +kernel)) (by rw[isSubtype_type];kernel_rfl)
theorem entry_next:entryFor table "set_iterator.__next__"=some Builtin.«set_iterator.__next__»:=entryFor_of_tree (by kernel_rfl)
theorem args_next (a:Value):argsOk "set_iterator.__next__" ⟨[a],[]⟩:=by unfold argsOk;kernel_rfl
theorem entry_iter:entryFor table "set.__iter__"=some Builtin.«frozenset.__iter__»:=entryFor_alias (id':="frozenset.__iter__") (by kernel_rfl) rfl (by decide +kernel) (by kernel_rfl)
theorem slot_selfIter:Slot "set_iterator" "__iter__" "set_iterator.__iter__":=.of (owner:="set_iterator") (n:="__iter__") (by rw[typeLookup_type,builtinLookup_eq_fast];kernel_rfl) (by decide +kernel) (by decide +kernel) (by decide +kernel) (by first|exact .inl (by decide +kernel)|exact .inr (by decide +kernel)) (by rw[isSubtype_type];kernel_rfl)
section
variable {prog : Program} {w : World} {A : Around} {E : Value → Shared → Prop} {s : Shared}
theorem choose_is {n:Nat} {Q:Nat→Shared→Prop} (hn:n≠0) (h:∀i d,i<n→Q i {s with drawn:=d}):wpAny (model prog w) A (choose .order n) Q E s:=fun Γ p _ =>
 ⟨hn,h _ _ (Nat.mod_lt _ (Nat.pos_of_ne_zero hn))⟩
theorem draw_is {α:Type} (n:Nat):∀(xs:List α) (s:Shared) (Q:List α→Shared→Prop),xs.length=n→(∀l d,l.Perm xs→Q l {s with drawn:=d})→wpAny (model prog w) A (drawOrder n xs) Q E s:=by
 induction n with
 |zero =>
  intro xs s Q hl h
  rw[List.length_eq_zero_iff.mp hl] at h ⊢
  exact wpAny_pure (h [] s.drawn (List.Perm.refl _))
 |succ n ih =>
  intro ys s Q hl h
  cases ys with
  |nil=>cases hl
  |cons x xs =>
   unfold drawOrder
   refine wpAny_bind (choose_is (by simp) fun i d hi=>?_)
   have hg:(x::xs)[i]?=some ((x::xs)[i]):=List.getElem?_eq_getElem hi
   rw[hg]
   refine wpAny_bind (ih _ _ _ (by rw[List.length_eraseIdx,if_pos hi,hl];rfl) fun l d' hp=>?_)
   exact wpAny_pure (h _ d' ((hp.cons _).trans (BM.perm_erase hg).symm))
end
end StW
namespace StW
open PySem PyProof.Rows
theorem pick_go {α:Type} (next:Nat→Nat):∀(fuel k:Nat) (left:List α) (out:Array α),left.length=fuel→(pickOrder.go next fuel k left out).toList.Perm (out.toList++left)
 |0,k,left,out,h=>by
  rw[List.length_eq_zero_iff.mp h,List.append_nil]
  exact List.Perm.refl _
 |fuel+1,k,left,out,h=>by
  unfold pickOrder.go
  have hlt:next k%left.length<left.length:=Nat.mod_lt _ (by omega)
  have hg:left[next k%left.length]?=some (left[next k%left.length]):=List.getElem?_eq_getElem hlt
  rw[hg]
  refine (pick_go next fuel (k+1) _ _ (by rw[List.length_eraseIdx,if_pos hlt];omega)).trans ?_
  rw[Array.toList_push,List.append_assoc]
  exact (BM.perm_erase hg).symm.append_left _
theorem pick_perm {α:Type} (next:Nat→Nat) (xs:Array α):(pickOrder next xs).toList.Perm xs.toList:=by
 unfold pickOrder
 have:=pick_go next xs.size 0 xs.toList #[] (by simp)
 simpa using this
def drawnB (es:Array (Int×Value)) (t:SetTable):Bool:=!t.plain&&es.size>1
def slotAt (t:SetTable):Nat→Nat
 |0=>0
 |i+1=>t.place.getD i 0+1
inductive Mode (w:World) (h:Heap) (a:Addr) (es:Array (Int×Value)) (ep:Nat) (t:SetTable) (sq:List Value) (i:Nat):Value→Prop
 |text (sl:Nat):byT w=true→sq=(pickOrder (w.params.setOrder a ep) es).toList.map (·.2)→Mode w h a es ep t sq i (rawInt sl)
 |drawn (T:Addr) (pl:List Nat):byT w=false→drawnB es t=true→(∃o c,h.get? T=some o∧o.data=.seq (pl.map fun (p:Nat)=>rawInt p).toArray c)→pl.length=es.size→(∀(j p:Nat),pl[j]?=some p→∃e,es[p]?=some e∧sq[j]?=some e.2)→Mode w h a es ep t sq i (.ref T)
 |place:byT w=false→drawnB es t=false→Tb true t→sq=es.toList.map (·.2)→Mode w h a es ep t sq i (rawInt (slotAt t i))
def itObj (first:Value) (i:Nat) (a:Addr) (n ep:Nat):Obj:={cls:=.type "set_iterator",data:=.fields #[first,rawInt i,.ref a,rawInt n,rawInt ep]}
def ItAt (w:World) (I a T:Addr) (o:Obj) (es:Array (Int×Value)) (ep:Nat) (t:SetTable) (sq:List Value) (i:Nat) (h:Heap):Prop :=
 h.get? a=some o∧o.data=.set es ep t∧t.fits es.size=true∧sq.length=es.size∧∃first,(∀T',first=.ref T'→T'=T)∧h.get? I=some (itObj first i a es.size ep)∧Mode w h a es ep t sq i first
section
variable {prog : Program} {w : World} {A : Around} {E : Value → Shared → Prop} {s : Shared}
theorem Mode.keep {h h':Heap} {a T:Addr} {es:Array (Int×Value)} {ep:Nat} {t:SetTable} {sq:List Value} {i:Nat} {f:Value} (M:Mode w h a es ep t sq i f) (hT:∀T',f=.ref T'→T'=T) (k:∀o,h.get? T=some o→h'.get? T=some o):Mode w h' a es ep t sq i f:=by
 cases M with
 |text sl a1 a2=>exact .text sl a1 a2
 |drawn T' pl a1 a2 a3 a4 a5 =>
  have e:=hT T' rfl
  subst e
  obtain⟨o,c,e1,e2⟩:=a3
  exact .drawn T' pl a1 a2 ⟨o,c,k o e1,e2⟩ a4 a5
 |place a1 a2 a3 a4=>exact .place a1 a2 a3 a4
theorem drawn_ask {a:Addr} {o:Obj} {es:Array (Int×Value)} {ep:Nat} {t:SetTable} {Q:Bool→Shared→Prop} (ho:s.heap.get? a=some o) (hd:o.data=.set es ep t) (hf:t.fits es.size=true) (h:Q (!byT w&&drawnB es t) s) :
  wpAny (model prog w) A (setDrawn a) Q E s:=by
 unfold setDrawn
 refine wpAny_bind (wpAny_setState_of ho hd hf ?_)
 unfold setsByText
 exact wpAny_bind (wpAny_bind (wpAny_askSetting (wpAny_pure (wpAny_pure h))))
theorem epoch_is {a:Addr} {o:Obj} {es:Array (Int×Value)} {ep:Nat} {t:SetTable} {Q:Nat→Shared→Prop} (ho:s.heap.get? a=some o) (hd:o.data=.set es ep t) (hf:t.fits es.size=true) (h:Q ep s):wpAny (model prog w) A (setEpoch a) Q E s:=by
 unfold setEpoch
 exact wpAny_bind (wpAny_setState_of ho hd hf (wpAny_pure h))
theorem iter_is {a:Addr} {ks:List Int} {Q:Value→Shared→Prop} (hS:SetIs (!byT w) s.heap a ks) (hz:ks.length≤sizeLine)
  (h:∀(s':Shared) (o:Obj) (es:Array (Int×Value)) (ep:Nat) (t:SetTable) (sq:List Value) (I T:Addr) (d:Drawn),s'.gens=s.gens→s'.os=s.os→s'.toks=s.toks→SObj (!byT w) o es ep t ks→sq.Perm (es.toList.map (·.2))→ItAt w I a T o es ep t sq 0 s'.heap→a≠I→T≠I→(T=a∨s.heap.objs.size≤T) →
   (∀b u,s.heap.get? b=some u→s'.heap.get? b=some u)→s.heap.objs.size≤I→s'.heap.objs.size=I+1→Q (.ref I) s'):wpAny (model prog w) A (pyIter (.ref a)) Q E s:=by
 obtain⟨o,es,ep,t,ho,S⟩:=hS
 have hd:o.data=.set es ep t:=by rw[S.eq]
 have hT:s.TypeIs (.ref a) "set":=⟨o,ho,by rw[S.eq]⟩
 refine wpAny_pyIter_slot hT PySem.F.slot_set_iter (wpAny_call_entry PySem.F.slot_set_iter hT entry_iter ?_ (PySem.F.args_set_iter_1 _))
 unfold Builtin.«frozenset.__iter__» Builtin.Frozenset.slot0 slotArgs
 simp only [List.isEmpty_nil,Bool.not_true,Bool.false_eq_true,↓reduceIte,bind_assoc,List.length_nil,bne_self_eq_false]
 unfold Builtin.Frozenset.addrOf Builtin.Frozenset.sizeOf
 refine wpAny_bind (wpAny_pure ?_)
 try dsimp only
 refine wpAny_bind (wpAny_pure ?_)
 refine wpAny_bind (wpAny_bind (wpAny_setEntries_of ho hd S.fits (wpAny_pure ?_)))
 refine wpAny_bind (drawn_ask ho hd S.fits ?_)
 have hsz:a<s.heap.objs.size:=Heap.lt_size ho
 have sqlen:∀{sq:List Value},sq.Perm (es.toList.map (·.2))→sq.length=es.size:=fun p=>by rw[p.length_eq,List.length_map,Array.length_toList]
 have fin:∀(s1:Shared) (first:Value) (T:Addr) (sq:List Value),s1.gens=s.gens→s1.os=s.os→s1.toks=s.toks→(∀b u,s.heap.get? b=some u→s1.heap.get? b=some u)→s.heap.objs.size≤s1.heap.objs.size→sq.Perm (es.toList.map (·.2)) →
   (∀T',first=.ref T'→T'=T)→T≠s1.heap.objs.size→(T=a∨s.heap.objs.size≤T)→Mode w s1.heap a es ep t sq 0 first →
   wpAny (model prog w) A.in1 (do
    let e ←setEpoch a
    let it ←newFields "set_iterator" [first,rawInt 0,Value.ref a,rawInt es.size,rawInt e]
    ret it) (fun fin s'=>∃v,fin=Fin.done (Flow.ret v)∧∃T' r,s'.TypeIs v T'∧typeLookup (Value.type T') (Str.ofString "__next__")=pure (some r)∧Q v s') E s1:=by
  intro s1 first T sq g1 g2 g3 kp hle pm hT' hTI hTa M
  have ho1:=kp a o ho
  refine wpAny_bind (epoch_is ho1 hd S.fits ?_)
  unfold newFields
  refine wpAny_bind (wpAny_newObj_type (wpAny_pure ⟨_,rfl,"set_iterator",_,⟨_,Heap.get?_push_size _ rfl,rfl⟩,slot_next.lookup,?_⟩))
  refine h _ o es ep t sq s1.heap.objs.size T s.drawn g1 g2 g3 S pm ⟨Heap.get?_push_of_some _ ho1,hd,S.fits,sqlen pm,first,hT',Heap.get?_push_size _ rfl,?_⟩ (Nat.ne_of_lt (Nat.lt_of_lt_of_le hsz hle)) hTI hTa (fun b u e=>Heap.get?_push_of_some _ (kp b u e)) hle (Heap.size_push _ _)
  exact M.keep hT' fun u e=>Heap.get?_push_of_some _ e
 cases hbt:byT w with
 |true =>
  rw[if_neg (by simp)]
  refine wpAny_bind (wpAny_pure ?_)
  have pm:=(pick_perm (w.params.setOrder a ep) es).map (fun e=>e.2)
  exact fin s _ a _ rfl rfl rfl (fun b u e=>e) (Nat.le_refl _) pm (fun T' q=>nomatch q) (Nat.ne_of_lt hsz) (.inl rfl) (.text 0 hbt rfl)
 |false =>
  cases hdr:drawnB es t with
  |true =>
   rw[if_pos (by rfl)]
   refine wpAny_bind (draw_is es.size _ _ _ List.length_range fun pl d hp=>?_)
   unfold newTuple
   refine wpAny_bind (wpAny_newObj_type ?_ (by show (pl.map fun (i:Nat)=>rawInt i).toArray.size≤sizeLine;rw[List.size_toArray,List.length_map,hp.length_eq,List.length_range,S.len];exact hz))
   have hget:∀p,p∈pl→p<es.size:=fun p hm=>List.mem_range.mp (hp.mem_iff.mp hm)
   refine fin _ _ s.heap.objs.size (pl.map fun p=>(es.toList.map (fun e=>e.2)).getD p .none) rfl rfl rfl (fun b u e=>Heap.get?_push_of_some _ e) (by show _≤(s.heap.push _).objs.size;rw[Heap.size_push];exact Nat.le_succ _) ?_ (fun T' q=>by injection q with q;exact q.symm) (by show _≠(s.heap.push _).objs.size;rw[Heap.size_push];exact Nat.ne_of_lt (Nat.lt_succ_self _)) (.inr (Nat.le_refl _)) ?_
   ·refine (hp.map _).trans (List.Perm.of_eq ?_)
    refine List.ext_getElem (by simp) fun j h1 h2=>?_
    have hj:j<es.size:=by simpa using h1
    rw[List.getElem_map,List.getElem_range,List.getD_eq_getElem?_getD,List.getElem?_eq_getElem h2]
    rfl
   ·refine .drawn s.heap.objs.size pl hbt hdr ⟨_,_,Heap.get?_push_size _ rfl,rfl⟩ (by rw[hp.length_eq,List.length_range]) fun j p hj=>?_
    have hpl:=hget p (List.mem_of_getElem? hj)
    refine⟨es[p],Array.getElem?_eq_getElem hpl,?_⟩
    rw[List.getElem?_map,hj]
    show some _=some _
    congr 1
    show (es.toList.map (fun e=>e.2)).getD p Value.none=es[p].2
    rw[List.getD_eq_getElem?_getD,List.getElem?_map,Array.getElem?_toList,Array.getElem?_eq_getElem hpl]
    rfl
  |false =>
   rw[if_neg (by simp)]
   refine wpAny_bind (wpAny_pure ?_)
   exact fin s _ a _ rfl rfl rfl (fun b u e=>e) (Nat.le_refl _) (List.Perm.refl _) (fun T' q=>nomatch q) (Nat.ne_of_lt hsz) (.inl rfl) (.place hbt hdr (by have:=S.tb;rw[hbt] at this;exact this) rfl)
end
end StW
namespace StW
open PySem PyProof.Rows
section
variable {prog : Program} {w : World} {A : Around} {E : Value → Shared → Prop} {s : Shared}
theorem slot_below {t:SetTable} (R:Rs t.place):∀i,i≤t.place.size→SetTable.below t.place (slotAt t i)=i
 |0,_=>below_zero R
 |i+1,h=>by
  have hi:i<t.place.size:=h
  have e:t.place[i]?=some (t.place.getD i 0):=by rw[Array.getElem?_eq_getElem hi];unfold Array.getD;rw[dif_pos hi];rfl
  exact below_next R e
theorem fits_size {t:SetTable} {n:Nat} (h:t.fits n=true):t.place.size=n:=by
 unfold SetTable.fits at h
 rw[Bool.and_eq_true,beq_iff_eq] at h
 exact h.1
theorem setNext_is {a T I:Addr} {o:Obj} {es:Array (Int×Value)} {ep:Nat} {t:SetTable} {sq:List Value} {i:Nat} {sl:Nat} {Q:Option (Value×Nat)→Shared→Prop} (ho:s.heap.get? a=some o) (hd:o.data=.set es ep t) (hf:t.fits es.size=true) (hl:sq.length=es.size)
  (M:(byT w=true∧sq=(pickOrder (w.params.setOrder a ep) es).toList.map (·.2))∨(byT w=false∧drawnB es t=false∧Tb true t∧sq=es.toList.map (·.2)∧sl=slotAt t i)) (hi:i≤sq.length)
  (h:∀nx,((byT w=true∧nx=sl)∨(byT w=false∧nx=slotAt t (i+1))∨sq[i]?=none)→Q (sq[i]?.map fun v=>(v,nx)) s):wpAny (model prog w) A (setNext a sl i ep) Q E s:=by
 unfold setNext
 refine wpAny_bind (wpAny_setState_of ho hd hf ?_)
 unfold setsByText
 refine wpAny_bind (wpAny_bind (wpAny_askSetting (wpAny_pure ?_)))
 rcases M with⟨hb,e⟩|⟨hb,hdr,T,e,esl⟩
 ·show wpAny _ _ (if byT w=true then _ else _) _ _ _
  rw[if_pos hb]
  dsimp only
  rw[if_neg (by simp)]
  unfold setWalk
  refine wpAny_bind (wpAny_bind (wpAny_setState_of ho hd hf ?_))
  unfold setsByText
  refine wpAny_bind (wpAny_bind (wpAny_askSetting (wpAny_pure ?_)))
  show wpAny _ _ (if byT w=true then _ else _) _ _ _
  rw[if_pos hb]
  refine wpAny_bind (wpAny_askSetting (wpAny_pure ?_))
  have:=h sl (.inl ⟨hb,rfl⟩)
  rw[e,List.getElem?_map,Array.getElem?_toList,Option.map_map] at this
  exact wpAny_pure this
 ·show wpAny _ _ (if byT w=true then _ else _) _ _ _
  rw[if_neg (by rw[hb];exact Bool.false_ne_true)]
  dsimp only
  show wpAny _ _ (if drawnB es t=true then _ else _) _ _ _
  rw[if_neg (by rw[hdr];exact Bool.false_ne_true)]
  refine wpAny_bind ?_
  show wpAny _ _ (if (!t.led&&!es.isEmpty)=true then unsupported "set:maker-not-led" else pure ()) _ _ _
  rw[if_neg (by rw[T.led];exact Bool.false_ne_true)]
  refine wpAny_pure (wpAny_pure ?_)
  have hps:=fits_size hf
  rw[esl,slot_below T.rs i (by omega)]
  by_cases hlt:i<es.size
  ·have hp:i<t.place.size:=by omega
   have h1:es[i]?=some es[i]:=Array.getElem?_eq_getElem hlt
   have h2:t.place[i]?=some (t.place.getD i 0):=by rw[Array.getElem?_eq_getElem hp];unfold Array.getD;rw[dif_pos hp];rfl
   have:=h (slotAt t (i+1)) (.inr (.inl ⟨hb,rfl⟩))
   rw[e,List.getElem?_map,Array.getElem?_toList,h1] at this
   rw[h1,h2]
   exact this
  ·have h1:es[i]?=none:=Array.getElem?_eq_none (by omega)
   have hn:sq[i]?=none:=List.getElem?_eq_none (by omega)
   have:=h 0 (.inr (.inr hn))
   rw[hn] at this
   rw[h1]
   exact this
end
end StW
namespace StW
open PySem PyProof.Rows
section
variable {prog : Program} {w : World} {A : Around} {E : Value → Shared → Prop} {s : Shared}
theorem it_get {I a:Addr} {f x:Value} {i n ep k:Nat} {o:Obj} {fs:Array Value} {h:Heap} (hI:h.get? I=some o) (ho:o.cls=.type "set_iterator"∧o.dict=none∧o.slots=#[]∧o.data=.fields fs) :
  (h.update I (Obj.mapFields (·.setIfInBounds k x))).get? I=some {cls:=.type "set_iterator",data:=.fields (fs.setIfInBounds k x)}:=by
 obtain⟨c,d,dt,sl⟩:=o
 obtain⟨h1,h2,h3,h4⟩:=ho
 simp only at h1 h2 h3 h4
 subst h1 h2 h3 h4
 exact Heap.get?_update_self _ hI rfl
theorem put_one {I a:Addr} {f x:Value} {i j n ep:Nat} {P:Fin→Shared→Prop} (hI:s.heap.get? I=some (itObj f i a n ep)) (hj:((i:Int)+1)=(j:Int))
  (h:∀h',h'.get? I=some (itObj f j a n ep)→Heap.SameBut I s.heap h'→P (.done (.ret x)) {s with heap:=h'}) :
  wpAny (model prog w) A (do setField (.ref I) 1 (Value.int ((i:Int)+1) 0);ret x) P E s:=by
 refine wpAny_bind (wpAny_setField hI rfl (by simp) (wpAny_pure (h _ ?_ (Heap.SameBut.update ..))))
 rw[it_get (f:=f) (a:=a) (i:=i) (n:=n) (ep:=ep) hI ⟨rfl,rfl,rfl,rfl⟩,hj]
 rfl
theorem put_two {I a:Addr} {f x:Value} {i j n ep nx:Nat} {P:Fin→Shared→Prop} (hI:s.heap.get? I=some (itObj f i a n ep)) (hj:((i:Int)+1)=(j:Int))
  (h:∀h',h'.get? I=some (itObj (rawInt nx) j a n ep)→Heap.SameBut I s.heap h'→P (.done (.ret x)) {s with heap:=h'}) :
  wpAny (model prog w) A (do setField (.ref I) 0 (Value.int (nx:Int) 0);setField (.ref I) 1 (Value.int ((i:Int)+1) 0);ret x) P E s:=by
 refine wpAny_bind (wpAny_setField hI rfl (by simp) ?_)
 have h1:=it_get (f:=f) (a:=a) (i:=i) (n:=n) (ep:=ep) (k:=0) (x:=rawInt nx) hI ⟨rfl,rfl,rfl,rfl⟩
 exact put_one (s:={s with heap:=_}) (f:=rawInt nx) h1 hj fun h' e sb=>h h' e ((Heap.SameBut.update ..).trans sb)
theorem next_item {I a T:Addr} {o:Obj} {es:Array (Int×Value)} {ep:Nat} {t:SetTable} {sq:List Value} {i:Nat} {v:Value} {Q:Option Value→Shared→Prop} (hit:ItAt w I a T o es ep t sq i s.heap) (haI:a≠I) (hTI:T≠I) (hv:sq[i]?=some v)
  (hQ:∀h',ItAt w I a T o es ep t sq (i+1) h'→Heap.SameBut I s.heap h'→Q (some v) {s with heap:=h'}):wpAny (model prog w) A (pyNext (.ref I)) Q E s:=by
 obtain⟨ho,hd,hf,hl,first,hT,hI,M⟩:=hit
 have hty:s.TypeIs (.ref I) "set_iterator":=⟨_,hI,rfl⟩
 have hlt:i<sq.length:=(List.getElem?_eq_some_iff.mp hv).1
 unfold pyNext
 refine wpAny_bind (wpAny_attempt (wpAny_callSpecial?_slot (name:=Str.ofString "__next__") hty slot_next (wpAny_call_entry slot_next hty entry_next ?_ (args_next _))))
 unfold Builtin.«set_iterator.__next__»;refine wpAny_bind (m:=slotArgs _ _ _) (wpAny_pure ?_);refine wpAny_bind (wpAny_fieldsOf hI rfl ?_)
 dsimp only [rawInt]
 refine wpAny_bind (wpAny_setEntries_of ho hd hf ?_)
 rw[if_neg (by simp)]
 have hij:((i:Int)+1)=((i+1:Nat):Int):=by omega
 have again:∀(f':Value) (h':Heap),h'.get? I=some (itObj f' (i+1) a es.size ep)→Heap.SameBut I s.heap h'→(∀T',f'=.ref T'→T'=T)→Mode w s.heap a es ep t sq (i+1) f'→ItAt w I a T o es ep t sq (i+1) h':=fun f' h' e sb hT' M' =>
  ⟨by rw[sb.2 a haI];exact ho,hd,hf,hl,f',hT',e,M'.keep hT' fun u eu=>by rw[sb.2 T hTI];exact eu⟩
 cases M with
 |text sl b1 b2 =>
  dsimp only [rawInt]
  rw[Int.toNat_natCast,Int.toNat_natCast,Int.toNat_natCast]
  refine wpAny_bind (setNext_is (I:=I) (T:=T) ho hd hf hl (.inl ⟨b1,b2⟩) (Nat.le_of_lt hlt) fun nx hnx=>?_)
  rw[hv]
  refine put_two hI hij fun h' e sb=>⟨_,rfl,?_⟩
  exact wpAny_pure (hQ h' (again _ h' e sb (fun T' q=>nomatch q) (.text nx b1 b2)) sb)
 |drawn T' pl b1 b2 b3 b4 b5 =>
  obtain⟨oT,c,e1,e2⟩:=b3
  dsimp only
  rw[Int.toNat_natCast,Int.toNat_natCast]
  have hil:i<pl.length:=by omega
  have hpi:pl[i]?=some pl[i]:=List.getElem?_eq_getElem hil
  obtain⟨en,e3,e4⟩:=b5 i _ hpi
  have ev:en.2=v:=by rw[hv] at e4;exact (Option.some.inj e4).symm
  unfold seqItems?
  refine wpAny_bind (wpAny_bind (wpAny_load e1 ?_))
  rw[e2]
  refine wpAny_pure ?_
  have hpl:(pl.map fun (p:Nat)=>rawInt p).toArray[i]?=some (Value.int (pl[i]:Nat) 0):=by rw[List.getElem?_toArray,List.getElem?_map,hpi];rfl
  dsimp only
  rw[hpl]
  dsimp only
  rw[Int.toNat_natCast]
  unfold setNextDrawn
  refine wpAny_bind (wpAny_bind (wpAny_setState_of ho hd hf ?_))
  dsimp only
  rw[if_neg (by simp),e3]
  refine wpAny_pure ?_
  rw[ev]
  refine put_one hI hij fun h' e sb=>⟨_,rfl,?_⟩
  exact wpAny_pure (hQ h' (again _ h' e sb hT (.drawn T' pl b1 b2 ⟨oT,c,e1,e2⟩ b4 b5)) sb)
 |place b1 b2 b3 b4 =>
  dsimp only [rawInt]
  rw[Int.toNat_natCast,Int.toNat_natCast,Int.toNat_natCast]
  refine wpAny_bind (setNext_is (I:=I) (T:=T) ho hd hf hl (.inr ⟨b1,b2,b3,b4,rfl⟩) (Nat.le_of_lt hlt) fun nx hnx=>?_)
  rw[hv]
  have hnx':nx=slotAt t (i+1):=by
   rcases hnx with q|q|q
   ·rw[b1] at q;cases q.1
   ·exact q.2
   ·rw[hv] at q;cases q
  subst hnx'
  refine put_two hI hij fun h' e sb=>⟨_,rfl,?_⟩
  exact wpAny_pure (hQ h' (again _ h' e sb (fun T' q=>nomatch q) (.place b1 b2 b3 b4)) sb)
theorem stop_is {I:Addr} {fs:Array Value} {Q:Option Value→Shared→Prop} {h0:Heap} (hh:A.handled=none) (kp:∀b u,b≠I→h0.get? b=some u→s.heap.get? b=some u)
  (hQ:∀h',(∀b u,b≠I→h0.get? b=some u→h'.get? b=some u)→Q none {s with heap:=h'}) :
  wpAny (model prog w) A.in1 (do
   let e ←newExc (Value.type "StopIteration") []
   raiseNew e) (fun fin s'=>∃v,fin=Fin.done (Flow.ret v)∧wpAny (model prog w) A (pure (some v)) Q E s')
   (fun e s'=>wpAny (model prog w) A (do if ←isInstance e (.type "StopIteration") then pure none else throw e) Q E s') s:=by
 refine wpAny_bind ?_
 simp only [newExc,newTuple]
 refine wpAny_bind (wpAny_newObj_type ?_ (by size_fits))
 refine wpAny_bind (m:=firstArgMember _ _) (wpAny_of_eq (a:=Value.none) (by first|rfl|(simp only [firstArgMember];rfl)) ?_)
 refine wpAny_newObj_type ?_ (by size_fits)
 simp only [raiseNew]
 refine wpAny_bind (wpAny_handled ?_)
 rw[show A.in1.handled=none from hh]
 refine wpAny_bind (wpAny_pure (wpAny_throw ?_))
 refine wpAny_bind (wpAny_isInstance (T:="StopIteration") (b:=true) ⟨_,Heap.get?_push_size _ rfl,rfl⟩ isSubtype_stop ?_)
 exact wpAny_pure (hQ _ fun b u hb e=>Heap.get?_push_of_some _ (Heap.get?_push_of_some _ (kp b u hb e)))
theorem next_end {I a T:Addr} {o:Obj} {es:Array (Int×Value)} {ep:Nat} {t:SetTable} {sq:List Value} {Q:Option Value→Shared→Prop} (hh:A.handled=none) (hit:ItAt w I a T o es ep t sq sq.length s.heap) (haI:a≠I) (hTI:T≠I)
  (hQ:∀h',(∀b u,b≠I→s.heap.get? b=some u→h'.get? b=some u)→Q none {s with heap:=h'}):wpAny (model prog w) A (pyNext (.ref I)) Q E s:=by
 obtain⟨ho,hd,hf,hl,first,hT,hI,M⟩:=hit
 have hty:s.TypeIs (.ref I) "set_iterator":=⟨_,hI,rfl⟩
 have hv:sq[sq.length]?=none:=List.getElem?_eq_none (Nat.le_refl _)
 unfold pyNext
 refine wpAny_bind (wpAny_attempt (wpAny_callSpecial?_slot (name:=Str.ofString "__next__") hty slot_next (wpAny_call_entry slot_next hty entry_next ?_ (args_next _))))
 unfold Builtin.«set_iterator.__next__»;refine wpAny_bind (m:=slotArgs _ _ _) (wpAny_pure ?_);refine wpAny_bind (wpAny_fieldsOf hI rfl ?_)
 dsimp only [rawInt]
 refine wpAny_bind (wpAny_setEntries_of ho hd hf ?_)
 rw[if_neg (by simp)]
 cases M with
 |text sl b1 b2 =>
  dsimp only [rawInt]
  rw[Int.toNat_natCast,Int.toNat_natCast,Int.toNat_natCast]
  refine wpAny_bind (setNext_is (I:=I) (T:=T) ho hd hf hl (.inl ⟨b1,b2⟩) (Nat.le_refl _) fun nx hnx=>?_)
  rw[hv]
  refine wpAny_bind (wpAny_setField hI rfl (by simp) ?_)
  exact stop_is (fs:=#[]) (h0:=s.heap) hh (fun b u hb e=>(Heap.get?_update_other _ _ (Ne.symm hb)).trans e) hQ
 |drawn T' pl b1 b2 b3 b4 b5 =>
  obtain⟨oT,c,e1,e2⟩:=b3
  dsimp only
  rw[Int.toNat_natCast,Int.toNat_natCast]
  unfold seqItems?
  refine wpAny_bind (wpAny_bind (wpAny_load e1 ?_))
  rw[e2]
  refine wpAny_pure ?_
  have hpl:(pl.map fun (p:Nat)=>rawInt p).toArray[sq.length]?=none:=by rw[List.getElem?_toArray,List.getElem?_map,List.getElem?_eq_none (by omega)];rfl
  dsimp only
  rw[hpl]
  dsimp only
  refine wpAny_bind (wpAny_setField hI rfl (by simp) ?_)
  have h1:=it_get (f:=Value.ref T') (a:=a) (i:=sq.length) (n:=es.size) (ep:=ep) (k:=0) (x:=Value.int 0 0) hI ⟨rfl,rfl,rfl,rfl⟩
  refine wpAny_bind (wpAny_setField (s:={s with heap:=_}) h1 rfl (by simp) ?_)
  exact stop_is (fs:=#[]) (h0:=s.heap) hh (fun b u hb e=>(Heap.get?_update_other _ _ (Ne.symm hb)).trans ((Heap.get?_update_other _ _ (Ne.symm hb)).trans e)) hQ
 |place b1 b2 b3 b4 =>
  dsimp only [rawInt]
  rw[Int.toNat_natCast,Int.toNat_natCast,Int.toNat_natCast]
  refine wpAny_bind (setNext_is (I:=I) (T:=T) ho hd hf hl (.inr ⟨b1,b2,b3,b4,rfl⟩) (Nat.le_refl _) fun nx hnx=>?_)
  rw[hv]
  refine wpAny_bind (wpAny_setField hI rfl (by simp) ?_)
  exact stop_is (fs:=#[]) (h0:=s.heap) hh (fun b u hb e=>(Heap.get?_update_other _ _ (Ne.symm hb)).trans e) hQ
end
end StW
namespace StW
open PySem PyProof.Rows
theorem entry_selfIter:entryFor table "set_iterator.__iter__"=some Builtin.«dict_keyiterator.__iter__»:=entryFor_alias (id':="dict_keyiterator.__iter__") (by kernel_rfl) rfl (by decide +kernel) (by kernel_rfl)
theorem args_selfIter (a:Value):argsOk "set_iterator.__iter__" ⟨[a],[]⟩:=by unfold argsOk;kernel_rfl
section
variable {prog : Program} {w : World} {A : Around} {E : Value → Shared → Prop} {s : Shared}
theorem walk_is {I a T:Addr} {o:Obj} {es:Array (Int×Value)} {ep:Nat} {t:SetTable} {sq:List Value} (hh:A.handled=none) (haI:a≠I) (hTI:T≠I) :
  Walks prog w A I [I,a,T] [I] sq.length (fun i v=>sq[i]?=some v) (fun i h=>ItAt w I a T o es ep t sq i h) where
 sub:=fun b hb=>by simp at hb;simp [hb]
 frame:=fun i h h' st k=>by
  obtain⟨ho,hd,hf,hl,first,hT,hI,M⟩:=st
  exact⟨k a (by simp) o ho,hd,hf,hl,first,hT,k I (by simp) _ hI,M.keep hT fun u e=>k T (by simp) u e⟩
 item:=fun i s Q E hi st q=>by
  have hv:sq[i]?=some sq[i]:=List.getElem?_eq_getElem hi
  exact next_item st haI hTI hv fun h' st' sb=>q _ h' s.toks hv st' fun b u hb e=>(sb.2 b fun z=>hb (by simp [z])).trans e
 done:=fun s Q E st q=>next_end hh st haI hTI fun h' kp=>q h' s.toks fun b u hb e=>kp b u (fun z=>hb (by simp [z])) e
 self:=fun i s Q E st q=>by
  obtain⟨ho,hd,hf,hl,first,hT,hI,M⟩:=st
  have hty:s.TypeIs (.ref I) "set_iterator":=⟨_,hI,rfl⟩
  refine wpAny_pyIter_slot hty slot_selfIter (wpAny_call_entry slot_selfIter hty entry_selfIter ?_ (args_selfIter _))
  refine wpAny_bind (m:=slotArgs _ _ _) (wpAny_pure ?_)
  exact wpAny_pure ⟨_,rfl,"set_iterator",_,hty,slot_next.lookup,q⟩
theorem hint_is {a:Addr} {Q:Bool→Shared→Prop} (hT:s.TypeIs (.ref a) "set") (h:Q false s):wpAny (model prog w) A (Builtin.List.listLengthHint (.ref a)) Q E s:=by
 unfold Builtin.List.listLengthHint
 refine wpAny_bind (wpAny_specialOf hT PySem.F.slot_set_len.lookup ?_)
 have hsp:splitId "set.__len__"=some ("set","__len__"):=by kernel_rfl
 simp -zeta only [hsp]
 refine wpAny_bind (wpAny_isInstance hT sub_set_self ?_)
 simp -zeta only [Bool.not_true,Bool.false_eq_true,if_false]
 refine wpAny_ite_split (fun _=>?_) (fun hn=>absurd rfl hn)
 refine wpAny_bind (wpAny_typeOf hT ?_)
 exact wpAny_pure h
end
end StW
namespace StW
open PySem PyProof.Rows
section
variable {prog : Program} {w : World} {A : Around} {E : Value → Shared → Prop} {s : Shared}
theorem collect_is {a:Addr} {ks:List Int} {Q:List Value→Shared→Prop} (hh:A.handled=none) (hS:SetIs (!byT w) s.heap a ks) (hz:ks.length≤sizeLine)
  (h:∀(s':Shared) (vs:List Value) (ns:List Int),IntsAre vs ns→ns.Perm ks→s'.gens=s.gens→s'.os=s.os→(∀b u,s.heap.get? b=some u→s'.heap.get? b=some u)→s.heap.objs.size≤s'.heap.objs.size→Q vs s') :
  wpAny (model prog w) A (collect (.ref a)) Q E s:=by
 unfold collect
 refine wpAny_bind (wpAny_runValue (codeAny_builtin entry_proto_collect' ?_))
 refine wpAny_bind (m:=newList []) (wpAny_newList (wpAny_pure ⟨Code.quiet_builtin _ (by decide +kernel),codeAny_builtin entry_list_iadd' ?_⟩))
 show wpAny _ _ (Builtin.List.listExtendWith (.ref s.heap.objs.size) (.ref a) (.ref s.heap.objs.size)) _ _ {s with heap:=s.heap.push (seqObj "list" #[] 0)}
 obtain⟨o,es,ep,t,ho,S⟩:=hS
 have hS1:SetIs (!byT w) (s.heap.push (seqObj "list" #[] 0)) a ks:=⟨o,es,ep,t,Heap.get?_push_of_some _ ho,S⟩
 have hT1:Shared.TypeIs {s with heap:=s.heap.push (seqObj "list" #[] 0)} (.ref a) "set":=⟨o,Heap.get?_push_of_some _ ho,by rw[S.eq]⟩
 have haS:s.heap.objs.size≠a:=fun q=>absurd (Heap.lt_size ho) (by rw[q];exact Nat.lt_irrefl _)
 unfold Builtin.List.listExtendWith
 refine wpAny_bind (wpAny_typeOf hT1 ?_)
 have c1:Builtin.List.listSameRef (.ref s.heap.objs.size) (.ref a)=false:=by simp [Builtin.List.listSameRef,haS]
 have c2:(Value.type "set"==Value.type "list")=false:=by decide
 have c3:(Value.type "set"==Value.type "tuple")=false:=by decide
 rw[c1,c2,c3]
 refine wpAny_ite_split (fun q=>absurd q (by decide)) fun _=>?_
 refine wpAny_bind (iter_is hS1 hz fun s2 o2 es2 ep2 t2 sq I T d g1 g2 g3 S2 pm it haI hTI hTa kp hle hsz=>?_)
 have hT2:s2.TypeIs (.ref a) "set":=⟨o,kp a o (Heap.get?_push_of_some _ ho),by rw[S.eq]⟩
 refine wpAny_bind (wpAny_holding (hint_is hT2 ?_))
 refine wpAny_ite_split (fun _=>?_) fun hn=>absurd rfl hn
 refine wpAny_bind (wpAny_rule ?_)
 have kp:∀b u,(s.heap.push (seqObj "list" #[] 0)).get? b=some u→s2.heap.get? b=some u:=kp
 have hle:(s.heap.push (seqObj "list" #[] 0)).objs.size≤I:=hle
 have hps:(s.heap.push (seqObj "list" #[] 0)).objs.size=s.heap.objs.size+1:=Heap.size_push _ _
 have hTa:T=a∨(s.heap.push (seqObj "list" #[] 0)).objs.size≤T:=hTa
 have hL2:s2.heap.get? s.heap.objs.size=some (seqObj "list" #[] 0):=kp _ _ (Heap.get?_push_size _ rfl)
 have hSf:s.heap.objs.size∉[I,a,T]:=by
  simp only [List.mem_cons,List.not_mem_nil,or_false,not_or]
  refine⟨by omega,haS,fun q=>?_⟩
  rcases hTa with z|z
  ·exact haS (q.trans z)
  ·omega
 have hsq:sq.length≤sizeLine:=by rw[pm.length_eq,List.length_map,Array.length_toList,S2.len];exact hz
 have hk2:∀b u,s.heap.get? b=some u→s2.heap.get? b=some u:=fun b u e=>kp b u (Heap.get?_push_of_some _ e)
 unfold Builtin.List.listTouch
 refine wpAny_bind (wpAny_bind (listUpdate_at hL2 rfl ?_ (Nat.zero_le _) (by show (#[].push Value.none:Array Value).size≤sizeLine+1;exact Nat.succ_le_succ (Nat.zero_le _))))
 have hL3:=get?_update_seq (c:="list") hL2 (·.push Value.none)
 refine listUpdate_at (s:={s2 with heap:=_}) hL3 rfl ?_ (by show (#[].push Value.none:Array Value).size≤sizeLine;decide) (by show ((#[].push Value.none:Array Value).pop).size≤sizeLine+1;exact Nat.zero_le _)
 have hL4:=get?_update_seq (c:="list") hL3 (·.pop)
 have keep4:∀b u,b≠s.heap.objs.size→s2.heap.get? b=some u→((s2.heap.update s.heap.objs.size (Obj.mapSeq (·.push Value.none))).update s.heap.objs.size (Obj.mapSeq (·.pop))).get? b=some u:=fun b u hb e =>
  (Heap.get?_update_other _ _ (Ne.symm hb)).trans ((Heap.get?_update_other _ _ (Ne.symm hb)).trans e)
 refine wpAny_pure ⟨plainId_quiet PySem.F.plain_extend_loop _,?_⟩
 have W:=(walk_is (prog:=prog) (w:=w) (A:=A.in1) (I:=I) (a:=a) (T:=T) (o:=o2) (es:=es2) (ep:=ep2) (t:=t2) (sq:=sq) hh haI hTI).toS
 have ne:∀x,x∈[I,a,T]→x≠s.heap.objs.size:=fun x hx q=>hSf (q ▸ hx)
 have it4:ItAt w I a T o2 es2 ep2 t2 sq 0 ((s2.heap.update s.heap.objs.size (Obj.mapSeq (·.push Value.none))).update s.heap.objs.size (Obj.mapSeq (·.pop))):=by
  obtain⟨i1,i2,i3,i4,first,i5,i6,i7⟩:=it
  exact⟨keep4 a _ (ne a (by simp)) i1,i2,i3,i4,first,i5,keep4 I _ (ne I (by simp)) i6,i7.keep i5 fun u e=>keep4 T u (ne T (by simp)) e⟩
 refine codeAny_extend_loopS W hsq s.heap.objs.size hSf (.ref s.heap.objs.size) sq.length 0 _ #[] _ rfl (Nat.zero_le _) it4 hL4 (ItemsOf.nil _) fun s3 acc c' hm hL5 hacc=>?_
 refine wpAny_bind (wpAny_load hL5 (wpAny_pure ?_))
 have eacc:acc.toList=sq:=by
  refine List.ext_getElem? fun j=>?_
  by_cases hj:j<acc.size
  ·have e1:acc[j]?=some acc[j]:=Array.getElem?_eq_getElem hj
   rw[Array.getElem?_toList,e1]
   exact (hacc.2 j _ e1).symm
  ·rw[Array.getElem?_toList,Array.getElem?_eq_none (by omega),List.getElem?_eq_none (by have:=hacc.1;omega)]
 have hi:∃ns,IntsAre sq ns∧ns.Perm ks:=by
  have key:∀(l:List Value),(∀v,v∈l→∃k t,v=Value.int k t)→IntsAre l (l.map keyOf):=by
   intro l
   induction l with
   |nil=>intro _;exact .nil
   |cons v l ih =>
    intro hv
    obtain⟨k,t,rfl⟩:=hv v List.mem_cons_self
    exact .cons k t (ih fun x hx=>hv x (List.mem_cons_of_mem _ hx))
  refine⟨sq.map keyOf,key sq fun v hv=>?_,?_⟩
  ·obtain⟨e,he,rfl⟩:=List.mem_map.mp (pm.mem_iff.mp hv)
   obtain⟨k,t,rfl⟩:=S2.allInt e he
   exact⟨k,t,rfl⟩
  ·refine (pm.map keyOf).trans ?_
   rw[List.map_map]
   exact S2.perm
 obtain⟨ns,h1,h2⟩:=hi
 rw[eacc]
 have kfin:∀b u,s.heap.get? b=some u→s3.heap.get? b=some u:=fun b u e=>by
  have hb:b<s.heap.objs.size:=Heap.lt_size e
  refine hm.heap b u (fun z=>?_) (keep4 b u (Nat.ne_of_lt hb) (hk2 b u e))
  rcases List.mem_cons.mp z with z|z
  ·exact absurd z (Nat.ne_of_lt hb)
  ·have z:b=I:=List.mem_singleton.mp z
   rw[hps] at hle
   exact absurd (z ▸ hb:I<s.heap.objs.size) (Nat.not_lt.mpr (Nat.le_of_succ_le hle))
 refine h s3 sq ns h1 h2 (hm.gens.trans g1) (hm.os.trans g2) kfin ?_
 exact Nat.le_of_lt (Heap.lt_size hL5)
theorem sorted_is {a:Addr} {ks:List Int} {Q:Value→Shared→Prop} (hh:A.handled=none) (hS:SetIs (!byT w) s.heap a ks) (hz:ks.length≤sizeLine)
  (h:∀(s':Shared) (l:Addr) (out:List Value) (ns:List Int) (c:Nat),IntsAre out ns→ns.Perm ks→ns.Pairwise (·≤·)→s'.gens=s.gens→s'.os=s.os→(∀b u,s.heap.get? b=some u→s'.heap.get? b=some u)→s.heap.objs.size≤l→s'.heap.get? l=some (seqObj "list" out.toArray c)→Q (.ref l) s') :
  wpAny (model prog w) A (call (.builtin "sorted") [.ref a]) Q E s:=by
 refine Calls.call_function_entry kind_sorted plain_sorted entry_sorted (args_sorted1 _) ?_
 unfold Builtin.«sorted»;refine wpAny_bind (m:=checkCount _ _ _ _) (wpAny_pure ?_)
 refine wpAny_bind (collect_is (by simpa using hh) hS hz fun s1 vs ns hi pm g1 g2 kp hle=>?_)
 refine wpAny_bind (wpAny_newList ?_ (by show vs.toArray.size≤sizeLine;rw[List.size_toArray,hi.length,pm.length_eq];exact hz))
 have hoL:(s1.heap.push (seqObj "list" vs.toArray 0)).get? s1.heap.objs.size=some (seqObj "list" vs.toArray 0):=Heap.get?_push_size _ rfl
 refine wpAny_bind (wpAny_holding (wpAny_call_entry slot_list_sort ⟨_,hoL,rfl⟩ entry_list_sort (list_sort_treeAny (s:={s1 with heap:=s1.heap.push (seqObj "list" vs.toArray 0)}) hoL hi (by rw[hi.length,pm.length_eq];exact hz) fun out ns' a1 a2 a3=>⟨_,rfl,?_⟩) (args_list_sort _)))
 obtain⟨c,hc⟩:=sortedHeap_at (out:=out) (vs:=vs) hoL
 refine wpAny_pure ⟨_,rfl,h _ s1.heap.objs.size out.toList ns' c a1 (a2.trans pm) a3 g1 g2 (fun b u e=>?_) hle (by simpa using hc)⟩
 have hb:=Heap.lt_size (kp b u e)
 show (sortedHeap _ _ _ _).get? b=some u
 rw[sortedHeap_old (Nat.ne_of_lt hb) (by rw[Heap.size_push];exact Nat.lt_succ_of_lt hb),Heap.get?_push_ne _ _ _ (Nat.ne_of_lt hb)]
 exact kp b u e
end
end StW
namespace StW
theorem once_few (l:List Int):(once l).length≤l.length:=by
 have:=once_len l []
 unfold once
 simp at this
 exact this
theorem nodup_few:∀(N:Nat) (l:List Nat),l.Nodup→(∀x,x∈l→x<N)→l.length≤N
 |0,l,_,h=>by
  cases l with
  |nil=>exact Nat.le_refl _
  |cons x l=>exact absurd (h x List.mem_cons_self) (Nat.not_lt_zero x)
 |N+1,l,nd,h=>by
  by_cases hm:N∈l
  ·have h1:=nodup_few N (l.erase N) (nd.erase N) fun x hx=>by
    have hx':=(nd.mem_erase_iff).mp hx
    have:=h x hx'.2
    have:=hx'.1
    omega
   rw[List.length_erase_of_mem hm] at h1
   omega
  ·have:=nodup_few N l nd fun x hx=>by
    have:=h x hx
    have:x≠N:=fun q=>hm (q ▸ hx)
    omega
   omega
theorem once_256 {bs:List Nat} (h:∀s,s∈bs→s<256) (i:Nat):(once ((bs.map fun (n:Nat)=>(n:Int)).take i)).length≤256:=by
 have nd:(once ((bs.map fun (n:Nat)=>(n:Int)).take i)).Nodup:=once_nd _ [] List.nodup_nil
 have hm:∀x,x∈once ((bs.map fun (n:Nat)=>(n:Int)).take i)→∃n:Nat,n<256∧x=(n:Int):=fun x hx=>by
  unfold once at hx
  rw[once_mem] at hx
  rcases hx with hx|hx
  ·cases hx
  ·obtain⟨n,hn,rfl⟩:=List.mem_map.mp (List.mem_of_mem_take hx)
   exact⟨n,h n hn,rfl⟩
 generalize once ((bs.map fun (n:Nat)=>(n:Int)).take i)=l at nd hm
 have h1:=nodup_few 256 (l.map Int.toNat) ?_ fun x hx=>?_
 ·rw[List.length_map] at h1;exact h1
 ·refine List.pairwise_map.mpr (nd.imp_of_mem fun {a b} ha hb hne q=>hne ?_)
  obtain⟨x,_,rfl⟩:=hm a ha
  obtain⟨y,_,rfl⟩:=hm b hb
  rw[Int.toNat_natCast,Int.toNat_natCast] at q
  rw[q]
 ·obtain⟨z,hz,rfl⟩:=List.mem_map.mp hx
  obtain⟨n,hn,rfl⟩:=hm z hz
  rw[Int.toNat_natCast];exact hn
end StW
namespace L2
open PySem PySem.Spec PyProof.Rows StW
section
variable {X : Cx}
def setHO (b:Bool) (a:Addr) (ks:List Int):HO:=.ext fun h=>SetIs b h a ks
def rSet (K:PySem.W.Frag) (b:Bool):List V→Hp→VK→Prop:=fun vs H Q=>∃(a:Addr) (ns:List Int),vs=[V.ref a]∧SqL K H a (ns.map V.int)∧(∀i,(once (ns.take i)).length≤4000)∧∀p,H p=none→Q (.ref p) (upd H p (setHO b p (once ns)))
theorem call_set (hc:X.calm=true):CallR X (.type "set") (rSet X.K (!byT X.w)):=by
 intro pins s σ H vs us Q I r h
 obtain⟨a,ns,rfl,hs,hn,q⟩:=h
 obtain⟨its,rv,hl,_⟩:=I.list hs
 rw[Vals.ref1 r]
 have hi:=rv.ints
 refine set_is (I.ok.hd hc) hl.isList (by simpa using hi) (fun i=>by have:=hn i;unfold scanBound;omega) fun h' tk S kp=>?_
 refine⟨.ref s.heap.objs.size,_,I.laid (t':=tk) kp (Nat.le_refl _) ?_,rfl,q _ (I.hok.fresh (Nat.le_refl _))⟩
 have S':=S
 obtain⟨o,es,ep,t,e,_⟩:=S'
 exact⟨S,⟨o,e⟩,fun h1 h2 z k=>z.keep k⟩
def rSortedSet (b:Bool):List V→Hp→VK→Prop:=fun vs H Q=>∃(a:Addr) (ks:List Int),vs=[V.ref a]∧H a=some (setHO b a ks)∧ks.length≤sizeLine ∧
 ∀(ns':List Int) (p:Addr),ns'.Perm ks→ns'.Pairwise (·≤·)→H p=none→Q (.ref p) (upd H p (.lst (ns'.map V.int)))
theorem cr_sortedSet (hc:X.calm=true):CallR X (.builtin "sorted") (rSortedSet (!byT X.w)):=by
 intro pins s σ H vs us Q I r h
 obtain⟨a,ks,rfl,ha,hz,q⟩:=h
 rw[Vals.ref1 r]
 obtain⟨S,_⟩:=I.hok a _ ha
 refine sorted_is (I.ok.hd hc) S hz fun s' l out ns c a1 a2 a3 g1 g2 kp hle hl=>?_
 have hlen:(ns.map V.int).length≤sizeLine:=by rw[List.length_map,a2.length_eq];exact hz
 have I':Inv X pins σ (upd H l (.lst (ns.map V.int))) {s with heap:=s'.heap,toks:=s'.toks}:=I.laid kp hle ⟨hlen,out,c,vals_of_ints a1,hl⟩
 refine⟨.ref l,upd H l (.lst (ns.map V.int)),?_,rfl,q ns l a2 a3 (I.hok.fresh hle)⟩
 exact⟨I'.ok,g2.trans I'.os,g1 ▸ I'.bare,I'.base,I'.loc,I'.cell,I'.free,I'.freeC,I'.pin,I'.hok,I'.len⟩
end
end L2
namespace L2
open PySem PySem.Spec PyProof.Rows
def hide (g:Addr) (H:Hp):Hp:=fun b=>if b=g then none else H b
theorem hide_same {g:Addr} {H:Hp}:hide g H g=none:=if_pos rfl
theorem hide_ne {g b:Addr} {H:Hp} (h:b≠g):hide g H b=H b:=if_neg h
theorem hide_some {g b:Addr} {H:Hp} {o:HO} (h:hide g H b=some o):H b=some o∧b≠g:=by
 by_cases e:b=g
 ·rw[e,hide_same] at h;cases h
 ·rw[hide_ne e] at h;exact⟨h,e⟩
section
variable {P : Program} {w : World}
theorem objOk_swap {H H':Hp} {h:Heap} (k:∀b o,H b=some o→(∀xs,o≠.lst xs)→H' b=some o) {o:HO} {a:Addr} (x:ObjOk P w H h a o):ObjOk P w H' h a o :=
 x.stay (fun _ _ _ e=>e) (fun b e=>k b _ e (by intro xs z;cases z)) fun b xs e=>k b _ e (by intro xs z;cases z)
end
def spHide (sp:Sp):Sp:=fun vs H Q E=>∃(g:Addr) (xs:List V),H g=some (.lst xs)∧sp vs (hide g H) (fun v H'=>H' g=none→Q v (upd H' g (.lst xs))) E
theorem FnOk.hidden {P:Program} {w:World} {K:PySem.W.Frag} {mg:Str→Option Value} {base:Heap} {k:Nat} {f:Addr} {fd:FuncData} {ps:List Str} {sp:Sp} (F:FnOk P w K mg base CX0 k f fd ps sp):FnOk P w K mg base CX0 k f fd ps (spHide sp):=by
 refine⟨fun vs H Q E ⟨g,xs,_,q⟩=>F.len _ _ _ _ q,fun A outer s H args us vs Q E hr he hb hv ⟨g,xs,hg,q⟩=>?_⟩
 have sw:∀b o,H b=some o→(∀xs,o≠.lst xs)→hide g H b=some o:=fun b o e ho=>by
  rw[hide_ne];exact e
  intro z;rw[z,hg] at e;exact ho _ (Option.some.inj e).symm
 have he':Env0 P w K mg base A outer s (hide g H):=by
  refine⟨he.frames,he.mod,fun b o e=>⟨(he.bs b o e).1,?_⟩,he.bsz,he.funs,fun b hb=>?_,fun a o e=>?_,he.bare⟩
  ·by_cases z:b=g
   ·rw[z];exact hide_same
   ·rw[hide_ne z];exact (he.bs b o e).2
  ·by_cases z:b=g
   ·rw[z];exact hide_same
   ·rw[hide_ne z];exact he.frf b hb
  ·exact objOk_swap sw (he.hok a o (hide_some e).1)
 refine codeAny_mono (F.run A outer s (hide g H) args us vs _ E hr he' hb hv q) fun r s' hq=>?_
 cases r with
 |error e=>exact hq
 |ok fl =>
  cases fl with
  |next=>exact hq
  |brk=>exact hq
  |cont=>exact hq
  |ret u =>
   obtain⟨v,H',os,bare,un,hok,rv,qq⟩:=hq
   obtain⟨hx,its,n,hv2,hgo⟩:=he.hok g _ hg
   have gfr:g∉frs outer:=fun z=>by rw[he.frf g z] at hg;cases hg
   have hgo':=un.keep g _ hgo hide_same gfr (by simp)
   have hgn:=un.free g _ hgo hide_same (by simp)
   refine⟨v,upd H' g (.lst xs),os,bare,?_,?_,rv,qq hgn⟩
   ·refine⟨fun b o e hn hb hx=>?_,fun b o e hn hb hx=>?_,fun b o e hn hx=>?_,un.there,fun b ys e=>?_,fun b o u e=>?_,fun b ps e=>?_⟩
    ·have z:b≠g:=fun z=>by rw[z,hg] at hn;cases hn
     exact un.keep b o e (by rw[hide_ne z];exact hn) hb hx
    ·have z:b≠g:=fun z=>by rw[z,hg] at hn;cases hn
     exact un.slot b o e (by rw[hide_ne z];exact hn) hb hx
    ·have z:b≠g:=fun z=>by rw[z,hg] at hn;cases hn
     rw[upd_ne z]
     exact un.free b o e (by rw[hide_ne z];exact hn) hx
    ·have e':=un.tups b ys (sw b _ e (by intro xs z;cases z))
     rw[upd_ne (ne_of_none e' hgn)];exact e'
    ·have e':=un.frzs b o u (sw b _ e (by intro xs z;cases z))
     rw[upd_ne (ne_of_none e' hgn)];exact e'
    ·obtain⟨more,e'⟩:=un.tbls b ps (sw b _ e (by intro xs z;cases z))
     exact⟨more,by rw[upd_ne (ne_of_none e' hgn)];exact e'⟩
   ·intro a o e
    by_cases z:a=g
    ·subst z
     rw[upd_same] at e
     cases e
     exact⟨hx,its,n,hv2,hgo'⟩
    ·rw[upd_ne z] at e
     exact objOk_swap (fun b o' e' _=>by rw[upd_ne (ne_of_none e' hgn)];exact e') (hok a o e)
theorem CalleeA.hidden {P:Program} {w:World} {K:PySem.W.Frag} {mg:Str→Option Value} {base:Heap} {k:Nat} {f:Addr} {ps:List Str} {sp:Sp} (C:CalleeA P w K mg base k f ps sp):CalleeA P w K mg base k f ps (spHide sp):=by
 obtain⟨fd,F,a,b⟩:=C.ex
 exact⟨fd,F.hidden,a,b⟩
end L2
namespace Bi
open PySem PySem.Spec PyProof.Rows L2 BM
variable {P:Program} {w:World} {K:PySem.W.Frag} {mg:Str→Option Value} {base:Heap} {C CF:Addr}
open BindNs (things size)
def top (i:Nat):Stmt:=PySem.Challenge.pw_loosesets_s01_answers.main.body.getD i (.Pass ⟨0,0,0,0⟩)
abbrev sMembers:Stmt:=top 1
abbrev sSize:Stmt:=top 2
structure Names (mg:Str→Option Value):Prop where
 range:mg "range"=none
 len:mg "len"=none
 max:mg "max"=none
 min:mg "min"=none
 any:mg "any"=none
 all:mg "all"=none
 sorted:mg "sorted"=none
 set:mg "set"=none
 list:mg "list"=none
def nV (n:Nat):V:=.int n
def natsV (l:List Nat):List V:=l.map nV
def spMembers:Sp:=fun vs H Q _=>∃s:Nat,vs=[nV s]∧s<256∧∀(H':Hp) (p:Addr),Same H H'→H p=none→H' p=some (.lst (natsV (things s)))→Q (.ref p) H'
theorem bits_eq:∀s:Nat,s<256→(List.range (Builtin.Int.intBits (s:Int))).filter s.testBit=things s:=by decide +kernel
theorem bits_le:∀s:Nat,s<256→Builtin.Int.intBits (s:Int)≤8:=by decide +kernel
theorem band_nat (a b:Nat):Builtin.bitAnd (a:Int) (b:Int)=((a&&&b:Nat):Int):=by
 rfl
theorem shr_nat (s i:Nat):(s:Int) / 2^i=((s>>>i:Nat):Int):=by
 rw[Nat.shiftRight_eq_div_pow]
 push_cast
 rfl
theorem shr_and {s i:Nat}:decide (V.int (Builtin.bitAnd ((s:Int) / 2^((0:Int)+(i:Int)).toNat) 1)=V.int 1)=s.testBit i:=by
 rw[Int.zero_add,Int.toNat_natCast,shr_nat]
 have e:=band_nat (s>>>i) 1
 rw[show ((1:Nat):Int)=1 from rfl] at e
 rw[e,dec_int]
 unfold Nat.testBit
 rw[Nat.and_comm]
 have h1:1&&&s>>>i=0∨1&&&s>>>i=1:=by
  rw[Nat.one_and_eq_mod_two]
  omega
 rcases h1 with h|h<;>rw[h]<;>rfl
theorem scMembers:FnScope ["s","thing"] ["s"] (defScope sMembers):=⟨rfl,rfl,rfl,by decide +kernel,rfl,by decide +kernel,by decide +kernel⟩
theorem ok_members {f:Addr} {fd:FuncData} (F:Fun K "members" "members" sMembers f fd) (T:Names mg):FnOk P w K mg base CX0 1 f fd ["s"] spMembers:=by
 refine F.ok scMembers (fun vs H Q E h=>?_) (fun cdv A outer s H vs Q E hr h=>?_)
 ·obtain⟨s,rfl,_⟩:=h
  rfl
 ·obtain⟨s,rfl,hs,k⟩:=h
  refine⟨_,pss_one (ps_ret (pe_lc (own:=[("thing",1)]) rfl scMembers.nd (pi_range1 rfl T.range (pa_cons (pe_bm0 PySem.F.plainAttrs_int PySem.F.slot_int_bit_length PySem.F.type_int_bit_length mt_bitlen (pv 0)) pa_nil)) (blkOk_by (N:=["s","thing"]) (sc:=defScope sMembers) (by decide +kernel))
   (fun s H C cl fp=>pg_name (i:=1) scMembers.nd rfl (Or.inl rfl)) (fun s H C cl fp=>pts_one (pt_cmpR op_eq (pe_op op_and (pe_op op_shr (pv 0) (pv 1)) pe_int) pe_int (nomark _))) (fun s H C cl fp=>pv 1))),?_⟩
  refine⟨_,rfl,rfl,_,rfl,rfl,_,rfl,?_,?_,?_⟩
  ·omega
  ·have:=bits_le s hs;omega
  ·refine lcR (fun i=>s.testBit i) (fun i=>nV i) (by have:=bits_le s hs;omega) (fun i H' R S hi hs' h1 h2=>?_) (fun D H' s1 hD e=>?_)
   ·refine⟨rfl,_,rfl,_,rfl,_,_,rfl,rfl,(by omega),_,_,rfl,rfl,rfl,_,rfl,?_⟩
    rw[shr_and]
    cases hb:s.testBit i with
    |true=>exact iteT ⟨_,rfl,by have:=h1 hb H' (Same.refl _);rw[show V.int (0+(i:Int))=nV i by unfold nV;rw[Int.zero_add]];exact this⟩
    |false=>exact iteF (h2 hb H' (Same.refl _))
   ·refine k H' D s1 hD ?_
    rw[e]
    show some (HO.lst (((List.range (Int.toNat (Builtin.Int.intBits (s:Int):Nat))).filter fun i=>s.testBit i).map fun i=>nV i))=_
    rw[Int.toNat_natCast,bits_eq s hs]
    rfl
theorem callee_of {x:Str} {st:Stmt} {f:Addr} {fd:FuncData} {ps:List Str} {k:Nat} {sp:Sp} (F:Fun K x x st f fd) (G:FnOk P w K mg base CX0 k f fd ps sp) (hm:mg x=some (.ref f)) (hb:Binds K fd ps []):Callee P w K mg base k x ps sp:=⟨f,fd,G,hm,F.kp,hb⟩
def spSize:Sp:=fun vs H Q _=>∃s:Nat,vs=[nV s]∧s<256∧∀H':Hp,Same H H'→Q (nV (size s)) H'
theorem scSize:FnScope ["s"] ["s"] (defScope sSize):=⟨rfl,rfl,rfl,by decide +kernel,rfl,by decide +kernel,by decide +kernel⟩
theorem ok_size {f:Addr} {fd:FuncData} (F:Fun K "size" "size" sSize f fd) (T:Names mg) (C1:Callee P w K mg base 1 "members" ["s"] spMembers):FnOk P w K mg base CX0 2 f fd ["s"] spSize:=by
 refine F.ok scSize (fun vs H Q E h=>?_) (fun cdv A outer s H vs Q E hr h=>?_)
 ·obtain⟨s,rfl,_⟩:=h
  rfl
 ·obtain⟨s,rfl,hs,k⟩:=h
  refine⟨_,pss_one (ps_ret (pe_callB call_len_seq rfl T.len PySem.boot_len (pa_cons (pcall C1 hr rfl (pa_cons (pv 0) pa_nil)) pa_nil))),?_⟩
  refine⟨_,rfl,s,rfl,hs,fun H' p s1 _ e=>⟨p,_,rfl,.inl (SqL.of e),?_⟩⟩
  have:=k H' s1
  unfold natsV
  rw[List.length_map]
  exact this
open BindNs (things size Bond)
abbrev sBInit:Stmt:=inClass (top 4) 0
abbrev sNothing:Stmt:=top 5
abbrev sOfLoose:Stmt:=top 6
abbrev sOfSize:Stmt:=top 7
abbrev sWhole:Stmt:=top 8
abbrev sRank:Stmt:=top 9
abbrev sClosure:Stmt:=top 11
abbrev sIsLoose:Stmt:=top 12
theorem bo_sorted:bootBuiltins "sorted"=some (.builtin "sorted"):=by decide +kernel
theorem bo_max:bootBuiltins "max"=some (.builtin "max"):=by decide +kernel
theorem bo_min:bootBuiltins "min"=some (.builtin "min"):=by decide +kernel
theorem bo_any:bootBuiltins "any"=some (.builtin "any"):=by decide +kernel
theorem bo_all:bootBuiltins "all"=some (.builtin "all"):=by decide +kernel
theorem bo_set:bootBuiltins "set"=some (.type "set"):=by decide +kernel
theorem bo_list:bootBuiltins "list"=some (.type "list"):=by decide +kernel
theorem bo_range:bootBuiltins "range"=some (.type "range"):=by decide +kernel
theorem sql_upd {K:PySem.W.Frag} {H:Hp} {l p C dx:Addr} {fs:List (Str×V)} {xs:List V} {o:HO} (h:SqL K H l xs) (hp:H p=some (.ins C dx fs)):SqL K (upd H p o) l xs:=by
 rcases h with (h|⟨u,h⟩)|h
 ·exact .inl (.inl (by rw[upd_ne (ne_of h hp (by intro z;cases z))];exact h))
 ·exact .inl (.inr ⟨u,by rw[upd_ne (ne_of h hp (by intro z;cases z))];exact h⟩)
 ·exact .inr h
def bf (n:Nat) (l:Addr):List (Str×V):=putF "bases" (.ref l) (putF "things" (nV n) [])
theorem bf_things (n:Nat) (l:Addr):(bf n l).lookup ("things":Str)=some (nV n):=by
 unfold bf
 rw[lookup_putF,if_neg (by decide),lookup_putF,if_pos rfl]
theorem bf_bases (n:Nat) (l:Addr):(bf n l).lookup ("bases":Str)=some (.ref l):=by
 unfold bf
 rw[lookup_putF,if_pos rfl]
def BondAt (C:Addr) (H:Hp) (a:Addr) (m:Bond):Prop:=∃dx l,H a=some (.ins C dx (bf m.n l))∧H l=some (.lst (natsV m.bases))
theorem BondAt.same {C:Addr} {H H':Hp} {a:Addr} {m:Bond} (s:Same H H') (h:BondAt C H a m):BondAt C H' a m:=by
 obtain⟨dx,l,h1,h2⟩:=h
 exact⟨dx,l,s _ _ h1,s _ _ h2⟩
structure BCls (K:PySem.W.Frag) (mg:Str→Option Value) (C:Addr):Prop where
 cl:Cls K C
 nT:NoAttr K C "things"
 nB:NoAttr K C "bases"
 mgC:mg "Bond"=some (.ref C)
theorem natsV_ints (bs:List Nat):natsV bs=(bs.map fun (n:Nat)=>(n:Int)).map V.int:=by unfold natsV;rw[List.map_map];rfl
def spBInit (K:PySem.W.Frag) (C:Addr):Sp:=fun vs H Q _=>∃(p dx l:Addr) (n:Nat) (bs:List Nat),vs=[.ref p,nV n,.ref l]∧H p=some (.ins C dx [])∧SqL K H l (natsV bs)∧(∀s,s∈bs→s<256) ∧
 ∀(H':Hp) (l':Addr) (bs':List Nat),(∀x,x∈bs'↔x∈bs)→bs'.Pairwise (·<·)→H' p=some (.ins C dx (bf n l'))→H' l'=some (.lst (natsV bs'))→(∀b o,H b=some o→b≠p→H' b=some o)→Q .non H'
theorem scBInit:FnScope ["self","things","bases"] ["self","things","bases"] (defScope sBInit):=⟨rfl,rfl,rfl,by decide +kernel,rfl,by decide +kernel,by decide +kernel⟩
theorem sorted_nats {bs:List Nat} {ns':List Int} (pm:ns'.Perm (StW.once (bs.map fun (n:Nat)=>(n:Int)))) (pw:ns'.Pairwise (·≤·)):∃bs':List Nat,ns'=bs'.map (fun (n:Nat)=>(n:Int))∧bs'.Pairwise (·<·)∧∀x,x∈bs'↔x∈bs:=by
 have hmem:∀x,x∈ns'↔x∈bs.map fun (n:Nat)=>(n:Int):=fun x=>by
  rw[pm.mem_iff]
  unfold StW.once
  rw[StW.once_mem]
  simp
 have hnd:ns'.Nodup:=pm.nodup_iff.mpr (StW.once_nd _ [] List.nodup_nil)
 obtain⟨bs',hbs⟩:∃bs':List Nat,ns'=bs'.map fun (n:Nat)=>(n:Int):=by
  refine⟨ns'.map Int.toNat,?_⟩
  rw[List.map_map]
  refine (List.map_id ns').symm.trans (List.map_congr_left fun z hz=>?_)
  obtain⟨n,_,rfl⟩:=List.mem_map.mp ((hmem z).mp hz)
  rfl
 refine⟨bs',hbs,?_,fun x=>?_⟩
 ·rw[hbs] at hnd pw
  have h1:=(List.pairwise_map.mp pw).and (List.pairwise_map.mp hnd)
  exact h1.imp fun h=>by have:=h.1;have:=h.2;omega
 ·have:=hmem (x:Int)
  rw[hbs,List.mem_map,List.mem_map] at this
  constructor
  ·intro hx
   obtain⟨y,hy,e⟩:=this.mp ⟨x,hx,rfl⟩
   have:y=x:=by omega
   exact this ▸ hy
  ·intro hx
   obtain⟨y,hy,e⟩:=this.mpr ⟨x,hx,rfl⟩
   have:y=x:=by omega
   exact this ▸ hy
theorem once_fit {bs:List Nat} (h:∀s,s∈bs→s<256):(StW.once (bs.map fun (n:Nat)=>(n:Int))).length≤sizeLine:=by
 have:=StW.once_256 h bs.length
 rw[List.take_of_length_le (by rw[List.length_map];exact Nat.le_refl _)] at this
 exact Nat.le_trans this (by decide)
theorem ok_binit {f:Addr} {fd:FuncData} (F:Fun K "__init__" "Bond.__init__" sBInit f fd) (T:Names mg) (B:BCls K mg C):FnOk P w K mg base CX0 1 f fd ["self","things","bases"] (spBInit K C):=by
 refine F.ok scBInit (fun vs H Q E h=>?_) (fun cdv A outer s H vs Q E hr h=>?_)
 ·obtain⟨p,dx,l,n,bs,rfl,_⟩:=h
  rfl
 ·obtain⟨p,dx,l,n,bs,rfl,hp,hl,hz,k⟩:=h
  refine⟨_,pss_cons (ps_fld (pv 0) (pv 1) rfl) (pss_one (ps_fld (pv 0) (pe_callB (cr_sortedSet rfl) rfl T.sorted bo_sorted (pa_cons (pe_callTy (call_set rfl) rfl T.set bo_set (pa_cons (pv 2) pa_nil)) pa_nil)) rfl)),?_⟩
  refine⟨_,rfl,_,rfl,p,C,dx,_,rfl,hp,B.cl,B.nT,(by show 0<1000;decide),?_⟩
  refine⟨_,rfl,l,bs.map (fun (n:Nat)=>(n:Int)),rfl,by rw[←natsV_ints];exact sql_upd hl hp,fun i=>Nat.le_trans (StW.once_256 hz i) (by decide),fun p5 hp5=>?_⟩
  refine⟨p5,_,rfl,upd_same,once_fit hz,fun ns' q pm pw hq=>?_⟩
  obtain⟨bs',rfl,pw',pm'⟩:=sorted_nats pm pw
  have hpp:p≠p5:=ne_of_none (H:=upd H p _) upd_same hp5
  have hqp:p≠q:=fun z=>by rw[←z,upd_ne hpp,upd_same] at hq;cases hq
  have hq5:q≠p5:=fun z=>by rw[z,upd_same] at hq;cases hq
  have hq0:H q=none:=by rw[←hq,upd_ne hq5,upd_ne hqp.symm]
  have h50:H p5=none:=by rw[←hp5,upd_ne hpp.symm]
  refine⟨_,rfl,p,C,dx,_,rfl,by rw[upd_ne hqp,upd_ne hpp];exact upd_same,B.cl,B.nB,(by show 1<1000;decide),?_⟩
  refine k _ q bs' pm' pw' upd_same ?_ fun b o e hb=>?_
  ·rw[upd_ne hqp.symm,upd_same,natsV_ints]
  ·rw[upd_ne hb,upd_ne (ne_of_none e hq0),upd_ne (ne_of_none e h50),upd_ne hb];exact e
theorem made_bond {H1:Hp} {l:Addr} {n:Nat} {bs:List Nat} {Q:VK} (hl:SqL K H1 l (natsV bs)) (hz:∀s,s∈bs→s<256)
  (k:∀(H':Hp) (a:Addr) (bs':List Nat),(∀x,x∈bs'↔x∈bs)→bs'.Pairwise (·<·)→Same H1 H'→H1 a=none→BondAt C H' a ⟨n,bs'⟩→Q (.ref a) H') :
  ∀x dx,H1 x=none→H1 dx=none→dx≠x→spBInit K C (.ref x::([nV n,.ref l]++[])) (upd (upd H1 dx (.own x)) x (.ins C dx [])) (fun v H2=>v=.non∧Q (.ref x) H2) E0:=by
 intro x dx hx hdx hne
 have sm:Same H1 (upd (upd H1 dx (.own x)) x (.ins C dx [])):=fun b o e=>by rw[upd_ne (ne_of_none e hx),upd_ne (ne_of_none e hdx)];exact e
 refine⟨x,dx,l,n,bs,rfl,upd_same,sm.seq hl,hz,fun H' l' bs' pm pw h1 h2 kp=>⟨rfl,k H' x bs' pm pw (Same.made hx hdx kp) hx ⟨dx,l',h1,h2⟩⟩⟩
theorem rise_perm {bs bs':List Nat} (h:bs.Pairwise (·<·)) (pm:∀x,x∈bs'↔x∈bs) (pw:bs'.Pairwise (·<·)):bs'=bs:=rise_ext pw h pm
theorem weaken {k:Nat} {f:Addr} {fd:FuncData} {ps:List Str} {sp sp':Sp} (F:FnOk P w K mg base CX0 k f fd ps sp) (h:∀vs H Q E,sp' vs H Q E→sp vs H Q E):FnOk P w K mg base CX0 k f fd ps sp' :=
 ⟨fun vs H Q E q=>F.len _ _ _ _ (h _ _ _ _ q),fun A outer s H args us vs Q E hr he hb hv q=>F.run A outer s H args us vs Q E hr he hb hv (h _ _ _ _ q)⟩
def spNothing (C:Addr):Sp:=fun vs H Q _=>vs=[]∧∀(H':Hp) (a:Addr),Same H H'→H a=none→BondAt C H' a BindNs.empty→Q (.ref a) H'
theorem scNothing:FnScope [] [] (defScope sNothing):=⟨rfl,rfl,rfl,by decide +kernel,rfl,by decide +kernel,by decide +kernel⟩
theorem ok_nothing {f fI:Addr} {fd fdI:FuncData} (F:Fun K "bond_of_nothing" "bond_of_nothing" sNothing f fd) (B:BCls K mg C) (M:Mk K C fI) (GI:FnOk P w K mg base CX0 1 fI fdI ["self","things","bases"] (spBInit K C)) (bI:Binds K fdI ["self","things","bases"] []) :
  FnOk P w K mg base CX0 3 f fd [] (spNothing C):=by
 refine F.ok scNothing (fun vs H Q E h=>?_) (fun cdv A outer s H vs Q E hr h=>?_)
 ·obtain⟨rfl,_⟩:=h
  rfl
 ·obtain⟨rfl,k⟩:=h
  refine⟨_,pss_one (ps_ret (pe_make M GI hr rfl B.mgC bI .nil pass0 (pa_cons pe_int (pa_cons (pe_lst (pa_cons pe_int pa_nil)) pa_nil)))),?_⟩
  refine⟨by show 1≤sizeLine;decide,fun l hl=>?_⟩
  refine made_bond (n:=0) (bs:=[0]) (SqL.of upd_same) (fun s hs=>by rw[List.mem_singleton.mp hs];decide) fun H' a bs' pm pw s1 ha hb=>?_
  have e:bs'=[0]:=rise_perm (by decide) pm pw
  subst e
  exact k H' a ((same_new hl).trans s1) ((same_new hl).free ha) hb
def onN (g:Nat→V):V→V
 |.int i=>g i.toNat
 |x=>x
def testN (p:Nat→Bool):V→Bool
 |.int i=>p i.toNat
 |_=>false
theorem filter_natsV (p:Nat→Bool) (L:List Nat):(natsV L).filter (testN p)=natsV (L.filter p):=by
 unfold natsV
 rw[List.filter_map]
 rfl
theorem map_natsV (g:Nat→V) (L:List Nat):(natsV L).map (onN g)=L.map g:=by
 unfold natsV
 rw[List.map_map]
 rfl
theorem lcN {K:PySem.W.Frag} {a:Addr} {L:List Nat} {g:TG} {tt:TT} {te:TE} {vs:List Nat} {σ:L2.St} {H1:Hp} {Q:VK} (p:Nat→Bool) (f:Nat→V) (hn:L.length≤100000) (ha:SqL K H1 a (natsV L))
  (hs:∀x H' (R:V→Hp→Prop) (S:Hp→Prop),x∈L→Same H1 H'→(p x=true→∀H4,Same H' H4→R (f x) H4)→(p x=false→∀H4,Same H' H4→S H4) →
   g (nV x) (wipe σ vs) H' fun σ2 H2=>wipe σ2 vs=wipe σ vs∧tt σ2 H2 fun b H3=>if b=true then te σ2 H3 R else S H3)
  (hd:∀D H',Same H1 H'→H1 D=none→H' D=some (.lst ((L.filter p).map f))→Q (.ref D) H'):∀D,H1 D=none →
  ∃W:Nat→Nat→Hp→Prop,(∃m,W 0 m (upd H1 D (.lst [])))∧∀i m H,W i m H →
   ((Itl K a).stop i H∧Q (.ref D) H)∨((Itl K a).go i H∧∃Nx:Hp→Prop,(∀H',Nx H'→∃m',m'<m∧W (i+1) m' H')∧∀x H',(Itl K a).yld i H x H'→g x (wipe σ vs) H' fun σ2 H2=>wipe σ2 vs=wipe σ vs∧tt σ2 H2 fun b H3 =>
    if b=true then te σ2 H3 fun y H4=>∃acc,H4 D=some (.lst acc)∧acc.length<sizeLine∧Nx (upd H4 D (.lst (acc++[y]))) else Nx H3):=by
 refine lcL (testN p) (onN f) (by unfold natsV;rw[List.length_map];exact hn) ha (fun x H' R S hx s1 h1 h2=>?_) (fun D H' s1 hD e=>hd D H' s1 hD ?_)
 ·obtain⟨n,hn',rfl⟩:=List.mem_map.mp hx
  exact hs n H' R S hn' s1 h1 h2
 ·rw[e,filter_natsV,map_natsV]
theorem lcNg {K:PySem.W.Frag} {L:List Nat} {tl:TE} {g:TG} {tt:TT} {te:TE} {vs:List Nat} {σ:L2.St} {H:Hp} {Q:VK} (p:Nat→Bool) (f:Nat→V) (hn:L.length≤100000) (htl:∀R:VK,(∀H1 a,Same H H1→SqL K H1 a (natsV L)→R (.ref a) H1)→tl σ H R)
  (hs:∀x H' (R:V→Hp→Prop) (S:Hp→Prop),x∈L→Same H H'→(p x=true→∀H4,Same H' H4→R (f x) H4)→(p x=false→∀H4,Same H' H4→S H4) →
   g (nV x) (wipe σ vs) H' fun σ2 H2=>wipe σ2 vs=wipe σ vs∧tt σ2 H2 fun b H3=>if b=true then te σ2 H3 R else S H3)
  (hd:∀D H',Same H H'→H D=none→H' D=some (.lst ((L.filter p).map f))→Q (.ref D) H'):tLc (iList K tl) g tt te vs σ H Q:=by
 refine htl _ fun H1 a s1 ha=>⟨a,rfl,⟨_,ha⟩,?_⟩
 exact lcN (Q:=Q) p f hn ha (fun x H' R S hx s2=>hs x H' R S hx (s1.trans s2)) fun D H' s2 hD e=>hd D H' (s1.trans s2) (s1.free hD) e
theorem lcRg {n:Nat} {ta:TA} {g:TG} {tt:TT} {te:TE} {vs:List Nat} {σ:L2.St} {H:Hp} {Q:VK} (p:Nat→Bool) (f:Nat→V) (hn:n≤100000) (hta:∀R:List V→Hp→Prop,(∀H1,Same H H1→R [nV n] H1)→ta σ H R)
  (hs:∀i H' (R:V→Hp→Prop) (S:Hp→Prop),i<n→Same H H'→(p i=true→∀H4,Same H' H4→R (f i) H4)→(p i=false→∀H4,Same H' H4→S H4) →
   g (nV i) (wipe σ vs) H' fun σ2 H2=>wipe σ2 vs=wipe σ vs∧tt σ2 H2 fun b H3=>if b=true then te σ2 H3 R else S H3)
  (hd:∀D H',Same H H'→H D=none→H' D=some (.lst (((List.range n).filter p).map f))→Q (.ref D) H'):tLc (iRng1 ta) g tt te vs σ H Q:=by
 refine hta _ fun H1 s1=>⟨(n:Int),rfl,by omega,by omega,?_⟩
 rw[Int.toNat_natCast]
 exact lcR (Q:=Q) p f hn (fun i H' R S hi s2 a1 a2=>by
  have:=hs i H' R S hi (s1.trans s2) a1 a2
  rw[Int.zero_add]
  exact this) fun D H' s2 hD e=>hd D H' (s1.trans s2) (s1.free hD) e
theorem tl_var {K:PySem.W.Frag} {L:List Nat} {i:Nat} {a:Addr} {σ:L2.St} {H:Hp} (hv:σ[i]?=some (some (.ref a))) (ha:SqL K H a (natsV L)):∀R:VK,(∀H1 a,Same H H1→SqL K H1 a (natsV L)→R (.ref a) H1)→tVar i σ H R:=fun R h=>⟨_,hv,h H a (Same.refl _) ha⟩
theorem nmax {l:List Nat} {m:Int} (hm:m∈l.map fun (n:Nat)=>(n:Int)) (h:∀y,y∈l.map (fun (n:Nat)=>(n:Int))→y≤m):m=((l.foldl max 0:Nat):Int):=by
 obtain⟨n,hn,rfl⟩:=List.mem_map.mp hm
 have:l.foldl max 0=n:=max_is hn fun y hy=>Int.ofNat_le.mp (h y (List.mem_map.mpr ⟨y,hy,rfl⟩))
 rw[this]
theorem dec_nV (a b:Nat):decide (nV a=nV b)=(a==b):=by
 unfold nV
 rw[dec_int]
 by_cases h:a=b
 ·subst h;simp
 ·have:¬(a:Int)=(b:Int):=fun q=>h (Int.ofNat.inj q)
  rw[beq_eq_false_iff_ne.mpr h,beq_eq_false_iff_ne.mpr this]
def mostOf (L:List Nat):Nat:=(L.map size).foldl max 0
def spOfLooseG (K:PySem.W.Frag) (C:Addr):Sp:=fun vs H Q _=>∃(n:Nat) (l:Addr) (L:List Nat),vs=[nV n,.ref l]∧SqL K H l (natsV L)∧L≠[]∧(∀s,s∈L→s<256)∧L.length≤1000 ∧
 ∀(H':Hp) (a:Addr) (bs:List Nat),(∀x,x∈bs↔x∈L∧size x=mostOf L)→bs.Pairwise (·<·)→Same H H'→H a=none→BondAt C H' a ⟨n,bs⟩→Q (.ref a) H'
def spOfLoose (K:PySem.W.Frag) (C:Addr):Sp:=fun vs H Q _=>∃(n:Nat) (l:Addr) (L:List Nat),vs=[nV n,.ref l]∧SqL K H l (natsV L)∧L≠[]∧(∀s,s∈L→s<256)∧L.length≤1000∧L.Pairwise (·<·) ∧
 ∀(H':Hp) (a:Addr),Same H H'→H a=none→BondAt C H' a ⟨n,L.filter fun s=>size s==mostOf L⟩→Q (.ref a) H'
theorem ofLoose_G {vs:List V} {H:Hp} {Q:VK} {E:XK} (h:spOfLoose K C vs H Q E):spOfLooseG K C vs H Q E:=by
 obtain⟨n,l,L,h1,h2,h3,h4,h5,h6,k⟩:=h
 refine⟨n,l,L,h1,h2,h3,h4,h5,fun H' a bs pm pw s1 ha hb=>k H' a s1 ha ?_⟩
 have e:bs=L.filter fun s=>size s==mostOf L:=rise_perm (h6.filter _) (fun x=>by rw[pm x,List.mem_filter,beq_iff_eq]) pw
 rw[←e]
 exact hb
theorem scOfLoose:FnScope ["things","loose","most","s"] ["things","loose"] (defScope sOfLoose):=⟨rfl,rfl,rfl,by decide +kernel,rfl,by decide +kernel,by decide +kernel⟩
theorem ok_ofLoose {f fI:Addr} {fd fdI:FuncData} (F:Fun K "bond_of_loose" "bond_of_loose" sOfLoose f fd) (T:Names mg) (B:BCls K mg C) (M:Mk K C fI) (GI:FnOk P w K mg base CX0 1 fI fdI ["self","things","bases"] (spBInit K C)) (bI:Binds K fdI ["self","things","bases"] [])
  (C1:Callee P w K mg base 2 "size" ["s"] spSize):FnOk P w K mg base CX0 3 f fd ["things","loose"] (spOfLooseG K C):=by
 refine F.ok scOfLoose (fun vs H Q E h=>?_) (fun cdv A outer s H vs Q E hr h=>?_)
 ·obtain⟨n,l,L,rfl,_⟩:=h
  rfl
 ·obtain⟨n,l,L,rfl,hl,hne,h8,hz,k⟩:=h
  refine⟨_,pss_cons (ps_set (i:=2) scOfLoose.nd rfl (Or.inr rfl) (pe_callB (cr_max rfl) rfl T.max bo_max (pa_cons
    (pe_lc (own:=[("s",3)]) rfl scOfLoose.nd (pi_list (pv 1)) (blkOk_by (N:=["things","loose","most","s"]) (sc:=defScope sOfLoose) (by decide +kernel)) (fun s H C cl fp=>pg_name (i:=3) scOfLoose.nd rfl (Or.inl rfl)) (fun s H C cl fp=>pts_nil)
     (fun s H C cl fp=>pcall C1 hr rfl (pa_cons (pv 3) pa_nil))) pa_nil)))
   (pss_one (ps_ret (pe_make M GI hr rfl B.mgC bI .nil pass0 (pa_cons (pv 0) (pa_cons
    (pe_lc (own:=[("s",3)]) rfl scOfLoose.nd (pi_list (pv 1)) (blkOk_by (N:=["things","loose","most","s"]) (sc:=defScope sOfLoose) (by decide +kernel)) (fun s H C cl fp=>pg_name (i:=3) scOfLoose.nd rfl (Or.inl rfl))
     (fun s H C cl fp=>pts_one (pt_cmpR op_eq (pcall C1 hr rfl (pa_cons (pv 3) pa_nil)) (pv 2) (nomark _))) (fun s H C cl fp=>pv 3)) pa_nil))))),?_⟩
  dsimp only [tSeq,tAsg,tCB,tCons,tNil]
  refine lcNg (L:=L) (fun _=>true) (fun x=>nV (size x)) (by omega) (by exact tl_var rfl hl) (fun x H' R S hx s1 h1 h2=>?_) (fun D H1 s1 hD e1=>?_)
  ·exact⟨rfl,iteT (B:=S H') ⟨_,rfl,x,rfl,h8 x hx,fun H4 s4=>h1 rfl H4 s4⟩⟩
  ·rw[filter_true] at e1
   refine⟨D,(L.map size).map (fun (n:Nat)=>(n:Int)),rfl,SqL.of (by rw[e1,List.map_map,List.map_map];rfl),?_,fun m hm hle=>?_⟩
   ·rw[List.length_map,List.length_map];exact List.length_pos_iff.mpr hne
   ·rw[nmax hm hle]
    refine⟨_,rfl,?_⟩
    refine lcNg (L:=L) (fun s=>size s==mostOf L) (fun x=>nV x) (by omega) (by exact tl_var rfl (s1.seq hl)) (fun x H' R S hx s2 h1 h2=>?_) (fun D2 H2 s2 hD2 e2=>?_)
    ·refine⟨rfl,_,rfl,x,rfl,h8 x hx,fun H4 s4=>⟨_,rfl,rfl,_,rfl,?_⟩⟩
     rw[show decide (nV (size x)=V.int ((((L.map size).foldl max 0:Nat)):Int))=(size x==mostOf L) from dec_nV _ _]
     cases hb:size x==mostOf L with
     |true=>exact iteT ⟨_,rfl,h1 hb H4 s4⟩
     |false=>exact iteF (h2 hb H4 s4)
    ·refine made_bond (n:=n) (bs:=L.filter fun s=>size s==mostOf L) (SqL.of e2) (fun s hs=>h8 s (List.mem_filter.mp hs).1) fun H' a bs' pm pw s3 ha hb=>?_
     refine k H' a bs' (fun x=>?_) pw ((s1.trans s2).trans s3) ((s1.trans s2).free ha) hb
     rw[pm x,List.mem_filter,beq_iff_eq]
open BindNs (things size Bond sets)
theorem shl1 (n:Nat):V.int ((1:Int)*2^((n:Int)).toNat)=nV (2^n):=by
 unfold nV
 rw[Int.toNat_natCast,Int.one_mul]
 congr 1
theorem bnn (z:Int):Builtin.bitNot (Builtin.bitNot z)=z:=by unfold Builtin.bitNot;omega
theorem bor_nat (a b:Nat):Builtin.bitOr (a:Int) (b:Int)=((a|||b:Nat):Int):=by
 unfold Builtin.bitOr Builtin.bitAnd
 have h1:decide ((0:Int)≤Builtin.bitNot (a:Int))=false:=decide_eq_false (by unfold Builtin.bitNot;omega)
 have h2:decide ((0:Int)≤Builtin.bitNot (b:Int))=false:=decide_eq_false (by unfold Builtin.bitNot;omega)
 rw[h1,h2]
 dsimp only
 rw[bnn,bnn,bnn]
 rfl
theorem bxor_nat (a b:Nat):Builtin.bitXor (a:Int) (b:Int)=((a^^^b:Nat):Int):=by
 unfold Builtin.bitXor
 rw[bor_nat,band_nat]
 have hd:(a^^^b)&&&(a&&&b)=0:=Nat.eq_of_testBit_eq fun i=>by
  rw[Nat.testBit_and,Nat.testBit_and,Nat.testBit_xor,Nat.zero_testBit]
  cases a.testBit i<;>cases b.testBit i<;>rfl
 have ho:(a^^^b)|||(a&&&b)=a|||b:=Nat.eq_of_testBit_eq fun i=>by
  rw[Nat.testBit_or,Nat.testBit_and,Nat.testBit_xor,Nat.testBit_or]
  cases a.testBit i<;>cases b.testBit i<;>rfl
 have:=or_add _ _ _ (Nat.lt_succ_self _) hd
 rw[ho] at this
 omega
def spOfSize (C:Addr):Sp:=fun vs H Q _=>∃(n r:Nat),vs=[nV n,nV r]∧n≤8∧∀(H':Hp) (a:Addr),Same H H'→H a=none→BondAt C H' a ⟨n,(sets n).filter fun s=>size s==r⟩→Q (.ref a) H'
theorem scOfSize:FnScope ["things","many","s"] ["things","many"] (defScope sOfSize):=⟨rfl,rfl,rfl,by decide +kernel,rfl,by decide +kernel,by decide +kernel⟩
theorem ok_ofSize {f fI:Addr} {fd fdI:FuncData} (F:Fun K "bond_of_size" "bond_of_size" sOfSize f fd) (T:Names mg) (B:BCls K mg C) (M:Mk K C fI) (GI:FnOk P w K mg base CX0 1 fI fdI ["self","things","bases"] (spBInit K C)) (bI:Binds K fdI ["self","things","bases"] [])
  (C1:Callee P w K mg base 2 "size" ["s"] spSize):FnOk P w K mg base CX0 3 f fd ["things","many"] (spOfSize C):=by
 refine F.ok scOfSize (fun vs H Q E h=>?_) (fun cdv A outer s H vs Q E hr h=>?_)
 ·obtain⟨n,r,rfl,_⟩:=h
  rfl
 ·obtain⟨n,r,rfl,hn,k⟩:=h
  refine⟨_,pss_one (ps_ret (pe_make M GI hr rfl B.mgC bI .nil pass0 (pa_cons (pv 0) (pa_cons
    (pe_lc (own:=[("s",2)]) rfl scOfSize.nd (pi_range1 rfl T.range (pa_cons (pe_op op_shl pe_int (pv 0)) pa_nil)) (blkOk_by (N:=["things","many","s"]) (sc:=defScope sOfSize) (by decide +kernel)) (fun s H C cl fp=>pg_name (i:=2) scOfSize.nd rfl (Or.inl rfl))
     (fun s H C cl fp=>pts_one (pt_cmpR op_eq (pcall C1 hr rfl (pa_cons (pv 2) pa_nil)) (pv 1) (nomark _))) (fun s H C cl fp=>pv 2)) pa_nil)))),?_⟩
  refine⟨_,rfl,?_⟩
  have h256:=pow_le_256 hn
  refine lcRg (n:=2^n) (fun s=>size s==r) (fun x=>nV x) (by omega) (fun R hR=>?_) (fun x H' R S hx s2 h1 h2=>?_) (fun D2 H2 s2 hD2 e2=>?_)
  ·refine⟨_,rfl,_,_,rfl,rfl,⟨by omega,by omega,by decide⟩,?_⟩
   have:=hR H (Same.refl _)
   rw[←shl1] at this
   exact this
  ·refine⟨rfl,_,rfl,x,rfl,lt256 hn hx,fun H4 s4=>⟨_,rfl,rfl,_,rfl,?_⟩⟩
   rw[dec_nV]
   cases hb:size x==r with
   |true=>exact iteT ⟨_,rfl,h1 hb H4 s4⟩
   |false=>exact iteF (h2 hb H4 s4)
  ·refine made_bond (n:=n) (bs:=(sets n).filter fun s=>size s==r) (SqL.of e2) (fun s hs=>lt256 hn (mem_sets.mp (List.mem_filter.mp hs).1)) fun H' a bs' pm pw s3 ha hb=>?_
   have e:bs'=(sets n).filter fun s=>size s==r:=rise_perm ((sets_rise n).filter _) pm pw
   subst e
   exact k H' a (s2.trans s3) (s2.free ha) hb
def spWhole (C:Addr):Sp:=fun vs H Q _=>∃(a:Addr) (m:Bond),vs=[.ref a]∧BondAt C H a m∧Good m∧∀H',Same H H'→Q (nV m.whole) H'
theorem scWhole:FnScope ["bond"] ["bond"] (defScope sWhole):=⟨rfl,rfl,rfl,by decide +kernel,rfl,by decide +kernel,by decide +kernel⟩
theorem ok_whole {f:Addr} {fd:FuncData} (F:Fun K "whole_rank" "whole_rank" sWhole f fd) (B:BCls K mg C) (C1:Callee P w K mg base 2 "size" ["s"] spSize):FnOk P w K mg base CX0 3 f fd ["bond"] (spWhole C):=by
 refine F.ok scWhole (fun vs H Q E h=>?_) (fun cdv A outer s H vs Q E hr h=>?_)
 ·obtain⟨a,m,rfl,_⟩:=h
  rfl
 ·obtain⟨a,m,rfl,⟨dx,l,h1,h2⟩,g,k⟩:=h
  refine⟨_,pss_one (ps_ret (pcall C1 hr rfl (pa_cons (pe_ix ix_list (pe_fld (pv 0) rfl) pe_int (fun _ _=>rfl)) pa_nil))),?_⟩
  obtain⟨b,r,e⟩:∃b r,m.bases=b::r:=List.exists_cons_of_ne_nil g.ne
  have hb:b∈m.bases:=by rw[e];exact List.mem_cons_self
  refine⟨_,rfl,a,C,dx,_,_,rfl,h1,B.cl,B.nB,bf_bases _ _,l,_,_,_,rfl,rfl,SqL.of h2,at_of (j:=0) (v:=nV b) rfl (by unfold natsV;rw[e];rfl),b,rfl,g.lt8 hb,fun H' s1=>?_⟩
  rw[←whole_eq g hb]
  exact k H' s1
def spRank (C:Addr):Sp:=fun vs H Q _=>∃(a:Addr) (m:Bond) (s:Nat),vs=[.ref a,nV s]∧BondAt C H a m∧Good m∧s<256∧∀H',Same H H'→Q (nV (m.rank s)) H'
theorem scRank:FnScope ["bond","s","base"] ["bond","s"] (defScope sRank):=⟨rfl,rfl,rfl,by decide +kernel,rfl,by decide +kernel,by decide +kernel⟩
theorem bases_len {m:Bond} (g:Good m):m.bases.length≤256:=by
 have:m.bases=(sets m.n).filter m.bases.contains:=rise_ext g.rise ((sets_rise _).filter _) fun x=>by
  rw[List.mem_filter,mem_sets,List.contains_iff_mem]
  exact⟨fun h=>⟨g.lt x h,h⟩,fun h=>h.2⟩
 rw[this]
 refine Nat.le_trans (List.length_filter_le _ _) ?_
 rw[show (sets m.n).length=2^m.n from List.length_range]
 exact pow_le_256 g.n8
theorem ok_rank {f:Addr} {fd:FuncData} (F:Fun K "rank_of" "rank_of" sRank f fd) (T:Names mg) (B:BCls K mg C) (C1:Callee P w K mg base 2 "size" ["s"] spSize):FnOk P w K mg base CX0 3 f fd ["bond","s"] (spRank C):=by
 refine F.ok scRank (fun vs H Q E h=>?_) (fun cdv A outer s H vs Q E hr h=>?_)
 ·obtain⟨a,m,s,rfl,_⟩:=h
  rfl
 ·obtain⟨a,m,t,rfl,⟨dx,l,h1,h2⟩,g,ht,k⟩:=h
  refine⟨_,pss_one (ps_ret (pe_callB (cr_max rfl) rfl T.max bo_max (pa_cons
    (pe_lc (own:=[("base",2)]) rfl scRank.nd (pi_list (pe_fld (pv 0) rfl)) (blkOk_by (N:=["bond","s","base"]) (sc:=defScope sRank) (by decide +kernel)) (fun s H C cl fp=>pg_name (i:=2) scRank.nd rfl (Or.inl rfl)) (fun s H C cl fp=>pts_nil)
     (fun s H C cl fp=>pcall C1 hr rfl (pa_cons (pe_op op_and (pv 2) (pv 1)) pa_nil))) pa_nil))),?_⟩
  have hlen:=bases_len g
  dsimp only [tRet,tCB,tCons,tNil]
  refine lcNg (L:=m.bases) (fun _=>true) (fun b=>nV (size (b&&&t))) (by omega) (fun R hR=>⟨_,rfl,a,C,dx,_,_,rfl,h1,B.cl,B.nB,bf_bases _ _,hR H l (Same.refl _) (SqL.of h2)⟩) (fun x H' R S hx s1 a1 a2=>?_) (fun D H1 s1 hD e1=>?_)
  ·refine⟨rfl,iteT (B:=S H') ⟨_,rfl,_,rfl,_,_,rfl,rfl,x&&&t,?_,and_lt' (n:=8) ht,fun H4 s4=>a1 rfl H4 s4⟩⟩
   show [V.int (Builtin.bitAnd (x:Int) (t:Int))]++[]=_
   rw[band_nat]
   rfl
  ·rw[filter_true] at e1
   refine⟨D,(m.bases.map fun b=>size (b&&&t)).map (fun (n:Nat)=>(n:Int)),rfl,SqL.of (by rw[e1,List.map_map,List.map_map];rfl),?_,fun z hz hle=>?_⟩
   ·rw[List.length_map,List.length_map];exact List.length_pos_iff.mpr g.ne
   ·rw[nmax hz hle]
    exact k H1 s1
def spIsLoose (C:Addr):Sp:=fun vs H Q _=>∃(a:Addr) (m:Bond) (s:Nat),vs=[.ref a,nV s]∧BondAt C H a m∧Good m∧s<256∧∀H',Same H H'→Q (.bl (m.loose s)) H'
theorem scIsLoose:FnScope ["bond","s","base"] ["bond","s"] (defScope sIsLoose):=⟨rfl,rfl,rfl,by decide +kernel,rfl,by decide +kernel,by decide +kernel⟩
theorem ok_isLoose {f:Addr} {fd:FuncData} (F:Fun K "is_loose" "is_loose" sIsLoose f fd) (T:Names mg) (B:BCls K mg C):FnOk P w K mg base CX0 3 f fd ["bond","s"] (spIsLoose C):=by
 refine F.ok scIsLoose (fun vs H Q E h=>?_) (fun cdv A outer s H vs Q E hr h=>?_)
 ·obtain⟨a,m,s,rfl,_⟩:=h
  rfl
 ·obtain⟨a,m,t,rfl,⟨dx,l,h1,h2⟩,g,ht,k⟩:=h
  refine⟨_,pss_one (ps_ret (pe_callB (cr_any rfl) rfl T.any bo_any (pa_cons
    (pe_lc (own:=[("base",2)]) rfl scIsLoose.nd (pi_list (pe_fld (pv 0) rfl)) (blkOk_by (N:=["bond","s","base"]) (sc:=defScope sIsLoose) (by decide +kernel)) (fun s H C cl fp=>pg_name (i:=2) scIsLoose.nd rfl (Or.inl rfl)) (fun s H C cl fp=>pts_nil)
     (fun s H C cl fp=>pe_cmpR op_eq (pe_op op_and (pv 2) (pv 1)) (pv 1) (nomark _))) pa_nil))),?_⟩
  have hlen:=bases_len g
  dsimp only [tRet,tCB,tCons,tNil]
  refine lcNg (L:=m.bases) (fun _=>true) (fun b=>V.bl (b&&&t==t)) (by omega) (fun R hR=>⟨_,rfl,a,C,dx,_,_,rfl,h1,B.cl,B.nB,bf_bases _ _,hR H l (Same.refl _) (SqL.of h2)⟩) (fun x H' R S hx s1 a1 a2=>?_) (fun D H1 s1 hD e1=>?_)
  ·refine⟨rfl,iteT (B:=S H') ⟨_,rfl,_,rfl,_,_,rfl,rfl,_,rfl,rfl,?_⟩⟩
   have:=a1 rfl H' (Same.refl _)
   rw[show decide (V.int (Builtin.bitAnd (x:Int) (t:Int))=nV t)=(x&&&t==t) by rw[band_nat];exact dec_nV _ _]
   exact this
  ·rw[filter_true] at e1
   refine⟨D,m.bases.map fun b=>b&&&t==t,rfl,SqL.of (by rw[e1,List.map_map];rfl),?_⟩
   rw[List.any_map]
   have:=k H1 s1
   rw[←loose_any g.ne ht] at this
   exact this
def spClosure (C:Addr):Sp:=fun vs H Q _=>∃(a:Addr) (m:Bond) (s:Nat),vs=[.ref a,nV s]∧BondAt C H a m∧Good m∧s<2^m.n∧∀H',Same H H'→Q (nV (m.closure s)) H'
theorem scClosure:FnScope ["bond","s","rank","closure","thing"] ["bond","s"] (defScope sClosure):=⟨rfl,rfl,rfl,by decide +kernel,rfl,by decide +kernel,by decide +kernel⟩
def closeTo (m:Bond) (s:Nat) (i:Nat):Nat:=(List.range i).foldl (fun c i=>if (m.rank (s|||2^i)==m.rank s)=true then c|||2^i else c) s
theorem ok_closure {f:Addr} {fd:FuncData} (F:Fun K "closure_of" "closure_of" sClosure f fd) (T:Names mg) (B:BCls K mg C) (C1:Callee P w K mg base 3 "rank_of" ["bond","s"] (spRank C)):FnOk P w K mg base CX0 4 f fd ["bond","s"] (spClosure C):=by
 refine F.ok scClosure (fun vs H Q E h=>?_) (fun cdv A outer s H vs Q E hr h=>?_)
 ·obtain⟨a,m,s,rfl,_⟩:=h
  rfl
 ·obtain⟨a,m,t,rfl,hB,g,ht,k⟩:=h
  have t8:=lt256 g.n8 ht
  refine⟨_,pss_cons (ps_set (i:=2) scClosure.nd rfl (Or.inl rfl) (pcall C1 hr rfl (pa_cons (pv 0) (pa_cons (pv 1) pa_nil))))
   (pss_cons (ps_set (i:=3) scClosure.nd rfl (Or.inl rfl) (pv 1))
   (pss_cons (ps_for PassesOwn.never rfl (pi_range1 rfl T.range (pa_cons (pe_fld (pv 0) rfl) pa_nil)) (pg_name (i:=4) scClosure.nd rfl (Or.inl rfl))
    (pss_one (ps_if (pt_cmpR op_eq (pcall C1 hr rfl (pa_cons (pv 0) (pa_cons (pe_op op_or (pv 1) (pe_op op_shl pe_int (pv 4))) pa_nil))) (pv 2) (nomark _))
     (pss_one (ps_set (i:=3) scClosure.nd rfl (Or.inl rfl) (pe_op op_or (pv 3) (pe_op op_shl pe_int (pv 4))))) pss_nil)))
   (pss_one (ps_ret (pv 3))))),?_⟩
  refine⟨_,rfl,_,rfl,a,m,t,rfl,hB,g,t8,fun H1 s1=>?_⟩
  refine⟨_,rfl,?_⟩
  have hB1:=hB.same s1
  have hB1':=hB1
  obtain⟨dx,l,h1,h2⟩:=hB1'
  refine⟨_,rfl,a,C,dx,_,_,rfl,h1,B.cl,B.nT,bf_things _ _,(m.n:Int),rfl,by omega,by have:=g.n8;omega,?_⟩
  refine for_range (lo:=0) (n:=m.n) (fun i σ H'=>∃v:Option V,σ=[some (.ref a),some (nV t),some (nV (m.rank t)),some (nV (closeTo m t i)),v]∧Same H1 H') ⟨none,rfl,Same.refl _⟩ ?_ ?_
  ·rintro i σ H' hi ⟨v,rfl,s2⟩
   have hi8:i<8:=by have:=g.n8;omega
   have e2:V.int (Builtin.bitOr (t:Int) ((1:Int)*2^((0:Int)+(i:Int)).toNat))=nV (t|||2^i):=by
    rw[Int.zero_add,Int.toNat_natCast,Int.one_mul,show ((2:Int)^i)=((2^i:Nat):Int) from rfl,bor_nat];rfl
   refine⟨_,rfl,_,rfl,_,rfl,_,_,rfl,rfl,⟨by omega,by omega,by decide⟩,_,_,rfl,rfl,a,m,t|||2^i,by rw[←e2];rfl,hB1.same s2,g,ins8 t8 hi8,fun H4 s4=>?_⟩
   refine⟨_,rfl,rfl,_,rfl,?_⟩
   rw[dec_nV]
   have ec:closeTo m t (i+1)=if (m.rank (t|||2^i)==m.rank t)=true then closeTo m t i|||2^i else closeTo m t i:=by
    unfold closeTo
    rw[List.range_succ,List.foldl_append]
    rfl
   cases hb:m.rank (t|||2^i)==m.rank t with
   |true =>
    rw[hb,if_pos rfl] at ec
    refine iteT ⟨_,rfl,_,rfl,_,_,rfl,rfl,⟨by omega,by omega,by decide⟩,_,_,rfl,rfl,?_⟩
    refine⟨some (V.int (0+(i:Int))),?_,s2.trans s4⟩
    rw[ec]
    show [some (V.ref a),some (nV t),some (nV (m.rank t)),some (V.int (Builtin.bitOr ((closeTo m t i:Nat):Int) ((1:Int)*2^((0:Int)+(i:Int)).toNat))),_]=_
    rw[Int.zero_add,Int.toNat_natCast,Int.one_mul,show ((2:Int)^i)=((2^i:Nat):Int) from rfl,bor_nat]
    rfl
   |false =>
    rw[hb,if_neg Bool.false_ne_true] at ec
    refine iteF ⟨some (V.int (0+(i:Int))),?_,s2.trans s4⟩
    rw[ec]
    rfl
  ·rintro σ H' ⟨v,rfl,s2⟩
   refine⟨_,rfl,?_⟩
   have:=k H' (s1.trans s2)
   rw[←closure_eq g.n8 ht] at this
   exact this
open BindNs (things size Bond sets edgesOk pairsOf POINTS)
abbrev sAreEnds:Stmt:=top 28
abbrev sOfEdges:Stmt:=top 29
abbrev sCloses:Stmt:=top 30
def Made2 (H:Hp) (rs:List Addr) (ob:List HO):Prop:=rs.length=ob.length∧∀(j:Nat) (r:Addr) (o:HO),rs[j]?=some r→ob[j]?=some o→H r=some o
theorem lcC {lo c:Int} {n:Nat} {g:TG} {tt:TT} {te:TE} {vs:List Nat} {σ:L2.St} {H1:Hp} {Q:VK} (ob:Nat→HO) (hn:n≤100000)
  (hs:∀i H' (R:V→Hp→Prop) (S:Hp→Prop),i<n→Same H1 H'→(∀r H4,Same H' H4→H' r=none→H4 r=some (ob i)→R (.ref r) H4) →
   g (.int (lo+(i:Nat)*c)) (wipe σ vs) H' fun σ2 H2=>wipe σ2 vs=wipe σ vs∧tt σ2 H2 fun b H3=>if b=true then te σ2 H3 R else S H3)
  (hd:∀D H' rs,Same H1 H'→H1 D=none→H' D=some (.lst (rs.map V.ref))→Made2 H' rs ((List.range n).map ob)→Q (.ref D) H'):∀D,H1 D=none →
  ∃W:Nat→Nat→Hp→Prop,(∃m,W 0 m (upd H1 D (.lst [])))∧∀i m H,W i m H →
   ((Itc lo c n).stop i H∧Q (.ref D) H)∨((Itc lo c n).go i H∧∃Nx:Hp→Prop,(∀H',Nx H'→∃m',m'<m∧W (i+1) m' H')∧∀x H',(Itc lo c n).yld i H x H'→g x (wipe σ vs) H' fun σ2 H2=>wipe σ2 vs=wipe σ vs∧tt σ2 H2 fun b H3 =>
    if b=true then te σ2 H3 fun y H4=>∃acc,H4 D=some (.lst acc)∧acc.length<sizeLine∧Nx (upd H4 D (.lst (acc++[y]))) else Nx H3):=by
 intro D hD
 let Pv:Nat→Hp→Prop:=fun i H=>Same H1 H∧∃rs,H D=some (.lst (rs.map V.ref))∧D∉rs∧Made2 H rs ((List.range i).map ob)
 refine⟨fun i m H=>m=n-i∧i≤n∧Pv i H,⟨n,by simp,Nat.zero_le _,same_new hD,[],upd_same,by simp,rfl,fun j r o h=>(by simp at h)⟩,?_⟩
 rintro i m H ⟨rfl,hi,s,rs,e,hDr,hm⟩
 by_cases hlt:i<n
 ·refine .inr ⟨hlt,Pv (i+1),fun H' p'=>⟨n-(i+1),by omega,rfl,hlt,p'⟩,fun x H' y=>?_⟩
  obtain⟨e',y⟩:=y
  subst e' y
  refine hs i _ _ _ hlt s fun r H4 s4 hr h4=>⟨_,s4 _ _ e,?_,same_upd (s.trans s4) hD,rs++[r],?_,?_,?_⟩
  ·have h2:(100000:Nat)<sizeLine:=by decide
   rw[List.length_map,hm.1,List.length_map,List.length_range];omega
  ·rw[upd_same,List.map_append];rfl
  ·rw[List.mem_append,List.mem_singleton]
   rintro (q|q)
   ·exact hDr q
   ·subst q;rw[e] at hr;cases hr
  ·have hrD:r≠D:=fun q=>by subst q;rw[e] at hr;cases hr
   refine⟨by rw[List.length_append,hm.1,List.length_map,List.length_map,List.length_range,List.length_range];rfl,fun j r' o h1 h2=>?_⟩
   have hl:rs.length=i:=by rw[hm.1,List.length_map,List.length_range]
   by_cases hj:j<i
   ·rw[List.getElem?_append_left (by omega)] at h1
    have h2':((List.range i).map ob)[j]?=some o:=by
     rw[List.getElem?_map,List.getElem?_range (by omega)] at h2
     rw[List.getElem?_map,List.getElem?_range hj];exact h2
    have hne:r'≠D:=fun q=>hDr (q ▸ List.mem_of_getElem? h1)
    rw[upd_ne hne]
    exact s4 _ _ (hm.2 j r' o h1 h2')
   ·have hj':j=i:=by
     have:=(List.getElem?_eq_some_iff.mp h2).1
     rw[List.length_map,List.length_range] at this;omega
    subst hj'
    rw[List.getElem?_append_right (by omega),hl,Nat.sub_self] at h1
    have h1:r=r':=Option.some.inj h1
    rw[List.getElem?_map,List.getElem?_range (by omega)] at h2
    have h2:ob j=o:=Option.some.inj h2
    rw[←h1,upd_ne hrD,←h2];exact h4
 ·have e':i=n:=by omega
  subst e'
  exact .inl ⟨Nat.le_refl _,hd D H rs s hD e hm⟩
theorem lcCg {lo c:Int} {n:Nat} {ta:TA} {g:TG} {tt:TT} {te:TE} {vs:List Nat} {σ:L2.St} {H:Hp} {Q:VK} (ob:Nat→HO) (hn:n≤100000) (hj:∃j,RgC lo j c n∧∀R:List V→Hp→Prop,(∀H1,Same H H1→R [.int lo,.int j,.int c] H1)→ta σ H R)
  (hs:∀i H' (R:V→Hp→Prop) (S:Hp→Prop),i<n→Same H H'→(∀r H4,Same H' H4→H' r=none→H4 r=some (ob i)→R (.ref r) H4) →
   g (.int (lo+(i:Nat)*c)) (wipe σ vs) H' fun σ2 H2=>wipe σ2 vs=wipe σ vs∧tt σ2 H2 fun b H3=>if b=true then te σ2 H3 R else S H3)
  (hd:∀D H' rs,Same H H'→H D=none→H' D=some (.lst (rs.map V.ref))→Made2 H' rs ((List.range n).map ob)→Q (.ref D) H'):tLc (iRng3 ta) g tt te vs σ H Q:=by
 obtain⟨j,hrg,hta⟩:=hj
 refine hta _ fun H1 s1=>⟨lo,j,c,n,rfl,hrg,?_⟩
 exact lcC (Q:=Q) ob hn (fun i H' R S hi s2 a1=>hs i H' R S hi (s1.trans s2) a1) fun D H' rs s2 hD e m=>hd D H' rs (s1.trans s2) (s1.free hD) e m
theorem rgs (j c n:Nat) (hc:0<c) (h:j=n*c):Builtin.Range.rangeSize 0 (j:Int) (c:Int)=n:=by
 unfold Builtin.Range.rangeSize
 rw[if_pos (by omega:(c:Int)>0)]
 cases n with
 |zero =>
  rw[Nat.zero_mul] at h
  rw[if_neg (by omega)];rfl
 |succ m =>
  have hj:(j:Int)=(m:Int)*(c:Int)+(c:Int):=by
   rw[h,Nat.succ_mul]
   push_cast
   rfl
  have hp:0<j:=by rw[h];exact Nat.mul_pos (Nat.succ_pos m) hc
  rw[if_pos (by omega)]
  have e:(j:Int)-0-1=((c:Int)-1)+(m:Int)*(c:Int):=by omega
  rw[e,Int.add_mul_ediv_right _ _ (by omega),Int.ediv_eq_zero_of_lt (by omega) (by omega)]
  push_cast
  omega
theorem rgc (j c:Nat) (n:Nat) (hc:0<c) (hc2:c≤100) (hj:j≤1000) (h:j=n*c):RgC 0 (j:Int) (c:Int) n:=by
 have hs:=rgs j c n hc h
 have hn:n≤1000:=by
  refine Nat.le_trans ?_ hj
  rw[h];exact Nat.le_mul_of_pos_right n hc
 refine⟨by omega,by omega,?_,hs⟩
 unfold Builtin.Range.small
 rw[hs]
 simp only [Builtin.Range.rangeFitsLong,Bool.and_eq_true,Bool.or_eq_true,decide_eq_true_eq,beq_iff_eq,show (c:Int)>0 by omega,if_true]
 omega
def edgeO (e:Nat×Nat):HO:=.tup [nV e.1,nV e.2]
def spCloses (K:PySem.W.Frag):Sp:=fun vs H Q _=>∃(a:Addr) (rs:List Addr) (es:List (Nat×Nat)),vs=[.ref a]∧SqL K H a (rs.map V.ref)∧Made2 H rs (es.map edgeO)∧(∀e,e∈es→e.1<12∧e.2<12)∧∀H',Same H H'→Q (.bl (shut (List.range 12) es)) H'
theorem scCloses:FnScope ["edges","marks","edge","kept","lost","mark"] ["edges"] (defScope sCloses):=⟨rfl,rfl,rfl,by decide +kernel,rfl,by decide +kernel,by decide +kernel⟩
theorem ok_closes {f:Addr} {fd:FuncData} (F:Fun K "closes_round" "closes_round" sCloses f fd) (T:Names mg) (hP:∃t,mg "POINTS"=some (.int 12 t)):FnOk P w K mg base CX0 1 f fd ["edges"] (spCloses K):=by
 obtain⟨tp,hP⟩:=hP
 refine F.ok scCloses (fun vs H Q E h=>?_) (fun cdv A outer s H vs Q E hr h=>?_)
 ·obtain⟨a,rs,es,rfl,_⟩:=h
  rfl
 ·obtain⟨a,rs,es,rfl,hl,hm,he,k⟩:=h
  refine⟨_,pss_cons (ps_set (i:=1) scCloses.nd rfl (Or.inl rfl) (pe_callTy (call_listRange rfl) rfl T.list bo_list (pa_cons (pe_callTy call_rangeR rfl T.range bo_range (pa_cons (pe_glob (v:=.int 12) rfl hP ⟨tp,rfl⟩) pa_nil)) pa_nil)))
   (pss_cons (ps_for PassesOwn.never rfl (pi_list (pv 0)) (pg_name (i:=2) scCloses.nd rfl (Or.inl rfl))
    (pss_cons (ps_set (i:=3) scCloses.nd rfl (Or.inr rfl) (pe_ix ix_list (pv 1) (pe_ix ix_tup (pv 2) pe_int (fun _ _=>rfl)) (fun _ _=>rfl)))
    (pss_cons (ps_set (i:=4) scCloses.nd rfl (Or.inr rfl) (pe_ix ix_list (pv 1) (pe_ix ix_tup (pv 2) pe_int (fun _ _=>rfl)) (fun _ _=>rfl)))
    (pss_cons (ps_if (pt_cmpR op_eq (pv 3) (pv 4) (nomark _)) (pss_one (ps_ret pe_bl)) pss_nil)
    (pss_one (ps_setLc (i:=1) (own:=[("mark",5)]) rfl scCloses.nd rfl rfl (sw_true rfl rfl rfl rfl) (pi_list (pv 1)) (blkOk_by (N:=["edges","marks","edge","kept","lost","mark"]) (sc:=defScope sCloses) (by decide +kernel)) (fun s H C cl fp=>pg_name (i:=5) scCloses.nd rfl (Or.inl rfl)) (fun s H C cl fp=>pts_nil)
     (fun s H C cl fp=>pe_ifExp (pt_cmpR op_eq (pv 5) (pv 4) (nomark _)) (pv 3) (pv 5))))))))
   (pss_one (ps_ret pe_bl))),?_⟩
  refine⟨12,rfl,fun r hr0=>?_⟩
  refine⟨r,12,rfl,upd_same,by decide,by decide,fun p hp=>?_⟩
  have s0:Same H (upd (upd H r (.rng 0 12)) p (.lst ((List.range ((12:Int)).toNat).map fun (i:Nat)=>V.int i))):=(same_new hr0).trans (same_new hp)
  generalize hH0:upd (upd H r (.rng 0 12)) p (.lst ((List.range ((12:Int)).toNat).map fun (i:Nat)=>V.int i))=H0 at s0 ⊢
  have hp0:H0 p=some (.lst (natsV (List.range 12))):=by rw[←hH0,upd_same];rfl
  have hlen:rs.length=es.length:=by rw[hm.1,List.length_map]
  refine⟨_,rfl,a,rfl,⟨_,s0.seq hl⟩,?_⟩
  refine for_list (K:=K) (a:=a) (xs:=rs.map V.ref) (fun i σ H'=>∃(M:List Nat) (p':Addr) (v2 v3 v4 v5:Option V),σ=[some (.ref a),some (.ref p'),v2,v3,v4,v5]∧Same H H'∧H' p'=some (.lst (natsV M))∧M.length=12∧shut (List.range 12) es=shut M (es.drop i))
   ⟨List.range 12,p,none,none,none,none,rfl,s0,hp0,by decide,rfl⟩ (fun i σ H' _ ⟨_,_,_,_,_,_,_,s2,_⟩=>s2.seq hl) ?_ ?_
  ·rintro i y σ H1 hi ⟨M,p',v2,v3,v4,v5,rfl,s1,hM,hM12,hsh⟩
   rw[List.getElem?_map] at hi
   obtain⟨q,hq,rfl⟩:=Option.map_eq_some_iff.mp hi
   have hil:i<es.length:=by rw[←hlen];exact (List.getElem?_eq_some_iff.mp hq).1
   have hei:es[i]?=some es[i]:=List.getElem?_eq_getElem hil
   have hq1:H1 q=some (edgeO es[i]):=s1 _ _ (hm.2 i q _ hq (by rw[List.getElem?_map,hei];rfl))
   obtain⟨e1,e2⟩:=he _ (List.mem_of_getElem? hei)
   have dr:es.drop i=es[i]::es.drop (i+1):=List.drop_eq_getElem_cons hil
   rw[dr] at hsh
   have hg:∀u,u<12→(natsV M)[u]?=some (nV (M.getD u 0)):=fun u hu=>by
    unfold natsV
    rw[List.getElem?_map,List.getElem?_eq_getElem (by omega),List.getD_eq_getElem?_getD,List.getElem?_eq_getElem (by omega)];rfl
   have hs1:shut M (es[i]::es.drop (i+1))=if M.getD es[i].1 0=M.getD es[i].2 0 then true else shut (M.map fun k=>if k=M.getD es[i].2 0 then M.getD es[i].1 0 else k) (es.drop (i+1)):=rfl
   rw[hs1] at hsh
   have t0:atI [nV es[i].1,nV es[i].2] 0=some (nV es[i].1):=at_of (j:=0) rfl rfl
   have t1:atI [nV es[i].1,nV es[i].2] 1=some (nV es[i].2):=at_of (j:=1) rfl rfl
   refine⟨_,rfl,_,rfl,q,_,_,_,rfl,rfl,SqT.of hq1,t0,p',_,_,_,rfl,rfl,SqL.of hM,at_of (j:=es[i].1) (v:=nV (M.getD es[i].1 0)) rfl (hg _ e1),?_⟩
   refine⟨_,rfl,_,rfl,q,_,_,_,rfl,rfl,SqT.of hq1,t1,p',_,_,_,rfl,rfl,SqL.of hM,at_of (j:=es[i].2) (v:=nV (M.getD es[i].2 0)) rfl (hg _ e2),?_⟩
   refine⟨_,rfl,_,rfl,rfl,_,rfl,?_⟩
   rw[dec_nV]
   by_cases hkl:M.getD es[i].1 0=M.getD es[i].2 0
   ·rw[if_pos hkl] at hsh
    rw[beq_iff_eq.mpr hkl]
    refine iteT ?_
    have:=k H1 s1
    rw[hsh] at this
    exact this
   ·rw[if_neg hkl] at hsh
    rw[beq_eq_false_iff_ne.mpr hkl]
    refine iteF ?_
    dsimp only [gName,tSeq,tNext,tAsg]
    refine lcNg (L:=M) (fun _=>true) (fun k=>nV (if k=M.getD es[i].2 0 then M.getD es[i].1 0 else k)) (by omega) (by exact tl_var rfl (SqL.of hM)) (fun x H3 R S hx s3 a1 a2=>?_) (fun D H3 s3 hD e3=>?_)
    ·refine⟨rfl,iteT (B:=S H3) ⟨_,rfl,_,rfl,rfl,_,rfl,?_⟩⟩
     have:=a1 rfl H3 (Same.refl _)
     rw[dec_nV]
     by_cases hx2:x=M.getD es[i].2 0
     ·rw[if_pos hx2] at this
      rw[beq_iff_eq.mpr hx2]
      exact iteT ⟨_,rfl,this⟩
     ·rw[if_neg hx2] at this
      rw[beq_eq_false_iff_ne.mpr hx2]
      exact iteF ⟨_,rfl,this⟩
    ·rw[filter_true] at e3
     refine⟨M.map (fun k=>if k=M.getD es[i].2 0 then M.getD es[i].1 0 else k),D,some (.ref q),some (nV (M.getD es[i].1 0)),some (nV (M.getD es[i].2 0)),v5,rfl,s1.trans s3,?_,by rw[List.length_map];exact hM12,hsh⟩
     rw[e3];unfold natsV;rw[List.map_map];rfl
  ·rintro σ H1 ⟨M,p',v2,v3,v4,v5,rfl,s1,hM,hM12,hsh⟩
   rw[List.length_map,hlen,List.drop_length] at hsh
   have:=k H1 s1
   rw[hsh] at this
   exact this
abbrev sRounds:Stmt:=top 42
abbrev sIsRound:Stmt:=top 43
abbrev sParts:Stmt:=top 44
theorem xor_lt {s i:Nat} (h:s.testBit i=true):s^^^2^i<s:=by
 rw[←sub_pow_eq_xor h]
 have:=Nat.ge_two_pow_of_testBit h
 have:=Nat.two_pow_pos i
 omega
theorem xor_shl (s i:Nat):V.int (Builtin.bitXor (s:Int) ((1:Int)*2^((i:Int)).toNat))=nV (s^^^2^i):=by
 rw[Int.toNat_natCast,Int.one_mul,show ((2:Int)^i)=((2^i:Nat):Int) from rfl,bxor_nat];rfl
theorem range_get {α:Type} {N s:Nat} (f:Nat→α) (h:s<N):((List.range N).map f)[s]?=some (f s):=by
 rw[List.getElem?_map,List.getElem?_range h];rfl
theorem things_len (s:Nat):(things s).length≤8:=size_le_8 s
def spIsRound (K:PySem.W.Frag):Sp:=fun vs H Q _=>∃(l:Addr) (N s:Nat) (f:Nat→Bool),vs=[.ref l,nV s]∧SqL K H l ((List.range N).map fun i=>V.bl (f i))∧s<N∧N≤256∧∀H',Same H H'→Q (.bl (!f s&&(things s).all fun i=>f (s-2^i))) H'
theorem scIsRound:FnScope ["loose","s","thing"] ["loose","s"] (defScope sIsRound):=⟨rfl,rfl,rfl,by decide +kernel,rfl,by decide +kernel,by decide +kernel⟩
theorem ok_isRound {f:Addr} {fd:FuncData} (F:Fun K "is_round" "is_round" sIsRound f fd) (T:Names mg) (C1:Callee P w K mg base 1 "members" ["s"] spMembers):FnOk P w K mg base CX0 2 f fd ["loose","s"] (spIsRound K):=by
 refine F.ok scIsRound (fun vs H Q E h=>?_) (fun cdv A outer s H vs Q E hr h=>?_)
 ·obtain⟨l,N,s,f,rfl,_⟩:=h
  rfl
 ·obtain⟨l,N,t,fb,rfl,hl,ht,hN,k⟩:=h
  refine⟨_,pss_one (ps_ret (pe_and (pe_not (pe_ix ix_list (pv 0) (pv 1) (fun _ _=>rfl))) (pe_one (pe_callB (cr_all rfl) rfl T.all bo_all (pa_cons
   (pe_lc (own:=[("thing",2)]) rfl scIsRound.nd (pi_list (pcall C1 hr rfl (pa_cons (pv 1) pa_nil))) (blkOk_by (N:=["loose","s","thing"]) (sc:=defScope sIsRound) (by decide +kernel)) (fun s H C cl fp=>pg_name (i:=2) scIsRound.nd rfl (Or.inl rfl)) (fun s H C cl fp=>pts_nil)
    (fun s H C cl fp=>pe_ix (r:=rIxL K) ix_list (pv 0) (pe_op op_xor (pv 1) (pe_op op_shl pe_int (pv 2))) (fun _ _=>rfl))) pa_nil))))),?_⟩
  refine⟨_,rfl,_,rfl,l,_,_,_,rfl,rfl,hl,at_of (j:=t) (v:=V.bl (fb t)) rfl (range_get _ ht),fb t,rfl,_,rfl,?_⟩
  cases hb:fb t with
  |true =>
   refine iteF ?_
   have:=k H (Same.refl _)
   rw[hb] at this
   exact this
  |false =>
   refine iteT ?_
   dsimp only [tCB,tCons,tNil]
   refine lcNg (L:=things t) (fun _=>true) (fun i=>V.bl (fb (t-2^i))) (Nat.le_trans (things_len t) (by decide)) (fun R hR=>⟨_,rfl,t,rfl,by omega,fun H1 p s1 _ e=>hR H1 p s1 (SqL.of e)⟩) (fun x H' R S hx s1 a1 a2=>?_) (fun D H1 s1 hD e1=>?_)
   ·obtain⟨x8,hx1⟩:=mem_things.mp hx
    have hlt:=xor_lt hx1
    refine⟨rfl,iteT (B:=S H') ⟨_,rfl,_,rfl,_,rfl,_,_,rfl,rfl,⟨by omega,by omega,by decide⟩,_,_,rfl,rfl,l,_,(t^^^2^x:Nat),V.bl (fb (t-2^x)),rfl,xor_shl t x,s1.seq hl,?_,a1 rfl H' (Same.refl _)⟩⟩
    rw[sub_pow_eq_xor hx1]
    exact at_of (j:=t^^^2^x) rfl (range_get _ (by omega))
   ·rw[filter_true] at e1
    refine⟨D,(things t).map fun i=>fb (t-2^i),rfl,SqL.of (by rw[e1,List.map_map];rfl),?_⟩
    rw[List.all_map]
    have:=k H1 s1
    rw[hb] at this
    exact this
def spRounds (C:Addr):Sp:=fun vs H Q _=>∃(a:Addr) (m:Bond),vs=[.ref a]∧BondAt C H a m∧Good m∧∀(H':Hp) (p:Addr),Same H H'→H p=none→H' p=some (.lst (natsV m.rounds))→Q (.ref p) H'
theorem scRounds:FnScope ["bond","loose","s"] ["bond"] (defScope sRounds):=⟨rfl,rfl,rfl,by decide +kernel,rfl,by decide +kernel,by decide +kernel⟩
theorem ok_rounds {f:Addr} {fd:FuncData} (F:Fun K "rounds_of" "rounds_of" sRounds f fd) (T:Names mg) (B:BCls K mg C) (C1:Callee P w K mg base 3 "is_loose" ["bond","s"] (spIsLoose C)) (C2:Callee P w K mg base 2 "is_round" ["loose","s"] (spIsRound K)):FnOk P w K mg base CX0 4 f fd ["bond"] (spRounds C):=by
 refine F.ok scRounds (fun vs H Q E h=>?_) (fun cdv A outer s H vs Q E hr h=>?_)
 ·obtain⟨a,m,rfl,_⟩:=h
  rfl
 ·obtain⟨a,m,rfl,hB,g,k⟩:=h
  have hr2:Room 2 _:=hr.mono (by decide)
  refine⟨_,pss_cons (ps_set (i:=1) scRounds.nd rfl (Or.inr rfl) (pe_lc (own:=[("s",2)]) rfl scRounds.nd (pi_range1 rfl T.range (pa_cons (pe_op op_shl pe_int (pe_fld (pv 0) rfl)) pa_nil)) (blkOk_by (N:=["bond","loose","s"]) (sc:=defScope sRounds) (by decide +kernel)) (fun s H C cl fp=>pg_name (i:=2) scRounds.nd rfl (Or.inl rfl)) (fun s H C cl fp=>pts_nil)
    (fun s H C cl fp=>pcall C1 hr rfl (pa_cons (pv 0) (pa_cons (pv 2) pa_nil)))))
   (pss_one (ps_ret (pe_lc (own:=[("s",2)]) rfl scRounds.nd (pi_range1 rfl T.range (pa_cons (pe_callB call_len_seq rfl T.len PySem.boot_len (pa_cons (pv 1) pa_nil)) pa_nil)) (blkOk_by (N:=["bond","loose","s"]) (sc:=defScope sRounds) (by decide +kernel)) (fun s H C cl fp=>pg_name (i:=2) scRounds.nd rfl (Or.inl rfl))
    (fun s H C cl fp=>pts_one (pt_val (pcall C2 hr2 rfl (pa_cons (pv 1) (pa_cons (pv 2) pa_nil))))) (fun s H C cl fp=>pv 2)))),?_⟩
  have h256:=pow_le_256 g.n8
  have hB':=hB
  obtain⟨dx,l,h1,h2⟩:=hB'
  dsimp only [tSeq,tAsg]
  refine lcRg (n:=2^m.n) (fun _=>true) (fun s=>V.bl (m.loose s)) (by omega) (fun R hR=>?_) (fun x H' R S hx s1 a1 a2=>?_) (fun D H1 s1 hD e1=>?_)
  ·refine⟨_,rfl,a,C,dx,_,_,rfl,h1,B.cl,B.nT,bf_things _ _,_,_,rfl,rfl,⟨by omega,by have:=g.n8;omega,by decide⟩,?_⟩
   have:=hR H (Same.refl _)
   rw[←shl1] at this
   exact this
  ·exact⟨rfl,iteT (B:=S H') ⟨_,rfl,_,rfl,a,m,x,rfl,hB.same s1,g,lt256 g.n8 hx,fun H4 s4=>a1 rfl H4 s4⟩⟩
  ·rw[filter_true] at e1
   dsimp only [gName,tNext,tRet]
   refine lcRg (n:=2^m.n) (fun s=>!m.loose s&&(things s).all fun i=>m.loose (s-2^i)) (fun x=>nV x) (by omega) (fun R hR=>?_) (fun x H' R S hx s2 a1 a2=>?_) (fun D2 H2 s2 hD2 e2=>?_)
   ·refine⟨_,rfl,D,_,rfl,.inl (SqL.of e1),?_⟩
    have:=hR H1 (Same.refl _)
    rw[List.length_map,List.length_range]
    exact this
   ·refine⟨rfl,_,rfl,_,rfl,D,2^m.n,x,m.loose,rfl,s2.seq (SqL.of e1),hx,h256,fun H4 s4=>⟨_,rfl,?_⟩⟩
    cases hb:(!m.loose x&&(things x).all fun i=>m.loose (x-2^i)) with
    |true=>exact iteT ⟨_,rfl,a1 hb H4 s4⟩
    |false=>exact iteF (a2 hb H4 s4)
   ·exact k H2 D2 (s1.trans s2) (s1.free hD2) e2
def spAreEnds (K:PySem.W.Frag):Sp:=fun vs H Q _=>∃(a:Addr) (es:List Nat),vs=[.ref a]∧SqL K H a (natsV es)∧es.length≤9200∧∀H',Same H H'→Q (.bl (edgesOk es)) H'
theorem scAreEnds:FnScope ["ends","point"] ["ends"] (defScope sAreEnds):=⟨rfl,rfl,rfl,by decide +kernel,rfl,by decide +kernel,by decide +kernel⟩
theorem ok_areEnds {f:Addr} {fd:FuncData} (F:Fun K "are_ends" "are_ends" sAreEnds f fd) (T:Names mg) (hP:∃t,mg "POINTS"=some (.int 12 t)) (hM:∃t,mg "MOST_EDGES"=some (.int 8 t)):FnOk P w K mg base CX0 1 f fd ["ends"] (spAreEnds K):=by
 obtain⟨tp,hP⟩:=hP
 obtain⟨tm,hM⟩:=hM
 refine F.ok scAreEnds (fun vs H Q E h=>?_) (fun cdv A outer s H vs Q E hr h=>?_)
 ·obtain⟨a,es,rfl,_⟩:=h
  rfl
 ·obtain⟨a,es,rfl,hl,hz,k⟩:=h
  refine⟨_,pss_cons (ps_if (PW.pt (pw_or (pt_cmpR op_ne (pe_op op_mod (pe_callB call_len_seq rfl T.len PySem.boot_len (pa_cons (pv 0) pa_nil)) pe_int) pe_int (nomark _)) (pw_or1 (pt_cmpR op_gt (pe_callB call_len_seq rfl T.len PySem.boot_len (pa_cons (pv 0) pa_nil)) (pe_op op_mul pe_int (pe_glob (v:=.int 8) rfl hM ⟨tm,rfl⟩)) (nomark _))))) (pss_one (ps_ret pe_bl)) pss_nil)
   (pss_one (ps_ret (pe_callB (cr_all rfl) rfl T.all bo_all (pa_cons
     (pe_lc (own:=[("point",1)]) rfl scAreEnds.nd (pi_list (pv 0)) (blkOk_by (N:=["ends","point"]) (sc:=defScope sAreEnds) (by decide +kernel)) (fun s H C cl fp=>pg_name (i:=1) scAreEnds.nd rfl (Or.inl rfl)) (fun s H C cl fp=>pts_nil)
      (fun s H C cl fp=>pe_cmpR op_lt (pv 1) (pe_glob (v:=.int 12) rfl hP ⟨tp,rfl⟩) (nomark _))) pa_nil)))),?_⟩
  have hlen:(natsV es).length=es.length:=by unfold natsV;rw[List.length_map]
  refine⟨_,rfl,a,_,rfl,.inl hl,_,_,rfl,rfl,(by show (0:Int)<2;decide),rfl,_,rfl,?_⟩
  rw[hlen]
  have e1:decide (V.int ((es.length:Int)%2)=V.int 0)=decide (es.length%2=0):=by
   rw[dec_int]
   by_cases h:es.length%2=0
   ·rw[decide_eq_true h,beq_iff_eq];omega
   ·rw[decide_eq_false h,beq_eq_false_iff_ne];intro q;omega
  dsimp only
  rw[e1]
  have fin:edgesOk es=false→Q (.bl false) H:=fun q=>by
   have:=k H (Same.refl _)
   rw[q] at this
   exact this
  by_cases h2:es.length%2=0
  ·rw[decide_eq_true h2]
   refine iteF ?_
   refine⟨_,rfl,a,_,rfl,.inl hl,_,_,rfl,rfl,.inl ⟨by decide,by decide⟩,_,_,rfl,rfl,_,rfl,?_⟩
   rw[hlen]
   by_cases h3:es.length≤16
   ·rw[decide_eq_false (by show ¬((es.length:Int)>2*8);omega)]
    refine iteF ?_
    dsimp only [tNext,tSeq,tRet,tCB,tCons,tNil,pss_nil]
    refine lcNg (L:=es) (fun _=>true) (fun x=>V.bl (decide (x<12))) (by omega) (by exact tl_var rfl hl) (fun x H1 R S hx s1 a1 a2=>?_) (fun D H1 s1 hD e3=>?_)
    ·refine⟨rfl,iteT (B:=S H1) ⟨_,rfl,_,_,rfl,rfl,?_⟩⟩
     have:=a1 rfl H1 (Same.refl _)
     show R (V.bl (decide ((x:Int)<12))) H1
     rw[show decide ((x:Int)<12)=decide (x<12) from decide_eq_decide.mpr (by omega)]
     exact this
    ·rw[filter_true] at e3
     refine⟨D,es.map fun x=>decide (x<12),rfl,SqL.of (by rw[e3,List.map_map];rfl),?_⟩
     rw[List.all_map]
     have:=k H1 s1
     unfold edgesOk at this
     rw[decide_eq_true h2,decide_eq_true (show es.length≤2*BindNs.THINGS from h3)] at this
     exact this
   ·rw[decide_eq_true (by show ((es.length:Int)>2*8);omega)]
    refine iteT (fin ?_)
    unfold edgesOk
    rw[decide_eq_true h2,decide_eq_false (show ¬es.length≤2*BindNs.THINGS from h3)];rfl
  ·rw[decide_eq_false h2]
   refine iteT (iteT (fin ?_))
   unfold edgesOk
   rw[decide_eq_false h2];rfl
theorem pi_listK {X:Cx} {K:PySem.W.Frag} {tg l:Expr} {tl:TE} (hK:X.K=K) (hl:PE X l tl):PI X tg l (iList K tl):=by
 subst hK
 exact pi_list hl
def lcScope:Expr→Scope
 |.ListComp _ _ sc _=>sc
 |_=>{kind:=.function,names:=[],isGenerator:=false,isCoroutine:=false}
def asgVal:Stmt→Expr
 |.Assign _ e _=>e
 |_=>.Name "" ⟨0,0,0,0⟩
theorem pairs_get:∀(l:List Nat) (i:Nat),2*i+1<l.length→(pairsOf l)[i]?=some (l.getD (2*i) 0,l.getD (2*i+1) 0)
 |[],i,h=>by simp at h
 |[_],i,h=>by simp at h
 |a::b::r,0,h=>rfl
 |a::b::r,i+1,h=>by
  have:=pairs_get r i (by simp at h;omega)
  show (pairsOf r)[i]?=_
  rw[this]
  rfl
theorem pairs_len:∀(l:List Nat) (n:Nat),l.length=2*n→(pairsOf l).length=n
 |[],n,h=>by simp at h;show 0=n;omega
 |[_],n,h=>by simp at h;omega
 |a::b::r,0,h=>by simp at h
 |a::b::r,n+1,h=>by
  show (pairsOf r).length+1=n+1
  rw[pairs_len r n (by simp at h;omega)]
theorem scOfEdges:FnScope ["ends","edges","many","loose","at","s","thing"] ["ends"] (defScope sOfEdges):=⟨rfl,rfl,rfl,by decide +kernel,rfl,by decide +kernel,by decide +kernel⟩
abbrev scLoose:Scope:=lcScope (asgVal ((defBody sOfEdges).getD 2 (.Pass ⟨0,0,0,0⟩)))
def spOfEdges (K:PySem.W.Frag) (C:Addr):Sp:=fun vs H Q _=>∃(a:Addr) (es:List Nat),vs=[.ref a]∧SqL K H a (natsV es)∧edgesOk es=true∧∀(H':Hp) (b:Addr),Same H H'→H b=none→BondAt C H' b (BindNs.ofEdges (pairsOf es))→Q (.ref b) H'
theorem ok_ofEdges {f:Addr} {fd:FuncData} (F:Fun K "bond_of_edges" "bond_of_edges" sOfEdges f fd) (T:Names mg) (C1:Callee P w K mg base 1 "members" ["s"] spMembers) (C2:Callee P w K mg base 1 "closes_round" ["edges"] (spCloses K)) (C3:Callee P w K mg base 3 "bond_of_loose" ["things","loose"] (spOfLoose K C)) :
  FnOk P w K mg base CX0 4 f fd ["ends"] (spOfEdges K C):=by
 refine F.ok scOfEdges (fun vs H Q E h=>?_) (fun cdv A outer s H vs Q E hr h=>?_)
 ·obtain⟨a,es,rfl,_⟩:=h
  rfl
 ·obtain⟨a,es,rfl,hl,hok,k⟩:=h
  have hr1:Room 1 _:=hr.mono (by decide)
  refine⟨_,pss_cons (ps_set (i:=1) scOfEdges.nd rfl (Or.inr rfl) (pe_lc (own:=[("at",4)]) rfl scOfEdges.nd (pi_range3 rfl T.range (pa_cons pe_int (pa_cons (pe_callB call_len_seq rfl T.len PySem.boot_len (pa_cons (pv 0) pa_nil)) (pa_cons pe_int pa_nil)))) (blkOk_by (N:=["ends","edges","many","loose","at","s","thing"]) (sc:=defScope sOfEdges) (by decide +kernel)) (fun s H C cl fp=>pg_name (i:=4) scOfEdges.nd rfl (Or.inl rfl)) (fun s H C cl fp=>pts_nil)
    (fun s H C cl fp=>pe_tup (pa_cons (pe_ix (r:=rIxL K) ix_list (pv 0) (pv 4) (fun _ _=>rfl)) (pa_cons (pe_ix (r:=rIxL K) ix_list (pv 0) (pe_op op_add (pv 4) pe_int) (fun _ _=>rfl)) pa_nil)))))
   (pss_cons (ps_set (i:=2) scOfEdges.nd rfl (Or.inl rfl) (pe_callB call_len_seq rfl T.len PySem.boot_len (pa_cons (pv 1) pa_nil)))
   (pss_cons (ps_setLc (i:=3) (own:=[("s",5)]) rfl scOfEdges.nd rfl rfl (sw_true rfl rfl rfl rfl) (pi_range1 rfl T.range (pa_cons (pe_op op_shl pe_int (pv 2)) pa_nil)) (blkOk_by (N:=["ends","edges","many","loose","at","s","thing"]) (sc:=defScope sOfEdges) (by decide +kernel)) (fun s H C cl fp=>pg_name (i:=5) scOfEdges.nd rfl (Or.inl rfl))
     (fun s H C cl fp=>pts_one (pt_not (pt_val (pcall C2 hr1 rfl (pa_cons (pe_lc (own:=[("thing",6)]) rfl scOfEdges.nd (pi_listK (K:=K) rfl (pcall C1 hr1 rfl (pa_cons (pv 5) pa_nil))) (blkOk_by (N:=["ends","edges","many","loose","at","s","thing"]) (sc:=relS scLoose (defScope sOfEdges)) (by decide +kernel)) (fun s H C cl fp=>pg_name (i:=6) scOfEdges.nd rfl (Or.inl rfl)) (fun s H C cl fp=>pts_nil)
      (fun s H C cl fp=>pe_ix (r:=rIxL K) ix_list (pv 1) (pv 6) (fun _ _=>rfl))) pa_nil))))) (fun s H C cl fp=>pv 5))
   (pss_one (ps_ret (pcall C3 hr rfl (pa_cons (pv 2) (pa_cons (pv 3) pa_nil))))))),?_⟩
  obtain⟨n,hn,hn8,hpt⟩:∃n,es.length=2*n∧n≤8∧∀x,x∈es→x<12:=by
   unfold edgesOk at hok
   rw[Bool.and_eq_true,Bool.and_eq_true,decide_eq_true_eq,decide_eq_true_eq,List.all_eq_true] at hok
   have h16:es.length≤16:=hok.2.1
   exact⟨es.length / 2,by omega,by omega,fun x hx=>of_decide_eq_true (hok.2.2 x hx)⟩
  have hlen:(natsV es).length=es.length:=by unfold natsV;rw[List.length_map]
  have hPl:=pairs_len es n hn
  have hPg:∀i,i<n→(pairsOf es)[i]?=some (es.getD (2*i) 0,es.getD (2*i+1) 0):=fun i hi=>pairs_get es i (by omega)
  have hg:∀j,j<es.length→(natsV es)[j]?=some (nV (es.getD j 0)):=fun j hj=>by
   unfold natsV
   rw[List.getElem?_map,List.getElem?_eq_getElem hj,List.getD_eq_getElem?_getD,List.getElem?_eq_getElem hj];rfl
  have hP12:∀e,e∈pairsOf es→e.1<12∧e.2<12:=fun e he=>by
   obtain⟨i,hi⟩:=List.mem_iff_getElem?.mp he
   have hin:i<n:=by rw[←hPl];exact (List.getElem?_eq_some_iff.mp hi).1
   rw[hPg i hin] at hi
   cases hi
   have m:∀j,j<es.length→es.getD j 0∈es:=fun j hj=>by rw[List.getD_eq_getElem?_getD,List.getElem?_eq_getElem hj];exact List.getElem_mem hj
   exact⟨hpt _ (m _ (by omega)),hpt _ (m _ (by omega))⟩
  dsimp only [tSeq,tAsg]
  refine lcCg (lo:=0) (c:=2) (n:=n) (fun i=>edgeO (es.getD (2*i) 0,es.getD (2*i+1) 0)) (by omega) ⟨(es.length:Int),rgc es.length 2 n (by decide) (by decide) (by omega) (by omega),fun R hR=>?_⟩ (fun i H' R S hi s1 a1=>?_) (fun D H1 rs s1 hD e1 hm=>?_)
  ·refine⟨_,rfl,a,_,rfl,.inl hl,?_⟩
   rw[hlen]
   exact hR H (Same.refl _)
  ·refine⟨rfl,iteT (B:=S H') ⟨_,rfl,_,rfl,a,_,_,_,rfl,rfl,s1.seq hl,at_of (j:=2*i) (v:=nV (es.getD (2*i) 0)) (by omega) (hg _ (by omega)),_,rfl,_,rfl,_,_,rfl,rfl,a,_,_,_,rfl,rfl,s1.seq hl,at_of (j:=2*i+1) (v:=nV (es.getD (2*i+1) 0)) (by omega) (hg _ (by omega)),by show 2≤sizeLine;decide,fun t ht=>?_⟩⟩
   exact a1 t _ (same_new ht) ht upd_same
  ·have hrl:rs.length=n:=by rw[hm.1,List.length_map,List.length_range]
   refine⟨_,rfl,D,_,rfl,.inl (SqL.of e1),?_⟩
   have em:V.int (((rs.map V.ref).length:Nat):Int)=nV n:=by rw[List.length_map,hrl];rfl
   rw[em]
   have h256:=pow_le_256 hn8
   have hmade:∀i,i<n→H1 (rs.getD i 0)=some (edgeO ((pairsOf es).getD i (0,0))):=fun i hi=>by
    refine hm.2 i (rs.getD i 0) _ (by rw[List.getD_eq_getElem?_getD,List.getElem?_eq_getElem (by omega)];rfl) ?_
    rw[List.getElem?_map,List.getElem?_range hi,List.getD_eq_getElem?_getD (l:=pairsOf es),hPg i hi];rfl
   dsimp only [gName,tNext,tSeq,tAsg]
   refine lcRg (n:=2^n) (fun s=>!shut (List.range 12) ((things s).map fun i=>(pairsOf es).getD i (0,0))) (fun s=>nV s) (by omega) (fun R hR=>?_) (fun x H' R S hx s2 a1 a2=>?_) (fun D2 H2 s2 hD2 e2=>?_)
   ·refine⟨_,rfl,_,_,rfl,rfl,⟨by omega,by omega,by decide⟩,?_⟩
    have:=hR H1 (Same.refl _)
    rw[←shl1] at this
    exact this
   ·have x8:=lt256 hn8 hx
    have hin:∀i,i∈things x→i<n:=fun i hi=>bit_in hx (mem_things.mp hi).2
    refine⟨rfl,?_⟩
    dsimp only [tNot,tB,tCall,tCons,tNil]
    refine lcNg (L:=things x) (fun _=>true) (fun i=>V.ref (rs.getD i 0)) (Nat.le_trans (things_len x) (by decide)) (fun R hR=>⟨_,rfl,x,rfl,x8,fun H3 p3 s3 _ e=>hR H3 p3 s3 (SqL.of e)⟩) (fun i H3 R S hi s3 b1 b2=>?_) (fun D3 H3 s3 hD3 e3=>?_)
    ·refine⟨rfl,iteT (B:=S H3) ⟨_,rfl,_,rfl,D,_,_,_,rfl,rfl,(s2.trans s3).seq (SqL.of e1),at_of (j:=i) (v:=V.ref (rs.getD i 0)) rfl ?_,b1 rfl H3 (Same.refl _)⟩⟩
     have:=hin i hi
     rw[List.getElem?_map,List.getElem?_eq_getElem (by omega),List.getD_eq_getElem?_getD,List.getElem?_eq_getElem (by omega)];rfl
    ·rw[filter_true] at e3
     refine⟨D3,(things x).map (fun i=>rs.getD i 0),(things x).map (fun i=>(pairsOf es).getD i (0,0)),rfl,SqL.of (by rw[e3,List.map_map];rfl),⟨by rw[List.length_map,List.length_map,List.length_map],fun j r o h1 h2=>?_⟩,fun e he=>?_,fun H4 s4=>⟨_,rfl,?_⟩⟩
     ·rw[List.getElem?_map] at h1
      rw[List.getElem?_map,List.getElem?_map] at h2
      obtain⟨i,hi,rfl⟩:=Option.map_eq_some_iff.mp h1
      rw[hi] at h2
      have h2:edgeO ((pairsOf es).getD i (0,0))=o:=Option.some.inj h2
      rw[←h2]
      exact s3 _ _ (s2 _ _ (hmade i (hin i (List.mem_of_getElem? hi))))
     ·obtain⟨i,hi,rfl⟩:=List.mem_map.mp he
      have:=hin i hi
      refine hP12 _ ?_
      rw[List.getD_eq_getElem?_getD,List.getElem?_eq_getElem (by omega)]
      exact List.getElem_mem _
     ·cases hb:shut (List.range 12) ((things x).map fun i=>(pairsOf es).getD i (0,0)) with
      |true=>exact iteF (a2 (by rw[hb];rfl) H4 (s3.trans s4))
      |false=>exact iteT ⟨_,rfl,a1 (by rw[hb];rfl) H4 (s3.trans s4)⟩
   ·have ef:(List.range (2^n)).filter (fun s=>!shut (List.range 12) ((things s).map fun i=>(pairsOf es).getD i (0,0)))=(sets n).filter (fun s=>(BindNs.joined (List.range POINTS) ((things s).map fun i=>(pairsOf es).getD i (0,0))).isSome):=by
     refine List.filter_congr fun s hs=>?_
     have hs:=List.mem_range.mp hs
     rw[shut_ok _ (fun e he=>?_),Bool.not_not]
     obtain⟨i,hi,rfl⟩:=List.mem_map.mp he
     have:=bit_in hs (mem_things.mp hi).2
     refine hP12 _ ?_
     rw[List.getD_eq_getElem?_getD,List.getElem?_eq_getElem (by omega)]
     exact List.getElem_mem _
    rw[ef] at e2
    generalize hL:(sets n).filter (fun s=>(BindNs.joined (List.range POINTS) ((things s).map fun i=>(pairsOf es).getD i (0,0))).isSome)=L at e2
    have hLm:∀s,s∈L→s<2^n:=fun s hs=>by rw[←hL] at hs;exact mem_sets.mp (List.mem_filter.mp hs).1
    have h0:0∈L:=by
     rw[←hL,List.mem_filter]
     refine⟨mem_sets.mpr (Nat.two_pow_pos n),?_⟩
     have:things 0=[]:=by decide +kernel
     rw[this];rfl
    refine⟨_,rfl,_,rfl,n,D2,L,rfl,SqL.of e2,List.ne_nil_of_mem h0,fun s hs=>lt256 hn8 (hLm s hs),?_,?_,fun H' b s3 hb hB=>?_⟩
    ·rw[←hL]
     refine Nat.le_trans (List.length_filter_le _ _) ?_
     rw[show (sets n).length=2^n from List.length_range];omega
    ·rw[←hL];exact (sets_rise n).filter _
    ·refine k H' b ((s1.trans s2).trans s3) ((s1.trans s2).free hb) ?_
     have eo:BindNs.ofEdges (pairsOf es)=⟨n,L.filter fun s=>size s==mostOf L⟩:=by
      unfold BindNs.ofEdges BindNs.byLoose
      rw[hPl]
      dsimp only
      rw[hL]
      rfl
     rw[eo];exact hB
open BindNs (things size Bond sets lower rowsOk rowsIn)
abbrev sAreRows:Stmt:=top 50
abbrev sOfRows:Stmt:=top 51
abbrev sReduced:Stmt:=top 52
abbrev sHang:Stmt:=top 53
abbrev sCleared:Stmt:=top 54
abbrev sFirst:Stmt:=top 55
def intsV (l:List Int):List V:=l.map V.int
def Small (k:Nat) (z:Int):Prop:=z.natAbs<2^k
theorem bits_small {z:Int} {k:Nat} (h:Small k z):Builtin.Int.intBits z≤k:=by
 unfold Builtin.Int.intBits
 split
 ·exact Nat.zero_le _
 ·rename_i hz
  have:z.natAbs≠0:=by simpa using hz
  exact (Nat.log2_lt this).mpr h
theorem mul_ok {i j:Int} (hi:Small 4000 i) (hj:Small 4000 j):IntMulOk i j:=by
 unfold IntMulOk
 have h1:=bits_small hi
 have h2:=bits_small hj
 have:Builtin.Int.intTooBig ((Builtin.Int.intBits i:Int)+(Builtin.Int.intBits j:Int))=false:=by
  unfold Builtin.Int.intTooBig
  rw[decide_eq_false_iff_not]
  have:(8000:Int)≤bitsLine:=by decide
  omega
 rw[this]
 simp
theorem op_mulK {X:Cx}:OpR X (binaryOp .Mult) (rI (fun i j=>Small 4000 i∧Small 4000 j) fun i j=>.int (i*j)):=opI fun _ _ _ _ _ _ _ hc q=>mul_int q (mul_ok hc.1 hc.2)
theorem Small.mono {a b:Nat} {z:Int} (h:Small a z) (hab:a≤b):Small b z:=Nat.lt_of_lt_of_le h (Nat.pow_le_pow_right (by decide) hab)
theorem Small.comb {k l:Nat} {x y u v:Int} (hx:Small k x) (hy:Small l y) (hu:Small k u) (hv:Small l v):Small (k+l+1) (x*y-u*v):=by
 unfold Small at *
 have h1:(x*y-u*v).natAbs≤(x*y).natAbs+(u*v).natAbs:=Int.natAbs_sub_le _ _
 rw[Int.natAbs_mul,Int.natAbs_mul] at h1
 have h2:x.natAbs*y.natAbs<2^k*2^l:=Nat.mul_lt_mul'' hx hy
 have h3:u.natAbs*v.natAbs<2^k*2^l:=Nat.mul_lt_mul'' hu hv
 rw[←Nat.pow_add] at h2 h3
 rw[Nat.pow_succ]
 omega
def onI (g:Int→V):V→V
 |.int i=>g i
 |x=>x
theorem lcI {K:PySem.W.Frag} {L:List Int} {tl:TE} {g:TG} {tt:TT} {te:TE} {vs:List Nat} {σ:L2.St} {H:Hp} {Q:VK} (f:Int→V) (hn:L.length≤100000) (htl:∀R:VK,(∀H1 a,Same H H1→SqL K H1 a (intsV L)→R (.ref a) H1)→tl σ H R)
  (hs:∀x H' (R:V→Hp→Prop) (S:Hp→Prop),x∈L→Same H H'→(∀H4,Same H' H4→R (f x) H4) →
   g (.int x) (wipe σ vs) H' fun σ2 H2=>wipe σ2 vs=wipe σ vs∧tt σ2 H2 fun b H3=>if b=true then te σ2 H3 R else S H3)
  (hd:∀D H',Same H H'→H D=none→H' D=some (.lst (L.map f))→Q (.ref D) H'):tLc (iList K tl) g tt te vs σ H Q:=by
 refine htl _ fun H1 a s1 ha=>⟨a,rfl,⟨_,ha⟩,?_⟩
 refine lcL (Q:=Q) (fun _=>true) (onI f) (by unfold intsV;rw[List.length_map];exact hn) ha (fun x H' R S hx s2 a1 a2=>?_) fun D H' s2 hD e=>hd D H' (s1.trans s2) (s1.free hD) ?_
 ·obtain⟨n,hn',rfl⟩:=List.mem_map.mp hx
  exact hs n H' R S hn' (s1.trans s2) (a1 rfl)
 ·rw[e,filter_true]
  unfold intsV
  rw[List.map_map]
  rfl
def spReduced:Sp:=fun vs H Q _=>∃(p:Nat) (a:Addr) (r:List Int),vs=[nV p,.ref a]∧H a=some (.lst (intsV r))∧r.length≤1000∧∀(H':Hp) (b:Addr),Same H H'→(b=a∨H b=none)→H' b=some (.lst (intsV (r.map (lower p))))→Q (.ref b) H'
theorem scReduced:FnScope ["modulus","row","number"] ["modulus","row"] (defScope sReduced):=⟨rfl,rfl,rfl,by decide +kernel,rfl,by decide +kernel,by decide +kernel⟩
theorem ok_reduced {f:Addr} {fd:FuncData} (F:Fun K "reduced" "reduced" sReduced f fd):FnOk P w K mg base CX0 1 f fd ["modulus","row"] spReduced:=by
 refine F.ok scReduced (fun vs H Q E h=>?_) (fun cdv A outer s H vs Q E hr h=>?_)
 ·obtain⟨p,a,r,rfl,_⟩:=h
  rfl
 ·obtain⟨p,a,r,rfl,ha,hz,k⟩:=h
  refine⟨_,pss_cons (ps_if (pt_cmpR op_eq (pv 0) pe_int (nomark _)) (pss_one (ps_ret (pv 1))) pss_nil)
   (pss_one (ps_ret (pe_lc (own:=[("number",2)]) rfl scReduced.nd (pi_list (pv 1)) (blkOk_by (N:=["modulus","row","number"]) (sc:=defScope sReduced) (by decide +kernel)) (fun s H C cl fp=>pg_name (i:=2) scReduced.nd rfl (Or.inl rfl)) (fun s H C cl fp=>pts_nil)
     (fun s H C cl fp=>pe_op op_mod (pv 2) (pv 0))))),?_⟩
  refine⟨_,rfl,rfl,_,rfl,?_⟩
  rw[show decide (nV p=V.int 0)=(p==0) from dec_nV p 0]
  by_cases hp:p=0
  ·subst hp
   refine iteT ⟨_,rfl,?_⟩
   refine k H a (Same.refl _) (.inl rfl) ?_
   rw[ha]
   congr 2
   unfold intsV
   rw[List.map_map]
   refine List.map_congr_left fun z _=>?_
   show V.int z=V.int (lower 0 z)
   rw[lower,if_pos rfl]
  ·rw[beq_eq_false_iff_ne.mpr hp]
   refine iteF ?_
   dsimp only [tNext,tSeq,tRet]
   refine lcI (L:=r) (fun z=>V.int (z%(p:Int))) (by omega) (fun R hR=>⟨_,rfl,hR H a (Same.refl _) (SqL.of ha)⟩) (fun x H' R S hx s1 a1=>?_) (fun D H1 s1 hD e1=>?_)
   ·exact⟨rfl,iteT (B:=S H') ⟨_,rfl,_,rfl,_,_,rfl,rfl,by show (0:Int)<(p:Int);omega,a1 H' (Same.refl _)⟩⟩
   ·refine k H1 D s1 (.inr hD) ?_
    rw[e1]
    congr 2
    unfold intsV
    rw[List.map_map]
    refine List.map_congr_left fun z _=>?_
    show V.int (z%(p:Int))=V.int (lower p z)
    rw[lower,if_neg hp]
def spFirst (K:PySem.W.Frag):Sp:=fun vs H Q _=>∃(a:Addr) (r:List Int),vs=[.ref a]∧SqL K H a (intsV r)∧r.any (fun z=>z !=0)=true∧Q (nV (piv r)) H
theorem scFirst:FnScope ["row","at"] ["row"] (defScope sFirst):=⟨rfl,rfl,rfl,by decide +kernel,rfl,by decide +kernel,by decide +kernel⟩
theorem ok_first {f:Addr} {fd:FuncData} (F:Fun K "first_filled" "first_filled" sFirst f fd):FnOk P w K mg base CX0 1 f fd ["row"] (spFirst K):=by
 refine F.ok scFirst (fun vs H Q E h=>?_) (fun cdv A outer s H vs Q E hr h=>?_)
 ·obtain⟨a,r,rfl,_⟩:=h
  rfl
 ·obtain⟨a,r,rfl,ha,hany,k⟩:=h
  refine⟨_,pss_cons (ps_set (i:=1) scFirst.nd rfl (Or.inl rfl) pe_int) (pss_cons (ps_while PassesOwn.never (pt_cmpR op_eq (pe_ix ix_list (pv 0) (pv 1) (fun _ _=>rfl)) pe_int (nomark _)) (pss_one (ps_aug (i:=1) scFirst.nd rfl (Or.inl rfl) pe_int ip_add))) (pss_one (ps_ret (pv 1)))),?_⟩
  have hpl:piv r<r.length:=by
   unfold piv
   rw[List.findIdx_lt_length]
   exact List.any_eq_true.mp hany
  have hpn:r[piv r]'hpl≠0:=by
   have:(r[piv r]'hpl !=0)=true:=List.findIdx_getElem (p:=fun z=>z !=0) (w:=hpl)
   simpa using this
  have hbf:∀j (hj:j<piv r),r[j]'(by omega)=0:=fun j hj=>by
   have:=List.not_of_lt_findIdx (p:=fun z=>z !=0) (xs:=r) hj
   simpa using this
  refine while_by (fun σ H'=>H'=H∧∃i,i≤piv r∧σ=[some (.ref a),some (nV i)]) (fun σ _=>match σ with|[_,some (.int i)]=>r.length-i.toNat|_=>0) ⟨rfl,0,Nat.zero_le _,rfl⟩ ?_ ?_
  ·rintro σ H' ⟨rfl,i,hi,rfl⟩
   have hil:i<r.length:=by omega
   have hg:(intsV r)[i]?=some (V.int (r[i]'hil)):=by unfold intsV;rw[List.getElem?_map,List.getElem?_eq_getElem hil];rfl
   refine⟨_,rfl,_,rfl,a,_,_,_,rfl,rfl,ha,at_of (j:=i) (v:=V.int (r[i]'hil)) rfl hg,rfl,_,rfl,?_⟩
   rw[dec_int]
   by_cases hlt:i<piv r
   ·rw[hbf i hlt]
    refine iteT ⟨_,rfl,_,_,rfl,rfl,⟨rfl,i+1,hlt,rfl⟩,?_⟩
    show r.length-((i:Int)+1).toNat<r.length-((i:Int)).toNat
    omega
   ·have e:i=piv r:=by omega
    subst e
    rw[beq_eq_false_iff_ne.mpr hpn]
    exact iteF ⟨_,rfl,k⟩
  ·intro σ H' Q1 Q2 hQ h
   obtain⟨v,e1,h⟩:=h
   obtain⟨v2,e2,h⟩:=h
   obtain⟨p,xs,kk,vv,a1,a2,a3,a4,a5,b,e,q⟩:=h
   exact⟨v,e1,v2,e2,p,xs,kk,vv,a1,a2,a3,a4,a5,b,e,hQ _ _ q⟩
def SmallR (k:Nat) (r:List Int):Prop:=∀z,z∈r→Small k z
theorem small_zero (k:Nat):Small k 0:=Nat.two_pow_pos k
theorem SmallR.get {k:Nat} {r:List Int} (h:SmallR k r) (i:Nat):Small k (r.getD i 0):=by
 rw[List.getD_eq_getElem?_getD]
 cases e:r[i]? with
 |none=>exact small_zero k
 |some z=>exact h z (List.mem_of_getElem? e)
theorem small_lower {k p:Nat} {z:Int} (hp:Pr p) (hk:10≤k) (h:Small k z):Small k (lower p z):=by
 unfold lower
 split
 ·exact h
 ·rename_i h0
  have hp7:p≤7:=by rcases hp with q|q|q|q|q<;>omega
  have e1:=Int.emod_nonneg z (show (p:Int)≠0 by omega)
  have e2:=Int.emod_lt_of_pos z (show (0:Int)<(p:Int) by omega)
  unfold Small
  have:(2:Nat)^10≤2^k:=Nat.pow_le_pow_right (by decide) hk
  omega
theorem small_clr {k l p:Nat} {r e:List Int} (hp:Pr p) (hr:SmallR k r) (he:SmallR l e):SmallR (l+k+11) (clr p r e)∧(10≤l+k+1→SmallR (l+k+1) (clr p r e)):=by
 have key:∀i,Small (l+k+1) (e.getD (piv e) 0*r.getD i 0-r.getD (piv e) 0*e.getD i 0):=fun i=>by
  have:=Small.comb (he.get (piv e)) (hr.get i) (he.get i) (hr.get (piv e))
  rw[Int.mul_comm (e.getD i 0)] at this
  exact this
 unfold clr
 constructor
 ·intro z hz
  obtain⟨y,hy,rfl⟩:=List.mem_map.mp hz
  obtain⟨i,_,rfl⟩:=List.mem_map.mp hy
  exact small_lower hp (by omega) ((key i).mono (by omega))
 ·intro h10 z hz
  obtain⟨y,hy,rfl⟩:=List.mem_map.mp hz
  obtain⟨i,_,rfl⟩:=List.mem_map.mp hy
  exact small_lower hp h10 (key i)
def spCleared (K:PySem.W.Frag):Sp:=fun vs H Q _=>∃(p n:Nat) (a b:Addr) (r e:List Int),vs=[nV p,.ref a,.ref b]∧SqL K H a (intsV r)∧SqL K H b (intsV e)∧r.length=n∧e.length=n∧n≤100∧e.any (fun z=>z !=0)=true∧SmallR 3000 r∧SmallR 3000 e ∧
 ∀(H':Hp) (c:Addr),Same H H'→H c=none→H' c=some (.lst (intsV (clr p r e)))→Q (.ref c) H'
theorem scCleared:FnScope ["modulus","row","earlier","at","mine","its","i"] ["modulus","row","earlier"] (defScope sCleared):=⟨rfl,rfl,rfl,by decide +kernel,rfl,by decide +kernel,by decide +kernel⟩
theorem ok_cleared {f:Addr} {fd:FuncData} (F:Fun K "cleared" "cleared" sCleared f fd) (T:Names mg) (C1:Callee P w K mg base 1 "first_filled" ["row"] (spFirst K)) (C2:Callee P w K mg base 1 "reduced" ["modulus","row"] spReduced):FnOk P w K mg base CX0 2 f fd ["modulus","row","earlier"] (spCleared K):=by
 refine F.ok scCleared (fun vs H Q E h=>?_) (fun cdv A outer s H vs Q E hr h=>?_)
 ·obtain⟨p,n,a,b,r,e,rfl,_⟩:=h
  rfl
 ·obtain⟨p,n,a,b,r,e,rfl,ha,hb,hrl,hel,hn,hany,hsr,hse,k⟩:=h
  refine⟨_,pss_cons (ps_set (i:=3) scCleared.nd rfl (Or.inl rfl) (pcall C1 hr rfl (pa_cons (pv 2) pa_nil)))
   (pss_cons (ps_set (i:=4) scCleared.nd rfl (Or.inr rfl) (pe_ix ix_list (pv 1) (pv 3) (fun _ _=>rfl)))
   (pss_cons (ps_set (i:=5) scCleared.nd rfl (Or.inr rfl) (pe_ix ix_list (pv 2) (pv 3) (fun _ _=>rfl)))
   (pss_one (ps_ret (pcall C2 hr rfl (pa_cons (pv 0) (pa_cons (pe_lc (own:=[("i",6)]) rfl scCleared.nd (pi_range1 rfl T.range (pa_cons (pe_callB call_len_seq rfl T.len PySem.boot_len (pa_cons (pv 1) pa_nil)) pa_nil)) (blkOk_by (N:=["modulus","row","earlier","at","mine","its","i"]) (sc:=defScope sCleared) (by decide +kernel)) (fun s H C cl fp=>pg_name (i:=6) scCleared.nd rfl (Or.inl rfl)) (fun s H C cl fp=>pts_nil)
     (fun s H C cl fp=>pe_op op_sub (pe_op op_mulK (pv 5) (pe_ix (r:=rIxL K) ix_list (pv 1) (pv 6) (fun _ _=>rfl))) (pe_op op_mulK (pv 4) (pe_ix (r:=rIxL K) ix_list (pv 2) (pv 6) (fun _ _=>rfl))))) pa_nil))))))),?_⟩
  have hpl:piv e<e.length:=by
   unfold piv
   rw[List.findIdx_lt_length]
   exact List.any_eq_true.mp hany
  have hg:∀(l:List Int) (j:Nat),j<l.length→(intsV l)[j]?=some (V.int (l.getD j 0)):=fun l j hj=>by
   unfold intsV
   rw[List.getElem?_map,List.getElem?_eq_getElem hj,List.getD_eq_getElem?_getD,List.getElem?_eq_getElem hj];rfl
  refine⟨_,rfl,b,e,rfl,hb,hany,?_⟩
  refine⟨_,rfl,_,rfl,a,_,_,_,rfl,rfl,ha,at_of (j:=piv e) (v:=V.int (r.getD (piv e) 0)) rfl (hg r _ (by omega)),?_⟩
  refine⟨_,rfl,_,rfl,b,_,_,_,rfl,rfl,hb,at_of (j:=piv e) (v:=V.int (e.getD (piv e) 0)) rfl (hg e _ hpl),?_⟩
  refine⟨_,rfl,?_⟩
  refine lcRg (n:=n) (fun _=>true) (fun i=>V.int (e.getD (piv e) 0*r.getD i 0-r.getD (piv e) 0*e.getD i 0)) (by omega) (fun R hR=>?_) (fun i H' R S hi s1 a1 a2=>?_) (fun D H1 s1 hD e1=>?_)
  ·refine⟨_,rfl,a,_,rfl,.inl ha,?_⟩
   have:=hR H (Same.refl _)
   rw[show (intsV r).length=n by unfold intsV;rw[List.length_map];exact hrl]
   exact this
  ·refine⟨rfl,iteT (B:=S H') ⟨_,rfl,_,rfl,_,rfl,a,_,_,_,rfl,rfl,s1.seq ha,at_of (j:=i) (v:=V.int (r.getD i 0)) rfl (hg r _ (by omega)),_,_,rfl,rfl,⟨(hse.get _).mono (by decide),(hsr.get _).mono (by decide)⟩,_,rfl,_,rfl,_,rfl,b,_,_,_,rfl,rfl,s1.seq hb,at_of (j:=i) (v:=V.int (e.getD i 0)) rfl (hg e _ (by omega)),_,_,rfl,rfl,⟨(hsr.get _).mono (by decide),(hse.get _).mono (by decide)⟩,_,_,rfl,rfl,?_⟩⟩
   exact a1 rfl H' (Same.refl _)
  ·rw[filter_true] at e1
   refine⟨p,D,(List.range n).map (fun i=>e.getD (piv e) 0*r.getD i 0-r.getD (piv e) 0*e.getD i 0),rfl,?_,by rw[List.length_map,List.length_range];omega,fun H' c s2 hc e2=>?_⟩
   ·rw[e1];unfold intsV;rw[List.map_map];rfl
   ·refine k H' c (s1.trans s2) ?_ ?_
    ·rcases hc with q|q
     ·rw[q];exact hD
     ·exact s1.free q
    ·rw[e2];unfold clr;rw[hrl]
def ee (t:Nat):Nat:=11*2^t-1
theorem ee_succ (t:Nat):ee t+ee t+1=ee (t+1):=by
 unfold ee
 have:=Nat.two_pow_pos t
 rw[Nat.pow_succ];omega
theorem ee_ge (t:Nat):10≤ee t:=by
 unfold ee
 have:=Nat.two_pow_pos t
 omega
theorem ee_le {t:Nat} (h:t≤8):ee t≤3000:=by
 unfold ee
 have:2^t≤2^8:=Nat.pow_le_pow_right (by decide) h
 omega
def rowO (r:List Int):HO:=.lst (intsV r)
structure KeptAt (H:Hp) (kp:Addr) (n:Nat) (ks:List Addr) (KL:List (List Int)):Prop where
 made:Made2 H ks (KL.map rowO)
 ne:kp∉ks
 len:∀r,r∈KL→r.length=n
 any:∀r,r∈KL→r.any (fun z=>z !=0)=true
 small:∀j r,KL[j]?=some r→SmallR (ee j) r
def spHang (K:PySem.W.Frag):Sp:=fun vs H Q _=>∃(p n:Nat) (a:Addr) (rs:List Addr) (R:List (List Int)),vs=[nV p,.ref a]∧Pr p∧SqL K H a (rs.map V.ref)∧Made2 H rs (R.map rowO)∧(∀r,r∈R→r.length=n)∧n≤100∧(∀r,r∈R→SmallR 10 r)∧R.length≤8∧∀H',Same H H'→Q (.bl (hang p [] R)) H'
theorem scHang:FnScope ["modulus","rows","kept","row","left","earlier"] ["modulus","rows"] (defScope sHang):=⟨rfl,rfl,rfl,by decide +kernel,rfl,by decide +kernel,by decide +kernel⟩
theorem left_snoc (p:Nat) (row:List Int) (l:List (List Int)) (e:List Int):leftOf p row (l++[e])=clr p (leftOf p row l) e:=by unfold leftOf;rw[List.foldl_append];rfl
theorem left_len (p:Nat):∀(l:List (List Int)) (row:List Int),(leftOf p row l).length=row.length
 |[],row=>rfl
 |e::l,row=>by
  show (leftOf p (clr p row e) l).length=_
  rw[left_len p l,clr_length]
theorem ok_hang {f:Addr} {fd:FuncData} (F:Fun K "hang_together" "hang_together" sHang f fd) (T:Names mg) (C1:Callee P w K mg base 2 "cleared" ["modulus","row","earlier"] (spCleared K)):FnOk P w K mg base CX0 3 f fd ["modulus","rows"] (spHang K):=by
 refine F.ok scHang (fun vs H Q E h=>?_) (fun cdv A outer s H vs Q E hr h=>?_)
 ·obtain⟨p,n,a,rs,R,rfl,_⟩:=h
  rfl
 ·obtain⟨p,n,a,rs,R,rfl,hp,ha,hm,hn,hn100,hsm,hR8,k⟩:=h
  refine⟨_,pss_cons (ps_set (i:=2) scHang.nd rfl (Or.inl rfl) (pe_lst pa_nil))
   (pss_cons (ps_for PassesOwn.never rfl (pi_list (pv 1)) (pg_name (i:=3) scHang.nd rfl (Or.inl rfl))
    (pss_cons (ps_set (i:=4) scHang.nd rfl (Or.inl rfl) (pv 3))
    (pss_cons (ps_for PassesOwn.never rfl (pi_list (pv 2)) (pg_name (i:=5) scHang.nd rfl (Or.inl rfl)) (pss_one (ps_set (i:=4) scHang.nd rfl (Or.inl rfl) (pcall C1 hr rfl (pa_cons (pv 0) (pa_cons (pv 4) (pa_cons (pv 5) pa_nil)))))))
    (pss_cons (ps_if (pt_not (pt_val (pe_callB (cr_anyI rfl) rfl T.any bo_any (pa_cons (pv 4) pa_nil)))) (pss_one (ps_ret pe_bl)) pss_nil)
    (pss_one (ps_expr (pe_bm PySem.F.plainAttrs_list PySem.F.slot_list_append PySem.F.type_list_append mt_append (pv 2) (pa_cons (pv 4) pa_nil))))))))
   (pss_one (ps_ret pe_bl))),?_⟩
  refine⟨Nat.zero_le _,fun kp hkp=>?_⟩
  have s0:Same H (upd H kp (.lst [])):=same_new hkp
  have hrl:rs.length=R.length:=by rw[hm.1,List.length_map]
  refine⟨_,rfl,a,rfl,⟨_,s0.seq ha⟩,?_⟩
  refine for_list (K:=K) (a:=a) (xs:=rs.map V.ref) (fun i σ H'=>∃(KL:List (List Int)) (ks:List Addr) (v3 v4 v5:Option V),σ=[some (nV p),some (.ref a),some (.ref kp),v3,v4,v5]∧Same H H'∧H' kp=some (.lst (ks.map V.ref))∧KeptAt H' kp n ks KL∧KL.length≤i∧hang p [] R=hang p KL (R.drop i))
   ⟨[],[],none,none,none,rfl,s0,upd_same,⟨⟨rfl,fun j r o h=>(by simp at h)⟩,by simp,fun r h=>(by cases h),fun r h=>(by cases h),fun j r h=>(by simp at h)⟩,Nat.le_refl _,rfl⟩ (fun i σ H' _ ⟨_,_,_,_,_,_,s2,_⟩=>s2.seq ha) ?_ ?_
  ·rintro i y σ H1 hi ⟨KL,ks,v3,v4,v5,rfl,s1,hk1,KA,hKi,hh⟩
   rw[List.getElem?_map] at hi
   obtain⟨q,hq,rfl⟩:=Option.map_eq_some_iff.mp hi
   have hil:i<R.length:=by rw[←hrl];exact (List.getElem?_eq_some_iff.mp hq).1
   have hei:R[i]?=some R[i]:=List.getElem?_eq_getElem hil
   have hq0:H q=some (rowO R[i]):=hm.2 i q _ hq (by rw[List.getElem?_map,hei];rfl)
   have hqk:q≠kp:=ne_of_none hq0 hkp
   have hRm:=List.mem_of_getElem? hei
   have dr:R.drop i=R[i]::R.drop (i+1):=List.drop_eq_getElem_cons hil
   have hkl:ks.length=KL.length:=by rw[KA.made.1,List.length_map]
   refine⟨_,rfl,?_⟩
   refine⟨_,rfl,kp,rfl,⟨_,SqL.of hk1⟩,?_⟩
   refine for_list (K:=K) (a:=kp) (xs:=ks.map V.ref) (fun j σ H'=>∃(l:Addr) (v5:Option V),σ=[some (nV p),some (.ref a),some (.ref kp),some (.ref q),some (.ref l),v5]∧Same H1 H'∧l≠kp∧H' l=some (rowO (leftOf p R[i] (KL.take j)))∧SmallR (ee j) (leftOf p R[i] (KL.take j)))
    ⟨q,v5,rfl,Same.refl _,hqk,s1 _ _ hq0,(hsm _ hRm)⟩ (fun j σ H' _ ⟨_,_,_,s2,_⟩=>s2.seq (SqL.of hk1)) ?_ ?_
   ·rintro j y σ H2 hj ⟨l,v5,rfl,s2,hlk,hl2,hls⟩
    rw[List.getElem?_map] at hj
    obtain⟨u,hu,rfl⟩:=Option.map_eq_some_iff.mp hj
    have hjl:j<KL.length:=by rw[←hkl];exact (List.getElem?_eq_some_iff.mp hu).1
    have hej:KL[j]?=some KL[j]:=List.getElem?_eq_getElem hjl
    have hKm:=List.mem_of_getElem? hej
    have hu1:H1 u=some (rowO KL[j]):=KA.made.2 j u _ hu (by rw[List.getElem?_map,hej];rfl)
    have hj8:j≤8:=by omega
    have tk:KL.take (j+1)=KL.take j++[KL[j]]:=by rw[List.take_succ,hej];rfl
    refine⟨_,rfl,_,rfl,_,rfl,p,n,l,u,leftOf p R[i] (KL.take j),KL[j],rfl,SqL.of hl2,SqL.of (s2 _ _ hu1),by rw[left_len];exact hn _ hRm,KA.len _ hKm,hn100,KA.any _ hKm,fun z hz=>(hls z hz).mono (ee_le hj8),fun z hz=>(KA.small j _ hej z hz).mono (ee_le hj8),fun H3 c s3 hc e3=>?_⟩
    refine⟨c,some (.ref u),rfl,s2.trans s3,fun z=>?_,?_,?_⟩
    ·subst z;rw[s2 _ _ hk1] at hc;cases hc
    ·rw[tk,left_snoc];exact e3
    ·rw[tk,left_snoc]
     have:=(small_clr hp hls (KA.small j _ hej)).2 (by have:=ee_ge j;omega)
     rw[ee_succ] at this
     exact this
   ·rintro σ H2 ⟨l,v5,rfl,s2,hlk,hl2,hls⟩
    have htk:KL.take (ks.map V.ref).length=KL:=by rw[List.length_map,hkl,List.take_length]
    rw[htk] at hl2 hls
    rw[List.length_map,hkl] at hls
    refine⟨_,rfl,l,leftOf p R[i] KL,rfl,SqL.of hl2,_,rfl,?_⟩
    have hstep:hang p KL (R[i]::R.drop (i+1))=if (leftOf p R[i] KL).any (fun z=>z !=0) then hang p (KL++[leftOf p R[i] KL]) (R.drop (i+1)) else true:=rfl
    rw[dr,hstep] at hh
    cases hb:(leftOf p R[i] KL).any (fun z=>z !=0) with
    |false =>
     rw[hb,if_neg Bool.false_ne_true] at hh
     refine iteT ?_
     have:=k H2 (s1.trans s2)
     rw[hh] at this
     exact this
    |true =>
     rw[hb,if_pos rfl] at hh
     refine iteF ?_
     have hk2:=s2 _ _ hk1
     refine⟨_,rfl,.inl ⟨rfl,_,SqL.of hk2⟩,_,rfl,kp,_,_,rfl,rfl,hk2,?_,?_⟩
     ·rw[List.length_map,hkl]
      have:(100000:Nat)<sizeLine:=by decide
      omega
     ·refine⟨KL++[leftOf p R[i] KL],ks++[l],some (.ref q),some (.ref l),v5,rfl,same_upd (s1.trans s2) hkp,by rw[upd_same,List.map_append];rfl,⟨⟨by rw[List.length_append,List.length_map,List.length_append,hkl];rfl,fun j r o h1 h2=>?_⟩,?_,?_,?_,?_⟩,by rw[List.length_append];show KL.length+1≤i+1;omega,hh⟩
      ·have hrk:r≠kp:=fun z=>by
        have:=List.mem_of_getElem? h1
        rw[List.mem_append,List.mem_singleton] at this
        rcases this with q1|q1
        ·exact KA.ne (z ▸ q1)
        ·exact hlk (q1 ▸ z)
       rw[upd_ne hrk]
       rw[List.map_append] at h2
       by_cases hj:j<ks.length
       ·rw[List.getElem?_append_left hj] at h1
        rw[List.getElem?_append_left (by rw[List.length_map];omega)] at h2
        exact s2 _ _ (KA.made.2 j r o h1 h2)
       ·have hj':j=ks.length:=by
         have:=(List.getElem?_eq_some_iff.mp h1).1
         rw[List.length_append,List.length_singleton] at this;omega
        subst hj'
        rw[List.getElem?_append_right (Nat.le_refl _),Nat.sub_self] at h1
        rw[List.getElem?_append_right (by rw[List.length_map];omega),List.length_map,hkl,Nat.sub_self] at h2
        have h1:l=r:=Option.some.inj h1
        have h2:rowO (leftOf p R[i] KL)=o:=Option.some.inj h2
        rw[←h1,←h2];exact hl2
      ·rw[List.mem_append,List.mem_singleton]
       rintro (q1|q1)
       ·exact KA.ne q1
       ·exact hlk q1.symm
      ·intro r hr'
       rcases List.mem_append.mp hr' with q1|q1
       ·exact KA.len r q1
       ·rw[List.mem_singleton.mp q1,left_len];exact hn _ hRm
      ·intro r hr'
       rcases List.mem_append.mp hr' with q1|q1
       ·exact KA.any r q1
       ·rw[List.mem_singleton.mp q1];exact hb
      ·intro j r h1
       by_cases hj:j<KL.length
       ·rw[List.getElem?_append_left hj] at h1
        exact KA.small j r h1
       ·have hj':j=KL.length:=by
         have:=(List.getElem?_eq_some_iff.mp h1).1
         rw[List.length_append,List.length_singleton] at this;omega
        subst hj'
        rw[List.getElem?_append_right (Nat.le_refl _),Nat.sub_self] at h1
        have h1:leftOf p R[i] KL=r:=Option.some.inj h1
        rw[←h1];exact hls
  ·rintro σ H1 ⟨KL,ks,v3,v4,v5,rfl,s1,hk1,KA,hKi,hh⟩
   rw[List.length_map,hrl,List.drop_length] at hh
   have:=k H1 s1
   rw[hh] at this
   exact this
theorem inV_nats (x:Nat) (l:List Nat):inV (nV x) (natsV l)=decide (x∈l):=by
 unfold inV natsV
 rw[List.any_map,Bool.eq_iff_iff,List.any_eq_true,decide_eq_true_eq]
 constructor
 ·rintro⟨y,hy,e⟩
  have e:((y:Int)==(x:Int))=true:=e
  have:y=x:=by have:=eq_of_beq e;omega
  exact this ▸ hy
 ·intro h
  exact⟨x,h,by show ((x:Int)==(x:Int))=true;simp⟩
theorem flat_nats (l:List Nat):(natsV l).all flatV=true:=by
 unfold natsV
 rw[List.all_map,List.all_eq_true]
 intro x _
 rfl
theorem nmin {l:List Nat} {m:Int} (hm:m∈l.map fun (n:Nat)=>(n:Int)) (h:∀y,y∈l.map (fun (n:Nat)=>(n:Int))→m≤y):∃k:Nat,m=(k:Int)∧k∈l∧∀y,y∈l→k≤y:=by
 obtain⟨n,hn,rfl⟩:=List.mem_map.mp hm
 exact⟨n,rfl,hn,fun y hy=>Int.ofNat_le.mp (h y (List.mem_map.mpr ⟨y,hy,rfl⟩))⟩
def spParts (C:Addr):Sp:=fun vs H Q _=>∃(a:Addr) (m:Bond),vs=[.ref a]∧BondAt C H a m∧Good m∧∀(H':Hp) (p:Addr),Same H H'→H' p=some (.lst (natsV m.leasts))→Q (.ref p) H'
theorem scParts:FnScope ["bond","least","tied","marks","lowest","thing","mark"] ["bond"] (defScope sParts):=⟨rfl,rfl,rfl,by decide +kernel,rfl,by decide +kernel,by decide +kernel⟩
theorem ok_parts {f:Addr} {fd:FuncData} (F:Fun K "least_of_parts" "least_of_parts" sParts f fd) (T:Names mg) (B:BCls K mg C) (C1:Callee P w K mg base 4 "rounds_of" ["bond"] (spRounds C)) (C2:Callee P w K mg base 1 "members" ["s"] spMembers):FnOk P w K mg base CX0 5 f fd ["bond"] (spParts C):=by
 refine F.ok scParts (fun vs H Q E h=>?_) (fun cdv A outer s H vs Q E hr h=>?_)
 ·obtain⟨a,m,rfl,_⟩:=h
  rfl
 ·obtain⟨a,m,rfl,hB,g,k⟩:=h
  have hr1:Room 1 _:=hr.mono (by decide)
  refine⟨_,pss_cons (ps_set (i:=1) scParts.nd rfl (Or.inr rfl) (pe_callTy (call_listRange rfl) rfl T.list bo_list (pa_cons (pe_callTy call_rangeR rfl T.range bo_range (pa_cons (pe_fld (pv 0) rfl) pa_nil)) pa_nil)))
   (pss_cons (ps_for PassesOwn.never rfl (pi_list (pcall C1 hr rfl (pa_cons (pv 0) pa_nil))) (pg_name (i:=2) scParts.nd rfl (Or.inl rfl))
    (pss_cons (ps_set (i:=3) scParts.nd rfl (Or.inr rfl) (pe_lc (own:=[("thing",5)]) rfl scParts.nd (pi_list (pcall C2 hr1 rfl (pa_cons (pv 2) pa_nil))) (blkOk_by (N:=["bond","least","tied","marks","lowest","thing","mark"]) (sc:=defScope sParts) (by decide +kernel)) (fun s H C cl fp=>pg_name (i:=5) scParts.nd rfl (Or.inl rfl)) (fun s H C cl fp=>pts_nil)
      (fun s H C cl fp=>pe_ix (r:=rIxL K) ix_list (pv 1) (pv 5) (fun _ _=>rfl))))
    (pss_cons (ps_set (i:=4) scParts.nd rfl (Or.inr rfl) (pe_callB (cr_min rfl) rfl T.min bo_min (pa_cons (pv 3) pa_nil)))
    (pss_one (ps_set (i:=1) scParts.nd rfl (Or.inr rfl) (pe_lc (own:=[("mark",6)]) rfl scParts.nd (pi_list (pv 1)) (blkOk_by (N:=["bond","least","tied","marks","lowest","thing","mark"]) (sc:=defScope sParts) (by decide +kernel)) (fun s H C cl fp=>pg_name (i:=6) scParts.nd rfl (Or.inl rfl)) (fun s H C cl fp=>pts_nil)
      (fun s H C cl fp=>pe_ifExp (pt_cmpR (r:=rIn K false) op_in_seq (pv 6) (pv 3) (by rfl)) (pv 4) (pv 6))))))))
   (pss_one (ps_ret (pv 1)))),?_⟩
  have hB':=hB
  obtain⟨dx,l,h1,h2⟩:=hB'
  refine⟨_,rfl,a,C,dx,_,_,rfl,h1,B.cl,B.nT,bf_things _ _,(m.n:Int),rfl,fun r hr0=>?_⟩
  refine⟨r,(m.n:Int),rfl,upd_same,by omega,by have:=g.n8;omega,fun p hp=>?_⟩
  have s0:Same H (upd (upd H r (.rng 0 (m.n:Int))) p (.lst ((List.range ((m.n:Int)).toNat).map fun (i:Nat)=>V.int i))):=(same_new hr0).trans (same_new hp)
  generalize hH0:upd (upd H r (.rng 0 (m.n:Int))) p (.lst ((List.range ((m.n:Int)).toNat).map fun (i:Nat)=>V.int i))=H0 at s0 ⊢
  have hp0:H0 p=some (.lst (natsV (List.range m.n))):=by rw[←hH0,upd_same,Int.toNat_natCast];rfl
  refine⟨_,rfl,a,m,rfl,hB.same s0,g,fun H1 q s1 _ hq=>⟨q,rfl,⟨_,SqL.of hq⟩,?_⟩⟩
  have hlen:m.rounds.length≤256:=by
   refine Nat.le_trans (List.length_filter_le _ _) ?_
   rw[show (sets m.n).length=2^m.n from List.length_range]
   exact pow_le_256 g.n8
  refine for_list (K:=K) (a:=q) (xs:=natsV m.rounds) (fun i σ H'=>∃(L:List Nat) (p':Addr) (v2 v3 v4 v5 v6:Option V),σ=[some (.ref a),some (.ref p'),v2,v3,v4,v5,v6]∧Same H1 H'∧H' p'=some (.lst (natsV L))∧Marks m.n (m.rounds.take i) L)
   ⟨List.range m.n,p,none,none,none,none,none,rfl,Same.refl _,s1 _ _ hp0,marks_start m.n⟩ (fun i σ H' _ ⟨_,_,_,_,_,_,_,_,s2,_⟩=>s2.seq (SqL.of hq)) ?_ ?_
  ·rintro i y σ H' hi ⟨L,p',v2,v3,v4,v5,v6,rfl,s2,hL,M⟩
   obtain⟨t,ht,rfl⟩:∃t,m.rounds[i]?=some t∧y=nV t:=by
    unfold natsV at hi
    rw[List.getElem?_map] at hi
    obtain⟨t,h1,h2⟩:=Option.map_eq_some_iff.mp hi
    exact⟨t,h1,h2.symm⟩
   have htm:=List.mem_of_getElem? ht
   obtain⟨ht1,ht2⟩:=List.mem_filter.mp htm
   have htn:=mem_sets.mp ht1
   rw[Bool.and_eq_true,Bool.not_eq_true'] at ht2
   have hne:things t≠[]:=fun q=>by
    have:t=0:=size_eq_zero (lt256 g.n8 htn) (by show (things t).length=0;rw[q];rfl)
    rw[this,loose_zero g.ne] at ht2
    cases ht2.1
   have hin:∀x,x∈things t→x<m.n:=fun x hx=>bit_in htn (mem_things.mp hx).2
   have tk:m.rounds.take (i+1)=m.rounds.take i++[t]:=by rw[List.take_succ,ht];rfl
   dsimp only [gName,tSeq,tNext,tAsg]
   refine lcNg (L:=things t) (fun _=>true) (fun x=>nV (L.getD x 0)) (Nat.le_trans (things_len t) (by decide)) (fun R hR=>⟨_,rfl,t,rfl,lt256 g.n8 htn,fun H3 p3 s3 _ e=>hR H3 p3 s3 (SqL.of e)⟩) (fun x H3 R S hx s3 a1 a2=>?_) (fun D H3 s3 hD e3=>?_)
   ·refine⟨rfl,iteT (B:=S H3) ⟨_,rfl,_,rfl,p',_,_,_,rfl,rfl,s3.seq (SqL.of hL),at_of (j:=x) (v:=nV (L.getD x 0)) rfl ?_,a1 rfl H3 (Same.refl _)⟩⟩
    unfold natsV
    have:=hin x hx
    rw[List.getElem?_map,List.getElem?_eq_getElem (by rw[M.len];exact this),List.getD_eq_getElem?_getD,List.getElem?_eq_getElem (by rw[M.len];exact this)]
    rfl
   ·rw[filter_true] at e3
    have e3':H3 D=some (.lst (natsV ((things t).map fun x=>L.getD x 0))):=by rw[e3];unfold natsV;rw[List.map_map];rfl
    refine⟨_,rfl,D,((things t).map fun x=>L.getD x 0).map (fun (n:Nat)=>(n:Int)),rfl,by rw[←natsV_ints];exact SqL.of e3',?_,fun z hz hle=>?_⟩
    ·rw[List.length_map,List.length_map];exact List.length_pos_iff.mpr hne
    ·obtain⟨low,rfl,lw1,lw2⟩:=nmin hz hle
     refine lcNg (L:=L) (fun _=>true) (fun k=>nV (if k∈(things t).map (fun x=>L.getD x 0) then low else k)) (by rw[M.len];have:=g.n8;omega) (by exact tl_var rfl (s3.seq (SqL.of hL))) (fun x H4 R S hx s4 a1 a2=>?_) (fun D2 H4 s4 hD2 e4=>?_)
     ·refine⟨rfl,iteT (B:=S H4) ⟨_,rfl,_,rfl,D,_,rfl,.inl (s4.seq (SqL.of e3')),rfl,flat_nats _,_,rfl,?_⟩⟩
      have:=a1 rfl H4 (Same.refl _)
      show if inV (nV x) (natsV ((things t).map fun x=>L.getD x 0))=true then _ else _
      rw[inV_nats]
      by_cases hm:x∈(things t).map fun x=>L.getD x 0
      ·rw[decide_eq_true hm]
       rw[if_pos hm] at this
       exact iteT ⟨_,rfl,this⟩
      ·rw[decide_eq_false hm]
       rw[if_neg hm] at this
       exact iteF ⟨_,rfl,this⟩
     ·rw[filter_true] at e4
      refine⟨tie L low ((things t).map fun x=>L.getD x 0),D2,some (nV t),some (.ref D),some (nV low),v5,v6,rfl,(s2.trans s3).trans s4,?_,?_⟩
      ·rw[e4];unfold natsV tie;rw[List.map_map];rfl
      ·rw[tk]
       refine marks_step g.n8 M htn (fun k=>?_) lw1 lw2
       rw[List.mem_map]
       constructor
       ·rintro⟨x,hx,e⟩
        obtain⟨x1,x2⟩:=mem_things.mp hx
        exact⟨x,x1,x2,e⟩
       ·rintro⟨x,x1,x2,e⟩
        exact⟨x,mem_things.mpr ⟨x1,x2⟩,e⟩
  ·rintro σ H' ⟨L,p',v2,v3,v4,v5,v6,rfl,s2,hL,M⟩
   refine⟨_,rfl,k H' p' ((s0.trans s1).trans s2) ?_⟩
   rw[hL]
   congr 3
   refine leasts_eq g.n8 ?_
   have:m.rounds.take (natsV m.rounds).length=m.rounds:=by unfold natsV;rw[List.length_map,List.take_length]
   rw[this] at M
   exact M
def ModuliOk (K:PySem.W.Frag) (mg:Str→Option Value):Prop:=∃(d:Addr) (o:Obj) (its:Array Value) (n:Nat),mg "MODULI"=some (.ref d)∧K.lookup d=some o∧o.cls=.type "tuple"∧o.data=.seq its n∧its.size≤sizeLine∧Vals (natsV [0,2,3,5,7]) its.toList
def spAreRows (K:PySem.W.Frag):Sp:=fun vs H Q _=>∃(p n:Nat) (a:Addr) (l:List Int),vs=[nV p,nV n,.ref a]∧SqL K H a (intsV l)∧l.length≤9200∧∀H',Same H H'→Q (.bl (rowsOk p n l)) H'
theorem scAreRows:FnScope ["modulus","length","numbers","number"] ["modulus","length","numbers"] (defScope sAreRows):=⟨rfl,rfl,rfl,by decide +kernel,rfl,by decide +kernel,by decide +kernel⟩
theorem ok_areRows {f:Addr} {fd:FuncData} (F:Fun K "are_rows" "are_rows" sAreRows f fd) (T:Names mg) (hMo:ModuliOk K mg) (hL:∃t,mg "LONGEST"=some (.int 6 t)) (hM:∃t,mg "MOST_ROWS"=some (.int 8 t)) (hG:∃t,mg "GREATEST"=some (.int 1000 t)):FnOk P w K mg base CX0 1 f fd ["modulus","length","numbers"] (spAreRows K):=by
 obtain⟨d,o,its,c,m1,m2,m3,m4,m5,m6⟩:=hMo
 obtain⟨tl,hL⟩:=hL
 obtain⟨tm,hM⟩:=hM
 obtain⟨tg,hG⟩:=hG
 refine F.ok scAreRows (fun vs H Q E h=>?_) (fun cdv A outer s H vs Q E hr h=>?_)
 ·obtain⟨p,n,a,l,rfl,_⟩:=h
  rfl
 ·obtain⟨p,n,a,l,rfl,hl,hz,k⟩:=h
  refine⟨_,pss_cons (ps_if (PW.pt (pw_or (pt_cmpR (r:=rIn K true) op_notIn_seq (pv 0) (pe_glob (v:=.ref d) rfl m1 rfl) (by rfl)) (pw_or (pt_cmpR op_lt (pv 1) pe_int (nomark _)) (pw_or1 (pt_cmpR op_gt (pv 1) (pe_glob (v:=.int 6) rfl hL ⟨tl,rfl⟩) (nomark _)))))) (pss_one (ps_ret pe_bl)) pss_nil)
   (pss_cons (ps_if (PW.pt (pw_or (pt_cmpR op_ne (pe_op op_mod (pe_callB call_len_seq rfl T.len PySem.boot_len (pa_cons (pv 2) pa_nil)) (pv 1)) pe_int (nomark _)) (pw_or1 (pt_cmpR op_gt (pe_callB call_len_seq rfl T.len PySem.boot_len (pa_cons (pv 2) pa_nil)) (pe_op op_mul (pe_glob (v:=.int 8) rfl hM ⟨tm,rfl⟩) (pv 1)) (nomark _))))) (pss_one (ps_ret pe_bl)) pss_nil)
   (pss_one (ps_ret (pe_callB (cr_all rfl) rfl T.all bo_all (pa_cons
     (pe_lc (own:=[("number",3)]) rfl scAreRows.nd (pi_list (pv 2)) (blkOk_by (N:=["modulus","length","numbers","number"]) (sc:=defScope sAreRows) (by decide +kernel)) (fun s H C cl fp=>pg_name (i:=3) scAreRows.nd rfl (Or.inl rfl)) (fun s H C cl fp=>pts_nil)
      (fun s H C cl fp=>pe_chain op_le op_le (pe_un un_neg (pe_glob (v:=.int 1000) rfl hG ⟨tg,rfl⟩)) (pv 3) (pe_glob (v:=.int 1000) rfl hG ⟨tg,rfl⟩))) pa_nil))))),?_⟩
  have hSq:SqT K H d (natsV [0,2,3,5,7]):=.inr ⟨o,its,c,m2,m3,m4,m5,m6⟩
  have hlen:(intsV l).length=l.length:=by unfold intsV;rw[List.length_map]
  have fin:rowsOk p n l=false→Q (.bl false) H:=fun q=>by
   have:=k H (Same.refl _)
   rw[q] at this
   exact this
  refine⟨_,rfl,d,_,rfl,.inr hSq,rfl,flat_nats _,_,rfl,?_⟩
  rw[inV_nats]
  by_cases hp:p∈[0,2,3,5,7]
  ·have hpc:[0,2,3,5,7].contains p=true:=List.contains_iff_mem.mpr hp
   rw[decide_eq_true hp]
   refine iteF ?_
   refine⟨_,rfl,_,_,rfl,rfl,_,rfl,?_⟩
   by_cases h1:1≤n
   ·rw[decide_eq_false (by omega:¬((n:Int)<1))]
    refine iteF ?_
    refine⟨_,rfl,_,_,rfl,rfl,_,rfl,?_⟩
    by_cases h6:n≤6
    ·rw[decide_eq_false (by show ¬((n:Int)>6);omega)]
     refine iteF ?_
     refine⟨_,rfl,a,_,rfl,.inl hl,_,rfl,_,_,rfl,rfl,(by show (0:Int)<(n:Int);omega),rfl,_,rfl,?_⟩
     rw[hlen]
     have e1:decide (V.int ((l.length:Int)%(n:Int))=V.int 0)=decide (l.length%n=0):=by
      rw[dec_int,←Int.natCast_emod]
      by_cases h:l.length%n=0
      ·rw[decide_eq_true h,beq_iff_eq];omega
      ·rw[decide_eq_false h,beq_eq_false_iff_ne];intro q;omega
     dsimp only
     rw[e1]
     by_cases h2:l.length%n=0
     ·rw[decide_eq_true h2]
      refine iteF ?_
      refine⟨_,rfl,a,_,rfl,.inl hl,_,rfl,_,_,rfl,rfl,.inl ⟨by decide,by decide⟩,_,_,rfl,rfl,_,rfl,?_⟩
      rw[hlen]
      by_cases h3:l.length≤n*8
      ·rw[decide_eq_false (by show ¬((l.length:Int)>8*(n:Int));omega)]
       refine iteF ?_
       dsimp only [tNext,tSeq,tRet,tCB,tCons,tNil]
       refine lcI (L:=l) (fun z=>V.bl (decide (z.natAbs≤1000))) (by omega) (fun R hR=>⟨_,rfl,hR H a (Same.refl _) hl⟩) (fun x H1 R S hx s1 a1=>?_) (fun D H1 s1 hD e3=>?_)
       ·refine⟨rfl,iteT (B:=S H1) ⟨_,rfl,_,rfl,_,_,rfl,rfl,_,rfl,?_⟩⟩
        have:=a1 H1 (Same.refl _)
        by_cases hx1:-1000≤x
        ·rw[decide_eq_true (show (-1000:Int)≤x from hx1)]
         refine iteT ⟨_,_,rfl,rfl,?_⟩
         rw[show decide (x.natAbs≤1000)=decide (x≤1000) from decide_eq_decide.mpr (by omega)] at this
         exact this
        ·rw[decide_eq_false (show ¬(-1000:Int)≤x from hx1)]
         refine iteF ?_
         rw[decide_eq_false (by omega:¬x.natAbs≤1000)] at this
         exact this
       ·refine⟨D,l.map fun z=>decide (z.natAbs≤1000),rfl,SqL.of (by rw[e3,List.map_map];rfl),?_⟩
        rw[List.all_map]
        have:=k H1 s1
        unfold rowsOk at this
        rw[hpc,decide_eq_true h1,decide_eq_true h6,decide_eq_true h2,decide_eq_true (show l.length≤n*BindNs.THINGS from h3)] at this
        exact this
      ·rw[decide_eq_true (by show ((l.length:Int)>8*(n:Int));omega)]
       refine iteT (fin ?_)
       unfold rowsOk
       rw[decide_eq_false (show ¬l.length≤n*BindNs.THINGS from h3)];simp
     ·rw[decide_eq_false h2]
      refine iteT (iteT (fin ?_))
      unfold rowsOk
      rw[decide_eq_false h2];simp
    ·rw[decide_eq_true (by show ((n:Int)>6);omega)]
     refine iteT (fin ?_)
     unfold rowsOk
     rw[decide_eq_false h6];simp
   ·rw[decide_eq_true (by omega:((n:Int)<1))]
    refine iteT (iteT (fin ?_))
    unfold rowsOk
    rw[decide_eq_false h1];simp
  ·rw[decide_eq_false hp]
   refine iteT (iteT (fin ?_))
   unfold rowsOk
   have:[0,2,3,5,7].contains p=false:=by rw[Bool.eq_false_iff];exact fun q=>hp (List.contains_iff_mem.mp q)
   rw[this];rfl
open BindNs (things size Bond sets lower rowsOk rowsIn rowRank)
theorem rowsIn_get (k:Nat):∀(f:Nat) (l:List Int) (i:Nat),i<f→(rowsIn k f l)[i]?=some ((l.drop (i*k)).take k)
 |0,l,i,h=>by omega
 |f+1,l,0,h=>by rw[Nat.zero_mul];rfl
 |f+1,l,i+1,h=>by
  show (rowsIn k f (l.drop k))[i]?=_
  rw[rowsIn_get k f (l.drop k) i (by omega),List.drop_drop,Nat.succ_mul,Nat.add_comm]
theorem rowsIn_len (k:Nat):∀(f:Nat) (l:List Int),(rowsIn k f l).length=f
 |0,l=>rfl
 |f+1,l=>by
  show (rowsIn k f (l.drop k)).length+1=f+1
  rw[rowsIn_len k f]
theorem cut_row {l:List Int} {i n:Nat} (h:(i+1)*n≤l.length):cutV (intsV l) (some ((0:Int)+(i:Nat)*(n:Int))) (some ((0:Int)+(i:Nat)*(n:Int)+(n:Int)))=intsV ((l.drop (i*n)).take n):=by
 unfold cutV
 have hl:(intsV l).length=l.length:=by unfold intsV;rw[List.length_map]
 have e1:((0:Int)+(i:Nat)*(n:Int))=((i*n:Nat):Int):=by push_cast;omega
 have e2:((0:Int)+(i:Nat)*(n:Int)+(n:Int))=((i*n+n:Nat):Int):=by push_cast;omega
 have h1:i*n+n≤l.length:=by rw[←Nat.succ_mul];exact h
 rw[e2,e1,hl]
 have s1:HT.sIx l.length 0 (some ((i*n:Nat):Int))=i*n:=by
  unfold HT.sIx
  dsimp only
  rw[if_neg (by omega),Int.toNat_natCast];omega
 have s2:HT.sIx l.length l.length (some ((i*n+n:Nat):Int))=i*n+n:=by
  unfold HT.sIx
  dsimp only
  rw[if_neg (by omega),Int.toNat_natCast];omega
 rw[s1,s2,Nat.add_sub_cancel_left]
 unfold intsV
 rw[List.map_take,List.map_drop]
theorem scOfRows:FnScope ["modulus","length","numbers","rows","many","loose","at","s","thing"] ["modulus","length","numbers"] (defScope sOfRows):=⟨rfl,rfl,rfl,by decide +kernel,rfl,by decide +kernel,by decide +kernel⟩
abbrev scLooseR:Scope:=lcScope (asgVal ((defBody sOfRows).getD 2 (.Pass ⟨0,0,0,0⟩)))
def spOfRows (K:PySem.W.Frag) (C:Addr):Sp:=fun vs H Q _=>∃(p n:Nat) (a:Addr) (l:List Int),vs=[nV p,nV n,.ref a]∧SqL K H a (intsV l)∧rowsOk p n l=true∧∀(H':Hp) (b:Addr),Same H H'→H b=none→BondAt C H' b (BindNs.ofRows p n (rowsIn n (l.length / n) l))→Q (.ref b) H'
theorem ok_ofRows {f:Addr} {fd:FuncData} (F:Fun K "bond_of_rows" "bond_of_rows" sOfRows f fd) (T:Names mg) (C1:Callee P w K mg base 1 "members" ["s"] spMembers) (C2:Callee P w K mg base 3 "hang_together" ["modulus","rows"] (spHang K)) (C3:Callee P w K mg base 3 "bond_of_loose" ["things","loose"] (spOfLoose K C)) (C4:Callee P w K mg base 1 "reduced" ["modulus","row"] spReduced) :
  FnOk P w K mg base CX0 4 f fd ["modulus","length","numbers"] (spOfRows K C):=by
 refine F.ok scOfRows (fun vs H Q E h=>?_) (fun cdv A outer s H vs Q E hr h=>?_)
 ·obtain⟨p,n,a,l,rfl,_⟩:=h
  rfl
 ·obtain⟨p,n,a,l,rfl,hl,hok,k⟩:=h
  have hr1:Room 1 _:=hr.mono (by decide)
  refine⟨_,pss_cons (ps_set (i:=3) scOfRows.nd rfl (Or.inr rfl) (pe_lc (own:=[("at",6)]) rfl scOfRows.nd (pi_range3 rfl T.range (pa_cons pe_int (pa_cons (pe_callB call_len_seq rfl T.len PySem.boot_len (pa_cons (pv 2) pa_nil)) (pa_cons (pv 1) pa_nil)))) (blkOk_by (N:=["modulus","length","numbers","rows","many","loose","at","s","thing"]) (sc:=defScope sOfRows) (by decide +kernel)) (fun s H C cl fp=>pg_name (i:=6) scOfRows.nd rfl (Or.inl rfl)) (fun s H C cl fp=>pts_nil)
    (fun s H C cl fp=>pcall C4 hr1 rfl (pa_cons (pv 0) (pa_cons (pe_slice (r:=rSlL K) sl_list (pv 2) (po_some (pv 6)) (po_some (pe_op op_add (pv 6) (pv 1)))) pa_nil)))))
   (pss_cons (ps_set (i:=4) scOfRows.nd rfl (Or.inl rfl) (pe_callB call_len_seq rfl T.len PySem.boot_len (pa_cons (pv 3) pa_nil)))
   (pss_cons (ps_setLc (i:=5) (own:=[("s",7)]) rfl scOfRows.nd rfl rfl (sw_true rfl rfl rfl rfl) (pi_range1 rfl T.range (pa_cons (pe_op op_shl pe_int (pv 4)) pa_nil)) (blkOk_by (N:=["modulus","length","numbers","rows","many","loose","at","s","thing"]) (sc:=defScope sOfRows) (by decide +kernel)) (fun s H C cl fp=>pg_name (i:=7) scOfRows.nd rfl (Or.inl rfl))
     (fun s H C cl fp=>pts_one (pt_not (pt_val (pcall C2 hr rfl (pa_cons (pv 0) (pa_cons (pe_lc (own:=[("thing",8)]) rfl scOfRows.nd (pi_listK (K:=K) rfl (pcall C1 hr1 rfl (pa_cons (pv 7) pa_nil))) (blkOk_by (N:=["modulus","length","numbers","rows","many","loose","at","s","thing"]) (sc:=relS scLooseR (defScope sOfRows)) (by decide +kernel)) (fun s H C cl fp=>pg_name (i:=8) scOfRows.nd rfl (Or.inl rfl)) (fun s H C cl fp=>pts_nil)
      (fun s H C cl fp=>pe_ix (r:=rIxL K) ix_list (pv 3) (pv 8) (fun _ _=>rfl))) pa_nil)))))) (fun s H C cl fp=>pv 7))
   (pss_one (ps_ret (pcall C3 hr rfl (pa_cons (pv 4) (pa_cons (pv 5) pa_nil))))))),?_⟩
  obtain⟨m,hm,hm8,hn1,hn6,hp,hsm⟩:∃m,l.length=m*n∧m≤8∧1≤n∧n≤6∧Pr p∧∀z,z∈l→z.natAbs≤1000:=by
   unfold rowsOk at hok
   rw[Bool.and_eq_true,Bool.and_eq_true,Bool.and_eq_true,Bool.and_eq_true,Bool.and_eq_true,decide_eq_true_eq,decide_eq_true_eq,decide_eq_true_eq,decide_eq_true_eq,List.all_eq_true,List.contains_iff_mem] at hok
   obtain⟨h1,h2,h3,h4,h5,h6⟩:=hok
   have hd:l.length=l.length / n*n:=by
    have:=Nat.div_add_mod l.length n
    rw[h4,Nat.add_zero,Nat.mul_comm] at this
    exact this.symm
   refine⟨l.length / n,hd,?_,h2,h3,?_,fun z hz=>of_decide_eq_true (h6 z hz)⟩
   ·have h5:l.length≤n*8:=h5
    exact Nat.div_le_of_le_mul h5
   ·simp only [List.mem_cons,List.not_mem_nil,or_false] at h1
    exact h1
  have hdiv:l.length / n=m:=by rw[hm];exact Nat.mul_div_cancel m (by omega)
  rw[hdiv] at k
  have hmn:m*n≤48:=Nat.mul_le_mul hm8 hn6
  have hRl:=rowsIn_len n m l
  have hRg:=rowsIn_get n m l
  have hrow:∀i,i<m→((l.drop (i*n)).take n).length=n:=fun i hi=>by
   rw[List.length_take,List.length_drop,hm]
   have:(i+1)*n≤m*n:=Nat.mul_le_mul_right n hi
   rw[Nat.succ_mul] at this
   omega
  have hlen:(intsV l).length=l.length:=by unfold intsV;rw[List.length_map]
  dsimp only [tSeq,tAsg]
  refine lcCg (lo:=0) (c:=(n:Int)) (n:=m) (fun i=>rowO (((l.drop (i*n)).take n).map (lower p))) (by omega) ⟨(l.length:Int),rgc l.length n m (by omega) (by omega) (by omega) hm,fun R hR=>?_⟩ (fun i H' R S hi s1 a1=>?_) (fun D H1 rs s1 hD e1 hmd=>?_)
  ·refine⟨_,rfl,a,_,rfl,.inl hl,_,rfl,?_⟩
   rw[hlen]
   exact hR H (Same.refl _)
  ·have hc:(i+1)*n≤l.length:=by rw[hm];exact Nat.mul_le_mul_right n hi
   refine⟨rfl,iteT (B:=S H') ⟨_,rfl,_,rfl,_,rfl,_,rfl,_,rfl,_,rfl,_,_,rfl,rfl,_,rfl,a,_,rfl,s1.seq hl,fun q hq=>?_⟩⟩
   refine⟨p,q,(l.drop (i*n)).take n,rfl,?_,by rw[hrow i hi];omega,fun H4 b s4 hb e4=>?_⟩
   ·rw[upd_same]
    exact congrArg (fun z=>some (HO.lst z)) (cut_row hc)
   ·refine a1 b H4 ((same_new hq).trans s4) ?_ e4
    rcases hb with z|z
    ·rw[z];exact hq
    ·exact (same_new hq).free z
  ·have hrl:rs.length=m:=by rw[hmd.1,List.length_map,List.length_range]
   refine⟨_,rfl,D,_,rfl,.inl (SqL.of e1),?_⟩
   have em:V.int (((rs.map V.ref).length:Nat):Int)=nV m:=by rw[List.length_map,hrl];rfl
   rw[em]
   have h256:=pow_le_256 hm8
   generalize hRR:rowsIn n m l=RR at *
   have hRm:∀r,r∈RR→r.length=n:=fun r hr'=>by
    obtain⟨i,hi⟩:=List.mem_iff_getElem?.mp hr'
    have him:i<m:=by rw[←hRl];exact (List.getElem?_eq_some_iff.mp hi).1
    rw[hRg i him] at hi
    cases hi
    exact hrow i him
   have hgd:∀i,i<m→RR.getD i []=(l.drop (i*n)).take n:=fun i hi=>by rw[List.getD_eq_getElem?_getD,hRg i hi];rfl
   have hsmR:∀i,i<m→SmallR 10 ((RR.getD i []).map (lower p)):=fun i hi z hz=>by
    obtain⟨y,hy,rfl⟩:=List.mem_map.mp hz
    rw[hgd i hi] at hy
    have:=hsm y (List.mem_of_mem_drop (List.mem_of_mem_take hy))
    exact small_lower hp (Nat.le_refl _) (by unfold Small;omega)
   have hmade:∀i,i<m→H1 (rs.getD i 0)=some (rowO ((RR.getD i []).map (lower p))):=fun i hi=>by
    refine hmd.2 i (rs.getD i 0) _ (by rw[List.getD_eq_getElem?_getD,List.getElem?_eq_getElem (by omega)];rfl) ?_
    rw[List.getElem?_map,List.getElem?_range hi,hgd i hi];rfl
   dsimp only [gName,tNext,tSeq,tAsg]
   refine lcRg (n:=2^m) (fun s=>!hang p [] ((things s).map fun i=>(RR.getD i []).map (lower p))) (fun s=>nV s) (by omega) (fun R hR=>?_) (fun x H' R S hx s2 a1 a2=>?_) (fun D2 H2 s2 hD2 e2=>?_)
   ·refine⟨_,rfl,_,_,rfl,rfl,⟨by omega,by omega,by decide⟩,?_⟩
    have:=hR H1 (Same.refl _)
    rw[←shl1] at this
    exact this
   ·have x8:=lt256 hm8 hx
    have hin:∀i,i∈things x→i<m:=fun i hi=>bit_in hx (mem_things.mp hi).2
    refine⟨rfl,_,rfl,?_⟩
    refine lcNg (L:=things x) (fun _=>true) (fun i=>V.ref (rs.getD i 0)) (Nat.le_trans (things_len x) (by decide)) (fun R hR=>⟨_,rfl,x,rfl,x8,fun H3 p3 s3 _ e=>hR H3 p3 s3 (SqL.of e)⟩) (fun i H3 R S hi s3 b1 b2=>?_) (fun D3 H3 s3 hD3 e3=>?_)
    ·refine⟨rfl,iteT (B:=S H3) ⟨_,rfl,_,rfl,D,_,_,_,rfl,rfl,(s2.trans s3).seq (SqL.of e1),at_of (j:=i) (v:=V.ref (rs.getD i 0)) rfl ?_,b1 rfl H3 (Same.refl _)⟩⟩
     have:=hin i hi
     rw[List.getElem?_map,List.getElem?_eq_getElem (by omega),List.getD_eq_getElem?_getD,List.getElem?_eq_getElem (by omega)];rfl
    ·rw[filter_true] at e3
     refine⟨p,n,D3,(things x).map (fun i=>rs.getD i 0),(things x).map (fun i=>(RR.getD i []).map (lower p)),rfl,hp,SqL.of (by rw[e3,List.map_map];rfl),⟨by rw[List.length_map,List.length_map,List.length_map],fun j r o h1 h2=>?_⟩,fun r hr'=>?_,by omega,fun r hr'=>?_,by rw[List.length_map];exact things_len x,fun H4 s4=>⟨_,rfl,?_⟩⟩
     ·rw[List.getElem?_map] at h1
      rw[List.getElem?_map,List.getElem?_map] at h2
      obtain⟨i,hi,rfl⟩:=Option.map_eq_some_iff.mp h1
      rw[hi] at h2
      have h2:rowO ((RR.getD i []).map (lower p))=o:=Option.some.inj h2
      rw[←h2]
      exact s3 _ _ (s2 _ _ (hmade i (hin i (List.mem_of_getElem? hi))))
     ·obtain⟨i,hi,rfl⟩:=List.mem_map.mp hr'
      rw[List.length_map,hgd i (hin i hi)];exact hrow i (hin i hi)
     ·obtain⟨i,hi,rfl⟩:=List.mem_map.mp hr'
      exact hsmR i (hin i hi)
     ·cases hb:hang p [] ((things x).map fun i=>(RR.getD i []).map (lower p)) with
      |true=>exact iteF (a2 (by rw[hb];rfl) H4 (s3.trans s4))
      |false=>exact iteT ⟨_,rfl,a1 (by rw[hb];rfl) H4 (s3.trans s4)⟩
   ·have ef:(List.range (2^m)).filter (fun s=>!hang p [] ((things s).map fun i=>(RR.getD i []).map (lower p)))=(sets m).filter (fun s=>rowRank p n ((things s).map fun i=>(RR.getD i []).map (lower p))==size s):=by
     refine List.filter_congr fun s hs=>?_
     have hs:=List.mem_range.mp hs
     rw[hang_rank (n:=n) hp (fun r hr'=>?_) (fun r hr'=>?_),Bool.not_not,List.length_map]
     ·rfl
     ·obtain⟨i,hi,rfl⟩:=List.mem_map.mp hr'
      have:=bit_in hs (mem_things.mp hi).2
      rw[List.length_map,hgd i this];exact hrow i this
     ·obtain⟨i,hi,rfl⟩:=List.mem_map.mp hr'
      exact redR_map p _
    rw[ef] at e2
    generalize hL:(sets m).filter (fun s=>rowRank p n ((things s).map fun i=>(RR.getD i []).map (lower p))==size s)=L at e2
    have hLm:∀s,s∈L→s<2^m:=fun s hs=>by rw[←hL] at hs;exact mem_sets.mp (List.mem_filter.mp hs).1
    have h0:0∈L:=by
     rw[←hL,List.mem_filter]
     refine⟨mem_sets.mpr (Nat.two_pow_pos m),?_⟩
     exact (ind_rows hp (l:=RR) (k:=n) hRm (by omega)).zero
    refine⟨_,rfl,_,rfl,m,D2,L,rfl,SqL.of e2,List.ne_nil_of_mem h0,fun s hs=>lt256 hm8 (hLm s hs),?_,?_,fun H' b s3 hb hB=>?_⟩
    ·rw[←hL]
     refine Nat.le_trans (List.length_filter_le _ _) ?_
     rw[show (sets m).length=2^m from List.length_range];omega
    ·rw[←hL];exact (sets_rise m).filter _
    ·refine k H' b ((s1.trans s2).trans s3) ((s1.trans s2).free hb) ?_
     have eo:BindNs.ofRows p n RR=⟨m,L.filter fun s=>size s==mostOf L⟩:=by
      unfold BindNs.ofRows BindNs.byLoose
      rw[hRl]
      dsimp only
      rw[hL]
      rfl
     rw[eo];exact hB
abbrev sFInit:Stmt:=inClass (top 24) 0
abbrev sMore:Stmt:=inClass (top 24) 1
abbrev sTake:Stmt:=inClass (top 24) 2
abbrev sRow:Stmt:=inClass (top 24) 3
def ArgAt (K:PySem.W.Frag) (H:Hp) (a:Addr) (ns:List Int):Prop:=(∃o,H a=some (.frz o (.lst (intsV ns)))) ∨
 ∃(o:Obj) (its:Array Value) (n:Nat),K.lookup a=some o∧o.cls=.type "list"∧o.dict=none∧o.data=.seq its n∧its.size≤sizeLine∧Vals (intsV ns) its.toList
theorem ArgAt.seq {K:PySem.W.Frag} {H:Hp} {a:Addr} {ns:List Int} (h:ArgAt K H a ns):SqL K H a (intsV ns):=by
 rcases h with⟨o,h⟩|h
 ·exact .inl (.inr ⟨o,h⟩)
 ·exact .inr h
theorem ArgAt.upd {K:PySem.W.Frag} {H:Hp} {a p:Addr} {ns:List Int} {u o:HO} (h:ArgAt K H a ns) (hp:H p=some u) (hu:∀o x,u≠.frz o x):ArgAt K (L2.upd H p o) a ns:=by
 rcases h with⟨o',h⟩|h
 ·exact .inl ⟨o',by rw[upd_ne (ne_of h hp (fun q=>hu _ _ q.symm))];exact h⟩
 ·exact .inr h
theorem ArgAt.same {K:PySem.W.Frag} {H H':Hp} {a:Addr} {ns:List Int} (s:Same H H') (h:ArgAt K H a ns):ArgAt K H' a ns:=by
 rcases h with⟨o,h⟩|h
 ·exact .inl ⟨o,s _ _ h⟩
 ·exact .inr h
def ff (a:Addr) (i:Nat):List (Str×V):=putF "at" (nV i) (putF "numbers" (.ref a) [])
theorem ff_at (a:Addr) (i:Nat):(ff a i).lookup ("at":Str)=some (nV i):=by unfold ff;rw[lookup_putF,if_pos rfl]
theorem ff_numbers (a:Addr) (i:Nat):(ff a i).lookup ("numbers":Str)=some (.ref a):=by unfold ff;rw[lookup_putF,if_neg (by decide),lookup_putF,if_pos rfl]
theorem ff_no (a:Addr) (i:Nat) {m:Str} (h1:¬m="at") (h2:¬m="numbers"):(ff a i).lookup m=none:=by
 unfold ff
 rw[lookup_putF,if_neg h1,lookup_putF,if_neg h2]
 all_goals rfl
theorem ff_put (a:Addr) (i j:Nat):putF "at" (nV j) (ff a i)=ff a j:=by
 unfold ff
 show putF "at" (nV j) (putF "at" (nV i) [(("numbers":Str),V.ref a)])=putF "at" (nV j) [(("numbers":Str),V.ref a)]
 have h:¬("numbers":Str)="at":=by decide
 simp only [putF,if_neg h,if_pos]
def FeedAt (CF:Addr) (H:Hp) (f a:Addr) (i:Nat):Prop:=∃dx,H f=some (.ins CF dx (ff a i))
structure FCls (K:PySem.W.Frag) (mg:Str→Option Value) (CF:Addr):Prop where
 cl:Cls K CF
 nA:NoAttr K CF "at"
 nN:NoAttr K CF "numbers"
 mgC:mg "Feed"=some (.ref CF)
def spFInit (CF:Addr):Sp:=fun vs H Q _=>∃(p dx a:Addr),vs=[.ref p,.ref a]∧H p=some (.ins CF dx [])∧∀H':Hp,FeedAt CF H' p a 0→(∀b o,H b=some o→b≠p→H' b=some o)→Q .non H'
theorem scFInit:FnScope ["self","numbers"] ["self","numbers"] (defScope sFInit):=⟨rfl,rfl,rfl,by decide +kernel,rfl,by decide +kernel,by decide +kernel⟩
theorem ok_finit {f:Addr} {fd:FuncData} (F:Fun K "__init__" "Feed.__init__" sFInit f fd) (B:FCls K mg CF):FnOk P w K mg base CX0 1 f fd ["self","numbers"] (spFInit CF):=by
 refine F.ok scFInit (fun vs H Q E h=>?_) (fun cdv A outer s H vs Q E hr h=>?_)
 ·obtain⟨p,dx,a,rfl,_⟩:=h
  rfl
 ·obtain⟨p,dx,a,rfl,hp,k⟩:=h
  refine⟨_,pss_cons (ps_fld (pv 0) (pv 1) rfl) (pss_one (ps_fld (pv 0) pe_int rfl)),?_⟩
  refine⟨_,rfl,_,rfl,p,CF,dx,_,rfl,hp,B.cl,B.nN,(by show 0<1000;decide),?_⟩
  refine⟨_,rfl,p,CF,dx,_,rfl,upd_same,B.cl,B.nA,(by show 1<1000;decide),?_⟩
  exact k _ ⟨dx,upd_same⟩ fun b o e hb=>by rw[upd_ne hb,upd_ne hb];exact e
def spMore (K:PySem.W.Frag) (CF:Addr):Sp:=fun vs H Q _=>∃(p a:Addr) (ns:List Int) (i:Nat),vs=[.ref p]∧FeedAt CF H p a i∧ArgAt K H a ns∧Q (.bl (decide (i<ns.length))) H
theorem scMore:FnScope ["self"] ["self"] (defScope sMore):=⟨rfl,rfl,rfl,by decide +kernel,rfl,by decide +kernel,by decide +kernel⟩
theorem ok_more {f:Addr} {fd:FuncData} (F:Fun K "has_more" "Feed.has_more" sMore f fd) (T:Names mg) (B:FCls K mg CF):FnOk P w K mg base CX0 1 f fd ["self"] (spMore K CF):=by
 refine F.ok scMore (fun vs H Q E h=>?_) (fun cdv A outer s H vs Q E hr h=>?_)
 ·obtain⟨p,a,ns,i,rfl,_⟩:=h
  rfl
 ·obtain⟨p,a,ns,i,rfl,⟨dx,hf⟩,ha,k⟩:=h
  refine⟨_,pss_one (ps_ret (pe_cmpR op_lt (pe_fld (pv 0) rfl) (pe_callB call_len_seq rfl T.len PySem.boot_len (pa_cons (pe_fld (pv 0) rfl) pa_nil)) (nomark _))),?_⟩
  refine⟨_,rfl,p,CF,dx,_,_,rfl,hf,B.cl,B.nA,ff_at _ _,_,rfl,p,CF,dx,_,_,rfl,hf,B.cl,B.nN,ff_numbers _ _,a,_,rfl,.inl ha.seq,_,_,rfl,rfl,?_⟩
  have e:decide ((i:Int)<((intsV ns).length:Int))=decide (i<ns.length):=by
   unfold intsV
   rw[List.length_map]
   exact decide_eq_decide.mpr (by omega)
  show Q (V.bl (decide ((i:Int)<((intsV ns).length:Int)))) H
  rw[e]
  exact k
def spTake (K:PySem.W.Frag) (CF:Addr):Sp:=fun vs H Q _=>∃(p a:Addr) (ns:List Int) (i:Nat) (z:Int),vs=[.ref p]∧FeedAt CF H p a i∧ArgAt K H a ns∧ns[i]?=some z∧∀H':Hp,FeedAt CF H' p a (i+1)→(∀b o,H b=some o→b≠p→H' b=some o)→Q (.int z) H'
theorem scTake:FnScope ["self","number"] ["self"] (defScope sTake):=⟨rfl,rfl,rfl,by decide +kernel,rfl,by decide +kernel,by decide +kernel⟩
theorem ok_take {f:Addr} {fd:FuncData} (F:Fun K "take" "Feed.take" sTake f fd) (B:FCls K mg CF):FnOk P w K mg base CX0 1 f fd ["self"] (spTake K CF):=by
 refine F.ok scTake (fun vs H Q E h=>?_) (fun cdv A outer s H vs Q E hr h=>?_)
 ·obtain⟨p,a,ns,i,z,rfl,_⟩:=h
  rfl
 ·obtain⟨p,a,ns,i,z,rfl,⟨dx,hf⟩,ha,hz,k⟩:=h
  refine⟨_,pss_cons (ps_set (i:=1) scTake.nd rfl (Or.inl rfl) (pe_ix ix_list (pe_fld (pv 0) rfl) (pe_fld (pv 0) rfl) (fun _ _=>rfl))) (pss_cons (ps_fldaug (pv 0) pe_int in_add) (pss_one (ps_ret (pv 1)))),?_⟩
  refine⟨_,rfl,p,CF,dx,_,_,rfl,hf,B.cl,B.nN,ff_numbers _ _,_,rfl,p,CF,dx,_,_,rfl,hf,B.cl,B.nA,ff_at _ _,a,_,_,_,rfl,rfl,ha.seq,at_of (j:=i) (v:=V.int z) rfl (by unfold intsV;rw[List.getElem?_map,hz];rfl),?_⟩
  refine⟨_,rfl,p,CF,dx,_,_,rfl,hf,B.cl,B.nA,ff_at _ _,_,_,rfl,rfl,dx,_,hf,(by show 2<1000;decide),?_⟩
  refine⟨_,rfl,?_⟩
  have e1:putF "at" (V.int ((i:Int)+1)) (ff a i)=ff a (i+1):=ff_put a i (i+1)
  exact k _ ⟨dx,Eq.trans upd_same (congrArg (fun q=>some (HO.ins CF dx q)) e1)⟩ fun b o e hb=>by rw[upd_ne hb];exact e
def spRow (K:PySem.W.Frag) (CF:Addr):Sp:=fun vs H Q _=>∃(p a:Addr) (ns:List Int) (i m:Nat),vs=[.ref p]∧FeedAt CF H p a i∧ArgAt K H a ns∧ns[i]?=some (m:Int)∧i+1+m≤ns.length ∧
 ∀(H':Hp) (q:Addr),FeedAt CF H' p a (i+1+m)→H q=none→H' q=some (.lst (intsV ((ns.drop (i+1)).take m)))→(∀b o,H b=some o→b≠p→H' b=some o)→Q (.ref q) H'
theorem scRow:FnScope ["self","many","begin"] ["self"] (defScope sRow):=⟨rfl,rfl,rfl,by decide +kernel,rfl,by decide +kernel,by decide +kernel⟩
theorem ok_row {f fT:Addr} {fd fdT:FuncData} (F:Fun K "take_row" "Feed.take_row" sRow f fd) (B:FCls K mg CF) (mT:Meth K CF "take" fT) (GT:FnOk P w K mg base CX0 1 fT fdT ["self"] (spTake K CF)) (bT:Binds K fdT ["self"] []):FnOk P w K mg base CX0 2 f fd ["self"] (spRow K CF):=by
 refine F.ok scRow (fun vs H Q E h=>?_) (fun cdv A outer s H vs Q E hr h=>?_)
 ·obtain⟨p,a,ns,i,m,rfl,_⟩:=h
  rfl
 ·obtain⟨p,a,ns,i,m,rfl,⟨dx,hf⟩,ha,hz,hm,k⟩:=h
  refine⟨_,pss_cons (ps_set (i:=1) scRow.nd rfl (Or.inl rfl) (pe_meth0 (pv 0) B.cl mT GT hr bT .nil pass0)) (pss_cons (ps_set (i:=2) scRow.nd rfl (Or.inl rfl) (pe_fld (pv 0) rfl)) (pss_cons (ps_fldaug (pv 0) (pv 1) in_add) (pss_one (ps_ret (pe_slice (r:=rSlL K) sl_list (pe_fld (pv 0) rfl) (po_some (pv 2)) (po_some (pe_fld (pv 0) rfl))))))),?_⟩
  refine⟨_,rfl,p,dx,_,rfl,hf,ff_no _ _ (by decide +kernel) (by decide +kernel),p,a,ns,i,(m:Int),rfl,⟨dx,hf⟩,ha,hz,fun H1 ⟨dx1,hf1⟩ kp1=>?_⟩
  refine⟨_,rfl,p,CF,dx1,_,_,rfl,hf1,B.cl,B.nA,ff_at _ _,?_⟩
  refine⟨_,rfl,p,CF,dx1,_,_,rfl,hf1,B.cl,B.nA,ff_at _ _,_,rfl,_,_,rfl,rfl,dx1,_,hf1,(by show 2<1000;decide),?_⟩
  have e1:putF "at" (V.int (((i+1:Nat):Int)+(m:Int))) (ff a (i+1))=ff a (i+1+m):=ff_put a (i+1) (i+1+m)
  have ha1:ArgAt K H1 a ns:=by
   rcases ha with⟨o,h⟩|h
   ·exact .inl ⟨o,kp1 _ _ h (ne_of h hf (by intro z;cases z))⟩
   ·exact .inr h
  have hH2:(L2.upd H1 p (.ins CF dx1 (putF "at" (V.int (((i+1:Nat):Int)+(m:Int))) (ff a (i+1))))) p=some (.ins CF dx1 (ff a (i+1+m))):=Eq.trans upd_same (congrArg (fun q=>some (HO.ins CF dx1 q)) e1)
  refine⟨_,rfl,p,CF,dx1,_,_,rfl,hH2,B.cl,B.nN,ff_numbers _ _,_,rfl,_,rfl,_,rfl,p,CF,dx1,_,_,rfl,hH2,B.cl,B.nA,ff_at _ _,_,rfl,a,_,rfl,(ha1.upd hf1 (by intro o x z;cases z)).seq,fun q hq=>?_⟩
  have hqp:q≠p:=fun z=>by subst z;rw[hH2] at hq;cases hq
  have hq1:H1 q=none:=by rw[←hq];exact (upd_ne hqp).symm
  have hq0:H q=none:=by
   cases e:H q with
   |none=>rfl
   |some o=>rw[kp1 q o e hqp] at hq1;cases hq1
  refine k _ q ⟨dx1,by rw[upd_ne hqp.symm];exact hH2⟩ hq0 ?_ fun b o e hb=>?_
  ·rw[upd_same]
   refine congrArg (fun z=>some (HO.lst z)) ?_
   unfold cutV
   have hl:(intsV ns).length=ns.length:=by unfold intsV;rw[List.length_map]
   rw[hl]
   have x1:HT.sIx ns.length 0 (some ((i+1:Nat):Int))=i+1:=by
    unfold HT.sIx
    dsimp only
    rw[if_neg (by omega),Int.toNat_natCast];omega
   have x2:HT.sIx ns.length ns.length (some ((i+1+m:Nat):Int))=i+1+m:=by
    unfold HT.sIx
    dsimp only
    rw[if_neg (by omega),Int.toNat_natCast];omega
   rw[x1,x2,Nat.add_sub_cancel_left]
   unfold intsV
   rw[List.map_take,List.map_drop]
  ·have hbq:b≠q:=ne_of_none e hq0
   rw[upd_ne hbq,upd_ne hb]
   exact kp1 b o e hb
abbrev sAreBases:Stmt:=top 20
abbrev sCompl:Stmt:=top 21
abbrev sReaches:Stmt:=top 22
def fitStep (s:Nat) (D:Nat→Nat) (t:Nat):Nat→Nat:=fun k=>if k=s^^^2^t then D k|||2^t else D k
def fitSet (D:Nat→Nat) (s:Nat) (ts:List Nat):Nat→Nat:=ts.foldl (fitStep s) D
def fitAll (l:List Nat):Nat→Nat:=l.foldl (fun D s=>fitSet D s (things s)) fun _=>0
theorem fitSet_bit (s:Nat):∀(ts:List Nat) (D:Nat→Nat) (k t:Nat),(fitSet D s ts k).testBit t=true↔(D k).testBit t=true∨(t∈ts∧s^^^2^t=k)
 |[],D,k,t=>by unfold fitSet;simp
 |u::ts,D,k,t=>by
  show (fitSet (fitStep s D u) s ts k).testBit t=true↔_
  rw[fitSet_bit s ts,List.mem_cons]
  unfold fitStep
  by_cases e:k=s^^^2^u
  ·rw[if_pos e,Nat.testBit_or,tb_pow,Bool.or_eq_true,decide_eq_true_eq]
   constructor
   ·rintro ((h|h)|h)
    ·exact .inl h
    ·subst h;exact .inr ⟨.inl rfl,e.symm⟩
    ·exact .inr ⟨.inr h.1,h.2⟩
   ·rintro (h|⟨h|h,h2⟩)
    ·exact .inl (.inl h)
    ·exact .inl (.inr h.symm)
    ·exact .inr ⟨h,h2⟩
  ·rw[if_neg e]
   constructor
   ·rintro (h|h)
    ·exact .inl h
    ·exact .inr ⟨.inr h.1,h.2⟩
   ·rintro (h|⟨h|h,h2⟩)
    ·exact .inl h
    ·subst h;exact absurd h2.symm e
    ·exact .inr ⟨h,h2⟩
theorem fitAll_bit:∀(l:List Nat) (D:Nat→Nat) (k t:Nat),(l.foldl (fun D s=>fitSet D s (things s)) D k).testBit t=true↔(D k).testBit t=true∨∃s,s∈l∧t<8∧s.testBit t=true∧s^^^2^t=k
 |[],D,k,t=>by simp
 |s::l,D,k,t=>by
  rw[List.foldl_cons,fitAll_bit l,fitSet_bit,mem_things]
  constructor
  ·rintro ((h|h)|⟨u,h1,h2⟩)
   ·exact .inl h
   ·exact .inr ⟨s,List.mem_cons_self,h.1.1,h.1.2,h.2⟩
   ·exact .inr ⟨u,List.mem_cons_of_mem _ h1,h2⟩
  ·rintro (h|⟨u,h1,h2⟩)
   ·exact .inl (.inl h)
   ·rcases List.mem_cons.mp h1 with q|q
    ·subst q;exact .inl (.inr ⟨⟨h2.1,h2.2.1⟩,h2.2.2⟩)
    ·exact .inr ⟨u,q,h2⟩
theorem fit_bit (l:List Nat) (k t:Nat):(fitAll l k).testBit t=true↔∃s,s∈l∧t<8∧s.testBit t=true∧s^^^2^t=k:=by
 unfold fitAll
 rw[fitAll_bit]
 simp
def Tells (kvs:List (Key×V)) (D:Nat→Nat):Prop:=∀k:Nat,valV kvs (Sum.inl (k:Int))=if D k=0 then none else some (nV (D k))
theorem tells_nil:Tells [] (fun _=>0):=fun k=>by rw[if_pos rfl];rfl
theorem or_ne_zero (a t:Nat):¬(a|||2^t)=0:=fun q=>by
 have:=congrArg (fun z=>z.testBit t) q
 simp [tb_pow] at this
theorem tells_put {kvs:List (Key×V)} {D:Nat→Nat} {s t:Nat} (h:Tells kvs D):Tells (putK kvs (Sum.inl ((s^^^2^t:Nat):Int)) (nV (D (s^^^2^t)|||2^t))) (fitStep s D t):=fun k=>by
 rw[valV_put]
 unfold fitStep
 by_cases e:k=s^^^2^t
 ·rw[if_pos (by rw[e]),if_pos e,e,if_neg (or_ne_zero _ _)]
 ·have hne:¬(Sum.inl (k:Int):Key)=Sum.inl ((s^^^2^t:Nat):Int):=fun q=>e (by have:=Sum.inl.inj q;omega)
  rw[if_neg hne,if_neg e]
  exact h k
theorem tells_get {kvs:List (Key×V)} {D:Nat→Nat} (h:Tells kvs D) (k:Nat):(valV kvs (Sum.inl (k:Int))).getD (nV 0)=nV (D k):=by
 rw[h k]
 by_cases e:D k=0
 ·rw[if_pos e,e];rfl
 ·rw[if_neg e];rfl
def spCompl (K:PySem.W.Frag):Sp:=fun vs H Q _=>∃(a:Addr) (l:List Nat),vs=[.ref a]∧SqL K H a (natsV l)∧(∀s,s∈l→s<256)∧l.length≤1000∧∀(H':Hp) (d:Addr) (kvs:List (Key×V)),Same H H'→H d=none→H' d=some (.dK kvs)→Tells kvs (fitAll l)→Q (.ref d) H'
theorem scCompl:FnScope ["sets","fits","s","thing","less"] ["sets"] (defScope sCompl):=⟨rfl,rfl,rfl,by decide +kernel,rfl,by decide +kernel,by decide +kernel⟩
theorem ok_compl {f:Addr} {fd:FuncData} (F:Fun K "completions" "completions" sCompl f fd) (C1:Callee P w K mg base 1 "members" ["s"] spMembers):FnOk P w K mg base CX0 2 f fd ["sets"] (spCompl K):=by
 refine F.ok scCompl (fun vs H Q E h=>?_) (fun cdv A outer s H vs Q E hr h=>?_)
 ·obtain⟨a,l,rfl,_⟩:=h
  rfl
 ·obtain⟨a,l,rfl,hl,h8,hz,k⟩:=h
  refine⟨_,pss_cons (ps_set (i:=1) scCompl.nd rfl (Or.inl rfl) pe_dnewK)
   (pss_cons (ps_for PassesOwn.never rfl (pi_list (pv 0)) (pg_name (i:=2) scCompl.nd rfl (Or.inl rfl))
    (pss_one (ps_for PassesOwn.never rfl (pi_list (pcall C1 hr rfl (pa_cons (pv 2) pa_nil))) (pg_name (i:=3) scCompl.nd rfl (Or.inl rfl))
     (pss_cons (ps_set (i:=4) scCompl.nd rfl (Or.inl rfl) (pe_op op_xor (pv 2) (pe_op op_shl pe_int (pv 3))))
     (pss_one (ps_dput (hu_of hr) (pv 1) (pv 4) (pe_op op_or (pe_dget2 (hu_of hr) (pv 1) (pv 4) pe_int ⟨rfl,rfl,rfl,rfl⟩) (pe_op op_shl pe_int (pv 3))) rfl))))))
   (pss_one (ps_ret (pv 1)))),?_⟩
  intro d hd
  have s0:Same H (upd H d (.dK [])):=same_new hd
  refine⟨_,rfl,a,rfl,⟨_,s0.seq hl⟩,?_⟩
  refine for_list (K:=K) (a:=a) (xs:=natsV l) (fun i σ H'=>∃(kvs:List (Key×V)) (v2 v3 v4:Option V),σ=[some (.ref a),some (.ref d),v2,v3,v4]∧Same H H'∧H' d=some (.dK kvs)∧kvs.length≤8*i∧Tells kvs ((l.take i).foldl (fun D s=>fitSet D s (things s)) fun _=>0))
   ⟨[],none,none,none,rfl,s0,upd_same,Nat.le_refl _,tells_nil⟩ (fun i σ H' _ ⟨_,_,_,_,_,s2,_⟩=>s2.seq hl) ?_ ?_
  ·rintro i y σ H1 hi ⟨kvs,v2,v3,v4,rfl,s1,hd1,hk1,ht1⟩
   obtain⟨t,ht,rfl⟩:∃t,l[i]?=some t∧y=nV t:=by
    unfold natsV at hi
    rw[List.getElem?_map] at hi
    obtain⟨t,h1,h2⟩:=Option.map_eq_some_iff.mp hi
    exact⟨t,h1,h2.symm⟩
   have hil:i<l.length:=(List.getElem?_eq_some_iff.mp ht).1
   have t8:=h8 t (List.mem_of_getElem? ht)
   have tk:l.take (i+1)=l.take i++[t]:=by rw[List.take_succ,ht];rfl
   refine⟨_,rfl,t,rfl,t8,fun H2 q s2 _ hq=>⟨q,rfl,⟨_,SqL.of hq⟩,?_⟩⟩
   have hdq:d≠q:=ne_of (s2 _ _ hd1) hq (by intro z;cases z)
   refine for_list (K:=K) (a:=q) (xs:=natsV (things t)) (fun j σ H'=>∃(kvs':List (Key×V)) (v3 v4:Option V),σ=[some (.ref a),some (.ref d),some (nV t),v3,v4]∧Same H H'∧H' q=some (.lst (natsV (things t)))∧H' d=some (.dK kvs')∧kvs'.length≤8*i+j∧Tells kvs' (fitSet ((l.take i).foldl (fun D s=>fitSet D s (things s)) fun _=>0) t ((things t).take j)))
    ⟨kvs,v3,v4,rfl,s1.trans s2,hq,s2 _ _ hd1,hk1,ht1⟩ (fun j σ H' _ ⟨_,_,_,_,_,h,_⟩=>SqL.of h) ?_ ?_
   ·rintro j y σ H3 hj ⟨kvs',v3,v4,rfl,s3,hq3,hd3,hk3,ht3⟩
    obtain⟨u,hu,rfl⟩:∃u,(things t)[j]?=some u∧y=nV u:=by
     unfold natsV at hj
     rw[List.getElem?_map] at hj
     obtain⟨t,h1,h2⟩:=Option.map_eq_some_iff.mp hj
     exact⟨t,h1,h2.symm⟩
    have hjl:j<(things t).length:=(List.getElem?_eq_some_iff.mp hu).1
    have hj8:=things_len t
    obtain⟨u8,hu1⟩:=mem_things.mp (List.mem_of_getElem? hu)
    have tk2:(things t).take (j+1)=(things t).take j++[u]:=by rw[List.take_succ,hu];rfl
    have key:(kV (Sum.inl ((t^^^2^u:Nat):Int)):V)=nV (t^^^2^u):=rfl
    refine⟨_,rfl,_,rfl,_,_,rfl,rfl,⟨by omega,by omega,by decide⟩,_,_,rfl,rfl,?_⟩
    dsimp only [gName]
    rw[xor_shl]
    have hg:DGet H3 d (nV (t^^^2^u)) (valV kvs' (Sum.inl ((t^^^2^u:Nat):Int))):=DGet.k (k:=Sum.inl ((t^^^2^u:Nat):Int)) hd3
    generalize hDj:fitSet ((l.take i).foldl (fun D s=>fitSet D s (things s)) fun _=>0) t ((things t).take j)=Dj at ht3
    have ev:V.int (Builtin.bitOr ((Dj (t^^^2^u):Nat):Int) ((1:Int)*2^((u:Int)).toNat))=nV (Dj (t^^^2^u)|||2^u):=by
     rw[Int.toNat_natCast,Int.one_mul,show ((2:Int)^u)=((2^u:Nat):Int) from rfl,bor_nat];rfl
    have hsz:kvs'.length<sizeLine:=Nat.lt_of_le_of_lt (show kvs'.length≤100000 by omega) (by decide)
    refine⟨_,rfl,d,rfl,.inl ⟨kvs',.inl hd3⟩,_,rfl,_,hg,_,rfl,_,_,rfl,rfl,⟨by omega,by omega,by decide⟩,((Dj (t^^^2^u):Nat):Int),_,tells_get ht3 _,rfl,_,rfl,_,rfl,d,upd H3 d (.dK (putK kvs' (Sum.inl ((t^^^2^u:Nat):Int)) (nV (Dj (t^^^2^u)|||2^u)))),rfl,?_,?_⟩
    ·show DPut H3 d (nV (t^^^2^u)) (V.int (Builtin.bitOr ((Dj (t^^^2^u):Nat):Int) ((1:Int)*2^((u:Int)).toNat))) _
     rw[ev]
     exact DPut.k (k:=Sum.inl ((t^^^2^u:Nat):Int)) hd3 hsz
    ·refine⟨_,some (nV u),some (nV (t^^^2^u)),rfl,same_upd s3 hd,by rw[upd_ne hdq.symm];exact hq3,upd_same,Nat.le_trans (length_putK _ _ _) (by omega),?_⟩
     rw[tk2]
     unfold fitSet at hDj ⊢
     rw[List.foldl_append,hDj]
     exact tells_put ht3
   ·rintro σ H3 ⟨kvs',v3,v4,rfl,s3,hq3,hd3,hk3,ht3⟩
    have hjl:(natsV (things t)).length≤8:=by unfold natsV;rw[List.length_map];exact things_len t
    refine⟨kvs',some (nV t),v3,v4,rfl,s3,hd3,by omega,?_⟩
    rw[tk,List.foldl_append]
    have:(things t).take (natsV (things t)).length=things t:=by unfold natsV;rw[List.length_map,List.take_length]
    rw[this] at ht3
    exact ht3
  ·rintro σ H1 ⟨kvs,v2,v3,v4,rfl,s1,hd1,hk1,ht1⟩
   refine⟨_,rfl,k H1 d kvs s1 hd hd1 ?_⟩
   have:l.take (natsV l).length=l:=by unfold natsV;rw[List.length_map,List.take_length]
   rw[this] at ht1
   exact ht1
open BindNs (things size Bond sets right)
def reachB (l:List Nat) (one:Nat):Bool:=(things one).all fun i=>l.all fun b=>fitAll l (one^^^2^i)&&&b !=0
theorem fit_ne {l:List Nat} {one i:Nat} (h1:one∈l) (hi:i<8) (h:one.testBit i=true):¬fitAll l (one^^^2^i)=0:=fun q=>by
 have:=(fit_bit l (one^^^2^i) i).mpr ⟨one,h1,hi,h,rfl⟩
 rw[q,Nat.zero_testBit] at this
 cases this
theorem reach_right {l:List Nat} (hl:∀s,s∈l→s<256):right l=(!l.isEmpty&&(!(l.any fun s=>size s !=size (l.getD 0 0))&&l.all (reachB l))):=by
 have key:l≠[]→(Swaps l↔(¬(l.any fun s=>size s !=size (l.getD 0 0))=true)∧l.all (reachB l)=true):=fun hne=>by
  rw[swaps_reaches hl]
  have h0:l.getD 0 0∈l:=by
   cases l with
   |nil=>exact absurd rfl hne
   |cons x r=>exact List.mem_cons_self
  refine and_congr ⟨fun h q=>?_,fun h a ha b hb=>?_⟩ ?_
  ·obtain⟨s,hs,e⟩:=List.any_eq_true.mp q
   rw[h s hs _ h0] at e
   simp at e
  ·have f:∀a,a∈l→size a=size (l.getD 0 0):=fun a ha=>Classical.byContradiction fun q=>h (List.any_eq_true.mpr ⟨a,ha,by simpa using q⟩)
   rw[f a ha,f b hb]
  ·unfold Reaches
   rw[List.all_eq_true]
   refine forall_congr' fun a=>forall_congr' fun ha=>?_
   unfold reachB
   rw[List.all_eq_true]
   constructor
   ·intro h i hi
    obtain⟨i8,hi1⟩:=mem_things.mp hi
    rw[List.all_eq_true]
    intro b hb
    obtain⟨t,ht,hbt,s,hs,hst,e⟩:=h i i8 hi1 b hb
    rw[bne_iff_ne]
    intro q
    have:=congrArg (fun z=>z.testBit t) q
    rw[Nat.testBit_and,(fit_bit l _ t).mpr ⟨s,hs,ht,hst,e⟩,hbt,Nat.zero_testBit] at this
    cases this
   ·intro h i i8 hi1 b hb
    have h1:=List.all_eq_true.mp (h i (mem_things.mpr ⟨i8,hi1⟩)) b hb
    rw[bne_iff_ne] at h1
    obtain⟨t,ht⟩:∃t,(fitAll l (a^^^2^i)&&&b).testBit t=true:=Classical.byContradiction fun hn=>h1 (Nat.eq_of_testBit_eq fun t=>by
     rw[Nat.zero_testBit]
     cases q:(fitAll l (a^^^2^i)&&&b).testBit t with
     |false=>rfl
     |true=>exact absurd ⟨t,q⟩ hn)
    rw[Nat.testBit_and,Bool.and_eq_true] at ht
    obtain⟨s,hs,t8,hst,e⟩:=(fit_bit l _ t).mp ht.1
    exact⟨t,t8,ht.2,s,hs,hst,e⟩
 by_cases hne:l=[]
 ·subst hne;rfl
 ·rw[Bool.eq_iff_iff,right_iff,Bool.and_eq_true,Bool.and_eq_true,Bool.not_eq_true',List.isEmpty_eq_false_iff,Bool.not_eq_true',key hne,Bool.not_eq_true]
def spReaches (K:PySem.W.Frag):Sp:=fun vs H Q _=>∃(a d:Addr) (l:List Nat) (one:Nat) (kvs:List (Key×V)),vs=[nV one,.ref a,.ref d]∧SqL K H a (natsV l)∧H d=some (.dK kvs)∧Tells kvs (fitAll l)∧one∈l∧(∀s,s∈l→s<256)∧l.length≤1000∧∀H',Same H H'→Q (.bl (reachB l one)) H'
theorem scReaches:FnScope ["one","sets","fits","thing","fitting","other"] ["one","sets","fits"] (defScope sReaches):=⟨rfl,rfl,rfl,by decide +kernel,rfl,by decide +kernel,by decide +kernel⟩
theorem ok_reaches {f:Addr} {fd:FuncData} (F:Fun K "reaches_all" "reaches_all" sReaches f fd) (T:Names mg) (C1:Callee P w K mg base 1 "members" ["s"] spMembers):FnOk P w K mg base CX0 2 f fd ["one","sets","fits"] (spReaches K):=by
 refine F.ok scReaches (fun vs H Q E h=>?_) (fun cdv A outer s H vs Q E hr h=>?_)
 ·obtain⟨a,d,l,one,kvs,rfl,_⟩:=h
  rfl
 ·obtain⟨a,d,l,one,kvs,rfl,hl,hd,ht,ho,h8,hz,k⟩:=h
  refine⟨_,pss_cons (ps_for PassesOwn.never rfl (pi_list (pcall C1 hr rfl (pa_cons (pv 0) pa_nil))) (pg_name (i:=3) scReaches.nd rfl (Or.inl rfl))
    (pss_cons (ps_set (i:=4) scReaches.nd rfl (Or.inr rfl) (pe_dget (hu_of hr) (pv 2) (pe_op op_xor (pv 0) (pe_op op_shl pe_int (pv 3))) (fun _ _=>rfl)))
    (pss_one (ps_if (pt_val (pe_callB (cr_any rfl) rfl T.any bo_any (pa_cons
     (pe_lc (own:=[("other",5)]) rfl scReaches.nd (pi_list (pv 1)) (blkOk_by (N:=["one","sets","fits","thing","fitting","other"]) (sc:=defScope sReaches) (by decide +kernel)) (fun s H C cl fp=>pg_name (i:=5) scReaches.nd rfl (Or.inl rfl)) (fun s H C cl fp=>pts_nil)
      (fun s H C cl fp=>pe_cmpR op_eq (pe_op op_and (pv 4) (pv 5)) pe_int (nomark _))) pa_nil))) (pss_one (ps_ret pe_bl)) pss_nil))))
   (pss_one (ps_ret pe_bl)),?_⟩
  have o8:=h8 one ho
  refine⟨_,rfl,one,rfl,o8,fun H1 q s1 _ hq=>⟨q,rfl,⟨_,SqL.of hq⟩,?_⟩⟩
  refine for_list (K:=K) (a:=q) (xs:=natsV (things one)) (fun i σ H'=>∃(v3 v4 v5:Option V),σ=[some (nV one),some (.ref a),some (.ref d),v3,v4,v5]∧Same H1 H'∧((things one).take i).all (fun i=>l.all fun b=>fitAll l (one^^^2^i)&&&b !=0)=true)
   ⟨none,none,none,rfl,Same.refl _,rfl⟩ (fun i σ H' _ ⟨_,_,_,_,s2,_⟩=>s2.seq (SqL.of hq)) ?_ ?_
  ·rintro i y σ H2 hi ⟨v3,v4,v5,rfl,s2,hall⟩
   obtain⟨u,hu,rfl⟩:∃u,(things one)[i]?=some u∧y=nV u:=by
    unfold natsV at hi
    rw[List.getElem?_map] at hi
    obtain⟨t,h1,h2⟩:=Option.map_eq_some_iff.mp hi
    exact⟨t,h1,h2.symm⟩
   have hum:=List.mem_of_getElem? hu
   obtain⟨u8,hu1⟩:=mem_things.mp hum
   have hg:DGet H2 d (nV (one^^^2^u)) (some (nV (fitAll l (one^^^2^u)))):=by
    have:=DGet.k (k:=Sum.inl ((one^^^2^u:Nat):Int)) (s2 _ _ (s1 _ _ hd))
    rw[ht,if_neg (fit_ne ho u8 hu1)] at this
    exact this
   refine⟨_,rfl,_,rfl,_,rfl,_,_,rfl,rfl,⟨by omega,by omega,by decide⟩,_,_,rfl,rfl,d,nV (fitAll l (one^^^2^u)),rfl,(by show DGet H2 d (V.int (Builtin.bitXor (one:Int) ((1:Int)*2^((u:Int)).toNat))) _;rw[xor_shl];exact hg),?_⟩
   dsimp only [gName,tSeq,tNext,tIfS,tB,tCB,tCons,tNil]
   refine lcNg (L:=l) (fun _=>true) (fun b=>V.bl (fitAll l (one^^^2^u)&&&b==0)) (by omega) (by exact tl_var rfl ((s1.trans s2).seq hl)) (fun x H3 R S hx s3 a1 a2=>?_) (fun D H3 s3 hD e3=>?_)
   ·refine⟨rfl,iteT (B:=S H3) ⟨_,rfl,_,rfl,_,_,rfl,rfl,rfl,?_⟩⟩
    have:=a1 rfl H3 (Same.refl _)
    rw[show decide (V.int (Builtin.bitAnd ((fitAll l (one^^^2^u):Nat):Int) (x:Int))=V.int 0)=(fitAll l (one^^^2^u)&&&x==0) by rw[band_nat];exact dec_nV _ 0]
    exact this
   ·rw[filter_true] at e3
    refine⟨D,l.map fun b=>fitAll l (one^^^2^u)&&&b==0,rfl,SqL.of (by rw[e3,List.map_map];rfl),_,rfl,?_⟩
    rw[List.any_map]
    have flip:(l.all fun b=>fitAll l (one^^^2^u)&&&b !=0)=!(l.any (id∘fun b=>fitAll l (one^^^2^u)&&&b==0)):=by
     rw[List.not_any_eq_all_not];rfl
    cases hb:l.any (id∘fun b=>fitAll l (one^^^2^u)&&&b==0) with
    |true =>
     refine iteT ?_
     have hf:reachB l one=false:=by
      rw[Bool.eq_false_iff]
      intro z
      have:=List.all_eq_true.mp z u hum
      rw[flip,hb] at this
      cases this
     have:=k H3 ((s1.trans s2).trans s3)
     rw[hf] at this
     exact this
    |false =>
     refine iteF ⟨some (nV u),some (nV (fitAll l (one^^^2^u))),v5,rfl,s2.trans s3,?_⟩
     have tk:(things one).take (i+1)=(things one).take i++[u]:=by rw[List.take_succ,hu];rfl
     rw[tk,List.all_append,hall,Bool.true_and,List.all_cons,flip,hb]
     rfl
  ·rintro σ H2 ⟨v3,v4,v5,rfl,s2,hall⟩
   have:(things one).take (natsV (things one)).length=things one:=by unfold natsV;rw[List.length_map,List.take_length]
   rw[this] at hall
   have hk:=k H2 (s1.trans s2)
   rw[show reachB l one=true from hall] at hk
   exact hk
def spAreBases (K:PySem.W.Frag):Sp:=fun vs H Q _=>∃(a:Addr) (l:List Nat),vs=[.ref a]∧SqL K H a (natsV l)∧(∀s,s∈l→s<256)∧l.length≤1000∧∀H',Same H H'→Q (.bl (right l)) H'
theorem scAreBases:FnScope ["sets","fits","s","one"] ["sets"] (defScope sAreBases):=⟨rfl,rfl,rfl,by decide +kernel,rfl,by decide +kernel,by decide +kernel⟩
theorem ok_areBases {f:Addr} {fd:FuncData} (F:Fun K "are_bases" "are_bases" sAreBases f fd) (T:Names mg) (C1:Callee P w K mg base 2 "size" ["s"] spSize) (C2:Callee P w K mg base 2 "completions" ["sets"] (spCompl K)) (C3:Callee P w K mg base 2 "reaches_all" ["one","sets","fits"] (spReaches K)):FnOk P w K mg base CX0 3 f fd ["sets"] (spAreBases K):=by
 refine F.ok scAreBases (fun vs H Q E h=>?_) (fun cdv A outer s H vs Q E hr h=>?_)
 ·obtain⟨a,l,rfl,_⟩:=h
  rfl
 ·obtain⟨a,l,rfl,hl,h8,hz,k⟩:=h
  refine⟨_,pss_cons (ps_if (pt_cmpR op_eq (pe_callB call_len_seq rfl T.len PySem.boot_len (pa_cons (pv 0) pa_nil)) pe_int (nomark _)) (pss_one (ps_ret pe_bl)) pss_nil)
   (pss_cons (ps_if (pt_val (pe_callB (cr_any rfl) rfl T.any bo_any (pa_cons
     (pe_lc (own:=[("s",2)]) rfl scAreBases.nd (pi_list (pv 0)) (blkOk_by (N:=["sets","fits","s","one"]) (sc:=defScope sAreBases) (by decide +kernel)) (fun s H C cl fp=>pg_name (i:=2) scAreBases.nd rfl (Or.inl rfl)) (fun s H C cl fp=>pts_nil)
      (fun s H C cl fp=>pe_cmpR op_ne (pcall C1 hr rfl (pa_cons (pv 2) pa_nil)) (pcall C1 hr rfl (pa_cons (pe_ix (r:=rIxL K) ix_list (pv 0) pe_int (fun _ _=>rfl)) pa_nil)) (nomark _))) pa_nil))) (pss_one (ps_ret pe_bl)) pss_nil)
   (pss_cons (ps_set (i:=1) scAreBases.nd rfl (Or.inr rfl) (pcall C2 hr rfl (pa_cons (pv 0) pa_nil)))
   (pss_one (ps_ret (pe_callB (cr_all rfl) rfl T.all bo_all (pa_cons
     (pe_lc (own:=[("one",3)]) rfl scAreBases.nd (pi_list (pv 0)) (blkOk_by (N:=["sets","fits","s","one"]) (sc:=defScope sAreBases) (by decide +kernel)) (fun s H C cl fp=>pg_name (i:=3) scAreBases.nd rfl (Or.inl rfl)) (fun s H C cl fp=>pts_nil)
      (fun s H C cl fp=>pcall C3 hr rfl (pa_cons (pv 3) (pa_cons (pv 0) (pa_cons (pv 1) pa_nil))))) pa_nil)))))),?_⟩
  have hR:=reach_right h8
  refine⟨_,rfl,a,_,rfl,.inl hl,rfl,_,rfl,?_⟩
  rw[show decide (V.int ((natsV l).length:Int)=V.int 0)=(l.length==0) by unfold natsV;rw[List.length_map];exact dec_nV _ 0]
  cases l with
  |nil =>
   refine iteT ?_
   have:=k H (Same.refl _)
   exact this
  |cons x0 l0 =>
   refine iteF ?_
   generalize hL:x0::l0=l at *
   have hx0:l[0]?=some x0:=by rw[←hL];rfl
   have hx0':l.getD 0 0=x0:=by rw[←hL];rfl
   have hne:l≠[]:=by rw[←hL];exact List.cons_ne_nil _ _
   have hm0:x0∈l:=List.mem_of_getElem? hx0
   dsimp only [tSeq,tNext,tIfS,tB,tCB,tCons,tNil]
   refine lcNg (L:=l) (fun _=>true) (fun s=>V.bl (size s !=size (l.getD 0 0))) (by omega) (by exact tl_var rfl hl) (fun x H1 R S hx s1 a1 a2=>?_) (fun D H1 s1 hD e1=>?_)
   ·refine⟨rfl,iteT (B:=S H1) ⟨_,rfl,x,rfl,h8 x hx,fun H2 s2=>⟨_,rfl,a,_,_,_,rfl,rfl,(s1.trans s2).seq hl,at_of (j:=0) (v:=nV x0) rfl (by unfold natsV;rw[List.getElem?_map,hx0];rfl),x0,rfl,h8 x0 hm0,fun H3 s3=>⟨rfl,?_⟩⟩⟩⟩
    have:=a1 rfl H3 (s2.trans s3)
    rw[dec_nV]
    rw[hx0'] at this
    exact this
   ·rw[filter_true] at e1
    refine⟨D,l.map fun s=>size s !=size (l.getD 0 0),rfl,SqL.of (by rw[e1,List.map_map];rfl),_,rfl,?_⟩
    rw[List.any_map]
    have hisE:l.isEmpty=false:=by rw[←hL];rfl
    cases hb:l.any (id∘fun s=>size s !=size (l.getD 0 0)) with
    |true =>
     refine iteT ?_
     have:=k H1 s1
     rw[hR,show (l.any fun s=>size s !=size (l.getD 0 0))=true from hb,hisE] at this
     exact this
    |false =>
     refine iteF ?_
     refine⟨_,rfl,a,l,rfl,s1.seq hl,h8,hz,fun H2 d kvs s2 _ hd ht=>?_⟩
     dsimp only [gName,tRet,tCB,tCons,tNil]
     refine lcNg (L:=l) (fun _=>true) (fun s=>V.bl (reachB l s)) (by omega) (by exact tl_var rfl ((s1.trans s2).seq hl)) (fun x H3 R S hx s3 a1 a2=>?_) (fun D2 H3 s3 hD2 e3=>?_)
     ·exact⟨rfl,iteT (B:=S H3) ⟨_,rfl,_,rfl,_,rfl,a,d,l,x,kvs,rfl,((s1.trans s2).trans s3).seq hl,s3 _ _ hd,ht,hx,h8,hz,fun H4 s4=>a1 rfl H4 s4⟩⟩
     ·rw[filter_true] at e3
      refine⟨D2,l.map (reachB l),rfl,SqL.of (by rw[e3,List.map_map];rfl),?_⟩
      rw[List.all_map]
      have:=k H3 ((s1.trans s2).trans s3)
      rw[hR,show (l.any fun s=>size s !=size (l.getD 0 0))=false from hb,hisE] at this
      exact this
abbrev sTold:Stmt:=top 65
abbrev sPut:Stmt:=top 66
def Pl (C:Addr) (H:Hp) (pl:Addr) (st:List Bond):Prop:=∃as:List Addr,H pl=some (.lst (as.map V.ref))∧as.length=4∧st.length=4∧∀(j:Nat) (a:Addr),as[j]?=some a→∃m,st[j]?=some m∧BondAt C H a m∧Mat m
theorem Pl.same {C:Addr} {H H':Hp} {pl:Addr} {st:List Bond} (s:Same H H') (h:Pl C H pl st):Pl C H' pl st:=by
 obtain⟨as,h1,h2,h3,h4⟩:=h
 refine⟨as,s _ _ h1,h2,h3,fun j a ha=>?_⟩
 obtain⟨m,a1,a2,a3⟩:=h4 j a ha
 exact⟨m,a1,a2.same s,a3⟩
def Keep (S:List Addr) (H H':Hp):Prop:=∀b o,H b=some o→b∉S→H' b=some o
theorem Keep.of_same {S:List Addr} {H H':Hp} (s:Same H H'):Keep S H H':=fun b o e _=>s b o e
theorem Keep.trans {S:List Addr} {H H1 H2:Hp} (a:Keep S H H1) (b:Keep S H1 H2):Keep S H H2:=fun c o e hc=>b c o (a c o e hc) hc
theorem refs_ne_nats {as:List Addr} {l:List Nat} (h:as.length=4):¬natsV l=as.map V.ref:=fun q=>by
 cases as with
 |nil=>cases h
 |cons a r =>
  cases l with
  |nil=>cases q
  |cons x l=>injection q with q1 _;cases q1
theorem BondAt.keep {C:Addr} {H H':Hp} {a pl f CF dxf:Addr} {fs:List (Str×V)} {m:Bond} {as:List Addr} (h:BondAt C H a m) (hpl:H pl=some (.lst (as.map V.ref))) (h4:as.length=4) (hf:H f=some (.ins CF dxf fs)) (hC:C≠CF) (k:Keep [pl,f] H H'):BondAt C H' a m:=by
 obtain⟨dx,l,h1,h2⟩:=h
 refine⟨dx,l,k a _ h1 ?_,k l _ h2 ?_⟩
 ·simp only [List.mem_cons,List.not_mem_nil,or_false,not_or]
  refine⟨ne_of h1 hpl (by intro z;cases z),ne_of h1 hf (by intro z;injection z with z1;exact hC z1)⟩
 ·simp only [List.mem_cons,List.not_mem_nil,or_false,not_or]
  refine⟨ne_of h2 hpl (by intro z;injection z with z1;exact refs_ne_nats h4 z1),ne_of h2 hf (by intro z;cases z)⟩
def spTold (C:Addr):Sp:=fun vs H Q _=>∃(a:Addr) (m:Bond),vs=[.ref a]∧BondAt C H a m∧Good m∧∀(H':Hp) (p:Addr),Same H H'→H p=none→H' p=some (.lst (intsV (BindNs.told m)))→Q (.ref p) H'
theorem scTold:FnScope ["bond"] ["bond"] (defScope sTold):=⟨rfl,rfl,rfl,by decide +kernel,rfl,by decide +kernel,by decide +kernel⟩
theorem ok_told {f:Addr} {fd:FuncData} (F:Fun K "told" "told" sTold f fd) (T:Names mg) (B:BCls K mg C) (C1:Callee P w K mg base 3 "whole_rank" ["bond"] (spWhole C)):FnOk P w K mg base CX0 4 f fd ["bond"] (spTold C):=by
 refine F.ok scTold (fun vs H Q E h=>?_) (fun cdv A outer s H vs Q E hr h=>?_)
 ·obtain⟨a,m,rfl,_⟩:=h
  rfl
 ·obtain⟨a,m,rfl,hB,g,k⟩:=h
  refine⟨_,pss_one (ps_ret (pe_lst (pa_cons (pe_fld (pv 0) rfl) (pa_cons (pcall C1 hr rfl (pa_cons (pv 0) pa_nil)) (pa_cons (pe_callB call_len_seq rfl T.len PySem.boot_len (pa_cons (pe_fld (pv 0) rfl) pa_nil)) pa_nil))))),?_⟩
  have hB0:=hB
  obtain⟨dx,l,h1,h2⟩:=hB0
  refine⟨_,rfl,a,C,dx,_,_,rfl,h1,B.cl,B.nT,bf_things _ _,_,rfl,a,m,rfl,hB,g,fun H1 s1=>?_⟩
  refine⟨_,rfl,a,C,dx,_,_,rfl,s1 _ _ h1,B.cl,B.nB,bf_bases _ _,l,_,rfl,.inl (SqL.of (s1 _ _ h2)),?_⟩
  refine⟨by show 3≤sizeLine;decide,fun p hp=>?_⟩
  refine k _ p (s1.trans (same_new hp)) (s1.free hp) ?_
  rw[upd_same]
  refine congrArg (fun z=>some (HO.lst z)) ?_
  unfold natsV
  rw[List.length_map]
  rfl
def spPut (C CF:Addr):Sp:=fun vs H Q _=>∃(pl b f dxf:Addr) (fs:List (Str×V)) (k:Nat) (st:List Bond) (m:Bond),vs=[.ref pl,nV k,.ref b]∧Pl C H pl st∧H f=some (.ins CF dxf fs)∧k<4∧BondAt C H b m∧Mat m ∧
 ∀(H':Hp) (p:Addr),Pl C H' pl (st.set k m)→Keep [pl] H H'→H p=none→H' p=some (.lst (intsV (BindNs.told m)))→Q (.ref p) H'
theorem scPut:FnScope ["places","k","bond"] ["places","k","bond"] (defScope sPut):=⟨rfl,rfl,rfl,by decide +kernel,rfl,by decide +kernel,by decide +kernel⟩
theorem ok_put {f:Addr} {fd:FuncData} (F:Fun K "put" "put" sPut f fd) (hC:C≠CF) (C1:Callee P w K mg base 4 "told" ["bond"] (spTold C)):FnOk P w K mg base CX0 5 f fd ["places","k","bond"] (spPut C CF):=by
 refine F.ok scPut (fun vs H Q E h=>?_) (fun cdv A outer s H vs Q E hr h=>?_)
 ·obtain⟨pl,b,f,dxf,fs,k,st,m,rfl,_⟩:=h
  rfl
 ·obtain⟨pl,b,ff,dxf,fs,kk,st,m,rfl,⟨as,p1,p2,p3,p4⟩,hf,hk,hB,hM,k⟩:=h
  refine⟨_,pss_cons (ps_asg (pv 2) (pg_sub (pv 0) (pv 1) set_list)) (pss_one (ps_ret (pcall C1 hr rfl (pa_cons (pv 2) pa_nil)))),?_⟩
  have hix:ixN (as.map V.ref).length (kk:Int)=some kk:=by
   unfold ixN
   rw[List.length_map,p2,if_pos (by omega),if_pos (by omega),Int.toNat_natCast]
  refine⟨_,rfl,_,rfl,_,rfl,pl,_,(kk:Int),kk,rfl,rfl,p1,hix,?_⟩
  have kp:Keep [pl,ff] H (upd H pl (.lst ((as.map V.ref).set kk (.ref b)))):=fun c o e hc=>by
   rw[upd_ne (fun q=>hc (by rw[q];exact List.mem_cons_self))];exact e
  have hB1:=hB.keep p1 p2 hf hC kp
  refine⟨_,rfl,b,m,rfl,hB1,hM.good,fun H' p s1 hp e1=>?_⟩
  refine k H' p ⟨as.set kk b,?_,by rw[List.length_set];exact p2,by rw[List.length_set];exact p3,fun j a ha=>?_⟩ (fun c o e hc=>s1 _ _ (by rw[upd_ne (fun q=>hc (by rw[q];exact List.mem_cons_self))];exact e)) ?_ e1
  ·rw[List.map_set];exact s1 _ _ upd_same
  ·by_cases hj:j=kk
   ·subst hj
    rw[List.getElem?_set_self (by omega)] at ha
    have ha:b=a:=Option.some.inj ha
    subst ha
    exact⟨m,by rw[List.getElem?_set_self (by omega)],hB1.same s1,hM⟩
   ·rw[List.getElem?_set_ne (fun q=>hj q.symm)] at ha
    obtain⟨m',a1,a2,a3⟩:=p4 j a ha
    exact⟨m',by rw[List.getElem?_set_ne (fun q=>hj q.symm)];exact a1,(a2.keep p1 p2 hf hC kp).same s1,a3⟩
  ·cases e:H p with
   |none=>rfl
   |some o =>
    by_cases hpp:p=pl
    ·subst hpp;rw[upd_same] at hp;cases hp
    ·rw[upd_ne hpp,e] at hp;cases hp
abbrev sAny:Stmt:=top 67
abbrev sEdges:Stmt:=top 68
abbrev sRowsC:Stmt:=top 69
abbrev sBasesC:Stmt:=top 70
abbrev sTell:Stmt:=top 71
abbrev sNth:Stmt:=top 72
abbrev sRankC:Stmt:=top 73
abbrev sRoundsC:Stmt:=top 74
abbrev sPartsC:Stmt:=top 75
structure Ob (K:PySem.W.Frag) (C CF:Addr) (H:Hp) (pl f a:Addr) (st:List Bond) (ns:List Int) (i:Nat):Prop where
 pl:Pl C H pl st
 fd:FeedAt CF H f a i
 arg:ArgAt K H a ns
theorem Ob.same {K:PySem.W.Frag} {C CF:Addr} {H H':Hp} {pl f a:Addr} {st:List Bond} {ns:List Int} {i:Nat} (s:Same H H') (o:Ob K C CF H pl f a st ns i):Ob K C CF H' pl f a st ns i:=by
 obtain⟨dx,h⟩:=o.fd
 exact⟨o.pl.same s,⟨dx,s _ _ h⟩,o.arg.same s⟩
theorem Ob.took {K:PySem.W.Frag} {C CF:Addr} {H H':Hp} {pl f a:Addr} {st:List Bond} {ns:List Int} {i j:Nat} (hC:C≠CF) (o:Ob K C CF H pl f a st ns i) (hf:FeedAt CF H' f a j) (k:∀b u,H b=some u→b≠f→H' b=some u):Ob K C CF H' pl f a st ns j∧Keep [pl,f] H H':=by
 obtain⟨dx,h⟩:=o.fd
 obtain⟨as,p1,p2,p3,p4⟩:=o.pl
 have kp:Keep [pl,f] H H':=fun b u e hb=>k b u e fun q=>hb (by rw[q];simp)
 refine⟨⟨⟨as,k _ _ p1 (ne_of p1 h (by intro z;cases z)),p2,p3,fun j a' ha=>?_⟩,hf,?_⟩,kp⟩
 ·obtain⟨m,a1,a2,a3⟩:=p4 j a' ha
  exact⟨m,a1,a2.keep p1 p2 h hC kp,a3⟩
 ·rcases o.arg with⟨u,hu⟩|hu
  ·exact .inl ⟨u,k _ _ hu (ne_of hu h (by intro z;cases z))⟩
  ·exact .inr hu
def spCall (K:PySem.W.Frag) (C CF:Addr) (op:Int):Sp:=fun vs H Q _=>∃(pl f a:Addr) (st:List Bond) (ns:List Int) (i:Nat) (c:List (List Int)) (t:List Int) (x:BindNs.Call),vs=[.ref pl,.ref f]∧Ob K C CF H pl f a st ns i∧i≤ns.length ∧
 PyFlat.call PyWrbind.shape (op::ns.drop i)=some (c,t)∧BiNeutral.callOf c=some x∧BiNeutral.asked1 c=true ∧
 ∀(H':Hp) (p:Addr),Ob K C CF H' pl f a (BindNs.step st x).1 ns (ns.length-t.length)→Keep [pl,f] H H'→H p=none→H' p=some (.lst (intsV (BindNs.step st x).2))→Q (.ref p) H'
theorem flat_n {op:Int} {n:Nat} {r t:List Int} {c:List (List Int)} (hs:PyWrbind.shape op=some (n,0)) (h:PyFlat.call PyWrbind.shape (op::r)=some (c,t)):n≤r.length∧c=[op::r.take n]∧t=r.drop n:=by
 unfold PyFlat.call at h
 dsimp only at h
 rw[hs] at h
 dsimp only at h
 by_cases hl:r.length<n
 ·rw[if_pos hl] at h;cases h
 ·rw[if_neg hl] at h
  unfold PyFlat.rows at h
  dsimp only at h
  cases h
  exact⟨by omega,rfl,rfl⟩
theorem flat_nr {op:Int} {n:Nat} {r t:List Int} {c:List (List Int)} (hs:PyWrbind.shape op=some (n,1)) (h:PyFlat.call PyWrbind.shape (op::r)=some (c,t)) :
  ∃(m:Nat) (s:List Int),r.drop n=(m:Int)::s∧m≤s.length∧c=[op::r.take n,s.take m]∧t=s.drop m∧n≤r.length:=by
 unfold PyFlat.call at h
 dsimp only at h
 rw[hs] at h
 dsimp only at h
 by_cases hl:r.length<n
 ·rw[if_pos hl] at h;cases h
 ·rw[if_neg hl] at h
  unfold PyFlat.rows at h
  cases hd:r.drop n with
  |nil=>rw[hd] at h;unfold PyFlat.row at h;cases h
  |cons z s =>
   rw[hd] at h
   unfold PyFlat.row at h
   dsimp only at h
   by_cases hz:0≤z∧z.toNat≤s.length
   ·rw[if_pos hz] at h
    unfold PyFlat.rows at h
    dsimp only at h
    cases h
    exact⟨z.toNat,s,by rw[Int.toNat_of_nonneg hz.1],hz.2,rfl,rfl,by omega⟩
   ·rw[if_neg hz] at h;cases h
theorem take_get {ns:List Int} {i n j:Nat} {z:Int} (h:((ns.drop i).take n)[j]?=some z):ns[i+j]?=some z:=by
 rw[List.getElem?_take] at h
 split at h
 ·rw[List.getElem?_drop] at h;exact h
 ·cases h
structure FMeth (P:Program) (w:World) (K:PySem.W.Frag) (mg:Str→Option Value) (base:Heap) (CF fT fR:Addr) (fdT fdR:FuncData):Prop where
 cl:FCls K mg CF
 mT:Meth K CF "take" fT
 gT:FnOk P w K mg base CX0 1 fT fdT ["self"] (spTake K CF)
 bT:Binds K fdT ["self"] []
 mR:Meth K CF "take_row" fR
 gR:FnOk P w K mg base CX0 2 fR fdR ["self"] (spRow K CF)
 bR:Binds K fdR ["self"] []
theorem scTell:FnScope ["places","feed","k"] ["places","feed"] (defScope sTell):=⟨rfl,rfl,rfl,by decide +kernel,rfl,by decide +kernel,by decide +kernel⟩
theorem Pl.at_ {H:Hp} {pl:Addr} {st:List Bond} {k:Nat} (h:Pl C H pl st) (hk:k<4):∃(as:List Addr) (b:Addr) (m:Bond),H pl=some (.lst (as.map V.ref))∧atI (as.map V.ref) (k:Int)=some (V.ref b)∧BindNs.at_ st k=m∧st[k]?=some m∧BondAt C H b m∧Mat m:=by
 obtain⟨as,p1,p2,p3,p4⟩:=h
 have hb:as[k]?=some as[k]:=List.getElem?_eq_getElem (by omega)
 obtain⟨m,a1,a2,a3⟩:=p4 k _ hb
 refine⟨as,as[k],m,p1,at_of (j:=k) rfl (by rw[List.getElem?_map,hb];rfl),?_,a1,a2,a3⟩
 unfold BindNs.at_
 rw[List.getD_eq_getElem?_getD,a1];rfl
theorem ok_tell {f fT fR:Addr} {fd fdT fdR:FuncData} (F:Fun K "call_tell" "call_tell" sTell f fd) (hC:C≠CF) (M:FMeth P w K mg base CF fT fR fdT fdR) (hP:∃t,mg "PLACES"=some (.int 4 t)) (hW:∃t,mg "WRONG"=some (.int (-2) t)) (C1:Callee P w K mg base 4 "told" ["bond"] (spTold C)) :
  FnOk P w K mg base CX0 6 f fd ["places","feed"] (spCall K C CF 4):=by
 obtain⟨tp,hP⟩:=hP
 obtain⟨tw,hW⟩:=hW
 refine F.ok scTell (fun vs H Q E h=>?_) (fun cdv A outer s H vs Q E hr h=>?_)
 ·obtain⟨pl,f,a,st,ns,i,c,t,x,rfl,_⟩:=h
  rfl
 ·obtain⟨pl,ff,a,st,ns,i,c,t,x,rfl,O,hi,hfl,hco,hask,k⟩:=h
  have hr1:Room 1 _:=hr.mono (by decide)
  have hr4:Room 4 _:=hr.mono (by decide)
  refine⟨_,pss_cons (ps_set (i:=2) scTell.nd rfl (Or.inl rfl) (pe_meth0 (pv 1) M.cl.cl M.mT M.gT hr1 M.bT .nil pass0))
   (pss_cons (ps_if (pt_cmpR op_ge (pv 2) (pe_glob (v:=.int 4) rfl hP ⟨tp,rfl⟩) (nomark _)) (pss_one (ps_ret (pe_lst (pa_cons (pe_glob (v:=.int (-2)) rfl hW ⟨tw,rfl⟩) pa_nil)))) pss_nil)
   (pss_one (ps_ret (pcall C1 hr4 rfl (pa_cons (pe_ix ix_list (pv 0) (pv 2) (fun _ _=>rfl)) pa_nil))))),?_⟩
  obtain⟨h1,rfl,rfl⟩:=flat_n (n:=1) rfl hfl
  obtain⟨z,hz⟩:∃z,(ns.drop i).take 1=[z]:=by
   match hd:ns.drop i,h1 with
   |z::r,_=>exact⟨z,rfl⟩
  rw[hz] at hco hask
  have hzi:ns[i]?=some z:=take_get (n:=1) (j:=0) (by rw[hz];rfl)
  have hx:x=.tell z.toNat:=(Option.some.inj hco).symm
  have hz0:0≤z:=by
   have:BiNeutral.natural z 32=true:=hask
   unfold BiNeutral.natural at this
   rw[Bool.and_eq_true,decide_eq_true_eq] at this
   exact this.1
  subst hx
  have hlen:ns.length-(List.drop 1 (List.drop i ns)).length=i+1:=by
   rw[List.length_drop,List.length_drop]
   rw[List.length_drop] at h1
   omega
  rw[hlen] at k
  obtain⟨dxf,hff⟩:=O.fd
  refine⟨_,rfl,ff,dxf,_,rfl,hff,ff_no _ _ (by decide +kernel) (by decide +kernel),ff,a,ns,i,z,rfl,O.fd,O.arg,hzi,fun H1 hf1 kp1=>?_⟩
  obtain⟨O1,K1⟩:=O.took hC hf1 kp1
  have free1:∀q,H1 q=none→H q=none:=fun q hq=>by
   cases e:H q with
   |none=>rfl
   |some o =>
    by_cases hqf:q=ff
    ·obtain⟨d2,h2⟩:=hf1
     rw[hqf,h2] at hq;cases hq
    ·rw[kp1 q o e hqf] at hq;cases hq
  refine⟨_,rfl,_,_,rfl,rfl,_,rfl,?_⟩
  have hzn:z=(z.toNat:Int):=(Int.toNat_of_nonneg hz0).symm
  by_cases hk4:z.toNat<4
  ·rw[decide_eq_false (by show ¬z≥4;omega)]
   refine iteF ?_
   obtain⟨as,b,m,q1,q2,q3,q4,q5,q6⟩:=O1.pl.at_ hk4
   rw[←hzn] at q2
   refine⟨_,rfl,_,rfl,pl,_,_,_,rfl,rfl,SqL.of q1,q2,b,m,rfl,q5,q6.good,fun H' p s1 hp e1=>?_⟩
   have hst:BindNs.step st (.tell z.toNat)=(st,BindNs.told m):=by
    show BindNs.ofPlace st z.toNat (st,BindNs.told (BindNs.at_ st z.toNat))=_
    unfold BindNs.ofPlace
    rw[if_neg (show ¬BindNs.PLACES≤z.toNat from Nat.not_le.mpr hk4),q3]
   rw[hst] at k
   exact k H' p (O1.same s1) (K1.trans (Keep.of_same s1)) (free1 p hp) e1
  ·rw[decide_eq_true (by show z≥4;omega)]
   refine iteT ⟨by show 1≤sizeLine;decide,fun p hp=>?_⟩
   have hst:BindNs.step st (.tell z.toNat)=(st,BindNs.says (-2)):=by
    show BindNs.ofPlace st z.toNat _=_
    unfold BindNs.ofPlace
    rw[if_pos (show BindNs.PLACES≤z.toNat from Nat.not_lt.mp hk4)]
   rw[hst] at k
   exact k _ p (O1.same (same_new hp)) (K1.trans (Keep.of_same (same_new hp))) (free1 p hp) upd_same
def Free (H H':Hp):Prop:=∀q,H' q=none→H q=none
theorem Free.trans {H H1 H2:Hp} (a:Free H H1) (b:Free H1 H2):Free H H2:=fun q h=>a q (b q h)
theorem rd_take {H:Hp} {pl f a:Addr} {st:List Bond} {ns:List Int} {i j:Nat} {z:Int} {σ:L2.St} {Q:VK} (hC:C≠CF) (hv:σ[j]?=some (some (.ref f))) (O:Ob K C CF H pl f a st ns i) (hz:ns[i]?=some z)
  (k:∀H1,Ob K C CF H1 pl f a st ns (i+1)→Keep [pl,f] H H1→Free H H1→Q (.int z) H1):tMeth CF "take" (spTake K CF) [] E0 (tVar j) tNil σ H Q:=by
 obtain⟨dxf,hff⟩:=O.fd
 refine⟨_,hv,f,dxf,_,rfl,hff,ff_no _ _ (by decide +kernel) (by decide +kernel),f,a,ns,i,z,rfl,O.fd,O.arg,hz,fun H1 hf1 kp1=>?_⟩
 obtain⟨O1,K1⟩:=O.took hC hf1 kp1
 refine k H1 O1 K1 fun q hq=>?_
 cases e:H q with
 |none=>rfl
 |some o =>
  by_cases hqf:q=f
  ·obtain⟨d2,h2⟩:=hf1
   rw[hqf,h2] at hq;cases hq
  ·rw[kp1 q o e hqf] at hq;cases hq
theorem rd_row {H:Hp} {pl f a:Addr} {st:List Bond} {ns:List Int} {i j m:Nat} {σ:L2.St} {Q:VK} (hC:C≠CF) (hv:σ[j]?=some (some (.ref f))) (O:Ob K C CF H pl f a st ns i) (hz:ns[i]?=some (m:Int)) (hm:i+1+m≤ns.length)
  (k:∀H1 q,Ob K C CF H1 pl f a st ns (i+1+m)→Keep [pl,f] H H1→Free H H1→H q=none→H1 q=some (.lst (intsV ((ns.drop (i+1)).take m)))→Q (.ref q) H1):tMeth CF "take_row" (spRow K CF) [] E0 (tVar j) tNil σ H Q:=by
 obtain⟨dxf,hff⟩:=O.fd
 refine⟨_,hv,f,dxf,_,rfl,hff,ff_no _ _ (by decide +kernel) (by decide +kernel),f,a,ns,i,m,rfl,O.fd,O.arg,hz,hm,fun H1 q hf1 hq e1 kp1=>?_⟩
 obtain⟨O1,K1⟩:=O.took hC hf1 kp1
 refine k H1 q O1 K1 (fun q hq=>?_) hq e1
 cases e:H q with
 |none=>rfl
 |some o =>
  by_cases hqf:q=f
  ·obtain⟨d2,h2⟩:=hf1
   rw[hqf,h2] at hq;cases hq
  ·rw[kp1 q o e hqf] at hq;cases hq
theorem nums1 {ns:List Int} {i:Nat} (h:1≤(ns.drop i).length):∃x,(ns.drop i).take 1=[x]∧ns[i]?=some x:=by
 match hd:ns.drop i,h with
 |x::r,_ =>
  have g:∀j y,(ns.drop i)[j]?=some y→ns[i+j]?=some y:=fun j y hy=>by rw[List.getElem?_drop] at hy;exact hy
  exact⟨x,rfl,g 0 x (by rw[hd];rfl)⟩
theorem nums2 {ns:List Int} {i:Nat} (h:2≤(ns.drop i).length):∃x y,(ns.drop i).take 2=[x,y]∧ns[i]?=some x∧ns[i+1]?=some y:=by
 match hd:ns.drop i,h with
 |x::y::r,_ =>
  have g:∀j y,(ns.drop i)[j]?=some y→ns[i+j]?=some y:=fun j y hy=>by rw[List.getElem?_drop] at hy;exact hy
  exact⟨x,y,rfl,g 0 x (by rw[hd];rfl),g 1 y (by rw[hd];rfl)⟩
theorem nums3 {ns:List Int} {i:Nat} (h:3≤(ns.drop i).length):∃x y z,(ns.drop i).take 3=[x,y,z]∧ns[i]?=some x∧ns[i+1]?=some y∧ns[i+2]?=some z:=by
 match hd:ns.drop i,h with
 |x::y::z::r,_ =>
  have g:∀j y,(ns.drop i)[j]?=some y→ns[i+j]?=some y:=fun j y hy=>by rw[List.getElem?_drop] at hy;exact hy
  exact⟨x,y,z,rfl,g 0 x (by rw[hd];rfl),g 1 y (by rw[hd];rfl),g 2 z (by rw[hd];rfl)⟩
theorem nat_of {z:Int} {b:Nat} (h:BiNeutral.natural z b=true):∃n:Nat,z=(n:Int)∧z.toNat=n:=by
 unfold BiNeutral.natural at h
 rw[Bool.and_eq_true,decide_eq_true_eq] at h
 exact⟨z.toNat,(Int.toNat_of_nonneg h.1).symm,rfl⟩
theorem end_n {ns:List Int} {i n:Nat} (h:n≤(ns.drop i).length):ns.length-((ns.drop i).drop n).length=i+n∨ns.length<i:=by
 rw[List.length_drop,List.length_drop]
 rw[List.length_drop] at h
 omega
theorem end_n' {ns:List Int} {i n:Nat} (hi:i≤ns.length) (h:n≤(ns.drop i).length):ns.length-((ns.drop i).drop n).length=i+n:=by
 rcases end_n h with q|q
 ·exact q
 ·omega
theorem scRoundsC:FnScope ["places","feed","k","found"] ["places","feed"] (defScope sRoundsC):=⟨rfl,rfl,rfl,by decide +kernel,rfl,by decide +kernel,by decide +kernel⟩
theorem ok_roundsC {f fT fR:Addr} {fd fdT fdR:FuncData} (F:Fun K "call_rounds" "call_rounds" sRoundsC f fd) (T:Names mg) (hC:C≠CF) (M:FMeth P w K mg base CF fT fR fdT fdR) (hP:∃t,mg "PLACES"=some (.int 4 t)) (hW:∃t,mg "WRONG"=some (.int (-2) t)) (C1:Callee P w K mg base 4 "rounds_of" ["bond"] (spRounds C)) :
  FnOk P w K mg base CX0 6 f fd ["places","feed"] (spCall K C CF 7):=by
 obtain⟨tp,hP⟩:=hP
 obtain⟨tw,hW⟩:=hW
 refine F.ok scRoundsC (fun vs H Q E h=>?_) (fun cdv A outer s H vs Q E hr h=>?_)
 ·obtain⟨pl,f,a,st,ns,i,c,t,x,rfl,_⟩:=h
  rfl
 ·obtain⟨pl,ff,a,st,ns,i,c,t,x,rfl,O,hi,hfl,hco,hask,k⟩:=h
  have hr1:Room 1 _:=hr.mono (by decide)
  have hr4:Room 4 _:=hr.mono (by decide)
  refine⟨_,pss_cons (ps_set (i:=2) scRoundsC.nd rfl (Or.inl rfl) (pe_meth0 (pv 1) M.cl.cl M.mT M.gT hr1 M.bT .nil pass0))
   (pss_cons (ps_if (pt_cmpR op_ge (pv 2) (pe_glob (v:=.int 4) rfl hP ⟨tp,rfl⟩) (nomark _)) (pss_one (ps_ret (pe_lst (pa_cons (pe_glob (v:=.int (-2)) rfl hW ⟨tw,rfl⟩) pa_nil)))) pss_nil)
   (pss_cons (ps_set (i:=3) scRoundsC.nd rfl (Or.inl rfl) (pcall C1 hr4 rfl (pa_cons (pe_ix ix_list (pv 0) (pv 2) (fun _ _=>rfl)) pa_nil)))
   (pss_one (ps_ret (pe_op op_cat (pe_lst (pa_cons (pe_callB call_len_seq rfl T.len PySem.boot_len (pa_cons (pv 3) pa_nil)) pa_nil)) (pv 3)))))),?_⟩
  obtain⟨h1,rfl,rfl⟩:=flat_n (n:=1) rfl hfl
  obtain⟨z,hz,hzi⟩:=nums1 h1
  rw[hz] at hco hask
  have hx:x=.rounds z.toNat:=(Option.some.inj hco).symm
  obtain⟨kk,rfl,hkk⟩:=nat_of (show BiNeutral.natural z 32=true from hask)
  rw[hkk] at hx
  subst hx
  rw[end_n' hi h1] at k
  refine rd_take (pl:=pl) (a:=a) (st:=st) (ns:=ns) (i:=i) hC rfl O hzi fun H1 O1 K1 f1=>?_
  refine⟨_,rfl,_,_,rfl,rfl,_,rfl,?_⟩
  by_cases hk4:kk<4
  ·rw[decide_eq_false (by show ¬((kk:Int)≥4);omega)]
   refine iteF ?_
   obtain⟨as,b,m,q1,q2,q3,q4,q5,q6⟩:=O1.pl.at_ hk4
   refine⟨_,rfl,_,rfl,pl,_,_,_,rfl,rfl,SqL.of q1,q2,b,m,rfl,q5,q6.good,fun H2 p s1 hp e1=>?_⟩
   have hst:BindNs.step st (.rounds kk)=(st,BindNs.nats (m.rounds.length::m.rounds)):=by
    show BindNs.ofPlace st kk (st,BindNs.nats ((BindNs.at_ st kk).rounds.length::(BindNs.at_ st kk).rounds))=_
    unfold BindNs.ofPlace
    rw[if_neg (show ¬BindNs.PLACES≤kk from Nat.not_le.mpr hk4),q3]
   rw[hst] at k
   have hlen:m.rounds.length≤256:=by
    refine Nat.le_trans (List.length_filter_le _ _) ?_
    rw[show (sets m.n).length=2^m.n from List.length_range]
    exact pow_le_256 q6.good.n8
   refine⟨_,rfl,p,_,rfl,.inl (SqL.of e1),by show 1≤sizeLine;decide,fun q hq=>?_⟩
   refine⟨_,rfl,q,p,_,_,rfl,rfl,upd_same,by rw[upd_ne (ne_of_none e1 hq)];exact e1,?_,fun r hr0=>?_⟩
   ·show 1+(natsV m.rounds).length≤sizeLine
    unfold natsV
    rw[List.length_map]
    have:(1000:Nat)≤sizeLine:=by decide
    omega
   ·have s2:=(s1.trans (same_new hq)).trans (same_new (H:=upd H2 q _) (o:=.lst ([V.int ((natsV m.rounds).length:Int)]++natsV m.rounds)) hr0)
    refine k _ r (O1.same s2) (K1.trans (Keep.of_same s2)) ?_ ?_
    ·exact f1 r ((s1.trans (same_new hq)).free hr0)
    ·rw[upd_same]
     refine congrArg (fun z=>some (HO.lst z)) ?_
     unfold natsV intsV BindNs.nats
     rw[List.length_map,List.map_map,List.map_cons]
     rfl
  ·rw[decide_eq_true (by show ((kk:Int)≥4);omega)]
   refine iteT ⟨by show 1≤sizeLine;decide,fun p hp=>?_⟩
   have hst:BindNs.step st (.rounds kk)=(st,BindNs.says (-2)):=by
    show BindNs.ofPlace st kk _=_
    unfold BindNs.ofPlace
    rw[if_pos (show BindNs.PLACES≤kk from Nat.not_lt.mp hk4)]
   rw[hst] at k
   exact k _ p (O1.same (same_new hp)) (K1.trans (Keep.of_same (same_new hp))) (f1 p hp) upd_same
structure Consts (mg:Str→Option Value):Prop where
 places:∃t,mg "PLACES"=some (.int 4 t)
 most:∃t,mg "MOST_THINGS"=some (.int 8 t)
 wrong:∃t,mg "WRONG"=some (.int (-2) t)
 noBase:∃t,mg "NO_SUCH_BASE"=some (.int (-4) t)
 noBond:∃t,mg "NO_BOND"=some (.int (-5) t)
 unfit:∃t,mg "UNFIT"=some (.int (-3) t)
 expo:∃t,mg "MOST_EXPONENT"=some (.int 8 t)
theorem place_out {st:List Bond} {k:Nat} {r:BindNs.State×BindNs.Answer} (h:¬k<4):BindNs.ofPlace st k r=(st,BindNs.says (-2)):=by
 unfold BindNs.ofPlace
 rw[if_pos (show BindNs.PLACES≤k from Nat.not_lt.mp h)]
theorem place_in {st:List Bond} {k:Nat} {r:BindNs.State×BindNs.Answer} (h:k<4):BindNs.ofPlace st k r=r:=by
 unfold BindNs.ofPlace
 rw[if_neg (show ¬BindNs.PLACES≤k from Nat.not_le.mpr h)]
theorem scPartsC:FnScope ["places","feed","k"] ["places","feed"] (defScope sPartsC):=⟨rfl,rfl,rfl,by decide +kernel,rfl,by decide +kernel,by decide +kernel⟩
theorem ok_partsC {f fT fR:Addr} {fd fdT fdR:FuncData} (F:Fun K "call_parts" "call_parts" sPartsC f fd) (B:BCls K mg C) (hC:C≠CF) (M:FMeth P w K mg base CF fT fR fdT fdR) (N:Consts mg) (C1:Callee P w K mg base 5 "least_of_parts" ["bond"] (spParts C)) :
  FnOk P w K mg base CX0 6 f fd ["places","feed"] (spCall K C CF 8):=by
 obtain⟨tp,hP⟩:=N.places
 obtain⟨tw,hW⟩:=N.wrong
 refine F.ok scPartsC (fun vs H Q E h=>?_) (fun cdv A outer s H vs Q E hr h=>?_)
 ·obtain⟨pl,f,a,st,ns,i,c,t,x,rfl,_⟩:=h
  rfl
 ·obtain⟨pl,ff,a,st,ns,i,c,t,x,rfl,O,hi,hfl,hco,hask,k⟩:=h
  have hr1:Room 1 _:=hr.mono (by decide)
  refine⟨_,pss_cons (ps_set (i:=2) scPartsC.nd rfl (Or.inl rfl) (pe_meth0 (pv 1) M.cl.cl M.mT M.gT hr1 M.bT .nil pass0))
   (pss_cons (ps_if (pt_cmpR op_ge (pv 2) (pe_glob (v:=.int 4) rfl hP ⟨tp,rfl⟩) (nomark _)) (pss_one (ps_ret (pe_lst (pa_cons (pe_glob (v:=.int (-2)) rfl hW ⟨tw,rfl⟩) pa_nil)))) pss_nil)
   (pss_one (ps_ret (pe_op op_cat (pe_lst (pa_cons (pe_fld (pe_ix ix_list (pv 0) (pv 2) (fun _ _=>rfl)) rfl) pa_nil)) (pcall C1 hr rfl (pa_cons (pe_ix ix_list (pv 0) (pv 2) (fun _ _=>rfl)) pa_nil)))))),?_⟩
  obtain⟨h1,rfl,rfl⟩:=flat_n (n:=1) rfl hfl
  obtain⟨z,hz,hzi⟩:=nums1 h1
  rw[hz] at hco hask
  have hx:x=.parts z.toNat:=(Option.some.inj hco).symm
  obtain⟨kk,rfl,hkk⟩:=nat_of (show BiNeutral.natural z 32=true from hask)
  rw[hkk] at hx
  subst hx
  rw[end_n' hi h1] at k
  refine rd_take (pl:=pl) (a:=a) (st:=st) (ns:=ns) (i:=i) hC rfl O hzi fun H1 O1 K1 f1=>?_
  refine⟨_,rfl,_,_,rfl,rfl,_,rfl,?_⟩
  by_cases hk4:kk<4
  ·rw[decide_eq_false (by show ¬((kk:Int)≥4);omega)]
   refine iteF ?_
   obtain⟨as,b,m,q1,q2,q3,q4,q5,q6⟩:=O1.pl.at_ hk4
   have hst:BindNs.step st (.parts kk)=(st,BindNs.nats (m.leasts.length::m.leasts)):=by
    show BindNs.ofPlace st kk (st,BindNs.nats ((BindNs.at_ st kk).leasts.length::(BindNs.at_ st kk).leasts))=_
    rw[place_in hk4,q3]
   rw[hst] at k
   have hll:m.leasts.length=m.n:=by unfold Bond.leasts;rw[List.length_map,List.length_range]
   have q5':=q5
   obtain⟨dx,l,b1,b2⟩:=q5'
   refine⟨_,rfl,_,rfl,pl,_,_,_,rfl,rfl,SqL.of q1,q2,b,C,dx,_,_,rfl,b1,B.cl,B.nT,bf_things _ _,by show 1≤sizeLine;decide,fun q hq=>?_⟩
   have sq:=same_new (H:=H1) (o:=.lst [nV m.n]) hq
   refine⟨_,rfl,_,rfl,pl,_,_,_,rfl,rfl,SqL.of (sq _ _ q1),q2,b,m,rfl,q5.same sq,q6.good,fun H2 p s1 e1=>?_⟩
   refine⟨q,p,_,_,rfl,rfl,s1 _ _ upd_same,e1,?_,fun r hr0=>?_⟩
   ·show 1+(natsV m.leasts).length≤sizeLine
    unfold natsV
    rw[List.length_map,hll]
    have:(1000:Nat)≤sizeLine:=by decide
    have:=q6.good.n8
    omega
   ·have s2:=(sq.trans s1).trans (same_new (H:=H2) (o:=.lst ([nV m.n]++natsV m.leasts)) hr0)
    refine k _ r (O1.same s2) (K1.trans (Keep.of_same s2)) (f1 r ((sq.trans s1).free hr0)) ?_
    rw[upd_same]
    refine congrArg (fun z=>some (HO.lst z)) ?_
    unfold natsV intsV BindNs.nats
    rw[hll,List.map_map,List.map_cons]
    rfl
  ·rw[decide_eq_true (by show ((kk:Int)≥4);omega)]
   refine iteT ⟨by show 1≤sizeLine;decide,fun p hp=>?_⟩
   have hst:BindNs.step st (.parts kk)=(st,BindNs.says (-2)):=place_out hk4
   rw[hst] at k
   exact k _ p (O1.same (same_new hp)) (K1.trans (Keep.of_same (same_new hp))) (f1 p hp) upd_same
theorem scNth:FnScope ["places","feed","k","i","bases"] ["places","feed"] (defScope sNth):=⟨rfl,rfl,rfl,by decide +kernel,rfl,by decide +kernel,by decide +kernel⟩
theorem ok_nth {f fT fR:Addr} {fd fdT fdR:FuncData} (F:Fun K "call_nth" "call_nth" sNth f fd) (T:Names mg) (B:BCls K mg C) (hC:C≠CF) (M:FMeth P w K mg base CF fT fR fdT fdR) (N:Consts mg) :
  FnOk P w K mg base CX0 6 f fd ["places","feed"] (spCall K C CF 5):=by
 obtain⟨tp,hP⟩:=N.places
 obtain⟨tw,hW⟩:=N.wrong
 obtain⟨tn,hN⟩:=N.noBase
 refine F.ok scNth (fun vs H Q E h=>?_) (fun cdv A outer s H vs Q E hr h=>?_)
 ·obtain⟨pl,f,a,st,ns,i,c,t,x,rfl,_⟩:=h
  rfl
 ·obtain⟨pl,ff,a,st,ns,i,c,t,x,rfl,O,hi,hfl,hco,hask,k⟩:=h
  have hr1:Room 1 _:=hr.mono (by decide)
  refine⟨_,pss_cons (ps_set (i:=2) scNth.nd rfl (Or.inl rfl) (pe_meth0 (pv 1) M.cl.cl M.mT M.gT hr1 M.bT .nil pass0))
   (pss_cons (ps_set (i:=3) scNth.nd rfl (Or.inl rfl) (pe_meth0 (pv 1) M.cl.cl M.mT M.gT hr1 M.bT .nil pass0))
   (pss_cons (ps_if (pt_cmpR op_ge (pv 2) (pe_glob (v:=.int 4) rfl hP ⟨tp,rfl⟩) (nomark _)) (pss_one (ps_ret (pe_lst (pa_cons (pe_glob (v:=.int (-2)) rfl hW ⟨tw,rfl⟩) pa_nil)))) pss_nil)
   (pss_cons (ps_set (i:=4) scNth.nd rfl (Or.inl rfl) (pe_fld (pe_ix ix_list (pv 0) (pv 2) (fun _ _=>rfl)) rfl))
   (pss_cons (ps_if (pt_cmpR op_ge (pv 3) (pe_callB call_len_seq rfl T.len PySem.boot_len (pa_cons (pv 4) pa_nil)) (nomark _)) (pss_one (ps_ret (pe_lst (pa_cons (pe_glob (v:=.int (-4)) rfl hN ⟨tn,rfl⟩) pa_nil)))) pss_nil)
   (pss_one (ps_ret (pe_lst (pa_cons (pe_ix ix_list (pv 4) (pv 3) (fun _ _=>rfl)) pa_nil)))))))),?_⟩
  obtain⟨h1,rfl,rfl⟩:=flat_n (n:=2) rfl hfl
  obtain⟨z,y,hz,hzi,hyi⟩:=nums2 h1
  rw[hz] at hco hask
  have hx:x=.nth z.toNat y.toNat:=(Option.some.inj hco).symm
  have hask:(BiNeutral.natural z 32&&BiNeutral.natural y 32)=true:=hask
  rw[Bool.and_eq_true] at hask
  obtain⟨kk,rfl,hkk⟩:=nat_of hask.1
  obtain⟨jj,rfl,hjj⟩:=nat_of hask.2
  rw[hkk,hjj] at hx
  subst hx
  rw[end_n' hi h1] at k
  refine rd_take (pl:=pl) (a:=a) (st:=st) (ns:=ns) (i:=i) hC rfl O hzi fun H1 O1 K1 f1=>?_
  refine rd_take (pl:=pl) (a:=a) (st:=st) (ns:=ns) (i:=i+1) hC rfl O1 hyi fun H2 O2 K2 f2=>?_
  have K12:=K1.trans K2
  have f12:=f1.trans f2
  refine⟨_,rfl,_,_,rfl,rfl,_,rfl,?_⟩
  by_cases hk4:kk<4
  ·rw[decide_eq_false (by show ¬((kk:Int)≥4);omega)]
   refine iteF ?_
   obtain⟨as,b,m,q1,q2,q3,q4,q5,q6⟩:=O2.pl.at_ hk4
   obtain⟨dx,l,b1,b2⟩:=q5
   have hst:BindNs.step st (.nth kk jj)=(st,match m.bases[jj]? with|none=>BindNs.says (-4)|some b=>BindNs.nats [b]):=by
    show BindNs.ofPlace st kk (st,match (BindNs.at_ st kk).bases[jj]? with|none=>BindNs.says (-4)|some b=>BindNs.nats [b])=_
    rw[place_in hk4,q3]
   rw[hst] at k
   refine⟨_,rfl,_,rfl,pl,_,_,_,rfl,rfl,SqL.of q1,q2,b,C,dx,_,_,rfl,b1,B.cl,B.nB,bf_bases _ _,?_⟩
   refine⟨_,rfl,_,rfl,l,_,rfl,.inl (SqL.of b2),_,_,rfl,rfl,_,rfl,?_⟩
   have hlen:(natsV m.bases).length=m.bases.length:=by unfold natsV;rw[List.length_map]
   rw[hlen]
   by_cases hj:jj<m.bases.length
   ·rw[decide_eq_false (by show ¬((jj:Int)≥(m.bases.length:Int));omega)]
    refine iteF ?_
    have hg:m.bases[jj]?=some m.bases[jj]:=List.getElem?_eq_getElem hj
    rw[hg] at k
    refine⟨_,rfl,_,rfl,l,_,_,_,rfl,rfl,SqL.of b2,at_of (j:=jj) (v:=nV m.bases[jj]) rfl (by unfold natsV;rw[List.getElem?_map,hg];rfl),by show 1≤sizeLine;decide,fun p hp=>?_⟩
    exact k _ p (O2.same (same_new hp)) (K12.trans (Keep.of_same (same_new hp))) (f12 p hp) upd_same
   ·rw[decide_eq_true (by show ((jj:Int)≥(m.bases.length:Int));omega)]
    rw[List.getElem?_eq_none (by omega)] at k
    refine iteT ⟨by show 1≤sizeLine;decide,fun p hp=>?_⟩
    exact k _ p (O2.same (same_new hp)) (K12.trans (Keep.of_same (same_new hp))) (f12 p hp) upd_same
  ·rw[decide_eq_true (by show ((kk:Int)≥4);omega)]
   refine iteT ⟨by show 1≤sizeLine;decide,fun p hp=>?_⟩
   have hst:BindNs.step st (.nth kk jj)=(st,BindNs.says (-2)):=place_out hk4
   rw[hst] at k
   exact k _ p (O2.same (same_new hp)) (K12.trans (Keep.of_same (same_new hp))) (f12 p hp) upd_same
open BindNs (things size Bond sets edgesOk pairsOf rowsOk rowsIn)
theorem Ob.put {H H':Hp} {pl f a:Addr} {st st':List Bond} {ns:List Int} {i:Nat} (O:Ob K C CF H pl f a st ns i) (hp:Pl C H' pl st') (k:Keep [pl] H H'):Ob K C CF H' pl f a st' ns i∧Keep [pl,f] H H':=by
 obtain⟨dx,h⟩:=O.fd
 obtain⟨as,p1,_⟩:=O.pl
 refine⟨⟨hp,⟨dx,k _ _ h fun q=>?_⟩,?_⟩,fun b o e hb=>k b o e fun q=>hb ?_⟩
 ·exact ne_of h p1 (by intro z;cases z) (List.mem_singleton.mp q)
 ·rcases O.arg with⟨u,hu⟩|hu
  ·exact .inl ⟨u,k _ _ hu fun q=>ne_of hu p1 (by intro z;cases z) (List.mem_singleton.mp q)⟩
  ·exact .inr hu
 ·rw[List.mem_singleton.mp q];exact List.mem_cons_self
theorem scRankC:FnScope ["places","feed","k","s"] ["places","feed"] (defScope sRankC):=⟨rfl,rfl,rfl,by decide +kernel,rfl,by decide +kernel,by decide +kernel⟩
theorem ok_rankC {f fT fR:Addr} {fd fdT fdR:FuncData} (F:Fun K "call_rank" "call_rank" sRankC f fd) (B:BCls K mg C) (hC:C≠CF) (M:FMeth P w K mg base CF fT fR fdT fdR) (N:Consts mg) (C1:Callee P w K mg base 3 "rank_of" ["bond","s"] (spRank C)) (C2:Callee P w K mg base 4 "closure_of" ["bond","s"] (spClosure C)) :
  FnOk P w K mg base CX0 6 f fd ["places","feed"] (spCall K C CF 6):=by
 obtain⟨tp,hP⟩:=N.places
 obtain⟨tw,hW⟩:=N.wrong
 refine F.ok scRankC (fun vs H Q E h=>?_) (fun cdv A outer s H vs Q E hr h=>?_)
 ·obtain⟨pl,f,a,st,ns,i,c,t,x,rfl,_⟩:=h
  rfl
 ·obtain⟨pl,ff,a,st,ns,i,c,t,x,rfl,O,hi,hfl,hco,hask,k⟩:=h
  have hr1:Room 1 _:=hr.mono (by decide)
  have hr3:Room 3 _:=hr.mono (by decide)
  have hr4:Room 4 _:=hr.mono (by decide)
  refine⟨_,pss_cons (ps_set (i:=2) scRankC.nd rfl (Or.inl rfl) (pe_meth0 (pv 1) M.cl.cl M.mT M.gT hr1 M.bT .nil pass0))
   (pss_cons (ps_set (i:=3) scRankC.nd rfl (Or.inl rfl) (pe_meth0 (pv 1) M.cl.cl M.mT M.gT hr1 M.bT .nil pass0))
   (pss_cons (ps_if (PW.pt (pw_or (pt_cmpR op_ge (pv 2) (pe_glob (v:=.int 4) rfl hP ⟨tp,rfl⟩) (nomark _)) (pw_or1 (pt_cmpR op_ge (pv 3) (pe_op op_shl pe_int (pe_fld (pe_ix ix_list (pv 0) (pv 2) (fun _ _=>rfl)) rfl)) (nomark _))))) (pss_one (ps_ret (pe_lst (pa_cons (pe_glob (v:=.int (-2)) rfl hW ⟨tw,rfl⟩) pa_nil)))) pss_nil)
   (pss_one (ps_ret (pe_lst (pa_cons (pcall C1 hr3 rfl (pa_cons (pe_ix ix_list (pv 0) (pv 2) (fun _ _=>rfl)) (pa_cons (pv 3) pa_nil))) (pa_cons (pcall C2 hr4 rfl (pa_cons (pe_ix ix_list (pv 0) (pv 2) (fun _ _=>rfl)) (pa_cons (pv 3) pa_nil))) pa_nil))))))),?_⟩
  obtain⟨h1,rfl,rfl⟩:=flat_n (n:=2) rfl hfl
  obtain⟨z,y,hz,hzi,hyi⟩:=nums2 h1
  rw[hz] at hco hask
  have hx:x=.rank z.toNat y.toNat:=(Option.some.inj hco).symm
  have hask:(BiNeutral.natural z 32&&BiNeutral.natural y 32)=true:=hask
  rw[Bool.and_eq_true] at hask
  obtain⟨kk,rfl,hkk⟩:=nat_of hask.1
  obtain⟨tt,rfl,htt⟩:=nat_of hask.2
  rw[hkk,htt] at hx
  subst hx
  rw[end_n' hi h1] at k
  refine rd_take (pl:=pl) (a:=a) (st:=st) (ns:=ns) (i:=i) hC rfl O hzi fun H1 O1 K1 f1=>?_
  refine rd_take (pl:=pl) (a:=a) (st:=st) (ns:=ns) (i:=i+1) hC rfl O1 hyi fun H2 O2 K2 f2=>?_
  have K12:=K1.trans K2
  have f12:=f1.trans f2
  have out:BindNs.step st (.rank kk tt)=(st,BindNs.says (-2))→∀p,H2 p=none→Q (.ref p) (upd H2 p (.lst [V.int (-2)])):=fun hst p hp=>by
   rw[hst] at k
   exact k _ p (O2.same (same_new hp)) (K12.trans (Keep.of_same (same_new hp))) (f12 p hp) upd_same
  refine⟨_,rfl,_,_,rfl,rfl,_,rfl,?_⟩
  by_cases hk4:kk<4
  ·rw[decide_eq_false (by show ¬((kk:Int)≥4);omega)]
   refine iteF ?_
   obtain⟨as,b,m,q1,q2,q3,q4,q5,q6⟩:=O2.pl.at_ hk4
   have q5':=q5
   obtain⟨dx,l,b1,b2⟩:=q5'
   have hn8:=q6.good.n8
   refine⟨_,rfl,_,rfl,_,rfl,pl,_,_,_,rfl,rfl,SqL.of q1,q2,b,C,dx,_,_,rfl,b1,B.cl,B.nT,bf_things _ _,_,_,rfl,rfl,⟨by omega,by omega,by decide⟩,_,_,rfl,rfl,_,rfl,?_⟩
   have esh:((1:Int)*2^((m.n:Int)).toNat)=((2^m.n:Nat):Int):=by rw[Int.toNat_natCast,Int.one_mul];rfl
   rw[esh]
   by_cases ht:tt<2^m.n
   ·rw[decide_eq_false (by show ¬((tt:Int)≥((2^m.n:Nat):Int));omega)]
    refine iteF ?_
    have hst:BindNs.step st (.rank kk tt)=(st,BindNs.nats [m.rank tt,m.closure tt]):=by
     show BindNs.ofPlace st kk (if 2^(BindNs.at_ st kk).n≤tt then _ else (st,BindNs.nats [(BindNs.at_ st kk).rank tt,(BindNs.at_ st kk).closure tt]))=_
     rw[place_in hk4,q3,if_neg (Nat.not_le.mpr ht)]
    rw[hst] at k
    refine⟨_,rfl,_,rfl,pl,_,_,_,rfl,rfl,SqL.of q1,q2,_,rfl,b,m,tt,rfl,q5,q6.good,lt256 hn8 ht,fun H3 s3=>?_⟩
    refine⟨_,rfl,_,rfl,pl,_,_,_,rfl,rfl,SqL.of (s3 _ _ q1),q2,_,rfl,b,m,tt,rfl,q5.same s3,q6.good,ht,fun H4 s4=>?_⟩
    refine⟨by show 2≤sizeLine;decide,fun p hp=>?_⟩
    have s5:=(s3.trans s4).trans (same_new (o:=.lst [nV (m.rank tt),nV (m.closure tt)]) hp)
    exact k _ p (O2.same s5) (K12.trans (Keep.of_same s5)) (f12 p ((s3.trans s4).free hp)) upd_same
   ·rw[decide_eq_true (by show ((tt:Int)≥((2^m.n:Nat):Int));omega)]
    refine iteT ⟨by show 1≤sizeLine;decide,out ?_⟩
    show BindNs.ofPlace st kk (if 2^(BindNs.at_ st kk).n≤tt then (st,BindNs.says (-2)) else _)=_
    rw[place_in hk4,q3,if_pos (Nat.not_lt.mp ht)]
  ·rw[decide_eq_true (by show ((kk:Int)≥4);omega)]
   refine iteT (iteT ⟨by show 1≤sizeLine;decide,out (place_out hk4)⟩)
theorem scAny:FnScope ["places","feed","k","n","r"] ["places","feed"] (defScope sAny):=⟨rfl,rfl,rfl,by decide +kernel,rfl,by decide +kernel,by decide +kernel⟩
theorem ok_any {f fT fR:Addr} {fd fdT fdR:FuncData} (F:Fun K "call_any" "call_any" sAny f fd) (hC:C≠CF) (M:FMeth P w K mg base CF fT fR fdT fdR) (N:Consts mg) (C1:Callee P w K mg base 3 "bond_of_size" ["things","many"] (spOfSize C)) (C2:Callee P w K mg base 5 "put" ["places","k","bond"] (spPut C CF)) :
  FnOk P w K mg base CX0 6 f fd ["places","feed"] (spCall K C CF 0):=by
 obtain⟨tp,hP⟩:=N.places
 obtain⟨tw,hW⟩:=N.wrong
 obtain⟨tm,hM⟩:=N.most
 refine F.ok scAny (fun vs H Q E h=>?_) (fun cdv A outer s H vs Q E hr h=>?_)
 ·obtain⟨pl,f,a,st,ns,i,c,t,x,rfl,_⟩:=h
  rfl
 ·obtain⟨pl,ff,a,st,ns,i,c,t,x,rfl,O,hi,hfl,hco,hask,k⟩:=h
  have hr1:Room 1 _:=hr.mono (by decide)
  have hr3:Room 3 _:=hr.mono (by decide)
  refine⟨_,pss_cons (ps_set (i:=2) scAny.nd rfl (Or.inl rfl) (pe_meth0 (pv 1) M.cl.cl M.mT M.gT hr1 M.bT .nil pass0))
   (pss_cons (ps_set (i:=3) scAny.nd rfl (Or.inl rfl) (pe_meth0 (pv 1) M.cl.cl M.mT M.gT hr1 M.bT .nil pass0))
   (pss_cons (ps_set (i:=4) scAny.nd rfl (Or.inl rfl) (pe_meth0 (pv 1) M.cl.cl M.mT M.gT hr1 M.bT .nil pass0))
   (pss_cons (ps_if (PW.pt (pw_or (pt_cmpR op_ge (pv 2) (pe_glob (v:=.int 4) rfl hP ⟨tp,rfl⟩) (nomark _)) (pw_or (pt_cmpR op_gt (pv 3) (pe_glob (v:=.int 8) rfl hM ⟨tm,rfl⟩) (nomark _)) (pw_or1 (pt_cmpR op_gt (pv 4) (pv 3) (nomark _)))))) (pss_one (ps_ret (pe_lst (pa_cons (pe_glob (v:=.int (-2)) rfl hW ⟨tw,rfl⟩) pa_nil)))) pss_nil)
   (pss_one (ps_ret (pcall C2 hr rfl (pa_cons (pv 0) (pa_cons (pv 2) (pa_cons (pcall C1 hr3 rfl (pa_cons (pv 3) (pa_cons (pv 4) pa_nil))) pa_nil))))))))),?_⟩
  obtain⟨h1,rfl,rfl⟩:=flat_n (n:=3) rfl hfl
  obtain⟨z,y,v,hz,hzi,hyi,hvi⟩:=nums3 h1
  rw[hz] at hco hask
  have hx:x=.any z.toNat y.toNat v.toNat:=(Option.some.inj hco).symm
  have hask:(BiNeutral.natural z 32&&BiNeutral.natural y 32&&BiNeutral.natural v 32)=true:=hask
  rw[Bool.and_eq_true,Bool.and_eq_true] at hask
  obtain⟨kk,rfl,hkk⟩:=nat_of hask.1.1
  obtain⟨nn,rfl,hnn⟩:=nat_of hask.1.2
  obtain⟨rr,rfl,hrr⟩:=nat_of hask.2
  rw[hkk,hnn,hrr] at hx
  subst hx
  rw[end_n' hi h1] at k
  refine rd_take (pl:=pl) (a:=a) (st:=st) (ns:=ns) (i:=i) hC rfl O hzi fun H1 O1 K1 f1=>?_
  refine rd_take (pl:=pl) (a:=a) (st:=st) (ns:=ns) (i:=i+1) hC rfl O1 hyi fun H2 O2 K2 f2=>?_
  refine rd_take (pl:=pl) (a:=a) (st:=st) (ns:=ns) (i:=i+2) hC rfl O2 hvi fun H3 O3 K3 f3=>?_
  have K123:=(K1.trans K2).trans K3
  have f123:=(f1.trans f2).trans f3
  have out:BindNs.step st (.any kk nn rr)=(st,BindNs.says (-2))→∀p,H3 p=none→Q (.ref p) (upd H3 p (.lst [V.int (-2)])):=fun hst p hp=>by
   rw[hst] at k
   exact k _ p (O3.same (same_new hp)) (K123.trans (Keep.of_same (same_new hp))) (f123 p hp) upd_same
  have hstep:kk<4→BindNs.step st (.any kk nn rr)=if BindNs.THINGS<nn∨nn<rr then (st,BindNs.says (-2)) else BindNs.puts st kk (BindNs.byLoose nn fun t=>decide (size t≤rr)):=fun h=>place_in h
  refine⟨_,rfl,_,_,rfl,rfl,_,rfl,?_⟩
  by_cases hk4:kk<4
  ·rw[decide_eq_false (by show ¬((kk:Int)≥4);omega)]
   refine iteF ?_
   refine⟨_,rfl,_,_,rfl,rfl,_,rfl,?_⟩
   by_cases hn8:nn≤8
   ·rw[decide_eq_false (by show ¬((nn:Int)>8);omega)]
    refine iteF ?_
    refine⟨_,rfl,_,rfl,_,_,rfl,rfl,_,rfl,?_⟩
    by_cases hrn:rr≤nn
    ·rw[decide_eq_false (by show ¬((rr:Int)>(nn:Int));omega)]
     refine iteF ?_
     have hst:BindNs.step st (.any kk nn rr)=(st.set kk (BindNs.byLoose nn fun t=>decide (size t≤rr)),BindNs.told (BindNs.byLoose nn fun t=>decide (size t≤rr))):=by
      rw[hstep hk4,if_neg (by show ¬(8<nn∨nn<rr);omega)];rfl
     rw[hst] at k
     have eB:(⟨nn,(sets nn).filter fun s=>size s==rr⟩:Bond)=BindNs.byLoose nn fun t=>decide (size t≤rr):=by
      have:=any_eq nn hn8 rr hrn
      show (⟨nn,_⟩:Bond)=⟨nn,(BindNs.byLoose nn fun t=>decide (size t≤rr)).bases⟩
      rw[this]
     refine⟨_,rfl,_,rfl,_,rfl,_,rfl,nn,rr,rfl,hn8,fun H4 b s4 hb hB=>?_⟩
     rw[eB] at hB
     obtain⟨dxf,hff⟩:=(O3.same s4).fd
     refine⟨pl,b,ff,dxf,_,kk,st,_,rfl,(O3.same s4).pl,hff,hk4,hB,mat_any hn8,fun H5 p hp5 kp5 hp e5=>?_⟩
     obtain⟨O5,K5⟩:=(O3.same s4).put hp5 kp5
     exact k H5 p O5 ((K123.trans (Keep.of_same s4)).trans K5) (f123 p (s4.free hp)) e5
    ·rw[decide_eq_true (by show ((rr:Int)>(nn:Int));omega)]
     refine iteT ⟨by show 1≤sizeLine;decide,out ?_⟩
     rw[hstep hk4,if_pos (by show 8<nn∨nn<rr;omega)]
   ·rw[decide_eq_true (by show ((nn:Int)>8);omega)]
    refine iteT (iteT ⟨by show 1≤sizeLine;decide,out ?_⟩)
    rw[hstep hk4,if_pos (by show 8<nn∨nn<rr;omega)]
  ·rw[decide_eq_true (by show ((kk:Int)≥4);omega)]
   refine iteT (iteT ⟨by show 1≤sizeLine;decide,out (place_out hk4)⟩)
theorem long_nats {l:List Int} {n:Nat} {hi:Int} (h:BiNeutral.long l n 0 hi=true):l.length≤n∧intsV l=natsV (l.map Int.toNat):=by
 unfold BiNeutral.long at h
 rw[Bool.and_eq_true,decide_eq_true_eq,List.all_eq_true] at h
 refine⟨h.1,?_⟩
 unfold intsV natsV
 rw[List.map_map]
 refine List.map_congr_left fun z hz=>?_
 have:=h.2 z hz
 rw[Bool.and_eq_true,decide_eq_true_eq] at this
 show V.int z=V.int ((z.toNat:Nat):Int)
 rw[Int.toNat_of_nonneg this.1]
theorem row_at {ns s:List Int} {i n m:Nat} (h:(ns.drop i).drop n=(m:Int)::s) (hm:m≤s.length):ns[i+n]?=some (m:Int)∧i+n+1+m≤ns.length∧s=ns.drop (i+n+1)∧ns.length-(s.drop m).length=i+n+1+m:=by
 rw[List.drop_drop] at h
 have h0:ns[i+n]?=some (m:Int):=by
  have:=congrArg (fun l=>l[0]?) h
  simpa [List.getElem?_drop] using this
 have hs:s=ns.drop (i+n+1):=by
  have:=congrArg (fun l=>l.drop 1) h
  simp only [List.drop_drop,List.drop_succ_cons,List.drop_zero] at this
  exact this.symm
 have hl:=congrArg List.length h
 rw[List.length_drop,List.length_cons] at hl
 refine⟨h0,by omega,hs,?_⟩
 rw[List.length_drop]
 omega
theorem scEdges:FnScope ["places","feed","k","ends"] ["places","feed"] (defScope sEdges):=⟨rfl,rfl,rfl,by decide +kernel,rfl,by decide +kernel,by decide +kernel⟩
theorem ok_edges {f fT fR:Addr} {fd fdT fdR:FuncData} (F:Fun K "call_edges" "call_edges" sEdges f fd) (hC:C≠CF) (M:FMeth P w K mg base CF fT fR fdT fdR) (N:Consts mg) (C0:Callee P w K mg base 1 "are_ends" ["ends"] (spAreEnds K)) (C1:Callee P w K mg base 4 "bond_of_edges" ["ends"] (spOfEdges K C)) (C2:Callee P w K mg base 5 "put" ["places","k","bond"] (spPut C CF)) :
  FnOk P w K mg base CX0 6 f fd ["places","feed"] (spCall K C CF 1):=by
 obtain⟨tp,hP⟩:=N.places
 obtain⟨tw,hW⟩:=N.wrong
 refine F.ok scEdges (fun vs H Q E h=>?_) (fun cdv A outer s H vs Q E hr h=>?_)
 ·obtain⟨pl,f,a,st,ns,i,c,t,x,rfl,_⟩:=h
  rfl
 ·obtain⟨pl,ff,a,st,ns,i,c,t,x,rfl,O,hi,hfl,hco,hask,k⟩:=h
  have hr1:Room 1 _:=hr.mono (by decide)
  have hr2:Room 2 _:=hr.mono (by decide)
  have hr4:Room 4 _:=hr.mono (by decide)
  refine⟨_,pss_cons (ps_set (i:=2) scEdges.nd rfl (Or.inl rfl) (pe_meth0 (pv 1) M.cl.cl M.mT M.gT hr1 M.bT .nil pass0))
   (pss_cons (ps_set (i:=3) scEdges.nd rfl (Or.inl rfl) (pe_meth0 (pv 1) M.cl.cl M.mR M.gR hr2 M.bR .nil pass0))
   (pss_cons (ps_if (PW.pt (pw_or (pt_cmpR op_ge (pv 2) (pe_glob (v:=.int 4) rfl hP ⟨tp,rfl⟩) (nomark _)) (pw_or1 (pt_not (pt_val (pcall C0 hr1 rfl (pa_cons (pv 3) pa_nil))))))) (pss_one (ps_ret (pe_lst (pa_cons (pe_glob (v:=.int (-2)) rfl hW ⟨tw,rfl⟩) pa_nil)))) pss_nil)
   (pss_one (ps_ret (pcall C2 hr rfl (pa_cons (pv 0) (pa_cons (pv 2) (pa_cons (pcall C1 hr4 rfl (pa_cons (pv 3) pa_nil)) pa_nil)))))))),?_⟩
  obtain⟨m,s0,hd,hm,rfl,rfl,h1⟩:=flat_nr (n:=1) rfl hfl
  obtain⟨z,hz,hzi⟩:=nums1 h1
  rw[hz] at hco hask
  obtain⟨r1,r2,r3,r4⟩:=row_at hd hm
  have hx:x=.edges z.toNat ((s0.take m).map Int.toNat):=(Option.some.inj hco).symm
  have hask:(BiNeutral.natural z 32&&BiNeutral.long (s0.take m) 32 0 4294967295)=true:=hask
  rw[Bool.and_eq_true] at hask
  obtain⟨kk,rfl,hkk⟩:=nat_of hask.1
  obtain⟨l1,l2⟩:=long_nats hask.2
  rw[hkk] at hx
  subst hx
  rw[r4] at k
  generalize hes:(s0.take m).map Int.toNat=es at *
  have hesl:es.length≤32:=by rw[←hes,List.length_map];exact l1
  refine rd_take (pl:=pl) (a:=a) (st:=st) (ns:=ns) (i:=i) hC rfl O hzi fun H1 O1 K1 f1=>?_
  refine rd_row (pl:=pl) (a:=a) (st:=st) (ns:=ns) (i:=i+1) (m:=m) hC rfl O1 r1 r2 fun H2 q O2 K2 f2 hq e2=>?_
  rw[←r3,l2] at e2
  have K12:=K1.trans K2
  have f12:=f1.trans f2
  have out:∀H3,Same H2 H3→BindNs.step st (.edges kk es)=(st,BindNs.says (-2))→∀p,H3 p=none→Q (.ref p) (upd H3 p (.lst [V.int (-2)])):=fun H3 s3 hst p hp=>by
   rw[hst] at k
   have s4:=s3.trans (same_new (o:=.lst [V.int (-2)]) hp)
   exact k _ p (O2.same s4) (K12.trans (Keep.of_same s4)) (f12 p (s3.free hp)) upd_same
  have hstep:kk<4→BindNs.step st (.edges kk es)=if edgesOk es=false then (st,BindNs.says (-2)) else BindNs.puts st kk (BindNs.ofEdges (pairsOf es)):=fun h=>place_in h
  refine⟨_,rfl,_,_,rfl,rfl,_,rfl,?_⟩
  by_cases hk4:kk<4
  ·rw[decide_eq_false (by show ¬((kk:Int)≥4);omega)]
   refine iteF ?_
   refine⟨_,rfl,q,es,rfl,SqL.of e2,by omega,fun H3 s3=>⟨_,rfl,?_⟩⟩
   cases hok:edgesOk es with
   |false =>
    refine iteT ⟨by show 1≤sizeLine;decide,out H3 s3 ?_⟩
    rw[hstep hk4,if_pos hok]
   |true =>
    refine iteF ?_
    have hst:BindNs.step st (.edges kk es)=(st.set kk (BindNs.ofEdges (pairsOf es)),BindNs.told (BindNs.ofEdges (pairsOf es))):=by
     rw[hstep hk4,if_neg (by rw[hok];exact Bool.noConfusion)];rfl
    rw[hst] at k
    have hmat:Mat (BindNs.ofEdges (pairsOf es)):=by
     unfold edgesOk at hok
     rw[Bool.and_eq_true,Bool.and_eq_true,decide_eq_true_eq,decide_eq_true_eq,List.all_eq_true] at hok
     have h16:es.length≤16:=hok.2.1
     have hpl:=pairs_len es (es.length / 2) (by omega)
     refine mat_edges (by rw[hpl];omega) fun e he=>?_
     obtain⟨j,hj⟩:=List.mem_iff_getElem?.mp he
     have hjn:=(List.getElem?_eq_some_iff.mp hj).1
     rw[pairs_get es j (by omega)] at hj
     cases hj
     have mm:∀j,j<es.length→es.getD j 0<12:=fun j hj=>by
      rw[List.getD_eq_getElem?_getD,List.getElem?_eq_getElem hj]
      exact of_decide_eq_true (hok.2.2 _ (List.getElem_mem hj))
     exact⟨mm _ (by omega),mm _ (by omega)⟩
    refine⟨_,rfl,_,rfl,_,rfl,q,es,rfl,SqL.of (s3 _ _ e2),hok,fun H4 b s4 hb hB=>?_⟩
    have s34:=s3.trans s4
    obtain⟨dxf,hff⟩:=(O2.same s34).fd
    refine⟨pl,b,ff,dxf,_,kk,st,_,rfl,(O2.same s34).pl,hff,hk4,hB,hmat,fun H5 p hp5 kp5 hp e5=>?_⟩
    obtain⟨O5,K5⟩:=(O2.same s34).put hp5 kp5
    exact k H5 p O5 ((K12.trans (Keep.of_same s34)).trans K5) (f12 p (s34.free hp)) e5
  ·rw[decide_eq_true (by show ((kk:Int)≥4);omega)]
   refine iteT (iteT ⟨by show 1≤sizeLine;decide,out H2 (Same.refl _) (place_out hk4)⟩)
open BindNs (things size Bond sets edgesOk pairsOf rowsOk rowsIn tidy right)
theorem rowsIn_mem {k f:Nat} {l r:List Int} (hl:l.length=f*k) (h:r∈rowsIn k f l):r.length=k:=by
 obtain⟨i,hi⟩:=List.mem_iff_getElem?.mp h
 have hif:i<f:=by have:=(List.getElem?_eq_some_iff.mp hi).1;rw[rowsIn_len] at this;exact this
 rw[rowsIn_get k f l i hif] at hi
 cases hi
 rw[List.length_take,List.length_drop,hl]
 have:(i+1)*k≤f*k:=Nat.mul_le_mul_right k hif
 rw[Nat.succ_mul] at this
 omega
theorem scRowsC:FnScope ["places","feed","k","p","n","numbers"] ["places","feed"] (defScope sRowsC):=⟨rfl,rfl,rfl,by decide +kernel,rfl,by decide +kernel,by decide +kernel⟩
theorem ok_rowsC {f fT fR:Addr} {fd fdT fdR:FuncData} (F:Fun K "call_rows" "call_rows" sRowsC f fd) (hC:C≠CF) (M:FMeth P w K mg base CF fT fR fdT fdR) (N:Consts mg) (C0:Callee P w K mg base 1 "are_rows" ["modulus","length","numbers"] (spAreRows K)) (C1:Callee P w K mg base 4 "bond_of_rows" ["modulus","length","numbers"] (spOfRows K C)) (C2:Callee P w K mg base 5 "put" ["places","k","bond"] (spPut C CF)) :
  FnOk P w K mg base CX0 6 f fd ["places","feed"] (spCall K C CF 2):=by
 obtain⟨tp,hP⟩:=N.places
 obtain⟨tw,hW⟩:=N.wrong
 refine F.ok scRowsC (fun vs H Q E h=>?_) (fun cdv A outer s H vs Q E hr h=>?_)
 ·obtain⟨pl,f,a,st,ns,i,c,t,x,rfl,_⟩:=h
  rfl
 ·obtain⟨pl,ff,a,st,ns,i,c,t,x,rfl,O,hi,hfl,hco,hask,k⟩:=h
  have hr1:Room 1 _:=hr.mono (by decide)
  have hr2:Room 2 _:=hr.mono (by decide)
  have hr4:Room 4 _:=hr.mono (by decide)
  refine⟨_,pss_cons (ps_set (i:=2) scRowsC.nd rfl (Or.inl rfl) (pe_meth0 (pv 1) M.cl.cl M.mT M.gT hr1 M.bT .nil pass0))
   (pss_cons (ps_set (i:=3) scRowsC.nd rfl (Or.inl rfl) (pe_meth0 (pv 1) M.cl.cl M.mT M.gT hr1 M.bT .nil pass0))
   (pss_cons (ps_set (i:=4) scRowsC.nd rfl (Or.inl rfl) (pe_meth0 (pv 1) M.cl.cl M.mT M.gT hr1 M.bT .nil pass0))
   (pss_cons (ps_set (i:=5) scRowsC.nd rfl (Or.inl rfl) (pe_meth0 (pv 1) M.cl.cl M.mR M.gR hr2 M.bR .nil pass0))
   (pss_cons (ps_if (PW.pt (pw_or (pt_cmpR op_ge (pv 2) (pe_glob (v:=.int 4) rfl hP ⟨tp,rfl⟩) (nomark _)) (pw_or1 (pt_not (pt_val (pcall C0 hr1 rfl (pa_cons (pv 3) (pa_cons (pv 4) (pa_cons (pv 5) pa_nil))))))))) (pss_one (ps_ret (pe_lst (pa_cons (pe_glob (v:=.int (-2)) rfl hW ⟨tw,rfl⟩) pa_nil)))) pss_nil)
   (pss_one (ps_ret (pcall C2 hr rfl (pa_cons (pv 0) (pa_cons (pv 2) (pa_cons (pcall C1 hr4 rfl (pa_cons (pv 3) (pa_cons (pv 4) (pa_cons (pv 5) pa_nil)))) pa_nil)))))))))),?_⟩
  obtain⟨m,s0,hd,hm,rfl,rfl,h1⟩:=flat_nr (n:=3) rfl hfl
  obtain⟨z,y,v,hz,hzi,hyi,hvi⟩:=nums3 h1
  rw[hz] at hco hask
  obtain⟨r1,r2,r3,r4⟩:=row_at hd hm
  have hx:x=.rows z.toNat y.toNat v.toNat (s0.take m):=(Option.some.inj hco).symm
  have hask:(BiNeutral.natural z 32&&BiNeutral.natural y 32&&BiNeutral.natural v 32&&BiNeutral.long (s0.take m) 96 (-4294967295) 4294967295)=true:=hask
  rw[Bool.and_eq_true,Bool.and_eq_true,Bool.and_eq_true] at hask
  obtain⟨kk,rfl,hkk⟩:=nat_of hask.1.1.1
  obtain⟨pp,rfl,hpp⟩:=nat_of hask.1.1.2
  obtain⟨nn,rfl,hnn⟩:=nat_of hask.1.2
  have l1:(s0.take m).length≤96:=by
   have:=hask.2
   unfold BiNeutral.long at this
   rw[Bool.and_eq_true,decide_eq_true_eq] at this
   exact this.1
  rw[hkk,hpp,hnn] at hx
  subst hx
  rw[r4] at k
  refine rd_take (pl:=pl) (a:=a) (st:=st) (ns:=ns) (i:=i) hC rfl O hzi fun H1 O1 K1 f1=>?_
  refine rd_take (pl:=pl) (a:=a) (st:=st) (ns:=ns) (i:=i+1) hC rfl O1 hyi fun H2 O2 K2 f2=>?_
  refine rd_take (pl:=pl) (a:=a) (st:=st) (ns:=ns) (i:=i+2) hC rfl O2 hvi fun H3 O3 K3 f3=>?_
  refine rd_row (pl:=pl) (a:=a) (st:=st) (ns:=ns) (i:=i+3) (m:=m) hC rfl O3 r1 r2 fun H4 q O4 K4 f4 hq e4=>?_
  rw[←r3] at e4
  generalize s0.take m=l at *
  have Kx:=((K1.trans K2).trans K3).trans K4
  have fx:=((f1.trans f2).trans f3).trans f4
  have out:∀H5,Same H4 H5→BindNs.step st (.rows kk pp nn l)=(st,BindNs.says (-2))→∀p,H5 p=none→Q (.ref p) (upd H5 p (.lst [V.int (-2)])):=fun H5 s5 hst p hp=>by
   rw[hst] at k
   have s6:=s5.trans (same_new (o:=.lst [V.int (-2)]) hp)
   exact k _ p (O4.same s6) (Kx.trans (Keep.of_same s6)) (fx p (s5.free hp)) upd_same
  have hstep:kk<4→BindNs.step st (.rows kk pp nn l)=if rowsOk pp nn l=false then (st,BindNs.says (-2)) else BindNs.puts st kk (BindNs.ofRows pp nn (rowsIn nn (l.length / nn) l)):=fun h=>place_in h
  refine⟨_,rfl,_,_,rfl,rfl,_,rfl,?_⟩
  by_cases hk4:kk<4
  ·rw[decide_eq_false (by show ¬((kk:Int)≥4);omega)]
   refine iteF ?_
   refine⟨_,rfl,_,rfl,_,rfl,pp,nn,q,l,rfl,SqL.of e4,by omega,fun H5 s5=>⟨_,rfl,?_⟩⟩
   cases hok:rowsOk pp nn l with
   |false =>
    refine iteT ⟨by show 1≤sizeLine;decide,out H5 s5 ?_⟩
    rw[hstep hk4,if_pos hok]
   |true =>
    refine iteF ?_
    have hst:BindNs.step st (.rows kk pp nn l)=(st.set kk (BindNs.ofRows pp nn (rowsIn nn (l.length / nn) l)),BindNs.told (BindNs.ofRows pp nn (rowsIn nn (l.length / nn) l))):=by
     rw[hstep hk4,if_neg (by rw[hok];exact Bool.noConfusion)];rfl
    rw[hst] at k
    have hmat:Mat (BindNs.ofRows pp nn (rowsIn nn (l.length / nn) l)):=by
     have hok':=hok
     unfold rowsOk at hok'
     rw[Bool.and_eq_true,Bool.and_eq_true,Bool.and_eq_true,Bool.and_eq_true,Bool.and_eq_true,decide_eq_true_eq,decide_eq_true_eq,decide_eq_true_eq,decide_eq_true_eq,List.contains_iff_mem] at hok'
     obtain⟨g1,g2,g3,g4,g5,g6⟩:=hok'
     have hdm:l.length=l.length / nn*nn:=by
      have:=Nat.div_add_mod l.length nn
      rw[g4,Nat.add_zero,Nat.mul_comm] at this
      exact this.symm
     have g5:l.length≤nn*8:=g5
     simp only [List.mem_cons,List.not_mem_nil,or_false] at g1
     exact mat_rows g1 (fun r hr'=>rowsIn_mem hdm hr') (by rw[rowsIn_len];exact Nat.div_le_of_le_mul g5)
    refine⟨_,rfl,_,rfl,_,rfl,_,rfl,_,rfl,pp,nn,q,l,rfl,SqL.of (s5 _ _ e4),hok,fun H6 b s6 hb hB=>?_⟩
    have s56:=s5.trans s6
    obtain⟨dxf,hff⟩:=(O4.same s56).fd
    refine⟨pl,b,ff,dxf,_,kk,st,_,rfl,(O4.same s56).pl,hff,hk4,hB,hmat,fun H7 p hp7 kp7 hp e7=>?_⟩
    obtain⟨O7,K7⟩:=(O4.same s56).put hp7 kp7
    exact k H7 p O7 ((Kx.trans (Keep.of_same s56)).trans K7) (fx p (s56.free hp)) e7
  ·rw[decide_eq_true (by show ((kk:Int)≥4);omega)]
   refine iteT (iteT ⟨by show 1≤sizeLine;decide,out H4 (Same.refl _) (place_out hk4)⟩)
theorem scBasesC:FnScope ["places","feed","k","n","sets","bases","s"] ["places","feed"] (defScope sBasesC):=⟨rfl,rfl,rfl,by decide +kernel,rfl,by decide +kernel,by decide +kernel⟩
theorem ok_basesC {f fT fR fI:Addr} {fd fdT fdR fdI:FuncData} (F:Fun K "call_bases" "call_bases" sBasesC f fd) (T:Names mg) (B:BCls K mg C) (hC:C≠CF) (M:FMeth P w K mg base CF fT fR fdT fdR) (N:Consts mg) (Mk0:Mk K C fI) (GI:FnOk P w K mg base CX0 1 fI fdI ["self","things","bases"] (spBInit K C)) (bI:Binds K fdI ["self","things","bases"] [])
  (C1:Callee P w K mg base 3 "are_bases" ["sets"] (spAreBases K)) (C2:Callee P w K mg base 5 "put" ["places","k","bond"] (spPut C CF)):FnOk P w K mg base CX0 6 f fd ["places","feed"] (spCall K C CF 3):=by
 obtain⟨tp,hP⟩:=N.places
 obtain⟨tw,hW⟩:=N.wrong
 obtain⟨tm,hM⟩:=N.most
 obtain⟨tb,hNB⟩:=N.noBond
 refine F.ok scBasesC (fun vs H Q E h=>?_) (fun cdv A outer s H vs Q E hr h=>?_)
 ·obtain⟨pl,f,a,st,ns,i,c,t,x,rfl,_⟩:=h
  rfl
 ·obtain⟨pl,ff,a,st,ns,i,c,t,x,rfl,O,hi,hfl,hco,hask,k⟩:=h
  have hr1:Room 1 _:=hr.mono (by decide)
  have hr2:Room 2 _:=hr.mono (by decide)
  have hr3:Room 3 _:=hr.mono (by decide)
  refine⟨_,pss_cons (ps_set (i:=2) scBasesC.nd rfl (Or.inl rfl) (pe_meth0 (pv 1) M.cl.cl M.mT M.gT hr1 M.bT .nil pass0))
   (pss_cons (ps_set (i:=3) scBasesC.nd rfl (Or.inr rfl) (pe_meth0 (pv 1) M.cl.cl M.mT M.gT hr1 M.bT .nil pass0))
   (pss_cons (ps_set (i:=4) scBasesC.nd rfl (Or.inl rfl) (pe_meth0 (pv 1) M.cl.cl M.mR M.gR hr2 M.bR .nil pass0))
   (pss_cons (ps_if (PW.pt (pw_or (pt_cmpR op_ge (pv 2) (pe_glob (v:=.int 4) rfl hP ⟨tp,rfl⟩) (nomark _)) (pw_or (pt_cmpR op_gt (pv 3) (pe_glob (v:=.int 8) rfl hM ⟨tm,rfl⟩) (nomark _)) (pw_or1 (pt_val (pe_callB (cr_any rfl) rfl T.any bo_any (pa_cons
      (pe_lc (own:=[("s",6)]) rfl scBasesC.nd (pi_list (pv 4)) (blkOk_by (N:=["places","feed","k","n","sets","bases","s"]) (sc:=defScope sBasesC) (by decide +kernel)) (fun s H C cl fp=>pg_name (i:=6) scBasesC.nd rfl (Or.inl rfl)) (fun s H C cl fp=>pts_nil)
       (fun s H C cl fp=>pe_cmpR op_ge (pv 6) (pe_op op_shl pe_int (pv 3)) (nomark _))) pa_nil))))))) (pss_one (ps_ret (pe_lst (pa_cons (pe_glob (v:=.int (-2)) rfl hW ⟨tw,rfl⟩) pa_nil)))) pss_nil)
   (pss_cons (ps_set (i:=5) scBasesC.nd rfl (Or.inl rfl) (pe_callB (cr_sortedSet rfl) rfl T.sorted bo_sorted (pa_cons (pe_callTy (call_set rfl) rfl T.set bo_set (pa_cons (pv 4) pa_nil)) pa_nil)))
   (pss_cons (ps_if (pt_not (pt_val (pcall C1 hr3 rfl (pa_cons (pv 5) pa_nil)))) (pss_one (ps_ret (pe_lst (pa_cons (pe_glob (v:=.int (-5)) rfl hNB ⟨tb,rfl⟩) pa_nil)))) pss_nil)
   (pss_one (ps_ret (pcall C2 hr rfl (pa_cons (pv 0) (pa_cons (pv 2) (pa_cons (pe_make Mk0 GI hr2 rfl B.mgC bI .nil pass0 (pa_cons (pv 3) (pa_cons (pv 5) pa_nil))) pa_nil))))))))))),?_⟩
  obtain⟨m,s0,hd,hm,rfl,rfl,h1⟩:=flat_nr (n:=2) rfl hfl
  obtain⟨z,y,hz,hzi,hyi⟩:=nums2 h1
  rw[hz] at hco hask
  obtain⟨r1,r2,r3,r4⟩:=row_at hd hm
  have hx:x=.bases z.toNat y.toNat ((s0.take m).map Int.toNat):=(Option.some.inj hco).symm
  have hask:(BiNeutral.natural z 32&&BiNeutral.natural y 32&&BiNeutral.long (s0.take m) 300 0 4294967295)=true:=hask
  rw[Bool.and_eq_true,Bool.and_eq_true] at hask
  obtain⟨kk,rfl,hkk⟩:=nat_of hask.1.1
  obtain⟨nn,rfl,hnn⟩:=nat_of hask.1.2
  obtain⟨l1,l2⟩:=long_nats hask.2
  rw[hkk,hnn] at hx
  subst hx
  rw[r4] at k
  generalize hes:(s0.take m).map Int.toNat=es at *
  have hesl:es.length≤300:=by rw[←hes,List.length_map];exact l1
  refine rd_take (pl:=pl) (a:=a) (st:=st) (ns:=ns) (i:=i) hC rfl O hzi fun H1 O1 K1 f1=>?_
  refine rd_take (pl:=pl) (a:=a) (st:=st) (ns:=ns) (i:=i+1) hC rfl O1 hyi fun H2 O2 K2 f2=>?_
  refine rd_row (pl:=pl) (a:=a) (st:=st) (ns:=ns) (i:=i+2) (m:=m) hC rfl O2 r1 r2 fun H3 q O3 K3 f3 hq e3=>?_
  rw[←r3,l2] at e3
  have Kx:=(K1.trans K2).trans K3
  have fx:=(f1.trans f2).trans f3
  have out:∀H5 v,Same H3 H5→BindNs.step st (.bases kk nn es)=(st,BindNs.says v)→∀p,H5 p=none→Q (.ref p) (upd H5 p (.lst [V.int v])):=fun H5 v s5 hst p hp=>by
   rw[hst] at k
   have s6:=s5.trans (same_new (o:=.lst [V.int v]) hp)
   exact k _ p (O3.same s6) (Kx.trans (Keep.of_same s6)) (fx p (s5.free hp)) upd_same
  have hstep:kk<4→BindNs.step st (.bases kk nn es)=if BindNs.THINGS<nn∨(es.any fun t=>decide (2^nn≤t))=true then (st,BindNs.says (-2)) else if right (tidy nn es)=false then (st,BindNs.says (-5)) else BindNs.puts st kk ⟨nn,tidy nn es⟩:=fun h=>place_in h
  refine⟨_,rfl,_,_,rfl,rfl,_,rfl,?_⟩
  by_cases hk4:kk<4
  ·rw[decide_eq_false (by show ¬((kk:Int)≥4);omega)]
   refine iteF ?_
   refine⟨_,rfl,_,_,rfl,rfl,_,rfl,?_⟩
   by_cases hn8:nn≤8
   ·rw[decide_eq_false (by show ¬((nn:Int)>8);omega)]
    refine iteF ?_
    dsimp only [tB,tCB,tCons,tNil]
    refine lcNg (L:=es) (fun _=>true) (fun t=>V.bl (decide (2^nn≤t))) (by omega) (by exact tl_var rfl (SqL.of e3)) (fun x H4 R S hx s4 a1 a2=>?_) (fun D H4 s4 hD e4=>?_)
    ·refine⟨rfl,iteT (B:=S H4) ⟨_,rfl,_,rfl,_,_,rfl,rfl,⟨by omega,by omega,by decide⟩,_,_,rfl,rfl,?_⟩⟩
     have:=a1 rfl H4 (Same.refl _)
     show R (V.bl (decide ((x:Int)≥(1:Int)*2^((nn:Int)).toNat))) H4
     have esh:((1:Int)*2^((nn:Int)).toNat)=((2^nn:Nat):Int):=by rw[Int.toNat_natCast,Int.one_mul];rfl
     rw[esh,show decide ((x:Int)≥((2^nn:Nat):Int))=decide (2^nn≤x) from decide_eq_decide.mpr (by omega)]
     exact this
    ·rw[filter_true] at e4
     refine⟨D,es.map fun t=>decide (2^nn≤t),rfl,SqL.of (by rw[e4,List.map_map];rfl),_,rfl,?_⟩
     rw[List.any_map]
     cases hany:es.any (id∘fun t=>decide (2^nn≤t)) with
     |true =>
      refine iteT ⟨by show 1≤sizeLine;decide,out H4 (-2) s4 ?_⟩
      rw[hstep hk4,if_pos (.inr hany)]
     |false =>
      refine iteF ?_
      have hlt:∀s,s∈es→s<2^nn:=fun s hs=>Nat.lt_of_not_le fun q=>by
       have:es.any (id∘fun t=>decide (2^nn≤t))=true:=List.any_eq_true.mpr ⟨s,hs,decide_eq_true q⟩
       rw[hany] at this;cases this
      have h256:=pow_le_256 hn8
      refine⟨_,rfl,q,es.map (fun (n:Nat)=>(n:Int)),rfl,by rw[←natsV_ints];exact SqL.of (s4 _ _ e3),fun i=>Nat.le_trans (StW.once_few _) (by rw[List.length_take,List.length_map];omega),fun p5 hp5=>?_⟩
      refine⟨p5,_,rfl,upd_same,Nat.le_trans (Nat.le_trans (StW.once_few _) (by rw[List.length_map];exact hesl)) (by decide),fun bs' p6 pm pw hp6=>?_⟩
      obtain⟨bs,hbs,pws,hmem⟩:=sorted_nats pm pw
      have et:bs=tidy nn es:=rise_ext pws (tidy_rise nn es) fun x=>by
       rw[mem_tidy,hmem x]
       exact⟨fun q=>⟨hlt x q,q⟩,fun q=>q.2⟩
      have s46:Same H4 (upd (upd H4 p5 (setHO (!StW.byT w) p5 (StW.once (es.map fun (n:Nat)=>(n:Int))))) p6 (.lst (bs'.map V.int))):=(same_new hp5).trans (same_new hp6)
      generalize hH6:upd (upd H4 p5 (setHO (!StW.byT w) p5 (StW.once (es.map fun (n:Nat)=>(n:Int))))) p6 (.lst (bs'.map V.int))=H6 at s46
      have e6:H6 p6=some (.lst (natsV (tidy nn es))):=by rw[←hH6,upd_same,hbs,et,←natsV_ints]
      have s36:=s4.trans s46
      have ht8:∀s,s∈tidy nn es→s<256:=fun s hs=>lt256 hn8 (mem_tidy.mp hs).1
      have htl:(tidy nn es).length≤256:=by
       refine Nat.le_trans (List.length_filter_le _ _) ?_
       rw[show (sets nn).length=2^nn from List.length_range];exact h256
      show tSeq _ _ _ _ (upd (upd H4 p5 (setHO (!StW.byT w) p5 (StW.once (es.map fun (n:Nat)=>(n:Int))))) p6 (.lst (bs'.map V.int)))
      rw[hH6]
      refine⟨_,rfl,p6,tidy nn es,rfl,SqL.of e6,ht8,by omega,fun H7 s7=>⟨_,rfl,?_⟩⟩
      have s37:=s36.trans s7
      have hno:¬(BindNs.THINGS<nn∨(es.any fun t=>decide (2^nn≤t))=true):=by
       rintro (q|q)
       ·have:8<nn:=q
        omega
       ·have q':es.any (id∘fun t=>decide (2^nn≤t))=true:=q
        rw[hany] at q';cases q'
      cases hok:right (tidy nn es) with
      |false =>
       refine iteT ⟨by show 1≤sizeLine;decide,out H7 (-5) s37 ?_⟩
       rw[hstep hk4,if_neg hno,if_pos hok]
      |true =>
       refine iteF ?_
       have hst:BindNs.step st (.bases kk nn es)=(st.set kk ⟨nn,tidy nn es⟩,BindNs.told ⟨nn,tidy nn es⟩):=by
        rw[hstep hk4,if_neg hno,if_neg (by rw[hok];exact Bool.noConfusion)];rfl
       rw[hst] at k
       refine⟨_,rfl,_,rfl,_,rfl,_,rfl,?_⟩
       dsimp only [tNil]
       refine made_bond (Q:=fun v H2=>spPut C CF ([V.ref pl,V.int kk,v]++[]) H2 Q E0) (n:=nn) (bs:=tidy nn es) (SqL.of (s7 _ _ e6)) ht8 fun H8 b bs8 pm8 pw8 s8 hb hB=>?_
       have e8:bs8=tidy nn es:=rise_perm (tidy_rise nn es) pm8 pw8
       rw[e8] at hB
       have s38:=s37.trans s8
       obtain⟨dxf,hff⟩:=(O3.same s38).fd
       refine⟨pl,b,ff,dxf,_,kk,st,_,rfl,(O3.same s38).pl,hff,hk4,hB,mat_bases hn8 hok,fun H9 p hp9 kp9 hp e9=>?_⟩
       obtain⟨O9,K9⟩:=(O3.same s38).put hp9 kp9
       exact k H9 p O9 ((Kx.trans (Keep.of_same s38)).trans K9) (fx p (s38.free hp)) e9
   ·rw[decide_eq_true (by show ((nn:Int)>8);omega)]
    refine iteT (iteT ⟨by show 1≤sizeLine;decide,out H3 (-2) (Same.refl _) ?_⟩)
    rw[hstep hk4,if_pos (.inl (by show 8<nn;omega))]
  ·rw[decide_eq_true (by show ((kk:Int)≥4);omega)]
   refine iteT (iteT ⟨by show 1≤sizeLine;decide,out H3 (-2) (Same.refl _) (place_out hk4)⟩)
theorem shape_ops {op:Int} {q:Nat×Nat} (h:PyWrbind.shape op=some q):op=0∨op=1∨op=2∨op=3∨op=4∨op=5∨op=6∨op=7∨op=8∨op=9∨op=10∨op=11∨op=12∨op=13∨op=14∨op=15∨op=16∨op=17:=by
 unfold PyWrbind.shape at h
 by_cases h0:op=0
 ·exact .inl h0
 rw[if_neg h0] at h
 by_cases h1:op=1
 ·exact .inr (.inl h1)
 rw[if_neg h1] at h
 by_cases h2:op=2
 ·exact .inr (.inr (.inl h2))
 rw[if_neg h2] at h
 by_cases h3:op=3
 ·exact .inr (.inr (.inr (.inl h3)))
 rw[if_neg h3] at h
 by_cases h4:op=4
 ·exact .inr (.inr (.inr (.inr (.inl h4))))
 rw[if_neg h4] at h
 by_cases h5:op=5
 ·exact .inr (.inr (.inr (.inr (.inr (.inl h5)))))
 rw[if_neg h5] at h
 by_cases h6:op=6
 ·exact .inr (.inr (.inr (.inr (.inr (.inr (.inl h6))))))
 rw[if_neg h6] at h
 by_cases h7:op=7
 ·exact .inr (.inr (.inr (.inr (.inr (.inr (.inr (.inl h7)))))))
 rw[if_neg h7] at h
 by_cases h8:op=8
 ·exact .inr (.inr (.inr (.inr (.inr (.inr (.inr (.inr (.inl h8))))))))
 rw[if_neg h8] at h
 by_cases h9:op=9
 ·exact .inr (.inr (.inr (.inr (.inr (.inr (.inr (.inr (.inr (.inl h9)))))))))
 rw[if_neg h9] at h
 by_cases h10:op=10
 ·exact .inr (.inr (.inr (.inr (.inr (.inr (.inr (.inr (.inr (.inr (.inl h10))))))))))
 rw[if_neg h10] at h
 by_cases h11:op=11
 ·exact .inr (.inr (.inr (.inr (.inr (.inr (.inr (.inr (.inr (.inr (.inr (.inl h11)))))))))))
 rw[if_neg h11] at h
 by_cases h12:op=12
 ·exact .inr (.inr (.inr (.inr (.inr (.inr (.inr (.inr (.inr (.inr (.inr (.inr (.inl h12))))))))))))
 rw[if_neg h12] at h
 by_cases h13:op=13
 ·exact .inr (.inr (.inr (.inr (.inr (.inr (.inr (.inr (.inr (.inr (.inr (.inr (.inr (.inl h13)))))))))))))
 rw[if_neg h13] at h
 by_cases h14:op=14
 ·exact .inr (.inr (.inr (.inr (.inr (.inr (.inr (.inr (.inr (.inr (.inr (.inr (.inr (.inr (.inl h14))))))))))))))
 rw[if_neg h14] at h
 by_cases h15:op=15
 ·exact .inr (.inr (.inr (.inr (.inr (.inr (.inr (.inr (.inr (.inr (.inr (.inr (.inr (.inr (.inr (.inl h15)))))))))))))))
 rw[if_neg h15] at h
 by_cases h16:op=16
 ·exact .inr (.inr (.inr (.inr (.inr (.inr (.inr (.inr (.inr (.inr (.inr (.inr (.inr (.inr (.inr (.inr (.inl h16))))))))))))))))
 rw[if_neg h16] at h
 by_cases h17:op=17
 ·exact .inr (.inr (.inr (.inr (.inr (.inr (.inr (.inr (.inr (.inr (.inr (.inr (.inr (.inr (.inr (.inr (.inr (h17)))))))))))))))))
 rw[if_neg h17] at h
 cases h
theorem len0 {α:Type} {l:List α} (h:0=l.length):l=[]:=List.length_eq_zero_iff.mp h.symm
theorem len1 {α:Type} {l:List α} (h:1=l.length):∃a,l=[a]:=by
 match l,h with
 |[a],_=>exact⟨a,rfl⟩
theorem len2 {α:Type} {l:List α} (h:2=l.length):∃a b,l=[a,b]:=by
 match l,h with
 |[a,b],_=>exact⟨a,b,rfl⟩
theorem len3 {α:Type} {l:List α} (h:3=l.length):∃a b c,l=[a,b,c]:=by
 match l,h with
 |[a,b,c],_=>exact⟨a,b,c,rfl⟩
def Formed (c:List (List Int)):Prop:=∃(op:Int) (ns:List Int) (xs:List (List Int)),c=(op::ns)::xs∧PyWrbind.shape op=some (ns.length,xs.length)
theorem formed_ok {c:List (List Int)} (h:Formed c):PyWrbind.whole c=c∧∃x,BiNeutral.callOf c=some x:=by
 obtain⟨op,ns,xs,rfl,h⟩:=h
 rcases shape_ops h with rfl|rfl|rfl|rfl|rfl|rfl|rfl|rfl|rfl|rfl|rfl|rfl|rfl|rfl|rfl|rfl|rfl|rfl
 ·have h:some (3,0)=some (ns.length,xs.length):=h
  injection h with h
  injection h with h1 h2
  obtain⟨a,b,c,rfl⟩:=len3 h1
  have h2:=len0 h2
  subst h2
  exact⟨rfl,_,rfl⟩
 ·have h:some (1,1)=some (ns.length,xs.length):=h
  injection h with h
  injection h with h1 h2
  obtain⟨a,rfl⟩:=len1 h1
  obtain⟨r,rfl⟩:=len1 h2
  exact⟨rfl,_,rfl⟩
 ·have h:some (3,1)=some (ns.length,xs.length):=h
  injection h with h
  injection h with h1 h2
  obtain⟨a,b,c,rfl⟩:=len3 h1
  obtain⟨r,rfl⟩:=len1 h2
  exact⟨rfl,_,rfl⟩
 ·have h:some (2,1)=some (ns.length,xs.length):=h
  injection h with h
  injection h with h1 h2
  obtain⟨a,b,rfl⟩:=len2 h1
  obtain⟨r,rfl⟩:=len1 h2
  exact⟨rfl,_,rfl⟩
 ·have h:some (1,0)=some (ns.length,xs.length):=h
  injection h with h
  injection h with h1 h2
  obtain⟨a,rfl⟩:=len1 h1
  have h2:=len0 h2
  subst h2
  exact⟨rfl,_,rfl⟩
 ·have h:some (2,0)=some (ns.length,xs.length):=h
  injection h with h
  injection h with h1 h2
  obtain⟨a,b,rfl⟩:=len2 h1
  have h2:=len0 h2
  subst h2
  exact⟨rfl,_,rfl⟩
 ·have h:some (2,0)=some (ns.length,xs.length):=h
  injection h with h
  injection h with h1 h2
  obtain⟨a,b,rfl⟩:=len2 h1
  have h2:=len0 h2
  subst h2
  exact⟨rfl,_,rfl⟩
 ·have h:some (1,0)=some (ns.length,xs.length):=h
  injection h with h
  injection h with h1 h2
  obtain⟨a,rfl⟩:=len1 h1
  have h2:=len0 h2
  subst h2
  exact⟨rfl,_,rfl⟩
 ·have h:some (1,0)=some (ns.length,xs.length):=h
  injection h with h
  injection h with h1 h2
  obtain⟨a,rfl⟩:=len1 h1
  have h2:=len0 h2
  subst h2
  exact⟨rfl,_,rfl⟩
 ·have h:some (2,0)=some (ns.length,xs.length):=h
  injection h with h
  injection h with h1 h2
  obtain⟨a,b,rfl⟩:=len2 h1
  have h2:=len0 h2
  subst h2
  exact⟨rfl,_,rfl⟩
 ·have h:some (3,0)=some (ns.length,xs.length):=h
  injection h with h
  injection h with h1 h2
  obtain⟨a,b,c,rfl⟩:=len3 h1
  have h2:=len0 h2
  subst h2
  exact⟨rfl,_,rfl⟩
 ·have h:some (3,0)=some (ns.length,xs.length):=h
  injection h with h
  injection h with h1 h2
  obtain⟨a,b,c,rfl⟩:=len3 h1
  have h2:=len0 h2
  subst h2
  exact⟨rfl,_,rfl⟩
 ·have h:some (3,0)=some (ns.length,xs.length):=h
  injection h with h
  injection h with h1 h2
  obtain⟨a,b,c,rfl⟩:=len3 h1
  have h2:=len0 h2
  subst h2
  exact⟨rfl,_,rfl⟩
 ·have h:some (3,0)=some (ns.length,xs.length):=h
  injection h with h
  injection h with h1 h2
  obtain⟨a,b,c,rfl⟩:=len3 h1
  have h2:=len0 h2
  subst h2
  exact⟨rfl,_,rfl⟩
 ·have h:some (2,0)=some (ns.length,xs.length):=h
  injection h with h
  injection h with h1 h2
  obtain⟨a,b,rfl⟩:=len2 h1
  have h2:=len0 h2
  subst h2
  exact⟨rfl,_,rfl⟩
 ·have h:some (2,0)=some (ns.length,xs.length):=h
  injection h with h
  injection h with h1 h2
  obtain⟨a,b,rfl⟩:=len2 h1
  have h2:=len0 h2
  subst h2
  exact⟨rfl,_,rfl⟩
 ·have h:some (1,1)=some (ns.length,xs.length):=h
  injection h with h
  injection h with h1 h2
  obtain⟨a,rfl⟩:=len1 h1
  obtain⟨r,rfl⟩:=len1 h2
  exact⟨rfl,_,rfl⟩
 ·have h:some (3,0)=some (ns.length,xs.length):=h
  injection h with h
  injection h with h1 h2
  obtain⟨a,b,c,rfl⟩:=len3 h1
  have h2:=len0 h2
  subst h2
  exact⟨rfl,_,rfl⟩
theorem call_take {op:Int} {r t:List Int} {c:List (List Int)} (h:PyFlat.call PyWrbind.shape (op::r)=some (c,t)):(∃q,PyWrbind.shape op=some q)∧Formed c∧∃m,t=r.drop m:=by
 unfold PyFlat.call at h
 dsimp only at h
 cases hs:PyWrbind.shape op with
 |none=>rw[hs] at h;cases h
 |some q =>
  refine⟨⟨q,rfl⟩,?_⟩
  obtain⟨n,k⟩:=q
  rw[hs] at h
  dsimp only at h
  by_cases hl:r.length<n
  ·rw[if_pos hl] at h;cases h
  ·rw[if_neg hl] at h
   have gen:∀(k:Nat) (s:List Int) (xs:List (List Int)) (t:List Int),PyFlat.rows k s=some (xs,t)→xs.length=k∧∃m,t=s.drop m:=by
    intro k
    induction k with
    |zero=>intro s xs t h;unfold PyFlat.rows at h;cases h;exact⟨rfl,0,rfl⟩
    |succ k ih =>
     intro s xs t h
     unfold PyFlat.rows at h
     cases hr:PyFlat.row s with
     |none=>rw[hr] at h;cases h
     |some p =>
      obtain⟨x,s'⟩:=p
      rw[hr] at h
      dsimp only at h
      cases hq:PyFlat.rows k s' with
      |none=>rw[hq] at h;cases h
      |some p2 =>
       obtain⟨xs2,t2⟩:=p2
       rw[hq] at h
       dsimp only at h
       cases h
       obtain⟨hk,m,hm⟩:=ih s' xs2 t hq
       have:∃m1,s'=s.drop m1:=by
        cases s with
        |nil=>unfold PyFlat.row at hr;cases hr
        |cons z s =>
         unfold PyFlat.row at hr
         dsimp only at hr
         by_cases hz:0≤z∧z.toNat≤s.length
         ·rw[if_pos hz] at hr;cases hr;exact⟨z.toNat+1,rfl⟩
         ·rw[if_neg hz] at hr;cases hr
       obtain⟨m1,h1⟩:=this
       exact⟨by rw[List.length_cons,hk],m1+m,by rw[hm,h1,List.drop_drop]⟩
   cases hq:PyFlat.rows k (r.drop n) with
   |none=>rw[hq] at h;cases h
   |some p =>
    obtain⟨xs,t'⟩:=p
    rw[hq] at h
    dsimp only at h
    cases h
    obtain⟨hk,m,hm⟩:=gen k _ xs t hq
    refine⟨⟨op,r.take n,xs,rfl,?_⟩,n+m,by rw[hm,List.drop_drop]⟩
    rw[hs,hk,List.length_take,Nat.min_eq_left (by omega)]
theorem calls_formed:∀(f:Nat) (l:List Int) (cs:List (List (List Int))),PyFlat.calls PyWrbind.shape f l=some cs→∀c,c∈cs→Formed c:=by
 intro f
 induction f with
 |zero =>
  intro l cs h
  cases l with
  |nil=>unfold PyFlat.calls at h;cases h;intro c hc;cases hc
  |cons p r=>unfold PyFlat.calls at h;cases h
 |succ f ih =>
  intro l cs h
  cases l with
  |nil=>unfold PyFlat.calls at h;cases h;intro c hc;cases hc
  |cons p r =>
   unfold PyFlat.calls at h
   cases hc:PyFlat.call PyWrbind.shape (p::r) with
   |none=>rw[hc] at h;cases h
   |some q =>
    obtain⟨c0,t⟩:=q
    rw[hc] at h
    dsimp only at h
    cases hq:PyFlat.calls PyWrbind.shape f t with
    |none=>rw[hq] at h;cases h
    |some cs' =>
     rw[hq] at h
     dsimp only at h
     cases h
     intro c hm
     rcases List.mem_cons.mp hm with e|e
     ·rw[e];exact (call_take hc).2.1
     ·exact ih t cs' hq c e
def Left (ns:List Int) (i:Nat) (st:List BindNs.Bond) (due:List Int):Prop:=∃(fuel:Nat) (cs:List (List (List Int))),PyFlat.calls PyWrbind.shape fuel (ns.drop i)=some cs∧(∀c,c∈cs→BiNeutral.asked1 c=true)∧due=PyFlat.told (PyFlat.played BiNeutral.step st cs)
theorem Left.fin {ns:List Int} {i:Nat} {st:List BindNs.Bond} {due:List Int} (h:Left ns i st due) (hi:¬i<ns.length):due=[]:=by
 obtain⟨fuel,cs,h1,_,h3⟩:=h
 have:ns.drop i=[]:=List.drop_eq_nil_of_le (by omega)
 rw[this] at h1
 unfold PyFlat.calls at h1
 cases h1
 rw[h3];rfl
theorem Left.turn {ns:List Int} {i:Nat} {st:List BindNs.Bond} {due:List Int} (h:Left ns i st due) (hi:i<ns.length) :
  ∃(op:Int) (c:List (List Int)) (t:List Int) (x:BindNs.Call) (due':List Int),ns[i]?=some op∧(∃q,PyWrbind.shape op=some q)∧PyFlat.call PyWrbind.shape (op::ns.drop (i+1))=some (c,t)∧BiNeutral.callOf c=some x∧BiNeutral.asked1 c=true ∧
   i<ns.length-t.length∧ns.length-t.length≤ns.length∧Left ns (ns.length-t.length) (BindNs.step st x).1 due'∧due=((BindNs.step st x).2.length:Int)::((BindNs.step st x).2++due'):=by
 obtain⟨fuel,cs,h1,h2,h3⟩:=h
 have hd:ns.drop i=ns[i]::ns.drop (i+1):=List.drop_eq_getElem_cons hi
 rw[hd] at h1
 cases fuel with
 |zero=>unfold PyFlat.calls at h1;cases h1
 |succ f =>
  unfold PyFlat.calls at h1
  cases hc:PyFlat.call PyWrbind.shape (ns[i]::ns.drop (i+1)) with
  |none=>rw[hc] at h1;cases h1
  |some p =>
   obtain⟨c,t⟩:=p
   rw[hc] at h1
   dsimp only at h1
   cases hq:PyFlat.calls PyWrbind.shape f t with
   |none=>rw[hq] at h1;cases h1
   |some cs' =>
    rw[hq] at h1
    dsimp only at h1
    cases h1
    have ha:=h2 c List.mem_cons_self
    obtain⟨hsh,hfo,m,ht⟩:=call_take hc
    obtain⟨x,hx⟩:=(formed_ok hfo).2
    have htl:t.length=ns.length-(i+1)-m:=by rw[ht,List.length_drop,List.length_drop]
    have htd:t=ns.drop (ns.length-t.length):=by
     rw[ht,List.drop_drop]
     by_cases hm:i+1+m≤ns.length
     ·refine congrArg (fun k=>ns.drop k) ?_
      rw[List.length_drop];omega
     ·rw[List.drop_eq_nil_of_le (by omega)]
      rw[List.length_nil,Nat.sub_zero,List.drop_length]
    have hst:BiNeutral.step st c=BindNs.step st x:=by
     unfold BiNeutral.step
     rw[hx]
    refine⟨ns[i],c,t,x,PyFlat.told (PyFlat.played BiNeutral.step (BindNs.step st x).1 cs'),List.getElem?_eq_getElem hi,hsh,hc,hx,ha,by omega,by omega,⟨f,cs',by rw[←htd];exact hq,fun c' hc'=>h2 c' (List.mem_cons_of_mem _ hc'),rfl⟩,?_⟩
    rw[h3,←hst]
    exact List.flatMap_cons
theorem left_start {ns:List Int} (h:PyWrbind.answers_asked ns=true):Left ns 0 BindNs.start (PyWrbind.answers ns)∧(PyWrbind.answers ns).length≤10000000:=by
 unfold PyWrbind.answers_asked at h
 cases hc:PyFlat.calls PyWrbind.shape ns.length ns with
 |none=>rw[hc] at h;cases h
 |some raw =>
  rw[hc] at h
  dsimp only at h
  have hid:raw.map PyWrbind.whole=raw:=(List.map_congr_left fun c hc'=>(formed_ok (calls_formed _ _ _ hc c hc')).1).trans (List.map_id raw)
  rw[hid,Bool.and_eq_true,Bool.and_eq_true] at h
  refine⟨⟨ns.length,raw,hc,fun c hcm=>?_,?_⟩,of_decide_eq_true h.2⟩
  ·have:=h.1.2
   unfold BiNeutral.asked at this
   rw[Bool.and_eq_true,Bool.and_eq_true,List.all_eq_true] at this
   exact this.1.1 c hcm
  ·unfold PyWrbind.answers PyWrbind.calls
   rw[hc]
   dsimp only
   rw[hid]
   rfl
open BindNs (things size Bond sets less all)
abbrev sRanks:Stmt:=top 10
theorem pi_listF {X:Cx} {K:PySem.W.Frag} {tg l:Expr} {tl:TE} (hl:PE X l tl) (hK:X.K=K):PI X tg l (iList K tl):=by
 subst hK
 exact pi_list hl
theorem pe_fldK {X:Cx} {K:PySem.W.Frag} {e:Expr} {f:Str} {pos:Pos} {ta:TE} (he:PE X e ta) (hb:attributeBase e f X.env (eval e X.env)=eval e X.env) (hK:X.K=K):PE X (.Attribute e f pos) (tFld K ta f):=by
 subst hK
 exact pe_fld he hb
def retVal:Stmt→Expr
 |.Return (some e) _=>e
 |_=>.Name "" ⟨0,0,0,0⟩
abbrev scRanksO:Scope:=lcScope (retVal ((defBody sRanks).getD 1 (.Pass ⟨0,0,0,0⟩)))
def ranksL (m:Bond):List Nat:=(sets m.n).map m.rank
def spRanks (C:Addr):Sp:=fun vs H Q _=>∃(a:Addr) (m:Bond),vs=[.ref a]∧BondAt C H a m∧Good m∧∀(H':Hp) (p:Addr),Same H H'→H p=none→H' p=some (.lst (natsV (ranksL m)))→Q (.ref p) H'
theorem scRanks:FnScope ["bond","sizes","s","base"] ["bond"] (defScope sRanks):=⟨rfl,rfl,rfl,by decide +kernel,rfl,by decide +kernel,by decide +kernel⟩
theorem ok_ranks {f:Addr} {fd:FuncData} (F:Fun K "ranks_of" "ranks_of" sRanks f fd) (T:Names mg) (B:BCls K mg C) (C1:Callee P w K mg base 2 "size" ["s"] spSize):FnOk P w K mg base CX0 3 f fd ["bond"] (spRanks C):=by
 refine F.ok scRanks (fun vs H Q E h=>?_) (fun cdv A outer s H vs Q E hr h=>?_)
 ·obtain⟨a,m,rfl,_⟩:=h
  rfl
 ·obtain⟨a,m,rfl,⟨dx,l,h1,h2⟩,g,k⟩:=h
  refine⟨_,pss_cons (ps_set (i:=1) scRanks.nd rfl (Or.inr rfl) (pe_lc (own:=[("s",2)]) rfl scRanks.nd (pi_range1 rfl T.range (pa_cons (pe_op op_shl pe_int (pe_fld (pv 0) rfl)) pa_nil)) (blkOk_by (N:=["bond","sizes","s","base"]) (sc:=defScope sRanks) (by decide +kernel)) (fun s H C cl fp=>pg_name (i:=2) scRanks.nd rfl (Or.inl rfl)) (fun s H C cl fp=>pts_nil)
    (fun s H C cl fp=>pcall C1 hr rfl (pa_cons (pv 2) pa_nil))))
   (pss_one (ps_ret (pe_lc (own:=[("s",2)]) rfl scRanks.nd (pi_range1 rfl T.range (pa_cons (pe_callB call_len_seq rfl T.len PySem.boot_len (pa_cons (pv 1) pa_nil)) pa_nil)) (blkOk_by (N:=["bond","sizes","s","base"]) (sc:=defScope sRanks) (by decide +kernel)) (fun s H C cl fp=>pg_name (i:=2) scRanks.nd rfl (Or.inr rfl)) (fun s H C cl fp=>pts_nil)
    (fun s H C cl fp=>pe_callB (r:=rMax K) (cr_max rfl) rfl T.max bo_max (pa_cons (pe_lc (own:=[("base",3)]) rfl scRanks.nd (pi_listF (K:=K) (pe_fldK (K:=K) (pv 0) rfl rfl) rfl) (blkOk_by (N:=["bond","sizes","s","base"]) (sc:=relS scRanksO (defScope sRanks)) (by decide +kernel)) (fun s H C cl fp=>pg_name (i:=3) scRanks.nd rfl (Or.inl rfl)) (fun s H C cl fp=>pts_nil)
     (fun s H C cl fp=>pe_ix (r:=rIxL K) ix_list (pv 1) (pe_op op_and (pv 3) (pv 2)) (fun _ _=>rfl))) pa_nil))))),?_⟩
  have hn8:=g.n8
  have h256:=pow_le_256 hn8
  have hlen:=bases_len g
  dsimp only [tSeq,tAsg]
  refine lcRg (n:=2^m.n) (fun _=>true) (fun s=>nV (size s)) (by omega) (fun R hR=>?_) (fun x H' R S hx s2 a1 a2=>?_) (fun D H1 s1 hD e1=>?_)
  ·refine⟨_,rfl,a,C,dx,_,_,rfl,h1,B.cl,B.nT,bf_things _ _,_,_,rfl,rfl,⟨by omega,by omega,by decide⟩,?_⟩
   have:=hR H (Same.refl _)
   rw[←shl1] at this
   exact this
  ·exact⟨rfl,iteT (B:=S H') ⟨_,rfl,x,rfl,lt256 hn8 hx,fun H4 s4=>a1 rfl H4 s4⟩⟩
  ·rw[filter_true] at e1
   dsimp only [gName,tNext,tSeq,tAsg,tRet]
   refine lcRg (n:=2^m.n) (fun _=>true) (fun s=>nV (m.rank s)) (by omega) (fun R hR=>?_) (fun x H' R S hx s2 a1 a2=>?_) (fun D2 H2 s2 hD2 e2=>?_)
   ·refine⟨_,rfl,D,_,rfl,.inl (SqL.of e1),?_⟩
    rw[List.length_map,List.length_range]
    exact hR H1 (Same.refl _)
   ·refine⟨rfl,?_⟩
    have s12:=s1.trans s2
    dsimp only [tYes,tCB,tCons,tNil]
    rw[if_pos rfl]
    refine lcNg (L:=m.bases) (fun _=>true) (fun b=>nV (size (b&&&x))) (by omega) (fun R hR=>⟨_,rfl,a,C,dx,_,_,rfl,s12 _ _ h1,B.cl,B.nB,bf_bases _ _,hR H' l (Same.refl _) (SqL.of (s12 _ _ h2))⟩) (fun b H3 R3 S3 hb s3 b1 b2=>?_) (fun D3 H3 s3 hD3 e3=>?_)
    ·refine⟨rfl,iteT (B:=S3 H3) ⟨_,rfl,_,rfl,_,rfl,_,_,rfl,rfl,D,_,_,_,rfl,rfl,SqL.of (s3 _ _ (s2 _ _ e1)),at_of (j:=b&&&x) (v:=nV (size (b&&&x))) (band_nat _ _) (range_get _ (and_lt' hx)),b1 rfl H3 (Same.refl _)⟩⟩
    ·rw[filter_true] at e3
     refine⟨D3,(m.bases.map fun b=>size (b&&&x)).map (fun (n:Nat)=>(n:Int)),rfl,SqL.of (by rw[e3,List.map_map,List.map_map];rfl),?_,fun z hz hle=>?_⟩
     ·rw[List.length_map,List.length_map];exact List.length_pos_iff.mpr g.ne
     ·rw[nmax hz hle]
      exact a1 rfl H3 s3
   ·rw[filter_true] at e2
    refine k H2 D2 (s1.trans s2) (s1.free hD2) ?_
    rw[e2]
    unfold natsV ranksL
    rw[List.map_map]
    rfl
abbrev sDual:Stmt:=top 14
abbrev sDropped:Stmt:=top 15
abbrev sPinched:Stmt:=top 16
abbrev sAllBut:Stmt:=top 17
abbrev sRenum:Stmt:=top 18
theorem pg_tupK {X:Cx} {K:PySem.W.Frag} {es:List Expr} {k:Nat} {t:TGs} {n:Nat} {pos:Pos} (h:PGs X es t) (hc:X.calm=true) (hK:X.K=K)
  (hn:(assignEach es X.env).length=n:=by rfl) (hst:(assignEach es X.env).findIdx? (·.1)=none:=by rfl):PG X (.Tuple es k pos) (gTup K n t):=by
 subst hK
 exact pg_tup hc h hn hst
theorem lcEg {K:PySem.W.Frag} {L:List Nat} {ta:TA} {g:TG} {tt:TT} {te:TE} {vs:List Nat} {σ:L2.St} {H:Hp} {Q:VK} (p:Nat→Bool) (f:Nat→V) (hn:L.length≤100000) (hta:∀R:List V→Hp→Prop,(∀H1 a,Same H H1→SqL K H1 a (natsV L)→R [.ref a] H1)→ta σ H R)
  (hs:∀i x T H' (R:V→Hp→Prop) (S:Hp→Prop),L[i]?=some x→Same H H'→H' T=some (.tup [nV i,nV x])→(p i=true→∀H4,Same H' H4→R (f i) H4)→(p i=false→∀H4,Same H' H4→S H4) →
   g (.ref T) (wipe σ vs) H' fun σ2 H2=>wipe σ2 vs=wipe σ vs∧tt σ2 H2 fun b H3=>if b=true then te σ2 H3 R else S H3)
  (hd:∀D H',Same H H'→H D=none→H' D=some (.lst (((List.range L.length).filter p).map f))→Q (.ref D) H'):tLc (iEnum K ta) g tt te vs σ H Q:=by
 refine hta _ fun H1 a s1 ha=>⟨a,_,rfl,ha,fun D hD=>?_⟩
 have hil:(natsV L).length=L.length:=by unfold natsV;rw[List.length_map]
 refine⟨fun i m H'=>m=L.length-i∧i≤L.length∧Same H1 H'∧H' D=some (.lst (((List.range i).filter p).map f)),⟨L.length,by simp,Nat.zero_le _,same_new hD,upd_same⟩,?_⟩
 rintro i m H' ⟨rfl,hi,s2,e2⟩
 by_cases hlt:i<L.length
 ·have hg:L[i]?=some L[i]:=List.getElem?_eq_getElem hlt
  have hgv:(natsV L)[i]?=some (nV L[i]):=by unfold natsV;rw[List.getElem?_map,hg];rfl
  refine .inr ⟨⟨natsV L,nV L[i],s2.seq ha,hgv⟩,fun H''=>Same H1 H''∧H'' D=some (.lst (((List.range (i+1)).filter p).map f)),fun H'' p'=>⟨L.length-(i+1),by omega,rfl,hlt,p'⟩,fun x H'' y=>?_⟩
  obtain⟨T,x',rfl,hT,rfl,hx⟩:=y
  have hx':=hx _ (s2.seq ha)
  rw[hgv] at hx'
  have hx':nV L[i]=x':=Option.some.inj hx'
  subst hx'
  have s3:=s2.trans (same_new (o:=.tup [.int (i:Nat),nV L[i]]) hT)
  have e3:=(same_new (o:=.tup [.int (i:Nat),nV L[i]]) hT) _ _ e2
  refine hs i L[i] T _ _ _ hg (s1.trans s3) upd_same (fun hp H4 s4=>⟨_,s4 _ _ e3,?_,same_upd (s3.trans s4) hD,?_⟩) (fun hp H4 s4=>⟨s3.trans s4,?_⟩)
  ·have h1:(((List.range i).filter p).map f).length≤i:=by rw[List.length_map];exact Nat.le_trans (List.length_filter_le _ _) (by rw[List.length_range];exact Nat.le_refl _)
   have h2:(100000:Nat)<sizeLine:=by decide
   omega
  ·rw[upd_same,List.range_succ,List.filter_append,List.map_append,List.filter_cons,if_pos hp];rfl
  ·rw[List.range_succ,List.filter_append,List.map_append,List.filter_cons,if_neg (by rw[hp];exact Bool.false_ne_true)]
   rw[List.filter_nil,List.map_nil,List.append_nil];exact s4 _ _ e3
 ·have e:i=L.length:=by omega
  subst e
  exact .inl ⟨⟨natsV L,s2.seq ha,by rw[hil];exact Nat.le_refl _⟩,hd D H' (s1.trans s2) (s1.free hD) e2⟩
theorem int_sum (l:List Nat):(l.map fun (n:Nat)=>(n:Int)).sum=((l.sum:Nat):Int):=by
 induction l with
 |nil=>rfl
 |cons x l ih=>rw[List.map_cons,List.sum_cons,List.sum_cons,ih];push_cast;rfl
def spAllBut (C:Addr):Sp:=fun vs H Q _=>∃(a:Addr) (m:Bond) (s:Nat),vs=[.ref a,nV s]∧BondAt C H a m∧m.n≤8∧s<2^m.n∧Q (nV (less (all m.n) s)) H
theorem scAllBut:FnScope ["bond","s"] ["bond","s"] (defScope sAllBut):=⟨rfl,rfl,rfl,by decide +kernel,rfl,by decide +kernel,by decide +kernel⟩
theorem ok_allBut {f:Addr} {fd:FuncData} (F:Fun K "all_but" "all_but" sAllBut f fd) (B:BCls K mg C):FnOk P w K mg base CX0 1 f fd ["bond","s"] (spAllBut C):=by
 refine F.ok scAllBut (fun vs H Q E h=>?_) (fun cdv A outer s H vs Q E hr h=>?_)
 ·obtain⟨a,m,s,rfl,_⟩:=h
  rfl
 ·obtain⟨a,m,t,rfl,⟨dx,l,h1,h2⟩,hn8,ht,k⟩:=h
  refine⟨_,pss_one (ps_ret (pe_op op_xor (pe_op op_sub (pe_op op_shl pe_int (pe_fld (pv 0) rfl)) pe_int) (pv 1))),?_⟩
  refine⟨_,rfl,a,C,dx,_,_,rfl,h1,B.cl,B.nT,bf_things _ _,_,_,rfl,rfl,⟨by omega,by omega,by decide⟩,_,_,rfl,rfl,_,rfl,_,_,rfl,rfl,?_⟩
  have hp:=Nat.two_pow_pos m.n
  have e:((1:Int)*2^((m.n:Int)).toNat-1)=((2^m.n-1:Nat):Int):=by
   rw[Int.toNat_natCast,Int.one_mul,show ((2:Int)^m.n)=((2^m.n:Nat):Int) from rfl];omega
  show Q (V.int (Builtin.bitXor ((1:Int)*2^((m.n:Int)).toNat-1) (t:Int))) H
  rw[e,bxor_nat,xor_co hn8 ht]
  exact k
def spRenum (K:PySem.W.Frag):Sp:=fun vs H Q _=>∃(s:Nat) (a:Addr) (ks:List Nat),vs=[nV s,.ref a]∧SqL K H a (natsV ks)∧ks.length≤8∧∀H',Same H H'→Q (nV (renum ks s)) H'
theorem scRenum:FnScope ["s","kept","at","thing"] ["s","kept"] (defScope sRenum):=⟨rfl,rfl,rfl,by decide +kernel,rfl,by decide +kernel,by decide +kernel⟩
theorem ok_renum {f:Addr} {fd:FuncData} (F:Fun K "renumbered" "renumbered" sRenum f fd) (T:Names mg) (hE:mg "enumerate"=none) (hS:mg "sum"=none) (bo_sum:bootBuiltins "sum"=some (.builtin "sum")):FnOk P w K mg base CX0 1 f fd ["s","kept"] (spRenum K):=by
 refine F.ok scRenum (fun vs H Q E h=>?_) (fun cdv A outer s H vs Q E hr h=>?_)
 ·obtain⟨s,a,ks,rfl,_⟩:=h
  rfl
 ·obtain⟨t,a,ks,rfl,hl,hk8,k⟩:=h
  refine⟨_,pss_one (ps_ret (pe_callB (cr_sum rfl) rfl hS bo_sum (pa_cons
   (pe_lc (own:=[("at",2),("thing",3)]) rfl scRenum.nd (pi_enum rfl hE (pa_cons (pv 1) pa_nil)) (blkOk_by (N:=["s","kept","at","thing"]) (sc:=defScope sRenum) (by decide +kernel))
    (fun s H C cl fp=>pg_tupK (K:=K) (n:=2) (pgs_cons (pg_name (i:=2) scRenum.nd rfl (Or.inl rfl)) (pgs_cons (pg_name (i:=3) scRenum.nd rfl (Or.inl rfl)) pgs_nil)) rfl rfl)
    (fun s H C cl fp=>pts_one (pt_cmpR op_eq (pe_op op_and (pe_op op_shr (pv 0) (pv 3)) pe_int) pe_int (nomark _)))
    (fun s H C cl fp=>pe_op op_shl pe_int (pv 2))) pa_nil))),?_⟩
  dsimp only [tRet,tCB,tCons,tNil]
  refine lcEg (K:=K) (L:=ks) (fun i=>t.testBit (ks.getD i 0)) (fun i=>nV (2^i)) (by omega) (fun R hR=>⟨_,rfl,hR H a (Same.refl _) hl⟩) (fun i x T' H' R S hx s1 hT a1 a2=>?_) (fun D H1 s1 hD e1=>?_)
  ·have hi:i<ks.length:=(List.getElem?_eq_some_iff.mp hx).1
   have ex:ks.getD i 0=x:=by rw[List.getD_eq_getElem?_getD,hx];rfl
   rw[ex] at a1 a2
   refine⟨T',_,rfl,SqT.of hT,rfl,_,_,rfl,_,_,rfl,rfl,rfl,_,rfl,_,rfl,_,_,rfl,rfl,(by show (0:Int)≤(x:Int);omega),_,_,rfl,rfl,rfl,_,rfl,?_⟩
   have esh:decide (V.int (Builtin.bitAnd ((t:Int) / 2^((x:Int)).toNat) 1)=V.int 1)=t.testBit x:=by
    have:=shr_and (s:=t) (i:=x)
    rw[Int.zero_add] at this
    exact this
   rw[esh]
   cases hb:t.testBit x with
   |true =>
    refine iteT ⟨_,rfl,_,_,rfl,rfl,⟨by omega,by omega,by decide⟩,?_⟩
    have:=a1 hb H' (Same.refl _)
    rw[←shl1] at this
    exact this
   |false=>exact iteF (a2 hb H' (Same.refl _))
  ·refine⟨D,(((List.range ks.length).filter fun i=>t.testBit (ks.getD i 0)).map fun j=>2^j).map (fun (n:Nat)=>(n:Int)),rfl,SqL.of (by rw[e1,List.map_map,List.map_map];rfl),?_⟩
   rw[int_sum]
   exact k H1 s1
def spDual (C:Addr):Sp:=fun vs H Q _=>∃(a:Addr) (m:Bond),vs=[.ref a]∧BondAt C H a m∧Good m∧∀(H':Hp) (b:Addr),Same H H'→H b=none→BondAt C H' b m.dual→Q (.ref b) H'
theorem scDual:FnScope ["bond","base"] ["bond"] (defScope sDual):=⟨rfl,rfl,rfl,by decide +kernel,rfl,by decide +kernel,by decide +kernel⟩
theorem ok_dual {f fI:Addr} {fd fdI:FuncData} (F:Fun K "dual_of" "dual_of" sDual f fd) (B:BCls K mg C) (M:Mk K C fI) (GI:FnOk P w K mg base CX0 1 fI fdI ["self","things","bases"] (spBInit K C)) (bI:Binds K fdI ["self","things","bases"] [])
  (C1:Callee P w K mg base 1 "all_but" ["bond","s"] (spAllBut C)):FnOk P w K mg base CX0 3 f fd ["bond"] (spDual C):=by
 refine F.ok scDual (fun vs H Q E h=>?_) (fun cdv A outer s H vs Q E hr h=>?_)
 ·obtain⟨a,m,rfl,_⟩:=h
  rfl
 ·obtain⟨a,m,rfl,⟨dx,l,h1,h2⟩,g,k⟩:=h
  have hr1:Room 1 _:=hr.mono (by decide)
  refine⟨_,pss_one (ps_ret (pe_make M GI hr rfl B.mgC bI .nil pass0 (pa_cons (pe_fld (pv 0) rfl) (pa_cons
   (pe_lc (own:=[("base",1)]) rfl scDual.nd (pi_list (pe_fld (pv 0) rfl)) (blkOk_by (N:=["bond","base"]) (sc:=defScope sDual) (by decide +kernel)) (fun s H C cl fp=>pg_name (i:=1) scDual.nd rfl (Or.inl rfl)) (fun s H C cl fp=>pts_nil)
    (fun s H C cl fp=>pcall C1 hr1 rfl (pa_cons (pv 0) (pa_cons (pv 1) pa_nil)))) pa_nil)))),?_⟩
  have hlen:=bases_len g
  refine⟨_,rfl,a,C,dx,_,_,rfl,h1,B.cl,B.nT,bf_things _ _,?_⟩
  dsimp only [tCons,tNil]
  refine lcNg (L:=m.bases) (fun _=>true) (fun b=>nV (less (all m.n) b)) (by omega) (fun R hR=>⟨_,rfl,a,C,dx,_,_,rfl,h1,B.cl,B.nB,bf_bases _ _,hR H l (Same.refl _) (SqL.of h2)⟩) (fun x H' R S hx s1 a1 a2=>?_) (fun D H1 s1 hD e1=>?_)
  ·exact⟨rfl,iteT (B:=S H') ⟨_,rfl,_,rfl,a,m,x,rfl,⟨dx,l,s1 _ _ h1,s1 _ _ h2⟩,g.n8,g.lt x hx,a1 rfl H' (Same.refl _)⟩⟩
  ·rw[filter_true] at e1
   have e1':H1 D=some (.lst (natsV (m.bases.map fun b=>less (all m.n) b))):=by rw[e1];unfold natsV;rw[List.map_map];rfl
   refine made_bond (n:=m.n) (bs:=m.bases.map fun b=>less (all m.n) b) (SqL.of e1') (fun s hs=>?_) fun H' b bs' pm pw s3 hb hB=>?_
   ·obtain⟨c,_,rfl⟩:=List.mem_map.mp hs
    exact less_lt _ _
   ·have e:bs'=m.dual.bases:=rise_ext pw (tidy_rise _ _) fun x=>by rw[pm x,List.mem_map];exact (mem_dual g.n8).symm
    rw[e] at hB
    exact k H' b (s1.trans s3) (s1.free hb) hB
def spCutFn (C:Addr) (mk:Bond→Nat→Bond):Sp:=fun vs H Q _=>∃(a:Addr) (m:Bond) (s:Nat),vs=[.ref a,nV s]∧BondAt C H a m∧Mat m∧s<2^m.n∧∀(H':Hp) (b:Addr),Same H H'→H b=none→BondAt C H' b (mk m s)→Q (.ref b) H'
theorem scDropped:FnScope ["bond","s","kept","base"] ["bond","s"] (defScope sDropped):=⟨rfl,rfl,rfl,by decide +kernel,rfl,by decide +kernel,by decide +kernel⟩
theorem ok_dropped {f:Addr} {fd:FuncData} (F:Fun K "dropped" "dropped" sDropped f fd) (T:Names mg) (B:BCls K mg C) (C1:Callee P w K mg base 1 "members" ["s"] spMembers) (C2:Callee P w K mg base 1 "all_but" ["bond","s"] (spAllBut C))
  (C3:Callee P w K mg base 1 "renumbered" ["s","kept"] (spRenum K)) (C4:Callee P w K mg base 3 "bond_of_loose" ["things","loose"] (spOfLooseG K C)):FnOk P w K mg base CX0 4 f fd ["bond","s"] (spCutFn C BindNs.Bond.drop):=by
 refine F.ok scDropped (fun vs H Q E h=>?_) (fun cdv A outer s H vs Q E hr h=>?_)
 ·obtain⟨a,m,s,rfl,_⟩:=h
  rfl
 ·obtain⟨a,m,t,rfl,hB,M,ht,k⟩:=h
  have hr1:Room 1 _:=hr.mono (by decide)
  refine⟨_,pss_cons (ps_set (i:=2) scDropped.nd rfl (Or.inr rfl) (pcall C1 hr1 rfl (pa_cons (pcall C2 hr1 rfl (pa_cons (pv 0) (pa_cons (pv 1) pa_nil))) pa_nil)))
   (pss_one (ps_ret (pcall C4 hr rfl (pa_cons (pe_callB call_len_seq rfl T.len PySem.boot_len (pa_cons (pv 2) pa_nil)) (pa_cons
    (pe_lc (own:=[("base",3)]) rfl scDropped.nd (pi_list (pe_fld (pv 0) rfl)) (blkOk_by (N:=["bond","s","kept","base"]) (sc:=defScope sDropped) (by decide +kernel)) (fun s H C cl fp=>pg_name (i:=3) scDropped.nd rfl (Or.inl rfl)) (fun s H C cl fp=>pts_nil)
     (fun s H C cl fp=>pcall C3 hr1 rfl (pa_cons (pv 3) (pa_cons (pv 2) pa_nil)))) pa_nil))))),?_⟩
  have g:=M.good
  have hlen:=bases_len g
  have hkl:=kept_length g.n8 ht
  have hks:things (less (all m.n) t)=kept m.n t:=kept_things g.n8
  refine⟨_,rfl,_,rfl,a,m,t,rfl,hB,g.n8,ht,less (all m.n) t,rfl,less_lt _ _,fun H1 q s1 _ hq=>?_⟩
  rw[hks] at hq
  obtain⟨dx,l,h1,h2⟩:=hB.same s1
  have h8:(kept m.n t).length≤8:=by have:=g.n8;omega
  refine⟨_,rfl,q,_,rfl,.inl (SqL.of hq),?_⟩
  have el:V.int (((natsV (kept m.n t)).length:Nat):Int)=nV (m.n-size t):=by unfold natsV;rw[List.length_map,hkl];rfl
  rw[el]
  dsimp only [tCons,tNil]
  refine lcNg (L:=m.bases) (fun _=>true) (fun b=>nV (renum (kept m.n t) b)) (by omega) (fun R hR=>⟨_,rfl,a,C,dx,_,_,rfl,h1,B.cl,B.nB,bf_bases _ _,hR H1 l (Same.refl _) (SqL.of h2)⟩) (fun x H' R S hx s2 a1 a2=>?_) (fun D H2 s2 hD e2=>?_)
  ·exact⟨rfl,iteT (B:=S H') ⟨_,rfl,_,rfl,x,q,kept m.n t,rfl,SqL.of (s2 _ _ hq),h8,fun H4 s4=>a1 rfl H4 s4⟩⟩
  ·rw[filter_true] at e2
   have e2':H2 D=some (.lst (natsV (m.bases.map (renum (kept m.n t))))):=by rw[e2];unfold natsV;rw[List.map_map];rfl
   refine⟨m.n-size t,D,m.bases.map (renum (kept m.n t)),rfl,SqL.of e2',fun q=>g.ne (List.map_eq_nil_iff.mp q),fun s hs=>?_,by rw[List.length_map];omega,fun H' b bs pm pw s3 hb hB'=>?_⟩
   ·obtain⟨c,_,rfl⟩:=List.mem_map.mp hs
    exact lt256 h8 (renum_lt _ _)
   ·have e:bs=(m.drop t).bases:=rise_ext pw (mat_drop M ht).good.rise fun x=>by rw[pm x,mem_drop M ht];rfl
    rw[e] at hB'
    exact k H' b ((s1.trans s2).trans s3) ((s1.trans s2).free hb) hB'
theorem scPinched:FnScope ["bond","s","kept","rank","base"] ["bond","s"] (defScope sPinched):=⟨rfl,rfl,rfl,by decide +kernel,rfl,by decide +kernel,by decide +kernel⟩
theorem ok_pinched {f fI:Addr} {fd fdI:FuncData} (F:Fun K "pinched" "pinched" sPinched f fd) (T:Names mg) (B:BCls K mg C) (Mk0:Mk K C fI) (GI:FnOk P w K mg base CX0 1 fI fdI ["self","things","bases"] (spBInit K C)) (bI:Binds K fdI ["self","things","bases"] [])
  (C1:Callee P w K mg base 1 "members" ["s"] spMembers) (C2:Callee P w K mg base 1 "all_but" ["bond","s"] (spAllBut C))
  (C3:Callee P w K mg base 1 "renumbered" ["s","kept"] (spRenum K)) (C4:Callee P w K mg base 3 "rank_of" ["bond","s"] (spRank C)) (C5:Callee P w K mg base 2 "size" ["s"] spSize):FnOk P w K mg base CX0 4 f fd ["bond","s"] (spCutFn C BindNs.Bond.pinch):=by
 refine F.ok scPinched (fun vs H Q E h=>?_) (fun cdv A outer s H vs Q E hr h=>?_)
 ·obtain⟨a,m,s,rfl,_⟩:=h
  rfl
 ·obtain⟨a,m,t,rfl,hB,M,ht,k⟩:=h
  have hr1:Room 1 _:=hr.mono (by decide)
  have hr2:Room 2 _:=hr.mono (by decide)
  refine⟨_,pss_cons (ps_set (i:=2) scPinched.nd rfl (Or.inr rfl) (pcall C1 hr1 rfl (pa_cons (pcall C2 hr1 rfl (pa_cons (pv 0) (pa_cons (pv 1) pa_nil))) pa_nil)))
   (pss_cons (ps_set (i:=3) scPinched.nd rfl (Or.inr rfl) (pcall C4 hr rfl (pa_cons (pv 0) (pa_cons (pv 1) pa_nil))))
   (pss_one (ps_ret (pe_make Mk0 GI hr2 rfl B.mgC bI .nil pass0 (pa_cons (pe_callB call_len_seq rfl T.len PySem.boot_len (pa_cons (pv 2) pa_nil)) (pa_cons
    (pe_lc (own:=[("base",4)]) rfl scPinched.nd (pi_list (pe_fld (pv 0) rfl)) (blkOk_by (N:=["bond","s","kept","rank","base"]) (sc:=defScope sPinched) (by decide +kernel)) (fun s H C cl fp=>pg_name (i:=4) scPinched.nd rfl (Or.inl rfl))
     (fun s H C cl fp=>pts_one (pt_cmpR op_eq (pcall C5 hr2 rfl (pa_cons (pe_op op_and (pv 4) (pv 1)) pa_nil)) (pv 3) (nomark _)))
     (fun s H C cl fp=>pcall C3 hr1 rfl (pa_cons (pv 4) (pa_cons (pv 2) pa_nil)))) pa_nil)))))),?_⟩
  have g:=M.good
  have hlen:=bases_len g
  have t8:=lt256 g.n8 ht
  have hkl:=kept_length g.n8 ht
  have hks:things (less (all m.n) t)=kept m.n t:=kept_things g.n8
  refine⟨_,rfl,_,rfl,a,m,t,rfl,hB,g.n8,ht,less (all m.n) t,rfl,less_lt _ _,fun H1 q s1 _ hq=>?_⟩
  rw[hks] at hq
  refine⟨_,rfl,_,rfl,a,m,t,rfl,hB.same s1,g,t8,fun H2 s2=>?_⟩
  have s12:=s1.trans s2
  obtain⟨dx,l,h1,h2⟩:=hB.same s12
  have h8:(kept m.n t).length≤8:=by have:=g.n8;omega
  refine⟨_,rfl,q,_,rfl,.inl (SqL.of (s2 _ _ hq)),?_⟩
  have el:V.int (((natsV (kept m.n t)).length:Nat):Int)=nV (m.n-size t):=by unfold natsV;rw[List.length_map,hkl];rfl
  rw[el]
  dsimp only [tCons,tNil]
  refine lcNg (L:=m.bases) (fun b=>size (b&&&t)==m.rank t) (fun b=>nV (renum (kept m.n t) b)) (by omega) (fun R hR=>⟨_,rfl,a,C,dx,_,_,rfl,h1,B.cl,B.nB,bf_bases _ _,hR H2 l (Same.refl _) (SqL.of h2)⟩) (fun x H' R S hx s3 a1 a2=>?_) (fun D H3 s3 hD e3=>?_)
  ·refine⟨rfl,_,rfl,_,rfl,_,_,rfl,rfl,x&&&t,by show [V.int (Builtin.bitAnd (x:Int) (t:Int))]++[]=_;rw[band_nat];rfl,and_lt' (n:=8) t8,fun H4 s4=>⟨_,rfl,rfl,_,rfl,?_⟩⟩
   rw[dec_nV]
   cases hb:size (x&&&t)==m.rank t with
   |true=>exact iteT ⟨_,rfl,_,rfl,x,q,kept m.n t,rfl,SqL.of (s4 _ _ (s3 _ _ (s2 _ _ hq))),h8,fun H5 s5=>a1 hb H5 (s4.trans s5)⟩
   |false=>exact iteF (a2 hb H4 s4)
  ·have e3':H3 D=some (.lst (natsV ((m.bases.filter fun b=>size (b&&&t)==m.rank t).map (renum (kept m.n t))))):=by rw[e3];unfold natsV;rw[List.map_map];rfl
   refine made_bond (n:=m.n-size t) (bs:=(m.bases.filter fun b=>size (b&&&t)==m.rank t).map (renum (kept m.n t))) (SqL.of e3') (fun s hs=>?_) fun H' b bs pm pw s4 hb hB'=>?_
   ·obtain⟨c,_,rfl⟩:=List.mem_map.mp hs
    exact lt256 h8 (renum_lt _ _)
   ·have e:bs=(m.pinch t).bases:=rise_ext pw (mat_pinch M ht).good.rise fun x=>by
     rw[pm x,mem_pinch M ht,List.mem_map]
     refine exists_congr fun c=>?_
     rw[List.mem_filter,beq_iff_eq,and_assoc]
    rw[e] at hB'
    exact k H' b ((s12.trans s3).trans s4) ((s12.trans s3).free hb) hB'
abbrev sBeside:Stmt:=top 32
abbrev sUnited:Stmt:=top 33
abbrev sJoined:Stmt:=top 34
abbrev sSame:Stmt:=top 35
abbrev sCommon:Stmt:=top 36
theorem joined_len (as bs:List Nat):(joinedL as bs).length=as.length*bs.length:=by
 induction as with
 |nil=>show 0=0*bs.length;rw[Nat.zero_mul]
 |cons x as ih =>
  show (bs.map (fun b=>x|||b)++joinedL as bs).length=_
  rw[List.length_append,List.length_map,ih,List.length_cons,Nat.succ_mul,Nat.add_comm]
theorem eqvAll_nats:∀ns ms:List Nat,PyData.eqvAll (ns.map fun (n:Nat)=>PyData.int (n:Int)) (ms.map fun (n:Nat)=>PyData.int (n:Int))=decide (ns=ms)
 |[],[]=>by simp [PyData.eqvAll]
 |[],_::_=>by simp [PyData.eqvAll]
 |_::_,[]=>by simp [PyData.eqvAll]
 |x::r,y::t=>by
  simp only [List.map_cons,PyData.eqvAll,PyData.eqv,eqvAll_nats r t]
  rw[Bool.eq_iff_iff]
  simp only [Bool.and_eq_true,decide_eq_true_eq,beq_iff_eq,List.cons.injEq]
  constructor
  ·rintro⟨h1,h2⟩;exact⟨by omega,h2⟩
  ·rintro⟨h1,h2⟩;exact⟨by omega,h2⟩
theorem nats_data (bs:List Nat):(bs.map fun (n:Nat)=>PyData.int (n:Int))=(bs.map fun (n:Nat)=>(n:Int)).map PyData.int:=by rw[List.map_map];rfl
theorem nats_shaped (bs:List Nat):SeqAt.shaped (.list (bs.map fun (n:Nat)=>PyData.int (n:Int)))=true:=by
 rw[nats_data]
 unfold SeqAt.shaped
 rw[Bool.and_eq_true]
 refine⟨?_,?_⟩
 ·simp only [PyData.canLay0,PyProof.Rows.canLayAll_ints]
 ·simp only [PyData.depth,PyProof.Rows.depthAll_ints]
  decide
theorem dp_nats {K:PySem.W.Frag} {H:Hp} {l:Addr} {bs:List Nat} (h:SqL K H l (natsV bs)):Dp K H (.ref l) (.list (bs.map fun (n:Nat)=>PyData.int (n:Int))):=by
 refine .lst h ?_
 clear h
 induction bs with
 |nil=>exact .nil
 |cons x bs ih=>exact .cons (.int _) ih
def spJoined (K:PySem.W.Frag):Sp:=fun vs H Q _=>∃(a b:Addr) (as bs:List Nat),vs=[.ref a,.ref b]∧SqL K H a (natsV as)∧SqL K H b (natsV bs)∧as.length≤256∧bs.length≤256∧(∀x,x∈as→x<256)∧(∀x,x∈bs→x<256) ∧
 ∀(H':Hp) (p:Addr) (L:List Nat),(∀x,x∈L↔x∈joinedL as bs)→L.Pairwise (·<·)→Same H H'→H p=none→H' p=some (.lst (natsV L))→Q (.ref p) H'
theorem scJoined:FnScope ["ones","others","made","first","second"] ["ones","others"] (defScope sJoined):=⟨rfl,rfl,rfl,by decide +kernel,rfl,by decide +kernel,by decide +kernel⟩
theorem ok_joined {f:Addr} {fd:FuncData} (F:Fun K "joined" "joined" sJoined f fd) (T:Names mg):FnOk P w K mg base CX0 1 f fd ["ones","others"] (spJoined K):=by
 refine F.ok scJoined (fun vs H Q E h=>?_) (fun cdv A outer s H vs Q E hr h=>?_)
 ·obtain⟨a,b,as,bs,rfl,_⟩:=h
  rfl
 ·obtain⟨a,b,as,bs,rfl,ha,hb,la,lb,a8,b8,k⟩:=h
  refine⟨_,pss_cons (ps_set (i:=2) scJoined.nd rfl (Or.inl rfl) (pe_lst pa_nil))
   (pss_cons (ps_for PassesOwn.never rfl (pi_list (pv 0)) (pg_name (i:=3) scJoined.nd rfl (Or.inr rfl))
    (pss_one (ps_expr (pe_bm PySem.F.plainAttrs_list PySem.F.slot_list_extend PySem.F.type_list_extend mt_extend (pv 2) (pa_cons
     (pe_lc (own:=[("second",4)]) rfl scJoined.nd (pi_list (pv 1)) (blkOk_by (N:=["ones","others","made","first","second"]) (sc:=defScope sJoined) (by decide +kernel)) (fun s H C cl fp=>pg_name (i:=4) scJoined.nd rfl (Or.inl rfl)) (fun s H C cl fp=>pts_nil)
      (fun s H C cl fp=>pe_op op_or (pv 3) (pv 4))) pa_nil)))))
   (pss_one (ps_ret (pe_callB (cr_sortedSet rfl) rfl T.sorted bo_sorted (pa_cons (pe_callTy (call_set rfl) rfl T.set bo_set (pa_cons (pv 2) pa_nil)) pa_nil))))),?_⟩
  refine⟨Nat.zero_le _,fun mp hmp=>?_⟩
  have s0:Same H (upd H mp (.lst [])):=same_new hmp
  refine⟨_,rfl,a,rfl,⟨_,s0.seq ha⟩,?_⟩
  refine for_list (K:=K) (a:=a) (xs:=natsV as) (fun i σ H'=>∃(v3 v4:Option V),σ=[some (.ref a),some (.ref b),some (.ref mp),v3,v4]∧Same H H'∧H' mp=some (.lst (natsV (joinedL (as.take i) bs))))
   ⟨none,none,rfl,s0,upd_same⟩ (fun i σ H' _ ⟨_,_,_,s2,_⟩=>s2.seq ha) ?_ ?_
  ·rintro i y σ H1 hi ⟨v3,v4,rfl,s1,hm⟩
   obtain⟨t,ht,rfl⟩:∃t,as[i]?=some t∧y=nV t:=by
    unfold natsV at hi
    rw[List.getElem?_map] at hi
    obtain⟨t,h1,h2⟩:=Option.map_eq_some_iff.mp hi
    exact⟨t,h1,h2.symm⟩
   have hil:i<as.length:=(List.getElem?_eq_some_iff.mp ht).1
   have tk:as.take (i+1)=as.take i++[t]:=by rw[List.take_succ,ht];rfl
   have ej:joinedL (as.take (i+1)) bs=joinedL (as.take i) bs++bs.map (fun c=>t|||c):=by
    unfold joinedL
    rw[tk,List.flatMap_append]
    simp
   refine⟨_,rfl,.inl ⟨rfl,_,SqL.of hm⟩,?_⟩
   dsimp only [tCons,tNil]
   refine lcNg (L:=bs) (fun _=>true) (fun c=>nV (t|||c)) (by omega) (by exact tl_var rfl (s1.seq hb)) (fun x H2 R S hx s2 a1 a2=>?_) (fun D H2 s2 hD e2=>?_)
   ·refine⟨rfl,iteT (B:=S H2) ⟨_,rfl,_,rfl,_,_,rfl,rfl,?_⟩⟩
    have:=a1 rfl H2 (Same.refl _)
    show R (V.int (Builtin.bitOr (t:Int) (x:Int))) H2
    rw[bor_nat]
    exact this
   ·rw[filter_true] at e2
    have hm2:=s2 _ _ hm
    refine⟨mp,D,_,_,rfl,rfl,hm2,e2,?_,?_⟩
    ·rw[List.length_map]
     unfold natsV
     rw[List.length_map,joined_len,List.length_take]
     have h1:min i as.length*bs.length≤256*256:=Nat.mul_le_mul (by omega) lb
     have h2:256*256+256≤sizeLine:=by decide
     omega
    ·refine⟨some (nV t),v4,rfl,same_upd (s1.trans s2) hmp,?_⟩
     rw[upd_same,ej]
     unfold natsV
     rw[List.map_append,List.map_map]
     rfl
  ·rintro σ H1 ⟨v3,v4,rfl,s1,hm⟩
   have:as.take (natsV as).length=as:=by unfold natsV;rw[List.length_map,List.take_length]
   rw[this] at hm
   have j8:∀x,x∈joinedL as bs→x<256:=fun x hx=>by
    obtain⟨c,hc,d,hd,rfl⟩:=mem_joinedL.mp hx
    exact or8 (a8 c hc) (b8 d hd)
   refine⟨_,rfl,mp,(joinedL as bs).map (fun (n:Nat)=>(n:Int)),rfl,by rw[←natsV_ints];exact SqL.of hm,fun i=>Nat.le_trans (StW.once_256 j8 i) (by decide),fun p5 hp5=>?_⟩
   refine⟨p5,_,rfl,upd_same,once_fit j8,fun ns' q pm pw hq=>?_⟩
   obtain⟨L,rfl,pw',pm'⟩:=sorted_nats pm pw
   have s5:=same_new (o:=setHO (!StW.byT w) p5 (StW.once ((joinedL as bs).map fun (n:Nat)=>(n:Int)))) hp5
   have s6:=s5.trans (same_new (o:=.lst ((L.map fun (n:Nat)=>(n:Int)).map V.int)) hq)
   exact k _ q L pm' pw' (s1.trans s6) (s1.free (s5.free hq)) (by rw[upd_same,natsV_ints])
def spBeside (C:Addr):Sp:=fun vs H Q _=>∃(a b:Addr) (m k:Bond),vs=[.ref a,.ref b]∧BondAt C H a m∧BondAt C H b k∧Good m∧Good k∧m.n+k.n≤8∧∀(H':Hp) (c:Addr),Same H H'→H c=none→BondAt C H' c (m.beside k)→Q (.ref c) H'
theorem scBeside:FnScope ["one","other","behind","base"] ["one","other"] (defScope sBeside):=⟨rfl,rfl,rfl,by decide +kernel,rfl,by decide +kernel,by decide +kernel⟩
theorem ok_beside {f fI:Addr} {fd fdI:FuncData} (F:Fun K "set_beside" "set_beside" sBeside f fd) (B:BCls K mg C) (M:Mk K C fI) (GI:FnOk P w K mg base CX0 1 fI fdI ["self","things","bases"] (spBInit K C)) (bI:Binds K fdI ["self","things","bases"] [])
  (C1:Callee P w K mg base 1 "joined" ["ones","others"] (spJoined K)):FnOk P w K mg base CX0 3 f fd ["one","other"] (spBeside C):=by
 refine F.ok scBeside (fun vs H Q E h=>?_) (fun cdv A outer s H vs Q E hr h=>?_)
 ·obtain⟨a,b,m,k,rfl,_⟩:=h
  rfl
 ·obtain⟨a,b,m,kk,rfl,⟨dx,l,h1,h2⟩,⟨dy,l',g1,g2⟩,gm,gk,h8,k⟩:=h
  have hr1:Room 1 _:=hr.mono (by decide)
  refine⟨_,pss_cons (ps_setLc (i:=2) (own:=[("base",3)]) rfl scBeside.nd rfl rfl (sw_true rfl rfl rfl rfl) (pi_list (pe_fld (pv 1) rfl)) (blkOk_by (N:=["one","other","behind","base"]) (sc:=defScope sBeside) (by decide +kernel)) (fun s H C cl fp=>pg_name (i:=3) scBeside.nd rfl (Or.inl rfl)) (fun s H C cl fp=>pts_nil)
    (fun s H C cl fp=>pe_op op_shl (pv 3) (pe_fldK (K:=K) (pv 0) rfl rfl)))
   (pss_one (ps_ret (pe_make M GI hr rfl B.mgC bI .nil pass0 (pa_cons (pe_op op_add (pe_fld (pv 0) rfl) (pe_fld (pv 1) rfl)) (pa_cons (pcall C1 hr1 rfl (pa_cons (pe_fld (pv 0) rfl) (pa_cons (pv 2) pa_nil))) pa_nil))))),?_⟩
  have hlm:=bases_len gm
  have hlk:=bases_len gk
  have hn8:=gm.n8
  dsimp only [tSeq,tAsg]
  refine lcNg (L:=kk.bases) (fun _=>true) (fun c=>nV (c*2^m.n)) (by omega) (fun R hR=>⟨_,rfl,b,C,dy,_,_,rfl,g1,B.cl,B.nB,bf_bases _ _,hR H l' (Same.refl _) (SqL.of g2)⟩) (fun x H1 R S hx s1 a1 a2=>?_) (fun D H1 s1 hD e1=>?_)
  ·refine⟨rfl,iteT (B:=S H1) ⟨_,rfl,_,rfl,a,C,dx,_,_,rfl,s1 _ _ h1,B.cl,B.nT,bf_things _ _,_,_,rfl,rfl,⟨by omega,by omega,?_⟩,?_⟩⟩
   ·have:=gk.lt8 hx
    have e2:((2:Int)^8)=256:=by decide
    show _
    first|omega|decide
   ·have:=a1 rfl H1 (Same.refl _)
    have e:((x:Int)*2^((m.n:Int)).toNat)=((x*2^m.n:Nat):Int):=by rw[Int.toNat_natCast];push_cast;rfl
    show R (V.int ((x:Int)*2^((m.n:Int)).toNat)) H1
    rw[e]
    exact this
  ·rw[filter_true] at e1
   have e1':H1 D=some (.lst (natsV (kk.bases.map fun c=>c*2^m.n))):=by rw[e1];unfold natsV;rw[List.map_map];rfl
   have b8:∀x,x∈kk.bases.map (fun c=>c*2^m.n)→x<256:=fun x hx=>by
    obtain⟨c,hc,rfl⟩:=List.mem_map.mp hx
    have h:=gk.lt c hc
    have h3:c*2^m.n<2^kk.n*2^m.n:=Nat.mul_lt_mul_of_pos_right h (Nat.two_pow_pos _)
    rw[←Nat.pow_add] at h3
    exact Nat.lt_of_lt_of_le h3 (pow_le_256 (by omega))
   refine⟨_,rfl,a,C,dx,_,_,rfl,s1 _ _ h1,B.cl,B.nT,bf_things _ _,_,rfl,b,C,dy,_,_,rfl,s1 _ _ g1,B.cl,B.nT,bf_things _ _,_,_,rfl,rfl,?_⟩
   refine⟨_,rfl,a,C,dx,_,_,rfl,s1 _ _ h1,B.cl,B.nB,bf_bases _ _,_,rfl,l,D,m.bases,kk.bases.map (fun c=>c*2^m.n),rfl,SqL.of (s1 _ _ h2),SqL.of e1',hlm,by rw[List.length_map];exact hlk,fun x hx=>gm.lt8 hx,b8,fun H2 p L pm pw s2 hp e2=>?_⟩
   have hL:∀x,x∈L↔x∈(m.beside kk).bases:=fun x=>by rw[pm x,mem_besideJ gm gk]
   have eN:V.int ((m.n:Int)+(kk.n:Int))=nV (m.n+kk.n):=by unfold nV;push_cast;rfl
   dsimp only [tNil]
   rw[eN]
   refine made_bond (n:=m.n+kk.n) (bs:=L) (SqL.of e2) (fun s hs=>?_) fun H' c bs' pm' pw' s3 hc hB=>?_
   ·exact lt256 h8 (mem_tidy.mp ((hL s).mp hs)).1
   ·have e:bs'=(m.beside kk).bases:=rise_ext pw' (tidy_rise _ _) fun x=>by rw[pm' x,hL x]
    rw[e] at hB
    exact k H' c ((s1.trans s2).trans s3) ((s1.trans s2).free hc) hB
def spUnited (C:Addr):Sp:=fun vs H Q _=>∃(a b:Addr) (m k:Bond),vs=[.ref a,.ref b]∧BondAt C H a m∧BondAt C H b k∧Mat m∧Mat k∧m.n=k.n∧∀(H':Hp) (c:Addr),Same H H'→H c=none→BondAt C H' c (m.union k)→Q (.ref c) H'
theorem scUnited:FnScope ["one","other"] ["one","other"] (defScope sUnited):=⟨rfl,rfl,rfl,by decide +kernel,rfl,by decide +kernel,by decide +kernel⟩
theorem ok_united {f:Addr} {fd:FuncData} (F:Fun K "united" "united" sUnited f fd) (B:BCls K mg C) (C1:Callee P w K mg base 1 "joined" ["ones","others"] (spJoined K)) (C2:Callee P w K mg base 3 "bond_of_loose" ["things","loose"] (spOfLooseG K C)) :
  FnOk P w K mg base CX0 4 f fd ["one","other"] (spUnited C):=by
 refine F.ok scUnited (fun vs H Q E h=>?_) (fun cdv A outer s H vs Q E hr h=>?_)
 ·obtain⟨a,b,m,k,rfl,_⟩:=h
  rfl
 ·obtain⟨a,b,m,kk,rfl,⟨dx,l,h1,h2⟩,⟨dy,l',g1,g2⟩,Mm,Mk,hnk,k⟩:=h
  have hr1:Room 1 _:=hr.mono (by decide)
  refine⟨_,pss_one (ps_ret (pcall C2 hr rfl (pa_cons (pe_fld (pv 0) rfl) (pa_cons (pcall C1 hr1 rfl (pa_cons (pe_fld (pv 0) rfl) (pa_cons (pe_fld (pv 1) rfl) pa_nil))) pa_nil)))),?_⟩
  have gm:=Mm.good
  have gk:=Mk.good
  refine⟨_,rfl,a,C,dx,_,_,rfl,h1,B.cl,B.nT,bf_things _ _,?_⟩
  refine⟨_,rfl,a,C,dx,_,_,rfl,h1,B.cl,B.nB,bf_bases _ _,_,rfl,b,C,dy,_,_,rfl,g1,B.cl,B.nB,bf_bases _ _,l,l',m.bases,kk.bases,rfl,SqL.of h2,SqL.of g2,bases_len gm,bases_len gk,fun x hx=>gm.lt8 hx,fun x hx=>gk.lt8 hx,fun H1 p L pm pw s1 hp e1=>?_⟩
  have L8:∀x,x∈L→x<256:=fun x hx=>by
   obtain⟨c,hc,d,hd,rfl⟩:=mem_joinedL.mp ((pm x).mp hx)
   exact or8 (gm.lt8 hc) (gk.lt8 hd)
  have hmo:mostOf L=((joinedL m.bases kk.bases).map size).foldl max 0:=by
   obtain⟨_,u2,u3⟩:=foldl_max_ge ((joinedL m.bases kk.bases).map size) 0
   refine Nat.le_antisymm ?_ ?_
   ·obtain⟨_,v2,v3⟩:=foldl_max_ge (L.map size) 0
    rcases v3 with e|e
    ·show (L.map size).foldl max 0≤_
     rw[e];exact Nat.zero_le _
    ·obtain⟨c,hc,ec⟩:=List.mem_map.mp e
     show (L.map size).foldl max 0≤_
     rw[←ec]
     exact u2 _ (List.mem_map.mpr ⟨c,(pm c).mp hc,rfl⟩)
   ·obtain⟨_,v2,v3⟩:=foldl_max_ge (L.map size) 0
    rcases u3 with e|e
    ·rw[e];exact Nat.zero_le _
    ·obtain⟨c,hc,ec⟩:=List.mem_map.mp e
     rw[←ec]
     exact v2 _ (List.mem_map.mpr ⟨c,(pm c).mpr hc,rfl⟩)
  refine⟨m.n,p,L,rfl,SqL.of e1,fun q=>?_,L8,?_,fun H' c bs pm' pw' s2 hc hB=>?_⟩
  ·obtain⟨c,hc⟩:=List.exists_mem_of_ne_nil _ gm.ne
   obtain⟨d,hd⟩:=List.exists_mem_of_ne_nil _ gk.ne
   have:=(pm _).mpr (mem_joinedL.mpr ⟨c,hc,d,hd,rfl⟩)
   rw[q] at this;cases this
  ·have:=StW.nodup_few 256 L (pw.imp fun h=>Nat.ne_of_lt h) L8
   omega
  ·have e:bs=(m.union kk).bases:=rise_ext pw' (mat_union Mm Mk hnk).good.rise fun x=>by rw[pm' x,mem_unionJ Mm Mk hnk,pm x,hmo]
   rw[e] at hB
   exact k H' c (s1.trans s2) (s1.free hc) hB
def spSame (C:Addr):Sp:=fun vs H Q _=>∃(a b:Addr) (m k:Bond),vs=[.ref a,.ref b]∧BondAt C H a m∧BondAt C H b k∧Q (.bl (decide (m.n=k.n∧m.bases=k.bases))) H
theorem scSame:FnScope ["one","other"] ["one","other"] (defScope sSame):=⟨rfl,rfl,rfl,by decide +kernel,rfl,by decide +kernel,by decide +kernel⟩
theorem ok_same {f:Addr} {fd:FuncData} (F:Fun K "are_same" "are_same" sSame f fd) (B:BCls K mg C):FnOk P w K mg base CX0 1 f fd ["one","other"] (spSame C):=by
 refine F.ok scSame (fun vs H Q E h=>?_) (fun cdv A outer s H vs Q E hr h=>?_)
 ·obtain⟨a,b,m,k,rfl,_⟩:=h
  rfl
 ·obtain⟨a,b,m,kk,rfl,⟨dx,l,h1,h2⟩,⟨dy,l',g1,g2⟩,k⟩:=h
  refine⟨_,pss_one (ps_ret (pe_and (pe_cmpR op_eq (pe_fld (pv 0) rfl) (pe_fld (pv 1) rfl) (nomark _)) (pe_one (pe_cmpR (op_eqD hr.units) (pe_fld (pv 0) rfl) (pe_fld (pv 1) rfl) (nomark _))))),?_⟩
  refine⟨_,rfl,a,C,dx,_,_,rfl,h1,B.cl,B.nT,bf_things _ _,_,rfl,b,C,dy,_,_,rfl,g1,B.cl,B.nT,bf_things _ _,rfl,_,rfl,?_⟩
  rw[dec_nV]
  by_cases hn:m.n=kk.n
  ·rw[beq_iff_eq.mpr hn]
   refine iteT ⟨_,rfl,a,C,dx,_,_,rfl,h1,B.cl,B.nB,bf_bases _ _,_,rfl,b,C,dy,_,_,rfl,g1,B.cl,B.nB,bf_bases _ _,_,_,dp_nats (SqL.of h2),dp_nats (SqL.of g2),nats_shaped _,nats_shaped _,?_⟩
   have e:PyData.eqv (.list (m.bases.map fun (n:Nat)=>PyData.int (n:Int))) (.list (kk.bases.map fun (n:Nat)=>PyData.int (n:Int)))=decide (m.n=kk.n∧m.bases=kk.bases):=by
    rw[show PyData.eqv (.list (m.bases.map fun (n:Nat)=>PyData.int (n:Int))) (.list (kk.bases.map fun (n:Nat)=>PyData.int (n:Int)))=PyData.eqvAll (m.bases.map fun (n:Nat)=>PyData.int (n:Int)) (kk.bases.map fun (n:Nat)=>PyData.int (n:Int)) by simp only [PyData.eqv],eqvAll_nats]
    exact decide_eq_decide.mpr ⟨fun h=>⟨hn,h⟩,fun h=>h.2⟩
   rw[e]
   exact k
  ·rw[beq_eq_false_iff_ne.mpr hn]
   refine iteF ?_
   rw[decide_eq_false (fun q=>hn q.1)] at k
   exact k
def spCommon (C:Addr):Sp:=fun vs H Q _=>∃(a b:Addr) (m k:Bond),vs=[.ref a,.ref b]∧BondAt C H a m∧BondAt C H b k∧Mat m∧Mat k∧m.n=k.n ∧
 ∀(H':Hp) (p:Addr),Same H H'→H p=none→H' p=some (.lst (natsV [size (BindNs.common m k),BindNs.common m k,BindNs.shows m k]))→Q (.ref p) H'
abbrev nsC:List Str:=["one","other","ranks","others","both","most","whole","greatest","showing","s"]
theorem scCommon:FnScope nsC ["one","other"] (defScope sCommon):=⟨rfl,rfl,rfl,by decide +kernel,rfl,by decide +kernel,by decide +kernel⟩
theorem ok_common {f:Addr} {fd:FuncData} (F:Fun K "common_of" "common_of" sCommon f fd) (T:Names mg) (C1:Callee P w K mg base 3 "ranks_of" ["bond"] (spRanks C)) (C2:Callee P w K mg base 2 "size" ["s"] spSize) :
  FnOk P w K mg base CX0 4 f fd ["one","other"] (spCommon C):=by
 refine F.ok scCommon (fun vs H Q E h=>?_) (fun cdv A outer s H vs Q E hr h=>?_)
 ·obtain⟨a,b,m,k,rfl,_⟩:=h
  rfl
 ·obtain⟨a,b,m,kk,rfl,hA,hB,Mm,Mk,hnk,k⟩:=h
  have hr2:Room 2 _:=hr.mono (by decide)
  refine⟨_,pss_cons (ps_set (i:=2) scCommon.nd rfl (Or.inr rfl) (pcall C1 hr rfl (pa_cons (pv 0) pa_nil)))
   (pss_cons (ps_set (i:=3) scCommon.nd rfl (Or.inr rfl) (pcall C1 hr rfl (pa_cons (pv 1) pa_nil)))
   (pss_cons (ps_setLc (i:=4) (own:=[("s",9)]) rfl scCommon.nd rfl rfl (sw_true rfl rfl rfl rfl) (pi_range1 rfl T.range (pa_cons (pe_callB call_len_seq rfl T.len PySem.boot_len (pa_cons (pv 2) pa_nil)) pa_nil)) (blkOk_by (N:=nsC) (sc:=defScope sCommon) (by decide +kernel)) (fun s H C cl fp=>pg_name (i:=9) scCommon.nd rfl (Or.inl rfl))
    (fun s H C cl fp=>pts_one (PW.pt (pw_and (pt_cmpR op_eq (pe_ix (r:=rIxL K) ix_list (pv 2) (pv 9) (fun _ _=>rfl)) (pcall C2 hr2 rfl (pa_cons (pv 9) pa_nil)) (nomark _)) (pw_and1 (pt_cmpR op_eq (pe_ix (r:=rIxL K) ix_list (pv 3) (pv 9) (fun _ _=>rfl)) (pcall C2 hr2 rfl (pa_cons (pv 9) pa_nil)) (nomark _))))))
    (fun s H C cl fp=>pv 9))
   (pss_cons (ps_set (i:=5) scCommon.nd rfl (Or.inr rfl) (pe_callB (cr_max rfl) rfl T.max bo_max (pa_cons (pe_lc (own:=[("s",9)]) rfl scCommon.nd (pi_list (pv 4)) (blkOk_by (N:=nsC) (sc:=defScope sCommon) (by decide +kernel)) (fun s H C cl fp=>pg_name (i:=9) scCommon.nd rfl (Or.inl rfl)) (fun s H C cl fp=>pts_nil)
    (fun s H C cl fp=>pcall C2 hr2 rfl (pa_cons (pv 9) pa_nil))) pa_nil)))
   (pss_cons (ps_set (i:=6) scCommon.nd rfl (Or.inr rfl) (pe_op op_sub (pe_callB call_len_seq rfl T.len PySem.boot_len (pa_cons (pv 2) pa_nil)) pe_int))
   (pss_cons (ps_setLc (i:=7) (own:=[("s",9)]) rfl scCommon.nd rfl rfl (sw_true rfl rfl rfl rfl) (pi_list (pv 4)) (blkOk_by (N:=nsC) (sc:=defScope sCommon) (by decide +kernel)) (fun s H C cl fp=>pg_name (i:=9) scCommon.nd rfl (Or.inl rfl))
    (fun s H C cl fp=>pts_one (pt_cmpR op_eq (pcall C2 hr2 rfl (pa_cons (pv 9) pa_nil)) (pv 5) (nomark _))) (fun s H C cl fp=>pv 9))
   (pss_cons (ps_setLc (i:=8) (own:=[("s",9)]) rfl scCommon.nd rfl rfl (sw_true rfl rfl rfl rfl) (pi_range1 rfl T.range (pa_cons (pe_callB call_len_seq rfl T.len PySem.boot_len (pa_cons (pv 2) pa_nil)) pa_nil)) (blkOk_by (N:=nsC) (sc:=defScope sCommon) (by decide +kernel)) (fun s H C cl fp=>pg_name (i:=9) scCommon.nd rfl (Or.inl rfl))
    (fun s H C cl fp=>pts_one (pt_cmpR op_eq (pe_op op_add (pe_ix (r:=rIxL K) ix_list (pv 2) (pv 9) (fun _ _=>rfl)) (pe_ix (r:=rIxL K) ix_list (pv 3) (pe_op op_xor (pv 6) (pv 9)) (fun _ _=>rfl))) (pv 5) (nomark _))) (fun s H C cl fp=>pv 9))
   (pss_one (ps_ret (pe_lst (pa_cons (pv 5) (pa_cons (pe_ix ix_list (pv 7) pe_int (fun _ _=>rfl)) (pa_cons (pe_ix ix_list (pv 8) pe_int (fun _ _=>rfl)) pa_nil)))))))))))),?_⟩
  have gm:=Mm.good
  have gk:=Mk.good
  have hn8:=gm.n8
  have h256:=pow_le_256 hn8
  obtain⟨f1,f2,f3⟩:=common_first (m:=m) (k:=kk) gm.ne gk.ne
  have f4:=shows_first Mm Mk hnk
  have rl:(natsV (ranksL m)).length=2^m.n:=by unfold natsV ranksL;rw[List.length_map,List.length_map];exact List.length_range
  have rg:∀s,s<2^m.n→(natsV (ranksL m))[s]?=some (nV (m.rank s)):=fun s hs=>by
   unfold natsV ranksL;rw[List.map_map];exact range_get _ hs
  have rg':∀s,s<2^m.n→(natsV (ranksL kk))[s]?=some (nV (kk.rank s)):=fun s hs=>by
   unfold natsV ranksL;rw[List.map_map];exact range_get _ (by rw[←hnk];exact hs)
  refine⟨_,rfl,a,m,rfl,hA,gm,fun H1 p1 s1 hp1 e1=>?_⟩
  refine⟨_,rfl,b,kk,rfl,hB.same s1,gk,fun H2 p2 s2 hp2 e2=>?_⟩
  have e1:=s2 _ _ e1
  dsimp only [gName,tNext,tSeq,tAsg]
  refine lcRg (n:=2^m.n) (fun s=>m.rank s==size s&&kk.rank s==size s) (fun s=>nV s) (by omega) (fun R hR=>?_) (fun x H' R S hx s3 a1 a2=>?_) (fun D3 H3 s3 hD3 e3=>?_)
  ·refine⟨_,rfl,p1,_,rfl,.inl (SqL.of e1),?_⟩
   rw[rl]
   exact hR H2 (Same.refl _)
  ·refine⟨rfl,_,rfl,_,rfl,p1,_,_,_,rfl,rfl,SqL.of (s3 _ _ e1),at_of (j:=x) (v:=nV (m.rank x)) rfl (rg x hx),_,rfl,x,rfl,lt256 hn8 hx,fun H4 s4=>⟨rfl,_,rfl,?_⟩⟩
   rw[dec_nV]
   cases hb1:m.rank x==size x with
   |false=>exact iteF (iteF (a2 (by rw[hb1];rfl) H4 s4))
   |true =>
    refine iteT ⟨_,rfl,_,rfl,p2,_,_,_,rfl,rfl,SqL.of (s4 _ _ (s3 _ _ e2)),at_of (j:=x) (v:=nV (kk.rank x)) rfl (rg' x hx),_,rfl,x,rfl,lt256 hn8 hx,fun H5 s5=>⟨rfl,_,rfl,?_⟩⟩
    rw[dec_nV]
    cases hb2:kk.rank x==size x with
    |false=>exact iteF (a2 (by rw[hb1,hb2];rfl) H5 (s4.trans s5))
    |true=>exact iteT ⟨_,rfl,a1 (by rw[hb1,hb2];rfl) H5 (s4.trans s5)⟩
  ·generalize hL:(sets m.n).filter (fun s=>m.rank s==size s&&kk.rank s==size s)=L at f1 f2 f3
   have e3:H3 D3=some (.lst (natsV L)):=by rw[e3,←hL];rfl
   have L2n:∀s,s∈L→s<2^m.n:=fun s hs=>by rw[←hL] at hs;exact mem_sets.mp (List.mem_filter.mp hs).1
   have Ll:L.length≤256:=by
    rw[←hL]
    refine Nat.le_trans (List.length_filter_le _ _) ?_
    rw[show (sets m.n).length=2^m.n from List.length_range];exact h256
   dsimp only [gName,tNext,tSeq,tAsg,tCB,tCons,tNil]
   refine lcNg (L:=L) (fun _=>true) (fun s=>nV (size s)) (by omega) (by exact tl_var rfl (SqL.of e3)) (fun x H' R S hx s4 a1 a2=>?_) (fun D4 H4 s4 hD4 e4=>?_)
   ·exact⟨rfl,iteT (B:=S H') ⟨_,rfl,x,rfl,lt256 hn8 (L2n x hx),fun H5 s5=>a1 rfl H5 s5⟩⟩
   ·rw[filter_true] at e4
    refine⟨D4,(L.map size).map (fun (n:Nat)=>(n:Int)),rfl,SqL.of (by rw[e4,List.map_map,List.map_map];rfl),?_,fun z hz hle=>?_⟩
    ·rw[List.length_map,List.length_map];exact List.length_pos_iff.mpr f3
    ·rw[nmax hz hle,f1]
     have s34:=s3.trans s4
     refine⟨_,rfl,p1,_,rfl,.inl (SqL.of (s34 _ _ e1)),_,_,rfl,rfl,?_⟩
     have ew:V.int (((natsV (ranksL m)).length:Int)-1)=nV (2^m.n-1):=by
      have:=Nat.two_pow_pos m.n
      rw[rl];unfold nV;congr 1;omega
     dsimp only [gName,tNext,tSeq,tAsg]
     rw[ew]
     refine lcNg (L:=L) (fun s=>size s==size (BindNs.common m kk)) (fun s=>nV s) (by omega) (by exact tl_var rfl (SqL.of (s4 _ _ e3))) (fun x H' R S hx s5 a1 a2=>?_) (fun D5 H5 s5 hD5 e5=>?_)
     ·refine⟨rfl,_,rfl,x,rfl,lt256 hn8 (L2n x hx),fun H6 s6=>⟨_,rfl,rfl,_,rfl,?_⟩⟩
      rw[show decide (nV (size x)=V.int ((size (BindNs.common m kk):Nat):Int))=(size x==size (BindNs.common m kk)) from dec_nV _ _]
      cases hb:size x==size (BindNs.common m kk) with
      |true=>exact iteT ⟨_,rfl,a1 hb H6 s6⟩
      |false=>exact iteF (a2 hb H6 s6)
     ·have s35:=s34.trans s5
      refine lcRg (n:=2^m.n) (fun s=>m.rank s+kk.rank (less (all m.n) s)==size (BindNs.common m kk)) (fun s=>nV s) (by omega) (fun R hR=>?_) (fun x H' R S hx s6 a1 a2=>?_) (fun D6 H6 s6 hD6 e6=>?_)
      ·refine⟨_,rfl,p1,_,rfl,.inl (SqL.of (s35 _ _ e1)),?_⟩
       rw[rl]
       exact hR H5 (Same.refl _)
      ·have ex:Builtin.bitXor ((2^m.n-1:Nat):Int) (x:Int)=((less (all m.n) x:Nat):Int):=by rw[bxor_nat,xor_co hn8 hx]
       refine⟨rfl,_,rfl,_,rfl,p1,_,_,_,rfl,rfl,SqL.of (s6 _ _ (s35 _ _ e1)),at_of (j:=x) (v:=nV (m.rank x)) rfl (rg x hx),_,rfl,_,rfl,_,rfl,_,_,rfl,rfl,p2,_,_,_,rfl,rfl,SqL.of (s6 _ _ (s35 _ _ e2)),at_of (j:=less (all m.n) x) (v:=nV (kk.rank (less (all m.n) x))) ex (rg' _ (co_lt hn8)),_,_,rfl,rfl,_,rfl,rfl,_,rfl,?_⟩
       have ed:decide (V.int ((m.rank x:Int)+(kk.rank (less (all m.n) x):Int))=V.int ((size (BindNs.common m kk):Nat):Int))=(m.rank x+kk.rank (less (all m.n) x)==size (BindNs.common m kk)):=dec_nV _ _
       rw[ed]
       cases hb:m.rank x+kk.rank (less (all m.n) x)==size (BindNs.common m kk) with
       |true=>exact iteT ⟨_,rfl,a1 hb H' (Same.refl _)⟩
       |false=>exact iteF (a2 hb H' (Same.refl _))
      ·have g7:∀l c,l[0]?=some c→(natsV l)[0]?=some (nV c):=fun l c h=>by unfold natsV;rw[List.getElem?_map,h];rfl
       refine⟨_,rfl,_,rfl,D5,_,_,_,rfl,rfl,SqL.of (s6 _ _ e5),at_of (j:=0) (v:=nV (BindNs.common m kk)) rfl (g7 _ _ f2),_,rfl,D6,_,_,_,rfl,rfl,SqL.of e6,at_of (j:=0) (v:=nV (BindNs.shows m kk)) rfl (g7 _ _ f4),by show 3≤sizeLine;decide,fun p hp=>?_⟩
       have s16:=((s1.trans s2).trans s35).trans s6
       exact k _ p (s16.trans (same_new hp)) (s16.free hp) upd_same
abbrev sBest:Stmt:=top 57
abbrev scBestO:Scope:=lcScope (asgVal ((defBody sBest).getD 0 (.Pass ⟨0,0,0,0⟩)))
def spBest (K:PySem.W.Frag) (C:Addr):Sp:=fun vs H Q _=>∃(a b:Addr) (m:Bond) (ws:List Int),vs=[.ref a,.ref b]∧BondAt C H a m∧Good m∧SqL K H b (intsV ws)∧ws.length=m.n ∧
 ∀(H':Hp) (p:Addr),Same H H'→H p=none→H' p=some (.lst (intsV [((m.best ws:Nat):Int),BindNs.worth ws (m.best ws)]))→Q (.ref p) H'
theorem scBest:FnScope ["bond","weights","worths","most","base","thing"] ["bond","weights"] (defScope sBest):=⟨rfl,rfl,rfl,by decide +kernel,rfl,by decide +kernel,by decide +kernel⟩
theorem ok_best {f:Addr} {fd:FuncData} (F:Fun K "best_of" "best_of" sBest f fd) (T:Names mg) (B:BCls K mg C) (hS:mg "sum"=none) (bo_sum:bootBuiltins "sum"=some (.builtin "sum")) (C1:Callee P w K mg base 1 "members" ["s"] spMembers):FnOk P w K mg base CX0 2 f fd ["bond","weights"] (spBest K C):=by
 refine F.ok scBest (fun vs H Q E h=>?_) (fun cdv A outer s H vs Q E hr h=>?_)
 ·obtain⟨a,b,m,ws,rfl,_⟩:=h
  rfl
 ·obtain⟨a,b,m,ws,rfl,⟨dx,l,h1,h2⟩,g,hw,hwl,k⟩:=h
  refine⟨_,pss_cons (ps_setLc (i:=2) (own:=[("base",4)]) rfl scBest.nd rfl rfl (sw_true rfl rfl rfl rfl) (pi_list (pe_fld (pv 0) rfl)) (blkOk_by (N:=["bond","weights","worths","most","base","thing"]) (sc:=defScope sBest) (by decide +kernel)) (fun s H C cl fp=>pg_name (i:=4) scBest.nd rfl (Or.inl rfl)) (fun s H C cl fp=>pts_nil)
    (fun s H C cl fp=>pe_callB (r:=rSum K) (cr_sum rfl) rfl hS bo_sum (pa_cons (pe_lc (own:=[("thing",5)]) rfl scBest.nd (pi_listK (K:=K) rfl (pcall C1 hr rfl (pa_cons (pv 4) pa_nil))) (blkOk_by (N:=["bond","weights","worths","most","base","thing"]) (sc:=relS scBestO (defScope sBest)) (by decide +kernel)) (fun s H C cl fp=>pg_name (i:=5) scBest.nd rfl (Or.inl rfl)) (fun s H C cl fp=>pts_nil)
     (fun s H C cl fp=>pe_ix (r:=rIxL K) ix_list (pv 1) (pv 5) (fun _ _=>rfl))) pa_nil)))
   (pss_cons (ps_set (i:=3) scBest.nd rfl (Or.inl rfl) (pe_callB (cr_max rfl) rfl T.max bo_max (pa_cons (pv 2) pa_nil)))
   (pss_one (ps_ret (pe_lst (pa_cons (pe_ix ix_list (pe_fld (pv 0) rfl) (pe_bm PySem.F.plainAttrs_list PySem.F.slot_list_index PySem.F.type_list_index mt_index (pv 2) (pa_cons (pv 3) pa_nil)) (fun _ _=>rfl)) (pa_cons (pv 3) pa_nil)))))),?_⟩
  have hlen:=bases_len g
  have hn8:=g.n8
  dsimp only [tSeq,tAsg]
  refine lcNg (L:=m.bases) (fun _=>true) (fun c=>V.int (BindNs.worth ws c)) (by omega) (fun R hR=>⟨_,rfl,a,C,dx,_,_,rfl,h1,B.cl,B.nB,bf_bases _ _,hR H l (Same.refl _) (SqL.of h2)⟩) (fun x H1 R S hx s1 a1 a2=>?_) (fun D H1 s1 hD e1=>?_)
  ·refine⟨rfl,?_⟩
   have xlt:=g.lt x hx
   dsimp only [tYes,tCB,tCons,tNil]
   rw[if_pos rfl]
   refine lcNg (L:=things x) (fun _=>true) (fun i=>V.int (ws.getD i 0)) (Nat.le_trans (things_len x) (by decide)) (fun R hR=>⟨_,rfl,x,rfl,g.lt8 hx,fun H3 p3 s3 _ e=>hR H3 p3 s3 (SqL.of e)⟩) (fun i H3 R S hi s3 b1 b2=>?_) (fun D3 H3 s3 hD3 e3=>?_)
   ·have hin:=bit_in xlt (mem_things.mp hi).2
    refine⟨rfl,iteT (B:=S H3) ⟨_,rfl,_,rfl,b,_,_,_,rfl,rfl,(s1.trans s3).seq hw,at_of (j:=i) (v:=V.int (ws.getD i 0)) rfl ?_,b1 rfl H3 (Same.refl _)⟩⟩
    unfold intsV
    rw[List.getElem?_map,List.getElem?_eq_getElem (by omega),List.getD_eq_getElem?_getD,List.getElem?_eq_getElem (by omega)];rfl
   ·rw[filter_true] at e3
    refine⟨D3,(things x).map (fun i=>ws.getD i 0),rfl,SqL.of (by rw[e3,List.map_map];rfl),?_⟩
    rw[worth_sum]
    exact a1 rfl H3 s3
  ·rw[filter_true] at e1
   obtain⟨j,j1,j2,j3⟩:=best_at g.ne ws
   generalize hbest:m.best ws=best at *
   have e1':H1 D=some (.lst ((m.bases.map (BindNs.worth ws)).map V.int)):=by rw[e1,List.map_map];rfl
   refine⟨_,rfl,D,m.bases.map (BindNs.worth ws),rfl,SqL.of e1',by rw[List.length_map];exact List.length_pos_iff.mpr g.ne,fun z hz hle=>?_⟩
   have hz':z=BindNs.worth ws best:=by
    obtain⟨c,hc,rfl⟩:=List.mem_map.mp hz
    have:=j2 c hc
    have:=hle _ (List.mem_map.mpr ⟨best,List.mem_of_getElem? j1,rfl⟩)
    omega
   subst hz'
   refine⟨_,rfl,a,C,dx,_,_,rfl,s1 _ _ h1,B.cl,B.nB,bf_bases _ _,_,rfl,.inl ⟨rfl,_,SqL.of e1'⟩,_,rfl,D,_,_,j,V.int (BindNs.worth ws best),rfl,rfl,SqL.of e1',rfl,?_,?_,?_,?_,?_⟩
   ·rw[List.all_eq_true]
    intro v hv
    obtain⟨c,_,rfl⟩:=List.mem_map.mp hv
    rfl
   ·rw[List.getElem?_map,List.getElem?_map,j1];rfl
   ·show (BindNs.worth ws best==BindNs.worth ws best)=true
    exact beq_self_eq_true _
   ·intro i z' hi hz2
    rw[List.getElem?_map,List.getElem?_map] at hz2
    obtain⟨u,hu,rfl⟩:=Option.map_eq_some_iff.mp hz2
    obtain⟨c,hc,rfl⟩:=Option.map_eq_some_iff.mp hu
    have:=j3 i c hi hc
    show (BindNs.worth ws c==BindNs.worth ws best)=false
    rw[beq_eq_false_iff_ne]
    omega
   ·refine⟨l,_,_,_,rfl,rfl,SqL.of (s1 _ _ h2),at_of (j:=j) (v:=nV best) rfl (by unfold natsV;rw[List.getElem?_map,j1];rfl),_,rfl,by show 2≤sizeLine;decide,fun p hp=>?_⟩
    exact k _ p (s1.trans (same_new hp)) (s1.free hp) upd_same
abbrev sNumber:Stmt:=top 39
abbrev sPowers:Stmt:=top 40
theorem lcZg {K:PySem.W.Frag} {xs ys:List Int} {ta:TA} {g:TG} {tt:TT} {te:TE} {vs:List Nat} {σ:L2.St} {H:Hp} {Q:VK} (f:Nat→V) (hn:ys.length≤100000) (hxy:ys.length≤xs.length)
  (hta:∀R:List V→Hp→Prop,(∀H1 a b,Same H H1→SqL K H1 a (intsV xs)→SqL K H1 b (intsV ys)→R [.ref a,.ref b] H1)→ta σ H R)
  (hs:∀i T H' (R:V→Hp→Prop) (S:Hp→Prop),i<ys.length→Same H H'→H' T=some (.tup [.int (xs.getD i 0),.int (ys.getD i 0)])→(∀H4,Same H' H4→R (f i) H4) →
   g (.ref T) (wipe σ vs) H' fun σ2 H2=>wipe σ2 vs=wipe σ vs∧tt σ2 H2 fun b H3=>if b=true then te σ2 H3 R else S H3)
  (hd:∀D H',Same H H'→H D=none→H' D=some (.lst ((List.range ys.length).map f))→Q (.ref D) H'):tLc (iZip K ta) g tt te vs σ H Q:=by
 refine hta _ fun H1 a b s1 ha hb=>⟨a,b,_,_,rfl,ha,hb,fun D hD=>?_⟩
 have il:∀l:List Int,(intsV l).length=l.length:=fun l=>by unfold intsV;rw[List.length_map]
 have ig:∀(l:List Int) (i:Nat),i<l.length→(intsV l)[i]?=some (.int (l.getD i 0)):=fun l i h=>by
  unfold intsV;rw[List.getElem?_map,List.getElem?_eq_getElem h,List.getD_eq_getElem?_getD,List.getElem?_eq_getElem h];rfl
 refine⟨fun i m H'=>m=ys.length-i∧i≤ys.length∧Same H1 H'∧H' D=some (.lst ((List.range i).map f)),⟨ys.length,by simp,Nat.zero_le _,same_new hD,upd_same⟩,?_⟩
 rintro i m H' ⟨rfl,hi,s2,e2⟩
 by_cases hlt:i<ys.length
 ·have g1:=ig xs i (by omega)
  have g2:=ig ys i hlt
  refine .inr ⟨⟨intsV xs,intsV ys,_,_,s2.seq ha,s2.seq hb,g1,g2⟩,fun H''=>Same H1 H''∧H'' D=some (.lst ((List.range (i+1)).map f)),fun H'' p'=>⟨ys.length-(i+1),by omega,rfl,hlt,p'⟩,fun x H'' y=>?_⟩
  obtain⟨T,x',y',rfl,hT,rfl,hx,hy⟩:=y
  have hx':V.int (xs.getD i 0)=x':=Option.some.inj (g1.symm.trans (hx _ (s2.seq ha)))
  have hy':V.int (ys.getD i 0)=y':=Option.some.inj (g2.symm.trans (hy _ (s2.seq hb)))
  subst hx' hy'
  have s3:=s2.trans (same_new (o:=.tup [V.int (xs.getD i 0),V.int (ys.getD i 0)]) hT)
  have e3:=(same_new (o:=.tup [V.int (xs.getD i 0),V.int (ys.getD i 0)]) hT) _ _ e2
  refine hs i T _ _ _ hlt (s1.trans s3) upd_same (fun H4 s4=>⟨_,s4 _ _ e3,?_,same_upd (s3.trans s4) hD,?_⟩)
  ·have h2:(100000:Nat)<sizeLine:=by decide
   rw[List.length_map,List.length_range];omega
  ·rw[upd_same,List.range_succ,List.map_append];rfl
 ·have e:i=ys.length:=by omega
  subst e
  exact .inl ⟨⟨intsV xs,intsV ys,s2.seq ha,s2.seq hb,.inr (by rw[il];exact Nat.le_refl _)⟩,hd D H' (s1.trans s2) (s1.free hD) e2⟩
theorem for_enum {K:PySem.W.Frag} {a:Addr} {xs:List V} {g:TG} {tb:TS} {D:Ends} {σ:L2.St} {H:Hp} (Pv:Nat→L2.St→Hp→Prop) (h0:Pv 0 σ H) (hl:∀i σ H,i≤xs.length→Pv i σ H→SqL K H a xs)
  (hs:∀i x σ H T,xs[i]?=some x→Pv i σ H→H T=none→g (.ref T) σ (upd H T (.tup [.int (i:Nat),x])) fun σ2 H2=>tb {D with nx:=Pv (i+1),ct:=Pv (i+1),bk:=D.nx} σ2 H2) (hd:∀σ H,Pv xs.length σ H→D.nx σ H) :
  ∃W:Nat→Nat→L2.St→Hp→Prop,(∃m,W 0 m σ H)∧∀i m σ H,W i m σ H →
   ((Ite K a).stop i H∧D.nx σ H)∨((Ite K a).go i H∧∃N:L2.St→Hp→Prop,(∀σ' H',N σ' H'→∃m',m'<m∧W (i+1) m' σ' H')∧∀x H',(Ite K a).yld i H x H'→g x σ H' fun σ2 H2=>tb {D with nx:=N,ct:=N,bk:=D.nx} σ2 H2):=by
 refine⟨fun i m σ H=>m=xs.length-i∧i≤xs.length∧Pv i σ H,⟨xs.length,by simp,Nat.zero_le _,h0⟩,?_⟩
 rintro i m σ H ⟨rfl,hi,p⟩
 have q:=hl i σ H hi p
 by_cases hlt:i<xs.length
 ·refine .inr ⟨⟨xs,xs[i],q,by simp [hlt]⟩,Pv (i+1),fun σ' H' p'=>⟨xs.length-(i+1),by omega,rfl,hlt,p'⟩,fun x H' y=>?_⟩
  obtain⟨T,x',rfl,hT,rfl,hx⟩:=y
  exact hs i x' σ H T (hx xs q) p hT
 ·have e:i=xs.length:=by omega
  subst e
  exact .inl ⟨⟨xs,q,Nat.le_refl _⟩,hd σ H p⟩
theorem ints_ne_refs {rs:List Addr} {l:List Int} (h:rs≠[]):¬HO.lst (intsV l)=HO.lst (rs.map V.ref):=fun q=>by
 injection q with q
 cases rs with
 |nil=>exact h rfl
 |cons a r =>
  cases l with
  |nil=>cases q
  |cons x l=>injection q with q1 _;cases q1
def spPowers:Sp:=fun vs H Q _=>vs=[]∧∀(H':Hp) (p:Addr) (rs:List Addr),Same H H'→rs.length=9→H' p=some (.lst (rs.map V.ref))→(∀(j:Nat) (r:Addr),rs[j]?=some r→H' r=some (.lst (intsV (powRow j))))→Q (.ref p) H'
theorem scPowers:FnScope ["row","rows","power","before","here"] [] (defScope sPowers):=⟨rfl,rfl,rfl,by decide +kernel,rfl,by decide +kernel,by decide +kernel⟩
theorem ok_powers {f:Addr} {fd:FuncData} (F:Fun K "powers_less_one" "powers_less_one" sPowers f fd) (T:Names mg) (hX:∃t,mg "MOST_EXPONENT"=some (.int 8 t)) (hZ:mg "zip"=none):FnOk P w K mg base CX0 1 f fd [] spPowers:=by
 obtain⟨tx,hX⟩:=hX
 refine F.ok scPowers (fun vs H Q E h=>?_) (fun cdv A outer s H vs Q E hr h=>?_)
 ·obtain⟨rfl,_⟩:=h
  rfl
 ·obtain⟨rfl,k⟩:=h
  refine⟨_,pss_cons (ps_set (i:=0) scPowers.nd rfl (Or.inl rfl) (pe_op op_cat (pe_lst (pa_cons pe_int pa_nil)) (pe_op op_rep (pe_lst (pa_cons pe_int pa_nil)) (pe_glob (v:=.int 8) rfl hX ⟨tx,rfl⟩))))
   (pss_cons (ps_set (i:=1) scPowers.nd rfl (Or.inl rfl) (pe_lst (pa_cons (pv 0) pa_nil)))
   (pss_cons (ps_for PassesOwn.never rfl (pi_range1 rfl T.range (pa_cons (pe_glob (v:=.int 8) rfl hX ⟨tx,rfl⟩) pa_nil)) (pg_name (i:=2) scPowers.nd rfl (Or.inl rfl))
    (pss_cons (ps_setLc (i:=0) (own:=[("before",3),("here",4)]) rfl scPowers.nd rfl rfl (sw_true rfl rfl rfl rfl) (pi_zip rfl hZ (pa_cons (pe_op op_cat (pe_lst (pa_cons pe_int pa_nil)) (pv 0)) (pa_cons (pv 0) pa_nil))) (blkOk_by (N:=["row","rows","power","before","here"]) (sc:=defScope sPowers) (by decide +kernel))
     (fun s H C cl fp=>pg_tupK (K:=K) (n:=2) (pgs_cons (pg_name (i:=3) scPowers.nd rfl (Or.inl rfl)) (pgs_cons (pg_name (i:=4) scPowers.nd rfl (Or.inl rfl)) pgs_nil)) rfl rfl) (fun s H C cl fp=>pts_nil) (fun s H C cl fp=>pe_op op_sub (pv 3) (pv 4)))
    (pss_one (ps_expr (pe_bm PySem.F.plainAttrs_list PySem.F.slot_list_append PySem.F.type_list_append mt_append (pv 1) (pa_cons (pv 0) pa_nil))))))
   (pss_one (ps_ret (pv 1))))),?_⟩
  refine⟨by show 1≤sizeLine;decide,fun q1 hq1=>⟨by show 1≤sizeLine;decide,fun q2 hq2=>?_⟩⟩
  have t1:=same_new (o:=.lst [V.int 1]) hq1
  have t2:=same_new (o:=.lst [V.int 0]) hq2
  refine⟨q2,(8:Int),_,rfl,rfl,upd_same,by decide,by decide,by show 1*8≤sizeLine;decide,fun q3 hq3=>?_⟩
  have t3:=same_new (o:=.lst (List.replicate (8:Int).toNat [V.int 0]).flatten) hq3
  refine⟨q1,q3,_,_,rfl,rfl,t3 _ _ (t2 _ _ upd_same),upd_same,by show 1+8≤sizeLine;decide,fun q4 hq4=>?_⟩
  have t4:=same_new (o:=.lst ([V.int 1]++(List.replicate (8:Int).toNat [V.int 0]).flatten)) hq4
  have s4:=((t1.trans t2).trans t3).trans t4
  generalize hH4:upd (upd (upd (upd H q1 (.lst [V.int 1])) q2 (.lst [V.int 0])) q3 (.lst (List.replicate (8:Int).toNat [V.int 0]).flatten)) q4 (.lst ([V.int 1]++(List.replicate (8:Int).toNat [V.int 0]).flatten))=H4 at s4
  have e4:H4 q4=some (.lst (intsV (powRow 0))):=by rw[←hH4,upd_same];rfl
  refine⟨_,rfl,by show 1≤sizeLine;decide,fun R hR=>?_⟩
  have hRH:H R=none:=s4.free hR
  have t5:=same_new (o:=.lst [V.ref q4]) hR
  refine⟨(8:Int),rfl,by decide,by decide,?_⟩
  refine for_range (lo:=0) (n:=8) (fun i σ H'=>∃(rs:List Addr) (r:Addr) (v2 v3 v4:Option V),σ=[some (.ref r),some (.ref R),v2,v3,v4]∧rs.length=i+1∧rs[i]?=some r∧Same H H'∧H' R=some (.lst (rs.map V.ref))∧∀(j:Nat) (a:Addr),rs[j]?=some a→H' a=some (.lst (intsV (powRow j))))
   ⟨[q4],q4,none,none,none,rfl,rfl,rfl,s4.trans t5,upd_same,fun j a hj=>?_⟩ ?_ ?_
  ·cases j with
   |zero =>
    have:q4=a:=Option.some.inj hj
    subst this
    exact t5 _ _ e4
   |succ j=>simp at hj
  ·rintro i σ H1 hi ⟨rs,r,v2,v3,v4,rfl,hrl,hri,s1,hR1,hrs⟩
   have hrow:=hrs i r hri
   have pl:=powRow_len i (by omega)
   dsimp only [gName,tSeq,tAsg]
   refine lcZg (K:=K) (xs:=0::powRow i) (ys:=powRow i) (fun j=>V.int ((0::powRow i).getD j 0-(powRow i).getD j 0)) (by omega) (by rw[List.length_cons];omega) (fun R' hR'=>?_) (fun j T' H2 R' S hj s2 hT a1=>?_) (fun D H2 s2 hD e2=>?_)
   ·refine⟨by show 1≤sizeLine;decide,fun z1 hz1=>?_⟩
    have u1:=same_new (o:=.lst [V.int 0]) hz1
    refine⟨_,rfl,z1,r,_,_,rfl,rfl,upd_same,u1 _ _ hrow,?_,fun z2 hz2=>?_⟩
    ·unfold intsV;rw[List.length_map,pl];decide
    ·have u2:=same_new (o:=.lst ([V.int 0]++intsV (powRow i))) hz2
     exact⟨_,rfl,hR' _ z2 r (u1.trans u2) (SqL.of (by rw[upd_same];rfl)) (SqL.of (u2 _ _ (u1 _ _ hrow)))⟩
   ·refine⟨T',_,rfl,SqT.of hT,rfl,_,_,rfl,_,_,rfl,rfl,rfl,iteT (B:=S H2) ⟨_,rfl,_,rfl,_,_,rfl,rfl,a1 H2 (Same.refl _)⟩⟩
   ·have hR2:=s2 _ _ hR1
    have eD:H2 D=some (.lst (intsV (powRow (i+1)))):=by
     rw[e2,pl,show powRow (i+1)=(List.range 9).map fun j=>(0::powRow i).getD j 0-(powRow i).getD j 0 from rfl]
     unfold intsV
     rw[List.map_map]
     rfl
    refine⟨_,rfl,.inl ⟨rfl,_,SqL.of hR2⟩,_,rfl,R,_,_,rfl,rfl,hR2,?_,?_⟩
    ·rw[List.length_map,hrl]
     have:(20:Nat)<sizeLine:=by decide
     omega
    ·refine⟨rs++[D],D,_,_,_,rfl,by rw[List.length_append,hrl];rfl,by rw[List.getElem?_append_right (by omega),hrl,Nat.sub_self];rfl,same_upd (s1.trans s2) hRH,by rw[upd_same,List.map_append];rfl,fun j a hj=>?_⟩
     have hne:rs≠[]:=fun q=>by rw[q] at hrl;cases hrl
     by_cases hjl:j<rs.length
     ·rw[List.getElem?_append_left hjl] at hj
      have h3:=s2 _ _ (hrs j a hj)
      rw[upd_ne (ne_of h3 hR2 (ints_ne_refs hne))]
      exact h3
     ·rw[List.getElem?_append_right (by omega)] at hj
      have hj1:j=i+1:=by
       have:=(List.getElem?_eq_some_iff.mp hj).1
       rw[List.length_singleton] at this
       omega
      subst hj1
      rw[hrl,Nat.sub_self] at hj
      have:D=a:=Option.some.inj hj
      subst this
      rw[upd_ne (ne_of eD hR2 (ints_ne_refs hne))]
      exact eD
  ·rintro σ H1 ⟨rs,r,v2,v3,v4,rfl,hrl,hri,s1,hR1,hrs⟩
   exact⟨_,rfl,k H1 R rs s1 hrl hR1 hrs⟩
def spNumber (C:Addr):Sp:=fun vs H Q _=>∃(a:Addr) (m:Bond) (i j:Nat),vs=[.ref a,nV i,nV j]∧BondAt C H a m∧Good m∧i≤8∧j≤8∧∀H':Hp,Same H H'→Q (.int (m.number i j)) H'
theorem scNumber:FnScope ["bond","i","j","powers","ranks","whole","total","s","rank"] ["bond","i","j"] (defScope sNumber):=⟨rfl,rfl,rfl,by decide +kernel,rfl,by decide +kernel,by decide +kernel⟩
theorem ok_number {f:Addr} {fd:FuncData} (F:Fun K "number_at" "number_at" sNumber f fd) (hE:mg "enumerate"=none) (C0:Callee P w K mg base 1 "powers_less_one" [] spPowers) (C1:Callee P w K mg base 3 "ranks_of" ["bond"] (spRanks C)) (C2:Callee P w K mg base 2 "size" ["s"] spSize) :
  FnOk P w K mg base CX0 4 f fd ["bond","i","j"] (spNumber C):=by
 obtain⟨fP,fdP,gP,mP,kP,bP⟩:=C0.ex
 refine F.ok scNumber (fun vs H Q E h=>?_) (fun cdv A outer s H vs Q E hr h=>?_)
 ·obtain⟨a,m,i,j,rfl,_⟩:=h
  rfl
 ·obtain⟨a,m,ii,jj,rfl,hB,g,hi8,hj8,k⟩:=h
  have hr1:Room 1 _:=hr.mono (by decide)
  have hr2:Room 2 _:=hr.mono (by decide)
  refine⟨_,pss_cons (ps_set (i:=3) scNumber.nd rfl (Or.inl rfl) (pe_call0 gP hr1 rfl mP kP bP .nil pass0))
   (pss_cons (ps_set (i:=4) scNumber.nd rfl (Or.inl rfl) (pcall C1 hr rfl (pa_cons (pv 0) pa_nil)))
   (pss_cons (ps_set (i:=5) scNumber.nd rfl (Or.inl rfl) (pe_ix ix_list (pv 4) (pe_un un_neg pe_int) (fun _ _=>rfl)))
   (pss_cons (ps_set (i:=6) scNumber.nd rfl (Or.inl rfl) pe_int)
   (pss_cons (ps_for PassesOwn.never rfl (pi_enum rfl hE (pa_cons (pv 4) pa_nil)) (pg_tup rfl (pgs_cons (pg_name (i:=7) scNumber.nd rfl (Or.inl rfl)) (pgs_cons (pg_name (i:=8) scNumber.nd rfl (Or.inl rfl)) pgs_nil)))
    (pss_one (ps_aug (i:=6) scNumber.nd rfl (Or.inl rfl) (pe_op op_mul
     (pe_ix ix_list (pe_ix ix_list (pv 3) (pe_op op_sub (pv 5) (pv 8)) (fun _ _=>rfl)) (pv 1) (fun _ _=>rfl))
     (pe_ix ix_list (pe_ix ix_list (pv 3) (pe_op op_sub (pcall C2 hr2 rfl (pa_cons (pv 7) pa_nil)) (pv 8)) (fun _ _=>rfl)) (pv 2) (fun _ _=>rfl))) ip_add)))
   (pss_one (ps_ret (pv 6))))))),?_⟩
  have hn8:=g.n8
  have h256:=pow_le_256 hn8
  have hp:=Nat.two_pow_pos m.n
  have w8:=whole_8 g
  refine⟨rfl,fun H1 p rs s1 hrl hP1 hrs=>?_⟩
  refine⟨_,rfl,a,m,rfl,hB.same s1,g,fun H2 q s2 hq e2=>?_⟩
  have rl:(natsV (ranksL m)).length=2^m.n:=by unfold natsV ranksL;rw[List.length_map,List.length_map];exact List.length_range
  have rg:∀s,s<2^m.n→(natsV (ranksL m))[s]?=some (nV (m.rank s)):=fun s hs=>by
   unfold natsV ranksL;rw[List.map_map];exact range_get _ hs
  have hlast:atI (natsV (ranksL m)) (-1)=some (nV m.whole):=by
   unfold atI ixN
   rw[rl,if_neg (by decide),if_pos (by omega)]
   show (natsV (ranksL m))[((-1:Int)+((2^m.n:Nat):Int)).toNat]?=_
   have hN:∀N:Nat,0<N→((-1:Int)+(N:Int)).toNat=N-1:=fun N h=>by omega
   rw[hN _ hp,rg _ (Nat.sub_lt hp Nat.one_pos)]
   rfl
  have hP2:=s2 _ _ hP1
  have rowAt:∀(t:Nat),t≤8→∃r,atI (rs.map V.ref) (t:Int)=some (V.ref r)∧H2 r=some (.lst (intsV (powRow t))):=fun t ht=>by
   have hg:rs[t]?=some rs[t]:=List.getElem?_eq_getElem (by omega)
   exact⟨rs[t],at_of (j:=t) rfl (by rw[List.getElem?_map,hg];rfl),s2 _ _ (hrs t _ hg)⟩
  have cellAt:∀(t i:Nat),t≤8→i≤8→atI (intsV (powRow t)) (i:Int)=some (V.int ((powRow t).getD i 0)):=fun t i ht hi=>by
   have hl:=powRow_len t ht
   refine at_of (j:=i) rfl ?_
   unfold intsV
   rw[List.getElem?_map,List.getElem?_eq_getElem (by omega),List.getD_eq_getElem?_getD,List.getElem?_eq_getElem (by omega)];rfl
  refine⟨_,rfl,_,rfl,q,_,_,_,rfl,rfl,SqL.of e2,hlast,?_⟩
  refine⟨_,rfl,q,_,rfl,SqL.of e2,?_⟩
  refine for_enum (K:=K) (a:=q) (xs:=natsV (ranksL m)) (fun n σ H'=>∃(v7 v8:Option V),σ=[some (.ref a),some (nV ii),some (nV jj),some (.ref p),some (.ref q),some (nV m.whole),some (.int (numTo m ii jj n)),v7,v8]∧Same H2 H')
   ⟨none,none,rfl,Same.refl _⟩ (fun n σ H' _ ⟨_,_,_,s3⟩=>SqL.of (s3 _ _ e2)) ?_ ?_
  ·rintro n y σ H3 T' hn ⟨v7,v8,rfl,s3⟩ hT
   have hnl:n<2^m.n:=by rw[←rl];exact (List.getElem?_eq_some_iff.mp hn).1
   rw[rg n hnl] at hn
   have hn:nV (m.rank n)=y:=Option.some.inj hn
   subst hn
   have s4:=s3.trans (same_new (o:=.tup [.int (n:Nat),nV (m.rank n)]) hT)
   have r1:=rank_le_whole g n
   have r2:=rank_le_size g.ne n
   have r3:=size_le_8 n
   obtain⟨ra,ha1,ha2⟩:=rowAt (m.whole-m.rank n) (by omega)
   obtain⟨rb,hb1,hb2⟩:=rowAt (size n-m.rank n) (by omega)
   have ea:((m.whole:Int)-(m.rank n:Int))=((m.whole-m.rank n:Nat):Int):=by omega
   have eb:((size n:Int)-(m.rank n:Int))=((size n-m.rank n:Nat):Int):=by omega
   obtain⟨b1,b2⟩:=powRow_small (m.whole-m.rank n) (by omega) ii hi8
   refine⟨T',_,rfl,SqT.of upd_same,rfl,_,_,rfl,_,_,rfl,rfl,?_⟩
   refine⟨_,rfl,_,rfl,_,rfl,_,rfl,_,_,rfl,rfl,p,_,_,_,rfl,rfl,SqL.of (s4 _ _ hP2),(by rw[ea];exact ha1),_,rfl,ra,_,_,_,rfl,rfl,SqL.of (s4 _ _ ha2),cellAt _ ii (by omega) hi8,?_⟩
   refine⟨_,rfl,_,rfl,n,rfl,lt256 hn8 hnl,fun H5 s5=>?_⟩
   refine⟨_,rfl,_,_,rfl,rfl,p,_,_,_,rfl,rfl,SqL.of (s5 _ _ (s4 _ _ hP2)),(by rw[eb];exact hb1),_,rfl,rb,_,_,_,rfl,rfl,SqL.of (s5 _ _ (s4 _ _ hb2)),cellAt _ jj (by omega) hj8,?_⟩
   refine⟨_,_,rfl,rfl,.inl ⟨by omega,by omega⟩,_,_,rfl,rfl,?_⟩
   refine⟨some (nV n),some (nV (m.rank n)),?_,s4.trans s5⟩
   have e:numTo m ii jj (n+1)=numTo m ii jj n+(powRow (m.whole-m.rank n)).getD ii 0*(powRow (size n-m.rank n)).getD jj 0:=by
    unfold numTo
    rw[List.range_succ,List.foldl_append]
    rfl
   rw[e]
   rfl
  ·rintro σ H3 ⟨v7,v8,rfl,s3⟩
   rw[rl]
   refine⟨_,rfl,?_⟩
   rw[num_is g hi8 hj8]
   exact k H3 ((s1.trans s2).trans s3)
abbrev sDualC:Stmt:=top 76
abbrev sDropC:Stmt:=top 77
abbrev sPinchC:Stmt:=top 78
abbrev sCut:Stmt:=top 79
abbrev sBesideC:Stmt:=top 80
abbrev sUnionC:Stmt:=top 81
abbrev sSameC:Stmt:=top 82
abbrev sCommonC:Stmt:=top 83
abbrev sBestC:Stmt:=top 84
abbrev sNumberC:Stmt:=top 85
theorem pl2_out {st:List Bond} {k j:Nat} {r:BindNs.State×BindNs.Answer} (h:¬(k<4∧j<4)):BindNs.ofPlace st k (BindNs.ofPlace st j r)=(st,BindNs.says (-2)):=by
 by_cases h1:k<4
 ·rw[place_in h1,place_out (fun q=>h ⟨h1,q⟩)]
 ·rw[place_out h1]
theorem pl3_out {st:List Bond} {k h j:Nat} {r:BindNs.State×BindNs.Answer} (hh:¬(k<4∧h<4∧j<4)):BindNs.ofPlace st k (BindNs.ofPlace st h (BindNs.ofPlace st j r))=(st,BindNs.says (-2)):=by
 by_cases h1:k<4
 ·rw[place_in h1,pl2_out (fun q=>hh ⟨h1,q⟩)]
 ·rw[place_out h1]
theorem scDualC:FnScope ["places","feed","k","j"] ["places","feed"] (defScope sDualC):=⟨rfl,rfl,rfl,by decide +kernel,rfl,by decide +kernel,by decide +kernel⟩
theorem ok_dualC {f fT fR:Addr} {fd fdT fdR:FuncData} (F:Fun K "call_dual" "call_dual" sDualC f fd) (hC:C≠CF) (M:FMeth P w K mg base CF fT fR fdT fdR) (N:Consts mg) (C1:Callee P w K mg base 3 "dual_of" ["bond"] (spDual C)) (C2:Callee P w K mg base 5 "put" ["places","k","bond"] (spPut C CF)) :
  FnOk P w K mg base CX0 6 f fd ["places","feed"] (spCall K C CF 9):=by
 obtain⟨tp,hP⟩:=N.places
 obtain⟨tw,hW⟩:=N.wrong
 refine F.ok scDualC (fun vs H Q E h=>?_) (fun cdv A outer s H vs Q E hr h=>?_)
 ·obtain⟨pl,f,a,st,ns,i,c,t,x,rfl,_⟩:=h
  rfl
 ·obtain⟨pl,ff,a,st,ns,i,c,t,x,rfl,O,hi,hfl,hco,hask,k⟩:=h
  have hr1:Room 1 _:=hr.mono (by decide)
  have hr3:Room 3 _:=hr.mono (by decide)
  refine⟨_,(pss_cons (ps_set (i:=2) scDualC.nd rfl (Or.inl rfl) (pe_meth0 (pv 1) M.cl.cl M.mT M.gT hr1 M.bT .nil pass0))
   (pss_cons (ps_set (i:=3) scDualC.nd rfl (Or.inl rfl) (pe_meth0 (pv 1) M.cl.cl M.mT M.gT hr1 M.bT .nil pass0))
   (pss_cons (ps_if (PW.pt (pw_or (pt_cmpR op_ge (pv 2) (pe_glob (v:=.int 4) rfl hP ⟨tp,rfl⟩) (nomark _)) (pw_or1 (pt_cmpR op_ge (pv 3) (pe_glob (v:=.int 4) rfl hP ⟨tp,rfl⟩) (nomark _))))) (pss_one (ps_ret (pe_lst (pa_cons (pe_glob (v:=.int (-2)) rfl hW ⟨tw,rfl⟩) pa_nil)))) pss_nil)
   (pss_one (ps_ret (pcall C2 hr rfl (pa_cons (pv 0) (pa_cons (pv 3) (pa_cons (pcall C1 hr3 rfl (pa_cons (pe_ix ix_list (pv 0) (pv 2) (fun _ _=>rfl)) pa_nil)) pa_nil))))))))),?_⟩
  obtain⟨h1,rfl,rfl⟩:=flat_n (n:=2) rfl hfl
  obtain⟨z,y,hz,hzi,hyi⟩:=nums2 h1
  rw[hz] at hco hask
  have hx:x=.dual z.toNat y.toNat:=(Option.some.inj hco).symm
  have hask:(BiNeutral.natural z 32&&BiNeutral.natural y 32)=true:=hask
  rw[Bool.and_eq_true] at hask
  obtain⟨kk,rfl,hkk⟩:=nat_of hask.1
  obtain⟨jj,rfl,hjj⟩:=nat_of hask.2
  rw[hkk,hjj] at hx
  subst hx
  rw[end_n' hi h1] at k
  refine rd_take (pl:=pl) (a:=a) (st:=st) (ns:=ns) (i:=i) hC rfl O hzi fun H1 O1 K1 f1=>?_
  refine rd_take (pl:=pl) (a:=a) (st:=st) (ns:=ns) (i:=i+1) hC rfl O1 hyi fun H2 O2 K2 f2=>?_
  have Kx:=(K1.trans K2)
  have fx:=(f1.trans f2)
  have out:∀H5 v,Same H2 H5→BindNs.step st (.dual kk jj)=(st,BindNs.says v)→∀p,H5 p=none→Q (.ref p) (upd H5 p (.lst [V.int v])):=fun H5 v s5 hst p hp=>by
   rw[hst] at k
   have s6:=s5.trans (same_new (o:=.lst [V.int v]) hp)
   exact k _ p (O2.same s6) (Kx.trans (Keep.of_same s6)) (fx p (s5.free hp)) upd_same
  have hout:¬(kk<4∧jj<4)→BindNs.step st (.dual kk jj)=(st,BindNs.says (-2)):=fun h=>pl2_out h
  refine⟨_,rfl,_,_,rfl,rfl,_,rfl,?_⟩
  by_cases hkk4:kk<4
  ·rw[decide_eq_false (by show ¬((kk:Int)≥4);omega)]
   refine iteF ?_
   refine⟨_,rfl,_,_,rfl,rfl,_,rfl,?_⟩
   by_cases hjj4:jj<4
   ·rw[decide_eq_false (by show ¬((jj:Int)≥4);omega)]
    refine iteF ?_
    obtain⟨as,b,m,q1,q2,q3,q4,q5,q6⟩:=O2.pl.at_ hkk4
    have hst:BindNs.step st (.dual kk jj)=(st.set jj m.dual,BindNs.told m.dual):=by
     show BindNs.ofPlace st kk (BindNs.ofPlace st jj (BindNs.puts st jj (BindNs.at_ st kk).dual))=_
     rw[place_in hkk4,place_in hjj4,q3];rfl
    rw[hst] at k
    refine⟨_,rfl,_,rfl,_,rfl,_,rfl,pl,_,_,_,rfl,rfl,SqL.of q1,q2,b,m,rfl,q5,q6.good,fun H3 c s3 hc hB=>?_⟩
    obtain⟨dxf,hff⟩:=(O2.same s3).fd
    refine⟨pl,c,ff,dxf,_,jj,st,_,rfl,(O2.same s3).pl,hff,hjj4,hB,mat_dual q6,fun H5 p hp5 kp5 hp e5=>?_⟩
    obtain⟨O5,K5⟩:=(O2.same s3).put hp5 kp5
    exact k H5 p O5 ((Kx.trans (Keep.of_same s3)).trans K5) (fx p (s3.free hp)) e5
   ·rw[decide_eq_true (by show ((jj:Int)≥4);omega)]
    refine iteT ⟨by show 1≤sizeLine;decide,out H2 (-2) (Same.refl _) ?_⟩
    exact hout (by omega)
  ·rw[decide_eq_true (by show ((kk:Int)≥4);omega)]
   refine iteT (iteT ⟨by show 1≤sizeLine;decide,out H2 (-2) (Same.refl _) ?_⟩)
   exact hout (by omega)
theorem scSameC:FnScope ["places","feed","k","h"] ["places","feed"] (defScope sSameC):=⟨rfl,rfl,rfl,by decide +kernel,rfl,by decide +kernel,by decide +kernel⟩
theorem ok_sameC {f fT fR:Addr} {fd fdT fdR:FuncData} (F:Fun K "call_same" "call_same" sSameC f fd) (hC:C≠CF) (M:FMeth P w K mg base CF fT fR fdT fdR) (N:Consts mg) (C1:Callee P w K mg base 1 "are_same" ["one","other"] (spSame C)) :
  FnOk P w K mg base CX0 6 f fd ["places","feed"] (spCall K C CF 14):=by
 obtain⟨tp,hP⟩:=N.places
 obtain⟨tw,hW⟩:=N.wrong
 refine F.ok scSameC (fun vs H Q E h=>?_) (fun cdv A outer s H vs Q E hr h=>?_)
 ·obtain⟨pl,f,a,st,ns,i,c,t,x,rfl,_⟩:=h
  rfl
 ·obtain⟨pl,ff,a,st,ns,i,c,t,x,rfl,O,hi,hfl,hco,hask,k⟩:=h
  have hr1:Room 1 _:=hr.mono (by decide)
  refine⟨_,(pss_cons (ps_set (i:=2) scSameC.nd rfl (Or.inl rfl) (pe_meth0 (pv 1) M.cl.cl M.mT M.gT hr1 M.bT .nil pass0))
   (pss_cons (ps_set (i:=3) scSameC.nd rfl (Or.inl rfl) (pe_meth0 (pv 1) M.cl.cl M.mT M.gT hr1 M.bT .nil pass0))
   (pss_cons (ps_if (PW.pt (pw_or (pt_cmpR op_ge (pv 2) (pe_glob (v:=.int 4) rfl hP ⟨tp,rfl⟩) (nomark _)) (pw_or1 (pt_cmpR op_ge (pv 3) (pe_glob (v:=.int 4) rfl hP ⟨tp,rfl⟩) (nomark _))))) (pss_one (ps_ret (pe_lst (pa_cons (pe_glob (v:=.int (-2)) rfl hW ⟨tw,rfl⟩) pa_nil)))) pss_nil)
   (pss_one (ps_ret (pe_lst (pa_cons (pe_ifExp (pt_val (pcall C1 hr1 rfl (pa_cons (pe_ix ix_list (pv 0) (pv 2) (fun _ _=>rfl)) (pa_cons (pe_ix ix_list (pv 0) (pv 3) (fun _ _=>rfl)) pa_nil)))) pe_int pe_int) pa_nil))))))),?_⟩
  obtain⟨h1,rfl,rfl⟩:=flat_n (n:=2) rfl hfl
  obtain⟨z,y,hz,hzi,hyi⟩:=nums2 h1
  rw[hz] at hco hask
  have hx:x=.same z.toNat y.toNat:=(Option.some.inj hco).symm
  have hask:(BiNeutral.natural z 32&&BiNeutral.natural y 32)=true:=hask
  rw[Bool.and_eq_true] at hask
  obtain⟨kk,rfl,hkk⟩:=nat_of hask.1
  obtain⟨jj,rfl,hjj⟩:=nat_of hask.2
  rw[hkk,hjj] at hx
  subst hx
  rw[end_n' hi h1] at k
  refine rd_take (pl:=pl) (a:=a) (st:=st) (ns:=ns) (i:=i) hC rfl O hzi fun H1 O1 K1 f1=>?_
  refine rd_take (pl:=pl) (a:=a) (st:=st) (ns:=ns) (i:=i+1) hC rfl O1 hyi fun H2 O2 K2 f2=>?_
  have Kx:=(K1.trans K2)
  have fx:=(f1.trans f2)
  have out:∀H5 v,Same H2 H5→BindNs.step st (.same kk jj)=(st,BindNs.says v)→∀p,H5 p=none→Q (.ref p) (upd H5 p (.lst [V.int v])):=fun H5 v s5 hst p hp=>by
   rw[hst] at k
   have s6:=s5.trans (same_new (o:=.lst [V.int v]) hp)
   exact k _ p (O2.same s6) (Kx.trans (Keep.of_same s6)) (fx p (s5.free hp)) upd_same
  have hout:¬(kk<4∧jj<4)→BindNs.step st (.same kk jj)=(st,BindNs.says (-2)):=fun h=>pl2_out h
  refine⟨_,rfl,_,_,rfl,rfl,_,rfl,?_⟩
  by_cases hkk4:kk<4
  ·rw[decide_eq_false (by show ¬((kk:Int)≥4);omega)]
   refine iteF ?_
   refine⟨_,rfl,_,_,rfl,rfl,_,rfl,?_⟩
   by_cases hjj4:jj<4
   ·rw[decide_eq_false (by show ¬((jj:Int)≥4);omega)]
    refine iteF ?_
    obtain⟨as,b,m,q1,q2,q3,q4,q5,q6⟩:=O2.pl.at_ hkk4
    obtain⟨as',b',m',r1,r2,r3,r4,r5,r6⟩:=O2.pl.at_ hjj4
    have hst:BindNs.step st (.same kk jj)=(st,BindNs.nats [if m.n=m'.n∧m.bases=m'.bases then 1 else 0]):=by
     show BindNs.ofPlace st kk (BindNs.ofPlace st jj (st,BindNs.nats [if (BindNs.at_ st kk).n=(BindNs.at_ st jj).n∧(BindNs.at_ st kk).bases=(BindNs.at_ st jj).bases then 1 else 0]))=_
     rw[place_in hkk4,place_in hjj4,q3,r3]
    rw[hst] at k
    refine⟨_,rfl,_,rfl,pl,_,_,_,rfl,rfl,SqL.of q1,q2,_,rfl,_,rfl,pl,_,_,_,rfl,rfl,SqL.of r1,r2,b,b',m,m',rfl,q5,r5,_,rfl,?_⟩
    by_cases he:m.n=m'.n∧m.bases=m'.bases
    ·rw[decide_eq_true he]
     rw[if_pos he] at k
     refine iteT ⟨by show 1≤sizeLine;decide,fun p hp=>?_⟩
     exact k _ p (O2.same (same_new hp)) (Kx.trans (Keep.of_same (same_new hp))) (fx p hp) upd_same
    ·rw[decide_eq_false he]
     rw[if_neg he] at k
     refine iteF ⟨by show 1≤sizeLine;decide,fun p hp=>?_⟩
     exact k _ p (O2.same (same_new hp)) (Kx.trans (Keep.of_same (same_new hp))) (fx p hp) upd_same
   ·rw[decide_eq_true (by show ((jj:Int)≥4);omega)]
    refine iteT ⟨by show 1≤sizeLine;decide,out H2 (-2) (Same.refl _) ?_⟩
    exact hout (by omega)
  ·rw[decide_eq_true (by show ((kk:Int)≥4);omega)]
   refine iteT (iteT ⟨by show 1≤sizeLine;decide,out H2 (-2) (Same.refl _) ?_⟩)
   exact hout (by omega)
theorem scCommonC:FnScope ["places","feed","k","h"] ["places","feed"] (defScope sCommonC):=⟨rfl,rfl,rfl,by decide +kernel,rfl,by decide +kernel,by decide +kernel⟩
theorem ok_commonC {f fT fR:Addr} {fd fdT fdR:FuncData} (F:Fun K "call_common" "call_common" sCommonC f fd) (hC:C≠CF) (M:FMeth P w K mg base CF fT fR fdT fdR) (N:Consts mg) (B:BCls K mg C) (C1:Callee P w K mg base 4 "common_of" ["one","other"] (spCommon C)) :
  FnOk P w K mg base CX0 6 f fd ["places","feed"] (spCall K C CF 15):=by
 obtain⟨tp,hP⟩:=N.places
 obtain⟨tw,hW⟩:=N.wrong
 obtain⟨tu,hU⟩:=N.unfit
 refine F.ok scCommonC (fun vs H Q E h=>?_) (fun cdv A outer s H vs Q E hr h=>?_)
 ·obtain⟨pl,f,a,st,ns,i,c,t,x,rfl,_⟩:=h
  rfl
 ·obtain⟨pl,ff,a,st,ns,i,c,t,x,rfl,O,hi,hfl,hco,hask,k⟩:=h
  have hr1:Room 1 _:=hr.mono (by decide)
  have hr4:Room 4 _:=hr.mono (by decide)
  refine⟨_,(pss_cons (ps_set (i:=2) scCommonC.nd rfl (Or.inl rfl) (pe_meth0 (pv 1) M.cl.cl M.mT M.gT hr1 M.bT .nil pass0))
   (pss_cons (ps_set (i:=3) scCommonC.nd rfl (Or.inl rfl) (pe_meth0 (pv 1) M.cl.cl M.mT M.gT hr1 M.bT .nil pass0))
   (pss_cons (ps_if (PW.pt (pw_or (pt_cmpR op_ge (pv 2) (pe_glob (v:=.int 4) rfl hP ⟨tp,rfl⟩) (nomark _)) (pw_or1 (pt_cmpR op_ge (pv 3) (pe_glob (v:=.int 4) rfl hP ⟨tp,rfl⟩) (nomark _))))) (pss_one (ps_ret (pe_lst (pa_cons (pe_glob (v:=.int (-2)) rfl hW ⟨tw,rfl⟩) pa_nil)))) pss_nil)
   (pss_cons (ps_if (pt_cmpR op_ne (pe_fld (pe_ix ix_list (pv 0) (pv 2) (fun _ _=>rfl)) rfl) (pe_fld (pe_ix ix_list (pv 0) (pv 3) (fun _ _=>rfl)) rfl) (nomark _)) (pss_one (ps_ret (pe_lst (pa_cons (pe_glob (v:=.int (-3)) rfl hU ⟨tu,rfl⟩) pa_nil)))) pss_nil)
   (pss_one (ps_ret (pcall C1 hr4 rfl (pa_cons (pe_ix ix_list (pv 0) (pv 2) (fun _ _=>rfl)) (pa_cons (pe_ix ix_list (pv 0) (pv 3) (fun _ _=>rfl)) pa_nil))))))))),?_⟩
  obtain⟨h1,rfl,rfl⟩:=flat_n (n:=2) rfl hfl
  obtain⟨z,y,hz,hzi,hyi⟩:=nums2 h1
  rw[hz] at hco hask
  have hx:x=.common z.toNat y.toNat:=(Option.some.inj hco).symm
  have hask:(BiNeutral.natural z 32&&BiNeutral.natural y 32)=true:=hask
  rw[Bool.and_eq_true] at hask
  obtain⟨kk,rfl,hkk⟩:=nat_of hask.1
  obtain⟨jj,rfl,hjj⟩:=nat_of hask.2
  rw[hkk,hjj] at hx
  subst hx
  rw[end_n' hi h1] at k
  refine rd_take (pl:=pl) (a:=a) (st:=st) (ns:=ns) (i:=i) hC rfl O hzi fun H1 O1 K1 f1=>?_
  refine rd_take (pl:=pl) (a:=a) (st:=st) (ns:=ns) (i:=i+1) hC rfl O1 hyi fun H2 O2 K2 f2=>?_
  have Kx:=(K1.trans K2)
  have fx:=(f1.trans f2)
  have out:∀H5 v,Same H2 H5→BindNs.step st (.common kk jj)=(st,BindNs.says v)→∀p,H5 p=none→Q (.ref p) (upd H5 p (.lst [V.int v])):=fun H5 v s5 hst p hp=>by
   rw[hst] at k
   have s6:=s5.trans (same_new (o:=.lst [V.int v]) hp)
   exact k _ p (O2.same s6) (Kx.trans (Keep.of_same s6)) (fx p (s5.free hp)) upd_same
  have hout:¬(kk<4∧jj<4)→BindNs.step st (.common kk jj)=(st,BindNs.says (-2)):=fun h=>pl2_out h
  refine⟨_,rfl,_,_,rfl,rfl,_,rfl,?_⟩
  by_cases hkk4:kk<4
  ·rw[decide_eq_false (by show ¬((kk:Int)≥4);omega)]
   refine iteF ?_
   refine⟨_,rfl,_,_,rfl,rfl,_,rfl,?_⟩
   by_cases hjj4:jj<4
   ·rw[decide_eq_false (by show ¬((jj:Int)≥4);omega)]
    refine iteF ?_
    obtain⟨as,b,m,q1,q2,q3,q4,q5,q6⟩:=O2.pl.at_ hkk4
    obtain⟨as',b',m',r1,r2,r3,r4,r5,r6⟩:=O2.pl.at_ hjj4
    have q5':=q5
    have r5':=r5
    obtain⟨dx,l,b1,b2⟩:=q5'
    obtain⟨dy,l',c1,c2⟩:=r5'
    have hstep:BindNs.step st (.common kk jj)=if m.n≠m'.n then (st,BindNs.says (-3)) else (st,BindNs.nats [size (BindNs.common m m'),BindNs.common m m',BindNs.shows m m']):=by
     show BindNs.ofPlace st kk (BindNs.ofPlace st jj (if (BindNs.at_ st kk).n≠(BindNs.at_ st jj).n then _ else (st,BindNs.nats [size (BindNs.common (BindNs.at_ st kk) (BindNs.at_ st jj)),BindNs.common (BindNs.at_ st kk) (BindNs.at_ st jj),BindNs.shows (BindNs.at_ st kk) (BindNs.at_ st jj)])))=_
     rw[place_in hkk4,place_in hjj4,q3,r3]
    refine⟨_,rfl,_,rfl,pl,_,_,_,rfl,rfl,SqL.of q1,q2,b,C,dx,_,_,rfl,b1,B.cl,B.nT,bf_things _ _,_,rfl,_,rfl,pl,_,_,_,rfl,rfl,SqL.of r1,r2,b',C,dy,_,_,rfl,c1,B.cl,B.nT,bf_things _ _,rfl,_,rfl,?_⟩
    rw[dec_nV]
    by_cases he:m.n=m'.n
    ·rw[beq_iff_eq.mpr he]
     rw[hstep,if_neg (fun q=>q he)] at k
     refine iteF ⟨_,rfl,_,rfl,pl,_,_,_,rfl,rfl,SqL.of q1,q2,_,rfl,_,rfl,pl,_,_,_,rfl,rfl,SqL.of r1,r2,b,b',m,m',rfl,q5,r5,q6,r6,he,fun H3 p s3 hp e3=>?_⟩
     exact k H3 p (O2.same s3) (Kx.trans (Keep.of_same s3)) (fx p hp) (by rw[e3];unfold natsV intsV BindNs.nats;rw[List.map_map];rfl)
    ·rw[beq_eq_false_iff_ne.mpr he]
     refine iteT ⟨by show 1≤sizeLine;decide,out H2 (-3) (Same.refl _) ?_⟩
     rw[hstep,if_pos he]
   ·rw[decide_eq_true (by show ((jj:Int)≥4);omega)]
    refine iteT ⟨by show 1≤sizeLine;decide,out H2 (-2) (Same.refl _) ?_⟩
    exact hout (by omega)
  ·rw[decide_eq_true (by show ((kk:Int)≥4);omega)]
   refine iteT (iteT ⟨by show 1≤sizeLine;decide,out H2 (-2) (Same.refl _) ?_⟩)
   exact hout (by omega)
theorem scBesideC:FnScope ["places","feed","k","h","j"] ["places","feed"] (defScope sBesideC):=⟨rfl,rfl,rfl,by decide +kernel,rfl,by decide +kernel,by decide +kernel⟩
theorem ok_besideC {f fT fR:Addr} {fd fdT fdR:FuncData} (F:Fun K "call_beside" "call_beside" sBesideC f fd) (hC:C≠CF) (M:FMeth P w K mg base CF fT fR fdT fdR) (N:Consts mg) (B:BCls K mg C) (C1:Callee P w K mg base 3 "set_beside" ["one","other"] (spBeside C)) (C2:Callee P w K mg base 5 "put" ["places","k","bond"] (spPut C CF)) :
  FnOk P w K mg base CX0 6 f fd ["places","feed"] (spCall K C CF 12):=by
 obtain⟨tp,hP⟩:=N.places
 obtain⟨tw,hW⟩:=N.wrong
 obtain⟨tu,hU⟩:=N.unfit
 obtain⟨tm,hM⟩:=N.most
 refine F.ok scBesideC (fun vs H Q E h=>?_) (fun cdv A outer s H vs Q E hr h=>?_)
 ·obtain⟨pl,f,a,st,ns,i,c,t,x,rfl,_⟩:=h
  rfl
 ·obtain⟨pl,ff,a,st,ns,i,c,t,x,rfl,O,hi,hfl,hco,hask,k⟩:=h
  have hr1:Room 1 _:=hr.mono (by decide)
  have hr3:Room 3 _:=hr.mono (by decide)
  refine⟨_,(pss_cons (ps_set (i:=2) scBesideC.nd rfl (Or.inl rfl) (pe_meth0 (pv 1) M.cl.cl M.mT M.gT hr1 M.bT .nil pass0))
   (pss_cons (ps_set (i:=3) scBesideC.nd rfl (Or.inl rfl) (pe_meth0 (pv 1) M.cl.cl M.mT M.gT hr1 M.bT .nil pass0))
   (pss_cons (ps_set (i:=4) scBesideC.nd rfl (Or.inl rfl) (pe_meth0 (pv 1) M.cl.cl M.mT M.gT hr1 M.bT .nil pass0))
   (pss_cons (ps_if (PW.pt (pw_or (pt_cmpR op_ge (pv 2) (pe_glob (v:=.int 4) rfl hP ⟨tp,rfl⟩) (nomark _)) (pw_or (pt_cmpR op_ge (pv 3) (pe_glob (v:=.int 4) rfl hP ⟨tp,rfl⟩) (nomark _)) (pw_or1 (pt_cmpR op_ge (pv 4) (pe_glob (v:=.int 4) rfl hP ⟨tp,rfl⟩) (nomark _)))))) (pss_one (ps_ret (pe_lst (pa_cons (pe_glob (v:=.int (-2)) rfl hW ⟨tw,rfl⟩) pa_nil)))) pss_nil)
   (pss_cons (ps_if (pt_cmpR op_gt (pe_op op_add (pe_fld (pe_ix ix_list (pv 0) (pv 2) (fun _ _=>rfl)) rfl) (pe_fld (pe_ix ix_list (pv 0) (pv 3) (fun _ _=>rfl)) rfl)) (pe_glob (v:=.int 8) rfl hM ⟨tm,rfl⟩) (nomark _)) (pss_one (ps_ret (pe_lst (pa_cons (pe_glob (v:=.int (-3)) rfl hU ⟨tu,rfl⟩) pa_nil)))) pss_nil)
   (pss_one (ps_ret (pcall C2 hr rfl (pa_cons (pv 0) (pa_cons (pv 4) (pa_cons (pcall C1 hr3 rfl (pa_cons (pe_ix ix_list (pv 0) (pv 2) (fun _ _=>rfl)) (pa_cons (pe_ix ix_list (pv 0) (pv 3) (fun _ _=>rfl)) pa_nil))) pa_nil))))))))))),?_⟩
  obtain⟨h1,rfl,rfl⟩:=flat_n (n:=3) rfl hfl
  obtain⟨z,y,v,hz,hzi,hyi,hvi⟩:=nums3 h1
  rw[hz] at hco hask
  have hx:x=.beside z.toNat y.toNat v.toNat:=(Option.some.inj hco).symm
  have hask:(BiNeutral.natural z 32&&BiNeutral.natural y 32&&BiNeutral.natural v 32)=true:=hask
  rw[Bool.and_eq_true,Bool.and_eq_true] at hask
  obtain⟨kk,rfl,hkk⟩:=nat_of hask.1.1
  obtain⟨hh,rfl,hhh⟩:=nat_of hask.1.2
  obtain⟨jj,rfl,hjj⟩:=nat_of hask.2
  rw[hkk,hhh,hjj] at hx
  subst hx
  rw[end_n' hi h1] at k
  refine rd_take (pl:=pl) (a:=a) (st:=st) (ns:=ns) (i:=i) hC rfl O hzi fun H1 O1 K1 f1=>?_
  refine rd_take (pl:=pl) (a:=a) (st:=st) (ns:=ns) (i:=i+1) hC rfl O1 hyi fun H2 O2 K2 f2=>?_
  refine rd_take (pl:=pl) (a:=a) (st:=st) (ns:=ns) (i:=i+2) hC rfl O2 hvi fun H3 O3 K3 f3=>?_
  have Kx:=((K1.trans K2).trans K3)
  have fx:=((f1.trans f2).trans f3)
  have out:∀H5 v,Same H3 H5→BindNs.step st (.beside kk hh jj)=(st,BindNs.says v)→∀p,H5 p=none→Q (.ref p) (upd H5 p (.lst [V.int v])):=fun H5 v s5 hst p hp=>by
   rw[hst] at k
   have s6:=s5.trans (same_new (o:=.lst [V.int v]) hp)
   exact k _ p (O3.same s6) (Kx.trans (Keep.of_same s6)) (fx p (s5.free hp)) upd_same
  have hout:¬(kk<4∧hh<4∧jj<4)→BindNs.step st (.beside kk hh jj)=(st,BindNs.says (-2)):=fun h=>pl3_out h
  refine⟨_,rfl,_,_,rfl,rfl,_,rfl,?_⟩
  by_cases hkk4:kk<4
  ·rw[decide_eq_false (by show ¬((kk:Int)≥4);omega)]
   refine iteF ?_
   refine⟨_,rfl,_,_,rfl,rfl,_,rfl,?_⟩
   by_cases hhh4:hh<4
   ·rw[decide_eq_false (by show ¬((hh:Int)≥4);omega)]
    refine iteF ?_
    refine⟨_,rfl,_,_,rfl,rfl,_,rfl,?_⟩
    by_cases hjj4:jj<4
    ·rw[decide_eq_false (by show ¬((jj:Int)≥4);omega)]
     refine iteF ?_
     obtain⟨as,b,m,q1,q2,q3,q4,q5,q6⟩:=O3.pl.at_ hkk4
     obtain⟨as',b',m',r1,r2,r3,r4,r5,r6⟩:=O3.pl.at_ hhh4
     have q5':=q5
     have r5':=r5
     obtain⟨dx,l,b1,b2⟩:=q5'
     obtain⟨dy,l',c1,c2⟩:=r5'
     have hstep:BindNs.step st (.beside kk hh jj)=if BindNs.THINGS<m.n+m'.n then (st,BindNs.says (-3)) else (st.set jj (m.beside m'),BindNs.told (m.beside m')):=by
      show BindNs.ofPlace st kk (BindNs.ofPlace st hh (BindNs.ofPlace st jj (if BindNs.THINGS<(BindNs.at_ st kk).n+(BindNs.at_ st hh).n then _ else BindNs.puts st jj ((BindNs.at_ st kk).beside (BindNs.at_ st hh)))))=_
      rw[place_in hkk4,place_in hhh4,place_in hjj4,q3,r3];rfl
     refine⟨_,rfl,_,rfl,pl,_,_,_,rfl,rfl,SqL.of q1,q2,b,C,dx,_,_,rfl,b1,B.cl,B.nT,bf_things _ _,_,rfl,_,rfl,pl,_,_,_,rfl,rfl,SqL.of r1,r2,b',C,dy,_,_,rfl,c1,B.cl,B.nT,bf_things _ _,_,_,rfl,rfl,_,_,rfl,rfl,_,rfl,?_⟩
     by_cases he:m.n+m'.n≤8
     ·rw[decide_eq_false (by show ¬((m.n:Int)+(m'.n:Int)>8);omega)]
      rw[hstep,if_neg (by show ¬8<m.n+m'.n;omega)] at k
      refine iteF ⟨_,rfl,_,rfl,_,rfl,_,rfl,pl,_,_,_,rfl,rfl,SqL.of q1,q2,_,rfl,_,rfl,pl,_,_,_,rfl,rfl,SqL.of r1,r2,b,b',m,m',rfl,q5,r5,q6.good,r6.good,he,fun H4 c s4 hc hB=>?_⟩
      obtain⟨dxf,hff⟩:=(O3.same s4).fd
      refine⟨pl,c,ff,dxf,_,jj,st,_,rfl,(O3.same s4).pl,hff,hjj4,hB,mat_beside q6 r6 he,fun H5 p hp5 kp5 hp e5=>?_⟩
      obtain⟨O5,K5⟩:=(O3.same s4).put hp5 kp5
      exact k H5 p O5 ((Kx.trans (Keep.of_same s4)).trans K5) (fx p (s4.free hp)) e5
     ·rw[decide_eq_true (by show ((m.n:Int)+(m'.n:Int)>8);omega)]
      refine iteT ⟨by show 1≤sizeLine;decide,out H3 (-3) (Same.refl _) ?_⟩
      rw[hstep,if_pos (by show 8<m.n+m'.n;omega)]
    ·rw[decide_eq_true (by show ((jj:Int)≥4);omega)]
     refine iteT ⟨by show 1≤sizeLine;decide,out H3 (-2) (Same.refl _) ?_⟩
     exact hout (by omega)
   ·rw[decide_eq_true (by show ((hh:Int)≥4);omega)]
    refine iteT (iteT ⟨by show 1≤sizeLine;decide,out H3 (-2) (Same.refl _) ?_⟩)
    exact hout (by omega)
  ·rw[decide_eq_true (by show ((kk:Int)≥4);omega)]
   refine iteT (iteT ⟨by show 1≤sizeLine;decide,out H3 (-2) (Same.refl _) ?_⟩)
   exact hout (by omega)
theorem scUnionC:FnScope ["places","feed","k","h","j"] ["places","feed"] (defScope sUnionC):=⟨rfl,rfl,rfl,by decide +kernel,rfl,by decide +kernel,by decide +kernel⟩
theorem ok_unionC {f fT fR:Addr} {fd fdT fdR:FuncData} (F:Fun K "call_union" "call_union" sUnionC f fd) (hC:C≠CF) (M:FMeth P w K mg base CF fT fR fdT fdR) (N:Consts mg) (B:BCls K mg C) (C1:Callee P w K mg base 4 "united" ["one","other"] (spUnited C)) (C2:Callee P w K mg base 5 "put" ["places","k","bond"] (spPut C CF)) :
  FnOk P w K mg base CX0 6 f fd ["places","feed"] (spCall K C CF 13):=by
 obtain⟨tp,hP⟩:=N.places
 obtain⟨tw,hW⟩:=N.wrong
 obtain⟨tu,hU⟩:=N.unfit
 refine F.ok scUnionC (fun vs H Q E h=>?_) (fun cdv A outer s H vs Q E hr h=>?_)
 ·obtain⟨pl,f,a,st,ns,i,c,t,x,rfl,_⟩:=h
  rfl
 ·obtain⟨pl,ff,a,st,ns,i,c,t,x,rfl,O,hi,hfl,hco,hask,k⟩:=h
  have hr1:Room 1 _:=hr.mono (by decide)
  have hr4:Room 4 _:=hr.mono (by decide)
  refine⟨_,(pss_cons (ps_set (i:=2) scUnionC.nd rfl (Or.inl rfl) (pe_meth0 (pv 1) M.cl.cl M.mT M.gT hr1 M.bT .nil pass0))
   (pss_cons (ps_set (i:=3) scUnionC.nd rfl (Or.inl rfl) (pe_meth0 (pv 1) M.cl.cl M.mT M.gT hr1 M.bT .nil pass0))
   (pss_cons (ps_set (i:=4) scUnionC.nd rfl (Or.inl rfl) (pe_meth0 (pv 1) M.cl.cl M.mT M.gT hr1 M.bT .nil pass0))
   (pss_cons (ps_if (PW.pt (pw_or (pt_cmpR op_ge (pv 2) (pe_glob (v:=.int 4) rfl hP ⟨tp,rfl⟩) (nomark _)) (pw_or (pt_cmpR op_ge (pv 3) (pe_glob (v:=.int 4) rfl hP ⟨tp,rfl⟩) (nomark _)) (pw_or1 (pt_cmpR op_ge (pv 4) (pe_glob (v:=.int 4) rfl hP ⟨tp,rfl⟩) (nomark _)))))) (pss_one (ps_ret (pe_lst (pa_cons (pe_glob (v:=.int (-2)) rfl hW ⟨tw,rfl⟩) pa_nil)))) pss_nil)
   (pss_cons (ps_if (pt_cmpR op_ne (pe_fld (pe_ix ix_list (pv 0) (pv 2) (fun _ _=>rfl)) rfl) (pe_fld (pe_ix ix_list (pv 0) (pv 3) (fun _ _=>rfl)) rfl) (nomark _)) (pss_one (ps_ret (pe_lst (pa_cons (pe_glob (v:=.int (-3)) rfl hU ⟨tu,rfl⟩) pa_nil)))) pss_nil)
   (pss_one (ps_ret (pcall C2 hr rfl (pa_cons (pv 0) (pa_cons (pv 4) (pa_cons (pcall C1 hr4 rfl (pa_cons (pe_ix ix_list (pv 0) (pv 2) (fun _ _=>rfl)) (pa_cons (pe_ix ix_list (pv 0) (pv 3) (fun _ _=>rfl)) pa_nil))) pa_nil))))))))))),?_⟩
  obtain⟨h1,rfl,rfl⟩:=flat_n (n:=3) rfl hfl
  obtain⟨z,y,v,hz,hzi,hyi,hvi⟩:=nums3 h1
  rw[hz] at hco hask
  have hx:x=.union z.toNat y.toNat v.toNat:=(Option.some.inj hco).symm
  have hask:(BiNeutral.natural z 32&&BiNeutral.natural y 32&&BiNeutral.natural v 32)=true:=hask
  rw[Bool.and_eq_true,Bool.and_eq_true] at hask
  obtain⟨kk,rfl,hkk⟩:=nat_of hask.1.1
  obtain⟨hh,rfl,hhh⟩:=nat_of hask.1.2
  obtain⟨jj,rfl,hjj⟩:=nat_of hask.2
  rw[hkk,hhh,hjj] at hx
  subst hx
  rw[end_n' hi h1] at k
  refine rd_take (pl:=pl) (a:=a) (st:=st) (ns:=ns) (i:=i) hC rfl O hzi fun H1 O1 K1 f1=>?_
  refine rd_take (pl:=pl) (a:=a) (st:=st) (ns:=ns) (i:=i+1) hC rfl O1 hyi fun H2 O2 K2 f2=>?_
  refine rd_take (pl:=pl) (a:=a) (st:=st) (ns:=ns) (i:=i+2) hC rfl O2 hvi fun H3 O3 K3 f3=>?_
  have Kx:=((K1.trans K2).trans K3)
  have fx:=((f1.trans f2).trans f3)
  have out:∀H5 v,Same H3 H5→BindNs.step st (.union kk hh jj)=(st,BindNs.says v)→∀p,H5 p=none→Q (.ref p) (upd H5 p (.lst [V.int v])):=fun H5 v s5 hst p hp=>by
   rw[hst] at k
   have s6:=s5.trans (same_new (o:=.lst [V.int v]) hp)
   exact k _ p (O3.same s6) (Kx.trans (Keep.of_same s6)) (fx p (s5.free hp)) upd_same
  have hout:¬(kk<4∧hh<4∧jj<4)→BindNs.step st (.union kk hh jj)=(st,BindNs.says (-2)):=fun h=>pl3_out h
  refine⟨_,rfl,_,_,rfl,rfl,_,rfl,?_⟩
  by_cases hkk4:kk<4
  ·rw[decide_eq_false (by show ¬((kk:Int)≥4);omega)]
   refine iteF ?_
   refine⟨_,rfl,_,_,rfl,rfl,_,rfl,?_⟩
   by_cases hhh4:hh<4
   ·rw[decide_eq_false (by show ¬((hh:Int)≥4);omega)]
    refine iteF ?_
    refine⟨_,rfl,_,_,rfl,rfl,_,rfl,?_⟩
    by_cases hjj4:jj<4
    ·rw[decide_eq_false (by show ¬((jj:Int)≥4);omega)]
     refine iteF ?_
     obtain⟨as,b,m,q1,q2,q3,q4,q5,q6⟩:=O3.pl.at_ hkk4
     obtain⟨as',b',m',r1,r2,r3,r4,r5,r6⟩:=O3.pl.at_ hhh4
     have q5':=q5
     have r5':=r5
     obtain⟨dx,l,b1,b2⟩:=q5'
     obtain⟨dy,l',c1,c2⟩:=r5'
     have hstep:BindNs.step st (.union kk hh jj)=if m.n≠m'.n then (st,BindNs.says (-3)) else (st.set jj (m.union m'),BindNs.told (m.union m')):=by
      show BindNs.ofPlace st kk (BindNs.ofPlace st hh (BindNs.ofPlace st jj (if (BindNs.at_ st kk).n≠(BindNs.at_ st hh).n then _ else BindNs.puts st jj ((BindNs.at_ st kk).union (BindNs.at_ st hh)))))=_
      rw[place_in hkk4,place_in hhh4,place_in hjj4,q3,r3];rfl
     refine⟨_,rfl,_,rfl,pl,_,_,_,rfl,rfl,SqL.of q1,q2,b,C,dx,_,_,rfl,b1,B.cl,B.nT,bf_things _ _,_,rfl,_,rfl,pl,_,_,_,rfl,rfl,SqL.of r1,r2,b',C,dy,_,_,rfl,c1,B.cl,B.nT,bf_things _ _,rfl,_,rfl,?_⟩
     rw[dec_nV]
     by_cases he:m.n=m'.n
     ·rw[beq_iff_eq.mpr he]
      rw[hstep,if_neg (fun q=>q he)] at k
      refine iteF ⟨_,rfl,_,rfl,_,rfl,_,rfl,pl,_,_,_,rfl,rfl,SqL.of q1,q2,_,rfl,_,rfl,pl,_,_,_,rfl,rfl,SqL.of r1,r2,b,b',m,m',rfl,q5,r5,q6,r6,he,fun H4 c s4 hc hB=>?_⟩
      obtain⟨dxf,hff⟩:=(O3.same s4).fd
      refine⟨pl,c,ff,dxf,_,jj,st,_,rfl,(O3.same s4).pl,hff,hjj4,hB,mat_union q6 r6 he,fun H5 p hp5 kp5 hp e5=>?_⟩
      obtain⟨O5,K5⟩:=(O3.same s4).put hp5 kp5
      exact k H5 p O5 ((Kx.trans (Keep.of_same s4)).trans K5) (fx p (s4.free hp)) e5
     ·rw[beq_eq_false_iff_ne.mpr he]
      refine iteT ⟨by show 1≤sizeLine;decide,out H3 (-3) (Same.refl _) ?_⟩
      rw[hstep,if_pos he]
    ·rw[decide_eq_true (by show ((jj:Int)≥4);omega)]
     refine iteT ⟨by show 1≤sizeLine;decide,out H3 (-2) (Same.refl _) ?_⟩
     exact hout (by omega)
   ·rw[decide_eq_true (by show ((hh:Int)≥4);omega)]
    refine iteT (iteT ⟨by show 1≤sizeLine;decide,out H3 (-2) (Same.refl _) ?_⟩)
    exact hout (by omega)
  ·rw[decide_eq_true (by show ((kk:Int)≥4);omega)]
   refine iteT (iteT ⟨by show 1≤sizeLine;decide,out H3 (-2) (Same.refl _) ?_⟩)
   exact hout (by omega)
theorem scNumberC:FnScope ["places","feed","k","i","j"] ["places","feed"] (defScope sNumberC):=⟨rfl,rfl,rfl,by decide +kernel,rfl,by decide +kernel,by decide +kernel⟩
theorem ok_numberC {f fT fR:Addr} {fd fdT fdR:FuncData} (F:Fun K "call_number" "call_number" sNumberC f fd) (hC:C≠CF) (M:FMeth P w K mg base CF fT fR fdT fdR) (N:Consts mg) (C1:Callee P w K mg base 4 "number_at" ["bond","i","j"] (spNumber C)) :
  FnOk P w K mg base CX0 6 f fd ["places","feed"] (spCall K C CF 17):=by
 obtain⟨tp,hP⟩:=N.places
 obtain⟨tw,hW⟩:=N.wrong
 obtain⟨tx,hX⟩:=N.expo
 refine F.ok scNumberC (fun vs H Q E h=>?_) (fun cdv A outer s H vs Q E hr h=>?_)
 ·obtain⟨pl,f,a,st,ns,i,c,t,x,rfl,_⟩:=h
  rfl
 ·obtain⟨pl,ff,a,st,ns,i,c,t,x,rfl,O,hi,hfl,hco,hask,k⟩:=h
  have hr1:Room 1 _:=hr.mono (by decide)
  have hr4:Room 4 _:=hr.mono (by decide)
  refine⟨_,(pss_cons (ps_set (i:=2) scNumberC.nd rfl (Or.inl rfl) (pe_meth0 (pv 1) M.cl.cl M.mT M.gT hr1 M.bT .nil pass0))
   (pss_cons (ps_set (i:=3) scNumberC.nd rfl (Or.inl rfl) (pe_meth0 (pv 1) M.cl.cl M.mT M.gT hr1 M.bT .nil pass0))
   (pss_cons (ps_set (i:=4) scNumberC.nd rfl (Or.inl rfl) (pe_meth0 (pv 1) M.cl.cl M.mT M.gT hr1 M.bT .nil pass0))
   (pss_cons (ps_if (PW.pt (pw_or (pt_cmpR op_ge (pv 2) (pe_glob (v:=.int 4) rfl hP ⟨tp,rfl⟩) (nomark _)) (pw_or (pt_cmpR op_gt (pv 3) (pe_glob (v:=.int 8) rfl hX ⟨tx,rfl⟩) (nomark _)) (pw_or1 (pt_cmpR op_gt (pv 4) (pe_glob (v:=.int 8) rfl hX ⟨tx,rfl⟩) (nomark _)))))) (pss_one (ps_ret (pe_lst (pa_cons (pe_glob (v:=.int (-2)) rfl hW ⟨tw,rfl⟩) pa_nil)))) pss_nil)
   (pss_one (ps_ret (pe_lst (pa_cons pe_int (pa_cons (pcall C1 hr4 rfl (pa_cons (pe_ix ix_list (pv 0) (pv 2) (fun _ _=>rfl)) (pa_cons (pv 3) (pa_cons (pv 4) pa_nil)))) pa_nil))))))))),?_⟩
  obtain⟨h1,rfl,rfl⟩:=flat_n (n:=3) rfl hfl
  obtain⟨z,y,v,hz,hzi,hyi,hvi⟩:=nums3 h1
  rw[hz] at hco hask
  have hx:x=.number z.toNat y.toNat v.toNat:=(Option.some.inj hco).symm
  have hask:(BiNeutral.natural z 32&&BiNeutral.natural y 32&&BiNeutral.natural v 32)=true:=hask
  rw[Bool.and_eq_true,Bool.and_eq_true] at hask
  obtain⟨kk,rfl,hkk⟩:=nat_of hask.1.1
  obtain⟨ii,rfl,hii⟩:=nat_of hask.1.2
  obtain⟨jj,rfl,hjj⟩:=nat_of hask.2
  rw[hkk,hii,hjj] at hx
  subst hx
  rw[end_n' hi h1] at k
  refine rd_take (pl:=pl) (a:=a) (st:=st) (ns:=ns) (i:=i) hC rfl O hzi fun H1 O1 K1 f1=>?_
  refine rd_take (pl:=pl) (a:=a) (st:=st) (ns:=ns) (i:=i+1) hC rfl O1 hyi fun H2 O2 K2 f2=>?_
  refine rd_take (pl:=pl) (a:=a) (st:=st) (ns:=ns) (i:=i+2) hC rfl O2 hvi fun H3 O3 K3 f3=>?_
  have Kx:=((K1.trans K2).trans K3)
  have fx:=((f1.trans f2).trans f3)
  have out:∀H5 v,Same H3 H5→BindNs.step st (.number kk ii jj)=(st,BindNs.says v)→∀p,H5 p=none→Q (.ref p) (upd H5 p (.lst [V.int v])):=fun H5 v s5 hst p hp=>by
   rw[hst] at k
   have s6:=s5.trans (same_new (o:=.lst [V.int v]) hp)
   exact k _ p (O3.same s6) (Kx.trans (Keep.of_same s6)) (fx p (s5.free hp)) upd_same
  have hout:¬(kk<4∧ii≤8∧jj≤8)→BindNs.step st (.number kk ii jj)=(st,BindNs.says (-2)):=fun h=>by
   show BindNs.ofPlace st kk (if BindNs.THINGS<ii∨BindNs.THINGS<jj then _ else _)=_
   by_cases h1:kk<4
   ·rw[place_in h1,if_pos (by show 8<ii∨8<jj;omega)]
   ·rw[place_out h1]
  refine⟨_,rfl,_,_,rfl,rfl,_,rfl,?_⟩
  by_cases hk4:kk<4
  ·rw[decide_eq_false (by show ¬((kk:Int)≥4);omega)]
   refine iteF ?_
   refine⟨_,rfl,_,_,rfl,rfl,_,rfl,?_⟩
   by_cases hi8:ii≤8
   ·rw[decide_eq_false (by show ¬((ii:Int)>8);omega)]
    refine iteF ?_
    refine⟨_,rfl,_,_,rfl,rfl,_,rfl,?_⟩
    by_cases hj8:jj≤8
    ·rw[decide_eq_false (by show ¬((jj:Int)>8);omega)]
     refine iteF ?_
     obtain⟨as,b,m,q1,q2,q3,q4,q5,q6⟩:=O3.pl.at_ hk4
     have hst:BindNs.step st (.number kk ii jj)=(st,[0,m.number ii jj]):=by
      show BindNs.ofPlace st kk (if BindNs.THINGS<ii∨BindNs.THINGS<jj then _ else (st,[0,(BindNs.at_ st kk).number ii jj]))=_
      rw[place_in hk4,if_neg (by show ¬(8<ii∨8<jj);omega),q3]
     rw[hst] at k
     refine⟨_,rfl,_,rfl,pl,_,_,_,rfl,rfl,SqL.of q1,q2,_,rfl,_,rfl,b,m,ii,jj,rfl,q5,q6.good,hi8,hj8,fun H4 s4=>⟨by show 2≤sizeLine;decide,fun p hp=>?_⟩⟩
     have s5:=s4.trans (same_new (o:=.lst [V.int 0,V.int (m.number ii jj)]) hp)
     exact k _ p (O3.same s5) (Kx.trans (Keep.of_same s5)) (fx p (s4.free hp)) upd_same
    ·rw[decide_eq_true (by show ((jj:Int)>8);omega)]
     refine iteT ⟨by show 1≤sizeLine;decide,out H3 (-2) (Same.refl _) ?_⟩
     exact hout (by omega)
   ·rw[decide_eq_true (by show ((ii:Int)>8);omega)]
    refine iteT (iteT ⟨by show 1≤sizeLine;decide,out H3 (-2) (Same.refl _) ?_⟩)
    exact hout (by omega)
  ·rw[decide_eq_true (by show ((kk:Int)≥4);omega)]
   refine iteT (iteT ⟨by show 1≤sizeLine;decide,out H3 (-2) (Same.refl _) ?_⟩)
   exact hout (by omega)
theorem scBestC:FnScope ["places","feed","k","weights"] ["places","feed"] (defScope sBestC):=⟨rfl,rfl,rfl,by decide +kernel,rfl,by decide +kernel,by decide +kernel⟩
theorem ok_bestC {f fT fR:Addr} {fd fdT fdR:FuncData} (F:Fun K "call_best" "call_best" sBestC f fd) (hC:C≠CF) (M:FMeth P w K mg base CF fT fR fdT fdR) (N:Consts mg) (T:Names mg) (B:BCls K mg C) (C1:Callee P w K mg base 2 "best_of" ["bond","weights"] (spBest K C)) :
  FnOk P w K mg base CX0 6 f fd ["places","feed"] (spCall K C CF 16):=by
 obtain⟨tp,hP⟩:=N.places
 obtain⟨tw,hW⟩:=N.wrong
 refine F.ok scBestC (fun vs H Q E h=>?_) (fun cdv A outer s H vs Q E hr h=>?_)
 ·obtain⟨pl,f,a,st,ns,i,c,t,x,rfl,_⟩:=h
  rfl
 ·obtain⟨pl,ff,a,st,ns,i,c,t,x,rfl,O,hi,hfl,hco,hask,k⟩:=h
  have hr1:Room 1 _:=hr.mono (by decide)
  have hr2:Room 2 _:=hr.mono (by decide)
  refine⟨_,(pss_cons (ps_set (i:=2) scBestC.nd rfl (Or.inl rfl) (pe_meth0 (pv 1) M.cl.cl M.mT M.gT hr1 M.bT .nil pass0))
   (pss_cons (ps_set (i:=3) scBestC.nd rfl (Or.inl rfl) (pe_meth0 (pv 1) M.cl.cl M.mR M.gR hr2 M.bR .nil pass0))
   (pss_cons (ps_if (PW.pt (pw_or (pt_cmpR op_ge (pv 2) (pe_glob (v:=.int 4) rfl hP ⟨tp,rfl⟩) (nomark _)) (pw_or1 (pt_cmpR op_ne (pe_callB call_len_seq rfl T.len PySem.boot_len (pa_cons (pv 3) pa_nil)) (pe_fld (pe_ix ix_list (pv 0) (pv 2) (fun _ _=>rfl)) rfl) (nomark _))))) (pss_one (ps_ret (pe_lst (pa_cons (pe_glob (v:=.int (-2)) rfl hW ⟨tw,rfl⟩) pa_nil)))) pss_nil)
   (pss_one (ps_ret (pcall C1 hr2 rfl (pa_cons (pe_ix ix_list (pv 0) (pv 2) (fun _ _=>rfl)) (pa_cons (pv 3) pa_nil)))))))),?_⟩
  obtain⟨m0,s0,hd,hm,rfl,rfl,h1⟩:=flat_nr (n:=1) rfl hfl
  obtain⟨z,hz,hzi⟩:=nums1 h1
  rw[hz] at hco hask
  obtain⟨r1,r2,r3,r4⟩:=row_at hd hm
  have hx:x=.best z.toNat (s0.take m0):=(Option.some.inj hco).symm
  have hask:(BiNeutral.natural z 32&&BiNeutral.long (s0.take m0) 16 (-4294967295) 4294967295)=true:=hask
  rw[Bool.and_eq_true] at hask
  obtain⟨kk,rfl,hkk⟩:=nat_of hask.1
  rw[hkk] at hx
  subst hx
  rw[r4] at k
  refine rd_take (pl:=pl) (a:=a) (st:=st) (ns:=ns) (i:=i) hC rfl O hzi fun H1 O1 K1 f1=>?_
  refine rd_row (pl:=pl) (a:=a) (st:=st) (ns:=ns) (i:=i+1) (m:=m0) hC rfl O1 r1 r2 fun H2 q O2 K2 f2 hq e2=>?_
  rw[←r3] at e2
  generalize s0.take m0=ws at *
  have Kx:=K1.trans K2
  have fx:=f1.trans f2
  have out:∀H5 v,Same H2 H5→BindNs.step st (.best kk ws)=(st,BindNs.says v)→∀p,H5 p=none→Q (.ref p) (upd H5 p (.lst [V.int v])):=fun H5 v s5 hst p hp=>by
   rw[hst] at k
   have s6:=s5.trans (same_new (o:=.lst [V.int v]) hp)
   exact k _ p (O2.same s6) (Kx.trans (Keep.of_same s6)) (fx p (s5.free hp)) upd_same
  refine⟨_,rfl,_,_,rfl,rfl,_,rfl,?_⟩
  by_cases hk4:kk<4
  ·rw[decide_eq_false (by show ¬((kk:Int)≥4);omega)]
   refine iteF ?_
   obtain⟨as,b,m,q1,q2,q3,q4,q5,q6⟩:=O2.pl.at_ hk4
   have q5':=q5
   obtain⟨dx,l,b1,b2⟩:=q5'
   have hstep:BindNs.step st (.best kk ws)=if ws.length≠m.n then (st,BindNs.says (-2)) else (st,[((m.best ws:Nat):Int),BindNs.worth ws (m.best ws)]):=by
    show BindNs.ofPlace st kk (if ws.length≠(BindNs.at_ st kk).n then _ else (st,[(((BindNs.at_ st kk).best ws:Nat):Int),BindNs.worth ws ((BindNs.at_ st kk).best ws)]))=_
    rw[place_in hk4,q3]
   have el:(intsV ws).length=ws.length:=by unfold intsV;rw[List.length_map]
   refine⟨_,rfl,q,_,rfl,.inl (SqL.of e2),_,rfl,_,rfl,pl,_,_,_,rfl,rfl,SqL.of q1,q2,b,C,dx,_,_,rfl,b1,B.cl,B.nT,bf_things _ _,rfl,_,rfl,?_⟩
   rw[el,show decide (V.int (ws.length:Int)=nV m.n)=(ws.length==m.n) from dec_nV _ _]
   by_cases he:ws.length=m.n
   ·rw[beq_iff_eq.mpr he]
    rw[hstep,if_neg (fun q=>q he)] at k
    refine iteF ⟨_,rfl,_,rfl,pl,_,_,_,rfl,rfl,SqL.of q1,q2,_,rfl,b,q,m,ws,rfl,q5,q6.good,SqL.of e2,he,fun H3 p s3 hp e3=>?_⟩
    exact k H3 p (O2.same s3) (Kx.trans (Keep.of_same s3)) (fx p hp) e3
   ·rw[beq_eq_false_iff_ne.mpr he]
    refine iteT ⟨by show 1≤sizeLine;decide,out H2 (-2) (Same.refl _) ?_⟩
    rw[hstep,if_pos he]
  ·rw[decide_eq_true (by show ((kk:Int)≥4);omega)]
   refine iteT (iteT ⟨by show 1≤sizeLine;decide,out H2 (-2) (Same.refl _) (place_out hk4)⟩)
structure CutOp (op:Int) (mk:Bond→Nat→Bond) (mc:Nat→Nat→Nat→BindNs.Call):Prop where
 sh:PyWrbind.shape op=some (3,0)
 co:∀z y v:Int,BiNeutral.callOf [[op,z,y,v]]=some (mc z.toNat y.toNat v.toNat)
 ask:∀z y v:Int,BiNeutral.asked1 [[op,z,y,v]]=(BiNeutral.natural z 32&&BiNeutral.natural y 32&&BiNeutral.natural v 32)
 st:∀st k t j,BindNs.step st (mc k t j)=BindNs.ofSet st k t (BindNs.ofPlace st j (BindNs.puts st j (mk (BindNs.at_ st k) t)))
 mat:∀m s,Mat m→s<2^m.n→Mat (mk m s)
theorem cut_drop:CutOp 10 BindNs.Bond.drop .drop:=⟨rfl,fun _ _ _=>rfl,fun _ _ _=>rfl,fun _ _ _ _=>rfl,fun m s M h=>mat_drop M h⟩
theorem cut_pinch:CutOp 11 BindNs.Bond.pinch .pinch:=⟨rfl,fun _ _ _=>rfl,fun _ _ _=>rfl,fun _ _ _ _=>rfl,fun m s M h=>mat_pinch M h⟩
def spCut (P:Program) (w:World) (K:PySem.W.Frag) (mg:Str→Option Value) (base:Heap) (C CF:Addr) (op:Int) (mk:Bond→Nat→Bond):Sp:=fun vs H Q E=>∃(pl f g:Addr),vs=[.ref pl,.ref f,.ref g]∧CalleeA P w K mg base 4 g ["bond","s"] (spCutFn C mk)∧spCall K C CF op [.ref pl,.ref f] H Q E
theorem scCut:FnScope ["places","feed","left_over","k","s","j"] ["places","feed","left_over"] (defScope sCut):=⟨rfl,rfl,rfl,by decide +kernel,rfl,by decide +kernel,by decide +kernel⟩
theorem ok_cut {f fT fR:Addr} {fd fdT fdR:FuncData} {op:Int} {mk:Bond→Nat→Bond} {mc:Nat→Nat→Nat→BindNs.Call} (U:CutOp op mk mc) (F:Fun K "cut" "cut" sCut f fd) (hC:C≠CF) (M:FMeth P w K mg base CF fT fR fdT fdR) (N:Consts mg) (B:BCls K mg C) (C2:Callee P w K mg base 5 "put" ["places","k","bond"] (spPut C CF)) :
  FnOk P w K mg base CX0 6 f fd ["places","feed","left_over"] (spCut P w K mg base C CF op mk):=by
 obtain⟨tp,hP⟩:=N.places
 obtain⟨tw,hW⟩:=N.wrong
 refine F.ok scCut (fun vs H Q E h=>?_) (fun cdv A outer s H vs Q E hr h=>?_)
 ·obtain⟨pl,f,g,rfl,_⟩:=h
  rfl
 ·obtain⟨pl,ff,g,rfl,hG,pl',ff',a,st,ns,i,c,t,x,hvs,O,hi,hfl,hco,hask,k⟩:=h
  obtain⟨rfl,rfl⟩:pl=pl'∧ff=ff':=by
   injection hvs with h1 h2
   injection h2 with h2 _
   injection h1 with h1
   injection h2 with h2
   exact⟨h1,h2⟩
  have hr1:Room 1 _:=hr.mono (by decide)
  have hr4:Room 4 _:=hr.mono (by decide)
  refine⟨_,(pss_cons (ps_set (i:=3) scCut.nd rfl (Or.inl rfl) (pe_meth0 (pv 1) M.cl.cl M.mT M.gT hr1 M.bT .nil pass0))
   (pss_cons (ps_set (i:=4) scCut.nd rfl (Or.inl rfl) (pe_meth0 (pv 1) M.cl.cl M.mT M.gT hr1 M.bT .nil pass0))
   (pss_cons (ps_set (i:=5) scCut.nd rfl (Or.inl rfl) (pe_meth0 (pv 1) M.cl.cl M.mT M.gT hr1 M.bT .nil pass0))
   (pss_cons (ps_if (PW.pt (pw_or (pt_cmpR op_ge (pv 3) (pe_glob (v:=.int 4) rfl hP ⟨tp,rfl⟩) (nomark _)) (pw_or (pt_cmpR op_ge (pv 5) (pe_glob (v:=.int 4) rfl hP ⟨tp,rfl⟩) (nomark _)) (pw_or1 (pt_cmpR op_ge (pv 4) (pe_op op_shl pe_int (pe_fld (pe_ix ix_list (pv 0) (pv 3) (fun _ _=>rfl)) rfl)) (nomark _)))))) (pss_one (ps_ret (pe_lst (pa_cons (pe_glob (v:=.int (-2)) rfl hW ⟨tw,rfl⟩) pa_nil)))) pss_nil)
   (pss_one (ps_ret (pcall C2 hr rfl (pa_cons (pv 0) (pa_cons (pv 5) (pa_cons (pe_callV (i:=2) (k:=4) (ps:=["bond","s"]) hr4 (pa_cons (pe_ix ix_list (pv 0) (pv 3) (fun _ _=>rfl)) (pa_cons (pv 4) pa_nil))) pa_nil)))))))))),?_⟩
  obtain⟨h1,rfl,rfl⟩:=flat_n (n:=3) U.sh hfl
  obtain⟨z,y,v,hz,hzi,hyi,hvi⟩:=nums3 h1
  rw[hz,U.co] at hco
  rw[hz,U.ask,Bool.and_eq_true,Bool.and_eq_true] at hask
  have hx:x=mc z.toNat y.toNat v.toNat:=(Option.some.inj hco).symm
  obtain⟨kk,rfl,hkk⟩:=nat_of hask.1.1
  obtain⟨tt,rfl,htt⟩:=nat_of hask.1.2
  obtain⟨jj,rfl,hjj⟩:=nat_of hask.2
  rw[hkk,htt,hjj] at hx
  subst hx
  rw[end_n' hi h1,U.st] at k
  refine rd_take (pl:=pl) (a:=a) (st:=st) (ns:=ns) (i:=i) hC rfl O hzi fun H1 O1 K1 f1=>?_
  refine rd_take (pl:=pl) (a:=a) (st:=st) (ns:=ns) (i:=i+1) hC rfl O1 hyi fun H2 O2 K2 f2=>?_
  refine rd_take (pl:=pl) (a:=a) (st:=st) (ns:=ns) (i:=i+2) hC rfl O2 hvi fun H3 O3 K3 f3=>?_
  have Kx:=(K1.trans K2).trans K3
  have fx:=(f1.trans f2).trans f3
  have out:BindNs.ofSet st kk tt (BindNs.ofPlace st jj (BindNs.puts st jj (mk (BindNs.at_ st kk) tt)))=(st,BindNs.says (-2))→∀p,H3 p=none→Q (.ref p) (upd H3 p (.lst [V.int (-2)])):=fun hst p hp=>by
   rw[hst] at k
   have s6:=same_new (o:=.lst [V.int (-2)]) hp
   exact k _ p (O3.same s6) (Kx.trans (Keep.of_same s6)) (fx p hp) upd_same
  have hout:¬(kk<4∧jj<4∧tt<2^(BindNs.at_ st kk).n)→BindNs.ofSet st kk tt (BindNs.ofPlace st jj (BindNs.puts st jj (mk (BindNs.at_ st kk) tt)))=(st,BindNs.says (-2)):=fun h=>by
   unfold BindNs.ofSet
   by_cases h1:kk<4
   ·rw[place_in h1]
    by_cases h2:tt<2^(BindNs.at_ st kk).n
    ·rw[if_neg (Nat.not_le.mpr h2),place_out (fun q=>h ⟨h1,q,h2⟩)]
    ·rw[if_pos (Nat.not_lt.mp h2)]
   ·rw[place_out h1]
  refine⟨_,rfl,_,_,rfl,rfl,_,rfl,?_⟩
  by_cases hk4:kk<4
  ·rw[decide_eq_false (by show ¬((kk:Int)≥4);omega)]
   refine iteF ?_
   refine⟨_,rfl,_,_,rfl,rfl,_,rfl,?_⟩
   by_cases hj4:jj<4
   ·rw[decide_eq_false (by show ¬((jj:Int)≥4);omega)]
    refine iteF ?_
    obtain⟨as,b,m,q1,q2,q3,q4,q5,q6⟩:=O3.pl.at_ hk4
    have q5':=q5
    obtain⟨dx,l,b1,b2⟩:=q5'
    have hn8:=q6.good.n8
    refine⟨_,rfl,_,rfl,_,rfl,pl,_,_,_,rfl,rfl,SqL.of q1,q2,b,C,dx,_,_,rfl,b1,B.cl,B.nT,bf_things _ _,_,_,rfl,rfl,⟨by omega,by omega,by decide⟩,_,_,rfl,rfl,_,rfl,?_⟩
    have esh:((1:Int)*2^((m.n:Int)).toNat)=((2^m.n:Nat):Int):=by rw[Int.toNat_natCast,Int.one_mul];rfl
    rw[esh]
    by_cases ht:tt<2^m.n
    ·rw[decide_eq_false (by show ¬((tt:Int)≥((2^m.n:Nat):Int));omega)]
     refine iteF ?_
     have hst:BindNs.ofSet st kk tt (BindNs.ofPlace st jj (BindNs.puts st jj (mk (BindNs.at_ st kk) tt)))=(st.set jj (mk m tt),BindNs.told (mk m tt)):=by
      unfold BindNs.ofSet
      rw[place_in hk4,q3,if_neg (Nat.not_le.mpr ht),place_in hj4];rfl
     rw[hst] at k
     refine⟨_,rfl,_,rfl,g,_,rfl,hG,_,rfl,_,rfl,pl,_,_,_,rfl,rfl,SqL.of q1,q2,_,rfl,b,m,tt,rfl,q5,q6,ht,fun H4 c s4 hc hB=>?_⟩
     obtain⟨dxf,hff⟩:=(O3.same s4).fd
     refine⟨pl,c,ff,dxf,_,jj,st,_,rfl,(O3.same s4).pl,hff,hj4,hB,U.mat m tt q6 ht,fun H5 p hp5 kp5 hp e5=>?_⟩
     obtain⟨O5,K5⟩:=(O3.same s4).put hp5 kp5
     exact k H5 p O5 ((Kx.trans (Keep.of_same s4)).trans K5) (fx p (s4.free hp)) e5
    ·rw[decide_eq_true (by show ((tt:Int)≥((2^m.n:Nat):Int));omega)]
     refine iteT ⟨by show 1≤sizeLine;decide,out (hout fun q=>?_)⟩
     rw[q3] at q
     exact ht q.2.2
   ·rw[decide_eq_true (by show ((jj:Int)≥4);omega)]
    refine iteT (iteT ⟨by show 1≤sizeLine;decide,out (hout fun q=>hj4 q.2.1)⟩)
  ·rw[decide_eq_true (by show ((kk:Int)≥4);omega)]
   refine iteT (iteT ⟨by show 1≤sizeLine;decide,out (hout fun q=>hk4 q.1)⟩)
theorem scDropC:FnScope ["places","feed"] ["places","feed"] (defScope sDropC):=⟨rfl,rfl,rfl,by decide +kernel,rfl,by decide +kernel,by decide +kernel⟩
theorem ok_dropC {f g:Addr} {fd:FuncData} (F:Fun K "call_drop" "call_drop" sDropC f fd) (hg:mg "dropped"=some (.ref g)) (hG:CalleeA P w K mg base 4 g ["bond","s"] (spCutFn C BindNs.Bond.drop)) (C1:Callee P w K mg base 6 "cut" ["places","feed","left_over"] (spCut P w K mg base C CF 10 BindNs.Bond.drop)) :
  FnOk P w K mg base CX0 7 f fd ["places","feed"] (spCall K C CF 10):=by
 refine F.ok scDropC (fun vs H Q E h=>?_) (fun cdv A outer s H vs Q E hr h=>?_)
 ·obtain⟨pl,f,a,st,ns,i,c,t,x,rfl,_⟩:=h
  rfl
 ·obtain⟨pl,ff,a,st,ns,i,c,t,x,rfl,h⟩:=h
  refine⟨_,pss_one (ps_ret (pcall C1 hr rfl (pa_cons (pv 0) (pa_cons (pv 1) (pa_cons (pe_glob (v:=.ref g) rfl hg rfl) pa_nil))))),?_⟩
  exact⟨_,rfl,_,rfl,pl,ff,g,rfl,hG,pl,ff,a,st,ns,i,c,t,x,rfl,h⟩
theorem scPinchC:FnScope ["places","feed"] ["places","feed"] (defScope sPinchC):=⟨rfl,rfl,rfl,by decide +kernel,rfl,by decide +kernel,by decide +kernel⟩
theorem ok_pinchC {f g:Addr} {fd:FuncData} (F:Fun K "call_pinch" "call_pinch" sPinchC f fd) (hg:mg "pinched"=some (.ref g)) (hG:CalleeA P w K mg base 4 g ["bond","s"] (spCutFn C BindNs.Bond.pinch)) (C1:Callee P w K mg base 6 "cut" ["places","feed","left_over"] (spCut P w K mg base C CF 11 BindNs.Bond.pinch)) :
  FnOk P w K mg base CX0 7 f fd ["places","feed"] (spCall K C CF 11):=by
 refine F.ok scPinchC (fun vs H Q E h=>?_) (fun cdv A outer s H vs Q E hr h=>?_)
 ·obtain⟨pl,f,a,st,ns,i,c,t,x,rfl,_⟩:=h
  rfl
 ·obtain⟨pl,ff,a,st,ns,i,c,t,x,rfl,h⟩:=h
  refine⟨_,pss_one (ps_ret (pcall C1 hr rfl (pa_cons (pv 0) (pa_cons (pv 1) (pa_cons (pe_glob (v:=.ref g) rfl hg rfl) pa_nil))))),?_⟩
  exact⟨_,rfl,_,rfl,pl,ff,g,rfl,hG,pl,ff,a,st,ns,i,c,t,x,rfl,h⟩
abbrev sAnswers:Stmt:=top 87
def rest (n:Nat) (f:Addr) (H:Hp):Nat:=match H f with
 |some (.ins _ _ fs)=>match fs.lookup ("at":Str) with
  |some (.int i)=>n-i.toNat
  |_=>0
 |_=>0
theorem rest_of {n i:Nat} {f a CF:Addr} {H:Hp} (h:FeedAt CF H f a i):rest n f H=n-i:=by
 obtain⟨dx,h⟩:=h
 unfold rest
 rw[h]
 dsimp only
 rw[ff_at]
 rfl
def spAnswers (K:PySem.W.Frag):Sp:=fun vs H Q _=>∃(a:Addr) (ns:List Int),vs=[.ref a]∧ArgAt K H a ns∧PyWrbind.answers_asked ns=true∧∀(H':Hp) (p:Addr),H' p=some (.lst (intsV (PyWrbind.answers ns)))→Q (.ref p) H'
theorem scAnswers:FnScope ["calls","feed","places","gathered","call","answer","k"] ["calls"] (defScope sAnswers):=⟨rfl,rfl,rfl,by decide +kernel,rfl,by decide +kernel,by decide +kernel⟩
theorem ok_answers {f fT fR fF fM fN D:Addr} {fd fdT fdR fdF fdM fdN:FuncData} {vals:Int→Option V} (F:Fun K "answers" "answers" sAnswers f fd) (T:Names mg) (N:Consts mg) (hC:C≠CF) (M:FMeth P w K mg base CF fT fR fdT fdR)
  (MkF:Mk K CF fF) (GF:FnOk P w K mg base CX0 1 fF fdF ["self","numbers"] (spFInit CF)) (bF:Binds K fdF ["self","numbers"] [])
  (mM:Meth K CF "has_more" fM) (gM:FnOk P w K mg base CX0 1 fM fdM ["self"] (spMore K CF)) (bM:Binds K fdM ["self"] [])
  (gN:FnOk P w K mg base CX0 3 fN fdN [] (spNothing C)) (mgN:mg "bond_of_nothing"=some (.ref fN)) (kN:PySem.W.keepIn K (.ref fN)=true) (bN:Binds K fdN [] [])
  (mgD:mg "CALLS"=some (.ref D)) (hD:KDict P w K D vals)
  (hCalls:∀op q,PyWrbind.shape op=some q→∃g:Addr,vals op=some (.ref g)∧CalleeA P w K mg base 7 g ["places","feed"] (spCall K C CF op)) :
  FnOk P w K mg base CX0 8 f fd ["calls"] (spAnswers K):=by
 obtain⟨tp,hP⟩:=N.places
 refine F.ok scAnswers (fun vs H Q E h=>?_) (fun cdv A outer s H vs Q E hr h=>?_)
 ·obtain⟨a,ns,rfl,_⟩:=h
  rfl
 ·obtain⟨a,ns,rfl,hA,hask,k⟩:=h
  have hr1:Room 1 _:=hr.mono (by decide)
  have hr2:Room 2 _:=hr.mono (by decide)
  have hr3:Room 3 _:=hr.mono (by decide)
  have hr6:Room 7 _:=hr
  refine⟨_,pss_cons (ps_set (i:=1) scAnswers.nd rfl (Or.inl rfl) (pe_make MkF GF hr2 rfl M.cl.mgC bF .nil pass0 (pa_cons (pv 0) pa_nil)))
   (pss_cons (ps_setLc (i:=2) (own:=[("k",6)]) rfl scAnswers.nd rfl rfl (sw_true rfl rfl rfl rfl) (pi_range1 rfl T.range (pa_cons (pe_glob (v:=.int 4) rfl hP ⟨tp,rfl⟩) pa_nil)) (blkOk_by (N:=["calls","feed","places","gathered","call","answer","k"]) (sc:=defScope sAnswers) (by decide +kernel)) (fun s H C cl fp=>pg_name (i:=6) scAnswers.nd rfl (Or.inl rfl)) (fun s H C cl fp=>pts_nil)
    (fun s H C cl fp=>pe_call0 gN hr3 rfl mgN kN bN .nil pass0))
   (pss_cons (ps_set (i:=3) scAnswers.nd rfl (Or.inl rfl) (pe_lst pa_nil))
   (pss_cons (ps_while PassesOwn.never (pt_val (pe_meth0 (pv 1) M.cl.cl mM gM hr1 bM .nil pass0))
    (pss_cons (ps_set (i:=4) scAnswers.nd rfl (Or.inl rfl) (pe_kget rfl mgD hD (pe_meth0 (pv 1) M.cl.cl M.mT M.gT hr1 M.bT .nil pass0) (fun _ _=>rfl)))
    (pss_cons (ps_set (i:=5) scAnswers.nd rfl (Or.inl rfl) (pe_callV (i:=4) (k:=7) (ps:=["places","feed"]) hr6 (pa_cons (pv 2) (pa_cons (pv 1) pa_nil))))
    (pss_cons (ps_expr (pe_bm PySem.F.plainAttrs_list PySem.F.slot_list_append PySem.F.type_list_append mt_append (pv 3) (pa_cons (pe_callB call_len_seq rfl T.len PySem.boot_len (pa_cons (pv 5) pa_nil)) pa_nil)))
    (pss_one (ps_expr (pe_bm PySem.F.plainAttrs_list PySem.F.slot_list_extend PySem.F.type_list_extend mt_extend (pv 3) (pa_cons (pv 5) pa_nil))))))))
   (pss_one (ps_ret (pv 3)))))),?_⟩
  refine⟨_,rfl,fun ff dxf nf ndf nef=>⟨ff,dxf,a,rfl,upd_same,fun H1 hF1 kp1=>⟨rfl,?_⟩⟩⟩
  have s1:Same H H1:=Same.made nf ndf kp1
  have hA1:=hA.same s1
  dsimp only [tSeq,tAsg,gName]
  refine⟨(4:Int),rfl,by decide,by decide,fun pl hpl=>?_⟩
  refine lc_range (n:=4) (fun i H'=>Same H1 H'∧∃as:List Addr,as.length=i∧H' pl=some (.lst (as.map V.ref))∧∀b,b∈as→BondAt C H' b BindNs.empty) ⟨same_new hpl,[],rfl,upd_same,fun b hb=>by cases hb⟩ (fun i H' hi ⟨s2,as,hl,e2,hB⟩=>?_) (fun H2 ⟨s2,as,hl,e2,hB⟩=>?_)
  ·refine⟨rfl,?_⟩
   refine iteT (B:=Same H1 H'∧∃as:List Addr,as.length=i+1∧H' pl=some (.lst (as.map V.ref))∧∀b,b∈as→BondAt C H' b BindNs.empty) ?_
   refine⟨rfl,fun H3 b s3 hb hBb=>?_⟩
   refine⟨_,s3 _ _ e2,?_,same_upd (s2.trans s3) hpl,as++[b],by rw[List.length_append,hl];rfl,?_,fun c hc=>?_⟩
   ·rw[List.length_map,hl]
    have:(4:Nat)<sizeLine:=by decide
    omega
   ·rw[upd_same,List.map_append];rfl
   ·have hc3:BondAt C H3 c BindNs.empty:=by
     rcases List.mem_append.mp hc with q|q
     ·exact (hB c q).same s3
     ·rw[List.mem_singleton.mp q];exact hBb
    obtain⟨dx,l,h1,h2⟩:=hc3
    have e3:=s3 _ _ e2
    refine⟨dx,l,by rw[upd_ne (ne_of h1 e3 (by intro z;cases z))];exact h1,?_⟩
    rw[upd_ne (ne_of h2 e3 ?_)]
    ·exact h2
    ·intro z
     injection z with z
     cases as with
     |nil=>cases z
     |cons x r=>injection z with z _;cases z
  ·
   have hPl:Pl C H2 pl BindNs.start:=by
    refine⟨as,e2,hl,rfl,fun j b hb=>⟨BindNs.empty,?_,hB b (List.mem_of_getElem? hb),mat_empty⟩⟩
    have hj:j<4:=by rw[←hl];exact (List.getElem?_eq_some_iff.mp hb).1
    unfold BindNs.start
    rw[List.getElem?_replicate,if_pos (show j<BindNs.PLACES from hj)]
   have hO2:Ob K C CF H2 pl ff a BindNs.start ns 0:=by
    obtain⟨dx,hF⟩:=hF1
    exact⟨hPl,⟨dx,s2 _ _ hF⟩,hA1.same s2⟩
   refine⟨Nat.zero_le _,fun g hg=>?_⟩
   have gff:g≠ff:=fun q=>by
    obtain⟨dx,hF⟩:=hO2.fd
    rw[q,hF] at hg;cases hg
   have hid:∀(H:Hp) o,H g=none→hide g (upd H g o)=H:=fun H o hn=>funext fun b=>by
    by_cases e:b=g
    ·rw[e,hide_same,hn]
    ·rw[hide_ne e,upd_ne e]
   obtain⟨L0,hlen⟩:=left_start hask
   generalize hall:PyWrbind.answers ns=all at *
   refine while_by (fun σ H'=>∃(st:List Bond) (i:Nat) (acc due:List Int) (v4 v5 v6:Option V),σ=[some (.ref a),some (.ref ff),some (.ref pl),some (.ref g),v4,v5,v6]∧Ob K C CF (hide g H') pl ff a st ns i∧i≤ns.length∧Left ns i st due∧H' g=some (.lst (intsV acc))∧acc++due=all)
    (fun _ H'=>rest ns.length ff H') ⟨BindNs.start,0,[],all,_,_,_,rfl,(by rw[hid _ _ hg];exact hO2),Nat.zero_le _,L0,upd_same,rfl⟩ ?_ ?_
   ·rintro σ H' ⟨st,i,acc,due,v4,v5,v6,rfl,O,hi,L,hg',hd⟩
    obtain⟨dx,hff⟩:=O.fd
    have hff':=(hide_some hff).1
    have hfd:FeedAt CF H' ff a i:=⟨dx,hff'⟩
    have harg:ArgAt K H' a ns:=by
     rcases O.arg with⟨o,h⟩|h
     ·exact .inl ⟨o,(hide_some h).1⟩
     ·exact .inr h
    refine⟨_,rfl,ff,dx,_,rfl,hff',ff_no _ _ (by decide +kernel) (by decide +kernel),ff,a,ns,i,rfl,hfd,harg,_,rfl,?_⟩
    by_cases hlt:i<ns.length
    ·rw[decide_eq_true hlt]
     refine iteT ?_
     obtain⟨op,c,t,x,due',hop,⟨q,hsh⟩,hfl,hco,has,l1,l2,L',hdue⟩:=L.turn hlt
     obtain⟨fc,hv,hcal⟩:=hCalls op q hsh
     refine⟨_,rfl,ff,dx,_,rfl,hff',ff_no _ _ (by decide +kernel) (by decide +kernel),ff,a,ns,i,op,rfl,hfd,harg,hop,fun H3 hf3 kp3=>⟨op,_,rfl,hv,?_⟩⟩
     have hf3':FeedAt CF (hide g H3) ff a (i+1):=by
      obtain⟨d,h⟩:=hf3
      exact⟨d,by rw[hide_ne gff.symm];exact h⟩
     obtain⟨O3,K3⟩:=O.took hC hf3' fun b u e hb=>by
      obtain⟨e1,e2⟩:=hide_some e
      rw[hide_ne e2];exact kp3 b u e1 hb
     have hg3:=kp3 g _ hg' gff
     refine⟨fc,_,rfl,hcal.hidden,_,rfl,_,rfl,g,_,hg3,pl,ff,a,st,ns,i+1,c,t,x,rfl,O3,hlt,hfl,hco,has,fun H4 p O4 K4 hp e4 hgn=>?_⟩
     have gp:p≠g:=ne_of_none e4 hgn
     have hlens:acc.length+1+(BindNs.step st x).2.length≤10000000:=by
      rw[←hd,hdue,List.length_append,List.length_cons,List.length_append] at hlen
      omega
     have hsl:(10000000:Nat)<sizeLine:=by decide
     generalize hans:(BindNs.step st x).2=ans at *
     have hil:∀l:List Int,(intsV l).length=l.length:=fun l=>by unfold intsV;rw[List.length_map]
     have e4':(upd H4 g (.lst (intsV acc))) p=some (.lst (intsV ans)):=by rw[upd_ne gp];exact e4
     refine⟨_,rfl,.inl ⟨rfl,_,SqL.of upd_same⟩,_,rfl,p,_,rfl,.inl (SqL.of e4'),g,_,_,rfl,rfl,upd_same,by rw[hil];omega,?_⟩
     rw[upd_upd]
     have hp5:(upd H4 g (.lst (intsV acc++[V.int ((intsV ans).length:Int)]))) p=some (.lst (intsV ans)):=by rw[upd_ne gp];exact e4
     refine⟨_,rfl,.inl ⟨rfl,_,SqL.of upd_same⟩,_,rfl,g,p,_,_,rfl,rfl,upd_same,hp5,?_,?_⟩
     ·rw[List.length_append,hil,hil]
      show acc.length+1+ans.length≤sizeLine
      omega
     ·rw[upd_upd]
      refine⟨⟨_,_,acc++(ans.length:Int)::ans,due',_,_,_,rfl,?_,l2,L',?_,?_⟩,?_⟩
      ·rw[hid _ _ hgn];exact O4
      ·rw[upd_same,hil]
       unfold intsV
       rw[List.map_append,List.map_cons,List.append_assoc]
       rfl
      ·rw[←hd,hdue,List.append_assoc];rfl
      ·have r1:rest ns.length ff H'=ns.length-i:=rest_of hfd
       have r2:rest ns.length ff (upd H4 g (.lst ((intsV acc++[V.int ((intsV ans).length:Int)])++intsV ans)))=ns.length-(ns.length-t.length):=by
        obtain⟨d,h⟩:=O4.fd
        exact rest_of ⟨d,by rw[upd_ne gff.symm];exact h⟩
       show rest _ _ _<rest _ _ _
       rw[r1,r2]
       omega
    ·rw[decide_eq_false hlt]
     refine iteF ?_
     have:due=[]:=L.fin hlt
     rw[this,List.append_nil] at hd
     refine⟨_,rfl,k H' g ?_⟩
     rw[hg',hd]
   ·intro σ H' Q1 Q2 hQ h
    obtain⟨v,e1,b,dx,fs,e2,e3,e4,p,a',ns',i,e5,e6,e7,bb,e8,h⟩:=h
    exact⟨v,e1,b,dx,fs,e2,e3,e4,p,a',ns',i,e5,e6,e7,bb,e8,hQ _ _ h⟩
theorem bo_sum:bootBuiltins "sum"=some (.builtin "sum"):=by decide +kernel
def DefIn (K:PySem.W.Frag) (x:Str) (st:Stmt):Prop:=∃(f:Addr) (fd:FuncData),PySem.W.nsIn K mainGlobals x=some (some (.ref f))∧Fun K x x st f fd
theorem def_mk {K:PySem.W.Frag} {x:Str} {st:Stmt} {f:Addr} {oc:Value} {od an:Option Addr} {osl:Array (Option Value)} {kV doc pm cdv ct:Value} (a:PySem.W.nsIn K mainGlobals x=some (some (.ref f))) (l:K.lookup f=some ⟨oc,od,.func (PySem.W.fnOf x x (defArgs st) (defBody st) (defScope st) .none kV doc pm an cdv ct),osl⟩)
  (c:PySem.W.codeIn K cdv x=true) (k:PySem.W.keepIn K (.ref f)=true):DefIn K x st:=⟨f,_,a,fun_mk l c k⟩
def MthIn (K:PySem.W.Frag) (C:Addr) (x qual:Str) (st:Stmt):Prop:=∃(f:Addr) (fd:FuncData),PySem.W.findIn K (.ref C) x=some (some (.ref f))∧PySem.W.isFn K (.ref f)=true∧Fun K x qual st f fd
theorem mth_mk {K:PySem.W.Frag} {C:Addr} {x qual:Str} {st:Stmt} {f:Addr} {oc:Value} {od an:Option Addr} {osl:Array (Option Value)} {kV doc pm cdv ct:Value} (a:PySem.W.findIn K (.ref C) x=some (some (.ref f))) (i:PySem.W.isFn K (.ref f)=true) (l:K.lookup f=some ⟨oc,od,.func (PySem.W.fnOf x qual (defArgs st) (defBody st) (defScope st) .none kV doc pm an cdv ct),osl⟩)
  (c:PySem.W.codeIn K cdv qual=true) (k:PySem.W.keepIn K (.ref f)=true):MthIn K C x qual st:=⟨f,_,a,i,fun_mk l c k⟩
structure ClsIn (K:PySem.W.Frag) (C:Addr):Prop where
 cl:Cls K C
 mks:PySem.W.makesIn K C=true
 kc:PySem.W.keepIn K (.ref C)=true
theorem cls_mk {K:PySem.W.Frag} {C:Addr} (pg:PySem.W.plainGet K C Str.empty=true) (hd:PySem.W.hasDictIn K C=true) (po:PySem.W.plainOver K C=true) (sa:PySem.W.findIn K (.ref C) "__setattr__"=some (some (.builtin "object.__setattr__"))) (mk:PySem.W.makesIn K C=true) (kc:PySem.W.keepIn K (.ref C)=true):ClsIn K C:=⟨⟨pg,hd,po,sa⟩,mk,kc⟩
def IntIn (K:PySem.W.Frag) (x:Str) (z:Int):Prop:=∃t,PySem.W.nsIn K mainGlobals x=some (some (.int z t))
theorem int_mk {K:PySem.W.Frag} {x:Str} {z:Int} {t:Tok} (a:PySem.W.nsIn K mainGlobals x=some (some (.int z t))):IntIn K x z:=⟨t,a⟩
def ents (l:List (Int×Addr×Tok)):List DictEntry:=l.map fun x=>⟨hashInt x.1,.int x.1 x.2.2,.ref x.2.1⟩
def pairsE (l:List (Int×Addr×Tok)):List (Key×Value):=l.map fun x=>(Sum.inl x.1,.ref x.2.1)
def valsE (l:List (Int×Addr×Tok)) (k:Int):Option V:=(l.find? fun x=>x.1=k).map fun x=>V.ref x.2.1
theorem ents_pairs {P:Program} {w:World}:∀l:List (Int×Addr×Tok),Pairs (mixKind P w) (ents l) (pairsE l)
 |[]=>.nil
 |x::l=>.cons (keyIs_int x.1 x.2.2) rfl (ents_pairs l)
theorem kdict_of {P:Program} {w:World} {K:PySem.W.Frag} {D:Addr} {l:List (Int×Addr×Tok)} {n:Nat} (hl:K.lookup D=some ⟨.type "dict",none,.dict (ents l).toArray n,#[]⟩) (nd:(l.map (·.1)).Nodup):KDict P w K D (valsE l):=by
 intro h X
 refine⟨pairsE l,⟨_,_,_,X _ _ hl,⟨rfl,rfl,rfl⟩,rfl,fun e he=>?_,?_,?_⟩,fun k v hv=>?_⟩
 ·have he:e∈ents l:=by simpa using he
  obtain⟨x,_,rfl⟩:=List.mem_map.mp he
  exact⟨Sum.inl x.1,keyIs_int x.1 x.2.2,rfl⟩
 ·have:=ents_pairs (P:=P) (w:=w) l
  simpa using this
 ·unfold pairsE
  rw[List.map_map]
  have:(l.map ((fun (x:Key×Value)=>x.1)∘fun x=>(Sum.inl x.1,Value.ref x.2.1)))=(l.map (·.1)).map Sum.inl:=by rw[List.map_map];rfl
  rw[this]
  exact List.pairwise_map.mpr (nd.imp fun h q=>h (Sum.inl.inj q))
 ·unfold valsE at hv
  obtain⟨x,hx,rfl⟩:=Option.map_eq_some_iff.mp hv
  refine⟨.ref x.2.1,?_,rfl⟩
  clear hl nd hv
  unfold valueAt pairsE
  induction l with
  |nil=>cases hx
  |cons y l ih =>
   rw[List.find?_cons] at hx
   rw[List.map_cons,List.find?_cons]
   by_cases hy:y.1=k
   ·rw[decide_eq_true hy] at hx
    have hx:y=x:=Option.some.inj hx
    subst hx
    rw[decide_eq_true (show (Sum.inl y.1:Key)=Sum.inl k by rw[hy])]
    rfl
   ·rw[decide_eq_false hy] at hx
    rw[decide_eq_false (show ¬(Sum.inl y.1:Key)=Sum.inl k from fun q=>hy (Sum.inl.inj q))]
    exact ih hx
theorem reach {P:Program} {w:World} {K:PySem.W.Frag} {mg:Str→Option Value} {base:Heap} {x:Str} {st:Stmt} {ps:List Str} {k:Nat} {sp:Sp} (D:DefIn K x st) (g:∀{x:Str} {v:Value},PySem.W.nsIn K mainGlobals x=some (some v)→mg x=some v)
  (hb:∀(kV doc pm:Value) (an:Option Addr) (cdv ct:Value) (us:List Value),us.length=ps.length→bindArgs (PySem.W.fnOf x x (defArgs st) (defBody st) (defScope st) .none kV doc pm an cdv ct) ⟨us,[]⟩=pure (ps.zip us))
  (ok:∀{f:Addr} {fd:FuncData},Fun K x x st f fd→FnOk P w K mg base CX0 k f fd ps sp):Callee P w K mg base k x ps sp:=by
 obtain⟨f,fd,a,F⟩:=D
 exact callee_of F (ok F) (g a) (F.binds hb)
theorem reachA {P:Program} {w:World} {K:PySem.W.Frag} {mg:Str→Option Value} {base:Heap} {x:Str} {st:Stmt} {ps:List Str} {k:Nat} {sp:Sp} {g:Addr} (hk:k≤7) (D:DefIn K x st) (e:PySem.W.nsIn K mainGlobals x=some (some (.ref g)))
  (hb:∀(kV doc pm:Value) (an:Option Addr) (cdv ct:Value) (us:List Value),us.length=ps.length→bindArgs (PySem.W.fnOf x x (defArgs st) (defBody st) (defScope st) .none kV doc pm an cdv ct) ⟨us,[]⟩=pure (ps.zip us))
  (ok:∀{f:Addr} {fd:FuncData},Fun K x x st f fd→FnOk P w K mg base CX0 k f fd ps sp):CalleeA P w K mg base 7 g ps sp:=by
 obtain⟨f,fd,a,F⟩:=D
 have q:=e.symm.trans a
 injection q with q
 injection q with q
 injection q with q
 subst q
 exact⟨fd,(ok F).mono hk,F.kp,F.binds hb⟩
theorem toA {P:Program} {w:World} {K:PySem.W.Frag} {mg:Str→Option Value} {base:Heap} {k:Nat} {x:Str} {ps:List Str} {sp:Sp} (C:Callee P w K mg base k x ps sp):∃f:Addr,mg x=some (.ref f)∧CalleeA P w K mg base k f ps sp:=by
 obtain⟨f,fd,a,b,c,d⟩:=C.ex
 exact⟨f,b,fd,a,c,d⟩
theorem bd0 {P:List Value→Prop} (h:P []) (us:List Value) (hl:us.length=0):P us:=by rw[len0 hl.symm];exact h
theorem bd1 {P:List Value→Prop} (h:∀a,P [a]) (us:List Value) (hl:us.length=1):P us:=by obtain⟨a,rfl⟩:=len1 hl.symm;exact h a
theorem bd2 {P:List Value→Prop} (h:∀a b,P [a,b]) (us:List Value) (hl:us.length=2):P us:=by obtain⟨a,b,rfl⟩:=len2 hl.symm;exact h a b
theorem bd3 {P:List Value→Prop} (h:∀a b c,P [a,b,c]) (us:List Value) (hl:us.length=3):P us:=by obtain⟨a,b,c,rfl⟩:=len3 hl.symm;exact h a b c
def CallsIn (K:PySem.W.Frag):Prop:=∃(D g0 g1 g2 g3 g4 g5 g6 g7 g8 g9 g10 g11 g12 g13 g14 g15 g16 g17:Addr) (t0 t1 t2 t3 t4 t5 t6 t7 t8 t9 t10 t11 t12 t13 t14 t15 t16 t17:Tok) (n:Nat),PySem.W.nsIn K mainGlobals "CALLS"=some (some (.ref D))∧K.lookup D=some ⟨.type "dict",none,.dict (ents [(0,g0,t0),(1,g1,t1),(2,g2,t2),(3,g3,t3),(4,g4,t4),(5,g5,t5),(6,g6,t6),(7,g7,t7),(8,g8,t8),(9,g9,t9),(10,g10,t10),(11,g11,t11),(12,g12,t12),(13,g13,t13),(14,g14,t14),(15,g15,t15),(16,g16,t16),(17,g17,t17)]).toArray n,#[]⟩∧PySem.W.nsIn K mainGlobals "call_any"=some (some (.ref g0))∧PySem.W.nsIn K mainGlobals "call_edges"=some (some (.ref g1))∧PySem.W.nsIn K mainGlobals "call_rows"=some (some (.ref g2))∧PySem.W.nsIn K mainGlobals "call_bases"=some (some (.ref g3))∧PySem.W.nsIn K mainGlobals "call_tell"=some (some (.ref g4))∧PySem.W.nsIn K mainGlobals "call_nth"=some (some (.ref g5))∧PySem.W.nsIn K mainGlobals "call_rank"=some (some (.ref g6))∧PySem.W.nsIn K mainGlobals "call_rounds"=some (some (.ref g7))∧PySem.W.nsIn K mainGlobals "call_parts"=some (some (.ref g8))∧PySem.W.nsIn K mainGlobals "call_dual"=some (some (.ref g9))∧PySem.W.nsIn K mainGlobals "call_drop"=some (some (.ref g10))∧PySem.W.nsIn K mainGlobals "call_pinch"=some (some (.ref g11))∧PySem.W.nsIn K mainGlobals "call_beside"=some (some (.ref g12))∧PySem.W.nsIn K mainGlobals "call_union"=some (some (.ref g13))∧PySem.W.nsIn K mainGlobals "call_same"=some (some (.ref g14))∧PySem.W.nsIn K mainGlobals "call_common"=some (some (.ref g15))∧PySem.W.nsIn K mainGlobals "call_best"=some (some (.ref g16))∧PySem.W.nsIn K mainGlobals "call_number"=some (some (.ref g17))
theorem calls_mk {K:PySem.W.Frag} {D g0 g1 g2 g3 g4 g5 g6 g7 g8 g9 g10 g11 g12 g13 g14 g15 g16 g17:Addr} {t0 t1 t2 t3 t4 t5 t6 t7 t8 t9 t10 t11 t12 t13 t14 t15 t16 t17:Tok} {n:Nat} (a:PySem.W.nsIn K mainGlobals "CALLS"=some (some (.ref D))) (l:K.lookup D=some ⟨.type "dict",none,.dict (ents [(0,g0,t0),(1,g1,t1),(2,g2,t2),(3,g3,t3),(4,g4,t4),(5,g5,t5),(6,g6,t6),(7,g7,t7),(8,g8,t8),(9,g9,t9),(10,g10,t10),(11,g11,t11),(12,g12,t12),(13,g13,t13),(14,g14,t14),(15,g15,t15),(16,g16,t16),(17,g17,t17)]).toArray n,#[]⟩) (c0:PySem.W.nsIn K mainGlobals "call_any"=some (some (.ref g0))) (c1:PySem.W.nsIn K mainGlobals "call_edges"=some (some (.ref g1))) (c2:PySem.W.nsIn K mainGlobals "call_rows"=some (some (.ref g2))) (c3:PySem.W.nsIn K mainGlobals "call_bases"=some (some (.ref g3))) (c4:PySem.W.nsIn K mainGlobals "call_tell"=some (some (.ref g4))) (c5:PySem.W.nsIn K mainGlobals "call_nth"=some (some (.ref g5))) (c6:PySem.W.nsIn K mainGlobals "call_rank"=some (some (.ref g6))) (c7:PySem.W.nsIn K mainGlobals "call_rounds"=some (some (.ref g7))) (c8:PySem.W.nsIn K mainGlobals "call_parts"=some (some (.ref g8))) (c9:PySem.W.nsIn K mainGlobals "call_dual"=some (some (.ref g9))) (c10:PySem.W.nsIn K mainGlobals "call_drop"=some (some (.ref g10))) (c11:PySem.W.nsIn K mainGlobals "call_pinch"=some (some (.ref g11))) (c12:PySem.W.nsIn K mainGlobals "call_beside"=some (some (.ref g12))) (c13:PySem.W.nsIn K mainGlobals "call_union"=some (some (.ref g13))) (c14:PySem.W.nsIn K mainGlobals "call_same"=some (some (.ref g14))) (c15:PySem.W.nsIn K mainGlobals "call_common"=some (some (.ref g15))) (c16:PySem.W.nsIn K mainGlobals "call_best"=some (some (.ref g16))) (c17:PySem.W.nsIn K mainGlobals "call_number"=some (some (.ref g17))):CallsIn K:=⟨D,g0,g1,g2,g3,g4,g5,g6,g7,g8,g9,g10,g11,g12,g13,g14,g15,g16,g17,t0,t1,t2,t3,t4,t5,t6,t7,t8,t9,t10,t11,t12,t13,t14,t15,t16,t17,n,a,l,c0,c1,c2,c3,c4,c5,c6,c7,c8,c9,c10,c11,c12,c13,c14,c15,c16,c17⟩
def ModIn (K:PySem.W.Frag):Prop:=∃(d:Addr) (o:Obj) (its:Array Value) (n:Nat),PySem.W.nsIn K mainGlobals "MODULI"=some (some (.ref d))∧K.lookup d=some o∧o.cls=.type "tuple"∧o.data=.seq its n∧its.size≤sizeLine∧Vals (natsV [0,2,3,5,7]) its.toList
theorem mod_mk {K:PySem.W.Frag} {d:Addr} {t0 t1 t2 t3 t4:Tok} {n:Nat} {od:Option Addr} {sl:Array (Option Value)} (a:PySem.W.nsIn K mainGlobals "MODULI"=some (some (.ref d))) (l:K.lookup d=some ⟨.type "tuple",od,.seq #[.int 0 t0,.int 2 t1,.int 3 t2,.int 5 t3,.int 7 t4] n,sl⟩):ModIn K :=
 ⟨d,_,_,n,a,l,rfl,rfl,by show 5≤sizeLine;decide,.cons ⟨_,rfl⟩ (.cons ⟨_,rfl⟩ (.cons ⟨_,rfl⟩ (.cons ⟨_,rfl⟩ (.cons ⟨_,rfl⟩ .nil))))⟩
structure Written (K:PySem.W.Frag) (C CF:Addr):Prop where
 aC:PySem.W.nsIn K mainGlobals "Bond"=some (some (.ref C))
 cC:ClsIn K C
 nT:PySem.W.findIn K (.ref C) "things"=some none
 nB:PySem.W.findIn K (.ref C) "bases"=some none
 nK:PySem.W.findIn K (.ref C) "take"=some none
 mI:MthIn K C "__init__" "Bond.__init__" sBInit
 aF:PySem.W.nsIn K mainGlobals "Feed"=some (some (.ref CF))
 cF:ClsIn K CF
 nA:PySem.W.findIn K (.ref CF) "at"=some none
 nN:PySem.W.findIn K (.ref CF) "numbers"=some none
 fI:MthIn K CF "__init__" "Feed.__init__" sFInit
 fM:MthIn K CF "has_more" "Feed.has_more" sMore
 fT:MthIn K CF "take" "Feed.take" sTake
 fR:MthIn K CF "take_row" "Feed.take_row" sRow
 mo:ModIn K
 ca:CallsIn K
 n_range:PySem.W.nsIn K mainGlobals "range"=some none
 n_len:PySem.W.nsIn K mainGlobals "len"=some none
 n_max:PySem.W.nsIn K mainGlobals "max"=some none
 n_min:PySem.W.nsIn K mainGlobals "min"=some none
 n_any:PySem.W.nsIn K mainGlobals "any"=some none
 n_all:PySem.W.nsIn K mainGlobals "all"=some none
 n_sorted:PySem.W.nsIn K mainGlobals "sorted"=some none
 n_set:PySem.W.nsIn K mainGlobals "set"=some none
 n_list:PySem.W.nsIn K mainGlobals "list"=some none
 n_enumerate:PySem.W.nsIn K mainGlobals "enumerate"=some none
 n_sum:PySem.W.nsIn K mainGlobals "sum"=some none
 n_zip:PySem.W.nsIn K mainGlobals "zip"=some none
 i_PLACES:IntIn K "PLACES" (4)
 i_MOST_THINGS:IntIn K "MOST_THINGS" (8)
 i_WRONG:IntIn K "WRONG" (-2)
 i_NO_SUCH_BASE:IntIn K "NO_SUCH_BASE" (-4)
 i_NO_BOND:IntIn K "NO_BOND" (-5)
 i_UNFIT:IntIn K "UNFIT" (-3)
 i_MOST_EXPONENT:IntIn K "MOST_EXPONENT" (8)
 i_POINTS:IntIn K "POINTS" (12)
 i_MOST_EDGES:IntIn K "MOST_EDGES" (8)
 i_LONGEST:IntIn K "LONGEST" (6)
 i_MOST_ROWS:IntIn K "MOST_ROWS" (8)
 i_GREATEST:IntIn K "GREATEST" (1000)
 d_members:DefIn K "members" sMembers
 d_size:DefIn K "size" sSize
 d_bond_of_nothing:DefIn K "bond_of_nothing" sNothing
 d_bond_of_loose:DefIn K "bond_of_loose" sOfLoose
 d_bond_of_size:DefIn K "bond_of_size" sOfSize
 d_whole_rank:DefIn K "whole_rank" sWhole
 d_rank_of:DefIn K "rank_of" sRank
 d_ranks_of:DefIn K "ranks_of" sRanks
 d_closure_of:DefIn K "closure_of" sClosure
 d_is_loose:DefIn K "is_loose" sIsLoose
 d_all_but:DefIn K "all_but" sAllBut
 d_renumbered:DefIn K "renumbered" sRenum
 d_dual_of:DefIn K "dual_of" sDual
 d_dropped:DefIn K "dropped" sDropped
 d_pinched:DefIn K "pinched" sPinched
 d_completions:DefIn K "completions" sCompl
 d_reaches_all:DefIn K "reaches_all" sReaches
 d_are_bases:DefIn K "are_bases" sAreBases
 d_are_ends:DefIn K "are_ends" sAreEnds
 d_closes_round:DefIn K "closes_round" sCloses
 d_bond_of_edges:DefIn K "bond_of_edges" sOfEdges
 d_joined:DefIn K "joined" sJoined
 d_set_beside:DefIn K "set_beside" sBeside
 d_united:DefIn K "united" sUnited
 d_are_same:DefIn K "are_same" sSame
 d_common_of:DefIn K "common_of" sCommon
 d_powers_less_one:DefIn K "powers_less_one" sPowers
 d_number_at:DefIn K "number_at" sNumber
 d_is_round:DefIn K "is_round" sIsRound
 d_rounds_of:DefIn K "rounds_of" sRounds
 d_least_of_parts:DefIn K "least_of_parts" sParts
 d_are_rows:DefIn K "are_rows" sAreRows
 d_reduced:DefIn K "reduced" sReduced
 d_first_filled:DefIn K "first_filled" sFirst
 d_cleared:DefIn K "cleared" sCleared
 d_hang_together:DefIn K "hang_together" sHang
 d_bond_of_rows:DefIn K "bond_of_rows" sOfRows
 d_best_of:DefIn K "best_of" sBest
 d_told:DefIn K "told" sTold
 d_put:DefIn K "put" sPut
 d_cut:DefIn K "cut" sCut
 d_call_any:DefIn K "call_any" sAny
 d_call_edges:DefIn K "call_edges" sEdges
 d_call_rows:DefIn K "call_rows" sRowsC
 d_call_bases:DefIn K "call_bases" sBasesC
 d_call_tell:DefIn K "call_tell" sTell
 d_call_nth:DefIn K "call_nth" sNth
 d_call_rank:DefIn K "call_rank" sRankC
 d_call_rounds:DefIn K "call_rounds" sRoundsC
 d_call_parts:DefIn K "call_parts" sPartsC
 d_call_dual:DefIn K "call_dual" sDualC
 d_call_drop:DefIn K "call_drop" sDropC
 d_call_pinch:DefIn K "call_pinch" sPinchC
 d_call_beside:DefIn K "call_beside" sBesideC
 d_call_union:DefIn K "call_union" sUnionC
 d_call_same:DefIn K "call_same" sSameC
 d_call_common:DefIn K "call_common" sCommonC
 d_call_best:DefIn K "call_best" sBestC
 d_call_number:DefIn K "call_number" sNumberC
 d_answers:DefIn K "answers" sAnswers
theorem all_mk {P:Program} {w:World} {K:PySem.W.Frag} {h:Heap} {mg:Str→Option Value} {fa C CF:Addr} (X:K.In h) (G:h.Ns mainGlobals mg) (hfa:mg "answers"=some (.ref fa)) (W:Written K C CF) :
  ∃fd:FuncData,(∀(s:Shared) (us:List Value),us.length=(["calls"]:List Str).length→BindsTo s fd ⟨us,[]⟩ ((["calls"]:List Str).zip us))∧∀base:Heap,K.In base→base.Ns mainGlobals mg→FnOk P w K mg base CX0 8 fa fd ["calls"] (spAnswers K):=by
 have gof:∀{x:Str} {v:Value},PySem.W.nsIn K mainGlobals x=some (some v)→mg x=some v:=fun e=>PySem.W.mg_of X G e
 have gno:∀{x:Str},PySem.W.nsIn K mainGlobals x=some none→mg x=none:=fun e=>PySem.W.mg_none_of X G e
 have gin:∀{x:Str} {z:Int},IntIn K x z→∃t,mg x=some (.int z t):=fun⟨t,e⟩=>⟨t,gof e⟩
 have T:Names mg:=⟨gno W.n_range,gno W.n_len,gno W.n_max,gno W.n_min,gno W.n_any,gno W.n_all,gno W.n_sorted,gno W.n_set,gno W.n_list⟩
 have N:Consts mg:=⟨gin W.i_PLACES,gin W.i_MOST_THINGS,gin W.i_WRONG,gin W.i_NO_SUCH_BASE,gin W.i_NO_BOND,gin W.i_UNFIT,gin W.i_MOST_EXPONENT⟩
 have hE:=gno W.n_enumerate
 have hS:=gno W.n_sum
 have hZ:=gno W.n_zip
 have hPo:=gin W.i_POINTS
 have hMe:=gin W.i_MOST_EDGES
 have hLo:=gin W.i_LONGEST
 have hMr:=gin W.i_MOST_ROWS
 have hGr:=gin W.i_GREATEST
 have hMo:ModuliOk K mg:=by
  obtain⟨d,o,its,n,e,r⟩:=W.mo
  exact⟨d,o,its,n,gof e,r⟩
 have B:BCls K mg C:=⟨W.cC.cl,W.nT,W.nB,gof W.aC⟩
 have FC:FCls K mg CF:=⟨W.cF.cl,W.nA,W.nN,gof W.aF⟩
 obtain⟨fI,fdI,aI,iI,FI⟩:=W.mI
 obtain⟨fF,fdF,aF,iF,FF⟩:=W.fI
 obtain⟨fM,fdM,aM,iM,FM⟩:=W.fM
 obtain⟨fT,fdT,aT,iT,FT⟩:=W.fT
 obtain⟨fR,fdR,aR,iR,FR⟩:=W.fR
 have hC:C≠CF:=fun q=>by
  have:=W.nK
  rw[q,aT] at this
  cases this
 have MkB:Mk K C fI:=⟨W.cC.mks,aI,iI,W.cC.kc⟩
 have MkF:Mk K CF fF:=⟨W.cF.mks,aF,iF,W.cF.kc⟩
 have bI:Binds K fdI ["self","things","bases"] []:=FI.binds fun _ _ _ _ _ _=>bd3 fun _ _ _=>rfl
 have bF:Binds K fdF ["self","numbers"] []:=FF.binds fun _ _ _ _ _ _=>bd2 fun _ _=>rfl
 have bM:Binds K fdM ["self"] []:=FM.binds fun _ _ _ _ _ _=>bd1 fun _=>rfl
 have bT:Binds K fdT ["self"] []:=FT.binds fun _ _ _ _ _ _=>bd1 fun _=>rfl
 have bR:Binds K fdR ["self"] []:=FR.binds fun _ _ _ _ _ _=>bd1 fun _=>rfl
 obtain⟨f0,fd0,a0,F0⟩:=W.d_answers
 have e0:=hfa.symm.trans (gof a0)
 have e0:fa=f0:=by injection e0 with e0;injection e0
 subst e0
 refine⟨fd0,fun s us hu=>?_,fun base _ _=>?_⟩
 ·obtain⟨oc,od,kV,doc,pm,an,cdv,ct,osl,rfl,lk,hcd⟩:=F0.ex
  match us,hu with
  |[_],_=>exact .of_eq rfl
 have GI:FnOk P w K mg base CX0 1 fI fdI ["self","things","bases"] (spBInit K C):=ok_binit FI T B
 have GF:FnOk P w K mg base CX0 1 fF fdF ["self","numbers"] (spFInit CF):=ok_finit FF FC
 have gM:FnOk P w K mg base CX0 1 fM fdM ["self"] (spMore K CF):=ok_more FM T FC
 have gT:FnOk P w K mg base CX0 1 fT fdT ["self"] (spTake K CF):=ok_take FT FC
 have gR:FnOk P w K mg base CX0 2 fR fdR ["self"] (spRow K CF):=ok_row FR FC ⟨aT,iT,FT.kp⟩ gT bT
 have M:FMeth P w K mg base CF fT fR fdT fdR:=⟨FC,⟨aT,iT,FT.kp⟩,gT,bT,⟨aR,iR,FR.kp⟩,gR,bR⟩
 have cmembers:Callee P w K mg base 1 "members" ["s"] spMembers:=reach W.d_members gof (fun _ _ _ _ _ _=>bd1 fun _=>rfl) fun F=>ok_members F T
 have csize:Callee P w K mg base 2 "size" ["s"] spSize:=reach W.d_size gof (fun _ _ _ _ _ _=>bd1 fun _=>rfl) fun F=>ok_size F T cmembers
 have cbond_of_nothing:Callee P w K mg base 3 "bond_of_nothing" [] (spNothing C):=reach W.d_bond_of_nothing gof (fun _ _ _ _ _ _=>bd0 rfl) fun F=>ok_nothing F B MkB GI bI
 have cbond_of_loose:Callee P w K mg base 3 "bond_of_loose" ["things","loose"] (spOfLooseG K C):=reach W.d_bond_of_loose gof (fun _ _ _ _ _ _=>bd2 fun _ _=>rfl) fun F=>ok_ofLoose F T B MkB GI bI csize
 have cloose:Callee P w K mg base 3 "bond_of_loose" ["things","loose"] (spOfLoose K C):=reach W.d_bond_of_loose gof (fun _ _ _ _ _ _=>bd2 fun _ _=>rfl) fun F=>weaken (ok_ofLoose F T B MkB GI bI csize) fun vs H Q E q=>ofLoose_G q
 have cbond_of_size:Callee P w K mg base 3 "bond_of_size" ["things","many"] (spOfSize C):=reach W.d_bond_of_size gof (fun _ _ _ _ _ _=>bd2 fun _ _=>rfl) fun F=>ok_ofSize F T B MkB GI bI csize
 have cwhole_rank:Callee P w K mg base 3 "whole_rank" ["bond"] (spWhole C):=reach W.d_whole_rank gof (fun _ _ _ _ _ _=>bd1 fun _=>rfl) fun F=>ok_whole F B csize
 have crank_of:Callee P w K mg base 3 "rank_of" ["bond","s"] (spRank C):=reach W.d_rank_of gof (fun _ _ _ _ _ _=>bd2 fun _ _=>rfl) fun F=>ok_rank F T B csize
 have cranks_of:Callee P w K mg base 3 "ranks_of" ["bond"] (spRanks C):=reach W.d_ranks_of gof (fun _ _ _ _ _ _=>bd1 fun _=>rfl) fun F=>ok_ranks F T B csize
 have cclosure_of:Callee P w K mg base 4 "closure_of" ["bond","s"] (spClosure C):=reach W.d_closure_of gof (fun _ _ _ _ _ _=>bd2 fun _ _=>rfl) fun F=>ok_closure F T B crank_of
 have cis_loose:Callee P w K mg base 3 "is_loose" ["bond","s"] (spIsLoose C):=reach W.d_is_loose gof (fun _ _ _ _ _ _=>bd2 fun _ _=>rfl) fun F=>ok_isLoose F T B
 have call_but:Callee P w K mg base 1 "all_but" ["bond","s"] (spAllBut C):=reach W.d_all_but gof (fun _ _ _ _ _ _=>bd2 fun _ _=>rfl) fun F=>ok_allBut F B
 have crenumbered:Callee P w K mg base 1 "renumbered" ["s","kept"] (spRenum K):=reach W.d_renumbered gof (fun _ _ _ _ _ _=>bd2 fun _ _=>rfl) fun F=>ok_renum F T hE hS bo_sum
 have cdual_of:Callee P w K mg base 3 "dual_of" ["bond"] (spDual C):=reach W.d_dual_of gof (fun _ _ _ _ _ _=>bd1 fun _=>rfl) fun F=>ok_dual F B MkB GI bI call_but
 have cdropped:Callee P w K mg base 4 "dropped" ["bond","s"] (spCutFn C BindNs.Bond.drop):=reach W.d_dropped gof (fun _ _ _ _ _ _=>bd2 fun _ _=>rfl) fun F=>ok_dropped F T B cmembers call_but crenumbered cbond_of_loose
 obtain⟨fdropped,mdropped,adropped⟩:=toA cdropped
 have cpinched:Callee P w K mg base 4 "pinched" ["bond","s"] (spCutFn C BindNs.Bond.pinch):=reach W.d_pinched gof (fun _ _ _ _ _ _=>bd2 fun _ _=>rfl) fun F=>ok_pinched F T B MkB GI bI cmembers call_but crenumbered crank_of csize
 obtain⟨fpinched,mpinched,apinched⟩:=toA cpinched
 have ccompletions:Callee P w K mg base 2 "completions" ["sets"] (spCompl K):=reach W.d_completions gof (fun _ _ _ _ _ _=>bd1 fun _=>rfl) fun F=>ok_compl F cmembers
 have creaches_all:Callee P w K mg base 2 "reaches_all" ["one","sets","fits"] (spReaches K):=reach W.d_reaches_all gof (fun _ _ _ _ _ _=>bd3 fun _ _ _=>rfl) fun F=>ok_reaches F T cmembers
 have care_bases:Callee P w K mg base 3 "are_bases" ["sets"] (spAreBases K):=reach W.d_are_bases gof (fun _ _ _ _ _ _=>bd1 fun _=>rfl) fun F=>ok_areBases F T csize ccompletions creaches_all
 have care_ends:Callee P w K mg base 1 "are_ends" ["ends"] (spAreEnds K):=reach W.d_are_ends gof (fun _ _ _ _ _ _=>bd1 fun _=>rfl) fun F=>ok_areEnds F T hPo hMe
 have ccloses_round:Callee P w K mg base 1 "closes_round" ["edges"] (spCloses K):=reach W.d_closes_round gof (fun _ _ _ _ _ _=>bd1 fun _=>rfl) fun F=>ok_closes F T hPo
 have cbond_of_edges:Callee P w K mg base 4 "bond_of_edges" ["ends"] (spOfEdges K C):=reach W.d_bond_of_edges gof (fun _ _ _ _ _ _=>bd1 fun _=>rfl) fun F=>ok_ofEdges F T cmembers ccloses_round cloose
 have cjoined:Callee P w K mg base 1 "joined" ["ones","others"] (spJoined K):=reach W.d_joined gof (fun _ _ _ _ _ _=>bd2 fun _ _=>rfl) fun F=>ok_joined F T
 have cset_beside:Callee P w K mg base 3 "set_beside" ["one","other"] (spBeside C):=reach W.d_set_beside gof (fun _ _ _ _ _ _=>bd2 fun _ _=>rfl) fun F=>ok_beside F B MkB GI bI cjoined
 have cunited:Callee P w K mg base 4 "united" ["one","other"] (spUnited C):=reach W.d_united gof (fun _ _ _ _ _ _=>bd2 fun _ _=>rfl) fun F=>ok_united F B cjoined cbond_of_loose
 have care_same:Callee P w K mg base 1 "are_same" ["one","other"] (spSame C):=reach W.d_are_same gof (fun _ _ _ _ _ _=>bd2 fun _ _=>rfl) fun F=>ok_same F B
 have ccommon_of:Callee P w K mg base 4 "common_of" ["one","other"] (spCommon C):=reach W.d_common_of gof (fun _ _ _ _ _ _=>bd2 fun _ _=>rfl) fun F=>ok_common F T cranks_of csize
 have cpowers_less_one:Callee P w K mg base 1 "powers_less_one" [] spPowers:=reach W.d_powers_less_one gof (fun _ _ _ _ _ _=>bd0 rfl) fun F=>ok_powers F T N.expo hZ
 have cnumber_at:Callee P w K mg base 4 "number_at" ["bond","i","j"] (spNumber C):=reach W.d_number_at gof (fun _ _ _ _ _ _=>bd3 fun _ _ _=>rfl) fun F=>ok_number F hE cpowers_less_one cranks_of csize
 have cis_round:Callee P w K mg base 2 "is_round" ["loose","s"] (spIsRound K):=reach W.d_is_round gof (fun _ _ _ _ _ _=>bd2 fun _ _=>rfl) fun F=>ok_isRound F T cmembers
 have crounds_of:Callee P w K mg base 4 "rounds_of" ["bond"] (spRounds C):=reach W.d_rounds_of gof (fun _ _ _ _ _ _=>bd1 fun _=>rfl) fun F=>ok_rounds F T B cis_loose cis_round
 have cleast_of_parts:Callee P w K mg base 5 "least_of_parts" ["bond"] (spParts C):=reach W.d_least_of_parts gof (fun _ _ _ _ _ _=>bd1 fun _=>rfl) fun F=>ok_parts F T B crounds_of cmembers
 have care_rows:Callee P w K mg base 1 "are_rows" ["modulus","length","numbers"] (spAreRows K):=reach W.d_are_rows gof (fun _ _ _ _ _ _=>bd3 fun _ _ _=>rfl) fun F=>ok_areRows F T hMo hLo hMr hGr
 have creduced:Callee P w K mg base 1 "reduced" ["modulus","row"] spReduced:=reach W.d_reduced gof (fun _ _ _ _ _ _=>bd2 fun _ _=>rfl) fun F=>ok_reduced F
 have cfirst_filled:Callee P w K mg base 1 "first_filled" ["row"] (spFirst K):=reach W.d_first_filled gof (fun _ _ _ _ _ _=>bd1 fun _=>rfl) fun F=>ok_first F
 have ccleared:Callee P w K mg base 2 "cleared" ["modulus","row","earlier"] (spCleared K):=reach W.d_cleared gof (fun _ _ _ _ _ _=>bd3 fun _ _ _=>rfl) fun F=>ok_cleared F T cfirst_filled creduced
 have chang_together:Callee P w K mg base 3 "hang_together" ["modulus","rows"] (spHang K):=reach W.d_hang_together gof (fun _ _ _ _ _ _=>bd2 fun _ _=>rfl) fun F=>ok_hang F T ccleared
 have cbond_of_rows:Callee P w K mg base 4 "bond_of_rows" ["modulus","length","numbers"] (spOfRows K C):=reach W.d_bond_of_rows gof (fun _ _ _ _ _ _=>bd3 fun _ _ _=>rfl) fun F=>ok_ofRows F T cmembers chang_together cloose creduced
 have cbest_of:Callee P w K mg base 2 "best_of" ["bond","weights"] (spBest K C):=reach W.d_best_of gof (fun _ _ _ _ _ _=>bd2 fun _ _=>rfl) fun F=>ok_best F T B hS bo_sum cmembers
 have ctold:Callee P w K mg base 4 "told" ["bond"] (spTold C):=reach W.d_told gof (fun _ _ _ _ _ _=>bd1 fun _=>rfl) fun F=>ok_told F T B cwhole_rank
 have cput:Callee P w K mg base 5 "put" ["places","k","bond"] (spPut C CF):=reach W.d_put gof (fun _ _ _ _ _ _=>bd3 fun _ _ _=>rfl) fun F=>ok_put F hC ctold
 have cutD:Callee P w K mg base 6 "cut" ["places","feed","left_over"] (spCut P w K mg base C CF 10 BindNs.Bond.drop):=reach W.d_cut gof (fun _ _ _ _ _ _=>bd3 fun _ _ _=>rfl) fun F=>ok_cut cut_drop F hC M N B cput
 have cutP:Callee P w K mg base 6 "cut" ["places","feed","left_over"] (spCut P w K mg base C CF 11 BindNs.Bond.pinch):=reach W.d_cut gof (fun _ _ _ _ _ _=>bd3 fun _ _ _=>rfl) fun F=>ok_cut cut_pinch F hC M N B cput
 obtain⟨Dd,g0,g1,g2,g3,g4,g5,g6,g7,g8,g9,g10,g11,g12,g13,g14,g15,g16,g17,t0,t1,t2,t3,t4,t5,t6,t7,t8,t9,t10,t11,t12,t13,t14,t15,t16,t17,nn,aD,lD,e0,e1,e2,e3,e4,e5,e6,e7,e8,e9,e10,e11,e12,e13,e14,e15,e16,e17⟩:=W.ca
 obtain⟨fN,fdN,gN,mN,kN,bN⟩:=cbond_of_nothing.ex
 refine ok_answers F0 T N hC M MkF GF bF ⟨aM,iM,FM.kp⟩ gM bM gN mN kN bN (gof aD) (kdict_of lD (by show ([0,1,2,3,4,5,6,7,8,9,10,11,12,13,14,15,16,17]:List Int).Nodup;decide)) fun op q hq=>?_
 rcases shape_ops hq with rfl|rfl|rfl|rfl|rfl|rfl|rfl|rfl|rfl|rfl|rfl|rfl|rfl|rfl|rfl|rfl|rfl|rfl
 ·exact⟨g0,rfl,reachA (by decide) W.d_call_any e0 (fun _ _ _ _ _ _=>bd2 fun _ _=>rfl) fun F=>ok_any F hC M N cbond_of_size cput⟩
 ·exact⟨g1,rfl,reachA (by decide) W.d_call_edges e1 (fun _ _ _ _ _ _=>bd2 fun _ _=>rfl) fun F=>ok_edges F hC M N care_ends cbond_of_edges cput⟩
 ·exact⟨g2,rfl,reachA (by decide) W.d_call_rows e2 (fun _ _ _ _ _ _=>bd2 fun _ _=>rfl) fun F=>ok_rowsC F hC M N care_rows cbond_of_rows cput⟩
 ·exact⟨g3,rfl,reachA (by decide) W.d_call_bases e3 (fun _ _ _ _ _ _=>bd2 fun _ _=>rfl) fun F=>ok_basesC F T B hC M N MkB GI bI care_bases cput⟩
 ·exact⟨g4,rfl,reachA (by decide) W.d_call_tell e4 (fun _ _ _ _ _ _=>bd2 fun _ _=>rfl) fun F=>ok_tell F hC M N.places N.wrong ctold⟩
 ·exact⟨g5,rfl,reachA (by decide) W.d_call_nth e5 (fun _ _ _ _ _ _=>bd2 fun _ _=>rfl) fun F=>ok_nth F T B hC M N⟩
 ·exact⟨g6,rfl,reachA (by decide) W.d_call_rank e6 (fun _ _ _ _ _ _=>bd2 fun _ _=>rfl) fun F=>ok_rankC F B hC M N crank_of cclosure_of⟩
 ·exact⟨g7,rfl,reachA (by decide) W.d_call_rounds e7 (fun _ _ _ _ _ _=>bd2 fun _ _=>rfl) fun F=>ok_roundsC F T hC M N.places N.wrong crounds_of⟩
 ·exact⟨g8,rfl,reachA (by decide) W.d_call_parts e8 (fun _ _ _ _ _ _=>bd2 fun _ _=>rfl) fun F=>ok_partsC F B hC M N cleast_of_parts⟩
 ·exact⟨g9,rfl,reachA (by decide) W.d_call_dual e9 (fun _ _ _ _ _ _=>bd2 fun _ _=>rfl) fun F=>ok_dualC F hC M N cdual_of cput⟩
 ·exact⟨g10,rfl,reachA (by decide) W.d_call_drop e10 (fun _ _ _ _ _ _=>bd2 fun _ _=>rfl) fun F=>ok_dropC F mdropped adropped cutD⟩
 ·exact⟨g11,rfl,reachA (by decide) W.d_call_pinch e11 (fun _ _ _ _ _ _=>bd2 fun _ _=>rfl) fun F=>ok_pinchC F mpinched apinched cutP⟩
 ·exact⟨g12,rfl,reachA (by decide) W.d_call_beside e12 (fun _ _ _ _ _ _=>bd2 fun _ _=>rfl) fun F=>ok_besideC F hC M N B cset_beside cput⟩
 ·exact⟨g13,rfl,reachA (by decide) W.d_call_union e13 (fun _ _ _ _ _ _=>bd2 fun _ _=>rfl) fun F=>ok_unionC F hC M N B cunited cput⟩
 ·exact⟨g14,rfl,reachA (by decide) W.d_call_same e14 (fun _ _ _ _ _ _=>bd2 fun _ _=>rfl) fun F=>ok_sameC F hC M N care_same⟩
 ·exact⟨g15,rfl,reachA (by decide) W.d_call_common e15 (fun _ _ _ _ _ _=>bd2 fun _ _=>rfl) fun F=>ok_commonC F hC M N B ccommon_of⟩
 ·exact⟨g16,rfl,reachA (by decide) W.d_call_best e16 (fun _ _ _ _ _ _=>bd2 fun _ _=>rfl) fun F=>ok_bestC F hC M N T B cbest_of⟩
 ·exact⟨g17,rfl,reachA (by decide) W.d_call_number e17 (fun _ _ _ _ _ _=>bd2 fun _ _=>rfl) fun F=>ok_numberC F hC M N cnumber_at⟩
end Bi
def PySem.W.Fast.tw3751020615975367468:=()
def PySem.W.Fast.tw8551796817084775691:=()
def PySem.W.Fast.tw15467484214474138571:=()
def PySem.W.Fast.tw10677625124947159416:=()
def PySem.W.Fast.tw9522108949815631065:=()
def PySem.W.Fast.tw13534792927940077252:=()
def PySem.W.Fast.tw8688893456110055470:=()
def PySem.W.Fast.tw10040396397118274858:=()
def PySem.W.Fast.tw12969893764035894302:=()
def PySem.W.Fast.tw798991708550867055:=()
def PySem.W.Fast.tw16407977502719305991:=()
def PySem.W.Fast.tw5660897389249095982:=()
def PySem.W.Fast.tw16011734967570938312:=()
def PySem.W.Fast.tw2844556388726745699:=()
def PySem.W.Fast.tw3272368365987608842:=()
def PySem.W.Fast.tw8398878020712280564:=()
def PySem.W.Fast.tw8482406552012169010:=()
def PySem.W.Fast.tw6084267145271544138:=()
def PySem.W.Fast.tw7376882217916117913:=()
def PySem.W.Fast.tw172560840945457476:=()
def PySem.W.Fast.tw9667030326703328788:=()
def PySem.W.Fast.tw5568675700191511873:=()
def PySem.W.Fast.tw15516530215903762817:=()
def PySem.W.Fast.tw10140886613704424414:=()
def PySem.W.Fast.tw11033831766359012261:=()
def PySem.W.Fast.tw3567273425244054552:=()
def PySem.W.Fast.tw2548199425950994208:=()
def PySem.W.Fast.tw7663899225970968938:=()
def PySem.W.Fast.tw9042354034602083485:=()
def PySem.W.Fast.tw13159054712339481965:=()
def PySem.W.Fast.tw5335837583852820752:=()
def PySem.W.Fast.tw11177732081399220486:=()
def PySem.W.Fast.tw17876538847893314879:=()
def PySem.W.Fast.tw6632006202095760052:=()
def PySem.W.Fast.tw4187494538138115844:=()
def PySem.W.Fast.tw14188337368107721364:=()
def PySem.W.Fast.tw14823130949967926898:=()
def PySem.W.Fast.tw12966345038984539615:=()
def PySem.W.Fast.tw319519331671543561:=()
def PySem.W.Fast.tw15517049107260177104:=()
def PySem.W.Fast.tw17838557472324349710:=()
def PySem.W.Fast.tw15035771575530558970:=()
def PySem.W.Fast.tw12989281219386483276:=()
def PySem.W.Fast.tw434280281123635164:=()
def PySem.W.Fast.tw15752649994884772062:=()
def PySem.W.Fast.tw8265626245851729463:=()
def PySem.W.Fast.tw2759253718151574519:=()
open PySem PySem.W PyProof.Rows
set_option maxRecDepth 100000 in
set_option maxHeartbeats 0 in
theorem PySem.Challenge.cw_loosesets_s01_answers_holds : PySem.Challenge.rw_loosesets_s01_answers.Holds := by
 w_on;k_headS;(case hw=>exact⟨[.list [.int 4,.int 0]],by decide +kernel,by decide +kernel⟩)
 k_fillS
 refine L2.walk_specK (r:=PySem.Challenge.rw_loosesets_s01_answers) (k:=8) (CX:=L2.CX0) (ps:=["calls"]) (sp:=Bi.spAnswers) (by decide +kernel) rfl rfl ⟨rfl,by decide,by decide⟩ (fun w h Y=>PySem.W.kIn_of Y) ?F ?S (fun _ _ _ _ z=>z)
 case F =>
  intro w mg fa h Y KX G hmg
  refine' Bi.all_mk KX G hmg (Bi.Written.mk ?aC ?cC ?nT ?nB ?nK ?mI ?aF ?cF ?nA ?nN ?fI ?fM ?fT ?fR ?mo ?ca ?n_range ?n_len ?n_max ?n_min ?n_any ?n_all ?n_sorted ?n_set ?n_list ?n_enumerate ?n_sum ?n_zip ?i0 ?i1 ?i2 ?i3 ?i4 ?i5 ?i6 ?i7 ?i8 ?i9 ?i10 ?i11 ?d0 ?d1 ?d2 ?d3 ?d4 ?d5 ?d6 ?d7 ?d8 ?d9 ?d10 ?d11 ?d12 ?d13 ?d14 ?d15 ?d16 ?d17 ?d18 ?d19 ?d20 ?d21 ?d22 ?d23 ?d24 ?d25 ?d26 ?d27 ?d28 ?d29 ?d30 ?d31 ?d32 ?d33 ?d34 ?d35 ?d36 ?d37 ?d38 ?d39 ?d40 ?d41 ?d42 ?d43 ?d44 ?d45 ?d46 ?d47 ?d48 ?d49 ?d50 ?d51 ?d52 ?d53 ?d54 ?d55 ?d56 ?d57 ?d58 ?d59)
  (case aC=>k_is);(case aF=>k_is)
  (case cC=>refine' Bi.cls_mk ?pg ?hd ?po ?sa ?mk ?kc;(case pg=>k_is);(case hd=>k_is);(case po=>k_is);(case sa=>k_is);(case mk=>k_is);(case kc=>k_is))
  (case cF=>refine' Bi.cls_mk ?pg ?hd ?po ?sa ?mk ?kc;(case pg=>k_is);(case hd=>k_is);(case po=>k_is);(case sa=>k_is);(case mk=>k_is);(case kc=>k_is))
  (case mI=>refine' Bi.mth_mk ?a ?i ?l ?c ?k;(case a=>k_is);(case i=>k_is);(case l=>k_is);(case c=>k_is);(case k=>k_is))
  (case fI=>refine' Bi.mth_mk ?a ?i ?l ?c ?k;(case a=>k_is);(case i=>k_is);(case l=>k_is);(case c=>k_is);(case k=>k_is))
  (case fM=>refine' Bi.mth_mk ?a ?i ?l ?c ?k;(case a=>k_is);(case i=>k_is);(case l=>k_is);(case c=>k_is);(case k=>k_is))
  (case fT=>refine' Bi.mth_mk ?a ?i ?l ?c ?k;(case a=>k_is);(case i=>k_is);(case l=>k_is);(case c=>k_is);(case k=>k_is))
  (case fR=>refine' Bi.mth_mk ?a ?i ?l ?c ?k;(case a=>k_is);(case i=>k_is);(case l=>k_is);(case c=>k_is);(case k=>k_is))
  (case mo=>refine' Bi.mod_mk ?a ?l;(case a=>k_is);(case l=>k_is))
  (case ca=>refine' Bi.calls_mk ?a ?l ?c0 ?c1 ?c2 ?c3 ?c4 ?c5 ?c6 ?c7 ?c8 ?c9 ?c10 ?c11 ?c12 ?c13 ?c14 ?c15 ?c16 ?c17;(case a=>k_is);(case l=>k_is);all_goals k_is)
  all_goals first|k_is|(refine' Bi.int_mk ?a;(case a=>k_is))|(refine' Bi.def_mk ?a ?l ?c ?k;(case a=>k_is);(case l=>k_is);(case c=>k_is);(case k=>k_is))
 case S =>
  intro K H xs a hO hwi hask hx
  cases hx with
  |cons h1 h2 =>
   cases h2
   cases h1 with
   |lst hs ha =>
    have e:=L2.ints_dw a.1 _ ha
    subst e
    refine⟨_,a.1,rfl,?_,hask,fun H' p hp=>.lst (L2.SqL.of hp) (L2.dw_ints _)⟩
    rcases hs with (hs|hs)|hs
    ·rcases hO _ with z|⟨ob,u3,z⟩
     ·rw[hs] at z;cases z
     ·rw[hs] at z;cases z
    ·exact .inl hs
    ·exact .inr hs
#print axioms PySem.Challenge.cw_loosesets_s01_answers_holds
