import PyProof.Rows.All
import Wide.All
import OpenK.AllK
import Wide.FinOn
import PySem.Challenge.RW_regpress_k11_looker
set_option Elab.async false
set_option linter.all false
set_option maxRecDepth 100000
set_option maxHeartbeats 8000000
noncomputable section
namespace L2
open PySem PySem.Spec PyProof.Rows
variable {xs:List V}{us:List Value}{H:Hp}{a b:Addr}{o:HO}{u:Value}{P:Program}{w:World}{h base:Heap}{t' i j k n:Nat}{ch fp:List Addr}{x:Str}{e c tg:Expr}{N ps:List Str}{M:Model}{A:Around}{E Q:Value->Shared->Prop}{v y:V}{X:Cx}{t:TE}{s:Shared}{pos:Pos}{pins:List (Addr×Obj)}{σ:St}{op:CmpOp}{K:PySem.W.Frag}{D:Ends}{f:Value->Value->Sem Value}{body:List Stmt}{mg:Str->Option Value}{CX:CXT}{fd:FuncData}{sp:Sp}
abbrev Key:=Sum Int Str
def Xi:Key->Value->Bool
 |.inl k,v=>Value.isInt k v
 |.inr x,v=>Value.isStrOf x v
def keyH (w:World):Key->Int
 |.inl k=>hashInt k
 |.inr x=>hashStr w x
theorem zR:∀ {k:Key} {v:Value},Xi k v=true->(∃ i t,k=Sum.inl i/\v=Value.int i t)\/(∃ x t,k=Sum.inr x/\v=Value.str x t)
 |.inl i,v,h=>by
  obtain⟨t,e⟩:=Value.isInt_shape (k:=i) (v:=v) h
  exact .inl ⟨i,t,rfl,e⟩
 |.inr x,v,h=>by
  obtain⟨t,e⟩:=Value.isStrOf_shape (x:=x) (v:=v) h
  exact .inr ⟨x,t,rfl,e⟩
theorem XY (i:Int)(t:Tok):Xi (.inl i) (.int i t)=true:=by simp[Xi,Value.isInt]
theorem VI (x:Str)(t:Tok):Xi (.inr x) (.str x t)=true:=by simp[Xi,Value.isStrOf]
theorem key_ll (a b:Int):decide ((Sum.inl a:Key)=Sum.inl b)=(a == b):=by
 by_cases e:a=b
 ·subst e;simp
 ·have h:¬ (Sum.inl a:Key)=Sum.inl b:=λq=>e (Sum.inl.inj q)
  rw[decide_eq_false h]
  exact(beq_eq_false_iff_ne.mpr e).symm
theorem key_rr (a b:Str):decide ((Sum.inr a:Key)=Sum.inr b)=decide (a=b):=by
 by_cases e:a=b
 ·subst e;simp
 ·have h:¬ (Sum.inr a:Key)=Sum.inr b:=λq=>e (Sum.inr.inj q)
  rw[decide_eq_false h,decide_eq_false e]
theorem key_lr (a:Int)(b:Str):decide ((Sum.inl a:Key)=Sum.inr b)=false:=decide_eq_false (λq=>nomatch q)
theorem key_rl (a:Str)(b:Int):decide ((Sum.inr a:Key)=Sum.inl b)=false:=decide_eq_false (λq=>nomatch q)
def zj (prog:Program)(w:World):PySem.KeyKind prog w Key where
 is:=Xi
 hash:=keyH w
 inj:=λv a b ha hb=>by
  rcases zR ha with⟨i,t,rfl,rfl⟩|⟨x,t,rfl,rfl⟩
  ·rcases zR hb with⟨j,u,rfl,e⟩|⟨y,u,rfl,e⟩
   ·injection e with e1 _;rw[e1]
   ·exact nomatch e
  ·rcases zR hb with⟨j,u,rfl,e⟩|⟨y,u,rfl,e⟩
   ·exact nomatch e
   ·injection e with e1 _;rw[e1]
 byValue:=λk v h=>by
  rcases zR h with⟨i,t,rfl,rfl⟩|⟨x,t,rfl,rfl⟩ <;> rfl
 pyHash:=λhv h=>by
  rcases zR hv with⟨i,t,rfl,rfl⟩|⟨x,t,rfl,rfl⟩
  ·exact wpAny_pyHash_int h
  ·exact wpAny_pyHash_str h
 eqBool:=λhu hv h=>by
  rcases zR hu with⟨i,t,rfl,rfl⟩|⟨x,t,rfl,rfl⟩
  ·rcases zR hv with⟨j,u,rfl,rfl⟩|⟨y,u,rfl,rfl⟩
   ·rw[key_ll] at h;exact wpAny_eqBool_int h
   ·rw[key_lr] at h;exact SeqAt.EqAt.int_str i t y u _ _ _ _ h
  ·rcases zR hv with⟨j,u,rfl,rfl⟩|⟨y,u,rfl,rfl⟩
   ·rw[key_rl] at h;exact SeqAt.EqAt.str_int x t j u _ _ _ _ h
   ·rw[key_rr] at h;exact wpAny_eqBool_str h
 «strs»:=λk x t v h=>by
  rcases zR h with⟨i,u,rfl,e⟩|⟨y,u,rfl,e⟩
  ·exact nomatch e
  ·injection e with e1 _
   subst e1
   cases v <;> rfl
theorem J1 (prog:Program)(w:World)(i:Int)(t:Tok):(zj prog w).is (.inl i) (.int i t)=true:=XY i t
theorem Jf (prog:Program)(w:World)(x:Str)(t:Tok):(zj prog w).is (.inr x) (.str x t)=true:=VI x t
inductive V where
 |non|bl (b:Bool)|int (i:Int)|str (x:Str)|byt (b:Array UInt8)|flt (b:UInt64)|ref (a:Addr)|ty (n:String)
 deriving DecidableEq
def zV:V->Value->Prop
 |.non,u=>u=Value.none
 |.bl b,u=>u=Value.bool b
 |.int i,u=>∃ t,u=Value.int i t
 |.str x,u=>∃ t,u=Value.str x t
 |.byt b,u=>∃ t,u=Value.bytes b t
 |.flt b,u=>∃ t,u=Value.float b t
 |.ref a,u=>u=Value.ref a
 |.ty n,u=>u=Value.type n
abbrev zA:List V->List Value->Prop:=Paired zV
theorem zA.length (r:zA xs us):xs.length=us.length:=Paired.length r
theorem zA.get:∀ {xs:List V} {us:List Value} {i:Nat} {x:V},zA xs us->xs[i]?=some x->∃ u,us[i]?=some u/\zV x u
 |_,_,_,_,.nil,e=>by simp at e
 |_,_,0,_,.cons r _,e=>by simp at e;subst e;exact⟨_,rfl,r⟩
 |_,_,i+1,x,.cons _ t,e=>by
  obtain⟨u,h1,h2⟩:=zA.get (i:=i) (x:=x) t (by simpa using e)
  exact⟨u,by simpa using h1,h2⟩
theorem zA.set {x:V}{u:Value}(r:zV x u):∀ {xs:List V} {us:List Value} (i:Nat),zA xs us->zA (xs.set i x) (us.set i u)
 |_,_,_,.nil=>.nil
 |_,_,0,.cons _ t=>.cons r t
 |_,_,i+1,.cons q t=>.cons q (zA.set r i t)
theorem zA.append:∀ {xs ys:List V} {us ws:List Value},zA xs us->zA ys ws->zA (xs++ys) (us++ws)
 |_,_,_,_,.nil,s=>s
 |_,_,_,_,.cons r t,s=>.cons r (zA.append t s)
theorem zA.take:∀ {xs:List V} {us:List Value} (n:Nat),zA xs us->zA (xs.take n) (us.take n)
 |_,_,0,_=>.nil
 |_,_,_+1,.nil=>.nil
 |_,_,n+1,.cons r t=>.cons r (zA.take n t)
theorem zA.drop:∀ {xs:List V} {us:List Value} (n:Nat),zA xs us->zA (xs.drop n) (us.drop n)
 |_,_,0,r=>r
 |_,_,_+1,.nil=>.nil
 |_,_,n+1,.cons _ t=>zA.drop n t
theorem zA.none_of:∀ {xs:List V} {us:List Value} {i:Nat},zA xs us->xs[i]?=none->us[i]?=none:=λ{xs us i} r e=>by
 have h1:=r.length
 have h2:xs.length<=i:=List.getElem?_eq_none_iff.mp e
 exact List.getElem?_eq_none_iff.mpr (by omega)
def yz:Option V->Option Value->Prop
 |some v,some u=>zV v u
 |none,none=>True
 |_,_=>False
def KV {κ:Type}:List (κ×V)->List (κ×Value)->Prop:=Paired λ(p:κ×V) (q:κ×Value)=>p.1=q.1/\zV p.2 q.2
def kV:Key->V
 |.inl i=>.int i
 |.inr x=>.str x
inductive HO where
  |lst (xs:List V)
  |tup (xs:List V)
  |dK (kvs:List (Key×V))|dT (kvs:List (List Key×V))
  |set (S:Int->Bool) (n:Nat)
  |ins (C dx:Addr) (fs:List (Str×V))
  |own (x:Addr)
  |xd (fs:List (Str×V))
  |met (f x:Addr)
  |rng (lo hi:Int)
  |frz (o:Obj) (u:HO)
  |tbl (ps:Array Value)
  |ext (φ:Heap->Prop)
abbrev Hp:=Addr->Option HO
def upd (H:Hp)(a:Addr)(o:HO):Hp:=λb=>if b=a then some o else H b
theorem qg:upd H a o a=some o:=by unfold upd;rw[if_pos rfl]
theorem qp (h:b≠a):upd H a o b=H b:=by unfold upd;rw[if_neg h]
theorem YW {u:HO}:upd (upd H a o) a u=upd H a u:=by
 funext b;unfold upd;split <;> rfl
theorem xZ {u:HO}(h:H a=some o)(h':H b=some u)(d:o≠u):a≠b:=by
 intro e;subst e;rw[h] at h';exact d (Option.some.inj h')
theorem qj (h:H a=some o)(h':H b=none):a≠b:=by
 intro e;subst e;rw[h] at h';cases h'
section
variable (P:Program)(w:World)
def ji (H:Hp)(h:Heap)(a:Addr):HO->Prop
 |.lst xs=>xs.length<=sizeLine/\∃ (its:List Value) (n:Nat),zA xs its/\h.get? a=some { cls:=.type "list",data:=.seq its.toArray n }
 |.tup xs=>xs.length<=sizeLine/\∃ its:List Value,zA xs its/\IsTup h a its.toArray
 |.dK kvs=>kvs.length<=sizeLine/\(a == sysModules)=false/\∃ vs,KV kvs vs/\h.DictOf (zj P w) a vs
 |.dT kvs=>kvs.length<=sizeLine/\(a == sysModules)=false/\∃ xs:List (List Key×Addr×Value),
   Paired (λ(p:List Key×V) (q:List Key×Addr×Value)=>p.1=q.1/\H q.2.1=some (.tup (p.1.map kV))/\zV p.2 q.2.2) kvs xs /\
   ∃ o es ep,h.get? a=some o/\o.ExactDict/\o.data=.dict es ep/\es.toList=xs.map (entryOfKey (tupleKind (zj P w)))/\(xs.map (·.1)).Nodup
 |.set S n=>h.SetOf (intKind P w) a S n
 |.ins C dx fs=>H dx=some (.own a)/\fs.length<=1000/\dx≠a/\h.get? a=some (PySem.W.instObj C dx) /\
   ∃ mA,h.Ns1 dx mA/\(∀ f,yz (fs.lookup f) (mA f))/\PySem.Within mA (fs.map (·.1))
 |.own _=>∃ o,h.get? a=some o
 |.xd fs=>∃ mA,h.Ns1 a mA/\∀ f,yz (fs.lookup f) (mA f)
 |.rng lo hi=>∃ t u v,h.get? a=some { cls:=.type "range",data:=.fields #[.int lo t,.int hi u,.int 1 v] }
 |.frz o u=>h.get? a=some o/\ji H h a u
 |.tbl ps=>h.get? a=some { cls:=.none,data:=.fields ps }
 |.met f x=>h.get? a=some (PySem.W.methodObj (.ref f) (.ref x))
 |.ext φ=>φ h/\(∃ o,h.get? a=some o)/\∀ h1 h2:Heap,φ h1->(∀ o,h1.get? a=some o->h2.get? a=some o)->φ h2
def HOk (H:Hp)(h:Heap):Prop:=∀ a o,H a=some o->ji P w H h a o
end
section
variable {P:Program}{w:World}{H H':Hp}{h h':Heap}{a:Addr}{o:HO}
theorem ji.lt (x:ji P w H h a o):a<h.objs.size:=by
 cases o with
 |lst xs=>obtain⟨_,_,_,_,e⟩:=x;exact Heap.lt_size e
 |tup xs=>obtain⟨_,_,_,p⟩:=x;exact p.lt
 |dK kvs=>obtain⟨_,_,_,_,o,_,_,e,_⟩:=x;exact Heap.lt_size e
 |dT kvs=>obtain⟨_,_,_,_,o,_,_,e,_⟩:=x;exact Heap.lt_size e
 |set S n=>obtain⟨o,_,_,_,e,_⟩:=x;exact Heap.lt_size e
 |ins C dx fs=>obtain⟨_,_,_,e,_⟩:=x;exact Heap.lt_size e
 |own y=>obtain⟨_,e⟩:=x;exact Heap.lt_size e
 |xd fs=>obtain⟨_,⟨_,_,_,e,_⟩,_⟩:=x;exact Heap.lt_size e
 |rng lo hi=>obtain⟨_,_,_,e⟩:=x;exact Heap.lt_size e
 |frz ob u=>obtain⟨e,_⟩:=x;exact Heap.lt_size e
 |tbl ps=>exact Heap.lt_size (show h.get? a=some _ from x)
 |met f y=>exact Heap.lt_size (show h.get? a=some _ from x)
 |ext φ=>obtain⟨_,⟨_,e⟩,_⟩:=x;exact Heap.lt_size e
theorem Paired.mapP {α β:Type}{F G:α->β->Prop}:∀ {l₁:List α} {l₂:List β},Paired F l₁ l₂->(∀ a b,F a b->G a b)->Paired G l₁ l₂
 |_,_,.nil,_=>.nil
 |_,_,.cons r t,f=>.cons (f _ _ r) (Paired.mapP t f)
theorem ji.stay (x:ji P w H h a o)(k:∀ b u,(b=a\/H b=some (.own a))->h.get? b=some u->h'.get? b=some u)
  (ho:∀ b,H b=some (.own a)->H' b=some (.own a)) (ht:∀ b xs,H b=some (.tup xs)->H' b=some (.tup xs)):ji P w H' h' a o:=by
 induction o with
 |lst xs=>obtain⟨z,its,n,r,e⟩:=x;exact⟨z,its,n,r,k _ _ (.inl rfl) e⟩
 |tup xs=>obtain⟨z,its,r,ob,e,c⟩:=x;exact⟨z,its,r,ob,k _ _ (.inl rfl) e,c⟩
 |dK kvs=>obtain⟨z,y,vs,r,ob,es,ep,e,c⟩:=x;exact⟨z,y,vs,r,ob,es,ep,k _ _ (.inl rfl) e,c⟩
 |dT kvs=>
  obtain⟨z,y,xs,r,ob,es,ep,e,c⟩:=x
  exact⟨z,y,xs,Paired.mapP r λp q z=>⟨z.1,ht _ _ z.2.1,z.2.2⟩,ob,es,ep,k _ _ (.inl rfl) e,c⟩
 |set S n=>obtain⟨ob,es,ep,t,e,c⟩:=x;exact⟨ob,es,ep,t,k _ _ (.inl rfl) e,c⟩
 |ins C dx fs=>
  obtain⟨d,z,ne,e,mA,⟨od,es,ep,e2,c⟩,r⟩:=x
  exact⟨ho _ d,z,ne,k _ _ (.inl rfl) e,mA,⟨od,es,ep,k _ _ (.inr d) e2,c⟩,r⟩
 |own y=>obtain⟨ob,e⟩:=x;exact⟨ob,k _ _ (.inl rfl) e⟩
 |xd fs=>obtain⟨mA,⟨od,es,ep,e,c⟩,r⟩:=x;exact⟨mA,⟨od,es,ep,k _ _ (.inl rfl) e,c⟩,r⟩
 |rng lo hi=>obtain⟨t,u,v,e⟩:=x;exact⟨t,u,v,k _ _ (.inl rfl) e⟩
 |frz ob u ih=>obtain⟨e,q⟩:=x;exact⟨k _ _ (.inl rfl) e,ih q⟩
 |tbl ps=>
  have e:h.get? a=some { cls:=.none,data:=.fields ps }:=x
  show h'.get? a=some { cls:=.none,data:=.fields ps }
  exact k a _ (.inl rfl) e
 |met f y=>
  have e:h.get? a=some (PySem.W.methodObj (.ref f) (.ref y)):=x
  show h'.get? a=some (PySem.W.methodObj (.ref f) (.ref y))
  exact k a _ (.inl rfl) e
 |ext φ=>obtain⟨p,⟨o,e⟩,st⟩:=x;exact⟨st _ _ p λo q=>k _ _ (.inl rfl) q,⟨o,k _ _ (.inl rfl) e⟩,st⟩
theorem HOk.lt (x:HOk P w H h)(e:H a=some o):a<h.objs.size:=(x a o e).lt
theorem HOk.fresh (x:HOk P w H h)(e:h.objs.size<=a):H a=none:=by
 cases q:H a with
 |none=>rfl
 |some u=>exact absurd (Nat.lt_of_lt_of_le (x.lt q) e) (Nat.lt_irrefl _)
theorem HOk.kept (x:HOk P w H h)(k:∀ b u,h.get? b=some u->h'.get? b=some u):HOk P w H h':=λa o e=>
 (x a o e).stay (λb u _ q=>k b u q) (λ_ q=>q) λ_ _ q=>q
theorem HOk.laid (x:HOk P w H h)(k:∀ b u,h.get? b=some u->h'.get? b=some u)(hp:h.objs.size<=a)(new:ji P w (upd H a o) h' a o):HOk P w (upd H a o) h':=λb u e=>by
 have hn:=x.fresh hp
 by_cases hb:b=a
 ·subst hb;rw[qg] at e;cases e;exact new
 ·rw[qp hb] at e
  exact(x b u e).stay (λc v _ q=>k c v q) (λc q=>by rw[qp (qj q hn)];exact q) λc xs q=>by rw[qp (qj q hn)];exact q
end
def Rd (H:Hp)(a:Addr)(u:HO):Prop:=H a=some u\/∃ o,H a=some (.frz o u)
theorem Rd.of {u:HO}(h:H a=some u):Rd H a u:=.inl h
theorem Rd.ok {u:HO}(r:Rd H a u)(x:HOk P w H h):ji P w H h a u:=by
 rcases r with r|⟨o,r⟩
 ·exact x a u r
 ·obtain⟨_,q⟩:=x a _ r
  exact q
def Mut:Option HO->Prop
 |some (.lst _)=>True
 |some (.dK _)=>True
 |some (.dT _)=>True
 |some (.set _ _)=>True
 |some (.ins _ _ _)=>True
 |some (.ext _)=>True
 |_=>False
section
variable {P:Program}{w:World}{H:Hp}{h h':Heap}{x e:Addr}{o':HO}
theorem HOk.write (ok:HOk P w H h)(mu:Mut (H x))(he:e=x\/H e=some (.own x))(k:∀ b u,b≠e->h.get? b=some u->h'.get? b=some u)(heo:∃ u,h'.get? e=some u)
  (new:ji P w (upd H x o') h' x o'):HOk P w (upd H x o') h':=λb u q=>by
 have nown:∀ c y,H c=some (.own y)->c≠x:=λc y r z=>by subst z;rw[r] at mu;exact mu
 have ntup:∀ c xs,H c=some (.tup xs)->c≠x:=λc xs r z=>by subst z;rw[r] at mu;exact mu
 by_cases hb:b=x
 ·subst hb;rw[qg] at q;cases q;exact new
 ·rw[qp hb] at q
  by_cases hbe:b=e
  ·have q':H b=some (.own x):=by
    rcases he with z|z
    ·exact absurd (hbe.trans z) hb
    ·rw[hbe];exact z
   rw[q] at q';cases q'
   obtain⟨v,hv⟩:=heo
   exact⟨v,by rw[hbe];exact hv⟩
  ·refine(ok b u q).stay (λc v hc r=>k c v ?_ r) (λc r=>by rw[qp (nown c b r)];exact r) λc xs r=>by rw[qp (ntup c xs r)];exact r
   rcases hc with rfl|hc
   ·exact hbe
   ·rintro rfl
    rcases he with z|z
    ·exact nown c b hc z
    ·rw[hc] at z;cases z;exact hb rfl
end
structure Un (fs ex:List Addr)(H H':Hp)(h h':Heap):Prop where
 keep:∀ b o,h.get? b=some o->H b=none->b ∉ fs->b ∉ ex->h'.get? b=some o
 slot:∀ b o,h.get? b=some o->H b=none->b∈fs->b ∉ ex->∃ sl,h'.get? b=some { o with slots:=sl }
 free:∀ b o,h.get? b=some o->H b=none->b ∉ ex->H' b=none
 there:∀ b o,h.get? b=some o->b ∉ ex->∃ o',h'.get? b=some o'
 tups:∀ b xs,H b=some (.tup xs)->H' b=some (.tup xs)
 frzs:∀ b o u,H b=some (.frz o u)->H' b=some (.frz o u)
 tbls:∀ b ps,H b=some (.tbl ps)->∃ more,H' b=some (.tbl (ps++more))
section
variable {fs fs' ex ex':List Addr}{H H1 H2:Hp}{h h1 h2 h':Heap}{a x e:Addr}{o:HO}
theorem Un.any (u:Un fs ex H H1 h h1){ob:Obj}(q:h.get? b=some ob)(n:H b=none)(hx:b ∉ ex):∃ sl,h1.get? b=some { ob with slots:=sl }:=by
 by_cases hb:b∈fs
 ·exact u.slot b ob q n hb hx
 ·exact⟨ob.slots,u.keep b ob q n hb hx⟩
theorem Un.trans (a:Un fs ex H H1 h h1)(b:Un fs ex H1 H2 h1 h2):Un fs ex H H2 h h2 where
 keep:=λc ob q n hc hx=>b.keep c ob (a.keep c ob q n hc hx) (a.free c ob q n hx) hc hx
 slot:=λc ob q n hc hx=>by
  obtain⟨sl,e1⟩:=a.slot c ob q n hc hx
  obtain⟨sl',e2⟩:=b.slot c _ e1 (a.free c ob q n hx) hc hx
  exact⟨sl',e2⟩
 free:=λc ob q n hx=>by
  obtain⟨o',e1⟩:=a.there c ob q hx
  exact b.free c o' e1 (a.free c ob q n hx) hx
 there:=λc ob q hx=>by
  obtain⟨o',e1⟩:=a.there c ob q hx
  exact b.there c o' e1 hx
 tups:=λc xs q=>b.tups c xs (a.tups c xs q)
 frzs:=λc ob xs q=>b.frzs c ob xs (a.frzs c ob xs q)
 tbls:=λc ps q=>by
  obtain⟨m1,e1⟩:=a.tbls c ps q
  obtain⟨m2,e2⟩:=b.tbls c _ e1
  exact⟨m1++m2,by rw[e2,Array.append_assoc]⟩
theorem Un.kept (k:∀ b u,h.get? b=some u->h'.get? b=some u):Un fs ex H H h h':=
 ⟨λb ob q _ _ _=>k b ob q,λb ob q _ _ _=>⟨ob.slots,k b ob q⟩,λ_ _ _ n _=>n,λb ob q _=>⟨ob,k b ob q⟩,λ_ _ q=>q,λ_ _ _ q=>q,λ_ ps q=>⟨#[],by rw[q];simp⟩⟩
theorem Un.refl:Un fs ex H H h h:=Un.kept λ_ _ q=>q
theorem Un.laid (k:∀ b u,h.get? b=some u->h'.get? b=some u)(hp:h.objs.size<=a)(hn:H a=none):Un fs ex H (upd H a o) h h' where
 keep:=λb u q _ _ _=>k b u q
 slot:=λb u q _ _ _=>⟨u.slots,k b u q⟩
 free:=λb u q n _=>by rw[qp (Nat.ne_of_lt (Nat.lt_of_lt_of_le (Heap.lt_size q) hp))];exact n
 there:=λb u q _=>⟨u,k b u q⟩
 tups:=λb xs q=>by rw[qp (qj q hn)];exact q
 frzs:=λb u xs q=>by rw[qp (qj q hn)];exact q
 tbls:=λb ps q=>⟨#[],by rw[qp (qj q hn),q];simp⟩
theorem Un.write (mu:Mut (H x))(he:e=x\/H e=some (.own x))(k:∀ b u,b≠e->h.get? b=some u->h'.get? b=some u)(heo:∃ u,h'.get? e=some u):Un fs ex H (upd H x o) h h':=by
 have hx:∀ b,H b=none->b≠x:=λb n z=>by subst z;rw[n] at mu;exact mu
 have hb:∀ b,H b=none->b≠e:=λb n z=>by
  subst z
  rcases he with r|r
  ·exact hx b n r
  ·rw[n] at r;cases r
 have hm:∀ b u,H b=some u->¬ Mut (some u)->b≠x:=λb u q nm z=>by subst z;rw[q] at mu;exact nm mu
 refine⟨λb u q n _ _=>k b u (hb b n) q,λb u q n _ _=>⟨u.slots,k b u (hb b n) q⟩,λb u q n _=>by rw[qp (hx b n)];exact n,λb u q _=>?_,
  λb xs q=>by rw[qp (hm b _ q λz=>z)];exact q,λb u xs q=>by rw[qp (hm b _ q λz=>z)];exact q,λb ps q=>⟨#[],by rw[qp (hm b _ q λz=>z),q];simp⟩⟩
 by_cases hbe:b=e
 ·subst hbe;exact heo
 ·exact⟨u,k b u hbe q⟩
theorem Un.mono (u:Un fs ex H H1 h h1)(hs:∀ b∈fs,b∈fs')(hx:∀ b∈ex,b∈ex'):Un fs' ex' H H1 h h1:=
 ⟨λb ob q n hb he=>u.keep b ob q n (λz=>hb (hs b z)) λz=>he (hx b z),λ_ _ q n _ he=>u.any q n λz=>he (hx _ z),λb ob q n he=>u.free b ob q n λz=>he (hx b z),λb ob q he=>u.there b ob q λz=>he (hx b z),u.tups,u.frzs,u.tbls⟩
end
def trk (h:Heap)(H:Hp):List Addr:=(List.range h.objs.size).filter λa=>(H a).isSome
def W5 (h:Heap)(H:Hp):Heap:=PySem.W.hideAll h (trk h H)
theorem Ve (h:Heap)(H:Hp):(W5 h H).objs.size=h.objs.size:=PySem.W.hideAll_size _ _
theorem KZ {o:Obj}(e:h.get? b=some o)(n:H b=none):(W5 h H).get? b=some o:=
 PySem.W.hideAll_get _ e λhm=>by
  have q:(H b).isSome=true:=(List.mem_filter.mp hm).2
  rw[n] at q;simp at q
theorem YT {o:Obj}(e:(W5 h H).get? b=some o):h.get? b=some o/\H b=none:=by
 have e':h.get? b=some o:=PySem.W.of_hideAll (trk h H) e
 refine⟨e',?_⟩
 cases q:H b with
 |none=>rfl
 |some x=>
  have hm:b∈trk h H:=List.mem_filter.mpr ⟨List.mem_range.mpr (Heap.lt_size e'),by simp[q]⟩
  have z:(W5 h H).get? b=none:=PySem.W.hideAll_none (trk h H) hm
  rw[z] at e;cases e
def YI (g h:Heap)(L:Addr):List (Addr×Obj):=(List.range h.objs.size).filterMap λa=>if a=L\/(g.get? a).isSome=true then none else(h.get? a).map λo=>(a,o)
def xM (g h:Heap)(L d:Addr):List (Addr×Obj):=(YI g h L).filter λp=>decide (p.1≠d)
structure Mod (K:PySem.W.Frag)(mg:Str->Option Value)(base:Heap):Prop where
 kin:K.In base
 glob:base.Ns mainGlobals mg
 blt:∃ mb,base.Ns builtinsNs mb/\∀ x:Str,x≠"__name__"->mb x=bootBuiltins x
 nolimit:base.NoLimit
structure Cx where
 prog:Program
 w:World
 K:PySem.W.Frag
 mg:Str->Option Value
 base:Heap
 A:Around
 N:List Str
 s₀:Shared
 H₀:Hp
 env:Env
 outer:List Env
 stack:List Env
 ex:List Addr
 fn:Str->Bool
 calm:Bool
 pn:List (Addr×Obj)
 xe:Value->Shared->Prop
def frs (l:List Env):List Addr:=l.filterMap (·.frame)
abbrev Cx.fs (X:Cx):List Addr:=frs X.outer
def Vis (sc:Scope)(x:Str):Prop:=sc.names.lookup x=some .local\/sc.names.lookup x=some .cell\/sc.names.lookup x=some .free
def Loc (sc:Scope)(x:Str):Prop:=sc.names.lookup x=some .local\/sc.names.lookup x=some .cell
def Look (env:Env)(h:Heap)(m:Str->Option Value)(x:Str)(u:Value):Prop:=
 (env.kindOf x=some .local/\m x=some u)\/((env.kindOf x=some .cell\/env.kindOf x=some .free)/\∃ c,env.cells.lookup x=some c/\h.IsCell c (some u))
structure Cx.Ok (X:Cx):Prop where
 mod:Mod X.K X.mg X.base
 kind:X.env.scope.kind=.function
 glob:X.env.globals=mainGlobals
 blt:X.env.builtins=builtinsNs
 above:X.s₀.heap.objs.size<=X.env.locals
 inj:∀ x y c,X.env.cells.lookup x=some c->X.env.cells.lookup y=some c->x=y
 has:∀ x,(X.env.kindOf x=some .cell\/X.env.kindOf x=some .free)->∃ c,X.env.cells.lookup x=some c
 cab:∀ x c,X.fn x=true->X.env.cells.lookup x=some c->X.s₀.heap.objs.size<=c
 hd:X.calm=true->X.A.handled=none
 frames:X.A.frames=some X.stack
 stk:X.stack=X.outer\/(X.stack=X.env::X.outer/\X.env.frame=some X.env.locals)
 exf:∀ b∈X.ex,b≠X.env.locals/\∀ x c,X.env.cells.lookup x=some c->c≠b
 bs:∀ b o,X.base.get? b=some o->X.s₀.heap.get? b=some o/\X.H₀ b=none
 bsz:X.base.objs.size<=X.s₀.heap.objs.size
 noex:∀ b o,X.base.get? b=some o->b ∉ X.ex
 exfs:∀ b∈X.ex,b ∉ X.fs
 funs:X.s₀.heap.FunFrames X.base X.outer
 frf:∀ b∈X.fs,X.H₀ b=none
structure Inv (X:Cx)(pins:List (Addr×Obj))(σ:List (Option V))(H:Hp)(s:Shared):Prop where
 ok:X.Ok
 os:s.os=X.s₀.os
 bare:AllBare s.gens
 base:Un X.fs X.ex X.H₀ H X.s₀.heap s.heap
 loc:∃ m,s.heap.Ns X.env.locals m/\∀ (i:Nat) (x:Str) (v:V),X.N[i]?=some x->σ[i]?=some (some v)->Vis X.env.scope x->∃ u,zV v u/\Look X.env s.heap m x u
 cell:∀ x c,X.env.cells.lookup x=some c->∃ v,s.heap.IsCell c v
 free:H X.env.locals=none
 freeC:∀ x c,X.env.cells.lookup x=some c->H c=none
 pin:∀ p∈X.pn++pins,s.heap.get? p.1=some p.2/\H p.1=none/\p.1≠X.env.locals/\p.1 ∉ X.fs/\∀ v,p.2.data≠.cell v
 hok:HOk X.prog X.w H s.heap
 len:σ.length=X.N.length
section
variable {X:Cx}{pins:List (Addr×Obj)}{σ:List (Option V)}{H H':Hp}{s:Shared}{h':Heap}
theorem Cx.Ok.nofr (ok:X.Ok){o:Obj}(e:X.base.get? b=some o):b ∉ X.fs:=λhb=>by
 have:=(ok.funs.mem hb).1
 rw[e] at this;cases this
theorem Inv.bs (I:Inv X pins σ H s):∀ b o,X.base.get? b=some o->s.heap.get? b=some o/\H b=none:=λb o e=>
 ⟨I.base.keep b o (I.ok.bs b o e).1 (I.ok.bs b o e).2 (I.ok.nofr e) (I.ok.noex b o e),I.base.free b o (I.ok.bs b o e).1 (I.ok.bs b o e).2 (I.ok.noex b o e)⟩
theorem Inv.bk (I:Inv X pins σ H s):∀ b o,X.base.get? b=some o->s.heap.get? b=some o:=λb o e=>(I.bs b o e).1
theorem Inv.mod (I:Inv X pins σ H s):Mod X.K X.mg X.base:=I.ok.mod
theorem Inv.kIn (I:Inv X pins σ H s):X.K.In s.heap:=I.ok.mod.kin.keeps I.bk
theorem Inv.nolimit (I:Inv X pins σ H s):s.heap.NoLimit:=I.ok.mod.nolimit.keeps I.bk
theorem Inv.fr (I:Inv X pins σ H s):∃ m,Fr X.base X.env.locals s.heap m:=
 let ⟨m,hn,_⟩:=I.loc
 ⟨m,hn,I.bk,Nat.le_trans I.ok.bsz I.ok.above⟩
theorem Inv.lt (I:Inv X pins σ H s):X.env.locals<s.heap.objs.size:=let ⟨_,hn,_⟩:=I.loc;hn.lt
theorem Inv.sz (I:Inv X pins σ H s):X.s₀.heap.objs.size<=s.heap.objs.size:=Nat.le_trans I.ok.above (Nat.le_of_lt I.lt)
theorem Inv.nofs (I:Inv X pins σ H s)(h:s.heap.objs.size<=a):a ∉ X.fs:=λhb=>by
 obtain⟨_,o,ho,_⟩:=I.ok.funs.mem hb
 exact absurd (Nat.lt_of_lt_of_le (Heap.lt_size ho) (Nat.le_trans I.sz h)) (Nat.lt_irrefl _)
theorem Inv.cne (I:Inv X pins σ H s):∀ x c,X.env.cells.lookup x=some c->c≠X.env.locals:=λx c e z=>by
 obtain⟨v,o,ho,hd⟩:=I.cell x c e
 obtain⟨m,⟨o',es,ep,ho',hd',_⟩,_⟩:=I.loc
 rw[z,ho'] at ho;cases ho;rw[hd'] at hd;cases hd
theorem Inv.funs (I:Inv X pins σ H s):s.heap.FunFrames X.base X.outer:=by
 have all:∀ (l:List Env),(∀ b∈frs l,b∈X.fs)->X.s₀.heap.FunFrames X.base l->s.heap.FunFrames X.base l:=by
  intro l
  induction l with
  |nil=>intro _ _;trivial
  |cons env r ih=>
   intro hs hl
   obtain⟨hk,⟨L,o,hf,hn,ho,hd⟩,hr⟩:=hl
   have hL:L∈X.fs:=hs L (by unfold frs;rw[List.filterMap_cons,hf];exact List.mem_cons_self)
   obtain⟨sl,e⟩:=I.base.slot L o ho (I.ok.frf L hL) hL λz=>I.ok.exfs L z hL
   exact⟨hk,⟨L,_,hf,hn,e,hd⟩,ih (λb hb=>hs b (by unfold frs;rw[List.filterMap_cons,hf];exact List.mem_cons_of_mem _ hb)) hr⟩
 exact all X.outer (λ_ hb=>hb) I.ok.funs
theorem Inv.stack (I:Inv X pins σ H s):s.heap.FunFrames X.base X.stack:=by
 rcases I.ok.stk with e|⟨e,hf⟩
 ·rw[e];exact I.funs
 ·rw[e]
  obtain⟨m,hn,_⟩:=I.loc
  refine .cons (by rw[I.ok.kind];decide) hf hn ?_ I.funs
  exact Heap.get?_none_of_le (Nat.le_trans I.ok.bsz I.ok.above)
theorem Inv.stkSub (I:Inv X pins σ H s):∀ b∈frs X.stack,b∈X.env.locals::X.fs:=λb hb=>by
 rcases I.ok.stk with e|⟨e,hf⟩
 ·rw[e] at hb;exact List.mem_cons_of_mem _ hb
 ·rw[e] at hb
  unfold frs at hb
  rw[List.filterMap_cons,hf] at hb
  exact hb
theorem Inv.stkFree (I:Inv X pins σ H s):∀ b∈frs X.stack,H b=none:=λb hb=>by
 rcases List.mem_cons.mp (I.stkSub b hb) with e|hb
 ·rw[e];exact I.free
 ·obtain⟨_,o,ho,_⟩:=I.ok.funs.mem hb
  exact I.base.free b o ho (I.ok.frf b hb) λz=>I.ok.exfs b z hb
theorem Inv.step {g':Array GenState}{d':Drawn}(I:Inv X pins σ H s)
  (hch:∀ b∈ch,(b∈X.ex\/X.s₀.heap.objs.size<=b)/\b≠X.env.locals/\(∀ x c,X.env.cells.lookup x=some c->c≠b)/\∀ p∈X.pn++pins,p.1≠b)
  (keep:∀ b o,b≠X.env.locals->b ∉ X.fs->b ∉ ch->s.heap.get? b=some o->H b=none->h'.get? b=some o)
  (slot:∀ b o,b≠X.env.locals->b∈X.fs->b ∉ ch->s.heap.get? b=some o->H b=none->∃ sl,h'.get? b=some { o with slots:=sl }) (free:∀ b o,b ∉ ch->s.heap.get? b=some o->H b=none->H' b=none)
  (there:∀ b o,b ∉ ch->s.heap.get? b=some o->∃ o',h'.get? b=some o')
  (tups:∀ b xs,H b=some (.tup xs)->H' b=some (.tup xs)) (frzs:∀ b o u,H b=some (.frz o u)->H' b=some (.frz o u)) (tbls:∀ b ps,H b=some (.tbl ps)->∃ more,H' b=some (.tbl (ps++more)))
  (ns:∀ m,s.heap.Ns X.env.locals m->h'.Ns X.env.locals m) (hok:HOk X.prog X.w H' h') (hg:AllBare g'):
  Inv X pins σ H' { s with heap:=h',gens:=g',drawn:=d',toks:=t' }:=by
 have neL:∀ b o,X.s₀.heap.get? b=some o->b≠X.env.locals:=λb o e=>Nat.ne_of_lt (Nat.lt_of_lt_of_le (Heap.lt_size e) I.ok.above)
 have neC:∀ b o,X.s₀.heap.get? b=some o->b ∉ X.ex->b ∉ ch:=λb o e hx hb=>by
  rcases(hch b hb).1 with z|z
  ·exact hx z
  ·exact absurd (Nat.lt_of_lt_of_le (Heap.lt_size e) z) (Nat.lt_irrefl _)
 have cellK:∀ x c,X.env.cells.lookup x=some c->∀ v,s.heap.IsCell c v->h'.IsCell c v:=λx c e v ⟨o,ho,hd⟩=>by
  have nch:c ∉ ch:=λz=>(hch c z).2.2.1 x c e rfl
  by_cases hc:c∈X.fs
  ·obtain⟨sl,q⟩:=slot c o (I.cne x c e) hc nch ho (I.freeC x c e)
   exact⟨_,q,hd⟩
  ·exact⟨o,keep c o (I.cne x c e) hc nch ho (I.freeC x c e),hd⟩
 refine⟨I.ok,I.os,hg,⟨λb o e n hb hx=>?_,λb o e n hb hx=>?_,λb o e n hx=>?_,λb o e hx=>?_,λb xs e=>tups b xs (I.base.tups b xs e),λb o xs e=>frzs b o xs (I.base.frzs b o xs e),λb ps e=>?_⟩,?_,λx c e=>?_,?_,λx c e=>?_,λp hp=>?_,hok,I.len⟩
 ·exact keep b o (neL b o e) hb (neC b o e hx) (I.base.keep b o e n hb hx) (I.base.free b o e n hx)
 ·obtain⟨sl,e1⟩:=I.base.slot b o e n hb hx
  obtain⟨sl',e2⟩:=slot b _ (neL b o e) hb (neC b o e hx) e1 (I.base.free b o e n hx)
  exact⟨sl',e2⟩
 ·obtain⟨o',e1⟩:=I.base.there b o e hx
  exact free b o' (neC b o e hx) e1 (I.base.free b o e n hx)
 ·obtain⟨o',e1⟩:=I.base.there b o e hx
  exact there b o' (neC b o e hx) e1
 ·obtain⟨m1,e1⟩:=I.base.tbls b ps e
  obtain⟨m2,e2⟩:=tbls b _ e1
  exact⟨m1++m2,by rw[e2,Array.append_assoc]⟩
 ·obtain⟨m,hn,hl⟩:=I.loc
  refine⟨m,ns m hn,λi x v e1 e2 e3=>?_⟩
  obtain⟨u,r,l⟩:=hl i x v e1 e2 e3
  refine⟨u,r,?_⟩
  rcases l with l|⟨k,c,e,z⟩
  ·exact .inl l
  ·exact .inr ⟨k,c,e,cellK x c e _ z⟩
 ·obtain⟨v,z⟩:=I.cell x c e
  exact⟨v,cellK x c e v z⟩
 ·obtain⟨m,⟨o,_,_,ho,_⟩,_⟩:=I.loc
  exact free _ o (λz=>(hch _ z).2.1 rfl) ho I.free
 ·obtain⟨v,o,ho,hd⟩:=I.cell x c e
  exact free c o (λz=>(hch c z).2.2.1 x c e rfl) ho (I.freeC x c e)
 ·obtain⟨e,n,ne,nf,d⟩:=I.pin p hp
  have nch:p.1 ∉ ch:=λz=>(hch p.1 z).2.2.2 p hp rfl
  exact⟨keep p.1 p.2 ne nf nch e n,free p.1 p.2 nch e n,ne,nf,d⟩
theorem Inv.un (I:Inv X pins σ H s)(u:Un X.fs [] H H' s.heap h')(hok:HOk X.prog X.w H' h'):Inv X pins σ H' { s with heap:=h',toks:=t' }:=by
 obtain⟨m,⟨o,es,ep,ho,r⟩,_⟩:=id I.loc
 obtain⟨sl,hL⟩:=u.any ho I.free (by simp)
 exact I.step (g':=s.gens) (d':=s.drawn) (ch:=[]) (λ_ z=>nomatch z) (λb o _ hb _ e n=>u.keep b o e n hb (by simp)) (λb o _ hb _ e n=>u.slot b o e n hb (by simp)) (λb o _ e n=>u.free b o e n (by simp)) (λb o _ e=>u.there b o e (by simp)) u.tups u.frzs u.tbls (λm' hm=>by
  obtain⟨o',es',ep',ho',r'⟩:=hm
  rw[ho] at ho';cases ho'
  exact⟨_,es',ep',hL,r'⟩) hok I.bare
theorem Inv.call {g':Array GenState}{d':Drawn}(I:Inv X pins σ H s)(u:Un (frs X.stack) ch H H' s.heap h')(hok:HOk X.prog X.w H' h')(hg:AllBare g')
  (hch:∀ b∈ch,(b∈X.ex\/X.s₀.heap.objs.size<=b)/\b≠X.env.locals/\(∀ x c,X.env.cells.lookup x=some c->c≠b)/\∀ p∈X.pn++pins,p.1≠b):
  Inv X pins σ H' { s with heap:=h',gens:=g',drawn:=d',toks:=t' }:=by
 obtain⟨m,⟨o,es,ep,ho,r⟩,_⟩:=id I.loc
 obtain⟨sl,hL⟩:=u.any ho I.free λz=>(hch _ z).2.1 rfl
 exact I.step (ch:=ch) hch (λb o hL hb hc e n=>u.keep b o e n (λz=>(List.mem_cons.mp (I.stkSub b z)).elim hL hb) hc) (λb o _ _ hc e n=>u.any e n hc) (λb o hc e n=>u.free b o e n hc) (λb o hc e=>u.there b o e hc) u.tups u.frzs u.tbls (λm' hm=>by
  obtain⟨o',es',ep',ho',r'⟩:=hm
  rw[ho] at ho';cases ho'
  exact⟨_,es',ep',hL,r'⟩) hok hg
theorem Inv.turned {it:Addr}(I:Inv X pins σ H s)(k:∀ b o,b≠it->s.heap.get? b=some o->h'.get? b=some o)(hn:H it=none)(hL:it≠X.env.locals)
  (h1:it∈X.ex\/X.s₀.heap.objs.size<=it) (h2:∀ x c,X.env.cells.lookup x=some c->c≠it) (h3:∀ p∈X.pn++pins,p.1≠it):Inv X pins σ H { s with heap:=h',toks:=t' }:=by
 have nit:∀ b u,H b=some u->b≠it:=λb u e z=>by rw[z,hn] at e;cases e
 refine I.step (g':=s.gens) (d':=s.drawn) (ch:=[it]) (λb hb=>?_) (λb o _ _ hc e _=>k b o (λz=>hc (by simp[z])) e) (λb o _ _ hc e _=>⟨o.slots,k b o (λz=>hc (by simp[z])) e⟩) (λ_ _ _ _ n=>n)
  (λb o hc e=>⟨o,k b o (λz=>hc (by simp[z])) e⟩) (λ_ _ e=>e) (λ_ _ _ e=>e) (λb ps e=>⟨#[],by rw[e];simp⟩) (λm hm=>?_) (λb u e=>?_) I.bare
 ·have e:b=it:=by simpa using hb
  subst e
  exact⟨h1,hL,h2,h3⟩
 ·obtain⟨o,es,ep,ho,r⟩:=hm
  exact⟨o,es,ep,k _ o (Ne.symm hL) ho,r⟩
 ·refine(I.hok b u e).stay (λc v hc q=>k c v ?_ q) (λ_ q=>q) λ_ _ q=>q
  rcases hc with z|z
  ·rw[z];exact nit b u e
  ·exact nit c _ z
theorem Inv.tok (I:Inv X pins σ H s)(t:Nat):Inv X pins σ H { s with toks:=t }:=I.un (h':=s.heap) (t':=t) Un.refl I.hok
theorem Inv.kept (I:Inv X pins σ H s)(k:∀ b u,s.heap.get? b=some u->h'.get? b=some u):Inv X pins σ H { s with heap:=h',toks:=t' }:=I.un (Un.kept k) (I.hok.kept k)
theorem Inv.laid (I:Inv X pins σ H s)(k:∀ b u,s.heap.get? b=some u->h'.get? b=some u)(hp:s.heap.objs.size<=a)(new:ji X.prog X.w (upd H a o) h' a o):
  Inv X pins σ (upd H a o) { s with heap:=h',toks:=t' }:=I.un (Un.laid k hp (I.hok.fresh hp)) (I.hok.laid k hp new)
theorem Inv.write {x e:Addr}(I:Inv X pins σ H s)(mu:Mut (H x))(he:e=x\/H e=some (.own x))(k:∀ b u,b≠e->s.heap.get? b=some u->h'.get? b=some u)(heo:∃ u,h'.get? e=some u)
  (new:ji X.prog X.w (upd H x o) h' x o):Inv X pins σ (upd H x o) { s with heap:=h',toks:=t' }:=I.un (Un.write mu he k heo) (I.hok.write mu he k heo new)
theorem Inv.pins_of {pins':List (Addr×Obj)}(I:Inv X pins σ H s)(h:∀ p∈pins',s.heap.get? p.1=some p.2/\H p.1=none/\p.1≠X.env.locals/\p.1 ∉ X.fs/\∀ v,p.2.data≠.cell v):Inv X pins' σ H s:=
 ⟨I.ok,I.os,I.bare,I.base,I.loc,I.cell,I.free,I.freeC,λp hp=>(List.mem_append.mp hp).elim (λz=>I.pin p (List.mem_append_left _ z)) (h p),I.hok,I.len⟩
theorem Qq (hN:N.Nodup)(a:N[i]?=some x)(b:N[j]?=some x):i=j:=by
 obtain⟨h1,e1⟩:=List.getElem?_eq_some_iff.mp a
 obtain⟨h2,e2⟩:=List.getElem?_eq_some_iff.mp b
 exact(List.getElem_inj hN).mp (e1.trans e2.symm)
theorem Zw {Q:Unit->Shared->Prop}(I:Inv X pins σ H s)(hN:X.N.Nodup)(hi:X.N[i]?=some x)(hx:Loc X.env.scope x)(r:zV v u)
  (h:∀ s',Inv X pins (σ.set i (some v)) H s'->(∃ a,Heap.SameBut a s.heap s'.heap/\(a=X.env.locals\/X.env.cells.lookup x=some a))->Q () s') (hf:X.fn x=true\/X.env.scope.names.lookup x=some .local:=by first|exact .inl rfl|exact .inr rfl|assumption):wpAny M A (storeName X.env x u) Q E s:=by
 obtain⟨m,hn,hl⟩:=id I.loc
 have hcls:(X.env.scope.kind == .class || (X.env.scope.kind == .module && X.env.locals != X.env.globals))=false:=by rw[I.ok.kind];rfl
 have hiσ:i<σ.length:=by rw[I.len];exact(List.getElem?_eq_some_iff.mp hi).1
 have cne:=I.cne
 have tracked:∀ {a:Addr} {h':Heap},(∃ o,s.heap.get? a=some o/\H a=none)->Heap.SameBut a s.heap h'->HOk X.prog X.w H h':=λ{a h'} ha hs b ob e=>by
  obtain⟨_,_,hfree⟩:=ha
  refine(I.hok b ob e).stay (λc w' hc q=>(hs.2 c ?_).trans q) (λ_ q=>q) λ_ _ q=>q
  rintro rfl
  rcases hc with rfl|hc
  ·rw[hfree] at e;cases e
  ·rw[hfree] at hc;cases hc
 rcases hx with hk|hk
 ·refine wpAny_storeName_local hk hn (λh' hn' hs=>?_) hcls
  obtain⟨oL,_,_,hoL,_⟩:=id hn
  refine h _ ⟨I.ok,I.os,I.bare,⟨λb o e n hb hx=>?_,λb o e n hb hx=>?_,I.base.free,λb o e hx=>?_,I.base.tups,I.base.frzs,I.base.tbls⟩,⟨_,hn',λj y v' e1 e2 e3=>?_⟩,λy c e=>?_,I.free,I.freeC,λp hp=>?_,tracked ⟨oL,hoL,I.free⟩ hs,by simpa using I.len⟩ ⟨_,hs,.inl rfl⟩
  ·exact(hs.2 b (Nat.ne_of_lt (Nat.lt_of_lt_of_le (Heap.lt_size e) I.ok.above))).trans (I.base.keep b o e n hb hx)
  ·obtain⟨sl,e1⟩:=I.base.slot b o e n hb hx
   exact⟨sl,(hs.2 b (Nat.ne_of_lt (Nat.lt_of_lt_of_le (Heap.lt_size e) I.ok.above))).trans e1⟩
  ·obtain⟨o',e1⟩:=I.base.there b o e hx
   exact⟨o',(hs.2 b (Nat.ne_of_lt (Nat.lt_of_lt_of_le (Heap.lt_size e) I.ok.above))).trans e1⟩
  ·by_cases hj:j=i
   ·subst hj
    rw[hi] at e1;cases e1
    rw[List.getElem?_set_self hiσ] at e2
    cases e2
    exact⟨u,r,.inl ⟨hk,by simp⟩⟩
   ·rw[List.getElem?_set_ne (Ne.symm hj)] at e2
    obtain⟨u',r',q⟩:=hl j y v' e1 e2 e3
    refine⟨u',r',?_⟩
    rcases q with⟨k,e⟩|⟨k,c,e,z⟩
    ·refine .inl ⟨k,?_⟩
     have:y≠x:=λe=>hj (Qq hN e1 (e ▸ hi))
     simp[this,e]
    ·exact .inr ⟨k,c,e,z.sameBut hs (cne y c e)⟩
  ·obtain⟨w',z⟩:=I.cell y c e
   exact⟨w',z.sameBut hs (cne y c e)⟩
  ·obtain⟨e,n,ne,nf,d⟩:=I.pin p hp
   exact⟨(hs.2 p.1 ne).trans e,n,ne,nf,d⟩
 ·have hfn:X.fn x=true:=by
   rcases hf with z|z
   ·exact z
   ·rw[z] at hk;cases hk
  obtain⟨c,hc⟩:=I.ok.has x (.inl hk)
  obtain⟨w',z⟩:=I.cell x c hc
  refine wpAny_storeName_cell I.ok.kind hk hc z (λh' hc' hs=>?_)
  obtain⟨oc,hoc,hocd⟩:=id z
  refine h { s with heap:=h' } ⟨I.ok,I.os,I.bare,⟨λb o e n hb hx=>?_,λb o e n hb hx=>?_,I.base.free,λb o e hx=>?_,I.base.tups,I.base.frzs,I.base.tbls⟩,⟨m,hn.sameBut hs (Ne.symm (cne x c hc)),λj y v' e1 e2 e3=>?_⟩,λy c' e=>?_,I.free,I.freeC,λp hp=>?_,tracked ⟨oc,hoc,I.freeC x c hc⟩ hs,by simpa using I.len⟩ ⟨c,hs,.inr hc⟩
  ·exact(hs.2 b (Nat.ne_of_lt (Nat.lt_of_lt_of_le (Heap.lt_size e) (I.ok.cab x c hfn hc)))).trans (I.base.keep b o e n hb hx)
  ·obtain⟨sl,e1⟩:=I.base.slot b o e n hb hx
   exact⟨sl,(hs.2 b (Nat.ne_of_lt (Nat.lt_of_lt_of_le (Heap.lt_size e) (I.ok.cab x c hfn hc)))).trans e1⟩
  ·obtain⟨o',e1⟩:=I.base.there b o e hx
   exact⟨o',(hs.2 b (Nat.ne_of_lt (Nat.lt_of_lt_of_le (Heap.lt_size e) (I.ok.cab x c hfn hc)))).trans e1⟩
  ·by_cases hj:j=i
   ·subst hj
    rw[hi] at e1;cases e1
    rw[List.getElem?_set_self hiσ] at e2
    cases e2
    exact⟨u,r,.inr ⟨.inl hk,c,hc,hc'⟩⟩
   ·rw[List.getElem?_set_ne (Ne.symm hj)] at e2
    obtain⟨u',r',q⟩:=hl j y v' e1 e2 e3
    refine⟨u',r',?_⟩
    rcases q with q|⟨k,c',e,z'⟩
    ·exact .inl q
    ·refine .inr ⟨k,c',e,z'.sameBut hs ?_⟩
     rintro rfl
     exact hj (Qq hN e1 (I.ok.inj _ _ _ e hc ▸ hi))
  ·by_cases hcc:c'=c
   ·subst hcc;exact⟨_,hc'⟩
   ·obtain⟨w2,z2⟩:=I.cell y c' e
    exact⟨w2,z2.sameBut hs hcc⟩
  ·obtain⟨e,n,ne,nf,d⟩:=I.pin p hp
   refine⟨(hs.2 p.1 ?_).trans e,n,ne,nf,d⟩
   intro q
   rw[q,hoc] at e
   have q':oc=p.2:=Option.some.inj e
   exact d w' (by rw[<-q'];exact hocd)
theorem wQ {Q:Unit->Shared->Prop}(I:Inv X pins σ H s)(hN:X.N.Nodup)(hi:X.N[i]?=some x)(hx:Loc X.env.scope x)(r:zV v u)
  (h:∀ s',Inv X pins (σ.set i (some v)) H s'->Q () s') (hf:X.fn x=true\/X.env.scope.names.lookup x=some .local:=by first|exact .inl rfl|exact .inr rfl|assumption):wpAny M A (storeName X.env x u) Q E s:=
 Zw I hN hi hx r (λs' I' _=>h s' I') hf
theorem Inv.call' {s':Shared}(I:Inv X pins σ H s)(ho:s'.os=s.os)(u:Un (frs X.stack) ch H H' s.heap s'.heap)(hok:HOk X.prog X.w H' s'.heap)(hg:AllBare s'.gens)
  (hch:∀ b∈ch,(b∈X.ex\/X.s₀.heap.objs.size<=b)/\b≠X.env.locals/\(∀ x c,X.env.cells.lookup x=some c->c≠b)/\∀ p∈X.pn++pins,p.1≠b):Inv X pins σ H' s':=by
 obtain⟨h',g',d',t',o'⟩:=s'
 have e:o'=s.os:=ho
 subst e
 exact I.call (g':=g') (t':=t') (d':=d') u hok hg hch
end
abbrev XK:=Value->Option Addr->Hp->Prop
abbrev St:=List (Option V)
abbrev VK:=V->Hp->Prop
abbrev TE:=St->Hp->VK->Prop
abbrev TT:=St->Hp->(Bool->Hp->Prop)->Prop
abbrev TA:=St->Hp->(List V->Hp->Prop)->Prop
structure Ends where
 nx:St->Hp->Prop
 rt:VK
 bk:St->Hp->Prop:=λ_ _=>False
 ct:St->Hp->Prop:=λ_ _=>False
abbrev TS:=Ends->St->Hp->Prop
def EP (X:Cx)(pins:List (Addr×Obj))(σ:St)(Q:VK)(u:Value)(s':Shared):Prop:=∃ v H',Inv X pins σ H' s'/\zV v u/\Q v H'
def TP (X:Cx)(pins:List (Addr×Obj))(σ:St)(Q:Bool->Hp->Prop)(b:Bool)(s':Shared):Prop:=∃ H',Inv X pins σ H' s'/\Q b H'
def AP (X:Cx)(pins:List (Addr×Obj))(σ:St)(Q:List V->Hp->Prop)(us:List Value)(s':Shared):Prop:=∃ vs H',Inv X pins σ H' s'/\zA vs us/\Q vs H'
def SP (X:Cx)(pins:List (Addr×Obj))(D:Ends)(f:Flow)(s':Shared):Prop:=
 match f with
 |.next=>∃ σ' H',Inv X pins σ' H' s'/\D.nx σ' H'
 |.brk=>∃ σ' H',Inv X pins σ' H' s'/\D.bk σ' H'
 |.cont=>∃ σ' H',Inv X pins σ' H' s'/\D.ct σ' H'
 |.ret u=>∃ v σ' H',Inv X pins σ' H' s'/\zV v u/\D.rt v H'
def PE (X:Cx)(e:Expr)(t:TE):Prop:=
 ∀ (pins:List (Addr×Obj)) (s:Shared) (σ:St) (H:Hp) (Q:VK),Inv X pins σ H s->t σ H Q->wpAny (model X.prog X.w) X.A (eval e X.env) (EP X pins σ Q) X.xe s
def PT (X:Cx)(e:Expr)(t:TT):Prop:=
 ∀ (pins:List (Addr×Obj)) (s:Shared) (σ:St) (H:Hp) (Q:Bool->Hp->Prop),Inv X pins σ H s->t σ H Q->wpAny (model X.prog X.w) X.A (isTrue e X.env (eval e X.env)) (TP X pins σ Q) X.xe s
def PW (X:Cx)(e:Expr)(t:TT):Prop:=
 ∀ (whole:Sem Value) (pins:List (Addr×Obj)) (s:Shared) (σ:St) (H:Hp) (Q:Bool->Hp->Prop),Inv X pins σ H s->t σ H Q->wpAny (model X.prog X.w) X.A (isTrue e X.env whole) (TP X pins σ Q) X.xe s
theorem PW.pt {t:TT}(h:PW X e t):PT X e t:=h _
def PA (X:Cx)(es:List Expr)(t:TA):Prop:=
 ∀ (pos:Pos) (pins:List (Addr×Obj)) (s:Shared) (σ:St) (H:Hp) (Q:List V->Hp->Prop),Inv X pins σ H s->t σ H Q->wpAny (model X.prog X.w) X.A (spliced (backTo pos (starEach es X.env))) (AP X pins σ Q) X.xe s
def PS (X:Cx)(st:Stmt)(t:TS):Prop:=
 ∀ (pins:List (Addr×Obj)) (s:Shared) (σ:St) (H:Hp) (D:Ends),Inv X pins σ H s->t D σ H->wpAny (model X.prog X.w) X.A (exec st X.env) (SP X pins D) X.xe s
def PSs (X:Cx)(st:List Stmt)(t:TS):Prop:=
 ∀ (pins:List (Addr×Obj)) (s:Shared) (σ:St) (H:Hp) (D:Ends),Inv X pins σ H s->t D σ H->wpAny (model X.prog X.w) X.A (execs st X.env) (SP X pins D) X.xe s
theorem thn {α:Type}{t:Sem α}{Q Q':α->Shared->Prop}(h:wpAny M A t Q E s)(hQ:∀ a s,Q a s->Q' a s):wpAny M A t Q' E s:=wpAny_mono h hQ λ_ _ x=>x
section
variable {X:Cx}
def asB (x:V)(Q:Bool->Prop):Prop:=match x with|.bl b=>Q b|_=>False
def asI (x:V)(Q:Int->Prop):Prop:=match x with|.int i=>Q i|_=>False
def asR (x:V)(Q:Addr->Prop):Prop:=match x with|.ref a=>Q a|_=>False
def asS (x:V)(Q:Str->Prop):Prop:=match x with|.str a=>Q a|_=>False
def asV (x:Option (Option V))(Q:V->Prop):Prop:=match x with|some (some v)=>Q v|_=>False
theorem JE {x:V}{Q:Bool->Prop}(h:asB x Q):∃ b,x=.bl b/\Q b:=by cases x <;> first|exact⟨_,rfl,h⟩|exact False.elim h
theorem kQ {x:V}{Q:Int->Prop}(h:asI x Q):∃ b,x=.int b/\Q b:=by cases x <;> first|exact⟨_,rfl,h⟩|exact False.elim h
theorem vI {x:V}{Q:Addr->Prop}(h:asR x Q):∃ b,x=.ref b/\Q b:=by cases x <;> first|exact⟨_,rfl,h⟩|exact False.elim h
theorem asV_ex {x:Option (Option V)}{Q:V->Prop}(h:asV x Q):∃ v,x=some (some v)/\Q v:=by
 match x,h with
 |some (some v),h=>exact⟨v,rfl,h⟩
def vG (i:Nat):TE:=λσ H Q=>asV σ[i]? λv=>Q v H
def tC (v:V):TE:=λ_ H Q=>Q v H
theorem WD (hN:X.N[i]?=some x)(hv:Vis X.env.scope x)(hd:(x == ("__debug__":Str))=false:=by decide)(hcd:(x == ("__classdict__":Str))=false:=by decide):PE X (.Name x pos) (vG i):=by
 intro pins s σ H Q I h
 obtain⟨v,e,h⟩:=asV_ex h
 obtain⟨m,hn,hl⟩:=I.loc
 obtain⟨u,r,l⟩:=hl i x v hN e hv
 have fin:EP X pins σ Q u s:=⟨v,H,I,r,h⟩
 rcases l with⟨hk,hm⟩|⟨hk,c,hc,hcell⟩
 ·exact wpAny_Name (wpAny_loadName_local I.ok.kind hk hn hm fin) hd
 ·rcases hk with hk|hk
  ·exact wpAny_Name (wpAny_loadName_cell I.ok.kind hk hc hcell fin) hd
  ·exact wpAny_Name (wpAny_loadName_free I.ok.kind hk hc hcell fin hcd) hd
theorem qa {i j pos}:PE X (.Constant (.int i) j pos) (tC (.int i)):=λ_ _ _ H _ I h=>wpAny_Constant_int ⟨.int i,H,I.tok _,⟨_,rfl⟩,h⟩
theorem kI {b j pos}:PE X (.Constant (.bool b) j pos) (tC (.bl b)):=λ_ _ _ H _ I h=>Constant_bool ⟨.bl b,H,I,rfl,h⟩
theorem kH {j pos}:PE X (.Constant .none j pos) (tC .non):=λ_ _ _ H _ I h=>Constant_none ⟨.non,H,I,rfl,h⟩
theorem qD {x j pos}:PE X (.Constant (.str x) j pos) (tC (.str x)):=λ_ _ _ H _ I h=>Calls.Constant_str ⟨.str x,H,I.tok _,⟨_,rfl⟩,h⟩
def Gl (X:Cx)(x:Str):Prop:=X.env.kindOf x=some .globalImplicit
theorem yr (I:Inv X pins σ H s)(hg:Gl X x)(hm:X.mg x=some u)(h:Q u s)
  (hd:(x == ("__debug__":Str))=false:=by decide):wpAny (model X.prog X.w) X.A (eval (.Name x pos) X.env) Q E s:=
 Calls.Name_function_global I.ok.kind hg (Calls.loadGlobal_global (by rw[I.ok.glob];exact I.mod.glob.keeps I.bk) hm h) hd
theorem kD (I:Inv X pins σ H s)(hg:Gl X x)(hm:X.mg x=none)(hv:bootBuiltins x=some u)(h:Q u s)
  (hn:x≠"__name__":=by decide) (hd:(x == ("__debug__":Str))=false:=by decide):wpAny (model X.prog X.w) X.A (eval (.Name x pos) X.env) Q E s:=by
 obtain⟨mb,h1,h2⟩:=I.mod.blt
 exact Calls.Name_function_global I.ok.kind hg (Calls.loadGlobal_builtin (by rw[I.ok.glob];exact I.mod.glob.keeps I.bk) hm (by rw[I.ok.blt];exact h1.keeps I.bk) ((h2 x hn).trans hv) h) hd
theorem jE (hg:Gl X x)(hm:X.mg x=some u)(r:zV v u)(hd:(x == ("__debug__":Str))=false:=by decide):PE X (.Name x pos) (tC v):=
 λ_ _ _ H _ I h=>yr I hg hm ⟨v,H,I,r,h⟩ hd
theorem Qm (hg:Gl X x)(hm:X.mg x=none)(hv:bootBuiltins x=some u)(r:zV v u)(hn:x≠"__name__":=by decide)(hd:(x == ("__debug__":Str))=false:=by decide):PE X (.Name x pos) (tC v):=
 λ_ _ _ H _ I h=>kD I hg hm hv ⟨v,H,I,r,h⟩ hn hd
variable {a b:Expr}{ta tb:TE}{pos:Pos}
def PC (X:Cx)(op:CmpOp)(a b:Expr)(t:TE):Prop:=
 ∀ (pins:List (Addr×Obj)) (s:Shared) (σ:St) (H:Hp) (Q:VK),Inv X pins σ H s->t σ H Q ->
  wpAny (model X.prog X.w) X.A (eval a X.env) (λv s₁=>wpAny (model X.prog X.w) X.A (eval b X.env) (λu s₂=>wpAny (model X.prog X.w) X.A (compareOp op v u) (EP X pins σ Q) X.xe s₂) X.xe s₁) X.xe s
theorem JZ (b:Expr)(h:op≠.In)(h2:op≠.NotIn):behindInMarks op b=false:=by
 have e1:(op == CmpOp.In)=false:=by cases op <;> first|rfl|exact absurd rfl h
 have e2:(op == CmpOp.NotIn)=false:=by cases op <;> first|rfl|exact absurd rfl h2
 cases b <;> simp[behindInMarks,e1,e2]
def tIsN (ta:TE):TE:=λσ H Q=>ta σ H λx H1=>Q (.bl (decide (x=.non))) H1
def tB (t:TE):TT:=λσ H Q=>t σ H λx H1=>asB x λc=>Q c H1
theorem Ze (h:PC X op a b t)(h1:behindInMarks op b=false:=by first|exact JZ _ (by decide) (by decide)|rfl):PT X (.Compare a [op] [b] pos) (tB t):=by
 intro pins s σ H Q I hw
 refine wpAny_isTrue_Compare1 (thn (h pins s σ H _ I hw) λv s1 h1=>thn h1 λu s2 h2=>thn h2 λc s3 ⟨x,H1,I1,r1,q1⟩=>?_) h1
 obtain⟨d,rfl,q⟩:=JE q1
 cases r1
 exact wpAny_truthy_bool ⟨H1,I1,q⟩
theorem vJ (h:PE X e t)(he:∀ whole,isTrue e X.env whole=(do let v <- whole;standAt e.pos;holding [v] (truthy v)):=by intro _;rfl):PT X e (tB t):=by
 intro pins s σ H Q I hw
 refine isTrue_plain (thn (h pins s σ H _ I hw) λv s1 ⟨x,H1,I1,r1,q1⟩=>?_) (he _)
 obtain⟨d,rfl,q⟩:=JE q1
 cases r1
 exact wpAny_truthy_bool ⟨H1,I1,q⟩
variable {tA tB':TT}{xM:List Expr}
def q0a (t u:TT):TT:=λσ H Q=>t σ H λc H1=>if c=true then u σ H1 Q else Q false H1
def tOr (t u:TT):TT:=λσ H Q=>t σ H λc H1=>if c=true then Q true H1 else u σ H1 Q
def tNot (t:TT):TT:=λσ H Q=>t σ H λc H1=>Q (!c) H1
theorem xt (ha:PT X a tA):PW X (.BoolOp .And [a] pos) tA:=by
 intro wh pins s σ H Q I h
 refine isTrue_and (thn (ha pins s σ H Q I h) λc s1 e=>?_)
 cases c with
 |true=>exact isTrue_and_nil e
 |false=>exact e
theorem xz (ha:PT X a tA):PW X (.BoolOp .Or [a] pos) tA:=by
 intro wh pins s σ H Q I h
 refine isTrue_or (thn (ha pins s σ H Q I h) λc s1 e=>?_)
 cases c with
 |false=>exact isTrue_or_nil e
 |true=>exact e
theorem vO (ha:PT X a tA)(hb:PW X (.BoolOp .And (b::xM) pos) tB'):PW X (.BoolOp .And (a::b::xM) pos) (q0a tA tB'):=by
 intro wh pins s σ H Q I h
 refine isTrue_and (thn (ha pins s σ H _ I h) λc s1 ⟨H1,I1,q1⟩=>?_)
 cases c with
 |true=>exact hb wh pins s1 σ H1 Q I1 q1
 |false=>exact⟨H1,I1,q1⟩
theorem wj (ha:PT X a tA)(hb:PW X (.BoolOp .Or (b::xM) pos) tB'):PW X (.BoolOp .Or (a::b::xM) pos) (tOr tA tB'):=by
 intro wh pins s σ H Q I h
 refine isTrue_or (thn (ha pins s σ H _ I h) λc s1 ⟨H1,I1,q1⟩=>?_)
 cases c with
 |true=>exact⟨H1,I1,q1⟩
 |false=>exact hb wh pins s1 σ H1 Q I1 q1
theorem yR (ha:PT X a tA):PT X (.UnaryOp .Not a pos) (tNot tA):=by
 intro pins s σ H Q I h
 exact isTrue_not (ha pins s σ H (λc H1=>Q (!c) H1) I h)
def Y2 (ta tb:TE):TE:=λσ H Q=>ta σ H λx H1=>asB x λc=>if c=true then tb σ H1 Q else Q (.bl false) H1
def tOrV (ta tb:TE):TE:=λσ H Q=>ta σ H λx H1=>asB x λc=>if c=true then Q (.bl true) H1 else tb σ H1 Q
def tNotV (ta:TE):TE:=λσ H Q=>ta σ H λx H1=>asB x λc=>Q (.bl (!c)) H1
theorem ZJ {op}(h:PE X a t):PE X (.BoolOp op [a] pos) t:=λpins s σ H Q I hw=>BoolOp_one (h pins s σ H Q I hw)
theorem QZ (ha:PE X a ta)(hb:PE X (.BoolOp .And (b::xM) pos) tb):PE X (.BoolOp .And (a::b::xM) pos) (Y2 ta tb):=by
 intro pins s σ H Q I h
 refine BoolOp_and (thn (ha pins s σ H _ I h) λv s1 ⟨x,H1,I1,r1,q1⟩=>?_)
 obtain⟨c,rfl,q1⟩:=JE q1
 cases r1
 refine wpAny_truthy_bool ?_
 cases c with
 |true=>exact hb pins s1 σ H1 Q I1 q1
 |false=>exact⟨.bl false,H1,I1,rfl,q1⟩
def tIf (t:TT)(ta tb:TE):TE:=λσ H Q=>t σ H λc H1=>if c=true then ta σ H1 Q else tb σ H1 Q
theorem jI (hc:PT X c tA)(ha:PE X a ta)(hb:PE X b tb):PE X (.IfExp c a b pos) (tIf tA ta tb):=by
 intro pins s σ H Q I h
 refine wpAny_IfExp (thn (hc pins s σ H _ I h) λd s1 ⟨H1,I1,q1⟩=>?_)
 cases d with
 |true=>exact ha pins s1 σ H1 Q I1 q1
 |false=>exact hb pins s1 σ H1 Q I1 q1
end
def SqL (K:PySem.W.Frag)(H:Hp)(a:Addr)(xs:List V):Prop:=
 Rd H a (.lst xs) \/
  ∃ (o:Obj) (its:Array Value) (n:Nat),K.lookup a=some o/\o.cls=.type "list"/\o.dict=none/\o.data=.seq its n/\its.size<=sizeLine/\zA xs its.toList
def SqT (K:PySem.W.Frag)(H:Hp)(a:Addr)(xs:List V):Prop:=
 Rd H a (.tup xs) \/
  ∃ (o:Obj) (its:Array Value) (n:Nat),K.lookup a=some o/\o.cls=.type "tuple"/\o.data=.seq its n/\its.size<=sizeLine/\zA xs its.toList
def absV:Value->Option V
 |.none=>some .non
 |.bool b=>some (.bl b)
 |.int i _=>some (.int i)
 |.str x _=>some (.str x)
 |.bytes b _=>some (.byt b)
 |.float b _=>some (.flt b)
 |.ref a=>some (.ref a)
 |.type n=>some (.ty n)
 |_=>none
theorem zV.abs {x:V}(r:zV x u):absV u=some x:=by
 cases x with
 |non=>cases r;rfl
 |bl _=>cases r;rfl
 |int _=>obtain⟨t,rfl⟩:=r;rfl
 |str _=>obtain⟨t,rfl⟩:=r;rfl
 |byt _=>obtain⟨t,rfl⟩:=r;rfl
 |flt _=>obtain⟨t,rfl⟩:=r;rfl
 |ref _=>cases r;rfl
 |ty _=>cases r;rfl
theorem zV.inj {x:V}(r:zV x u)(q:zV y u):x=y:=Option.some.inj (r.abs.symm.trans q.abs)
theorem zA.inj:∀ {xs ys:List V} {us:List Value},zA xs us->zA ys us->xs=ys
 |_,_,_,.nil,.nil=>rfl
 |_,_,_,.cons r t,.cons r' t'=>by rw[r.inj r',zA.inj t t']
section
variable {X:Cx}{pins:List (Addr×Obj)}{σ:St}{H:Hp}{s:Shared}{a:Addr}{xs ys:List V}
theorem SqL.of (h:H a=some (.lst xs)):SqL K H a xs:=.inl (.inl h)
theorem SqT.of (h:H a=some (.tup xs)):SqT K H a xs:=.inl (.inl h)
theorem Inv.list (I:Inv X pins σ H s)(h:SqL X.K H a xs):∃ its:List Value,zA xs its/\PlainL s.heap a its.toArray/\xs.length<=sizeLine:=by
 rcases h with h|⟨o,its,n,hk,hc,hd,hs,hz,r⟩
 ·obtain⟨z,its,n,r,e⟩:=h.ok I.hok
  exact⟨its,r,⟨_,n,e,rfl,rfl,rfl⟩,z⟩
 ·refine⟨its.toList,r,⟨o,n,I.kIn a o hk,hc,hd,by simpa using hs⟩,?_⟩
  have e:=r.length
  simp only[Array.length_toList] at e
  omega
theorem Inv.tuple (I:Inv X pins σ H s)(h:SqT X.K H a xs):∃ its:List Value,zA xs its/\IsTup s.heap a its.toArray/\xs.length<=sizeLine:=by
 rcases h with h|⟨o,its,n,hk,hc,hs,hz,r⟩
 ·obtain⟨z,its,r,p⟩:=h.ok I.hok
  exact⟨its,r,p,z⟩
 ·refine⟨its.toList,r,⟨o,I.kIn a o hk,hc,n,by simpa using hs⟩,?_⟩
  have e:=r.length
  simp only[Array.length_toList] at e
  omega
theorem Inv.list_inj (I:Inv X pins σ H s)(h:SqL X.K H a xs)(h':SqL X.K H a ys):xs=ys:=by
 obtain⟨its,r,⟨o,n,e,_,_,d⟩,_⟩:=I.list h
 obtain⟨its',r',⟨o',n',e',_,_,d'⟩,_⟩:=I.list h'
 rw[e] at e';cases e'
 rw[d] at d'
 injection d' with d1 _
 have:its=its':=by simpa using congrArg Array.toList d1
 subst this
 exact r.inj r'
theorem Inv.tuple_inj (I:Inv X pins σ H s)(h:SqT X.K H a xs)(h':SqT X.K H a ys):xs=ys:=by
 obtain⟨its,r,⟨o,e,_,n,d⟩,_⟩:=I.tuple h
 obtain⟨its',r',⟨o',e',_,n',d'⟩,_⟩:=I.tuple h'
 rw[e] at e';cases e'
 rw[d] at d'
 injection d' with d1 _
 have:its=its':=by simpa using congrArg Array.toList d1
 subst this
 exact r.inj r'
end
abbrev Cx.wish (X:Cx)(E:Value->Shared->Prop):Cx:={ X with xe:=E }
abbrev Cx.nox (X:Cx):Cx:=X.wish λ_ _=>False
theorem Cx.Ok.wish (ok:X.Ok)(E:Value->Shared->Prop):(X.wish E).Ok:=
 ⟨ok.mod,ok.kind,ok.glob,ok.blt,ok.above,ok.inj,ok.has,ok.cab,ok.hd,ok.frames,ok.stk,ok.exf,ok.bs,ok.bsz,ok.noex,ok.exfs,ok.funs,ok.frf⟩
theorem Cx.Ok.unwish (ok:(X.wish E).Ok):X.Ok:=
 ⟨ok.mod,ok.kind,ok.glob,ok.blt,ok.above,ok.inj,ok.has,ok.cab,ok.hd,ok.frames,ok.stk,ok.exf,ok.bs,ok.bsz,ok.noex,ok.exfs,ok.funs,ok.frf⟩
section
variable {X:Cx}{pins:List (Addr×Obj)}{σ:St}{H:Hp}{s:Shared}{E:Value->Shared->Prop}
theorem Inv.wish (I:Inv X pins σ H s)(E:Value->Shared->Prop):Inv (X.wish E) pins σ H s:=⟨I.ok.wish E,I.os,I.bare,I.base,I.loc,I.cell,I.free,I.freeC,I.pin,I.hok,I.len⟩
theorem Inv.unwish (I:Inv (X.wish E) pins σ H s):Inv X pins σ H s:=⟨I.ok.unwish,I.os,I.bare,I.base,I.loc,I.cell,I.free,I.freeC,I.pin,I.hok,I.len⟩
theorem SP.unwish {f:Flow}{s':Shared}(h:SP (X.wish E) pins D f s'):SP X pins D f s':=by
 cases f with
 |next=>obtain⟨σ',H',I,q⟩:=h;exact⟨σ',H',I.unwish,q⟩
 |brk=>obtain⟨σ',H',I,q⟩:=h;exact⟨σ',H',I.unwish,q⟩
 |cont=>obtain⟨σ',H',I,q⟩:=h;exact⟨σ',H',I.unwish,q⟩
 |ret u=>obtain⟨v,σ',H',I,r,q⟩:=h;exact⟨v,σ',H',I.unwish,r,q⟩
theorem PE.nox (h:PE X.nox e t):PE X e t:=λpins s σ H Q I hw=>
 wpAny_mono (h pins s σ H Q (I.wish _) hw) (λ_ _ ⟨v,H',I',r,q⟩=>⟨v,H',I'.unwish,r,q⟩) λ_ _ z=>False.elim z
theorem PT.nox {t:TT}(h:PT X.nox e t):PT X e t:=λpins s σ H Q I hw=>
 wpAny_mono (h pins s σ H Q (I.wish _) hw) (λ_ _ ⟨H',I',q⟩=>⟨H',I'.unwish,q⟩) λ_ _ z=>False.elim z
theorem PSs.nox {st:List Stmt}{t:TS}(h:PSs X.nox st t):PSs X st t:=λpins s σ H D I hw=>
 wpAny_mono (h pins s σ H D (I.wish _) hw) (λ_ _ q=>q.unwish) λ_ _ z=>False.elim z
end
section
variable {X:Cx}{st:Stmt}{xM:List Stmt}{t u:TS}{e:Expr}{te:TE}{pos:Pos}
def Yd:TS:=λD σ H=>D.nx σ H
def tSeq (t u:TS):TS:=λD σ H=>t { D with nx:=u D } σ H
theorem qI:PSs X [] Yd:=λ_ _ σ H _ I h=>wpAny_execs_nil ⟨σ,H,I,h⟩
theorem qf (h1:PS X st t)(h2:PSs X xM u):PSs X (st::xM) (tSeq t u):=by
 intro pins s σ H D I h
 refine wpAny_execs_cons (thn (h1 pins s σ H { D with nx:=u D } I h) λf s1 q=>?_)
 cases f with
 |next=>
  obtain⟨σ',H',I',q⟩:=q
  exact h2 pins s1 σ' H' D I' q
 |ret v=>exact q
 |brk=>exact q
 |cont=>exact q
theorem qh (h1:PS X st t):PSs X [st] t:=by
 intro pins s σ H D I h
 refine wpAny_execs_cons (thn (h1 pins s σ H D I h) λf s1 q=>?_)
 cases f with
 |next=>exact wpAny_execs_nil q
 |ret v=>exact q
 |brk=>exact q
 |cont=>exact q
theorem Inv.quiet (I:Inv X pins σ H s):interactive X.env=false:=by simp[interactive,I.ok.kind]
def YH (te:TE):TS:=λD σ H=>te σ H λ_ H1=>D.nx σ H1
theorem qQ (he:PE X e te)(hs:swapsWith e none pos.line X.env=pure false:=by rfl):PS X (.Expr e pos) (YH te):=by
 intro pins s σ H D I h
 exact wpAny_Expr_any (thn (he pins s σ H _ I h) λv s1 ⟨x,H1,I1,r1,q1⟩=>⟨σ,H1,I1,q1⟩) I.quiet hs
def tRet (te:TE):TS:=λD σ H=>te σ H D.rt
theorem qN (he:PE X e te):PS X (.Return (some e) pos) (tRet te):=by
 intro pins s σ H D I h
 exact wpAny_Return_some (thn (he pins s σ H _ I h) λv s1 ⟨x,H1,I1,r1,q1⟩=>⟨x,σ,H1,I1,r1,q1⟩)
def tRetN:TS:=λD _ H=>D.rt .non H
def tIfS (c:TT)(t u:TS):TS:=λD σ H=>c σ H λb H1=>if b=true then t D σ H1 else u D σ H1
theorem zf {a b:List Stmt}{tc:TT}(hc:PT X c tc)(ha:PSs X a t)(hb:PSs X b u):PS X (.If c a b pos) (tIfS tc t u):=by
 intro pins s σ H D I h
 refine wpAny_If (thn (hc pins s σ H _ I h) λd s1 ⟨H1,I1,q1⟩=>?_)
 cases d with
 |true=>exact ha pins s1 σ H1 D I1 q1
 |false=>exact hb pins s1 σ H1 D I1 q1
end
abbrev TG:=V->St->Hp->(St->Hp->Prop)->Prop
abbrev TGs:=List V->St->Hp->(St->Hp->Prop)->Prop
def PG (X:Cx)(target:Expr)(t:TG):Prop:=
 ∀ (pins:List (Addr×Obj)) (s:Shared) (σ:St) (H:Hp) (v:V) (u:Value) (Q:St->Hp->Prop),Inv X pins σ H s->zV v u->t v σ H Q ->
  wpAny (model X.prog X.w) X.A (assign target X.env u) (λ_ s'=>∃ σ' H',Inv X pins σ' H' s'/\Q σ' H') X.xe s
def PGs (X:Cx)(ts:List Expr)(t:TGs):Prop:=
 ∀ (pins:List (Addr×Obj)) (s:Shared) (σ:St) (H:Hp) (vs:List V) (us:List Value) (Q:St->Hp->Prop),Inv X pins σ H s->zA vs us->t vs σ H Q ->
  wpAny (model X.prog X.w) X.A (assignInOrder ((assignEach ts X.env).map (·.2)) us) (λ_ s'=>∃ σ' H',Inv X pins σ' H' s'/\Q σ' H') X.xe s
abbrev TSet:=V->V->V->Hp->(Hp->Prop)->Prop
def PSet (X:Cx)(t:TSet):Prop:=
 ∀ (pins:List (Addr×Obj)) (s:Shared) (σ:St) (H:Hp) (o i v:V) (ov iv u:Value) (Q:Hp->Prop),Inv X pins σ H s->zV o ov->zV i iv->zV v u->t o i v H Q ->
  wpAny (model X.prog X.w) X.A (setItem ov iv u) (λ_ s'=>∃ H',Inv X pins σ H' s'/\Q H') X.xe s
section
variable {X:Cx}{pos:Pos}
def xH (i:Nat):TG:=λv σ H Q=>Q (σ.set i (some v)) H
theorem qr (hN:X.N.Nodup)(hi:X.N[i]?=some x)(hx:Loc X.env.scope x)(hf:X.fn x=true\/X.env.scope.names.lookup x=some .local:=by first|exact .inl rfl|exact .inr rfl|assumption):PG X (.Name x pos) (xH i):=by
 intro pins s σ H v u Q I r h
 exact wpAny_assign_Name (wQ I hN hi hx r (λs' I'=>⟨_,H,I',h⟩) hf)
def gNil:TGs:=λvs σ H Q=>vs=[]/\Q σ H
def VQ (t:TG)(u:TGs):TGs:=λvs σ H Q=>∃ v r,vs=v::r/\t v σ H λσ' H'=>u r σ' H' Q
theorem jn:PGs X [] gNil:=by
 intro pins s σ H vs us Q I r h
 obtain⟨e,h⟩:=h
 subst e
 cases r
 exact assignInOrder_nil ⟨σ,H,I,h⟩
theorem qL {es:List Expr}{t:TG}{u:TGs}(h1:PG X e t)(h2:PGs X es u)
  (hs:(assignEach (e::es) X.env).map (·.2)=assign e X.env::(assignEach es X.env).map (·.2):=by rfl):PGs X (e::es) (VQ t u):=by
 intro pins s σ H vs us Q I r h
 obtain⟨v,vr,e1,h⟩:=h
 subst e1
 cases r with
 |cons r rr=>
  rw[hs]
  refine assignInOrder_cons (thn (h1 pins s σ H _ _ _ I r h) λ_ s1 ⟨σ1,H1,I1,q1⟩=>?_)
  exact h2 pins s1 σ1 H1 _ _ Q I1 rr q1
def gTup (K:PySem.W.Frag)(n:Nat)(t:TGs):TG:=λv σ H Q=>∃ a xs,v=.ref a/\SqT K H a xs/\xs.length=n/\t xs σ H Q
theorem x9 {es:List Expr}{t:TGs}(hc:X.calm=true)(h:PGs X es t)
  (hn:(assignEach es X.env).length=n:=by rfl) (hst:(assignEach es X.env).findIdx? (·.1)=none:=by rfl):PG X (.Tuple es k pos) (gTup X.K n t):=by
 intro pins s σ H v u Q I r hw
 obtain⟨a,xs,e1,hq,hl,hw⟩:=hw
 subst e1
 cases r
 obtain⟨its,rv,ht,hz⟩:=I.tuple hq
 refine assign_Tuple_tuple (I.ok.hd hc) ht (by simp[hn,<- hl,rv.length]) hst λh' hx=>?_
 have I1:Inv X pins σ H { s with heap:=h' }:=I.kept (t':=s.toks) λb o e=>hx b o (Nat.ne_of_lt (Heap.lt_size e)) e
 exact h pins _ σ H xs _ Q I1 (by simpa using rv) hw
def Yn (to ti:TE)(t:TSet):TG:=λv σ H Q=>to σ H λo H1=>ti σ H1 λi H2=>t o i v H2 λH3=>Q σ H3
theorem y7 {o i:Expr}{to ti:TE}{t:TSet}(ho:PE X o to)(hi:PE X i ti)(hs:PSet X t)
  (ha:∀ v,assign (.Subscript o i pos) X.env v=(do
   let ov <- holding [v] (eval o X.env)
   let iv <- holding [v,ov] (eval i X.env)
   standAt pos
   holding [v,ov,iv] (setItem ov iv v)
   release [v,ov,iv] []):=by intro _;rfl):PG X (.Subscript o i pos) (Yn to ti t):=by
 intro pins s σ H v u Q I r h
 rw[ha]
 refine wpAny_bind (wpAny_holding (thn (ho pins s σ H _ I h) λov s1 ⟨x,H1,I1,r1,q1⟩=>?_))
 refine wpAny_bind (wpAny_holding (thn (hi pins s1 σ H1 _ I1 q1) λiv s2 ⟨y,H2,I2,r2,q2⟩=>?_))
 refine wpAny_bind (wpAny_standAt (wpAny_bind (wpAny_holding (thn (hs pins s2 σ H2 x y v ov iv u _ I2 r1 r2 r q2) λ_ s3 ⟨H3,I3,q3⟩=>?_))))
 exact wpAny_release ⟨σ,H3,I3,q3⟩
def Wz (te:TE)(g:TG):TS:=λD σ H=>te σ H λx H1=>g x σ H1 D.nx
theorem kz {te:TE}{g:TG}(he:PE X e te)(hg:PG X tg g)(hs:swapsWithSole [tg] e pos.line X.env=pure false:=by rfl)(hw:swappedStores [tg] e X.env=pure none:=by rfl)
  (h1:(assignEach [tg] X.env).map (·.2)=[assign tg X.env]:=by rfl):PS X (.Assign [tg] e pos) (Wz te g):=by
 intro pins s σ H D I h
 refine wpAny_Assign_stores (thn (he pins s σ H _ I h) λv s1 ⟨x,H1,I1,r1,q1⟩=>?_) hs hw
 rw[h1]
 exact thn (hg pins s1 σ H1 x v _ I1 r1 q1) λ_ s2 q=>q
theorem qy {te:TE}{pos':Pos}(hN:X.N.Nodup)(hi:X.N[i]?=some x)(hx:Loc X.env.scope x)(he:PE X e te)(hs:swapsWith e (some (.Name x pos')) pos.line X.env=pure false:=by rfl)(hf:X.fn x=true\/X.env.scope.names.lookup x=some .local:=by first|exact .inl rfl|exact .inr rfl|assumption):
  PS X (.Assign [.Name x pos'] e pos) (Wz te (xH i)):=by
 intro pins s σ H D I h
 refine wpAny_Assign_Name (thn (he pins s σ H _ I h) λv s1 ⟨y,H1,I1,r1,q1⟩=>?_) hs
 exact wQ I1 hN hi hx r1 (λs2 I2=>⟨_,H1,I2,q1⟩) hf
def WC (c:TT)(tb:TS):TS:=λD σ H=>∃ W:Nat->St->Hp->Prop,(∃ m,W m σ H)/\∀ m σ H,W m σ H ->
 c σ H λb H1=>if b=true then ∃ N:St->Hp->Prop,(∀ σ' H',N σ' H'->∃ m',m'<m/\W m' σ' H')/\tb { D with nx:=N,ct:=N,bk:=D.nx } σ H1 else D.nx σ H1
theorem kF {tc:TT}{tb:TS}(hp:PassesOwn (model X.prog X.w) X.A X.env X.xe)(hc:PT X c tc)(hb:PSs X body tb):PS X (.While c body [] pos) (WC tc tb):=by
 intro pins s σ H D I h
 obtain⟨W,⟨m0,w0⟩,turn⟩:=h
 refine wpAny_While (codeAny_whileLoop (λn s'=>∃ σ' H',Inv X pins σ' H' s'/\W n σ' H') ?_ m0 ⟨σ,H,I,w0⟩)
 rintro n s1 ⟨σ1,H1,I1,w1⟩
 refine wpAny_passesOwn hp (thn (hc pins s1 σ1 H1 _ I1 (turn n σ1 H1 w1)) λb s2 ⟨H2,I2,q2⟩=>?_)
 cases b with
 |true=>
  obtain⟨N,hN,q2⟩:=q2
  rw[if_pos rfl]
  refine wpAny_passesOwn hp (thn (hb pins s2 σ1 H2 _ I2 q2) λf s3 q3=>?_)
  cases f with
  |next=>
   obtain⟨σ3,H3,I3,n3⟩:=q3
   obtain⟨m',hm,w3⟩:=hN σ3 H3 n3
   exact⟨m',hm,σ3,H3,I3,w3⟩
  |cont=>
   obtain⟨σ3,H3,I3,n3⟩:=q3
   obtain⟨m',hm,w3⟩:=hN σ3 H3 n3
   exact⟨m',hm,σ3,H3,I3,w3⟩
  |brk=>exact q3
  |ret v=>exact q3
 |false=>
  rw[if_neg Bool.false_ne_true]
  exact wpAny_execs_nil ⟨σ1,H2,I2,q2⟩
end
structure It where
 go:Nat->Hp->Prop
 yld:Nat->Hp->V->Hp->Prop
 stop:Nat->Hp->Prop
def ZX (X:Cx)(pins:List (Addr×Obj))(H:Hp)(b:Addr):Prop:=
 H b=none/\b≠X.env.locals/\b ∉ X.fs/\(b∈X.ex\/X.s₀.heap.objs.size<=b)/\(∀ x c,X.env.cells.lookup x=some c->c≠b)/\∀ p∈X.pn++pins,p.1≠b
theorem Inv.fpOk {H':Hp}(I:Inv X pins σ H s)(hb:s.heap.objs.size<=b)(hn:H' b=none):ZX X pins H' b:=by
 refine⟨hn,Nat.ne_of_gt (Nat.lt_of_lt_of_le I.lt hb),I.nofs hb,.inr (Nat.le_trans I.sz hb),λx c e z=>?_,λp hp z=>?_⟩
 ·obtain⟨v,q⟩:=I.cell x c e
  exact absurd (Nat.lt_of_lt_of_le q.lt (by rw[z];exact hb)) (Nat.lt_irrefl _)
 ·exact absurd (Nat.lt_of_lt_of_le (Heap.lt_size (I.pin p hp).1) (by rw[z];exact hb)) (Nat.lt_irrefl _)
structure KB (P:Program)(w:World)(K:PySem.W.Frag)(tg:Expr)(J:It)(fp:List Addr)(it:Addr)(tn:Nat->Heap->Prop):Prop where
 mem:it∈fp
 obj:∀ i h,tn i h->∀ b∈fp,∃ o,h.get? b=some o/\∀ v,o.data≠.cell v
 keep:∀ i h h',tn i h->(∀ b∈fp,∀ o,h.get? b=some o->h'.get? b=some o)->tn i h'
 item:∀ (X:Cx),X.prog=P->X.w=w->X.K=K->X.calm=true->∀ (i:Nat) (pins:List (Addr×Obj)) (s:Shared) (σ:St) (H:Hp) (E:Value->Shared->Prop),Inv X pins σ H s->(∀ b∈fp,ZX X pins H b)->tn i s.heap->J.go i H ->
  wpAny (model P w) X.A (pyNext (.ref it)) (λr s1=>∃ u,r=some u /\
   wpAny (model P w) X.A (letOwnedTupleGo tg (.ref it) u) (λ_ s2=>∃ x H',Inv X pins σ H' s2/\zV x u/\J.yld i H x H'/\tn (i+1) s2.heap/\∀ b∈fp,H' b=none) E s1) E s
 done:∀ (X:Cx),X.prog=P->X.w=w->X.K=K->X.calm=true->∀ (i:Nat) (pins:List (Addr×Obj)) (s:Shared) (σ:St) (H:Hp) (E:Value->Shared->Prop),Inv X pins σ H s->(∀ b∈fp,ZX X pins H b)->tn i s.heap->J.stop i H ->
  wpAny (model P w) X.A (pyNext (.ref it)) (λr s1=>r=none/\Inv X pins σ H s1) E s
 self:∀ (A:Around) (i:Nat) (s:Shared) (Q:Value->Shared->Prop) (E:Value->Shared->Prop),tn i s.heap->Q (.ref it) s->wpAny (model P w) A (pyIter (.ref it)) Q E s
abbrev TI:=St->Hp->(It->Hp->Prop)->Prop
def PIE (X:Cx)(pins:List (Addr×Obj))(σ:St)(tg:Expr)(R:It->Hp->Prop)(itv:Value)(s2:Shared):Prop:=
 ∃ (it:Addr) (fp:List Addr) (tn:Nat->Heap->Prop) (J:It) (H':Hp),itv=.ref it/\Inv X pins σ H' s2/\KB X.prog X.w X.K tg J fp it tn/\tn 0 s2.heap/\(∀ b∈fp,ZX X pins H' b)/\R J H'
def PI (X:Cx)(tg iter:Expr)(wi:TI):Prop:=
 ∀ (pins:List (Addr×Obj)) (s:Shared) (σ:St) (H:Hp) (R:It->Hp->Prop),Inv X pins σ H s->wi σ H R ->
  wpAny (model X.prog X.w) X.A (eval iter X.env) (λv s1=>wpAny (model X.prog X.w) X.A (pyIter v) (PIE X pins σ tg R) X.xe s1) X.xe s
theorem KK {it:Addr}{o:Obj}{n:String}{vs:Array Value}{Q:Unit->Shared->Prop}(ho:s.heap.get? it=some o)(hc:o.cls=.type n)(hd:o.data=.fields vs)
  (hn:["enumerate","zip","dict_itemiterator","dict_reverseitemiterator","odict_iterator","itertools.zip_longest","itertools.pairwise"].contains n=false) (hQ:Q () s):wpAny M A (letOwnedTupleGo tg (.ref it) u) Q E s:=by
 unfold letOwnedTupleGo
 cases tg <;> first
  |exact wpAny_pure hQ
  |(cases u <;> first
    |exact wpAny_pure hQ
    |(refine wpAny_bind (wpAny_load ho ?_)
      rw[hc,hd]
      show wpAny M A (if (["enumerate","zip","dict_itemiterator","dict_reverseitemiterator","odict_iterator","itertools.zip_longest","itertools.pairwise"].contains n && vs[0]? == some (rawInt _))=true then _ else _) Q E s
      rw[if_neg (by intro h;rw[hn,Bool.false_and] at h;cases h)]
      exact wpAny_pure hQ))
def Itl (K:PySem.W.Frag)(a:Addr):It:=
 ⟨λi H=>∃ xs x,SqL K H a xs/\xs[i]?=some x,λi H x H'=>H'=H/\∀ xs,SqL K H a xs->xs[i]?=some x,λi H=>∃ xs,SqL K H a xs/\xs.length<=i⟩
def Itt (K:PySem.W.Frag)(a:Addr):It:=
 ⟨λi H=>∃ xs x,SqT K H a xs/\xs[i]?=some x,λi H x H'=>H'=H/\∀ xs,SqT K H a xs->xs[i]?=some x,λi H=>∃ xs,SqT K H a xs/\xs.length<=i⟩
def Itr (lo:Int)(n:Nat):It:=⟨λi _=>i<n,λi H x H'=>H'=H/\x=.int (lo+i),λi _=>n<=i⟩
theorem K6 (a it:Addr):KB P w K tg (Itl K a) [it] it (λi h=>h.IsListIter it a i) where
 mem:=by simp
 obj:=λi h st b hb=>by
  have e:b=it:=by simpa using hb
  subst e
  obtain⟨o,e,c,d⟩:=st
  exact⟨o,e,λv z=>by rw[d] at z;cases z⟩
 keep:=λi h h' st k=>st.at λo e=>k it (by simp) o e
 item:=by
  intro X hP hw hK hc i pins s σ H E I hf st hg
  subst hP hw hK
  obtain⟨xs,x,hq,hx⟩:=hg
  obtain⟨its,rv,p,hz⟩:=I.list hq
  obtain⟨u,hu,ru⟩:=rv.get hx
  obtain⟨f0,f1,f2,f3,f4,f5⟩:=hf it (by simp)
  refine wpAny_pyNext_list_item st p.isList (x:=u) (by simpa using hu) λh' st' sb=>?_
  have I1:Inv X pins σ H { s with heap:=h' }:=I.turned (t':=s.toks) (λb o hb e=>(sb.2 b hb).trans e) f0 f1 f3 f4 f5
  obtain⟨o,e,c,d⟩:=id st'
  exact⟨u,rfl,KK (s:={ s with heap:=h' }) e c d (by decide) ⟨x,H,I1,ru,⟨rfl,λys hy=>by rw[I.list_inj hy hq];exact hx⟩,st',λb hb=>(hf b hb).1⟩⟩
 done:=by
  intro X hP hw hK hc i pins s σ H E I hf st hg
  subst hP hw hK
  obtain⟨xs,hq,hx⟩:=hg
  obtain⟨its,rv,p,hz⟩:=I.list hq
  obtain⟨f0,f1,f2,f3,f4,f5⟩:=hf it (by simp)
  have hl:=rv.length
  exact wpAny_pyNext_list_end (I.ok.hd hc) st p.isList (by simp;omega) λh' eb=>⟨rfl,I.turned (t':=s.toks) (λb o hb e=>eb b o hb e) f0 f1 f3 f4 f5⟩
 self:=λ_ _ _ _ _ st h=>wpAny_pyIter_listiter st h
theorem Xk (a it:Addr):KB P w K tg (Itt K a) [it] it (λi h=>h.IsTupleIter it a i) where
 mem:=by simp
 obj:=λi h st b hb=>by
  have e:b=it:=by simpa using hb
  subst e
  obtain⟨o,e,c,d⟩:=st
  exact⟨o,e,λv z=>by rw[d] at z;cases z⟩
 keep:=λi h h' st k=>st.at λo e=>k it (by simp) o e
 item:=by
  intro X hP hw hK hc i pins s σ H E I hf st hg
  subst hP hw hK
  obtain⟨xs,x,hq,hx⟩:=hg
  obtain⟨its,rv,p,hz⟩:=I.tuple hq
  obtain⟨u,hu,ru⟩:=rv.get hx
  obtain⟨f0,f1,f2,f3,f4,f5⟩:=hf it (by simp)
  refine wpAny_pyNext_tuple_item st (show s.heap.IsTuple a its.toArray from p) (x:=u) (by simpa using hu) λh' st' sb=>?_
  have I1:Inv X pins σ H { s with heap:=h' }:=I.turned (t':=s.toks) (λb o hb e=>(sb.2 b hb).trans e) f0 f1 f3 f4 f5
  obtain⟨o,e,c,d⟩:=id st'
  exact⟨u,rfl,KK (s:={ s with heap:=h' }) e c d (by decide) ⟨x,H,I1,ru,⟨rfl,λys hy=>by rw[I.tuple_inj hy hq];exact hx⟩,st',λb hb=>(hf b hb).1⟩⟩
 done:=by
  intro X hP hw hK hc i pins s σ H E I hf st hg
  subst hP hw hK
  obtain⟨xs,hq,hx⟩:=hg
  obtain⟨its,rv,p,hz⟩:=I.tuple hq
  obtain⟨f0,f1,f2,f3,f4,f5⟩:=hf it (by simp)
  have hl:=rv.length
  exact wpAny_pyNext_tuple_end (I.ok.hd hc) st (show s.heap.IsTuple a its.toArray from p) (by simp;omega) λh' eb=>⟨rfl,I.turned (t':=s.toks) (λb o hb e=>eb b o hb e) f0 f1 f3 f4 f5⟩
 self:=λ_ _ _ _ _ st h=>wpAny_pyIter_tupleiter st h
theorem Xf (it:Addr)(lo:Int)(n:Nat):KB P w K tg (Itr lo n) [it] it (λi h=>IsRangeIter h it (lo+(i:Nat)*1) ((n:Int)-(i:Nat)) 1) where
 mem:=by simp
 obj:=λi h st b hb=>by
  have e:b=it:=by simpa using hb
  subst e
  exact⟨_,st,λv z=>by
   have z':Data.fields _=Data.cell v:=z
   cases z'⟩
 keep:=λi h h' st k=>k it (by simp) _ st
 item:=by
  intro X hP hw hK hc i pins s σ H E I hf st hg
  subst hP hw hK
  obtain⟨f0,f1,f2,f3,f4,f5⟩:=hf it (by simp)
  have W:=Walks.range (prog:=X.prog) (w:=X.w) (I.ok.hd hc) it lo 1 n
  refine W.item i s _ _ hg st λv h' tk hv st' kk=>?_
  obtain⟨t,rfl⟩:=hv
  have I1:Inv X pins σ H { s with heap:=h',toks:=tk }:=I.turned (λb o hb e=>kk b o (by simpa using hb) e) f0 f1 f3 f4 f5
  refine⟨_,rfl,KK (s:={ s with heap:=h',toks:=tk }) (n:="range_iterator") st' rfl rfl (by decide) ⟨.int (lo+i),H,I1,⟨t,?_⟩,⟨rfl,rfl⟩,st',λb hb=>(hf b hb).1⟩⟩
  rw[Int.mul_one]
 done:=by
  intro X hP hw hK hc i pins s σ H E I hf st hg
  subst hP hw hK
  obtain⟨f0,f1,f2,f3,f4,f5⟩:=hf it (by simp)
  exact wpAny_pyNext_range_end (I.ok.hd hc) st (by have:n<=i:=hg;omega) λh' eb=>⟨rfl,I.turned (t':=s.toks) (λb o hb e=>eb b o hb e) f0 f1 f3 f4 f5⟩
 self:=λ_ _ _ _ _ st h=>wpAny_pyIter_rangeiter st h
section
variable {X:Cx}{tg:Expr}
def YR (K:PySem.W.Frag)(tl:TE):TI:=λσ H R=>tl σ H λx H1=>asR x λa=>(∃ xs,SqL K H1 a xs)/\R (Itl K a) H1
def iTup (K:PySem.W.Frag)(tl:TE):TI:=λσ H R=>tl σ H λx H1=>asR x λa=>(∃ xs,SqT K H1 a xs)/\R (Itt K a) H1
theorem z7 {l:Expr}{tl:TE}(hl:PE X l tl):PI X tg l (YR X.K tl):=by
 intro pins s σ H R I h
 refine thn (hl pins s σ H _ I h) λv s1 ⟨x,H1,I1,r1,q1⟩=>?_
 obtain⟨a,e,⟨xs,hq⟩,q⟩:=vI q1
 subst e
 cases r1
 obtain⟨its,rv,p,hz⟩:=I1.list hq
 refine wpAny_pyIter_list p.isList ?_
 refine⟨s1.heap.objs.size,[s1.heap.objs.size],_,_,H1,rfl,I1.kept (t':=s1.toks) λb o e=>Heap.get?_push_of_some _ e,K6 a _,⟨_,Heap.get?_push_size _ rfl,rfl,rfl⟩,λb hb=>?_,q⟩
 have e:b=s1.heap.objs.size:=by simpa using hb
 subst e
 exact I1.fpOk (Nat.le_refl _) (I1.hok.fresh (Nat.le_refl _))
theorem ww {l:Expr}{tl:TE}(hl:PE X l tl):PI X tg l (iTup X.K tl):=by
 intro pins s σ H R I h
 refine thn (hl pins s σ H _ I h) λv s1 ⟨x,H1,I1,r1,q1⟩=>?_
 obtain⟨a,e,⟨xs,hq⟩,q⟩:=vI q1
 subst e
 cases r1
 obtain⟨its,rv,p,hz⟩:=I1.tuple hq
 refine wpAny_pyIter_tuple (show s1.heap.IsTuple a its.toArray from p) ?_
 refine⟨s1.heap.objs.size,[s1.heap.objs.size],_,_,H1,rfl,I1.kept (t':=s1.toks) λb o e=>Heap.get?_push_of_some _ e,Xk a _,⟨_,Heap.get?_push_size _ rfl,rfl,rfl⟩,λb hb=>?_,q⟩
 have e:b=s1.heap.objs.size:=by simpa using hb
 subst e
 exact I1.fpOk (Nat.le_refl _) (I1.hok.fresh (Nat.le_refl _))
theorem KJ {R:It->Hp->Prop}{lo hi:Int}{t u v:Tok}{tk:Nat}(I:Inv X pins σ H s)(h1:-(2 ^ 62)<=lo)(h2:lo<2 ^ 62)(h3:-(2 ^ 62)<=hi)(h4:hi<2 ^ 62)
  (q:R (Itr lo (hi-lo).toNat) H):wpAny (model X.prog X.w) X.A (pyIter (.ref s.heap.objs.size)) (PIE X pins σ tg R) E { s with heap:=s.heap.push { cls:=.type "range",data:=.fields #[.int lo t,.int hi u,.int 1 v] },toks:=tk }:=by
 refine wpAny_pyIter_range (IsRange.new ..) (small_one h1 h2 h3 h4) ?_
 have I1:Inv X pins σ H { s with heap:=s.heap.push { cls:=.type "range",data:=.fields #[.int lo t,.int hi u,.int 1 v] },toks:=tk }:=I.kept λb o e=>Heap.get?_push_of_some _ e
 refine⟨(s.heap.push { cls:=.type "range",data:=.fields #[.int lo t,.int hi u,.int 1 v] }).objs.size,[(s.heap.push { cls:=.type "range",data:=.fields #[.int lo t,.int hi u,.int 1 v] }).objs.size],_,_,H,rfl,
  I1.kept (t':=tk) λb o e=>Heap.get?_push_of_some _ e,Xf _ lo (hi-lo).toNat,?_,λb hb=>?_,q⟩
 ·have e1:lo+((0:Nat):Int)*1=lo:=by simp
  have e2:(((hi-lo).toNat:Nat):Int)-((0:Nat):Int)=Builtin.Range.rangeSize lo hi 1:=by rw[rangeSize_one];split <;> omega
  show IsRangeIter _ _ (lo+((0:Nat):Int)*1) ((((hi-lo).toNat:Nat):Int)-((0:Nat):Int)) 1
  rw[e1,e2]
  exact Heap.get?_push_size _ rfl
 ·have e:b=(s.heap.push { cls:=.type "range",data:=.fields #[.int lo t,.int hi u,.int 1 v] }).objs.size:=by simpa using hb
  subst e
  exact I1.fpOk (Nat.le_refl _) (I1.hok.fresh (Nat.le_refl _))
def YX (ta:TA):TI:=λσ H R=>ta σ H λvs H1=>∃ j:Int,vs=[.int j]/\-(2 ^ 62)<=j/\j<2 ^ 62/\R (Itr 0 j.toNat) H1
theorem jw {a:Expr}{ta:TA}{p:Pos}(hg:Gl X "range")(hm:X.mg "range"=none)(ha:PA X [a] ta)(hs:starEach [a] X.env=[(false,eval a X.env)]:=by rfl):PI X tg (.Call (.Name "range" p) [a] [] pos) (YX ta):=by
 intro pins s σ H R I h
 refine Call_ (kD I hg hm boot_range (PyProof.Rows.callWith_type1 (thn (ha pos pins s σ H _ I h) λus s1 ⟨vs,H1,I1,r1,q1⟩=>?_) hs rfl))
 obtain⟨j,e,q1,q2,q⟩:=q1
 subst e
 cases r1 with
 |cons r rr=>
  cases rr
  obtain⟨t,rfl⟩:=r
  exact call_range_1 (KJ I1 (by omega) (by omega) q1 q2 (by simpa using q))
def tFor (wi:TI)(g:TG)(tb:TS):TS:=λD σ H=>wi σ H λJ H1=>∃ W:Nat->Nat->St->Hp->Prop,(∃ m,W 0 m σ H1)/\∀ i m σ H,W i m σ H ->
 (J.stop i H/\D.nx σ H)\/(J.go i H/\∃ N:St->Hp->Prop,(∀ σ' H',N σ' H'->∃ m',m'<m/\W (i+1) m' σ' H')/\∀ x H',J.yld i H x H'->g x σ H' λσ2 H2=>tb { D with nx:=N,ct:=N,bk:=D.nx } σ2 H2)
def Zm (fp:List Addr)(h:Heap):List (Addr×Obj):=fp.filterMap λb=>(h.get? b).map λo=>(b,o)
theorem vC {o:Obj}(hb:b∈fp)(e:h.get? b=some o):(b,o)∈Zm fp h:=List.mem_filterMap.mpr ⟨b,hb,by rw[e];rfl⟩
theorem Vg {p:Addr×Obj}(hp:p∈Zm fp h):p.1∈fp/\h.get? p.1=some p.2:=by
 obtain⟨b,hb,e⟩:=List.mem_filterMap.mp hp
 cases q:h.get? b with
 |none=>rw[q] at e;cases e
 |some o=>
  rw[q] at e
  have e':(b,o)=p:=Option.some.inj e
  subst e'
  exact⟨hb,q⟩
theorem Inv.pinned (I:Inv X pins σ H s)(hf:∀ b∈fp,ZX X pins H b)(ho:∀ b∈fp,∃ o,s.heap.get? b=some o/\∀ v,o.data≠.cell v):Inv X (pins++Zm fp s.heap) σ H s:=
 I.pins_of λp hp=>(List.mem_append.mp hp).elim (λz=>I.pin p (List.mem_append_right _ z)) λz=>by
  obtain⟨hb,e⟩:=Vg z
  obtain⟨f0,f1,f2,_⟩:=hf p.1 hb
  obtain⟨o,e',d⟩:=ho p.1 hb
  rw[e] at e';cases e'
  exact⟨e,f0,f1,f2,d⟩
theorem Inv.unpinned {pl:List (Addr×Obj)}(I:Inv X (pins++pl) σ H s):Inv X pins σ H s:=I.pins_of λp hp=>I.pin p (List.mem_append_right _ (List.mem_append_left _ hp))
theorem zU {iter:Expr}{wi:TI}{g:TG}{tb:TS}(hp:PassesOwn (model X.prog X.w) X.A X.env X.xe)(hc:X.calm=true)(hi:PI X tg iter wi)(hg:PG X tg g)(hb:PSs X body tb)
  (hs:∀ x,foldedSetIterable iter X.env x=pure x:=by intro _;rfl):PS X (.For tg iter body [] pos) (tFor wi g tb):=by
 intro pins s σ H D I h
 refine wpAny_For (thn (hi pins s σ H _ I h) λv s1 h1=>thn h1 λitv s2 h2=>?_) hs
 obtain⟨it,fp,tn,J,H2,e,I2,T,st2,f2,W,⟨m0,w0⟩,turn⟩:=h2
 subst e
 have stat:∀ {H':Hp},(∀ b∈fp,H' b=none)->∀ b∈fp,ZX X pins H' b:=λhn b hb=>⟨hn b hb,(f2 b hb).2⟩
 refine codeAny_forLoop_any (λn s'=>∃ i σ' H',Inv X pins σ' H' s'/\tn i s'.heap/\(∀ b∈fp,H' b=none)/\W i n σ' H') ?_ m0 ⟨0,σ,H2,I2,st2,λb hb=>(f2 b hb).1,w0⟩
 rintro n s3 ⟨i,σ3,H3,I3,st3,fr3,w3⟩
 rcases turn i n σ3 H3 w3 with⟨stop,qn⟩|⟨go,N,hN,step⟩
 ·refine wpAny_passesOwn hp (thn (T.done X rfl rfl rfl hc i pins s3 σ3 H3 X.xe I3 (stat fr3) st3 stop) λr s4 ⟨hr,I4⟩=>?_)
  subst hr
  exact wpAny_execs_nil ⟨σ3,H3,I4,qn⟩
 ·refine wpAny_passesOwn hp (thn (T.item X rfl rfl rfl hc i pins s3 σ3 H3 X.xe I3 (stat fr3) st3 go) λr s4 ⟨u,hr,h4⟩=>?_)
  subst hr
  refine wpAny_passesOwn hp (thn h4 λ_ s5 ⟨x,H5,I5,r5,y5,st5,fr5⟩=>?_)
  have I5':=I5.pinned (stat fr5) (T.obj _ _ st5)
  refine wpAny_passesOwn hp (thn (hg _ s5 σ3 H5 x u _ I5' r5 (step x H5 y5)) λ_ s6 ⟨σ6,H6,I6,q6⟩=>?_)
  refine wpAny_passesOwn hp (thn (hb _ s6 σ6 H6 _ I6 q6) λf s7 q7=>?_)
  have again:∀ {σ7:St} {H7:Hp},Inv X (pins++Zm fp s5.heap) σ7 H7 s7->N σ7 H7->∃ m,m<n/\∃ i σ' H',Inv X pins σ' H' s7/\tn i s7.heap/\(∀ b∈fp,H' b=none)/\W i m σ' H':=λ{σ7 H7} I7 n7=>by
   obtain⟨m',hm,w7⟩:=hN σ7 H7 n7
   refine⟨m',hm,i+1,σ7,H7,I7.unpinned,T.keep _ _ _ st5 λb hb o e=>(I7.pin (b,o) (List.mem_append_right _ (List.mem_append_right _ (vC hb e)))).1,λb hb=>?_,w7⟩
   obtain⟨o,e,d⟩:=T.obj _ _ st5 b hb
   exact(I7.pin (b,o) (List.mem_append_right _ (List.mem_append_right _ (vC hb e)))).2.1
  cases f with
  |next=>obtain⟨σ7,H7,I7,n7⟩:=q7;exact again I7 n7
  |cont=>obtain⟨σ7,H7,I7,n7⟩:=q7;exact again I7 n7
  |brk=>obtain⟨σ7,H7,I7,q7⟩:=q7;exact⟨σ7,H7,I7.unpinned,q7⟩
  |ret v=>obtain⟨x7,σ7,H7,I7,r7,q7⟩:=q7;exact⟨x7,σ7,H7,I7.unpinned,r7,q7⟩
end
theorem KN {g:TG}{tb:TS}(Pv:Nat->St->Hp->Prop)(h0:Pv 0 σ H)(hl:∀ i σ H,i<=xs.length->Pv i σ H->SqL K H a xs)
  (hs:∀ i x σ H,xs[i]?=some x->Pv i σ H->g x σ H λσ2 H2=>tb { D with nx:=Pv (i+1),ct:=Pv (i+1),bk:=D.nx } σ2 H2) (hd:∀ σ H,Pv xs.length σ H->D.nx σ H):
  ∃ W:Nat->Nat->St->Hp->Prop,(∃ m,W 0 m σ H)/\∀ i m σ H,W i m σ H ->
   ((Itl K a).stop i H/\D.nx σ H)\/((Itl K a).go i H/\∃ N:St->Hp->Prop,(∀ σ' H',N σ' H'->∃ m',m'<m/\W (i+1) m' σ' H')/\∀ x H',(Itl K a).yld i H x H'->g x σ H' λσ2 H2=>tb { D with nx:=N,ct:=N,bk:=D.nx } σ2 H2):=by
 refine⟨λi m σ H=>m=xs.length-i/\i<=xs.length/\Pv i σ H,⟨xs.length,by simp,Nat.zero_le _,h0⟩,?_⟩
 rintro i m σ H ⟨rfl,hi,p⟩
 have q:=hl i σ H hi p
 by_cases hlt:i<xs.length
 ·refine .inr ⟨⟨xs,xs[i],q,by simp[hlt]⟩,Pv (i+1),λσ' H' p'=>⟨xs.length-(i+1),by omega,rfl,hlt,p'⟩,λx H' y=>?_⟩
  obtain⟨e,y⟩:=y
  subst e
  exact hs i x σ _ (y xs q) p
 ·have e:i=xs.length:=by omega
  subst e
  exact .inl ⟨⟨xs,q,Nat.le_refl _⟩,hd σ H p⟩
theorem Y9 {g:TG}{tb:TS}(Pv:Nat->St->Hp->Prop)(h0:Pv 0 σ H)(hl:∀ i σ H,i<=xs.length->Pv i σ H->SqT K H a xs)
  (hs:∀ i x σ H,xs[i]?=some x->Pv i σ H->g x σ H λσ2 H2=>tb { D with nx:=Pv (i+1),ct:=Pv (i+1),bk:=D.nx } σ2 H2) (hd:∀ σ H,Pv xs.length σ H->D.nx σ H):
  ∃ W:Nat->Nat->St->Hp->Prop,(∃ m,W 0 m σ H)/\∀ i m σ H,W i m σ H ->
   ((Itt K a).stop i H/\D.nx σ H)\/((Itt K a).go i H/\∃ N:St->Hp->Prop,(∀ σ' H',N σ' H'->∃ m',m'<m/\W (i+1) m' σ' H')/\∀ x H',(Itt K a).yld i H x H'->g x σ H' λσ2 H2=>tb { D with nx:=N,ct:=N,bk:=D.nx } σ2 H2):=by
 refine⟨λi m σ H=>m=xs.length-i/\i<=xs.length/\Pv i σ H,⟨xs.length,by simp,Nat.zero_le _,h0⟩,?_⟩
 rintro i m σ H ⟨rfl,hi,p⟩
 have q:=hl i σ H hi p
 by_cases hlt:i<xs.length
 ·refine .inr ⟨⟨xs,xs[i],q,by simp[hlt]⟩,Pv (i+1),λσ' H' p'=>⟨xs.length-(i+1),by omega,rfl,hlt,p'⟩,λx H' y=>?_⟩
  obtain⟨e,y⟩:=y
  subst e
  exact hs i x σ _ (y xs q) p
 ·have e:i=xs.length:=by omega
  subst e
  exact .inl ⟨⟨xs,q,Nat.le_refl _⟩,hd σ H p⟩
theorem Vz {lo:Int}{g:TG}{tb:TS}(Pv:Nat->St->Hp->Prop)(h0:Pv 0 σ H)
  (hs:∀ i σ H,i<n->Pv i σ H->g (.int (lo+i)) σ H λσ2 H2=>tb { D with nx:=Pv (i+1),ct:=Pv (i+1),bk:=D.nx } σ2 H2) (hd:∀ σ H,Pv n σ H->D.nx σ H):
  ∃ W:Nat->Nat->St->Hp->Prop,(∃ m,W 0 m σ H)/\∀ i m σ H,W i m σ H ->
   ((Itr lo n).stop i H/\D.nx σ H)\/((Itr lo n).go i H/\∃ N:St->Hp->Prop,(∀ σ' H',N σ' H'->∃ m',m'<m/\W (i+1) m' σ' H')/\∀ x H',(Itr lo n).yld i H x H'->g x σ H' λσ2 H2=>tb { D with nx:=N,ct:=N,bk:=D.nx } σ2 H2):=by
 refine⟨λi m σ H=>m=n-i/\i<=n/\Pv i σ H,⟨n,by simp,Nat.zero_le _,h0⟩,?_⟩
 rintro i m σ H ⟨rfl,hi,p⟩
 by_cases hlt:i<n
 ·refine .inr ⟨hlt,Pv (i+1),λσ' H' p'=>⟨n-(i+1),by omega,rfl,hlt,p'⟩,λx H' y=>?_⟩
  obtain⟨e,y⟩:=y
  subst e y
  exact hs i σ _ hlt p
 ·have e:i=n:=by omega
  subst e
  exact .inl ⟨Nat.le_refl _,hd σ H p⟩
abbrev R2:=V->V->Hp->VK->Prop
def OpR (X:Cx)(f:Value->Value->Sem Value)(r:R2):Prop:=
 ∀ (pins:List (Addr×Obj)) (s:Shared) (σ:St) (H:Hp) (x y:V) (v u:Value) (Q:VK),Inv X pins σ H s->zV x v->zV y u->r x y H Q ->
  wpAny (model X.prog X.w) X.A (f v u) (EP X pins σ Q) X.xe s
def UnR (X:Cx)(f:Value->Sem Value)(r:V->Hp->VK->Prop):Prop:=
 ∀ (pins:List (Addr×Obj)) (s:Shared) (σ:St) (H:Hp) (x:V) (v:Value) (Q:VK),Inv X pins σ H s->zV x v->r x H Q ->
  wpAny (model X.prog X.w) X.A (f v) (EP X pins σ Q) X.xe s
def we (X:Cx)(f:Value)(r:List V->Hp->VK->Prop):Prop:=
 ∀ (pins:List (Addr×Obj)) (s:Shared) (σ:St) (H:Hp) (xs:List V) (us:List Value) (Q:VK),Inv X pins σ H s->zA xs us->r xs H Q ->
  wpAny (model X.prog X.w) X.A (call f us) (EP X pins σ Q) X.xe s
def TruR (X:Cx)(r:V->Hp->(Bool->Hp->Prop)->Prop):Prop:=
 ∀ (pins:List (Addr×Obj)) (s:Shared) (σ:St) (H:Hp) (x:V) (v:Value) (Q:Bool->Hp->Prop),Inv X pins σ H s->zV x v->r x H Q ->
  wpAny (model X.prog X.w) X.A (truthy v) (TP X pins σ Q) X.xe s
def tOp (r:R2)(ta tb:TE):TE:=λσ H Q=>ta σ H λx H1=>tb σ H1 λy H2=>r x y H2 Q
def tUn (r:V->Hp->VK->Prop)(ta:TE):TE:=λσ H Q=>ta σ H λx H1=>r x H1 Q
def rI (C:Int->Int->Prop)(g:Int->Int->V):R2:=λx y H Q=>asI x λi=>asI y λj=>C i j/\Q (g i j) H
def rI0 (g:Int->Int->V):R2:=λx y H Q=>asI x λi=>asI y λj=>Q (g i j) H
def rU (g:Int->V):V->Hp->VK->Prop:=λx H Q=>asI x λi=>Q (g i) H
section
variable {X:Cx}{a b c:Expr}{ta tb tc:TE}{pos:Pos}
theorem binT (ha:PE X a ta)(hb:PE X b tb){R:V->V->Hp->Prop}(I:Inv X pins σ H s)
  (h:ta σ H λx H1=>tb σ H1 λy H2=>R x y H2)
  (hf:∀ v u s2 x y H2,Inv X pins σ H2 s2->zV x v->zV y u->R x y H2->wpAny (model X.prog X.w) X.A (f v u) Q X.xe s2):
  wpAny (model X.prog X.w) X.A (eval a X.env) (λv s₁=>wpAny (model X.prog X.w) X.A (eval b X.env) (λu s₂=>wpAny (model X.prog X.w) X.A (f v u) Q X.xe s₂) X.xe s₁) X.xe s:=by
 refine thn (ha pins s σ H _ I h) λv s1 ⟨x,H1,I1,r1,q1⟩=>?_
 refine thn (hb pins s1 σ H1 _ I1 q1) λu s2 ⟨y,H2,I2,r2,q2⟩=>?_
 exact hf v u s2 x y H2 I2 r1 r2 q2
theorem qw {op:Operator}{r:R2}(ho:OpR X (binaryOp op) r)(ha:PE X a ta)(hb:PE X b tb):PE X (.BinOp a op b pos) (tOp r ta tb):=by
 intro pins s σ H Q I h
 exact wpAny_BinOp (binT ha hb I h λv u s2 x y H2 I2 rx ry q=>ho pins s2 σ H2 x y v u Q I2 rx ry q)
theorem Jq {op:UnaryOp}{r:V->Hp->VK->Prop}(ho:UnR X (unaryOp op) r)(ha:PE X a ta):PE X (.UnaryOp op a pos) (tUn r ta):=by
 intro pins s σ H Q I h
 exact UnaryOp_ (thn (ha pins s σ H _ I h) λv s1 ⟨x,H1,I1,r1,q1⟩=>ho pins s1 σ H1 x v Q I1 r1 q1)
theorem opI {C:Int->Int->Prop}{g:Int->Int->Int}
  (rule:∀ (i j:Int) (t u:Tok) (s:Shared) (Q:Value->Shared->Prop) (E:Value->Shared->Prop),C i j->Q (.int (g i j) s.toks) { s with toks:=s.toks+1 }->wpAny (model X.prog X.w) X.A (f (.int i t) (.int j u)) Q E s):
  OpR X f (rI C λi j=>.int (g i j)):=by
 intro pins s σ H x y v u Q I rx ry h
 obtain⟨i,rfl,h2⟩:=kQ h
 obtain⟨j,rfl,hc,q⟩:=kQ h2
 obtain⟨t,rfl⟩:=rx
 obtain⟨t',rfl⟩:=ry
 exact rule i j t t' s _ _ hc ⟨.int (g i j),H,I.tok _,⟨_,rfl⟩,q⟩
theorem opI0 {g:Int->Int->Int}
  (rule:∀ (i j:Int) (t u:Tok) (s:Shared) (Q:Value->Shared->Prop) (E:Value->Shared->Prop),Q (.int (g i j) s.toks) { s with toks:=s.toks+1 }->wpAny (model X.prog X.w) X.A (f (.int i t) (.int j u)) Q E s):
  OpR X f (rI0 λi j=>.int (g i j)):=by
 intro pins s σ H x y v u Q I rx ry h
 obtain⟨i,rfl,h2⟩:=kQ h
 obtain⟨j,rfl,q⟩:=kQ h2
 obtain⟨t,rfl⟩:=rx
 obtain⟨t',rfl⟩:=ry
 exact rule i j t t' s _ _ ⟨.int (g i j),H,I.tok _,⟨_,rfl⟩,q⟩
theorem opB0 {g:Int->Int->Bool}
  (rule:∀ (i j:Int) (t u:Tok) (s:Shared) (Q:Value->Shared->Prop) (E:Value->Shared->Prop),Q (.bool (g i j)) s->wpAny (model X.prog X.w) X.A (f (.int i t) (.int j u)) Q E s):
  OpR X f (rI0 λi j=>.bl (g i j)):=by
 intro pins s σ H x y v u Q I rx ry h
 obtain⟨i,rfl,h2⟩:=kQ h
 obtain⟨j,rfl,q⟩:=kQ h2
 obtain⟨t,rfl⟩:=rx
 obtain⟨t',rfl⟩:=ry
 exact rule i j t t' s _ _ ⟨.bl (g i j),H,I,rfl,q⟩
def CDiv (i j:Int):Prop:=0<j/\j<1073741824
def CMul (i j:Int):Prop:=(-(2 ^ 64)<i/\i<2 ^ 64)\/(-(2 ^ 64)<j/\j<2 ^ 64)
theorem CMul.ok {i j:Int}(h:CMul i j):IntMulOk i j:=by
 rcases h with⟨h1,h2⟩|⟨h1,h2⟩
 ·exact .of_left (intBits_le_64 h1 h2)
 ·exact .of_right (intBits_le_64 h1 h2)
theorem zD:OpR X (binaryOp .Add) (rI0 λi j=>.int (i+j)):=opI0 λ_ _ _ _ _ _ _ q=>add_int q
theorem ZB:OpR X (binaryOp .Mult) (rI CMul λi j=>.int (i*j)):=opI λ_ _ _ _ _ _ _ hc q=>mul_int q hc.ok
theorem zY:OpR X (binaryOp .FloorDiv) (rI CDiv λi j=>.int (i / j)):=opI λi j _ _ _ _ _ hc q=>by
 have h1:(0:Int)<j:=hc.1
 have h2:j<1073741824:=hc.2
 exact floordiv_int (by omega) (by rw[Int.fdiv_eq_ediv_of_nonneg i (by omega)];exact q) (.inl (PyProof.noPylong_small (by omega)))
theorem z4:OpR X (binaryOp .Mod) (rI (λ_ j=>0<j) λi j=>.int (i % j)):=opI λi j _ _ _ _ _ hc q=>by
 have h1:(0:Int)<j:=hc
 exact mod_int' (by omega) (by rw[Int.fmod_eq_emod_of_nonneg i (by omega)];exact q)
theorem unI {f:Value->Sem Value}{g:Int->Int}
  (rule:∀ (i:Int) (t:Tok) (s:Shared) (Q:Value->Shared->Prop) (E:Value->Shared->Prop),Q (.int (g i) s.toks) { s with toks:=s.toks+1 }->wpAny (model X.prog X.w) X.A (f (.int i t)) Q E s):
  UnR X f (rU λi=>.int (g i)):=by
 intro pins s σ H x v Q I rx h
 obtain⟨i,rfl,q⟩:=kQ h
 obtain⟨t,rfl⟩:=rx
 exact rule i t s _ _ ⟨.int (g i),H,I.tok _,⟨_,rfl⟩,q⟩
theorem JH:UnR X (unaryOp .USub) (rU λi=>.int (-i)):=unI λ_ _ _ _ _ q=>neg_int q
end
def Z2:V->V->Bool
 |.non,.non=>true|.non,.int _=>true|.int _,.non=>true|.non,.bl _=>true|.bl _,.non=>true|.non,.str _=>true|.str _,.non=>true
 |.int _,.int _=>true|.bl _,.bl _=>true|.str _,.str _=>true|.byt _,.byt _=>true
 |.int _,.str _=>true|.str _,.int _=>true|.bl _,.str _=>true|.str _,.bl _=>true
 |_,_=>false
def eqD (x y:V):Bool:=match x,y with
 |.int i,.int j=>decide (i=j)
 |.str i,.str j=>decide (i=j)
 |.bl i,.bl j=>decide (i=j)
 |.non,.non=>true
 |.byt i,.byt j=>decide (i=j)
 |_,_=>false
theorem WA {x:V}(h:Z2 x y=true):eqD x y=decide (x=y):=by
 cases x <;> cases y <;> first|(simp[eqD];done)|cases h|(unfold eqD;simp)
def rEq:R2:=λx y H Q=>cond (Z2 x y) (Q (.bl (eqD x y)) H) False
def rNe:R2:=λx y H Q=>cond (Z2 x y) (Q (.bl (!eqD x y)) H) False
theorem rEq_ex {x:V}{Q:VK}(h:rEq x y H Q):Z2 x y=true/\Q (.bl (decide (x=y))) H:=by
 unfold rEq at h
 cases e:Z2 x y with
 |true=>rw[e] at h;exact⟨rfl,by rw[<-WA e];exact h⟩
 |false=>rw[e] at h;exact False.elim h
theorem rNe_ex {x:V}{Q:VK}(h:rNe x y H Q):Z2 x y=true/\Q (.bl (!decide (x=y))) H:=by
 unfold rNe at h
 cases e:Z2 x y with
 |true=>rw[e] at h;exact⟨rfl,by rw[<-WA e];exact h⟩
 |false=>rw[e] at h;exact False.elim h
theorem Kv {i j:Int}:decide (V.int i=V.int j)=(i == j):=by
 rw[Bool.eq_iff_iff]
 simp
theorem WP {i j:Bool}:decide (V.bl i=V.bl j)=(i == j):=by
 rw[Bool.eq_iff_iff]
 simp
theorem VU {i j:Str}:decide (V.str i=V.str j)=(i == j):=by
 rw[Bool.eq_iff_iff]
 simp
theorem K0 {i j:Array UInt8}:decide (V.byt i=V.byt j)=(i.toList == j.toList):=by
 rw[Bool.eq_iff_iff]
 cases i
 cases j
 simp
section
variable {X:Cx}{a b c:Expr}{ta tb tc:TE}{pos:Pos}
theorem zw {Q:VK}{k k':Bool}(I:Inv X pins σ H s)(q:Q (.bl k) H)(e:k=k'):EP X pins σ Q (.bool k') s:=by
 subst e
 exact⟨.bl k,H,I,rfl,q⟩
theorem jq:OpR X (compareOp .Eq) rEq:=by
 intro pins s σ H x y v u Q I rx ry h
 obtain⟨hs,q⟩:=rEq_ex h
 cases x with
 |non=>
  cases rx
  cases y with
  |non=>cases ry;exact PySem.EqNone.eq_none_none (zw I q (by simp))
  |bl j=>cases ry;exact PySem.EqNone.eq_none_bool (zw I q (by simp))
  |int j=>obtain⟨t',rfl⟩:=ry;exact PySem.EqNone.eq_none_int (zw I q (by simp))
  |str j=>obtain⟨t',rfl⟩:=ry;exact PySem.EqNone.eq_none_str (zw I q (by simp))
  |_=>exact absurd (show false=true from hs) Bool.false_ne_true
 |bl i=>
  cases rx
  cases y with
  |non=>cases ry;exact PySem.EqNone.eq_bool_none (zw I q (by simp))
  |bl j=>cases ry;exact eq_bool (zw I q WP)
  |str j=>obtain⟨t',rfl⟩:=ry;exact PySem.EqMixed.eq_bool_str (zw I q (by simp))
  |_=>exact absurd (show false=true from hs) Bool.false_ne_true
 |int i=>
  obtain⟨t,rfl⟩:=rx
  cases y with
  |non=>cases ry;exact PySem.EqNone.eq_int_none (zw I q (by simp))
  |int j=>obtain⟨t',rfl⟩:=ry;exact eq_int (zw I q Kv)
  |str j=>obtain⟨t',rfl⟩:=ry;exact PySem.EqMixed.eq_int_str (zw I q (by simp))
  |_=>exact absurd (show false=true from hs) Bool.false_ne_true
 |str i=>
  obtain⟨t,rfl⟩:=rx
  cases y with
  |non=>cases ry;exact PySem.EqNone.eq_str_none (zw I q (by simp))
  |bl j=>cases ry;exact PySem.EqMixed.eq_str_bool (zw I q (by simp))
  |int j=>obtain⟨t',rfl⟩:=ry;exact PySem.EqMixed.eq_str_int (zw I q (by simp))
  |str j=>obtain⟨t',rfl⟩:=ry;exact eq_str (zw I q VU)
  |_=>exact absurd (show false=true from hs) Bool.false_ne_true
 |byt i=>
  obtain⟨t,rfl⟩:=rx
  cases y with
  |byt j=>obtain⟨t',rfl⟩:=ry;exact PySem.W.eq_bytes (zw I q K0)
  |_=>exact absurd (show false=true from hs) Bool.false_ne_true
 |_=>cases y <;> exact absurd (show false=true from hs) Bool.false_ne_true
theorem yA:OpR X (compareOp .NotEq) rNe:=by
 intro pins s σ H x y v u Q I rx ry h
 obtain⟨hs,q⟩:=rNe_ex h
 cases x with
 |non=>
  cases rx
  cases y with
  |non=>cases ry;exact PySem.EqNone.ne_none_none (zw I q (by simp))
  |bl j=>cases ry;exact PySem.EqNone.ne_none_bool (zw I q (by simp))
  |int j=>obtain⟨t',rfl⟩:=ry;exact PySem.EqNone.ne_none_int (zw I q (by simp))
  |str j=>obtain⟨t',rfl⟩:=ry;exact PySem.EqNone.ne_none_str (zw I q (by simp))
  |_=>exact absurd (show false=true from hs) Bool.false_ne_true
 |bl i=>
  cases rx
  cases y with
  |non=>cases ry;exact PySem.EqNone.ne_bool_none (zw I q (by simp))
  |bl j=>cases ry;exact ne_bool (zw I q (congrArg not WP))
  |str j=>obtain⟨t',rfl⟩:=ry;exact PySem.EqMixed.ne_bool_str (zw I q (by simp))
  |_=>exact absurd (show false=true from hs) Bool.false_ne_true
 |int i=>
  obtain⟨t,rfl⟩:=rx
  cases y with
  |non=>cases ry;exact PySem.EqNone.ne_int_none (zw I q (by simp))
  |int j=>obtain⟨t',rfl⟩:=ry;exact ne_int (zw I q (congrArg not Kv))
  |str j=>obtain⟨t',rfl⟩:=ry;exact PySem.EqMixed.ne_int_str (zw I q (by simp))
  |_=>exact absurd (show false=true from hs) Bool.false_ne_true
 |str i=>
  obtain⟨t,rfl⟩:=rx
  cases y with
  |non=>cases ry;exact PySem.EqNone.ne_str_none (zw I q (by simp))
  |bl j=>cases ry;exact PySem.EqMixed.ne_str_bool (zw I q (by simp))
  |int j=>obtain⟨t',rfl⟩:=ry;exact PySem.EqMixed.ne_str_int (zw I q (by simp))
  |str j=>obtain⟨t',rfl⟩:=ry;exact ne_str (zw I q (congrArg not VU))
  |_=>exact absurd (show false=true from hs) Bool.false_ne_true
 |byt i=>
  obtain⟨t,rfl⟩:=rx
  cases y with
  |byt j=>obtain⟨t',rfl⟩:=ry;exact PySem.W.ne_bytes (zw I q (congrArg not K0))
  |_=>exact absurd (show false=true from hs) Bool.false_ne_true
 |_=>cases y <;> exact absurd (show false=true from hs) Bool.false_ne_true
theorem yn:OpR X (compareOp .Lt) (rI0 λi j=>.bl (decide (i<j))):=opB0 λ_ _ _ _ _ _ _ q=>lt_int q
theorem XO:OpR X (compareOp .Gt) (rI0 λi j=>.bl (decide (j<i))):=opB0 λ_ _ _ _ _ _ _ q=>gt_int q
theorem Vm:OpR X (compareOp .GtE) (rI0 λi j=>.bl (decide (j<=i))):=opB0 λ_ _ _ _ _ _ _ q=>ge_int q
theorem Wx:OpR X (compareOp .Is) (λx y H Q=>y=.non/\Q (.bl (decide (x=.non))) H):=by
 intro pins s σ H x y v u Q I rx ry h
 obtain⟨rfl,q⟩:=h
 cases ry
 refine is_none_gen (zw I q ?_)
 cases x <;> first
  |(cases rx;rfl)
  |(obtain⟨t,rfl⟩:=rx;rfl)
theorem qC (b:Expr)(h:op≠.In:=by decide)(h2:op≠.NotIn:=by decide):behindInMarks op b=false:=by
 have e1:(op == CmpOp.In)=false:=by cases op <;> first|rfl|exact absurd rfl h
 have e2:(op == CmpOp.NotIn)=false:=by cases op <;> first|rfl|exact absurd rfl h2
 cases b <;> simp[behindInMarks,e1,e2]
theorem xY {r:R2}(ho:OpR X (compareOp op) r)(ha:PE X a ta)(hb:PE X b tb)(hm:behindInMarks op b=false):PE X (.Compare a [op] [b] pos) (tOp r ta tb):=by
 intro pins s σ H Q I h
 exact wpAny_Compare1 (binT ha hb I h λv u s2 x y H2 I2 rx ry q=>ho pins s2 σ H2 x y v u Q I2 rx ry q) hm
def J3 (t:TE):TT:=λσ H Q=>t σ H λx H'=>asB x λk=>Q k H'
theorem qm {r:R2}(ho:OpR X (compareOp op) r)(ha:PE X a ta)(hb:PE X b tb)(hm:behindInMarks op b=false):PT X (.Compare a [op] [b] pos) (J3 (tOp r ta tb)):=by
 intro pins s σ H Q I h
 refine wpAny_isTrue_Compare1 (thn (ha pins s σ H _ I h) λv s1 ⟨x,H1,I1,r1,q1⟩=>thn (hb pins s1 σ H1 _ I1 q1) λu s2 ⟨y,H2,I2,r2,q2⟩=>
  thn (ho pins s2 σ H2 x y v u _ I2 r1 r2 q2) λc s3 ⟨z,H3,I3,r3,q3⟩=>?_) hm
 obtain⟨k,e,q3⟩:=JE q3
 subst e
 cases r3
 exact wpAny_truthy_bool ⟨H3,I3,q3⟩
def TruV (K:PySem.W.Frag)(x:V)(H:Hp)(k:Bool):Prop:=
 match x with
 |.non=>k=false
 |.bl b=>k=b
 |.int i=>k=(i != 0)
 |.str y=>y.length<=sizeLine/\k=((y.length:Int) != 0)
 |.byt y=>y.size<=sizeLine/\k=((y.size:Int) != 0)
 |.ref p=>(∃ xs,SqL K H p xs/\k=!xs.isEmpty)\/(∃ xs,SqT K H p xs/\k=!xs.isEmpty)\/∃ kvs,H p=some (.dK kvs)/\k=!kvs.isEmpty
 |_=>False
theorem Xo {κ:Type}{kvs:List (κ×V)}{vs:List (κ×Value)}(r:KV kvs vs):(!vs.isEmpty)=!kvs.isEmpty:=by
 cases r <;> rfl
theorem yY {its:List Value}(r:zA xs its):(!its.toArray.isEmpty)=!xs.isEmpty:=by
 cases r <;> simp
theorem Z5:(sizeLine:Nat)<2 ^ 63:=by rw[sizeLine_eq];decide
theorem tru_ok:TruR X (λx H Q=>∃ k,TruV X.K x H k/\Q k H):=by
 intro pins s σ H x v Q I rx h
 obtain⟨k,e,q⟩:=h
 have hl:=Z5
 have hs:sizeLine=16777216:=sizeLine_eq
 cases x with
 |non=>
  cases rx
  have e':k=false:=e
  subst e'
  exact truthy_none ⟨H,I,q⟩
 |bl b=>
  cases rx
  have e':k=b:=e
  subst e'
  exact wpAny_truthy_bool ⟨H,I,q⟩
 |int i=>
  obtain⟨t,rfl⟩:=rx
  have e':k=(i != 0):=e
  subst e'
  exact PySem.P.truthy_int ⟨H,I,q⟩
 |str y=>
  obtain⟨t,rfl⟩:=rx
  obtain⟨hy,e'⟩:y.length<=sizeLine/\k=((y.length:Int) != 0):=e
  subst e'
  exact PySem.P.truthy_str (by omega) ⟨H,I.tok _,q⟩
 |byt y=>
  obtain⟨t,rfl⟩:=rx
  obtain⟨hy,e'⟩:y.size<=sizeLine/\k=((y.size:Int) != 0):=e
  subst e'
  exact PySem.W.truthy_bytes (by omega) ⟨H,I.tok _,q⟩
 |ref p=>
  cases rx
  have e':(∃ xs,SqL X.K H p xs/\k=!xs.isEmpty)\/(∃ xs,SqT X.K H p xs/\k=!xs.isEmpty)\/∃ kvs,H p=some (.dK kvs)/\k=!kvs.isEmpty:=e
  rcases e' with⟨xs,hx,e'⟩|⟨xs,hx,e'⟩|⟨kvs,hx,e'⟩
  ·subst e'
   obtain⟨its,r,pl,hz⟩:=I.list hx
   have hlen:=r.length
   exact wpAny_truthy_list pl.isList (by simp only[List.size_toArray];omega) ⟨H,I.tok _,by rw[yY r];exact q⟩
  ·subst e'
   obtain⟨its,r,pl,hz⟩:=I.tuple hx
   have hlen:=r.length
   exact truthy_tuple pl (by simp only[List.size_toArray];omega) ⟨H,I.tok _,by rw[yY r];exact q⟩
  ·subst e'
   obtain⟨hz,hS,vs,r,m⟩:kvs.length<=sizeLine/\(p == sysModules)=false/\∃ vs,KV kvs vs/\s.heap.DictOf (zj X.prog X.w) p vs:=I.hok p _ hx
   have hlen:kvs.length=vs.length:=Paired.length r
   exact wpAny_truthy_dict hS m (by omega) ⟨H,I.tok _,by rw[Xo r];exact q⟩
 |_=>exact(show False from e).elim
theorem vo (ha:PE X a ta)(he:∀ whole,isTrue a X.env whole=(do let v <- whole;standAt a.pos;holding [v] (truthy v))):
  PT X a (λσ H Q=>ta σ H λx H'=>∃ k,TruV X.K x H' k/\Q k H'):=by
 intro pins s σ H Q I h
 exact isTrue_plain (thn (ha pins s σ H _ I h) λv s1 ⟨x,H1,I1,r1,q1⟩=>tru_ok pins s1 σ H1 x v Q I1 r1 q1) (he _)
theorem X8 {x:V}(r:zA [x] us):∃ u,us=[u]/\zV x u:=by
 cases r with
 |cons r1 r2=>cases r2;exact⟨_,rfl,r1⟩
theorem vals2 {x:V}(r:zA [x,y] us):∃ u w',us=[u,w']/\zV x u/\zV y w':=by
 cases r with
 |cons r1 r2=>
  cases r2 with
  |cons r3 r4=>cases r4;exact⟨_,_,rfl,r1,r3⟩
def LenV (K:PySem.W.Frag)(x:V)(H:Hp)(n:Nat):Prop:=
 match x with
 |.str y=>y.length<=sizeLine/\n=y.length
 |.byt y=>y.size<=sizeLine/\n=y.size
 |.ref p=>(∃ xs,SqL K H p xs/\n=xs.length)\/∃ xs,SqT K H p xs/\n=xs.length
 |_=>False
theorem Wq:we X (.builtin "len") (λxs H Q=>∃ x n,xs=[x]/\LenV X.K x H n/\Q (.int n) H):=by
 intro pins s σ H xs us Q I r h
 obtain⟨x,n,rfl,e,q⟩:=h
 obtain⟨u,rfl,rx⟩:=X8 r
 have hl:=Z5
 have hs:sizeLine=16777216:=sizeLine_eq
 cases x with
 |str y=>
  obtain⟨t,rfl⟩:=rx
  obtain⟨hy,e'⟩:y.length<=sizeLine/\n=y.length:=e
  subst e'
  exact len_str (by omega) ⟨.int _,H,I.tok _,⟨_,rfl⟩,q⟩
 |byt y=>
  obtain⟨t,rfl⟩:=rx
  obtain⟨hy,e'⟩:y.size<=sizeLine/\n=y.size:=e
  subst e'
  exact PySem.W.len_bytes (by omega) ⟨.int _,H,I.tok _,⟨_,rfl⟩,q⟩
 |ref p=>
  cases rx
  have e':(∃ xs,SqL X.K H p xs/\n=xs.length)\/∃ xs,SqT X.K H p xs/\n=xs.length:=e
  rcases e' with⟨xs,hx,e'⟩|⟨xs,hx,e'⟩
  ·subst e'
   obtain⟨its,r',pl,hz⟩:=I.list hx
   have hlen:=r'.length
   exact Calls.call_len_list pl.isList (by simp only[List.size_toArray];omega) ⟨.int xs.length,H,I.tok _,⟨_,by simp only[List.size_toArray];rw[hlen]⟩,q⟩
  ·subst e'
   obtain⟨its,r',pl,hz⟩:=I.tuple hx
   have hlen:=r'.length
   exact len_tuple pl (by simp only[List.size_toArray];omega) ⟨.int xs.length,H,I.tok _,⟨_,by simp only[List.size_toArray];rw[hlen]⟩,q⟩
 |_=>exact(show False from e).elim
end
structure ObjM (h:Heap)(x dx C:Addr)(mA:Str->Option Value):Prop where
 obj:h.get? x=some (PySem.W.instObj C dx)
 ns:h.Ns1 dx mA
 ne:dx≠x
theorem Vu {dx:Addr}{mA:Str->Option Value}(n:h.Ns1 dx mA):∃ od,h.get? dx=some od/\∀ name,PySem.W.lookIn name od=some (mA name):=by
 obtain⟨o,es,ep,ho,hd,hk,_,hm⟩:=n
 refine⟨o,ho,λname=>?_⟩
 have e:=hm name
 unfold nsFind findBy at e
 rw[<-Array.find?_toList] at e
 unfold PySem.W.lookIn
 rw[hd]
 dsimp only
 split
 ·rename_i y q
  rw[q] at e
  exact congrArg some e
 ·rename_i q
  rw[q] at e
  have a:es.toList.any (·.refKey)=false:=by
   rw[List.any_eq_false]
   intro y hy
   obtain⟨z,t,hkey⟩:=hk y (Array.mem_toList_iff.mp hy)
   simp[DictEntry.refKey,hkey]
  have a':¬ es.toList.any (·.refKey)=true:=by rw[a];exact Bool.false_ne_true
  rw[if_neg a']
  exact congrArg some e
theorem ObjM.look {x dx C:Addr}{mA:Str->Option Value}(I:ObjM h x dx C mA):∃ od,PySem.W.InstAt h x (PySem.W.instObj C dx) C (some od)/\∀ name,PySem.W.lookIn name od=some (mA name):=
 let ⟨od,ho,hl⟩:=Vu I.ns
 ⟨od,⟨I.obj,rfl,rfl,ho⟩,hl⟩
def putF (f:Str)(v:V):List (Str×V)->List (Str×V)
 |[]=>[(f,v)]
 |(g,x)::r=>if g=f then(g,v)::r else(g,x)::putF f v r
theorem yz.some_of {o:Option Value}(r:yz (some v) o):∃ u,o=some u/\zV v u:=by
 cases o with
 |none=>exact(show False from r).elim
 |some u=>exact⟨u,rfl,r⟩
theorem yz.none_of {o:Option Value}(r:yz none o):o=none:=by
 cases o with
 |none=>rfl
 |some u=>exact(show False from r).elim
section
variable {P:Program}{w:World}{H H':Hp}{h h':Heap}{a C dx:Addr}{fs fs':List (Str×V)}
theorem WU (hok:HOk P w H h)(e:H a=some (.ins C dx fs)):∃ mA,ObjM h a dx C mA/\(∀ f,yz (fs.lookup f) (mA f))/\PySem.Within mA (fs.map (·.1))/\fs.length<=1000/\H dx=some (.own a):=by
 obtain⟨d,z,ne,ob,mA,n,r,q⟩:=(show ji P w H h a (.ins C dx fs) from hok a _ e)
 exact⟨mA,⟨ob,n,ne⟩,r,q,z,d⟩
end
structure Cls (K:PySem.W.Frag)(C:Addr):Prop where
 pg:PySem.W.plainGet K C Str.empty=true
 hd:PySem.W.hasDictIn K C=true
 po:PySem.W.plainOver K C=true
 sa:PySem.W.findIn K (.ref C) "__setattr__"=some (some (.builtin "object.__setattr__"))
theorem Cls.get {C:Addr}(c:Cls K C)(f:Str):PySem.W.plainGet K C f=true:=c.pg
def WJ (K:PySem.W.Frag)(C:Addr)(f:Str):Prop:=PySem.W.findIn K (.ref C) f=some none
def tFld (K:PySem.W.Frag)(ta:TE)(f:Str):TE:=λσ H Q=>ta σ H λx H1=>∃ a C dx fs v,x=.ref a/\H1 a=some (.ins C dx fs)/\Cls K C/\WJ K C f/\fs.lookup f=some v/\Q v H1
def sFld (K:PySem.W.Frag)(ta tv:TE)(f:Str):TS:=λD σ H=>tv σ H λy H1=>ta σ H1 λx H2=>∃ a C dx fs,x=.ref a/\H2 a=some (.ins C dx fs)/\Cls K C/\WJ K C f/\fs.length<1000 /\
 D.nx σ (upd H2 a (.ins C dx (putF f y fs)))
section
variable {X:Cx}{pins:List (Addr×Obj)}{σ:St}{H:Hp}{s:Shared}{A:Around}{E:Value->Shared->Prop}{Q:Value->Shared->Prop}{c:Value}{b:Bool}
inductive XJ (K:PySem.W.Frag)(H:Hp):V->Value->Prop where
 |non:XJ K H .non (.type "NoneType")
 |bl (x:Bool):XJ K H (.bl x) (.type "bool")
 |int (i:Int):XJ K H (.int i) (.type "int")
 |str (x:Str):XJ K H (.str x) (.type "str")
 |flt (x:UInt64):XJ K H (.flt x) (.type "float")
 |lst {a:Addr} {xs:List V} (e:H a=some (.lst xs)):XJ K H (.ref a) (.type "list")
 |frz {a:Addr} {o:Obj} {xs:List V} (e:H a=some (.frz o (.lst xs))):XJ K H (.ref a) (.type "list")
 |tup {a:Addr} {xs:List V} (e:H a=some (.tup xs)):XJ K H (.ref a) (.type "tuple")
 |dK {a:Addr} {kvs:List (Key×V)} (e:H a=some (.dK kvs)):XJ K H (.ref a) (.type "dict")
 |dT {a:Addr} {kvs:List (List Key×V)} (e:H a=some (.dT kvs)):XJ K H (.ref a) (.type "dict")
 |ins {a C dx:Addr} {fs:List (Str×V)} (e:H a=some (.ins C dx fs)) (cl:Cls K C) (ha:PySem.W.findIn K (.ref C) "__class__"=some (some (.builtin "object.__class__")))
   (hn:PySem.W.specialIn K (.builtin "object.__class__") "__get__"=some (some (.builtin "getset_descriptor.__get__"))) (htk:PySem.W.takesIn K (.builtin "object.__class__")=some true)
   (hm:PySem.W.mroIn K C (.type "object")=some true):XJ K H (.ref a) (.ref C)
theorem VC {x:V}{t:Value}(I:Inv X pins σ H s)(rx:zV x u)(ty:XJ X.K H x t)(e:PySem.W.kitOne X.K t c=some b)(h:∀ tk,Q (.bool b) { s with toks:=tk }):
  wpAny (model X.prog X.w) A (call (.builtin "isinstance") [u,c]) Q E s:=by
 cases ty with
 |non=>cases(show u=Value.none from rx);exact PySem.W.kia_one PySem.W.kitx_none I.kIn True.intro e (λz=>nomatch z) h
 |bl y=>cases(show u=Value.bool y from rx);exact PySem.W.kia_one PySem.W.kitx_bool I.kIn True.intro e (λz=>nomatch z) h
 |int i=>obtain⟨t,q⟩:=(show ∃ t,u=Value.int i t from rx);cases q;exact PySem.W.kia_one PySem.W.kitx_int I.kIn True.intro e (λz=>nomatch z) h
 |str y=>obtain⟨t,q⟩:=(show ∃ t,u=Value.str y t from rx);cases q;exact PySem.W.kia_one PySem.W.kitx_str I.kIn True.intro e (λz=>nomatch z) h
 |flt y=>obtain⟨t,q⟩:=(show ∃ t,u=Value.float y t from rx);cases q;exact PySem.W.kia_one PySem.W.kitx_float I.kIn True.intro e (λz=>nomatch z) h
 |@lst a xs ea=>
  cases(show u=Value.ref a from rx)
  obtain⟨_,_,n,_,h1⟩:=(show ji X.prog X.w H s.heap a (.lst xs) from I.hok a _ ea)
  exact PySem.W.kia_one PySem.W.kitx_list I.kIn ⟨_,h1,rfl⟩ e (λz=>nomatch z) h
 |@frz a ob xs ea=>
  cases(show u=Value.ref a from rx)
  obtain⟨_,_,_,n,_,h1⟩:=(show ji X.prog X.w H s.heap a (.frz ob (.lst xs)) from I.hok a _ ea)
  exact PySem.W.kia_one PySem.W.kitx_list I.kIn ⟨_,h1,rfl⟩ e (λz=>nomatch z) h
 |@tup a xs ea=>
  cases(show u=Value.ref a from rx)
  obtain⟨_,_,_,p⟩:=(show ji X.prog X.w H s.heap a (.tup xs) from I.hok a _ ea)
  obtain⟨o,h1,h2,_⟩:=p
  exact PySem.W.kia_one PySem.W.kitx_tuple I.kIn ⟨o,h1,h2⟩ e (λz=>nomatch z) h
 |@dK a kvs ea=>
  cases(show u=Value.ref a from rx)
  obtain⟨_,_,vs,_,p⟩:=(show ji X.prog X.w H s.heap a (.dK kvs) from I.hok a _ ea)
  obtain⟨o,es,ep,h1,h2,_⟩:=p
  exact PySem.W.kia_one PySem.W.kitx_dict I.kIn ⟨o,h1,h2.1⟩ e (λz=>nomatch z) h
 |@dT a kvs ea=>
  cases(show u=Value.ref a from rx)
  obtain⟨_,_,xs,_,o,es,ep,h1,h2,_⟩:=(show ji X.prog X.w H s.heap a (.dT kvs) from I.hok a _ ea)
  exact PySem.W.kia_one PySem.W.kitx_dict I.kIn ⟨o,h1,h2.1⟩ e (λz=>nomatch z) h
 |@ins a C dx fs ea cl ha hn htk hm=>
  cases(show u=Value.ref a from rx)
  obtain⟨mA,O,_⟩:=WU I.hok ea
  obtain⟨od,J,_⟩:=O.look
  exact PySem.W.kia_one (PySem.W.kitx_own (cl.get _) cl.hd ha hn htk hm) I.kIn J e (λz=>nomatch z) h
end
structure vR (k:Nat)(A:Around):Prop where
 hd:A.handled=none
 dp:A.depth+3*k+5<recursionLimit
 un:A.units+16*k+200<cLine
theorem vR.mono (r:vR k A)(h:j<=k):vR j A:=⟨r.hd,by have:=r.dp;omega,by have:=r.un;omega⟩
theorem vR.deeper (r:vR (k+1) A)(env:Env):vR k (A.deeper env):=
 ⟨r.hd,by have:=r.dp;show A.depth+1+3*k+5<_;omega,by have:=r.un;show A.units+3+16*k+200<_;omega⟩
theorem vR.in1 (r:vR (k+1) A):vR k A.in1:=
 ⟨r.hd,by have:=r.dp;show A.depth+3*k+5<_;omega,by have:=r.un;show A.units+1+16*k+200<_;omega⟩
theorem vR.depth (r:vR k A):A.depth<recursionLimit:=by have:=r.dp;omega
theorem vR.units (r:vR k A):A.units+64<cLine:=by have:=r.un;omega
theorem vR.units0 (r:vR k A):A.units<cLine:=by have:=r.un;omega
def WI:TA:=λ_ H Q=>Q [] H
def yE (ta:TE)(tr:TA):TA:=λσ H Q=>ta σ H λx H1=>tr σ H1 λxs H2=>Q (x::xs) H2
section
variable {X:Cx}{e:Expr}{es:List Expr}{te:TE}{t:TA}{pos:Pos}
theorem qd:PA X [] WI:=λ_ _ _ _ H Q I h=>Calls.spliced_nil ⟨[],H,I,.nil,h⟩
theorem q5 (ha:PE X e te)(hr:PA X es t)(hs:starEach (e::es) X.env=(false,eval e X.env)::starEach es X.env:=by rfl):PA X (e::es) (yE te t):=by
 intro pos pins s σ H Q I h
 rw[hs]
 show wpAny _ _ (spliced ((false,eval e X.env)::backTo pos (starEach es X.env))) _ _ s
 refine Calls.spliced_cons (thn (ha pins s σ H _ I h) λu s1 ⟨x,H1,I1,r1,q1⟩=>?_)
 exact thn (hr pos pins s1 σ H1 _ I1 q1) λus s2 ⟨xs,H2,I2,r2,q2⟩=>⟨x::xs,H2,I2,.cons r1 r2,q2⟩
def tTup (t:TA):TE:=λσ H Q=>t σ H λxs H1=>xs.length<=sizeLine/\∀ p,H1 p=none->Q (.ref p) (upd H1 p (.tup xs))
def tLst (t:TA):TE:=λσ H Q=>t σ H λxs H1=>xs.length<=sizeLine/\∀ p,H1 p=none->Q (.ref p) (upd H1 p (.lst xs))
theorem xj {x1}(h:PA X es t):PE X (.Tuple es x1 pos) (tTup t):=by
 intro pins s σ H Q I hq
 refine wpAny_Tuple_spliced (thn (h pos pins s σ H _ I hq) λus s1 ⟨xs,H1,I1,r,z,q⟩=>⟨by rw[<-r.length];exact z,?_⟩)
 have hf:H1 s1.heap.objs.size=none:=I1.hok.fresh (Nat.le_refl _)
 refine⟨.ref s1.heap.objs.size,upd H1 s1.heap.objs.size (.tup xs),I1.laid (t':=s1.toks) (λb u e=>Heap.get?_push_of_some _ e) (Nat.le_refl _) ?_,rfl,q _ hf⟩
 exact⟨z,us,r,⟨_,Heap.get?_push_size _ rfl,rfl,_,rfl⟩⟩
theorem yV (h:PA X es t):PE X (.List es pos) (tLst t):=by
 intro pins s σ H Q I hq
 refine wpAny_List_spliced (thn (h pos pins s σ H _ I hq) λus s1 ⟨xs,H1,I1,r,z,q⟩=>⟨by rw[<-r.length];exact z,?_⟩)
 have hf:H1 s1.heap.objs.size=none:=I1.hok.fresh (Nat.le_refl _)
 refine⟨.ref s1.heap.objs.size,upd H1 s1.heap.objs.size (.lst xs),I1.laid (t':=s1.toks) (λb u e=>Heap.get?_push_of_some _ e) (Nat.le_refl _) ?_,rfl,q _ hf⟩
 exact⟨z,us,0,r,Heap.get?_push_size _ rfl⟩
end
abbrev Sp:=List V->Hp->VK->XK->Prop
abbrev CXT:=List Env->Hp->Shared->XK->Value->Shared->Prop
structure WS (P:Program)(w:World)(K:PySem.W.Frag)(mg:Str->Option Value)(base:Heap)(A:Around)(outer:List Env)(s:Shared)(H:Hp):Prop where
 frames:A.frames=some outer
 mod:Mod K mg base
 bs:∀ b o,base.get? b=some o->s.heap.get? b=some o/\H b=none
 bsz:base.objs.size<=s.heap.objs.size
 funs:s.heap.FunFrames base outer
 frf:∀ b∈frs outer,H b=none
 hok:HOk P w H s.heap
 bare:AllBare s.gens
def CE (outer:List Env)(P:Program)(w:World)(H:Hp)(s:Shared)(Q:VK)(u:Value)(s':Shared):Prop:=
 ∃ v H',s'.os=s.os/\AllBare s'.gens/\Un (frs outer) [] H H' s.heap s'.heap/\HOk P w H' s'.heap/\zV v u/\Q v H'
def CR (CX:CXT)(outer:List Env)(P:Program)(w:World)(H:Hp)(s:Shared)(Q:VK)(E:XK)(r:Result)(s':Shared):Prop:=
 match r with
 |.ok (.ret u)=>CE outer P w H s Q u s'
 |.ok _=>False
 |.error e=>CX outer H s E e s'
structure jA (P:Program)(w:World)(K:PySem.W.Frag)(mg:Str->Option Value)(base:Heap)(CX:CXT)(k:Nat)(f:Addr)(fd:FuncData)(ps:List Str)(sp:Sp):Prop where
 len:∀ vs H Q E,sp vs H Q E->vs.length=ps.length
 run:∀ (A:Around) (outer:List Env) (s:Shared) (H:Hp) (args:Args) (us:List Value) (vs:List V) (Q:VK) (E:XK),vR k A->WS P w K mg base A outer s H->BindsTo s fd args (ps.zip us)->zA vs us->sp vs H Q E ->
  codeAny (model P w) A (.call (.ref f) args) (CR CX outer P w H s Q E) s
theorem jA.mono {f:Addr}(F:jA P w K mg base CX j f fd ps sp)(h:j<=k):
  jA P w K mg base CX k f fd ps sp:=⟨F.len,λA outer s H args us vs Q E hr=>F.run A outer s H args us vs Q E (hr.mono h)⟩
theorem jA.imp {f:Addr}{sp':Sp}(F:jA P w K mg base CX k f fd ps sp)
  (h:∀ vs H Q E,sp' vs H Q E->sp vs H Q E):jA P w K mg base CX k f fd ps sp':=
 ⟨λvs H Q E q=>F.len vs H Q E (h _ _ _ _ q),λA outer s H args us vs Q E hr he hb hv hs=>F.run A outer s H args us vs Q E hr he hb hv (h _ _ _ _ hs)⟩
theorem WS.in1 {outer:List Env}(e:WS P w K mg base A outer s H):
  WS P w K mg base A.in1 outer s H:=⟨e.frames,e.mod,e.bs,e.bsz,e.funs,e.frf,e.hok,e.bare⟩
section
variable {X:Cx}{pins:List (Addr×Obj)}{σ:St}{H:Hp}{s s':Shared}
theorem Inv.env0 (I:Inv X pins σ H s):WS X.prog X.w X.K X.mg X.base X.A X.stack s H:=
 ⟨I.ok.frames,I.ok.mod,I.bs,Nat.le_trans I.ok.bsz I.sz,I.stack,I.stkFree,I.hok,I.bare⟩
theorem Inv.after {Q:VK}(I:Inv X pins σ H s)(h:CE X.stack X.prog X.w H s Q u s'):EP X pins σ Q u s':=by
 obtain⟨v,H',os,bare,un,hok,r,q⟩:=h
 obtain⟨hh,g,d,t,os'⟩:=s'
 obtain rfl:os'=s.os:=os
 exact⟨v,H',I.call (h':=hh) (g':=g) (d':=d) (t':=t) (ch:=[]) un hok bare (λb z=>absurd z (by simp)),r,q⟩
end
def KM (sp:Sp)(dvs:List V)(E:XK)(t:TA):TE:=λσ H Q=>t σ H λvs H1=>sp (vs++dvs) H1 Q E
def Qd (K:PySem.W.Frag)(fd:FuncData)(ps:List Str)(ds:List Value):Prop:=
 ∀ (s:Shared) (us:List Value),K.In s.heap->(us++ds).length=ps.length->BindsTo s fd ⟨us,[]⟩ (ps.zip (us++ds))
theorem Qd.all (h:∀ us:List Value,us.length=ps.length->bindArgs fd ⟨us,[]⟩=pure (ps.zip us)):Qd K fd ps []:=λs us _ hl=>by
 rw[List.append_nil] at hl ⊢
 exact .of_eq (h us hl)
def Zb (CX:CXT)(X:Cx)(E:XK):Prop:=∀ (pins:List (Addr×Obj)) (σ:St) (H:Hp) (s:Shared) (e:Value) (s':Shared),Inv X pins σ H s->CX X.stack H s E e s'->X.xe e s'
section
variable {X:Cx}{CX:CXT}{k:Nat}{f C:Addr}{fd:FuncData}{ps:List Str}{sp:Sp}{dvs:List V}{ds:List Value}{E:XK}{x m:Str}{p pos apos:Pos}{e o:Expr}{es:List Expr}{ta:TE}{t:TA}
theorem run_fn {Q:VK}{vs:List V}(F:jA X.prog X.w X.K X.mg X.base CX k f fd ps sp)(hr:vR k X.A)(hb:Qd X.K fd ps ds)(hd:zA dvs ds)(hx:Zb CX X E)
  (I:Inv X pins σ H s) (r:zA vs us) (h:sp (vs++dvs) H Q E):wpAny (model X.prog X.w) X.A (call (.ref f) us) (EP X pins σ Q) X.xe s:=by
 have r2:zA (vs++dvs) (us++ds):=r.append hd
 have hl:(us++ds).length=ps.length:=by rw[<-r2.length];exact F.len _ _ _ _ h
 refine wpAny_call (codeAny_mono (F.run X.A X.stack s H ⟨us,[]⟩ (us++ds) (vs++dvs) Q E hr I.env0 (hb s us I.kIn hl) r2 h) λr s' hq=>?_)
 cases r with
 |error e=>exact hx pins σ H s e s' I hq
 |ok fl=>
  cases fl with
  |ret u=>exact I.after hq
  |next=>exact False.elim hq
  |brk=>exact False.elim hq
  |cont=>exact False.elim hq
theorem qo (F:jA X.prog X.w X.K X.mg X.base CX k f fd ps sp)(hr:vR k X.A)(hg:Gl X x)(hm:X.mg x=some (.ref f))(hk:PySem.W.keepIn X.K (.ref f)=true)(hb:Qd X.K fd ps ds)(hd:zA dvs ds)(hx:Zb CX X E)
  (ha:PA X (e::es) t) (hdb:(x == ("__debug__":Str))=false:=by decide) (he:starEach (e::es) X.env=(false,eval e X.env)::starEach es X.env:=by rfl) (hpl:(backTo pos (starEach es X.env)).any (·.1)=false:=by rfl):
  PE X (.Call (.Name x p) (e::es) [] pos) (KM sp dvs E t):=by
 intro pins s σ H Q I h
 refine wpAny_Call_Name_kw (yr I hg hm ?_ hdb)
 refine PySem.W.callWith_K (h₀:=X.base) I.ok.mod.kin hk (thn (ha pos pins s σ H _ I h) λus s1 ⟨vs,H1,I1,r,q⟩=>⟨I1.kIn,?_⟩) he hpl
 exact run_fn F hr hb hd hx I1 r q
end
structure qE (N P:List Str)(sc:Scope):Prop where
 kind:sc.kind=.function
 co:sc.isCoroutine=false
 gen:sc.isGenerator=false
 nd:N.Nodup
 pre:N.take P.length=P
 par:∀ x∈P,sc.names.lookup x=some .local\/sc.names.lookup x=some .cell
 nofree:∀ y∈sc.names,y.2≠.free
theorem ZT {kindOf:Str->Option NameKind}{x:Str}:∀ {binds:List (Str×Value)} {m:Str->Option Value},(∀ v,(x,v) ∉ binds)->bindL kindOf binds m x=m x
 |[],_,_=>rfl
 |(n,v)::r,m,h=>by
  unfold bindL
  rw[ZT λw hw=>h w (List.mem_cons_of_mem _ hw)]
  split
  ·have:x≠n:=by rintro rfl;exact h v List.mem_cons_self
   simp[this]
  ·rfl
theorem ZP {kindOf:Str->Option NameKind}{x:Str}:∀ {binds:List (Str×Value)} {m:Str->Option Value},(∀ v,(x,v) ∉ binds)->bindC kindOf binds m x=m x
 |[],_,_=>rfl
 |(n,v)::r,m,h=>by
  unfold bindC
  rw[ZP λw hw=>h w (List.mem_cons_of_mem _ hw)]
  split
  ·rfl
  ·have:x≠n:=by rintro rfl;exact h v List.mem_cons_self
   simp[this]
theorem ZU {kindOf:Str->Option NameKind}{x:Str}{v:Value}:∀ {P:List Str} {vs:List Value} {i:Nat} {m:Str->Option Value},P.Nodup->P[i]?=some x->vs[i]?=some v->kindOf x=some .local ->
  bindL kindOf (P.zip vs) m x=some v
 |[],_,_,_,_,h,_,_=>by simp at h
 |_::_,[],_,_,_,_,h,_=>by simp at h
 |p::P,w::vs,0,m,nd,h1,h2,hk=>by
  simp at h1 h2;subst h1;subst h2
  show bindL kindOf ((p,w)::P.zip vs) m p=_
  unfold bindL
  rw[ZT λv hv=>(List.nodup_cons.mp nd).1 (List.of_mem_zip hv).1,if_pos hk]
  simp
 |p::P,w::vs,i+1,m,nd,h1,h2,hk=>by
  show bindL kindOf ((p,w)::P.zip vs) m x=_
  unfold bindL
  exact ZU (i:=i) (List.nodup_cons.mp nd).2 (by simpa using h1) (by simpa using h2) hk
theorem Z0 {kindOf:Str->Option NameKind}{x:Str}{v:Value}:∀ {P:List Str} {vs:List Value} {i:Nat} {m:Str->Option Value},P.Nodup->P[i]?=some x->vs[i]?=some v->kindOf x≠some .local ->
  bindC kindOf (P.zip vs) m x=some v
 |[],_,_,_,_,h,_,_=>by simp at h
 |_::_,[],_,_,_,_,h,_=>by simp at h
 |p::P,w::vs,0,m,nd,h1,h2,hk=>by
  simp at h1 h2;subst h1;subst h2
  show bindC kindOf ((p,w)::P.zip vs) m p=_
  unfold bindC
  rw[ZP λv hv=>(List.nodup_cons.mp nd).1 (List.of_mem_zip hv).1,if_neg hk]
  simp
 |p::P,w::vs,i+1,m,nd,h1,h2,hk=>by
  show bindC kindOf ((p,w)::P.zip vs) m x=_
  unfold bindC
  exact Z0 (i:=i) (List.nodup_cons.mp nd).2 (by simpa using h1) (by simpa using h2) hk
def wG (N:List Str)(vs:List V):St:=vs.map some++List.replicate (N.length-vs.length) none
def xO (CX:CXT)(P:Program)(w:World)(K:PySem.W.Frag)(mg:Str->Option Value)(base:Heap)(N:List Str)(qual:Str)(scope:Scope)(f:Addr)(cd:Value)(A:Around)(outer:List Env)(s:Shared)(H:Hp)(E:XK):Cx where
 prog:=P
 w:=w
 K:=K
 mg:=mg
 base:=base
 A:=A.deeper (envOfC qual scope s.heap.objs.size f cd)
 N:=N
 s₀:=s
 H₀:=H
 env:=envOfC qual scope s.heap.objs.size f cd
 outer:=outer
 stack:=envOfC qual scope s.heap.objs.size f cd::outer
 ex:=[]
 calm:=true
 fn:=λ_=>true
 pn:=[]
 xe:=λe s'=>wpAny (model P w) (A.deeper (envOfC qual scope s.heap.objs.size f cd)) (leaving (envOfC qual scope s.heap.objs.size f cd) e) (λ_ s''=>CX outer H s E e s'') (λe' s''=>CX outer H s E e' s'') s'
theorem X5 {sc:Scope}(h:sc.names.lookup x=some .cell):∃ c,(cellsFrom n sc.names []).lookup x=some c:=by
 have q:=PySem.W.cellsFrom_some sc.names n [] (.inl h)
 exact Option.isSome_iff_exists.mp q
theorem Kq {qual:Str}{scope:Scope}{f:Addr}{cd:Value}{outer:List Env}{s1:Shared}{E:XK}{vs:List V}
  (S:qE N ps scope) (hd:A.handled=none) (e0:WS P w K mg base A outer s H) (hl:vs.length=ps.length) (r:zA vs us)
  (x:InCallC s s.heap.objs.size (bindL (envOfC qual scope s.heap.objs.size f cd).kindOf (ps.zip us) λ_=>none) (cellsFrom (s.heap.objs.size+1) scope.names []) (bindC (envOfC qual scope s.heap.objs.size f cd).kindOf (ps.zip us) λ_=>none) s1):
  Inv (xO CX P w K mg base N qual scope f cd A outer s H E) [] (wG N vs) H s1:=by
 have hpl:ps.length<=N.length:=by have:=congrArg List.length S.pre;rw[List.length_take] at this;omega
 obtain⟨h1,tk,rfl,hk⟩:=x.done
 have noA:∀ b:Addr,b ∉ (xO CX P w K mg base N qual scope f cd A outer s H E).ex:=λb z=>absurd (show b∈([]:List Addr) from z) (by simp)
 refine⟨⟨e0.mod,S.kind,rfl,rfl,Nat.le_refl _,λy z c h1 h2=>?_,λy hy=>?_,λy c _ h=>?_,λ_=>hd,Around.frames_deeper e0.frames,.inr ⟨rfl,rfl⟩,λb z=>absurd z (noA b),e0.bs,e0.bsz,λb _ _=>noA b,λb z=>absurd z (noA b),e0.funs,e0.frf⟩,
  rfl,e0.bare,Un.kept hk,⟨_,x.toInCall.ns,λi y v h1 h2 h3=>?_⟩,λy c h=>⟨_,x.cell y c h⟩,e0.hok.fresh (Nat.le_refl _),λy c h=>?_,λp hp=>absurd (show p∈([]:List (Addr×Obj)) from hp) (by simp),e0.hok.kept hk,?_⟩
 ·exact name_of_addr x.apart (PySem.mem_of_lookup h1) (PySem.mem_of_lookup h2)
 ·have hy:scope.names.lookup y=some .cell\/scope.names.lookup y=some .free:=hy
  rcases hy with hy|hy
  ·exact X5 hy
  ·exact absurd rfl (S.nofree _ (PySem.mem_of_lookup hy))
 ·exact Nat.le_of_lt (x.above y c (PySem.mem_of_lookup h))
 ·have hi:i<vs.length:=by
   unfold wG at h2
   by_cases hi:i<vs.length
   ·exact hi
   ·rw[List.getElem?_append_right (by simpa using hi)] at h2
    rw[List.getElem?_replicate] at h2
    split at h2 <;> cases h2
  have ha:vs[i]?=some v:=by
   unfold wG at h2
   rw[List.getElem?_append_left (by simpa using hi),List.getElem?_map] at h2
   cases e:vs[i]? with
   |none=>rw[e] at h2;cases h2
   |some a=>rw[e] at h2;cases h2;rfl
  obtain⟨u,hu,rv⟩:=r.get ha
  have hp:ps[i]?=some y:=by
   rw[<-S.pre,List.getElem?_take_of_lt (by omega)];exact h1
  have ndP:ps.Nodup:=by rw[<-S.pre];exact S.nd.sublist (List.take_sublist _ _)
  refine⟨u,rv,?_⟩
  rcases S.par y (List.mem_of_getElem? hp) with k|k
  ·exact .inl ⟨k,ZU ndP hp hu k⟩
  ·obtain⟨c,e⟩:=X5 (n:=s.heap.objs.size+1) k
   refine .inr ⟨.inl k,c,e,?_⟩
   have q:=x.cell y c e
   rw[Z0 ndP hp hu (by show scope.names.lookup y≠_;rw[k];decide)] at q
   exact q
 ·exact e0.hok.fresh (Nat.le_of_lt (x.above y c (PySem.mem_of_lookup h)))
 ·unfold wG
  show _=N.length
  rw[List.length_append,List.length_map,List.length_replicate]
  omega
theorem fn_of {f:Addr}{name qual:Str}{params:Arguments}{scope:Scope}{dV kV doc pm cdv ct oc:Value}{an od:Option Addr}
  {osl:Array (Option Value)} (lk:K.lookup f=some ⟨oc,od,.func (PySem.W.fnOf name qual params body scope dV kV doc pm an cdv ct),osl⟩) (hcd:PySem.W.codeIn K cdv qual=true) (S:qE N ps scope)
  (len:∀ vs H Q E,sp vs H Q E->vs.length=ps.length)
  (hbody:∀ (A:Around) (outer:List Env) (s:Shared) (H:Hp) (vs:List V) (Q:VK) (E:XK),vR k (A.deeper (envOfC qual scope s.heap.objs.size f cdv))->sp vs H Q E ->
   ∃ t,PSs (xO CX P w K mg base N qual scope f cdv A outer s H E) body t/\t { nx:=λ_ H'=>Q .non H',rt:=Q } (wG N vs) H):
  jA P w K mg base CX (k+1) f (PySem.W.fnOf name qual params body scope dV kV doc pm an cdv ct) ps sp:=by
 refine⟨len,λA outer s H args us vs Q E hr e0 hb r hsp=>?_⟩
 have hl:=len _ _ _ _ hsp
 have KX:K.In s.heap:=e0.mod.kin.keeps λb o e=>(e0.bs b o e).1
 have lim:s.heap.NoLimit:=e0.mod.nolimit.keeps λb o e=>(e0.bs b o e).1
 have hkind:∀ y∈ps.zip us,scope.names.lookup y.1=some .local\/(scope.names.lookup y.1=some .cell/\((cellsFrom (s.heap.objs.size+1) scope.names []).lookup y.1).isSome=true):=λ⟨n,v⟩ hy=>by
  rcases S.par n (List.of_mem_zip hy).1 with q|q
  ·exact .inl q
  ·exact .inr ⟨q,PySem.W.cellsFrom_some _ _ _ (.inl q)⟩
 refine codeAny_call_function hr.depth (KX _ _ lk) rfl S.co S.gen rfl (PySem.W.codeRec_of KX hcd) (hb _ _ _ _ ?_)
 refine wpAny_newFunctionEnv_cells S.kind hkind λenv he s1 x=>?_
 subst he
 refine⟨lim.keeps x.toInCall.keep,codeAny_func ?_⟩
 obtain⟨t,ht,hq⟩:=hbody A outer s H vs Q E (hr.deeper _) hsp
 have I:Inv (xO CX P w K mg base N qual scope f cdv A outer s H E) [] (wG N vs) H s1:=Kq S hr.hd e0 hl r x
 refine wpAny_mono (ht [] s1 (wG N vs) H _ I hq) (λfl s' hs=>?_) λe s' hs=>hs
 have fin:∀ {σ':St} {H':Hp} {v:V} {u:Value},Inv (xO CX P w K mg base N qual scope f cdv A outer s H E) [] σ' H' s'->zV v u->Q v H'->CE outer P w H s Q u s':=
  λ{σ' H' v u} J rv q=>⟨v,H',J.os,J.bare,J.base,J.hok,rv,q⟩
 cases fl with
 |ret u=>
  obtain⟨v,σ',H',J,rv,q⟩:=hs
  exact fin J rv q
 |next=>
  obtain⟨σ',H',J,q⟩:=hs
  exact fin (v:=V.non) (u:=Value.none) J rfl q
 |brk=>
  obtain⟨_,_,_,q⟩:=hs
  exact False.elim q
 |cont=>
  obtain⟨_,_,_,q⟩:=hs
  exact False.elim q
section
variable {X:Cx}{x:Str}{p pos:Pos}{e:Expr}{es:List Expr}{t:TA}{id T:String}{r:List V->Hp->VK->Prop}
def tCB (r:List V->Hp->VK->Prop)(t:TA):TE:=λσ H Q=>t σ H λvs H1=>r vs H1 Q
theorem qP (hc:we X (.builtin id) r)(hg:Gl X x)(hm:X.mg x=none)(hv:bootBuiltins x=some (.builtin id))(ha:PA X (e::es) t)(hn:x≠"__name__":=by decide)(hdb:(x == ("__debug__":Str))=false:=by decide)
  (he:starEach (e::es) X.env=(false,eval e X.env)::starEach es X.env:=by rfl) (hpl:(backTo pos (starEach es X.env)).any (·.1)=false:=by rfl):PE X (.Call (.Name x p) (e::es) [] pos) (tCB r t):=by
 intro pins s σ H Q I h
 refine wpAny_Call_Name_kw (kD I hg hm hv ?_ hn hdb)
 exact PyProof.Rows.callWith_builtin1 (thn (ha pos pins s σ H _ I h) λus s1 ⟨vs,H1,I1,r1,q1⟩=>hc pins s1 σ H1 vs us Q I1 r1 q1) he hpl
theorem jx (hc:we X (.type T) r)(hg:Gl X x)(hm:X.mg x=none)(hv:bootBuiltins x=some (.type T))(ha:PA X (e::es) t)(hn:x≠"__name__":=by decide)(hdb:(x == ("__debug__":Str))=false:=by decide)
  (he:starEach (e::es) X.env=(false,eval e X.env)::starEach es X.env:=by rfl) (hpl:(backTo pos (starEach es X.env)).any (·.1)=false:=by rfl):PE X (.Call (.Name x p) (e::es) [] pos) (tCB r t):=by
 intro pins s σ H Q I h
 refine wpAny_Call_Name_kw (kD I hg hm hv ?_ hn hdb)
 exact PyProof.Rows.callWith_type1 (thn (ha pos pins s σ H _ I h) λus s1 ⟨vs,H1,I1,r1,q1⟩=>hc pins s1 σ H1 vs us Q I1 r1 q1) he hpl
end
end L2
namespace HT
open PySem PyProof.Rows
section
open PySem.SeqAt
open PySem.AutoSeq1 (wpAny_loadPart')
open PySem.MeetsSeq PySem.MeetsSeq2 PySem.MeetsSeq3
end
section
variable {prog:Program}{w:World}{A:Around}{E:Value->Shared->Prop}{s:Shared}
theorem cat_tup {t b:Addr}{vs ws:List Value}{Q:Value->Shared->Prop}(ht:IsTup s.heap t vs.toArray)(hb:IsTup s.heap b ws.toArray)(hv:vs≠[])
  (h1:ws=[]->Q (.ref t) s) (h2:ws≠[]->Q (.ref s.heap.objs.size) { s with heap:=s.heap.push { cls:=.type "tuple",data:=.seq (vs++ws).toArray } })
  (hsz:vs.length+ws.length<=sizeLine):wpAny (model prog w) A (binaryOp .Add (.ref t) (.ref b)) Q E s:=by
 obtain⟨⟨cls,dd,data,sl⟩,ho,hc,n,hd⟩:=id ht
 obtain⟨⟨cls2,dd2,data2,sl2⟩,ho2,hc2,n2,hd2⟩:=id hb
 simp only at hc hd hc2 hd2
 subst hc hd hc2 hd2
 have e:vs.toArray++ws.toArray=(vs++ws).toArray:=by simp
 by_cases hw:ws=[]
 ·exact concat_meets ⟨_,ho,rfl⟩ ⟨_,ho2,rfl⟩ noFill_tuple_add seq_tuple_add PySem.F.slot_tuple_add PySem.F.entry_tuple_add (PySem.F.args_tuple_add_2 _ _)
   (tuple_addW1 t b vs.toArray ws.toArray n n2 dd dd2 sl sl2 (by simpa using hv) (by simp[hw])) ⟨ho,ho2,h1 hw⟩
 ·refine concat_meets ⟨_,ho,rfl⟩ ⟨_,ho2,rfl⟩ noFill_tuple_add seq_tuple_add PySem.F.slot_tuple_add PySem.F.entry_tuple_add (PySem.F.args_tuple_add_2 _ _)
   (tuple_addW2 t b vs.toArray ws.toArray n n2 dd dd2 sl sl2 (by simpa using hv) (by simpa using hw) (by rw[List.size_toArray,List.size_toArray];exact hsz)) ⟨ho,ho2,?_⟩
  rw[e]
  exact h2 hw
def sIx (n d:Nat):Option Int->Nat
 |none=>d
 |some v=>if v<0 then(v+(n:Int)).toNat else min v.toNat n
theorem sIx_none (n d:Nat):sIx n d none=d:=rfl
theorem sIx_nat (n d k:Nat):sIx n d (some (k:Int))=min k n:=by
 show(if (k:Int)<0 then((k:Int)+(n:Int)).toNat else min (k:Int).toNat n)=min k n
 rw[if_neg (by omega),Int.toNat_natCast]
theorem sIx_le (n d:Nat)(hd:d<=n)(o:Option Int):sIx n d o<=n:=by
 cases o with
 |none=>exact hd
 |some v=>
  show(if v<0 then(v+(n:Int)).toNat else min v.toNat n)<=n
  by_cases hv:v<0
  ·rw[if_pos hv];omega
  ·rw[if_neg hv];exact Nat.min_le_right _ _
theorem Vo (v:Int)(n d:Nat):(if v<0 then max (v+(n:Int)) 0 else min v (n:Int))=((sIx n d (some v):Nat):Int):=by
 show(if v<0 then max (v+(n:Int)) 0 else min v (n:Int))=(((if v<0 then(v+(n:Int)).toNat else min v.toNat n):Nat):Int)
 by_cases hv:v<0
 ·simp only[if_pos hv];omega
 ·simp only[if_neg hv];omega
theorem Xv (lo hi:Option Int)(n:Nat):Builtin.Slice.sliceAdjust lo hi 1 (n:Int)=(((sIx n 0 lo:Nat):Int),((sIx n n hi:Nat):Int)):=by
 have h1:¬ ((1:Int)<0):=by omega
 unfold Builtin.Slice.sliceAdjust
 simp only[h1,if_false]
 refine Prod.ext ?_ ?_
 ·cases lo with
  |none=>rfl
  |some v=>exact Vo v n 0
 ·cases hi with
  |none=>rfl
  |some v=>exact Vo v n n
theorem XB (i j:Nat):Builtin.Slice.slicePlaces (i:Int) (j:Int) 1=j-i:=by
 unfold Builtin.Slice.slicePlaces
 have h1:(1:Int)>0:=by omega
 simp only[h1,if_true,Int.ediv_one]
 split <;> omega
theorem yU {v:Value}{o:Option Int}{Q:Option Int->Shared->Prop}(p:IsPart v o)(h:Q o s):wpAny (model prog w) A (Builtin.Slice.slicePartIndex v) Q E s:=by
 cases p with
 |none=>exact slicePart_none h
 |int i t=>exact slicePart_int h
theorem sliceApplied_gen {sl:Addr}{vl vu:Value}{lo hi:Option Int}{n:Nat}{Q:Int×Int×Nat->Shared->Prop}(hs:s.heap.IsSliceOf sl vl vu .none)(pl:IsPart vl lo)(pu:IsPart vu hi)
  (h:Q (((sIx n 0 lo:Nat):Int),1,sIx n n hi-sIx n 0 lo) s):wpAny (model prog w) A (Builtin.Slice.sliceApplied (.ref sl) (pure (n:Int))) Q E s:=by
 obtain⟨os,hos,hcs,hds⟩:=id hs
 unfold Builtin.Slice.sliceApplied Builtin.Slice.sliceFields
 refine wpAny_bind (wpAny_bind (wpAny_field hos hds (x:=vl) rfl (wpAny_bind (wpAny_field hos hds (x:=vu) rfl (wpAny_bind (wpAny_field hos hds (x:=.none) rfl (wpAny_pure ?_)))))))
 refine wpAny_bind (slicePart_none ?_)
 show wpAny _ _ (if ((1:Int) == 0)=true then _ else _) _ _ s
 rw[if_neg (by decide)]
 refine wpAny_bind (yU pl (wpAny_bind (yU pu (wpAny_bind (wpAny_pure ?_)))))
 show wpAny _ _ (match Builtin.Slice.sliceAdjust lo hi 1 (n:Int) with|(lo,hi)=>pure (lo,(1:Int),Builtin.Slice.slicePlaces lo hi 1)) _ _ s
 rw[Xv lo hi n]
 show wpAny _ _ (pure (((sIx n 0 lo:Nat):Int),(1:Int),Builtin.Slice.slicePlaces ((sIx n 0 lo:Nat):Int) ((sIx n n hi:Nat):Int) 1)) _ _ s
 rw[XB]
 exact wpAny_pure h
theorem W8 (xs:Array Value)(i k:Nat):((List.range k).filterMap λ(m:Nat)=>xs[((i:Int)+(m:Int)*1).toNat]?).toArray=((xs.toList.drop i).take k).toArray:=by
 have e:(λ(m:Nat)=>xs[((i:Int)+(m:Int)*1).toNat]?)=λm=>xs[i+m]?:=by
  funext m
  have:((i:Int)+(m:Int)*1).toNat=i+m:=by omega
  rw[this]
 rw[e]
 have:=pick_run xs i k
 rw[List.filterMap_map] at this
 have e2:((λx=>xs[x]?) ∘ λx=>i+x)=λm=>xs[i+m]?:=rfl
 rw[e2] at this
 rw[this]
theorem getItem_tuple_cut {t sl:Addr}{items:Array Value}{vl vu:Value}{lo hi:Option Int}{Q:Value->Shared->Prop}(ht:IsTup s.heap t items)(hs:s.heap.IsSliceOf sl vl vu .none)(pl:IsPart vl lo)(pu:IsPart vu hi)
  (hw:¬ (sIx items.size 0 lo=0/\sIx items.size items.size hi=items.size))
  (h:Q (.ref s.heap.objs.size) { s with heap:=s.heap.push { cls:=.type "tuple",data:=.seq ((items.toList.drop (sIx items.size 0 lo)).take (sIx items.size items.size hi-sIx items.size 0 lo)).toArray } })
  (hsz:items.size<=sizeLine):wpAny (model prog w) A (getItem (.ref t) (.ref sl)) Q E s:=by
 have htake:sizeOk (.seq ((items.toList.drop (sIx items.size 0 lo)).take (sIx items.size items.size hi-sIx items.size 0 lo)).toArray):=by
  show((items.toList.drop (sIx items.size 0 lo)).take (sIx items.size items.size hi-sIx items.size 0 lo)).toArray.size<=sizeLine
  rw[List.size_toArray,List.length_take,List.length_drop,Array.length_toList]
  omega
 have hj:sIx items.size items.size hi<=items.size:=sIx_le _ _ (Nat.le_refl _) hi
 obtain⟨os,hos,hcs,hds⟩:=id hs
 have hTs:s.TypeIs (.ref sl) "slice":=⟨os,hos,hcs⟩
 unfold getItem
 try with_reducible refine wpAny_holding ?_
 first|refine wpAny_bind (wpAny_pure ?_)|skip
 refine wpAny_bind (wpAny_sequenceKey ht.typeIs (by decide) ?_)
 refine wpAny_bind (wpAny_callSpecial?_slot (name:=Str.ofString "__getitem__") ht.typeIs PyProof.Rows.slot_tuple_getitem
  (wpAny_call_entry PyProof.Rows.slot_tuple_getitem ht.typeIs entry_tuple_getitem ?_ (args_tuple_getitem _ _)))
 show wpAny _ _ (Builtin.Tuple.tupleItemsOf (.ref t) >>= _) _ _ s
 refine wpAny_bind (tupleItemsOf_ ht ?_)
 refine wpAny_bind (wpAny_typeOf hTs ?_)
 rw[if_pos (by decide)]
 refine wpAny_bind (sliceApplied_gen hs pl pu ?_)
 have hno:¬ ((((sIx items.size 0 lo:Nat):Int) == 0 && (1:Int) == 1 && (sIx items.size items.size hi-sIx items.size 0 lo) == items.size)=true):=by
  intro q
  rw[Bool.and_eq_true,Bool.and_eq_true] at q
  have q1:((sIx items.size 0 lo:Nat):Int)=0:=eq_of_beq q.1.1
  have q2:sIx items.size items.size hi-sIx items.size 0 lo=items.size:=eq_of_beq q.2
  exact hw ⟨by omega,by omega⟩
 show wpAny _ _ (if (((sIx items.size 0 lo:Nat):Int) == 0 && (1:Int) == 1 && (sIx items.size items.size hi-sIx items.size 0 lo) == items.size)=true then _ else _) _ _ s
 rw[if_neg hno,W8]
 first
  |exact wpAny_bind (m:=Builtin.Tuple.tupleExact _) (wpAny_newObj_type (wpAny_pure ⟨_,rfl,wpAny_pure h⟩) htake)
  |exact wpAny_bind (m:=Builtin.Tuple.tupleExact _) (wpAny_newObj_type (wpAny_bind (wpAny_pure (wpAny_pure ⟨_,rfl,wpAny_pure h⟩))) htake)
  |exact wpAny_bind (wpAny_bind (m:=Builtin.Tuple.tupleExact _) (wpAny_newObj_type (wpAny_pure (wpAny_pure ⟨_,rfl,wpAny_pure h⟩)) htake))
  |exact wpAny_bind (wpAny_bind (m:=Builtin.Tuple.tupleExact _) (wpAny_newObj_type (wpAny_pure ⟨_,rfl,wpAny_pure h⟩) htake))
end
end HT
namespace L2
open PySem PySem.Spec PyProof.Rows
variable {xs:List (List Key×Addr×Value)}{us its:List Value}{α:Type}{n t':Nat}{pins:List (Addr×Obj)}{σ:St}{H H':Hp}{s:Shared}{y x:V}{u:Value}{o:Option V}{P:Program}{w:World}{kvs:List (List Key×V)}{b a:Addr}{Q:Value->Shared->Prop}{pos:Pos}{X:Cx}
abbrev TO:=St->Hp->(Option Int->Hp->Prop)->Prop
def PO (X:Cx)(e:Option Expr)(t:TO):Prop:=
 ∀ (pins:List (Addr×Obj)) (s:Shared) (σ:St) (H:Hp) (Q:Option Int->Hp->Prop),Inv X pins σ H s->t σ H Q ->
  wpAny (model X.prog X.w) X.A (evalPart e X.env) (λu s'=>∃ o H',Inv X pins σ H' s'/\IsPart u o/\Q o H') X.xe s
def yq:TO:=λ_ H Q=>Q none H
def Vp (t:TE):TO:=λσ H Q=>t σ H λx H1=>asI x λi=>Q (some i) H1
section
variable {X:Cx}{e:Expr}{te:TE}{lo hi:Option Expr}{tl th:TO}{pos p2:Pos}
theorem zv:PO X none yq:=by
 intro pins s σ H Q I h
 rw[evalPart_none]
 exact wpAny_pure ⟨none,H,I,.none,h⟩
theorem zk (h:PE X e te):PO X (some e) (Vp te):=by
 intro pins s σ H Q I hw
 rw[evalPart_some]
 refine thn (h pins s σ H _ I hw) λu s1 ⟨x,H1,I1,r1,q1⟩=>?_
 obtain⟨i,rfl,q⟩:=kQ q1
 obtain⟨t,rfl⟩:=r1
 exact⟨some i,H1,I1,.int i t,q⟩
def SlR (X:Cx)(r:V->Option Int->Option Int->Hp->VK->Prop):Prop:=
 ∀ (pins:List (Addr×Obj)) (s:Shared) (σ:St) (H:Hp) (x:V) (v vl vu:Value) (lo hi:Option Int) (sl:Addr) (Q:VK),Inv X pins σ H s->zV x v->s.heap.IsSliceOf sl vl vu .none->IsPart vl lo->IsPart vu hi->r x lo hi H Q ->
  ∃ T id,typeLookup (.type T) "__getitem__"=pure (some (.builtin id))/\s.TypeIs v T/\wpAny (model X.prog X.w) X.A (getItem v (.ref sl)) (EP X pins σ Q) X.xe s
def tSl (r:V->Option Int->Option Int->Hp->VK->Prop)(te:TE)(tl th:TO):TE:=λσ H Q=>te σ H λx H1=>tl σ H1 λl H2=>th σ H2 λu H3=>r x l u H3 Q
theorem qY {r:V->Option Int->Option Int->Hp->VK->Prop}(hr:SlR X r)(he:PE X e te)(hl:PO X lo tl)(hu:PO X hi th):PE X (.Subscript e (.Slice lo hi none p2) pos) (tSl r te tl th):=by
 intro pins s σ H Q I h
 refine Subscript_ (thn (he pins s σ H _ I h) λv s1 ⟨x,H1,I1,r1,q1⟩=>?_)
 refine wpAny_Slice (thn (hl pins s1 σ H1 _ I1 q1) λvl s2 ⟨l,H2,I2,pl,q2⟩=>thn (hu pins s2 σ H2 _ I2 q2) λvu s3 ⟨u,H3,I3,pu,q3⟩=>?_)
 rw[evalPart_none]
 refine wpAny_pure ?_
 have I4:Inv X pins σ H3 { s3 with heap:=s3.heap.push { cls:=.type "slice",data:=.fields #[vl,vu,.none] } }:=I3.kept (t':=s3.toks) λb ob q=>Heap.get?_push_of_some _ q
 obtain⟨T,id,hT,ht,hg⟩:=hr pins { s3 with heap:=s3.heap.push { cls:=.type "slice",data:=.fields #[vl,vu,.none] } } σ H3 x v vl vu l u s3.heap.objs.size Q I4 r1 (Heap.IsSliceOf.new ..) pl pu q3
 show wpAny (model X.prog X.w) X.A (subscriptTail e (.Slice lo hi none p2) v (.ref s3.heap.objs.size)) (EP X pins σ Q) X.xe { s3 with heap:=s3.heap.push { cls:=.type "slice",data:=.fields #[vl,vu,.none] } }
 exact tail_any (ops:=[.ref s3.heap.objs.size,v]) ht hT hg (by with_unfolding_all rfl)
def QU (xs:List V)(lo hi:Option Int):List V:=(xs.drop (HT.sIx xs.length 0 lo)).take (HT.sIx xs.length xs.length hi-HT.sIx xs.length 0 lo)
theorem wZ (xs:List V)(lo hi:Option Int):(QU xs lo hi).length<=xs.length:=by
 unfold QU
 rw[List.length_take,List.length_drop]
 omega
def rSlT (K:PySem.W.Frag):V->Option Int->Option Int->Hp->VK->Prop:=λx lo hi H Q=>∃ a xs,x=.ref a/\SqT K H a xs /\
 ¬ (HT.sIx xs.length 0 lo=0/\HT.sIx xs.length xs.length hi=xs.length)/\∀ p,H p=none->Q (.ref p) (upd H p (.tup (QU xs lo hi)))
theorem Wy:SlR X (rSlT X.K):=by
 intro pins s σ H x v vl vu lo hi sl Q I rx hs pl pu h
 obtain⟨a,xs,rfl,hx,hw,q⟩:=h
 cases rx
 obtain⟨its,r,ht,hz⟩:=I.tuple hx
 have hlen:its.toArray.size=xs.length:=by rw[List.size_toArray];exact r.length.symm
 refine⟨"tuple",_,PyProof.Rows.slot_tuple_getitem.lookup,ht.typeIs,?_⟩
 refine HT.getItem_tuple_cut ht hs pl pu (by rw[hlen];exact hw) ?_ (by rw[hlen];exact hz)
 rw[hlen]
 refine⟨.ref s.heap.objs.size,_,I.laid (t':=s.toks) (o:=.tup (QU xs lo hi)) (λb ob q=>Heap.get?_push_of_some _ q) (Nat.le_refl _) ?_,rfl,q _ (I.hok.fresh (Nat.le_refl _))⟩
 exact⟨Nat.le_trans (wZ xs lo hi) hz,_,(r.drop (HT.sIx xs.length 0 lo)).take (HT.sIx xs.length xs.length hi-HT.sIx xs.length 0 lo),IsTup.new _ _⟩
def rCatT (K:PySem.W.Frag):R2:=λx y H Q=>∃ a b xs ys,x=.ref a/\y=.ref b/\SqT K H a xs/\SqT K H b ys/\xs≠[]/\xs.length+ys.length<=sizeLine /\
 (ys=[]->Q (.ref a) H)/\(ys≠[]->∀ p,H p=none->Q (.ref p) (upd H p (.tup (xs++ys))))
theorem zA.nil_iff {xs:List V}(r:zA xs us):us=[] ↔ xs=[]:=by
 cases r with
 |nil=>simp
 |cons _ _=>simp
theorem Yy:OpR X (binaryOp .Add) (rCatT X.K):=by
 intro pins s σ H x y v u Q I rx ry h
 obtain⟨a,b,xs,ys,rfl,rfl,ha,hb,hx,hz,q1,q2⟩:=h
 cases rx
 cases ry
 obtain⟨its,r1,p1,_⟩:=I.tuple ha
 obtain⟨its2,r2,p2,_⟩:=I.tuple hb
 refine HT.cat_tup p1 p2 (λz=>hx (r1.nil_iff.mp z)) (λz=>⟨.ref a,H,I,rfl,q1 (r2.nil_iff.mp z)⟩) (λz=>?_) (by rw[<-r1.length,<- r2.length];exact hz)
 refine⟨.ref s.heap.objs.size,_,I.laid (t':=s.toks) (o:=.tup (xs++ys)) (λb ob q=>Heap.get?_push_of_some _ q) (Nat.le_refl _) ?_,rfl,q2 (λw=>z (r2.nil_iff.mpr w)) _ (I.hok.fresh (Nat.le_refl _))⟩
 exact⟨by rw[List.length_append];exact hz,_,r1.append r2,IsTup.new _ _⟩
end
def ixN (n:Nat)(i:Int):Option Nat:=if 0<=i then(if i<n then some i.toNat else none) else if -(n:Int)<=i then some (i+n).toNat else none
def atI (xs:List α)(i:Int):Option α:=(ixN xs.length i).bind λj=>xs[j]?
theorem Kc {i:Int}{j:Nat}(h:ixN n i=some j):seqIndex? i n=some j/\j<n/\-(n:Int)<=i/\i<n:=by
 unfold ixN at h
 by_cases h0:0<=i
 ·rw[if_pos h0] at h
  by_cases h1:i<n
  ·rw[if_pos h1] at h
   have e:i.toNat=j:=Option.some.inj h
   exact⟨by rw[seqIndex_of h0 h1,e],by omega,by omega,h1⟩
  ·rw[if_neg h1] at h;cases h
 ·rw[if_neg h0] at h
  by_cases h1:-(n:Int)<=i
  ·rw[if_pos h1] at h
   have e:(i+n).toNat=j:=Option.some.inj h
   exact⟨by rw[seqIndex_neg (by omega) h1,e],by omega,h1,by omega⟩
  ·rw[if_neg h1] at h;cases h
theorem Vj {xs:List α}{i:Int}{v:α}(h:atI xs i=some v):∃ j,seqIndex? i xs.length=some j/\xs[j]?=some v/\j<xs.length/\-(xs.length:Int)<=i/\i<xs.length:=by
 unfold atI at h
 cases e:ixN xs.length i with
 |none=>rw[e] at h;cases h
 |some j=>
  rw[e] at h
  obtain⟨h1,h2,h3,h4⟩:=Kc e
  exact⟨j,h1,h,h2,h3,h4⟩
theorem xE {xs:List α}{j:Nat}{v:α}(h:xs[j]?=some v):atI xs (j:Int)=some v:=by
 have hj:j<xs.length:=(List.getElem?_eq_some_iff.mp h).1
 have e:ixN xs.length (j:Int)=some j:=by
  unfold ixN
  rw[if_pos (by omega),if_pos (by omega)];simp
 unfold atI;rw[e];exact h
theorem JD (xs:List α)(v:α):atI (xs++[v]) (-1)=some v:=by
 have hl:(xs++[v]).length=xs.length+1:=by simp
 have e:ixN (xs++[v]).length (-1)=some xs.length:=by
  unfold ixN
  rw[hl,if_neg (by decide),if_pos (by omega)]
  congr 1
  omega
 unfold atI
 rw[e]
 show(xs++[v])[xs.length]?=some v
 simp
def K4 (b:Expr):Prop:=∀ o i,subscripted b false o i=operate [o,i] (getItem o i)
def IxR (X:Cx)(r:R2):Prop:=
 ∀ (value slice:Expr) (pins:List (Addr×Obj)) (s:Shared) (σ:St) (H:Hp) (x y:V) (v u:Value) (Q:VK),Inv X pins σ H s->zV x v->zV y u->r x y H Q ->
  subscripted slice false v u=operate [v,u] (getItem v u)->wpAny (model X.prog X.w) X.A (subscriptTail value slice v u) (EP X pins σ Q) X.xe s
def MtR (X:Cx)(id:String)(r:V->List V->Hp->VK->Prop):Prop:=
 ∀ (pins:List (Addr×Obj)) (s:Shared) (σ:St) (H:Hp) (x:V) (xs:List V) (v:Value) (us:List Value) (Q:VK),Inv X pins σ H s->zV x v->zA xs us->r x xs H Q ->
  wpAny (model X.prog X.w) X.A (call (.builtin id) (v::us)) (EP X pins σ Q) X.xe s
section
variable {X:Cx}{a b:Expr}{ta tb:TE}{pos:Pos}
theorem qz {r:R2}(hr:IxR X r)(ha:PE X a ta)(hb:PE X b tb)(hs:K4 b):PE X (.Subscript a b pos) (tOp r ta tb):=by
 intro pins s σ H Q I h
 exact Subscript_ (binT ha hb I h λv u s2 x y H2 I2 rx ry q=>hr a b pins s2 σ H2 x y v u Q I2 rx ry q (hs _ _))
def q0c (K:PySem.W.Frag):R2:=λx y H Q=>∃ p xs i v,x=.ref p/\y=.int i/\SqL K H p xs/\atI xs i=some v/\Q v H
def yK (K:PySem.W.Frag):R2:=λx y H Q=>∃ p xs i v,x=.ref p/\y=.int i/\SqT K H p xs/\atI xs i=some v/\Q v H
theorem qZ:IxR X (q0c X.K):=by
 intro value slice pins s σ H x y v u Q I rx ry h hs
 obtain⟨p,xs,i,z,rfl,rfl,hq,he,q⟩:=h
 cases rx
 obtain⟨t,rfl⟩:=ry
 obtain⟨its,r,pl,hz⟩:=I.list hq
 obtain⟨j,h1,h2,h3,h4,h5⟩:=Vj he
 obtain⟨w,ew,rw'⟩:=r.get h2
 have hl:=r.length
 have hn:=Z5
 have fin:EP X pins σ Q w s:=⟨z,H,I,rw',q⟩
 by_cases h0:0<=i
 ·have hj:i.toNat=j:=by
   rw[seqIndex_of h0 h5] at h1
   exact Option.some.inj h1
  exact item_listR pl.isList h0 (by omega) (by rw[hj];simpa using ew) fin hs
 ·have hj:(i+(its.toArray.size:Int)).toNat=j:=by
   rw[seqIndex_neg (by omega) h4] at h1
   rw[List.size_toArray,<- hl]
   exact Option.some.inj h1
  exact subscriptTail_builtinR (x:=w) pl.isList.typeIs slot_list_getitem.lookup
   (wpAny_getItem_list_neg (Q:=λr s'=>r=w/\EP X pins σ Q r s') pl.isList (by omega) (by rw[List.size_toArray] <;> omega) (by omega) (by rw[hj];simpa using ew) ⟨rfl,fin⟩) hs
theorem qu:IxR X (yK X.K):=by
 intro value slice pins s σ H x y v u Q I rx ry h hs
 obtain⟨p,xs,i,z,rfl,rfl,hq,he,q⟩:=h
 cases rx
 obtain⟨t,rfl⟩:=ry
 obtain⟨its,r,pl,hz⟩:=I.tuple hq
 obtain⟨j,h1,h2,h3,h4,h5⟩:=Vj he
 obtain⟨w,ew,rw'⟩:=r.get h2
 have hl:=r.length
 have hn:=Z5
 have fin:EP X pins σ Q w s:=⟨z,H,I,rw',q⟩
 exact subscriptTail_builtinR (x:=w) pl.typeIs slot_tuple_getitem.lookup
  (getItem_tuple (j:=j) (Q:=λr s'=>r=w/\EP X pins σ Q r s') pl (by omega) (by omega) (by rw[List.size_toArray,<- hl];exact h1) (by simpa using ew) ⟨rfl,fin⟩) hs
theorem XF (its:List Value)(n j:Nat)(u:Value):Obj.mapSeq (·.setIfInBounds j u) { cls:=.type "list",data:=.seq its.toArray n }={ cls:=.type "list",data:=.seq (its.set j u).toArray n }:=by
 simp[Obj.mapSeq]
theorem Inv.lst {pins:List (Addr×Obj)}{σ:St}{H:Hp}{s:Shared}{p:Addr}{xs:List V}(I:Inv X pins σ H s)(h:H p=some (.lst xs)):
  ∃ (its:List Value) (n:Nat),zA xs its/\s.heap.get? p=some { cls:=.type "list",data:=.seq its.toArray n }/\xs.length<=sizeLine:=by
 obtain⟨z,its,n,r,e⟩:=I.hok p _ h
 exact⟨its,n,r,e,z⟩
theorem Inv.lstUpd {p:Addr}{xs ys:List V}{its':List Value}{n':Nat}{f:Obj->Obj}(I:Inv X pins σ H s)(h:H p=some (.lst xs))
  (ho:s.heap.get? p=some { cls:=.type "list",data:=.seq its.toArray n }) (hf:f { cls:=.type "list",data:=.seq its.toArray n }={ cls:=.type "list",data:=.seq its'.toArray n' }) (r:zA ys its') (hz:ys.length<=sizeLine) (t:Nat):
  Inv X pins σ (upd H p (.lst ys)) { s with heap:=s.heap.update p f,toks:=t }:=by
 have e:(s.heap.update p f).get? p=some { cls:=.type "list",data:=.seq its'.toArray n' }:=by
  rw[Heap.get?_update_self f ho (by rw[hf] <;> rfl),hf]
 refine I.write (x:=p) (e:=p) (by rw[h];trivial) (.inl rfl) (λb u hb q=>(Heap.get?_update_other _ _ (Ne.symm hb)).trans q) ⟨_,e⟩ ?_
 exact⟨hz,its',n',r,e⟩
def rSetL:V->V->V->Hp->(Hp->Prop)->Prop:=λo i v H Q=>∃ p xs k j,o=.ref p/\i=.int k/\H p=some (.lst xs)/\ixN xs.length k=some j/\Q (upd H p (.lst (xs.set j v)))
theorem wJ:PSet X rSetL:=by
 intro pins s σ H o i v ov iv u Q I ro ri rv h
 obtain⟨p,xs,k,j,rfl,rfl,hp,hj,q⟩:=h
 cases ro
 obtain⟨t,rfl⟩:=ri
 obtain⟨its,n,r,ho,hz⟩:=I.lst hp
 obtain⟨h1,h2,h3,h4⟩:=Kc hj
 have hl:=r.length
 have hn:=Z5
 have I':Inv X pins σ (upd H p (.lst (xs.set j v))) { s with heap:=s.heap.update p (Obj.mapSeq (·.setIfInBounds j u)) }:=
  I.lstUpd hp ho (XF its n j u) (r.set rv j) (by rw[List.length_set];exact hz) s.toks
 by_cases h0:0<=k
 ·have hk:k.toNat=j:=by
   rw[seqIndex_of h0 h4] at h1
   exact Option.some.inj h1
  exact PySem.W.ki_setAt ho h0 (by omega) (by rw[List.size_toArray,<- hl];exact h4) (by rw[hk];exact⟨_,I',q⟩)
 ·have hk:(k+(its.toArray.size:Int)).toNat=j:=by
   rw[seqIndex_neg (by omega) h3] at h1
   rw[List.size_toArray,<- hl]
   exact Option.some.inj h1
  exact PySem.W.ki_setBack ho (by omega) (by rw[List.size_toArray,<- hl];exact h3) (by omega) (by rw[hk];exact⟨_,I',q⟩)
theorem Zn (lo hi:Option Int)(n:Nat):(sliceBounds lo hi none n).1=((HT.sIx n 0 lo:Nat):Int)/\(sliceBounds lo hi none n).2.1=((HT.sIx n n hi:Nat):Int)/\(sliceBounds lo hi none n).2.2=1:=by
 refine⟨?_,?_,rfl⟩
 ·cases lo with
  |none=>simp[sliceBounds,HT.sIx]
  |some i=>
   simp only[sliceBounds,HT.sIx,Option.getD_none,show(1:Int)>0 by decide,if_true]
   by_cases h:i<0
   ·simp only[h,if_true] <;> omega
   ·simp only[h,if_false] <;> omega
 ·cases hi with
  |none=>simp[sliceBounds,HT.sIx]
  |some i=>
   simp only[sliceBounds,HT.sIx,Option.getD_none,show(1:Int)>0 by decide,if_true]
   by_cases h:i<0
   ·simp only[h,if_true] <;> omega
   ·simp only[h,if_false] <;> omega
theorem Qz (its:List Value)(lo hi:Option Int):slicePick its.toArray lo hi none=((its.drop (HT.sIx its.length 0 lo)).take (HT.sIx its.length its.length hi-HT.sIx its.length 0 lo)).toArray:=by
 obtain⟨h1,h2,h3⟩:=Zn lo hi its.toArray.size
 unfold slicePick
 rw[h1,h2,h3]
 simp only[sliceRange_one,pick_run,List.size_toArray] <;> rfl
def rSlL (K:PySem.W.Frag):V->Option Int->Option Int->Hp->VK->Prop:=λx lo hi H Q=>∃ a xs,x=.ref a/\SqL K H a xs/\∀ p,H p=none->Q (.ref p) (upd H p (.lst (QU xs lo hi)))
theorem Yh:SlR X (rSlL X.K):=by
 intro pins s σ H x v vl vu lo hi sl Q I rx hs pl pu h
 obtain⟨a,xs,rfl,hx,q⟩:=h
 cases rx
 obtain⟨its,r,ht,hz⟩:=I.list hx
 have hlen:=r.length
 refine⟨"list",_,slot_list_getitem.lookup,ht.isList.typeIs,?_⟩
 refine wpAny_getItem_list_slice ht.isList hs pl pu .none (by simp) ?_ (by rw[List.size_toArray] <;> omega)
 rw[Qz,<- hlen]
 refine⟨.ref s.heap.objs.size,_,I.laid (t':=s.toks) (o:=.lst (QU xs lo hi)) (λb ob q=>Heap.get?_push_of_some _ q) (Nat.le_refl _) ?_,rfl,q _ (I.hok.fresh (Nat.le_refl _))⟩
 exact⟨Nat.le_trans (wZ xs lo hi) hz,_,0,(r.drop (HT.sIx xs.length 0 lo)).take (HT.sIx xs.length xs.length hi-HT.sIx xs.length 0 lo),Heap.get?_push_size _ rfl⟩
def xA:V->Bool
 |.non=>true
 |.bl _=>true
 |.int _=>true
 |.str _=>true
 |_=>false
def eqV:V->V->Bool
 |.non,.non=>true
 |.bl a,.bl b=>a == b
 |.bl a,.int b=>(if a then 1 else 0) == b
 |.int a,.bl b=>a == (if b then 1 else 0)
 |.int a,.int b=>a == b
 |.str a,.str b=>a == b
 |_,_=>false
theorem WN {A:Around}{v:Value}(ry:zV y u)(rx:zV x v)(fy:xA y=true)(fx:xA x=true):SeqAt.EqAt A s u v (eqV y x):=by
 cases y with
 |non=>
  cases ry
  cases x with
  |non=>cases rx;exact SeqAt.EqAt.same _
  |bl b=>cases rx;exact SeqAt.EqAt.none_bool b
  |int b=>obtain⟨t,rfl⟩:=rx;exact SeqAt.EqAt.none_int b t
  |str b=>obtain⟨t,rfl⟩:=rx;exact SeqAt.EqAt.none_str b t
  |_=>exact absurd (show false=true from fx) Bool.false_ne_true
 |bl a=>
  cases ry
  cases x with
  |non=>cases rx;exact SeqAt.EqAt.bool_none a
  |bl b=>cases rx;exact SeqAt.EqAt.bool_bool a b
  |int b=>obtain⟨t,rfl⟩:=rx;exact SeqAt.EqAt.bool_int a b t
  |str b=>obtain⟨t,rfl⟩:=rx;exact SeqAt.EqAt.bool_str a b t
  |_=>exact absurd (show false=true from fx) Bool.false_ne_true
 |int a=>
  obtain⟨t',rfl⟩:=ry
  cases x with
  |non=>cases rx;exact SeqAt.EqAt.int_none a t'
  |bl b=>cases rx;exact SeqAt.EqAt.int_bool a t' b
  |int b=>obtain⟨t,rfl⟩:=rx;exact SeqAt.EqAt.int_int a t' b t
  |str b=>obtain⟨t,rfl⟩:=rx;exact SeqAt.EqAt.int_str a t' b t
  |_=>exact absurd (show false=true from fx) Bool.false_ne_true
 |str a=>
  obtain⟨t',rfl⟩:=ry
  cases x with
  |non=>cases rx;exact SeqAt.EqAt.str_none a t'
  |bl b=>cases rx;exact SeqAt.EqAt.str_bool a t' b
  |int b=>obtain⟨t,rfl⟩:=rx;exact SeqAt.EqAt.str_int a t' b t
  |str b=>obtain⟨t,rfl⟩:=rx;exact SeqAt.EqAt.str_str a t' b t
  |_=>exact absurd (show false=true from fx) Bool.false_ne_true
 |_=>exact absurd (show false=true from fy) Bool.false_ne_true
def eqU (x:V)(u:Value):Bool:=match u with
 |.none=>eqV .non x
 |.bool b=>eqV (.bl b) x
 |.int i _=>eqV (.int i) x
 |.str z _=>eqV (.str z) x
 |_=>false
theorem Zx (r:zV y u)(f:xA y=true):eqU x u=eqV y x:=by
 cases y with
 |non=>cases r;rfl
 |bl b=>cases r;rfl
 |int i=>obtain⟨t,rfl⟩:=r;rfl
 |str z=>obtain⟨t,rfl⟩:=r;rfl
 |_=>exact absurd (show false=true from f) Bool.false_ne_true
theorem yd {x:V}:∀ {xs:List V} {us:List Value},zA xs us->xs.all xA=true->us.any (eqU x)=xs.any λy=>eqV y x
 |_,_,.nil,_=>rfl
 |y::xs,u::us,.cons r t,f=>by
  rw[List.all_cons,Bool.and_eq_true] at f
  rw[List.any_cons,List.any_cons,Zx r f.1,yd t f.2]
theorem xK {A:Around}{s:Shared}{x:V}{v:Value}(rx:zV x v)(fx:xA x=true):∀ {xs:List V} {us:List Value},zA xs us->xs.all xA=true->∀ u∈us,SeqAt.EqAt A s u v (eqU x u)
 |_,_,.nil,_=>λu hu=>by cases hu
 |y::xs,u::us,.cons r t,f=>λu' hu=>by
  rw[List.all_cons,Bool.and_eq_true] at f
  rcases List.mem_cons.mp hu with rfl|hu
  ·rw[Zx r f.1];exact WN r rx f.1 fx
  ·exact xK rx fx t f.2 u' hu
def inV (x:V)(xs:List V):Bool:=xs.any λy=>eqV y x
def rIn (K:PySem.W.Frag)(neg:Bool):R2:=λx y H Q=>∃ p xs,y=.ref p/\(SqL K H p xs\/SqT K H p xs)/\xA x=true/\xs.all xA=true/\Q (.bl (if neg then !inV x xs else inV x xs)) H
theorem y3:OpR X (compareOp .In) (rIn X.K false):=by
 intro pins s σ H x y v u Q I rx ry h
 obtain⟨p,xs,rfl,hq,fx,fs,q⟩:=h
 cases ry
 rcases hq with hq|hq
 ·obtain⟨its,r,pl,hz⟩:=I.list hq
  refine SeqAt.in_listAt (eqU x) pl.isList (λw hw=>xK rx fx r fs w (by simpa using hw)) ⟨.bl _,H,I,rfl,?_⟩
  rw[show its.toArray.any (eqU x)=its.any (eqU x) by simp,yd r fs]
  exact q
 ·obtain⟨its,r,pl,hz⟩:=I.tuple hq
  refine SeqAt.in_tupleAt (eqU x) pl (λw hw=>xK rx fx r fs w (by simpa using hw)) ⟨.bl _,H,I,rfl,?_⟩
  rw[show its.toArray.any (eqU x)=its.any (eqU x) by simp,yd r fs]
  exact q
theorem wu:OpR X (compareOp .NotIn) (rIn X.K true):=by
 intro pins s σ H x y v u Q I rx ry h
 obtain⟨p,xs,rfl,hq,fx,fs,q⟩:=h
 cases ry
 rcases hq with hq|hq
 ·obtain⟨its,r,pl,hz⟩:=I.list hq
  refine SeqAt.notIn_listAt (eqU x) pl.isList (λw hw=>xK rx fx r fs w (by simpa using hw)) ⟨.bl _,H,I,rfl,?_⟩
  rw[show its.toArray.any (eqU x)=its.any (eqU x) by simp,yd r fs]
  exact q
 ·obtain⟨its,r,pl,hz⟩:=I.tuple hq
  refine SeqAt.notIn_tupleAt (eqU x) pl (λw hw=>xK rx fx r fs w (by simpa using hw)) ⟨.bl _,H,I,rfl,?_⟩
  rw[show its.toArray.any (eqU x)=its.any (eqU x) by simp,yd r fs]
  exact q
theorem Zo:we X (.type "list") (λxs H Q=>∃ p ys,xs=[.ref p]/\(SqL X.K H p ys\/SqT X.K H p ys)/\∀ l,H l=none->Q (.ref l) (upd H l (.lst ys))):=by
 intro pins s σ H xs us Q I r h
 obtain⟨p,ys,rfl,hq,q⟩:=h
 obtain⟨u,rfl,rx⟩:=X8 r
 cases rx
 have fin:∀ (its:List Value),zA ys its->ys.length<=sizeLine->∀ (h':Heap) (c':Nat),(∀ b o',s.heap.get? b=some o'->h'.get? b=some o') ->
   h'.get? s.heap.objs.size=some { cls:=.type "list",dict:=none,data:=.seq its.toArray c',slots:=#[] }->EP X pins σ Q (.ref s.heap.objs.size) { s with heap:=h' }:=λits r' hz h' c' kp e=>
  ⟨.ref s.heap.objs.size,_,I.laid (t':=s.toks) kp (Nat.le_refl _) (show ji X.prog X.w _ h' _ (.lst ys) from⟨hz,its,c',r',e⟩),rfl,q _ (I.hok.fresh (Nat.le_refl _))⟩
 rcases hq with hq|hq
 ·obtain⟨its,r',pl,hz⟩:=I.list hq
  have hlen:=r'.length
  obtain⟨o,ho,hc,n,hd⟩:=pl.isList
  exact call_list_seq p (.inl rfl) ho hc hd (λh' c' kp e=>fin its r' hz h' c' kp e) (by simp only[List.size_toArray] <;> omega)
 ·obtain⟨its,r',pl,hz⟩:=I.tuple hq
  have hlen:=r'.length
  obtain⟨o,ho,hc,n,hd⟩:=pl
  exact call_list_seq p (.inr rfl) ho hc hd (λh' c' kp e=>fin its r' hz h' c' kp e) (by simp only[List.size_toArray] <;> omega)
theorem Qk:we X (.type "tuple") (λxs H Q=>∃ p ys,xs=[.ref p]/\((SqL X.K H p ys/\∀ l,H l=none->Q (.ref l) (upd H l (.tup ys)))\/(SqT X.K H p ys/\Q (.ref p) H))):=by
 intro pins s σ H xs us Q I r h
 obtain⟨p,ys,rfl,h⟩:=h
 obtain⟨u,rfl,rx⟩:=X8 r
 cases rx
 rcases h with⟨hq,q⟩|⟨hq,q⟩
 ·obtain⟨its,r',pl,hz⟩:=I.list hq
  have hlen:=r'.length
  refine call_tuple_list pl.isList (λh' kp=>?_) (by simp only[List.size_toArray] <;> omega)
  have I1:Inv X pins σ H { s with heap:=h' }:=I.kept (t':=s.toks) kp
  have I2:Inv X pins σ (upd H h'.objs.size (.tup ys)) { s with heap:=h'.push { cls:=.type "tuple",data:=.seq its.toArray } }:=
   I1.laid (t':=s.toks) (λb o e=>Heap.get?_push_of_some _ e) (Nat.le_refl _) (show ji X.prog X.w _ _ _ (.tup ys) from⟨hz,its,r',IsTup.new _ _⟩)
  exact⟨.ref h'.objs.size,_,I2,rfl,q _ (I1.hok.fresh (Nat.le_refl _))⟩
 ·obtain⟨its,r',pl,hz⟩:=I.tuple hq
  exact call_tuple_same pl ⟨.ref p,H,I,rfl,q⟩
def tyV (K:PySem.W.Frag)(T:String)(x:V)(H:Hp):Prop:=match x with
 |.str _=>T="str"
 |.int _=>T="int"
 |.ref p=>(T="list"/\∃ xs,SqL K H p xs)\/(T="tuple"/\∃ o,K.lookup p=some o/\o.cls=.type "tuple"/\o.dict=none) \/
   (T="dict"/\((∃ kvs,H p=some (.dK kvs))\/∃ kvs,H p=some (.dT kvs)))\/(T="set"/\∃ S n,H p=some (.set S n))
 |_=>False
theorem WH {T:String}{v:Value}(I:Inv X pins σ H s)(r:zV x v)(ty:tyV X.K T x H):
  s.TypeIs v T/\∀ a,v=.ref a->∃ ob,s.heap.get? a=some ob/\ob.dict=none:=by
 cases x with
 |str z=>
  obtain⟨t,rfl⟩:=r
  cases(show T="str" from ty)
  exact⟨typeIs_str s z t,λ_ e=>nomatch e⟩
 |int i=>
  obtain⟨t,rfl⟩:=r
  cases(show T="int" from ty)
  exact⟨typeIs_int s i t,λ_ e=>nomatch e⟩
 |ref p=>
  cases r
  rcases ty with⟨rfl,xs,hq⟩|⟨rfl,o,hk,hc,hd⟩|⟨rfl,hk⟩|⟨rfl,S,n,hk⟩
  ·obtain⟨its,_,pl,_⟩:=I.list hq
   refine⟨pl.isList.typeIs,λa e=>?_⟩
   cases e
   obtain⟨o,n,e,c,hd,_⟩:=pl
   exact⟨o,e,hd⟩
  ·refine⟨⟨o,I.kIn p o hk,hc⟩,λa e=>?_⟩
   cases e
   exact⟨o,I.kIn _ o hk,hd⟩
  ·have z:∃ o,s.heap.get? p=some o/\o.ExactDict:=by
    rcases hk with⟨kvs,hk⟩|⟨kvs,hk⟩
    ·obtain⟨_,_,_,_,o,_,_,e,ex,_⟩:=I.hok p _ hk
     exact⟨o,e,ex⟩
    ·obtain⟨_,_,_,_,o,_,_,e,ex,_⟩:=I.hok p _ hk
     exact⟨o,e,ex⟩
   obtain⟨o,e,ex⟩:=z
   refine⟨⟨o,e,ex.1⟩,λa e2=>?_⟩
   cases e2
   exact⟨o,e,ex.2.1⟩
  ·obtain⟨o,_,_,_,e,ex,_⟩:=I.hok p _ hk
   refine⟨⟨o,e,ex.1⟩,λa e2=>?_⟩
   cases e2
   exact⟨o,e,ex.2.1⟩
 |_=>exact False.elim ty
def tBM0 (K:PySem.W.Frag)(T:String)(r:V->List V->Hp->VK->Prop)(to:TE):TE:=λσ H Q=>to σ H λx H1=>tyV K T x H1/\r x [] H1 Q
def tBM (K:PySem.W.Frag)(T:String)(r:V->List V->Hp->VK->Prop)(to:TE)(t:TA):TE:=λσ H Q=>to σ H λx H1=>tyV K T x H1/\t σ H1 λxs H2=>r x xs H2 Q
variable {o e:Expr}{es:List Expr}{to:TE}{t:TA}{name:Str}{apos cpos:Pos}{T id:String}{r:V->List V->Hp->VK->Prop}
theorem X4 (pa:PlainAttrs T)(slot:Slot T name id)(hty:typeOf (.builtin id)=pure (.type "method_descriptor"))(hm:MtR X id r)(ho:PE X o to)
  (hbase:attributeBase o name X.env (eval o X.env)=eval o X.env:=by rfl) (hline:(apos.endLine == cpos.line)=true:=by rfl):PE X (.Call (.Attribute o name apos) [] [] cpos) (tBM0 X.K T r to):=by
 intro pins s σ H Q I h
 refine wpAny_Call_method0_late hbase hline (thn (ho pins s σ H _ I h) λv s1 ⟨x,H1,I1,r1,ty,q1⟩=>?_)
 obtain⟨h1,h2⟩:=WH I1 r1 ty
 exact⟨T,id,pa,slot,hty,h1,h2,Calls.callWith_builtin rfl (PySem.evalArgs_none (hm pins s1 σ H1 x [] v [] Q I1 r1 .nil q1))⟩
theorem xr (pa:PlainAttrs T)(slot:Slot T name id)(hty:typeOf (.builtin id)=pure (.type "method_descriptor"))(hm:MtR X id r)(ho:PE X o to)(ha:PA X (e::es) t)
  (hbase:attributeBase o name X.env (eval o X.env)=eval o X.env:=by rfl)
  (hfew:((backTo cpos (starEach (e::es) X.env)).all (λx=>!x.1) && (backToKw cpos (keywordEach [] X.env)).all (λx=>x.1.isSome)
   && decide ((e::es).length+([]:List Keyword).length+(if ([]:List Keyword).isEmpty then 0 else 1)<30))=true:=by rfl)
  (hline:(apos.endLine == cpos.line)=true:=by rfl) (hs:starEach (e::es) X.env=(false,eval e X.env)::starEach es X.env:=by rfl) (hplain:(backTo cpos (starEach es X.env)).any (·.1)=false:=by rfl):
  PE X (.Call (.Attribute o name apos) (e::es) [] cpos) (tBM X.K T r to t):=by
 intro pins s σ H Q I h
 refine wpAny_Call_method_late hbase hfew hline rfl (thn (ho pins s σ H _ I h) λv s1 ⟨x,H1,I1,r1,ty,q1⟩=>?_)
 obtain⟨h1,h2⟩:=WH I1 r1 ty
 refine⟨T,id,pa,slot,hty,h1,h2,?_⟩
 have hA:=ha cpos pins s1 σ H1 _ I1 q1
 rw[hs] at hA ⊢
 refine Calls.callWith_builtin (by show(false || (backTo cpos (starEach es X.env)).any (·.1))=false;rw[hplain] <;> rfl) (Calls.evalArgs_plain ?_)
 exact thn hA λus s2 ⟨vs,H2,I2,r2,q2⟩=>hm pins s2 σ H2 x vs v us Q I2 r1 r2 q2
end
def MtM (X:Cx)(id:String)(r:V->List V->Hp->VK->Prop):Prop:=
 ∀ (pins:List (Addr×Obj)) (s:Shared) (σ:St) (H:Hp) (x:V) (xs:List V) (v:Value) (us:List Value) (Q:VK),Inv X pins σ H s->zV x v->zA xs us->r x xs H Q ->
  wpAny (model X.prog X.w) X.A (call (.builtin id) (v::us)) (EP X pins σ Q) X.xe s
theorem zA.one:∀ {x:V} {us:List Value},zA [x] us->∃ u,us=[u]/\zV x u
 |_,_,.cons r .nil=>⟨_,rfl,r⟩
theorem zA.two:∀ {x y:V} {us:List Value},zA [x,y] us->∃ u v,us=[u,v]/\zV x u/\zV y v
 |_,_,_,.cons r (.cons q .nil)=>⟨_,_,rfl,r,q⟩
theorem zA.zero:∀ {us:List Value},zA [] us->us=[]
 |_,.nil=>rfl
theorem zA.dropLast {xs:List V}(h:zA xs us):zA xs.dropLast us.dropLast:=by
 induction h with
 |nil=>exact .nil
 |cons r t ih=>
  cases t with
  |nil=>exact .nil
  |cons q t'=>exact .cons r ih
theorem zA.eraseIdx:∀ {xs:List V} {us:List Value} (i:Nat),zA xs us->zA (xs.eraseIdx i) (us.eraseIdx i)
 |_,_,_,.nil=>.nil
 |_,_,0,.cons _ t=>t
 |_,_,i+1,.cons r t=>.cons r (zA.eraseIdx i t)
theorem zA.reverse {xs:List V}(h:zA xs us):zA xs.reverse us.reverse:=by
 induction h with
 |nil=>exact .nil
 |cons r t ih=>rw[List.reverse_cons,List.reverse_cons];exact zA.append ih (.cons r .nil)
theorem zA.rep {xs:List V}{us:List Value}(h:zA xs us):∀ k:Nat,zA (List.replicate k xs).flatten (List.replicate k us).flatten
 |0=>.nil
 |k+1=>by
  rw[List.replicate_succ,List.replicate_succ,List.flatten_cons,List.flatten_cons]
  exact zA.append h (zA.rep h k)
theorem Xb (l:List α):l.eraseIdx (l.length-1)=l.dropLast:=by
 induction l with
 |nil=>rfl
 |cons a r ih=>
  cases r with
  |nil=>rfl
  |cons b r=>
   have e:(a::b::r).length-1=((b::r).length-1)+1:=by
    have h1:(a::b::r).length=r.length+2:=rfl
    have h2:(b::r).length=r.length+1:=rfl
    omega
   rw[e,List.eraseIdx_cons_succ,ih]
   all_goals rfl
theorem Zi {α:Type}:∀ (l:List α) (i:Nat),(l.eraseIdx i).length<=l.length
 |[],_=>Nat.le_refl _
 |_::_,0=>Nat.le_succ _
 |_::r,i+1=>Nat.succ_le_succ (Zi r i)
section
variable {X:Cx}{pins:List (Addr×Obj)}{σ:St}{H:Hp}{s:Shared}{l b:Addr}{xs ys zs:List V}
theorem Inv.lset {its':List Value}{f:Array Value->Array Value}(I:Inv X pins σ H s)(hH:H l=some (.lst xs))
  (e:s.heap.get? l=some { cls:=.type "list",data:=.seq its.toArray n }) (hf:f its.toArray=its'.toArray) (hv:zA ys its') (hz:ys.length<=sizeLine):
  Inv X pins σ (upd H l (.lst ys)) { s with heap:=s.heap.update l (Obj.mapSeq f),toks:=t' }:=by
 have q:=PySem.IsL.update e f
 rw[hf] at q
 refine I.write (x:=l) (e:=l) (by rw[hH];exact trivial) (.inl rfl) (λb' u hb hu=>(Heap.get?_update_other s.heap (Obj.mapSeq f) (Ne.symm hb)).trans hu) ⟨_,q⟩ ?_
 exact⟨hz,its',_,hv,q⟩
theorem Inv.lnew (I:Inv X pins σ H s)(hv:zA ys its)(hz:ys.length<=sizeLine):
  Inv X pins σ (upd H s.heap.objs.size (.lst ys)) { s with heap:=s.heap.push { cls:=.type "list",data:=.seq its.toArray },toks:=t' }:=
 I.laid (λ_ _ q=>Heap.get?_push_of_some _ q) (Nat.le_refl _) ⟨hz,its,0,hv,Heap.get?_push_size _ rfl⟩
theorem Inv.fresh (I:Inv X pins σ H s):H s.heap.objs.size=none:=I.hok.fresh (Nat.le_refl _)
theorem Inv.lstM (I:Inv X pins σ H s)(hH:H l=some (.lst xs)):xs.length<=sizeLine/\∃ (its:List Value) (n:Nat),zA xs its/\xs.length=its.length/\s.heap.get? l=some { cls:=.type "list",data:=.seq its.toArray n }:=by
 obtain⟨z,its,n,r,e⟩:=I.hok l _ hH
 exact⟨z,its,n,r,r.length,e⟩
theorem Wr (h:n<=sizeLine):Builtin.List.listTooLong n=false:=by
 unfold Builtin.List.listTooLong
 exact decide_eq_false (by omega)
end
section
variable {X:Cx}
def Jw:V->List V->Hp->VK->Prop:=λx vs H Q=>∃ l xs y,x=.ref l/\vs=[y]/\H l=some (.lst xs)/\xs.length<sizeLine/\Q .non (upd H l (.lst (xs++[y])))
theorem zG:MtM X "list.append" Jw:=by
 intro pins s σ H x vs v us Q I rx rv h
 obtain⟨l,xs,y,rfl,rfl,hH,hz,q⟩:=h
 cases rx
 obtain⟨u,rfl,ru⟩:=rv.one
 obtain⟨z,its,n,r,hl,e⟩:=I.lstM hH
 refine call_meets F.slot_list_append ⟨_,e,rfl⟩ F.entry_list_append (F.args_list_append_2 _ _) (PySem.list_append l its.toArray n u (by rw[List.size_toArray];omega)) ⟨e,?_⟩
 refine⟨.non,_,I.lset (its':=its++[u]) hH e (by simp) (r.append (.cons ru .nil)) ?_,rfl,q⟩
 rw[List.length_append,List.length_singleton]
 omega
def Ye:V->List V->Hp->VK->Prop:=λx vs H Q=>∃ l b xs zs,x=.ref l/\vs=[.ref b]/\H l=some (.lst xs)/\H b=some (.lst zs)/\xs.length+zs.length<=sizeLine/\Q .non (upd H l (.lst (xs++zs)))
theorem XW:MtM X "list.extend" Ye:=by
 intro pins s σ H x vs v us Q I rx rv h
 obtain⟨l,b,xs,zs,rfl,rfl,hH,hB,hz,q⟩:=h
 cases rx
 obtain⟨u,rfl,ru⟩:=rv.one
 cases ru
 obtain⟨z,its,n,r,hl,e⟩:=I.lstM hH
 obtain⟨z2,its2,n2,r2,hl2,e2⟩:=I.lstM hB
 have hsz:its.toArray.size+its2.toArray.size<=sizeLine:=by rw[List.size_toArray,List.size_toArray];omega
 have hlong:¬ (!its.toArray.isEmpty && Builtin.List.listTooLong (its.toArray.size+its2.toArray.size))=true:=by
  rw[Wr hsz,Bool.and_false]
  exact Bool.false_ne_true
 refine call_meets F.slot_list_extend ⟨_,e,rfl⟩ F.entry_list_extend (F.args_list_extend_2 _ _)
  (AutoSeq1.list_extend_list_list_0 l its.toArray n b its2.toArray n2 hlong (by rw[List.size_toArray];omega) (by omega)) ⟨e,e2,?_⟩
 refine⟨.non,_,I.lset (its':=its++its2) hH e (by simp) (r.append r2) ?_,rfl,q⟩
 rw[List.length_append]
 omega
def rPop:V->List V->Hp->VK->Prop:=λx vs H Q=>∃ l xs y,x=.ref l/\vs=[]/\H l=some (.lst xs)/\xs[xs.length-1]?=some y/\Q y (upd H l (.lst xs.dropLast))
theorem mt_pop:MtM X "list.pop" rPop:=by
 intro pins s σ H x vs v us Q I rx rv h
 obtain⟨l,xs,y,rfl,rfl,hH,hy,q⟩:=h
 cases rx
 have hus:=rv.zero
 subst hus
 obtain⟨z,its,n,r,hl,e⟩:=I.lstM hH
 obtain⟨u,hu,ru⟩:=r.get hy
 have hy':its.toArray[its.toArray.size-1]?=some u:=by
  show its.toArray[its.length-1]?=some u
  rw[<-Array.getElem?_toList,<- hl]
  exact hu
 refine call_meets F.slot_list_pop ⟨_,e,rfl⟩ F.entry_list_pop (F.args_list_pop_1 _) (MeetsSeq.list_pop_last l its.toArray n u hy' (by rw[List.size_toArray];omega)) ⟨e,?_⟩
 refine⟨y,_,I.lset (its':=its.dropLast) hH e ?_ r.dropLast ?_,ru,q⟩
 ·show its.toArray.eraseIdxIfInBounds (its.toArray.size-1)=its.dropLast.toArray
  rw[List.size_toArray,List.eraseIdxIfInBounds_toArray,Xb]
 ·rw[List.length_dropLast]
  omega
def rPopAt:V->List V->Hp->VK->Prop:=λx vs H Q=>∃ l xs i k y,x=.ref l/\vs=[.int i]/\H l=some (.lst xs)/\-(2 ^ 63)<=i/\i<2 ^ 63/\seqIndex? i xs.length=some k/\xs[k]?=some y/\Q y (upd H l (.lst (xs.eraseIdx k)))
theorem JP:MtM X "list.pop" rPopAt:=by
 intro pins s σ H x vs v us Q I rx rv h
 obtain⟨l,xs,i,k,y,rfl,rfl,hH,h1,h2,hk,hy,q⟩:=h
 cases rx
 obtain⟨u,rfl,ru⟩:=rv.one
 obtain⟨t,rfl⟩:=ru
 obtain⟨z,its,n,r,hl,e⟩:=I.lstM hH
 obtain⟨w,hw,rw'⟩:=r.get hy
 refine call_meets F.slot_list_pop ⟨_,e,rfl⟩ F.entry_list_pop (F.args_list_pop_2 _ _)
  (MeetsSeq.list_pop_at l its.toArray n i t k w (fitsIndex_both h1 h2) (by rw[List.size_toArray,<- hl];exact hk) (by rw[<-Array.getElem?_toList];exact hw) (by rw[List.size_toArray];omega)) ⟨e,?_⟩
 refine⟨y,_,I.lset (its':=its.eraseIdx k) hH e ?_ (r.eraseIdx k) ?_,rw',q⟩
 ·show its.toArray.eraseIdxIfInBounds k=(its.eraseIdx k).toArray
  rw[List.eraseIdxIfInBounds_toArray]
 ·have:=Zi xs k
  omega
def rCat:R2:=λx y H Q=>∃ l b xs zs,x=.ref l/\y=.ref b/\H l=some (.lst xs)/\H b=some (.lst zs)/\xs.length+zs.length<=sizeLine/\∀ p,H p=none->Q (.ref p) (upd H p (.lst (xs++zs)))
theorem VD:OpR X (binaryOp .Add) rCat:=by
 intro pins s σ H x y v u Q I rx ry h
 obtain⟨l,b,xs,zs,rfl,rfl,hH,hB,hz,q⟩:=h
 cases rx
 cases ry
 obtain⟨z,its,n,r,hl,e⟩:=I.lstM hH
 obtain⟨z2,its2,n2,r2,hl2,e2⟩:=I.lstM hB
 refine PySem.P.add_list e e2 ?_ (by rw[List.size_toArray,List.size_toArray];omega)
 have ea:its.toArray++its2.toArray=(its++its2).toArray:=by simp
 rw[ea]
 exact⟨.ref _,_,I.lnew (t':=s.toks) (r.append r2) (by rw[List.length_append];omega),rfl,q _ I.fresh⟩
end
section
variable {κ:Type}[DecidableEq κ]
def jG (kvs:List (κ×V))(k:κ):Option V:=(kvs.find? λkv=>decide (kv.1=k)).map (·.2)
def xT (kvs:List (κ×V))(k:κ)(v:V):List (κ×V):=
 if (kvs.any λkv=>decide (kv.1=k))=true then kvs.map (λkv=>if kv.1=k then(kv.1,v) else kv) else kvs++[(k,v)]
def xW (kvs:List (κ×V))(k:κ):List (κ×V):=kvs.filter λkv=>decide (kv.1≠k)
theorem jg {p:κ×V}{r:List (κ×V)}{k:κ}(e:p.1=k):jG (p::r) k=some p.2:=by simp[jG,List.find?_cons,e]
theorem j2 {p:κ×V}{r:List (κ×V)}{k:κ}(e:¬ p.1=k):jG (p::r) k=jG r k:=by simp[jG,List.find?_cons,e]
theorem xh (k:κ):∀ kvs:List (κ×V),(kvs.any λkv=>decide (kv.1=k))=(jG kvs k).isSome
 |[]=>rfl
 |p::r=>by
  rw[List.any_cons]
  by_cases e:p.1=k
  ·simp only[jg e,decide_eq_true e,Bool.true_or,Option.isSome_some]
  ·rw[j2 e,decide_eq_false e,Bool.false_or];exact xh k r
theorem JG (k j:κ)(y:V):∀ kvs:List (κ×V),jG (kvs.map λkv=>if kv.1=k then(kv.1,y) else kv) j=(jG kvs j).map λx=>if j=k then y else x
 |[]=>rfl
 |p::r=>by
  have ih:=JG k j y r
  rw[List.map_cons]
  by_cases h:p.1=k
  ·rw[if_pos h]
   by_cases e:p.1=j
   ·rw[jg (p:=(p.1,y)) e,jg e,Option.map_some,if_pos (e.symm.trans h)]
   ·rw[j2 (p:=(p.1,y)) e,j2 e,ih]
  ·rw[if_neg h]
   by_cases e:p.1=j
   ·rw[jg (p:=p) e,jg e,Option.map_some,if_neg (λz=>h (e.trans z))]
   ·rw[j2 (p:=p) e,j2 e,ih]
theorem Zc (k j:κ)(y:V):∀ kvs:List (κ×V),jG kvs k=none->jG (kvs++[(k,y)]) j=if j=k then some y else jG kvs j
 |[],_=>by
  by_cases e:k=j
  ·rw[if_pos e.symm];exact jg (p:=(k,y)) e
  ·rw[if_neg (λz=>e z.symm)];exact j2 (p:=(k,y)) e
 |p::r,hn=>by
  rw[List.cons_append]
  have hk:¬ p.1=k:=λz=>by rw[jg z] at hn;cases hn
  rw[j2 hk] at hn
  have ih:=Zc k j y r hn
  by_cases e:p.1=j
  ·rw[jg e,jg e,if_neg (λz=>hk (e.trans z))]
  ·rw[j2 e,j2 e,ih]
theorem xk (kvs:List (κ×V))(k j:κ)(y:V):jG (xT kvs k y) j=if j=k then some y else jG kvs j:=by
 unfold xT
 by_cases a:(kvs.any λkv=>decide (kv.1=k))=true
 ·rw[if_pos a,JG]
  rw[xh] at a
  by_cases e:j=k
  ·obtain⟨x,hx⟩:=Option.isSome_iff_exists.mp a
   rw[if_pos e,e,hx,Option.map_some,if_pos rfl]
  ·rw[if_neg e]
   cases jG kvs j with
   |none=>rfl
   |some x=>rw[Option.map_some,if_neg e]
 ·rw[if_neg a]
  refine Zc k j y kvs ?_
  rw[xh] at a
  cases q:jG kvs k with
  |none=>rfl
  |some x=>rw[q] at a;exact(a rfl).elim
theorem vS (kvs:List (κ×V))(k:κ)(v:V):(xT kvs k v).length<=kvs.length+1:=by
 unfold xT
 split
 ·rw[List.length_map];omega
 ·rw[List.length_append,List.length_cons,List.length_nil];omega
theorem KO {kvs:List (κ×V)}{k:κ}(v:V)(h:jG kvs k=none):xT kvs k v=kvs++[(k,v)]:=by
 unfold xT
 rw[xh,h]
 exact if_neg (by decide)
theorem yz.isSome_eq {u:Option Value}(r:yz o u):o.isSome=u.isSome:=by
 cases o with
 |none=>cases u with
  |none=>rfl
  |some _=>exact(show False from r).elim
 |some _=>cases u with
  |none=>exact(show False from r).elim
  |some _=>rfl
theorem yz.getD {u:Option Value}{d:V}{d':Value}(r:yz o u)(rd:zV d d'):zV (o.getD d) (u.getD d'):=by
 cases o with
 |none=>cases u with
  |none=>exact rd
  |some _=>exact(show False from r).elim
 |some _=>cases u with
  |none=>exact(show False from r).elim
  |some _=>exact r
theorem KV.val {kvs:List (κ×V)}{vs:List (κ×Value)}(r:KV kvs vs)(k:κ):yz (jG kvs k) (valueAt vs k):=by
 unfold KV at r
 induction r with
 |nil=>exact True.intro
 |@cons p q ps qs h t ih=>
  obtain⟨h1,h2⟩:=h
  by_cases e:p.1=k
  ·have e':q.1=k:=h1.symm.trans e
   have b:valueAt (q::qs) k=some q.2:=by simp[valueAt,List.find?_cons,e']
   rw[jg e,b];exact h2
  ·have e':¬ q.1=k:=λz=>e (h1.trans z)
   have b:valueAt (q::qs) k=valueAt qs k:=by simp[valueAt,List.find?_cons,e']
   rw[j2 e,b];exact ih
theorem KV.any {kvs:List (κ×V)}{vs:List (κ×Value)}(r:KV kvs vs)(k:κ):(kvs.any λkv=>decide (kv.1=k))=vs.any λkv=>decide (kv.1=k):=by
 unfold KV at r
 induction r with
 |nil=>rfl
 |cons h t ih=>rw[List.any_cons,List.any_cons,ih,h.1]
theorem KV.repl {kvs:List (κ×V)}{vs:List (κ×Value)}(r:KV kvs vs)(k:κ)(ry:zV y u):
  KV (kvs.map λkv=>if kv.1=k then(kv.1,y) else kv) (vs.map λkv=>if kv.1=k then(kv.1,u) else kv):=by
 unfold KV at r ⊢
 induction r with
 |nil=>exact .nil
 |@cons p q ps qs h t ih=>
  rw[List.map_cons,List.map_cons]
  refine .cons ?_ ih
  obtain⟨h1,h2⟩:=h
  by_cases e:p.1=k
  ·rw[if_pos e,if_pos (h1.symm.trans e)];exact⟨h1,ry⟩
  ·rw[if_neg e,if_neg (λz=>e (h1.trans z))];exact⟨h1,h2⟩
theorem KV.put {kvs:List (κ×V)}{vs:List (κ×Value)}(r:KV kvs vs)(k:κ)(ry:zV y u):KV (xT kvs k y) (stored vs k u):=by
 unfold xT stored
 rw[r.any k]
 by_cases e:(vs.any λkv=>decide (kv.1=k))=true
 ·rw[if_pos e,if_pos e];exact r.repl k ry
 ·rw[if_neg e,if_neg e];exact Paired.snoc r ⟨rfl,ry⟩
theorem KV.drop {kvs:List (κ×V)}{vs:List (κ×Value)}(r:KV kvs vs)(k:κ):KV (xW kvs k) (without vs k):=by
 unfold KV at r ⊢
 unfold xW without
 induction r with
 |nil=>exact .nil
 |@cons p q ps qs h t ih=>
  obtain⟨h1,h2⟩:=h
  rw[List.filter_cons,List.filter_cons]
  by_cases e:p.1=k
  ·have a:¬ decide (p.1≠k)=true:=by simp[e]
   have b:¬ decide (q.1≠k)=true:=by simp[h1.symm.trans e]
   rw[if_neg a,if_neg b];exact ih
  ·have e':¬ q.1=k:=λz=>e (h1.trans z)
   have a:decide (p.1≠k)=true:=by simp[e]
   have b:decide (q.1≠k)=true:=by simp[e']
   rw[if_pos a,if_pos b];exact .cons ⟨h1,h2⟩ ih
theorem KV.keys {kvs:List (κ×V)}{vs:List (κ×Value)}(r:KV kvs vs):kvs.map (·.1)=vs.map (·.1):=by
 unfold KV at r
 induction r with
 |nil=>rfl
 |cons h t ih=>rw[List.map_cons,List.map_cons,ih,h.1]
theorem KV.length {kvs:List (κ×V)}{vs:List (κ×Value)}(r:KV kvs vs):kvs.length=vs.length:=Paired.length r
theorem W0 (kvs:List (κ×V))(k:κ):(xW kvs k).length<=kvs.length:=List.length_filter_le _ _
end
theorem yC {k:Key}(r:zV (kV k) u):(zj P w).is k u=true:=by
 cases k with
 |inl i=>obtain⟨t,e⟩:=(show ∃ t,u=Value.int i t from r);subst e;exact J1 P w i t
 |inr x=>obtain⟨t,e⟩:=(show ∃ t,u=Value.str x t from r);subst e;exact Jf P w x t
theorem ZE {P:Program}{w:World}:∀ {ks:List Key} {us:List Value},zA (ks.map kV) us->ItemsAre (zj P w) ks us
 |[],_,r=>by rw[List.map_nil] at r;cases r;exact .nil
 |k::ks,_,r=>by
  rw[List.map_cons] at r
  cases r with
  |cons h t=>exact .cons (yC h) (ZE t)
abbrev KT (H:Hp):List (List Key×V)->List (List Key×Addr×Value)->Prop:=Paired λp q=>p.1=q.1/\H q.2.1=some (.tup (p.1.map kV))/\zV p.2 q.2.2
theorem KT.val (r:KT H kvs xs)(k:List Key):yz (jG kvs k) ((atKey xs k).map (·.2)):=by
 induction r with
 |nil=>exact True.intro
 |@cons p q ps qs h t ih=>
  obtain⟨h1,_,h2⟩:=h
  by_cases e:p.1=k
  ·have e':q.1=k:=h1.symm.trans e
   have b:atKey (q::qs) k=some q.2:=by simp[atKey,List.find?_cons,e']
   rw[jg e,b];exact h2
  ·have e':¬ q.1=k:=λz=>e (h1.trans z)
   have b:atKey (q::qs) k=atKey qs k:=by simp[atKey,List.find?_cons,e']
   rw[j2 e,b];exact ih
theorem KT.repl (r:KT H kvs xs)(k:List Key)(ry:zV y u):
  KT H (kvs.map λkv=>if kv.1=k then(kv.1,y) else kv) (xs.map (putAt k u)):=by
 induction r with
 |nil=>exact .nil
 |@cons p q ps qs h t ih=>
  rw[List.map_cons,List.map_cons]
  refine .cons ?_ ih
  obtain⟨h1,h2,h3⟩:=h
  unfold putAt
  by_cases e:p.1=k
  ·rw[if_pos e,if_pos (h1.symm.trans e)];exact⟨h1,h2,ry⟩
  ·rw[if_neg e,if_neg (λz=>e (h1.trans z))];exact⟨h1,h2,h3⟩
theorem KT.put (r:KT H kvs xs)(k:List Key)(hb:H b=some (.tup (k.map kV)))(ry:zV y u):
  KT H (xT kvs k y) (storedH xs k b u):=by
 have e:(kvs.any λkv=>decide (kv.1=k))=(atKey xs k).isSome:=by
  rw[xh,(r.val k).isSome_eq,Option.isSome_map]
 unfold xT storedH
 rw[e]
 by_cases q:(atKey xs k).isSome=true
 ·rw[if_pos q,if_pos q];exact r.repl k ry
 ·rw[if_neg q,if_neg q];exact Paired.snoc r ⟨rfl,hb,ry⟩
theorem KT.keeps (r:KT H kvs xs)(ht:∀ b ys,H b=some (.tup ys)->H' b=some (.tup ys)):KT H' kvs xs:=
 Paired.mapP r λ_ _ z=>⟨z.1,ht _ _ z.2.1,z.2.2⟩
section
variable {P:Program}{w:World}{H:Hp}{h:Heap}{a:Addr}
theorem rd_of {u:HO}(ok:HOk P w H h)(e:Rd H a u):ji P w H h a u:=e.ok ok
theorem Qe {kvs:List (Key×V)}(ok:HOk P w H h)(e:Rd H a (.dK kvs)):kvs.length<=sizeLine/\(a == sysModules)=false/\∃ vs,KV kvs vs/\h.DictOf (zj P w) a vs:=
 show ji P w H h a (.dK kvs) from rd_of ok e
theorem W4 {kvs:List (Key×V)}(ok:HOk P w H h)(e:H a=some (.dK kvs)):kvs.length<=sizeLine/\(a == sysModules)=false/\∃ vs,KV kvs vs/\h.DictOf (zj P w) a vs:=Qe ok (.inl e)
theorem yo {ks:List Key}(ok:HOk P w H h)(e:H a=some (.tup (ks.map kV))):(tupleKind (zj P w)).is h ks a:=by
 obtain⟨_,its,r,o,h1,h2,n,h3⟩:=(show ji P w H h a (.tup (ks.map kV)) from ok a _ e)
 exact⟨o,its.toArray,n,h1,h2,h3,by simpa using ZE r⟩
theorem ZD (ok:HOk P w H h)(e:Rd H a (.dT kvs)):kvs.length<=sizeLine/\(a == sysModules)=false /\
  ∃ xs,KT H kvs xs/\h.DictOfH (tupleKind (zj P w)) a xs:=by
 obtain⟨z,y,xs,r,o,es,ep,h1,h2,h3,h4,h5⟩:=(show ji P w H h a (.dT kvs) from rd_of ok e)
 refine⟨z,y,xs,r,o,es,ep,h1,h2,h3,h4,λx hx=>?_,h5⟩
 have all:∀ {l:List (List Key×V)} {m:List (List Key×Addr×Value)},KT H l m->∀ x∈m,(tupleKind (zj P w)).is h x.1 x.2.1:=by
  intro l m q
  induction q with
  |nil=>intro x hx;exact nomatch hx
  |@cons p q ps qs hq t ih=>
   intro x hx
   rcases List.mem_cons.mp hx with e|hx
   ·subst e
    exact yo ok (by rw[<-hq.1];exact hq.2.1)
   ·exact ih x hx
 exact all r x hx
theorem dt_of (ok:HOk P w H h)(e:H a=some (.dT kvs)):kvs.length<=sizeLine/\(a == sysModules)=false /\
  ∃ xs,KT H kvs xs/\h.DictOfH (tupleKind (zj P w)) a xs:=ZD ok (.inl e)
end
def Q1 (H:Hp)(a:Addr)(y:V)(r:Option V):Prop:=
 (∃ kvs k,Rd H a (.dK kvs)/\y=kV k/\r=jG kvs k)\/∃ kvs k b,Rd H a (.dT kvs)/\y=.ref b/\H b=some (.tup (k.map kV))/\r=jG kvs k
def Xa (H:Hp)(a:Addr)(y v:V)(H':Hp):Prop:=
 (∃ kvs k,H a=some (.dK kvs)/\y=kV k/\kvs.length<sizeLine/\H'=upd H a (.dK (xT kvs k v))) \/
 ∃ kvs k b,H a=some (.dT kvs)/\y=.ref b/\H b=some (.tup (k.map kV))/\kvs.length<sizeLine/\H'=upd H a (.dT (xT kvs k v))
theorem Q1.k {kvs:List (Key×V)}{k:Key}(e:H a=some (.dK kvs)):Q1 H a (kV k) (jG kvs k):=.inl ⟨kvs,k,.inl e,rfl,rfl⟩
theorem Q1.t {k:List Key}(e:H a=some (.dT kvs))(eb:H b=some (.tup (k.map kV))):Q1 H a (.ref b) (jG kvs k):=.inr ⟨kvs,k,b,.inl e,rfl,eb,rfl⟩
theorem Xa.k {kvs:List (Key×V)}{k:Key}{v:V}(e:H a=some (.dK kvs))(hl:kvs.length<sizeLine):Xa H a (kV k) v (upd H a (.dK (xT kvs k v))):=.inl ⟨kvs,k,e,rfl,hl,rfl⟩
theorem Xa.t {k:List Key}{v:V}(e:H a=some (.dT kvs))(eb:H b=some (.tup (k.map kV)))(hl:kvs.length<sizeLine):
  Xa H a (.ref b) v (upd H a (.dT (xT kvs k v))):=.inr ⟨kvs,k,b,e,rfl,eb,hl,rfl⟩
section
variable {X:Cx}{pins:List (Addr×Obj)}{σ:St}{H:Hp}{s:Shared}{a:Addr}{y v:V}{u r:Value}{o:Option V}{A:Around}{E:Value->Shared->Prop}
theorem Inv.big (I:Inv X pins σ H s):sysModules<s.heap.objs.size:=by
 have h:mainGlobals<s.heap.objs.size:=(I.mod.glob.keeps I.bk).lt
 exact Nat.lt_trans (by decide) h
theorem V2 (hu:A.units+1<cLine)(I:Inv X pins σ H s)(g:Q1 H a y (some v))(ry:zV y u)(h:∀ w' s',Inv X pins σ H s'->zV v w'->Q w' s'):
  wpAny (model X.prog X.w) A (getItem (.ref a) u) Q E s:=by
 rcases g with⟨kvs,k,e,ey,l⟩|⟨kvs,k,b,e,ey,eb,l⟩
 ·subst ey
  obtain⟨z,hd,vs,rel,dd⟩:=Qe I.hok e
  obtain⟨w',hw,rw'⟩:=yz.some_of (v:=v) (o:=valueAt vs k) (by rw[l];exact rel.val k)
  exact wpAny_getItem_of (yC ry) dd.mapOf hw (h w' _ (I.tok _) rw')
 ·subst ey
  cases(show u=Value.ref b from ry)
  obtain⟨z,hd,xs,rel,dd⟩:=ZD I.hok e
  obtain⟨w',hw,rw'⟩:=yz.some_of (v:=v) (o:=(atKey xs k).map (·.2)) (by rw[l];exact rel.val k)
  obtain⟨p,hp,hp2⟩:=Option.map_eq_some_iff.mp hw
  refine wpAny_getItem_heap (tupleKind_room_in1 hu) (yo I.hok eb) dd hp ?_
  rw[hp2]
  exact h w' _ (I.tok _) rw'
theorem d_in (hu:A.units+1<cLine)(I:Inv X pins σ H s)(g:Q1 H a y o)(ry:zV y u)(h:∀ s',Inv X pins σ H s'->Q (.bool o.isSome) s'):
  wpAny (model X.prog X.w) A (compareOp .In u (.ref a)) Q E s:=by
 rcases g with⟨kvs,k,e,ey,l⟩|⟨kvs,k,b,e,ey,eb,l⟩
 ·subst ey
  obtain⟨z,hd,vs,rel,dd⟩:=Qe I.hok e
  refine wpAny_in_of (yC ry) hd dd.mapOf ?_
  rw[<-(rel.val k).isSome_eq,<- l]
  exact h _ (I.tok _)
 ·subst ey
  cases(show u=Value.ref b from ry)
  obtain⟨z,hd,xs,rel,dd⟩:=ZD I.hok e
  refine wpAny_in_heap (tupleKind_room_in1 hu) (yo I.hok eb) hd dd ?_
  have q:=(rel.val k).isSome_eq
  rw[Option.isSome_map] at q
  rw[<-q,<- l]
  exact h _ (I.tok _)
theorem YM (hu:A.units+1<cLine)(I:Inv X pins σ H s)(g:Q1 H a y o)(ry:zV y u)(h:∀ s',Inv X pins σ H s'->Q (.bool (!o.isSome)) s'):
  wpAny (model X.prog X.w) A (compareOp .NotIn u (.ref a)) Q E s:=by
 rcases g with⟨kvs,k,e,ey,l⟩|⟨kvs,k,b,e,ey,eb,l⟩
 ·subst ey
  obtain⟨z,hd,vs,rel,dd⟩:=Qe I.hok e
  refine wpAny_notIn_of (yC ry) hd dd.mapOf ?_
  rw[<-(rel.val k).isSome_eq,<- l]
  exact h _ (I.tok _)
 ·subst ey
  cases(show u=Value.ref b from ry)
  obtain⟨z,hd,xs,rel,dd⟩:=ZD I.hok e
  refine wpAny_notIn_heap (tupleKind_room_in1 hu) (yo I.hok eb) hd dd ?_
  have q:=(rel.val k).isSome_eq
  rw[Option.isSome_map] at q
  rw[<-q,<- l]
  exact h _ (I.tok _)
theorem QB {h':Heap}{ob:HO}(I:Inv X pins σ H s)(mu:Mut (H a))(hs:Heap.SameBut a s.heap h')(he:∃ q,h'.get? a=some q)(new:ji X.prog X.w (upd H a ob) h' a ob):
  Inv X pins σ (upd H a ob) { s with heap:=h',toks:=t' }:=
 I.write (x:=a) (e:=a) mu (.inl rfl) (λb q hb z=>(hs.2 b hb).trans z) he new
theorem JF {h':Heap}{kvs:List (Key×V)}{vs:List (Key×Value)}(z:kvs.length<=sizeLine)(hd:(a == sysModules)=false)(rel:KV kvs vs)(dd:h'.DictOf (zj P w) a vs):
  ji P w H' h' a (.dK kvs):=⟨z,hd,vs,rel,dd⟩
theorem VB {Q:Unit->Shared->Prop}(hu:A.units+1<cLine)(I:Inv X pins σ H s)(g:Xa H a y v H')(ry:zV y u)(rv:zV v r)(h:∀ s',Inv X pins σ H' s'->Q () s'):
  wpAny (model X.prog X.w) A (setItem (.ref a) u r) Q E s:=by
 rcases g with⟨kvs,k,e,ey,l,eH⟩|⟨kvs,k,b,e,ey,eb,l,eH⟩
 ·subst ey eH
  obtain⟨z,hd,vs,rel,dd⟩:=W4 I.hok e
  have hz:vs.length<=sizeLine:=by rw[<-rel.length];exact z
  have hl:(xT kvs k v).length<=sizeLine:=by have:=vS kvs k v;omega
  refine wpAny_setItem_pairs (hsz:=hz) (yC ry) dd λh' dd' hs=>h _ ?_
  have he:∃ q,h'.get? a=some q:=let ⟨q,_,_,hq,_⟩:=dd';⟨q,hq⟩
  exact QB I (by rw[e];exact True.intro) hs he (JF hl hd (rel.put k rv) dd')
 ·subst ey eH
  cases(show u=Value.ref b from ry)
  obtain⟨z,hd,xs,rel,dd⟩:=dt_of I.hok e
  have hz:xs.length<=sizeLine:=by rw[<-Paired.length rel];exact z
  have hl:(xT kvs k v).length<=sizeLine:=by have:=vS kvs k v;omega
  refine wpAny_setItem_heap (hsz:=hz) (tupleKind_room_in1 hu) (yo I.hok eb) dd λh' dd' hs=>h _ ?_
  obtain⟨q,es,ep,hq,h2,h3,h4,_,h5⟩:=dd'
  refine QB I (by rw[e];exact True.intro) hs ⟨q,hq⟩ ⟨hl,hd,_,(rel.put k eb rv).keeps λc ys ec=>?_,q,es,ep,hq,h2,h3,h4,h5⟩
  rw[qp (xZ ec e (λz=>nomatch z))]
  exact ec
end
section
variable {X:Cx}{pins:List (Addr×Obj)}{σ:St}{H:Hp}{s:Shared}{a:Addr}{kvs:List (Key×V)}{k:Key}{u:Value}{A:Around}{E:Value->Shared->Prop}
theorem d_pop {v:V}{more:List Value}(I:Inv X pins σ H s)(e:H a=some (.dK kvs))(ry:zV (kV k) u)(l:jG kvs k=some v)(hm:more=[]\/∃ x,more=[x])
  (h:∀ w' s',Inv X pins σ (upd H a (.dK (xW kvs k))) s'->zV v w'->Q w' s'):wpAny (model X.prog X.w) A (call (.builtin "dict.pop") (.ref a::u::more)) Q E s:=by
 obtain⟨z,hd,vs,rel,dd⟩:=W4 I.hok e
 obtain⟨w',hw,rw'⟩:=yz.some_of (v:=v) (o:=valueAt vs k) (by rw[<-l];exact rel.val k)
 have hp:(keyPart u).isSome=true:=by
  cases k with
  |inl i=>obtain⟨t,q⟩:=(show ∃ t,u=Value.int i t from ry);subst q;rfl
  |inr x=>obtain⟨t,q⟩:=(show ∃ t,u=Value.str x t from ry);subst q;rfl
 have ha:argsOk "dict.pop" ⟨.ref a::u::more,[]⟩:=by
  rcases hm with q|⟨x,q⟩
  ·subst q;exact PySem.F.args_dict_pop_2 _ _
  ·subst q;exact PySem.F.args_dict_pop_3 _ _ _
 refine call_meetsIn PySem.F.slot_dict_pop dd.typeIs PySem.F.entry_dict_pop ha (meets_dict_pop_there (zj X.prog X.w) a (yC ry) more hm hp)
  ⟨vs,w',dd,by rw[<-rel.length];exact z,hw,λh' dd' hs=>h w' _ ?_ rw'⟩
 have he:∃ q,h'.get? a=some q:=let ⟨q,_,_,hq,_⟩:=dd';⟨q,hq⟩
 exact QB I (by rw[e];exact True.intro) hs he (JF (Nat.le_trans (W0 kvs k) z) hd (rel.drop k) dd')
theorem d_popD {r:Value}(I:Inv X pins σ H s)(e:H a=some (.dK kvs))(ry:zV (kV k) u)(l:jG kvs k=none)(h:∀ s',Inv X pins σ H s'->Q r s'):
  wpAny (model X.prog X.w) A (call (.builtin "dict.pop") [.ref a,u,r]) Q E s:=by
 obtain⟨z,hd,vs,rel,dd⟩:=W4 I.hok e
 have hn:valueAt vs k=none:=yz.none_of (by rw[<-l];exact rel.val k)
 have hp:(keyPart u).isSome=true:=by
  cases k with
  |inl i=>obtain⟨t,q⟩:=(show ∃ t,u=Value.int i t from ry);subst q;rfl
  |inr x=>obtain⟨t,q⟩:=(show ∃ t,u=Value.str x t from ry);subst q;rfl
 exact call_meetsIn PySem.F.slot_dict_pop dd.typeIs PySem.F.entry_dict_pop (PySem.F.args_dict_pop_3 _ _ _) (meets_dict_pop_default (zj X.prog X.w) a (yC ry) hd hp r) ⟨vs,dd,hn,h _ (I.tok _)⟩
end
def NoSl (i:Expr):Prop:=∀ ov iv,subscripted i false ov iv=operate [ov,iv] (getItem ov iv)
theorem Kh {prog:Program}{A:Around}{E:Value->Shared->Prop}{env:Env}{value slice:Expr}{T id:String}
  (hl:typeLookup (.type T) "__getitem__"=pure (some (.builtin id))) (hs:NoSl slice)
  (h:wpAny (model prog w) A (eval value env) (λo s₁=>wpAny (model prog w) A (eval slice env) (λi s₂=>s₂.TypeIs o T/\wpAny (model prog w) A (getItem o i) Q E s₂) E s₁) E s):
  wpAny (model prog w) A (eval (.Subscript value slice pos) env) Q E s:=by
 refine Subscript_ (wpAny_mono h (λo s₁ h₁=>wpAny_mono h₁ (λi s₂ h₂=>?_) λ_ _ x=>x) λ_ _ x=>x)
 obtain⟨hT,h₂⟩:=h₂
 unfold subscriptTail
 refine wpAny_bind ?_
 rw[getitemInPython_of_ne hT.not_modules]
 refine wpAny_bind (wpAny_specialOf hT hl ?_)
 have fin:wpAny (model prog w) A (subscripted slice false o i) (λr s₃=>wpAny (model prog w) A (letTemporaryGo value o r >>= λ_=>pure r) Q E s₃) E s₂:=by
  rw[hs o i]
  exact wpAny_operating (wpAny_mono h₂ (λr s₃ h₃=>wpAny_bind (wpAny_letTemporaryGo (wpAny_pure h₃))) λ_ _ x=>x)
 first
  |exact wpAny_pure (wpAny_bind fin)
  |exact wpAny_bind (wpAny_pure (wpAny_bind fin))
  |exact wpAny_bind fin
theorem Jt (I:Inv X pins σ H s)(g:Q1 H a y o):s.TypeIs (.ref a) "dict":=by
 rcases g with⟨kvs,k,e,_,_⟩|⟨kvs,k,b,e,_,_,_⟩
 ·obtain⟨_,_,vs,_,dd⟩:=Qe I.hok e
  exact dd.typeIs
 ·obtain⟨_,_,xs,_,dd⟩:=ZD I.hok e
  exact dd.typeIs
def Y7 (td ty:TE):TE:=λσ H Q=>td σ H λx H1=>ty σ H1 λy H2=>asR x λa=>∃ v,Q1 H2 a y (some v)/\Q v H2
def tDIn (ty td:TE):TE:=λσ H Q=>ty σ H λy H1=>td σ H1 λx H2=>asR x λa=>∃ o,Q1 H2 a y o/\Q (.bl o.isSome) H2
def Jh (ty td:TE):TE:=λσ H Q=>ty σ H λy H1=>td σ H1 λx H2=>asR x λa=>∃ o,Q1 H2 a y o/\Q (.bl (!o.isSome)) H2
def Yb (td ty tv:TE):TS:=λD σ H=>tv σ H λv H1=>td σ H1 λx H2=>ty σ H2 λy H3=>asR x λa=>∃ H4,Xa H3 a y v H4/\D.nx σ H4
section
variable {X:Cx}{o i e value:Expr}{pos pos' tpos:Pos}{td ty tv:TE}
theorem v5 (hu:X.A.units+1<cLine)(ho:PE X o td)(hi:PE X i ty)(hs:NoSl i):PE X (.Subscript o i pos) (Y7 td ty):=by
 intro pins s σ H Q I h
 refine Kh PySem.F.slot_dict_getitem.lookup hs (thn (ho pins s σ H _ I h) λu s1 ⟨x,H1,I1,rx,q1⟩=>thn (hi pins s1 σ H1 _ I1 q1) λiv s2 ⟨y,H2,I2,ry,q0⟩=>?_)
 obtain⟨a,ex,v,g,q2⟩:=vI q0
 subst ex
 obtain rfl:u=Value.ref a:=rx
 exact⟨Jt I2 g,V2 hu I2 g ry λw' s3 I3 rw'=>⟨v,H2,I3,rw',q2⟩⟩
theorem X0 (hu:X.A.units+1<cLine)(hi:PE X i ty)(ho:PE X o td):PC X .In i o (tDIn ty td):=by
 intro pins s σ H Q I h
 refine thn (hi pins s σ H _ I h) λiv s1 ⟨y,H1,I1,ry,q1⟩=>thn (ho pins s1 σ H1 _ I1 q1) λu s2 ⟨x,H2,I2,rx,q0⟩=>?_
 obtain⟨a,ex,ov,g,q2⟩:=vI q0
 subst ex
 obtain rfl:u=Value.ref a:=rx
 exact d_in hu I2 g ry λs3 I3=>⟨.bl ov.isSome,H2,I3,rfl,q2⟩
theorem kG (hu:X.A.units+1<cLine)(hi:PE X i ty)(ho:PE X o td):PC X .NotIn i o (Jh ty td):=by
 intro pins s σ H Q I h
 refine thn (hi pins s σ H _ I h) λiv s1 ⟨y,H1,I1,ry,q1⟩=>thn (ho pins s1 σ H1 _ I1 q1) λu s2 ⟨x,H2,I2,rx,q0⟩=>?_
 obtain⟨a,ex,ov,g,q2⟩:=vI q0
 subst ex
 obtain rfl:u=Value.ref a:=rx
 exact YM hu I2 g ry λs3 I3=>⟨.bl (!ov.isSome),H2,I3,rfl,q2⟩
theorem v6 (hu:X.A.units+1<cLine)(ho:PE X o td)(hi:PE X i ty)(hv:PE X value tv)(hs:swapsWith value (some (.Subscript o i pos')) pos.line X.env=pure false):
  PS X (.Assign [.Subscript o i pos'] value pos) (Yb td ty tv):=by
 intro pins s σ H D I h
 refine wpAny_Assign_Subscript (thn (hv pins s σ H _ I h) λr s1 ⟨v,H1,I1,rv,q1⟩=>thn (ho pins s1 σ H1 _ I1 q1) λu s2 ⟨x,H2,I2,rx,q2⟩=>thn (hi pins s2 σ H2 _ I2 q2) λiv s3 ⟨y,H3,I3,ry,q0⟩=>?_) hs
 obtain⟨a,ex,H4,g,q3⟩:=vI q0
 subst ex
 obtain rfl:u=Value.ref a:=rx
 exact VB hu I3 g ry rv λs4 I4=>⟨σ,H4,I4,q3⟩
end
theorem JN (h:Heap)(hb:sysModules<h.objs.size):ji P w H (h.push { cls:=.type "dict",data:=.dict #[] }) h.objs.size (.dK []):=
 ⟨Nat.zero_le _,beq_eq_false_iff_ne.mpr (Ne.symm (Nat.ne_of_lt hb)),[],.nil,Heap.DictOf.new h⟩
def WQ:TE:=λ_ H Q=>∀ p,H p=none->Q (.ref p) (upd H p (.dK []))
section
variable {X:Cx}{pos:Pos}
theorem wP:PE X (.Dict [] [] pos) WQ:=λpins s σ H Q I h=>
 wpAny_Dict_empty ⟨.ref s.heap.objs.size,_,I.laid (a:=s.heap.objs.size) (o:=.dK []) (t':=s.toks) (λ_ _ q=>Heap.get?_push_of_some _ q) (Nat.le_refl _) (JN s.heap I.big),rfl,h _ (I.hok.fresh (Nat.le_refl _))⟩
end
def X6:List (TE×TE)->St->Hp->(List (V×V)->Hp->Prop)->Prop
 |[],_,H,Q=>Q [] H
 |(tk,tv)::r,σ,H,Q=>tk σ H λx H1=>tv σ H1 λy H2=>X6 r σ H2 λps H3=>Q ((x,y)::ps) H3
abbrev VV:List (V×V)->List (Value×Value)->Prop:=Paired λp q=>zV p.1 q.1/\zV p.2 q.2
def PPs (X:Cx)(pos:Pos)(keys:List (Option Expr))(values:List Expr)(trs:List (TE×TE)):Prop:=
 ∀ (pins:List (Addr×Obj)) (s:Shared) (σ:St) (H:Hp) (Q:List (V×V)->Hp->Prop),Inv X pins σ H s->X6 trs σ H Q ->
  wpAny (model X.prog X.w) X.A (evalPairs (pairTrees keys values X.env pos)) (λvs s'=>∃ ps H',Inv X pins σ H' s'/\VV ps vs/\Q ps H') X.xe s
theorem vP:PPs X pos [] [] []:=λpins s σ H Q I h=>pairTrees_nil_walk ⟨[],H,I,.nil,h⟩
theorem jQ {k v:Expr}{ks:List (Option Expr)}{vs:List Expr}{tk tv:TE}{trs:List (TE×TE)}(hk:PE X k tk)(hv:PE X v tv)(hr:PPs X pos ks vs trs):
  PPs X pos (some k::ks) (v::vs) ((tk,tv)::trs):=λpins s σ H Q I h=>
 pairTrees_cons_walk (thn (hk pins s σ H _ I h) λu s1 ⟨x,H1,I1,rx,q1⟩=>thn (hv pins s1 σ H1 _ I1 q1) λw2 s2 ⟨y,H2,I2,ry,q2⟩=>
  thn (hr pins s2 σ H2 _ I2 q2) λws s3 ⟨ps,H3,I3,rel,q3⟩=>⟨(x,y)::ps,H3,I3,.cons ⟨rx,ry⟩ rel,q3⟩)
def xv (kvs more:List (Key×V)):List (Key×V):=more.foldl (λacc kv=>xT acc kv.1 kv.2) kvs
theorem KV.merge:∀ {more:List (Key×V)} {rs:List (Key×Value)} {kvs:List (Key×V)} {vs:List (Key×Value)},KV more rs->KV kvs vs->KV (xv kvs more) (merged vs rs):=by
 intro more rs kvs vs r
 unfold KV at r
 induction r generalizing kvs vs with
 |nil=>intro q;exact q
 |@cons p q ps qs h t ih=>
  intro r0
  have e:KV (xT kvs p.1 p.2) (stored vs q.1 q.2):=by
   have:=r0.put p.1 h.2
   rw[<-h.1];exact this
  exact ih e
theorem kU:∀ (more kvs:List (Key×V)),(xv kvs more).length<=kvs.length+more.length
 |[],kvs=>by show kvs.length<=kvs.length+0;omega
 |p::r,kvs=>by
  have h1:=kU r (xT kvs p.1 p.2)
  have h2:=vS kvs p.1 p.2
  show(xv (xT kvs p.1 p.2) r).length<=_
  rw[List.length_cons];omega
theorem yS {P:Program}{w:World}:∀ {kvs:List (Key×V)} {ws:List (Value×Value)},VV (kvs.map λkv=>(kV kv.1,kv.2)) ws->∃ rs,Carries (zj P w) ws rs/\KV kvs rs
 |[],_,r=>by rw[List.map_nil] at r;cases r;exact⟨[],True.intro,.nil⟩
 |p::kvs,_,r=>by
  rw[List.map_cons] at r
  cases r with
  |@cons a b as bs h t=>
   obtain⟨rs,c,q⟩:=yS (P:=P) (w:=w) t
   obtain⟨b1,b2⟩:=b
   exact⟨(p.1,b2)::rs,⟨yC h.1,rfl,c⟩,.cons ⟨rfl,h.2⟩ q⟩
def Y6 (trs:List (TE×TE)):TE:=λσ H Q=>∀ p,H p=none->X6 trs σ (upd H p (.dK [])) λps H2=>H2 p=some (.dK [])/\∃ kvs:List (Key×V),ps=kvs.map (λkv=>(kV kv.1,kv.2))/\kvs.length<=15/\Q (.ref p) (upd H2 p (.dK (xv [] kvs)))
theorem vX {keys:List (Option Expr)}{values:List Expr}{trs:List (TE×TE)}(h:PPs X pos keys values trs)(hall:keys.all (·.isSome)=true)(hl:keys.length=values.length)(h0:keys≠[])
  (h15:keys.length<=15):PE X (.Dict keys values pos) (Y6 trs):=by
 intro pins s σ H Q I q
 have hn:=I.hok.fresh (Nat.le_refl s.heap.objs.size)
 have I1:=I.laid (a:=s.heap.objs.size) (o:=.dK []) (h':=s.heap.push { cls:=.type "dict",data:=.dict #[] }) (t':=s.toks) (λ_ _ q=>Heap.get?_push_of_some _ q) (Nat.le_refl _) (JN s.heap I.big)
 refine wpAny_Dict_walk (knd:=zj X.prog X.w) hall hl h0 h15 (thn (h pins _ σ _ _ I1 (q _ hn)) λws s2 ⟨ps,H2,I2,rel,e,kvs,ep,lk,q2⟩=>?_)
 subst ep
 obtain⟨rs,c,rk⟩:=yS (P:=X.prog) (w:=X.w) rel
 obtain⟨z,hd,vs0,r0,dd⟩:=W4 I2.hok e
 cases r0
 refine⟨rs,c,dd,λh' dd' hs=>⟨.ref s.heap.objs.size,_,?_,rfl,q2⟩⟩
 have hz:(xv [] kvs).length<=sizeLine:=by
  have h1:=kU kvs []
  rw[List.length_nil] at h1
  rw[sizeLine_eq];omega
 have he:∃ q,h'.get? s.heap.objs.size=some q:=let ⟨q,_,_,hq,_⟩:=dd';⟨q,hq⟩
 exact QB I2 (by rw[e];exact True.intro) hs he (JF hz hd (rk.merge .nil) dd')
structure M1 (X:Cx)(o:Expr)(m:Str)(apos:Pos)(e:Expr)(cpos:Pos):Prop where
 base:attributeBase o m X.env (eval o X.env)=eval o X.env
 few:((backTo cpos (starEach [e] X.env)).all (λx=>!x.1) && (backToKw cpos (keywordEach [] X.env)).all (λx=>x.1.isSome)
  && decide (([e]:List Expr).length+([]:List Keyword).length+(if ([]:List Keyword).isEmpty then 0 else 1)<30))=true
 line:(apos.endLine == cpos.line)=true
 trees:backTo cpos (starEach [e] X.env)=[(false,eval e X.env)]
structure M2 (X:Cx)(o:Expr)(m:Str)(apos:Pos)(e f:Expr)(cpos:Pos):Prop where
 base:attributeBase o m X.env (eval o X.env)=eval o X.env
 few:((backTo cpos (starEach [e,f] X.env)).all (λx=>!x.1) && (backToKw cpos (keywordEach [] X.env)).all (λx=>x.1.isSome)
  && decide (([e,f]:List Expr).length+([]:List Keyword).length+(if ([]:List Keyword).isEmpty then 0 else 1)<30))=true
 line:(apos.endLine == cpos.line)=true
 trees:backTo cpos (starEach [e,f] X.env)=[(false,eval e X.env),(false,eval f X.env)]
def IsD (H:Hp)(a:Addr):Prop:=(∃ kvs,Rd H a (.dK kvs))\/∃ kvs,Rd H a (.dT kvs)
theorem JC (I:Inv X pins σ H s)(d:IsD H a):
  s.TypeIs (.ref a) "dict"/\(∀ b,Value.ref a=.ref b->∃ ob,s.heap.get? b=some ob/\ob.dict=none)/\(a == sysModules)=false:=by
 rcases d with⟨kvs,e⟩|⟨kvs,e⟩
 ·obtain⟨_,hd,vs,_,dd⟩:=Qe I.hok e
  refine⟨dd.typeIs,λb q=>?_,hd⟩
  cases q
  obtain⟨ob,_,_,h1,h2,_⟩:=dd
  exact⟨ob,h1,h2.2.1⟩
 ·obtain⟨_,hd,xs,_,dd⟩:=ZD I.hok e
  refine⟨dd.typeIs,λb q=>?_,hd⟩
  cases q
  obtain⟨ob,_,_,h1,h2,_⟩:=dd
  exact⟨ob,h1,h2.2.1⟩
section
variable {X:Cx}{pins:List (Addr×Obj)}{σ:St}{H:Hp}{s:Shared}{a:Addr}{y d:V}{u r:Value}{o:Option V}{A:Around}{E:Value->Shared->Prop}
theorem d_get1 (hu:A.units+1<cLine)(I:Inv X pins σ H s)(g:Q1 H a y o)(ry:zV y u)(h:∀ w' s',Inv X pins σ H s'->zV (o.getD .non) w'->Q w' s'):
  wpAny (model X.prog X.w) A (call (.builtin "dict.get") [.ref a,u]) Q E s:=by
 rcases g with⟨kvs,k,e,ey,l⟩|⟨kvs,k,b,e,ey,eb,l⟩
 ·subst ey
  obtain⟨z,hd,vs,rel,dd⟩:=Qe I.hok e
  refine call_meetsIn PySem.F.slot_dict_get dd.typeIs PySem.F.entry_dict_get (PySem.F.args_dict_get_2 _ _) (meets_dict_get (zj X.prog X.w) a (yC ry) hd) ⟨_,dd.mapOf,h _ _ (I.tok _) ?_⟩
  rw[l]
  exact(rel.val k).getD rfl
 ·subst ey
  cases(show u=Value.ref b from ry)
  obtain⟨z,hd,xs,rel,dd⟩:=ZD I.hok e
  refine call_meetsIn PySem.F.slot_dict_get dd.typeIs PySem.F.entry_dict_get (PySem.F.args_dict_get_2 _ _) (meetsH_dict_get (tupleKind (zj X.prog X.w)) a b hd) ⟨tupleKind_room_in1 hu,k,xs,yo I.hok eb,dd,h _ _ (I.tok _) ?_⟩
  rw[l]
  exact(rel.val k).getD rfl
theorem d_get2 (hu:A.units+1<cLine)(I:Inv X pins σ H s)(g:Q1 H a y o)(ry:zV y u)(rd:zV d r)(h:∀ w' s',Inv X pins σ H s'->zV (o.getD d) w'->Q w' s'):
  wpAny (model X.prog X.w) A (call (.builtin "dict.get") [.ref a,u,r]) Q E s:=by
 rcases g with⟨kvs,k,e,ey,l⟩|⟨kvs,k,b,e,ey,eb,l⟩
 ·subst ey
  obtain⟨z,hd,vs,rel,dd⟩:=Qe I.hok e
  refine call_meetsIn PySem.F.slot_dict_get dd.typeIs PySem.F.entry_dict_get (PySem.F.args_dict_get_3 _ _ _) (meets_dict_get_default (zj X.prog X.w) a (yC ry) hd r) ⟨_,dd.mapOf,h _ _ (I.tok _) ?_⟩
  rw[l]
  exact(rel.val k).getD rd
 ·subst ey
  cases(show u=Value.ref b from ry)
  obtain⟨z,hd,xs,rel,dd⟩:=ZD I.hok e
  refine call_meetsIn PySem.F.slot_dict_get dd.typeIs PySem.F.entry_dict_get (PySem.F.args_dict_get_3 _ _ _) (meetsH_dict_get_default (tupleKind (zj X.prog X.w)) a b hd r) ⟨tupleKind_room_in1 hu,k,xs,yo I.hok eb,dd,h _ _ (I.tok _) ?_⟩
  rw[l]
  exact(rel.val k).getD rd
end
def Vd (td ty:TE):TE:=λσ H Q=>td σ H λx H1=>asR x λa=>IsD H1 a/\ty σ H1 λy H2=>∃ o,Q1 H2 a y o/\Q (o.getD .non) H2
def Vk (td ty tx:TE):TE:=λσ H Q=>td σ H λx H1=>∃ a,x=.ref a/\IsD H1 a/\ty σ H1 λy H2=>tx σ H2 λz H3=>∃ o,Q1 H3 a y o/\Q (o.getD z) H3
def Kb (td ty:TE):TE:=λσ H Q=>td σ H λx H1=>∃ a,x=.ref a/\IsD H1 a/\ty σ H1 λy H2=>∃ kvs k v,H2 a=some (.dK kvs)/\y=kV k/\jG kvs k=some v/\Q v (upd H2 a (.dK (xW kvs k)))
def K8 (td ty tx:TE):TE:=λσ H Q=>td σ H λx H1=>asR x λa=>IsD H1 a/\ty σ H1 λy H2=>tx σ H2 λz H3=>∃ kvs k,H3 a=some (.dK kvs)/\y=kV k /\
 (∀ v,jG kvs k=some v->Q v (upd H3 a (.dK (xW kvs k))))/\(jG kvs k=none->Q z H3)
section
variable {X:Cx}{o e f:Expr}{apos cpos:Pos}{td ty tx:TE}
theorem vn (hu:X.A.units+1<cLine)(ho:PE X o td)(he:PE X e ty)(m:M1 X o "get" apos e cpos):PE X (.Call (.Attribute o "get" apos) [e] [] cpos) (Vd td ty):=by
 intro pins s σ H Q I h
 refine wpAny_Call_method m.base m.few m.line PySem.F.plainAttrs_dict PySem.F.slot_dict_get PySem.F.type_dict_get (thn (ho pins s σ H _ I h) λu s1 ⟨x,H1,I1,rx,q0⟩=>?_)
 obtain⟨a,ex,d,q1⟩:=vI q0
 subst ex
 obtain rfl:u=Value.ref a:=rx
 obtain⟨t1,t2,_⟩:=JC I1 d
 refine⟨t1,t2,?_⟩
 rw[m.trees]
 refine Calls.callWith_builtin rfl (Calls.evalArgs_plain (Calls.spliced_cons (thn (he pins s1 σ H1 _ I1 q1) λiv s2 ⟨y,H2,I2,ry,ov,g,q2⟩=>Calls.spliced_nil ?_)))
 exact d_get1 hu I2 g ry λw' s3 I3 rw'=>⟨_,H2,I3,rw',q2⟩
theorem vA (hu:X.A.units+1<cLine)(ho:PE X o td)(he:PE X e ty)(hf:PE X f tx)(m:M2 X o "get" apos e f cpos):PE X (.Call (.Attribute o "get" apos) [e,f] [] cpos) (Vk td ty tx):=by
 intro pins s σ H Q I h
 refine wpAny_Call_method m.base m.few m.line PySem.F.plainAttrs_dict PySem.F.slot_dict_get PySem.F.type_dict_get (thn (ho pins s σ H _ I h) λu s1 ⟨x,H1,I1,rx,a,ex,d,q1⟩=>?_)
 subst ex
 obtain rfl:u=Value.ref a:=rx
 obtain⟨t1,t2,_⟩:=JC I1 d
 refine⟨t1,t2,?_⟩
 rw[m.trees]
 refine Calls.callWith_builtin rfl (Calls.evalArgs_plain (Calls.spliced_cons (thn (he pins s1 σ H1 _ I1 q1) λiv s2 ⟨y,H2,I2,ry,q2⟩=>
  Calls.spliced_cons (thn (hf pins s2 σ H2 _ I2 q2) λfv s3 ⟨z,H3,I3,rz,ov,g,q3⟩=>Calls.spliced_nil ?_))))
 exact d_get2 hu I3 g ry rz λw' s4 I4 rw'=>⟨_,H3,I4,rw',q3⟩
theorem wR (ho:PE X o td)(he:PE X e ty)(m:M1 X o "pop" apos e cpos):PE X (.Call (.Attribute o "pop" apos) [e] [] cpos) (Kb td ty):=by
 intro pins s σ H Q I h
 refine wpAny_Call_method m.base m.few m.line PySem.F.plainAttrs_dict PySem.F.slot_dict_pop PySem.F.type_dict_pop (thn (ho pins s σ H _ I h) λu s1 ⟨x,H1,I1,rx,a,ex,d,q1⟩=>?_)
 subst ex
 obtain rfl:u=Value.ref a:=rx
 obtain⟨t1,t2,_⟩:=JC I1 d
 refine⟨t1,t2,?_⟩
 rw[m.trees]
 refine Calls.callWith_builtin rfl (Calls.evalArgs_plain (Calls.spliced_cons (thn (he pins s1 σ H1 _ I1 q1) λiv s2 ⟨y,H2,I2,ry,kvs,k,v,ea,ey,l,q2⟩=>Calls.spliced_nil ?_)))
 subst ey
 exact d_pop I2 ea ry l (.inl rfl) λw' s3 I3 rw'=>⟨v,_,I3,rw',q2⟩
theorem wO (ho:PE X o td)(he:PE X e ty)(hf:PE X f tx)(m:M2 X o "pop" apos e f cpos):PE X (.Call (.Attribute o "pop" apos) [e,f] [] cpos) (K8 td ty tx):=by
 intro pins s σ H Q I h
 refine wpAny_Call_method m.base m.few m.line PySem.F.plainAttrs_dict PySem.F.slot_dict_pop PySem.F.type_dict_pop (thn (ho pins s σ H _ I h) λu s1 ⟨x,H1,I1,rx,q0⟩=>?_)
 obtain⟨a,ex,d,q1⟩:=vI q0
 subst ex
 obtain rfl:u=Value.ref a:=rx
 obtain⟨t1,t2,_⟩:=JC I1 d
 refine⟨t1,t2,?_⟩
 rw[m.trees]
 refine Calls.callWith_builtin rfl (Calls.evalArgs_plain (Calls.spliced_cons (thn (he pins s1 σ H1 _ I1 q1) λiv s2 ⟨y,H2,I2,ry,q2⟩=>
  Calls.spliced_cons (thn (hf pins s2 σ H2 _ I2 q2) λfv s3 ⟨z,H3,I3,rz,kvs,k,ea,ey,q3,q4⟩=>Calls.spliced_nil ?_))))
 subst ey
 cases l:jG kvs k with
 |some v=>exact d_pop I3 ea ry l (.inr ⟨fv,rfl⟩) λw' s4 I4 rw'=>⟨v,_,I4,rw',q3 v l⟩
 |none=>exact d_popD I3 ea ry l λs4 I4=>⟨z,H3,I4,rz,q4 l⟩
end
section
variable {X:Cx}{pins:List (Addr×Obj)}{σ:St}{H:Hp}{s:Shared}{a:Addr}{kvs:List (Key×V)}{A:Around}{E:Value->Shared->Prop}
theorem Wm (I:Inv X pins σ H s)(e:Rd H a (.dK kvs))(h:∀ p s',H p=none->Inv X pins σ (upd H p (.dK kvs)) s'->Q (.ref p) s'):wpAny (model X.prog X.w) A (call (.type "dict") [.ref a]) Q E s:=by
 obtain⟨z,hd,vs,rel,dd⟩:=Qe I.hok e
 refine kt_call_dict hd dd (by rw[<-rel.length];exact z) λh' dd' hs=>?_
 refine h _ _ (I.hok.fresh (Nat.le_refl _)) (I.laid (a:=s.heap.objs.size) (o:=.dK kvs) (t':=s.toks) (λb q hq=>?_) (Nat.le_refl _) (JF z (beq_eq_false_iff_ne.mpr (Ne.symm (Nat.ne_of_lt I.big))) rel dd'))
 exact(hs.2 b (Nat.ne_of_lt (Heap.lt_size hq))).trans (Heap.get?_push_of_some _ hq)
end
end L2
namespace Att
open PySem PySem.W PySem.Calls PyProof.Rows
theorem yt {P:Params}{h:Heap}:∀ (ns:List Int) (vs:List Value),WellAll P h vs (ns.map WData.int)->IntsAre vs ns:=by
 intro ns
 induction ns with
 |nil=>
  intro vs w
  rw[List.map_nil] at w
  cases w
  exact .nil
 |cons n ns ih=>
  intro vs w
  rw[List.map_cons] at w
  cases w with
  |cons a b=>
   cases a
   exact .cons _ _ (ih _ b)
theorem V6 {l:OpenLaw}{n:Nat}(hn:l.most=some n){P:Params}{h:Heap}{args:List WData}{vals:List Value}
  (hpre:l.row.toRowW.claim.pre args=true) (hwl:WellAll P h vals args):
  ∃ a vs ns,vals=[Value.ref a]/\args=[WData.list (ns.map WData.int)]/\h.get? a=some { cls:=.type "list",data:=.seq vs.toArray }/\IntsAre vs ns/\ns.length<=n:=by
 have hsh:WShape.hasAll [] args [.list .int]=true:=(pre_splitW hpre).1
 have hc:l.pre.holds [] { args:=args }=true:=(pre_splitW hpre).2
 obtain⟨d,r,rfl,h1,h2⟩:=hasAllW_cons hsh
 obtain rfl:=hasAllW_nil h2
 obtain⟨xs,rfl,h3⟩:=hasW_list h1
 obtain⟨ns,rfl⟩:=items_int h3
 have hlen:ns.length<=n:=by
  unfold OpenLaw.pre at hc
  have h4:(WTm.not (.lt (.lit (.int (n:Int))) (.len (.arg 0)))).holds [] { args:=[.list (ns.map .int)] }=true:=by
   have h4:=(holds_andW hc).1
   rw[hn] at h4
   exact h4
  have h5:=condW_of h4 (w_not (w_lt w_lit (w_len_list (w_arg rfl))))
  rw[List.length_map] at h5
  refine Nat.le_of_not_lt λq=>?_
  have q':(n:Int)<((ns.length:Nat):Int):=by omega
  first
   |(rw[decide_eq_true q'] at h5;exact absurd h5 (by decide))
   |(simp at h5;omega)
 cases hwl with
 |cons w1 w2=>
  cases w2
  cases w1 with
  |list ho hall=>exact⟨_,_,ns,rfl,rfl,ho,yt ns _ hall,hlen⟩
theorem Kp (l:OpenLaw)(args:List WData):l.row.toRowW.claim.post args (.bool true) args=true:=
 postW_of (r:=l.row.toRowW) (X:=(true == true))
  (show WShape.has [] (.bool true) .bool=true by first|rfl|decide|simp[WShape.has,WShape.arms,WShape.armsAll])
  (show(WTm.eq .res (.lit (.bool true))).value [] { args:=args,res:=some (.bool true),after:=args }=some (.bool (true == true)) from w_eq_bool (w_res rfl) w_lit) rfl
theorem attach_call {l:OpenLaw}{n:Nat}{q:Program}{loose:List Str}{XP:(Str->Option Value)->Heap->Prop}{YP:World->Heap->Prop}{d:DefRec}
  (hn:l.most=some n) (hdf:d.params.defaults=[])
  (call:∀ (w:World) (s₀ s₁:Shared) (mg mb:Str->Option Value) (fa:Addr) (o:Obj) (pm cd doc:Value) (a:Addr) (vs:List Value) (ns:List Int),
   Ground q loose [] XP w s₀ mg mb s₁.heap->YP w s₁.heap ->
   s₁.heap.get? fa=some o->o.data=.func (docDef d.name d.params d.body d.scope pm cd doc)->s₁.heap.CodeRec cd d.name->mg d.name=some (.ref fa) ->
   s₁.heap.get? a=some { cls:=.type "list",data:=.seq vs.toArray }->IntsAre vs ns->ns.length<=n->s₁.gens=#[] ->
   codeAny (model l.prog w) callerA (.call (.ref fa) ⟨[.ref a],[]⟩) (λr s'=>r=.ok (.ret (.bool true))/\OldK s₁.heap s'.heap/\s'.os=s₁.os/\AllBare s'.gens) s₁):
  WalkO q loose XP YP l.row.toRowW d [] (λf vs=>PySem.call f vs):=by
 intro w s₀ s₁ mg mb G Y fa o pm cd doc dV kV ho hd hcd hD hmg hg args vals as hpre hlay hrd hwl hlo
 obtain rfl:dV=.none:=Dflts.none hD hdf
 obtain rfl:kV=.none:=Dflts.noKw hD
 obtain⟨a,vs,ns,rfl,rfl,hobj,hints,hlen⟩:=V6 hn hpre hwl
 refine enter_call (codeAny_mono (call w s₀ s₁ mg mb fa o pm cd doc a vs ns G Y ho (fd_plain hd) hcd hmg hobj hints hlen hg) λr s' hq=>?_)
 obtain⟨rfl,h2,h3,h4⟩:=hq
 exact⟨.inl ⟨.bool true,.bool true,[],rfl,λ_=>rfl,.bool true,Kp l _,λ_=>⟨List.Pairwise.nil,λ_ hm=>(nomatch hm)⟩⟩,h2,h3,h4⟩
end Att
namespace L2
open PySem PySem.Spec PyProof.Rows
variable {P:Program}{w:World}{K:PySem.W.Frag}{k j i:Nat}{a f C:Addr}{fd:FuncData}{x qual:Str}{sp:Sp}{X:Cx}{st:Stmt}{ps:List Str}{A:Prop}{pos tpos:Pos}{B h1 h' h:Heap}{H H':Hp}{xs:List V}{env:Env}{σ:St}{pins:List (Addr×Obj)}{s:Shared}{fp:List Addr}
theorem ZV:∀ {vs:List Value} {ns:List Int},IntsAre vs ns->zA (ns.map V.int) vs
 |_,_,.nil=>.nil
 |_,_,.cons n t h=>.cons ⟨t,rfl⟩ (ZV h)
def Only (H:Hp):Prop:=∀ b,H b=none\/∃ o xs,H b=some (.frz o (.lst xs))
theorem Wb {mg mb:Str->Option Value}{CX:CXT}{fa:Addr}{s₁:Shared}{vs:List Value}{ns:List Int}
  (KX:K.In s₁.heap) (hns:s₁.heap.Ns mainGlobals mg) (hb:s₁.heap.Ns builtinsNs mb) (hbb:∀ x:Str,x≠"__name__"->mb x=bootBuiltins x) (hlim:s₁.heap.NoLimit) (hg:s₁.gens=#[])
  (ha:s₁.heap.get? a=some { cls:=.type "list",data:=.seq vs.toArray }) (hi:IntsAre vs ns) (hl:ns.length<=sizeLine) (hr:vR k callerA)
  (F:∀ base:Heap,K.In base->base.Ns mainGlobals mg->jA P w K mg base CX k fa fd [x] sp) (hbind:∀ (s:Shared) (u:Value),BindsTo s fd ⟨[u],[]⟩ [(x,u)])
  (hsp:∀ H:Hp,Only H->SqL K H a (ns.map V.int)->sp [.ref a] H (λv _=>v=.bl true) λ_ _ _=>False)
  (hCX:∀ H e s',CX [] H s₁ (λ_ _ _=>False) e s'->False):
  codeAny (model P w) callerA (.call (.ref fa) ⟨[.ref a],[]⟩) (λr s'=>r=.ok (.ret (.bool true))/\OldK s₁.heap s'.heap/\s'.os=s₁.os/\AllBare s'.gens) s₁:=by
 have rv:=ZV hi
 have lenV:=hi.length
 have core:∀ H:Hp,Only H->SqL K H a (ns.map V.int)->HOk P w H s₁.heap->(∀ b,H b≠none->b=a)->(H a≠none->K.lookup a=none) ->
   codeAny (model P w) callerA (.call (.ref fa) ⟨[.ref a],[]⟩) (λr s'=>r=.ok (.ret (.bool true))/\OldK s₁.heap s'.heap/\s'.os=s₁.os/\AllBare s'.gens) s₁:=by
  intro H hO hS hok hA hK
  have base_of:∀ {b:Addr} {o:Obj},s₁.heap.get? b=some o->H b=none->(W5 s₁.heap H).get? b=some o:=λe n=>KZ e n
  have noA:∀ {b:Addr} {o:Obj} {es:Array DictEntry} {ep:Nat},s₁.heap.get? b=some o->o.data=.dict es ep->H b=none:=λ{b o es ep} e d=>by
   cases q:H b with
   |none=>rfl
   |some u=>
    have e':b=a:=hA b (by rw[q];simp)
    subst e'
    rw[ha] at e;cases e
    have d':Data.seq vs.toArray _=Data.dict es ep:=d
    cases d'
  have nsK:∀ {b:Addr} {m:Str->Option Value},s₁.heap.Ns b m->(W5 s₁.heap H).Ns b m:=λ{b m} ⟨o,es,ep,e,d,r⟩=>⟨o,es,ep,base_of e (noA e d),d,r⟩
  have hKb:K.In (W5 s₁.heap H):=λb o e=>base_of (KX b o e) (by
   cases q:H b with
   |none=>rfl
   |some u=>
    have e':b=a:=hA b (by rw[q];simp)
    subst e'
    rw[hK (by rw[q];simp)] at e;cases e)
  have hM:Mod K mg (W5 s₁.heap H):=⟨hKb,nsK hns,⟨mb,nsK hb,hbb⟩,let ⟨mc,h1,h2⟩:=hlim;⟨mc,nsK h1,h2⟩⟩
  have e0:WS P w K mg (W5 s₁.heap H) callerA [] s₁ H:=⟨rfl,hM,λb o e=>YT e,Nat.le_of_eq (Ve _ _),trivial,λb hb=>absurd (show b∈([]:List Addr) from hb) (by simp),hok,.of_eq hg⟩
  refine codeAny_mono ((F _ hKb (nsK hns)).run callerA [] s₁ H ⟨[.ref a],[]⟩ [.ref a] [.ref a] _ _ hr e0 (hbind s₁ (.ref a)) (.cons rfl .nil) (hsp H hO hS)) λr s' h=>?_
  cases r with
  |error e=>exact(hCX H e s' h).elim
  |ok fl=>
   cases fl with
   |next=>exact False.elim h
   |brk=>exact False.elim h
   |cont=>exact False.elim h
   |ret u=>
    obtain⟨v,H',os,bare,un,hok',r',q⟩:=h
    have q':v=.bl true:=q
    subst q'
    obtain rfl:u=Value.bool true:=r'
    refine⟨rfl,OldK.of_keep λb o e=>?_,os,bare⟩
    cases q:H b with
    |none=>exact un.keep b o e q (by intro z;exact absurd (show b∈([]:List Addr) from z) (by simp)) (by simp)
    |some u=>
     rcases hO b with z|⟨ob,xs,z⟩
     ·rw[q] at z;cases z
     ·have z2:=un.frzs b ob _ z
      obtain⟨e1,_⟩:=hok b _ z
      obtain⟨e2,_⟩:=hok' b _ z2
      rw[e] at e1;cases e1
      exact e2
 cases hk:K.lookup a with
 |some o=>
  have e:=KX a o hk
  rw[ha] at e
  cases e
  refine core (λ_=>none) (λ_=>.inl rfl) (.inr ⟨_,vs.toArray,_,hk,rfl,rfl,rfl,by rw[List.size_toArray,lenV];exact hl,by simpa using rv⟩) (λb u z=>by have z':(none:Option HO)=some u:=z;cases z') (λb z=>absurd rfl z) λz=>absurd rfl z
 |none=>
  refine core (λb=>if b=a then some (.frz { cls:=.type "list",data:=.seq vs.toArray } (.lst (ns.map V.int))) else none) (λb=>?_) (.inl (.inr ⟨{ cls:=.type "list",data:=.seq vs.toArray },if_pos rfl⟩)) (λb u z=>?_) (λb z=>?_) λ_=>hk
  ·by_cases hb:b=a
   ·exact .inr ⟨_,_,if_pos hb⟩
   ·exact .inl (if_neg hb)
  ·by_cases hb:b=a
   ·have z':=(if_pos hb).symm.trans z
    cases z'
    subst hb
    exact⟨ha,by rw[List.length_map];exact hl,vs,_,rv,ha⟩
   ·have z':=(if_neg hb).symm.trans z
    cases z'
  ·by_cases hb:b=a
   ·exact hb
   ·exact absurd (if_neg hb) z
theorem Yi {l:PySem.W.OpenLaw}{n:Nat}{q:Program}{loose:List Str}{XP:(Str->Option Value)->Heap->Prop}{YP:World->Heap->Prop}{d:DefRec}{K:Params->PySem.W.Frag}{CX:World->CXT}{sp:World->Sp}
  (hn:l.most=some n) (hn2:n<=sizeLine) (hdf:d.params.defaults=[]) (hr:vR k callerA)
  (hY:∀ (w:World) (h:Heap),YP w h->(K w.params).In h)
  (F:∀ (w:World) (mg:Str->Option Value) (fa:Addr) (h:Heap),(K w.params).In h->h.Ns mainGlobals mg->mg d.name=some (.ref fa) ->
   ∃ fd:FuncData,(∀ (s:Shared) (u:Value),BindsTo s fd ⟨[u],[]⟩ [(x,u)]) /\
    ∀ base:Heap,(K w.params).In base->base.Ns mainGlobals mg->jA l.prog w (K w.params) mg base (CX w) k fa fd [x] (sp w))
  (hsp:∀ (w:World) (H:Hp) (a:Addr) (ns:List Int),ns.length<=n->Only H->SqL (K w.params) H a (ns.map V.int)->sp w [.ref a] H (λv _=>v=.bl true) λ_ _ _=>False)
  (hCX:∀ (w:World) (H:Hp) (s:Shared) (e:Value) (s':Shared),CX w [] H s (λ_ _ _=>False) e s'->False):
  PySem.W.WalkO q loose XP YP l.row.toRowW d [] (λf vs=>PySem.call f vs):=by
 refine Att.attach_call hn hdf λw s₀ s₁ mg mb fa o pm cd doc a vs ns G Y ho hd hcd hmg hobj hints hlen hg=>?_
 have KX:=hY w _ Y
 obtain⟨fd,hb,hF⟩:=F w mg fa _ KX G.T.g hmg
 exact Wb KX G.T.g G.T.b G.T.builtins G.T.nolimit hg hobj hints (Nat.le_trans hlen hn2) hr hF hb (λH hO hS=>hsp w H a ns hlen hO hS) λH e s'=>hCX w H s₁ e s'
def ql (s:Stmt):Arguments:=match s with
 |.FunctionDef _ a _ _ _ _ _ _ _ _=>a
 |_=>{ posonlyargs:=[],args:=[],vararg:=none,kwonlyargs:=[],kw_defaults:=[],kwarg:=none,defaults:=[] }
def qk (s:Stmt):List Stmt:=match s with
 |.FunctionDef _ _ b _ _ _ _ _ _ _=>b
 |_=>[]
def q8 (s:Stmt):Scope:=match s with
 |.FunctionDef _ _ _ _ _ _ sc _ _ _=>sc
 |_=>{ kind:=.function,names:=[],isGenerator:=false,isCoroutine:=false }
abbrev CX0:CXT:=λ_ _ _ _ _ _=>False
abbrev E0:XK:=λ_ _ _=>False
theorem qX:Zb CX0 X E0:=λ_ _ _ _ _ _ _ h=>h.elim
structure Fun (K:PySem.W.Frag)(x qual:Str)(st:Stmt)(f:Addr)(fd:FuncData):Prop where
 ex:∃ (oc:Value) (od:Option Addr) (kV doc pm:Value) (an:Option Addr) (cdv ct:Value) (osl:Array (Option Value)),
  fd=PySem.W.fnOf x qual (ql st) (qk st) (q8 st) .none kV doc pm an cdv ct/\K.lookup f=some ⟨oc,od,.func fd,osl⟩/\PySem.W.codeIn K cdv qual=true
 kp:PySem.W.keepIn K (.ref f)=true
section
variable {P:Program}{w:World}{K:PySem.W.Frag}{mg:Str->Option Value}{base:Heap}
theorem Fun.ok {N:List Str}(F:Fun K x qual st f fd)(S:qE N ps (q8 st))(len:∀ vs H Q E,sp vs H Q E->vs.length=ps.length)
  (hbody:∀ (cdv:Value) (A:Around) (outer:List Env) (s:Shared) (H:Hp) (vs:List V) (Q:VK) (E:XK),vR k (A.deeper (envOfC qual (q8 st) s.heap.objs.size f cdv))->sp vs H Q E ->
   ∃ t,PSs (xO CX0 P w K mg base N qual (q8 st) f cdv A outer s H E).nox (qk st) t/\t { nx:=λ_ H'=>Q .non H',rt:=Q } (wG N vs) H):jA P w K mg base CX0 (k+1) f fd ps sp:=by
 obtain⟨oc,od,kV,doc,pm,an,cdv,ct,osl,rfl,lk,hcd⟩:=F.ex
 refine fn_of lk hcd S len λA outer s H vs Q E hr hsp=>?_
 obtain⟨t,h,q⟩:=hbody cdv A outer s H vs Q E hr hsp
 exact⟨t,h.nox,q⟩
theorem Fun.binds (F:Fun K x qual st f fd)
  (h:∀ (kV doc pm:Value) (an:Option Addr) (cdv ct:Value) (us:List Value),us.length=ps.length->bindArgs (PySem.W.fnOf x qual (ql st) (qk st) (q8 st) .none kV doc pm an cdv ct) ⟨us,[]⟩=pure (ps.zip us)):Qd K fd ps []:=by
 obtain⟨oc,od,kV,doc,pm,an,cdv,ct,osl,rfl,lk,hcd⟩:=F.ex
 exact .all (h kV doc pm an cdv ct)
theorem qt {oc:Value}{od an:Option Addr}{osl:Array (Option Value)}{kV doc pm cdv ct:Value}(l:K.lookup f=some ⟨oc,od,.func (PySem.W.fnOf x qual (ql st) (qk st) (q8 st) .none kV doc pm an cdv ct),osl⟩)
  (c:PySem.W.codeIn K cdv qual=true) (k:PySem.W.keepIn K (.ref f)=true):Fun K x qual st f (PySem.W.fnOf x qual (ql st) (qk st) (q8 st) .none kV doc pm an cdv ct):=⟨⟨oc,od,kV,doc,pm,an,cdv,ct,osl,rfl,l,c⟩,k⟩
end
theorem yF {A:Around}(hr:vR k A):A.units+1<cLine:=Nat.lt_of_le_of_lt (Nat.add_le_add_left (by decide:1<=64) _) hr.units
section
variable {X:Cx}
theorem pv (i:Nat)(hN:X.N[i]?=some x:=by rfl)(hv:Vis X.env.scope x:=by first|exact Or.inl rfl|exact Or.inr (Or.inl rfl)|exact Or.inr (Or.inr rfl))(hd:(x == ("__debug__":Str))=false:=by decide)
  (hcd:(x == ("__classdict__":Str))=false:=by decide):PE X (.Name x pos) (vG i):=WD hN hv hd hcd
end
theorem iteF {B:Prop}(h:B):if false=true then A else B:=by
 rw[if_neg Bool.false_ne_true]
 exact h
theorem iteT {B:Prop}(h:A):if true=true then A else B:=by
 rw[if_pos rfl]
 exact h
theorem xN {c B:Prop}[Decidable c](h1:c->A)(h2:¬ c->B):if c then A else B:=by
 by_cases h:c
 ·rw[if_pos h]
  exact h1 h
 ·rw[if_neg h]
  exact h2 h
def qq (H H':Hp):Prop:=∀ b o,H b=some o->H' b=some o
theorem qq.refl (H:Hp):qq H H:=λ_ _ h=>h
theorem qq.trans {H1 H2:Hp}(a:qq H H1)(b:qq H1 H2):qq H H2:=λc o h=>b c o (a c o h)
theorem qq.free (e:qq H H'){l:Addr}(h:H' l=Option.none):H l=Option.none:=by
 cases q:H l with
 |none=>rfl
 |some o=>
  rw[e l o q] at h
  cases h
theorem qq.seq (e:qq H H')(h:SqL K H a xs):SqL K H' a xs:=by
 rcases h with(h|⟨o,h⟩)|h
 ·exact .inl (.inl (e _ _ h))
 ·exact .inl (.inr ⟨o,e _ _ h⟩)
 ·exact .inr h
section
variable {κ:Type}[DecidableEq κ]
theorem Wf {kvs:List (κ×V)}{k:κ}(h:jG kvs k=none):¬ k∈kvs.map (·.1):=by
 intro m
 obtain⟨p,hp,e⟩:=List.mem_map.mp m
 have q:(kvs.any λkv=>decide (kv.1=k))=true:=List.any_eq_true.mpr ⟨p,hp,decide_eq_true e⟩
 rw[xh,h] at q
 exact absurd q (by simp)
theorem wX {kvs:List (κ×V)}{k:κ}{v:V}(h:jG kvs k=some v):k∈kvs.map (·.1):=by
 have q:(kvs.any λkv=>decide (kv.1=k))=true:=by
  rw[xh,h]
  all_goals rfl
 obtain⟨p,hp,e⟩:=List.any_eq_true.mp q
 exact List.mem_map.mpr ⟨p,hp,of_decide_eq_true e⟩
theorem Ky:∀ {l:List κ} {k:κ},l.Nodup->¬ k∈l->(l++[k]).Nodup
 |[],k,_,_=>by simp
 |a::r,k,h,hk=>by
  obtain⟨h1,h2⟩:=List.nodup_cons.mp h
  show(a::(r++[k])).Nodup
  refine List.nodup_cons.mpr ⟨λm=>?_,Ky h2 λm=>hk (List.mem_cons.mpr (Or.inr m))⟩
  rcases List.mem_append.mp m with q|q
  ·exact h1 q
  ·exact hk (List.mem_cons.mpr (Or.inl (List.mem_singleton.mp q).symm))
theorem QQ {kvs:List (κ×V)}{k:κ}(v:V)(hn:(kvs.map (·.1)).Nodup)(h:jG kvs k=none):((xT kvs k v).map (·.1)).Nodup:=by
 rw[KO v h,List.map_append]
 exact Ky hn (Wf h)
theorem ZS {p:κ×V}{r:List (κ×V)}{k:κ}(e:p.1=k):xW (p::r) k=xW r k:=by
 unfold xW
 rw[List.filter_cons,if_neg (by simp[e])]
theorem ZI {p:κ×V}{r:List (κ×V)}{k:κ}(e:¬ p.1=k):xW (p::r) k=p::xW r k:=by
 unfold xW
 rw[List.filter_cons,if_pos (by simp[e])]
theorem ye {kvs:List (κ×V)}{k:κ}{p:κ×V}(h:p∈xW kvs k):p∈kvs:=(List.mem_filter.mp h).1
theorem Qj:∀ {kvs:List (κ×V)} {k:κ},(kvs.map (·.1)).Nodup->((xW kvs k).map (·.1)).Nodup
 |[],_,_=>List.nodup_nil
 |p::r,k,h=>by
  have h:(p.1::r.map (·.1)).Nodup:=h
  obtain⟨h1,h2⟩:=List.nodup_cons.mp h
  by_cases e:p.1=k
  ·rw[ZS e]
   exact Qj h2
  ·rw[ZI e]
   show(p.1::(xW r k).map (·.1)).Nodup
   refine List.nodup_cons.mpr ⟨λm=>h1 ?_,Qj h2⟩
   obtain⟨q,hq,eq⟩:=List.mem_map.mp m
   exact List.mem_map.mpr ⟨q,ye hq,eq⟩
end
def yW (env:Env):List (Str×NameKind)->List (Str×Addr)->List (Str×Addr)
 |[],acc=>acc
 |(n,k)::r,acc=>if k == .free then(match env.cells.lookup n with
  |some c=>yW env r ((n,c)::acc)
  |none=>yW env r acc) else yW env r acc
theorem ZQ {env:Env}:∀ (names:List (Str×NameKind)) (acc:List (Str×Addr)),(∀ x∈names,x.2=.free->∃ c,env.cells.lookup x.1=some c) ->
  (forIn names acc λx cs=>if (x.2 == NameKind.free)=true then(do let c <- cellOf env x.1;pure (ForInStep.yield ((x.1,c)::cs))) else pure (ForInStep.yield cs):Sem (List (Str×Addr)))=pure (yW env names acc)
 |[],acc,_=>rfl
 |(n,k)::r,acc,h=>by
  rw[List.forIn_cons]
  have hr:=λacc'=>ZQ r acc' λx hx=>h x (List.mem_cons_of_mem _ hx)
  by_cases hk:k=.free
  ·subst hk
   obtain⟨c,e⟩:=h (n,.free) List.mem_cons_self rfl
   have e':env.cells.lookup n=some c:=e
   have ec:cellOf env n=pure c:=by
    unfold cellOf
    rw[e']
   simp only[beq_self_eq_true,if_true]
   rw[ec]
   show(forIn r ((n,c)::acc) _:Sem (List (Str×Addr)))=_
   rw[hr]
   simp only[yW,beq_self_eq_true,if_true,e']
  ·have hb:(k == NameKind.free)=false:=by simpa using hk
   simp only[hb,Bool.false_eq_true,if_false]
   show(forIn r acc _:Sem (List (Str×Addr)))=_
   rw[hr]
   simp only[yW,hb,Bool.false_eq_true,if_false]
theorem kA {scope:Scope}(h:∀ x∈scope.names,x.2=.free->∃ c,env.cells.lookup x.1=some c):closureFor scope env=pure (yW env scope.names []):=by
 have e:=ZQ scope.names [] h
 unfold closureFor
 have e2:∀ (t:Sem (List (Str×Addr))),t=pure (yW env scope.names [])->(t >>= λr=>pure r)=pure (yW env scope.names []):=λt ht=>by rw[ht];rfl
 refine e2 _ ?_
 exact e
theorem vv {env:Env}:∀ {names:List (Str×NameKind)} {acc:List (Str×Addr)},(∀ x c,acc.lookup x=some c->env.cells.lookup x=some c)->∀ x c,(yW env names acc).lookup x=some c->env.cells.lookup x=some c
 |[],_,h=>h
 |(n,k)::r,acc,h=>by
  unfold yW
  split
  ·split
   ·rename_i c e
    refine vv λx c' hx=>?_
    rw[List.lookup_cons] at hx
    split at hx
    ·rename_i hb
     rw[beq_iff_eq.mp hb,e]
     exact hx
    ·exact h x c' hx
   ·exact vv h
  ·exact vv h
theorem kj {env:Env}:∀ {names:List (Str×NameKind)} {acc:List (Str×Addr)} {x:Str},(∃ c,acc.lookup x=some c)->∃ c,(yW env names acc).lookup x=some c
 |[],_,_,h=>h
 |(n,k)::r,acc,x,h=>by
  unfold yW
  split
  ·split
   ·refine kj ?_
    rw[List.lookup_cons]
    split
    ·exact⟨_,rfl⟩
    ·exact h
   ·exact kj h
  ·exact kj h
theorem ki {env:Env}:∀ {names:List (Str×NameKind)} {acc:List (Str×Addr)} {x:Str},(x,NameKind.free)∈names->(∃ c,env.cells.lookup x=some c)->∃ c,(yW env names acc).lookup x=some c
 |(n,k)::r,acc,x,hm,hc=>by
  unfold yW
  rcases List.mem_cons.mp hm with e|hm
  ·injection e with e1 e2
   subst e1 e2
   obtain⟨c,e⟩:=hc
   simp only[beq_self_eq_true,if_true,e]
   exact kj ⟨c,by rw[List.lookup_cons];simp⟩
  ·split
   ·split
    ·exact ki hm hc
    ·exact ki hm hc
   ·exact ki hm hc
def jh (X:Cx)(N:List Str)(scope:Scope)(C:Addr)(fp:List Addr)(s:Shared)(H:Hp):Cx where
 prog:=X.prog
 w:=X.w
 K:=X.K
 mg:=X.mg
 base:=X.base
 A:=X.A
 N:=N
 s₀:=s
 H₀:=H
 env:=compEnvC scope (yW X.env scope.names []) C X.env
 outer:=X.stack
 stack:=X.stack
 ex:=fp
 fn:=λ_=>false
 calm:=X.calm
 pn:=[]
 xe:=λ_ _=>False
def vL (on:List Str)(names:List (Str×NameKind)):List (Option Nat)->List Str->Bool
 |[],[]=>true
 |c::cs,n::ns=>(match c with
  |none=>true
  |some i=>on[i]? == some n && names.all (λy=>y.1 != n || y.2 == .free) && names.any (λy=>y.1 == n)) && vL on names cs ns
 |_,_=>false
theorem w4 {on:List Str}{names:List (Str×NameKind)}:∀ {cap:List (Option Nat)} {N:List Str},vL on names cap N=true->cap.length=N.length
 |[],[],_=>rfl
 |[],_::_,h=>by cases h
 |_::_,[],h=>by cases h
 |c::cs,n::ns,h=>by
  unfold vL at h
  rw[Bool.and_eq_true] at h
  rw[List.length_cons,List.length_cons,w4 h.2]
theorem kZ {on:List Str}{names:List (Str×NameKind)}:∀ {cap:List (Option Nat)} {N:List Str} {j i:Nat} {x:Str},vL on names cap N=true->cap[j]?=some (some i)->N[j]?=some x ->
  on[i]?=some x/\(∀ y∈names,y.1=x->y.2=.free)/\(x,NameKind.free)∈names
 |[],_,_,_,_,_,h,_=>by simp at h
 |_::_,[],_,_,_,_,_,h=>by simp at h
 |c::cs,n::ns,0,i,x,h,h1,h2=>by
  simp at h1 h2
  subst h1 h2
  unfold vL at h
  simp only[Bool.and_eq_true,beq_iff_eq,List.all_eq_true,List.any_eq_true] at h
  obtain⟨⟨⟨a,b⟩,y,hy,e⟩,_⟩:=h
  have fr:∀ y∈names,y.1=n->y.2=.free:=λy hy e=>by
   have q:=b y hy
   simp only[Bool.or_eq_true,bne_iff_ne,ne_eq,beq_iff_eq] at q
   rcases q with q|q
   ·exact absurd e q
   ·exact q
  refine⟨a,fr,?_⟩
  have q:=fr y hy e
  obtain⟨y1,y2⟩:=y
  dsimp only at q e
  subst q e
  exact hy
 |c::cs,n::ns,j+1,i,x,h,h1,h2=>by
  unfold vL at h
  rw[Bool.and_eq_true] at h
  exact kZ h.2 (by simpa using h1) (by simpa using h2)
def WE (N:List Str)(cap:List (Option Nat))(scope osc:Scope)(on:List Str):Bool:=
 (scope.kind == .function) && scope.names.all (λy=>y.2 != .cell) && scope.names.all (λy=>y.2 != .free || osc.names.lookup y.1 == some .cell) && scope.names.all (λy=>y.2 != .local || scope.names.lookup y.1 == some .local) && decide N.Nodup && vL on scope.names cap N
structure zo (X:Cx)(N:List Str)(cap:List (Option Nat))(scope osc:Scope)(on:List Str):Prop where
 hosc:X.env.scope=osc
 hon:X.N=on
 ok:WE N cap scope osc on=true
section
variable {X:Cx}{N:List Str}{cap:List (Option Nat)}{scope osc:Scope}{on:List Str}(S:zo X N cap scope osc on)
include S
theorem zo.parts:scope.kind=.function/\(∀ y∈scope.names,y.2≠.cell)/\(∀ y∈scope.names,y.2=.free->osc.names.lookup y.1=some .cell)/\(∀ y∈scope.names,y.2=.local->scope.names.lookup y.1=some .local)/\N.Nodup/\vL on scope.names cap N=true:=by
 have h:=S.ok
 unfold WE at h
 simp only[Bool.and_eq_true,beq_iff_eq,List.all_eq_true,decide_eq_true_eq,Bool.or_eq_true,bne_iff_ne,ne_eq] at h
 obtain⟨⟨⟨⟨⟨a,b⟩,c⟩,d⟩,e⟩,f⟩:=h
 exact⟨a,b,λy hy q=>(c y hy).resolve_left λz=>z q,λy hy q=>(d y hy).resolve_left λz=>z q,e,f⟩
theorem zo.kind:scope.kind=.function:=S.parts.1
theorem zo.nocell:∀ y∈scope.names,y.2≠.cell:=S.parts.2.1
theorem zo.free:∀ y∈scope.names,y.2=.free->osc.names.lookup y.1=some .cell:=S.parts.2.2.1
theorem zo.loc:∀ y∈scope.names,y.2=.local->scope.names.lookup y.1=some .local:=S.parts.2.2.2.1
theorem zo.nd:N.Nodup:=S.parts.2.2.2.2.1
theorem zo.clen:cap.length=N.length:=w4 S.parts.2.2.2.2.2
theorem zo.caps (h1:cap[j]?=some (some i))(h2:N[j]?=some x):X.N[i]?=some x/\(∀ y∈scope.names,y.1=x->y.2=.free)/\(x,NameKind.free)∈scope.names:=by
 rw[S.hon]
 exact kZ S.parts.2.2.2.2.2 h1 h2
end
def yD (cap:List (Option Nat))(σ:St):St:=cap.map λo=>o.bind λi=>(σ[i]?).bind id
theorem Kg {cap:List (Option Nat)}{v:V}(h:(yD cap σ)[j]?=some (some v)):∃ i,cap[j]?=some (some i)/\σ[i]?=some (some v):=by
 unfold yD at h
 rw[List.getElem?_map] at h
 cases e:cap[j]? with
 |none=>rw[e] at h;cases h
 |some o=>
  rw[e] at h
  cases o with
  |none=>cases h
  |some i=>
   refine⟨i,rfl,?_⟩
   have h':(σ[i]?).bind id=some v:=Option.some.inj h
   cases q:σ[i]? with
   |none=>rw[q] at h';cases h'
   |some u=>
    rw[q] at h'
    have h2:u=some v:=h'
    rw[h2]
theorem wn {env:Env}{x:Str}(hk:env.scope.kind=.function)(hx:env.kindOf x=some .cell):∀ {names:List (Str×NameKind)},(∀ y∈names,y.1=x->y.2=.free)->(x,NameKind.free)∈names ->
  (names.map λ(n,k)=>if (k == NameKind.free && env.scope.kind == .function && env.kindOf n == some .cell) then(n,NameKind.cell) else(n,k)).lookup x=some .cell
 |[],_,h=>by cases h
 |(n,k)::r,hu,h=>by
  rw[List.map_cons,List.lookup_cons]
  by_cases hn:n=x
  ·subst hn
   have e:k=.free:=hu (n,k) List.mem_cons_self rfl
   subst e
   simp[hk,hx]
  ·have hb:(x == n)=false:=beq_eq_false_iff_ne.mpr (Ne.symm hn)
   have hm:(x,NameKind.free)∈r:=by
    rcases List.mem_cons.mp h with e|h
    ·injection e with e1 _
     exact absurd e1.symm hn
    ·exact h
   have ih:=wn hk hx (names:=r) (λy hy=>hu y (List.mem_cons_of_mem _ hy)) hm
   dsimp only
   by_cases hc:(k == NameKind.free && env.scope.kind == .function && env.kindOf n == some .cell)=true
   ·rw[if_pos hc]
    simp only[hb]
    exact ih
   ·rw[if_neg hc]
    simp only[hb]
    exact ih
section
variable {X:Cx}{N:List Str}{cap:List (Option Nat)}{scope osc:Scope}{on:List Str}
theorem Kx (S:zo X N cap scope osc on)(I:Inv X pins σ H s)(hf:∀ b∈fp,ZX X pins H b)(hfl:∀ b∈fp,b<s.heap.objs.size)(hC:s.heap.objs.size<=C):
  (jh X N scope C fp s H).Ok:=by
 have sub:∀ x c,(yW X.env scope.names []).lookup x=some c->X.env.cells.lookup x=some c:=vv (λx c h=>by simp at h)
 have free':∀ y,(y,NameKind.free)∈scope.names->X.env.kindOf y=some .cell:=λy hy=>by
  show X.env.scope.names.lookup y=_
  rw[S.hosc]
  exact S.free (y,.free) hy rfl
 refine⟨I.ok.mod,S.kind,I.ok.glob,I.ok.blt,hC,λx y c h1 h2=>I.ok.inj x y c (sub _ _ h1) (sub _ _ h2),λx hx=>?_,λx c h _=>absurd h Bool.false_ne_true,I.ok.hd,I.ok.frames,.inl rfl,λb hb=>⟨?_,λx c h=>(hf b hb).2.2.2.2.1 x c (sub _ _ h)⟩,
  I.bs,Nat.le_trans I.ok.bsz I.sz,λb o e hb=>?_,λb hb z=>?_,I.stack,I.stkFree⟩
 ·-- a name of kind cell or free has its cell
  have key:∀ (names:List (Str×NameKind)),(∀ y∈names,y∈scope.names)->(List.lookup x (names.map λ(n,k)=>if (k == NameKind.free && X.env.scope.kind == .function && X.env.kindOf n == some .cell) then(n,NameKind.cell) else(n,k))=some .cell \/
    List.lookup x (names.map λ(n,k)=>if (k == NameKind.free && X.env.scope.kind == .function && X.env.kindOf n == some .cell) then(n,NameKind.cell) else(n,k))=some .free)->(x,NameKind.free)∈scope.names:=by
   intro names
   induction names with
   |nil=>intro _ h;simp at h
   |cons y r ih=>
    obtain⟨n,k⟩:=y
    intro hs h
    rw[List.map_cons,List.lookup_cons] at h
    dsimp only at h
    by_cases hc:(k == NameKind.free && X.env.scope.kind == .function && X.env.kindOf n == some .cell)=true
    ·rw[if_pos hc] at h
     have hk:k=.free:=by
      simp only[Bool.and_eq_true,beq_iff_eq] at hc
      exact hc.1.1
     by_cases hn:x=n
     ·subst hn hk
      exact hs _ List.mem_cons_self
     ·have hb:(x == n)=false:=beq_eq_false_iff_ne.mpr hn
      simp only[hb] at h
      exact ih (λy hy=>hs y (List.mem_cons_of_mem _ hy)) h
    ·rw[if_neg hc] at h
     by_cases hn:x=n
     ·subst hn
      simp only[beq_self_eq_true,Option.some.injEq] at h
      rcases h with h|h
      ·exact absurd h (S.nocell _ (hs _ List.mem_cons_self))
      ·subst h
       exact hs _ List.mem_cons_self
     ·have hb:(x == n)=false:=beq_eq_false_iff_ne.mpr hn
      simp only[hb] at h
      exact ih (λy hy=>hs y (List.mem_cons_of_mem _ hy)) h
  have hm:=key scope.names (λ_ h=>h) hx
  exact ki hm (I.ok.has x (.inl (free' x hm)))
 ·exact Nat.ne_of_lt (Nat.lt_of_lt_of_le (hfl b hb) hC)
 ·have h4:=(hf b hb).2.2.2.1
  rcases h4 with h4|h4
  ·exact I.ok.noex b o e h4
  ·exact absurd (Heap.lt_size (I.ok.bs b o e).1) (Nat.not_lt.mpr h4)
 ·rcases List.mem_cons.mp (I.stkSub b z) with q|q
  ·exact(hf b hb).2.1 q
  ·exact(hf b hb).2.2.1 q
theorem Xt {t1:Nat}(S:zo X N cap scope osc on)(I:Inv X pins σ H s)(hf:∀ b∈fp,ZX X pins H b)(hfl:∀ b∈fp,b<s.heap.objs.size)
  (hns:h1.Ns (s.heap.objs.size+1) (λ_=>none)) (hacc:h1.get? s.heap.objs.size=some { cls:=.type "list",dict:=none,data:=.seq ([]:List Value).toArray })
  (old:∀ b o,s.heap.get? b=some o->h1.get? b=some o):
  Inv (jh X N scope (s.heap.objs.size+1) fp s H) [] (yD cap σ) (upd H s.heap.objs.size (.lst [])) { s with heap:=h1,toks:=t1 }:=by
 have sub:∀ x c,(yW X.env scope.names []).lookup x=some c->X.env.cells.lookup x=some c:=vv (λx c h=>by simp at h)
 have hfr:H s.heap.objs.size=none:=I.hok.fresh (Nat.le_refl _)
 have cof:∀ x c,X.env.cells.lookup x=some c->c≠s.heap.objs.size:=λx c h=>by
  obtain⟨v,o,e,_⟩:=I.cell x c h
  exact Nat.ne_of_lt (Heap.lt_size e)
 refine⟨Kx S I hf hfl (Nat.le_succ _),rfl,I.bare,Un.laid old (Nat.le_refl _) hfr,⟨_,hns,λj x v hj hv vis=>?_⟩,λx c h=>?_,?_,λx c h=>?_,λp hp=>absurd (show p∈([]:List (Addr×Obj)) from hp) (by simp),?_,?_⟩
 ·obtain⟨i,hc,hσ⟩:=Kg hv
  obtain⟨hi,hu,hm⟩:=S.caps hc hj
  have hk:X.env.kindOf x=some .cell:=by
   show X.env.scope.names.lookup x=_
   rw[S.hosc]
   exact S.free (x,.free) hm rfl
  obtain⟨m,_,hl⟩:=I.loc
  obtain⟨u,ru,lk⟩:=hl i x v hi hσ (.inr (.inl hk))
  refine⟨u,ru,.inr ⟨?_,?_⟩⟩
  ·refine .inl ?_
   show(relabel scope X.env).names.lookup x=_
   exact wn I.ok.kind hk hu hm
  ·obtain⟨c,hc'⟩:=ki (env:=X.env) (acc:=[]) hm (I.ok.has x (.inl hk))
   refine⟨c,hc',?_⟩
   rcases lk with⟨k2,_⟩|⟨_,c2,e2,z2⟩
   ·rw[hk] at k2
    cases k2
   ·have e3:=sub x c hc'
    rw[e2] at e3
    cases e3
    obtain⟨o,eo,d⟩:=z2
    exact⟨o,old _ _ eo,d⟩
 ·obtain⟨v,o,e,d⟩:=I.cell x c (sub x c h)
  exact⟨v,o,old _ _ e,d⟩
 ·show upd H s.heap.objs.size (.lst []) (s.heap.objs.size+1)=none
  rw[qp (Nat.ne_of_gt (Nat.lt_succ_self _))]
  exact I.hok.fresh (Nat.le_succ _)
 ·show upd H s.heap.objs.size (.lst []) c=none
  rw[qp (cof x c (sub x c h))]
  exact I.freeC x c (sub x c h)
 ·exact I.hok.laid old (Nat.le_refl _) ⟨Nat.zero_le _,[],0,.nil,hacc⟩
 ·show(yD cap σ).length=N.length
  unfold yD
  rw[List.length_map,S.clen]
end
theorem vF {prog:Program}{A:Around}{R:Result->Shared->Prop}{elt target iter:Expr}{ifs:List Expr}{scope:Scope}{it acc:Value}(I:Nat->Shared->Prop)
  (turn:∀ n s,I n s->wpAny (model prog w) A (pyNext it) (λr s₁=>match r with
   |none=>R (.ok .next) s₁
   |some v=>wpAny (model prog w) A (letOwnedTupleGo target it v) (λ_ s₁'=>wpAny (model prog w) A (assign target env v) (λ_ s₂=>
     wpAny (model prog w) A (forIn ifs true λc r=>if r=true then do let ok <- isTrue c env (eval c env);pure (ForInStep.yield ok) else pure (ForInStep.yield r)) (λok s₃=>
      if ok=true then wpAny (model prog w) A (eval elt env) (λx s₄=>
       wpAny (model prog w) A (call (.builtin "list.append") [acc,x]) (λ_ s₅=>∃ m,m<n/\I m s₅) (λ_ _=>False) s₄) (λ_ _=>False) s₃
      else ∃ m,m<n/\I m s₃) (λ_ _=>False) s₂) (λ_ _=>False) s₁') (λ_ _=>False) s₁) (λ_ _=>False) s)
  (n:Nat) (h:I n s):
  codeAny (model prog w) A (.compLoop (.ListComp elt [⟨target,iter,ifs,0⟩] scope pos) 0 it acc env) R s:=by
 refine codeAny_loop rfl I (λn s hI=>?_) n h
 show wpAny _ A ((compTurn (.ListComp elt [⟨target,iter,ifs,0⟩] scope pos) 0 it acc env).onRaise (λx=>do noteFrame x env;theTreesLotGoes x)) _ _ s
 refine wpAny_noted (wpAny_noRaise ?_)
 rw[compTurn_list]
 refine wpAny_bind (wpAny_standAt (wpAny_bind (wpAny_mono (turn n s hI) (λr s₁ h₁=>?_) λ_ _ h'=>h')))
 cases r with
 |none=>exact wpAny_pure h₁
 |some v=>
  refine wpAny_bind (wpAny_mono h₁ (λ_ s₁' h₁'=>?_) λ_ _ h'=>h')
  refine wpAny_bind (wpAny_mono h₁' (λ_ s₂ h₂=>wpAny_bind (wpAny_mono h₂ (λok s₃ h₃=>?_) λ_ _ h'=>h')) λ_ _ h'=>h')
  cases ok with
  |false=>exact wpAny_pure ⟨rfl,h₃⟩
  |true=>
   exact wpAny_bind (wpAny_bind (wpAny_mono h₃ (λx s₄ h₄=>wpAny_bind (wpAny_mono h₄ (λ_ s₅ h₅=>wpAny_pure (wpAny_pure ⟨rfl,h₅⟩)) λ_ _ h'=>h')) λ_ _ h'=>h'))
def ZW (X:Cx)(ifs:List Expr)(t:TT):Prop:=
 ∀ (pins:List (Addr×Obj)) (s:Shared) (σ:St) (H:Hp) (Q:Bool->Hp->Prop),Inv X pins σ H s->t σ H Q ->
  wpAny (model X.prog X.w) X.A (forIn ifs true λc r=>if r=true then do let ok <- isTrue c X.env (eval c X.env);pure (ForInStep.yield ok) else pure (ForInStep.yield r)) (TP X pins σ Q) X.xe s
def Z9:TT:=λ_ H Q=>Q true H
theorem jf:ZW X [] Z9:=λpins s σ H Q I h=>wpAny_tests_nil ⟨H,I,h⟩
theorem xq {c:Expr}{t:TT}(h:PT X c t):ZW X [c] t:=λpins s σ H Q I q=>wpAny_tests_one (h pins s σ H Q I q)
theorem Z3 {σ':St}{s':Shared}(I:Inv X pins σ H s)(I':Inv X pins σ' H' s')(hC0:s.heap.objs.size<=C)(hC:H' C=none)(hs:Heap.SameBut C s'.heap h'):
  Inv X pins σ' H' { s' with heap:=h' }:=
 I'.turned (t':=s'.toks) (it:=C) (λb o hb e=>hs.extBut b o hb e) hC (Nat.ne_of_gt (Nat.lt_of_lt_of_le I.lt hC0)) (.inr (Nat.le_trans I.sz hC0))
  (λx c e=>by
   obtain⟨v,o,q,_⟩:=I.cell x c e
   exact Nat.ne_of_lt (Nat.lt_of_lt_of_le (Heap.lt_size q) hC0))
  (λp hp=>Nat.ne_of_lt (Nat.lt_of_lt_of_le (Heap.lt_size (I.pin p hp).1) hC0))
def Kl (cap:List (Option Nat))(wi:TI)(g:TG)(tif:TT)(te:TE):TE:=λσ H Q=>wi σ H λJ H1=>∀ p,H1 p=none->∃ W:Nat->Nat->St->Hp->Prop,(∃ m,W 0 m (yD cap σ) (upd H1 p (.lst [])))/\∀ i m σ H,W i m σ H ->
 (J.stop i H/\Q (.ref p) H)\/(J.go i H/\∃ N:St->Hp->Prop,(∀ σ' H',N σ' H'->∃ m',m'<m/\W (i+1) m' σ' H')/\∀ x H',J.yld i H x H'->g x σ H' λσ2 H2=>tif σ2 H2 λb H3=>
  if b=true then te σ2 H3 λy H4=>∃ xs,H4 p=some (.lst xs)/\xs.length<sizeLine/\N σ2 (upd H4 p (.lst (xs++[y]))) else N σ2 H3)
section
variable {X:Cx}{N:List Str}{cap:List (Option Nat)}{scope osc:Scope}{on:List Str}{tg elt iter:Expr}{ifs:List Expr}{pos:Pos}{wi:TI}{g:TG}{tif:TT}{te:TE}
theorem Q3 {Q:VK}{it:Addr}{tn:Nat->Heap->Prop}{J:It}{E:Value->Shared->Prop}{RR:Value->Addr->Result->Shared->Prop}
  (S:zo X N cap scope osc on) (hc:X.calm=true) (I:Inv X pins σ H s) (T:KB X.prog X.w X.K tg J fp it tn) (st:tn 0 s.heap) (hf:∀ b∈fp,ZX X pins H b)
  (hg:∀ C fp s H,PG (jh X N scope C fp s H) tg g) (hi:∀ C fp s H,ZW (jh X N scope C fp s H) ifs tif) (he:∀ C fp s H,PE (jh X N scope C fp s H) elt te)
  (h:∀ p,H p=none->∃ W:Nat->Nat->St->Hp->Prop,(∃ m,W 0 m (yD cap σ) (upd H p (.lst [])))/\∀ i m σ H,W i m σ H ->
   (J.stop i H/\Q (.ref p) H)\/(J.go i H/\∃ N:St->Hp->Prop,(∀ σ' H',N σ' H'->∃ m',m'<m/\W (i+1) m' σ' H')/\∀ x H',J.yld i H x H'->g x σ H' λσ2 H2=>tif σ2 H2 λb H3=>
    if b=true then te σ2 H3 λy H4=>∃ xs,H4 p=some (.lst xs)/\xs.length<sizeLine/\N σ2 (upd H4 p (.lst (xs++[y]))) else N σ2 H3))
  (hRR:∀ (p C:Addr) (H':Hp) (s':Shared),(∃ m,s'.heap.Ns C m)->s.heap.objs.size<=C->H' C=none->p≠C->Inv X pins σ H' s'->Q (.ref p) H'->RR (.ref p) C (.ok .next) s'):
  wpAny (model X.prog X.w) X.A (newList []) (λacc s₃=>wpAny (model X.prog X.w) X.A (newFunctionEnv scope X.env.globals (yW X.env scope.names []) [] X.env.qual none .none (some X.env)) (λcenv s₄=>
   codeAny (model X.prog X.w) X.A (.compStart (.ListComp elt [⟨tg,iter,ifs,0⟩] scope pos) 0 (.ref it) acc { cenv with scope:=relabel scope X.env }) (RR acc cenv.locals) s₄) E s₃) E s:=by
 have hfl:∀ b∈fp,b<s.heap.objs.size:=λb hb=>by
  obtain⟨o,e,_⟩:=T.obj 0 _ st b hb
  exact Heap.lt_size e
 obtain⟨W,⟨m0,w0⟩,turn⟩:=h s.heap.objs.size (I.hok.fresh (Nat.le_refl _))
 refine wpAny_newObj_type (wpAny_newFunctionEnv S.nocell (by intro y hy;simp at hy) (λh₁ hns₁ hsb₁=>?_) S.kind)
 dsimp only at hns₁ hsb₁ ⊢
 have hC:(s.heap.push { cls:=.type "list",dict:=none,data:=.seq ([]:List Value).toArray }).objs.size=s.heap.objs.size+1:=Heap.size_push ..
 rw[hC] at hns₁ hsb₁ ⊢
 have old:∀ b o,s.heap.get? b=some o->h₁.get? b=some o:=λb o e=>
  hsb₁.extBut b o (Nat.ne_of_lt (Nat.lt_succ_of_lt (Heap.lt_size e))) (Heap.get?_push_of_some _ (Heap.get?_push_of_some _ e))
 have hacc:h₁.get? s.heap.objs.size=some { cls:=.type "list",dict:=none,data:=.seq ([]:List Value).toArray }:=
  hsb₁.extBut _ _ (Nat.ne_of_lt (Nat.lt_succ_self _)) (Heap.get?_push_of_some _ (Heap.get?_push_size _ rfl))
 have I1:Inv (jh X N scope (s.heap.objs.size+1) fp s H) [] (yD cap σ) (upd H s.heap.objs.size (.lst [])) { s with heap:=h₁,toks:=s.toks+([]:List (Str×Value)).length }:=Xt S I hf hfl hns₁ hacc old
 have st1:tn 0 h₁:=T.keep _ _ _ st λb _ o e=>old b o e
 have stat:∀ {H':Hp},(∀ b∈fp,H' b=none)->∀ b∈fp,ZX (jh X N scope (s.heap.objs.size+1) fp s H) [] H' b:=λhn b hb=>by
  refine⟨hn b hb,Nat.ne_of_lt (Nat.lt_succ_of_lt (hfl b hb)),λz=>?_,.inl hb,λx c e=>(hf b hb).2.2.2.2.1 x c (vv (λx c h=>by simp at h) x c e),λp hp=>absurd (show p∈([]:List (Addr×Obj)) from hp) (by simp)⟩
  rcases List.mem_cons.mp (I.stkSub b z) with q|q
  ·exact(hf b hb).2.1 q
  ·exact(hf b hb).2.2.1 q
 have fr1:∀ b∈fp,upd H s.heap.objs.size (.lst []) b=none:=λb hb=>by
  rw[qp (Nat.ne_of_lt (hfl b hb))]
  exact(hf b hb).1
 have loop:codeAny (model X.prog X.w) X.A (.compLoop (.ListComp elt [⟨tg,iter,ifs,0⟩] scope pos) 0 (.ref it) (.ref s.heap.objs.size) (compEnvC scope (yW X.env scope.names []) (s.heap.objs.size+1) X.env)) (RR (.ref s.heap.objs.size) (s.heap.objs.size+1)) { s with heap:=h₁,toks:=s.toks+([]:List (Str×Value)).length }:=by
  refine vF (λn s'=>∃ i σ' H',Inv (jh X N scope (s.heap.objs.size+1) fp s H) [] σ' H' s'/\tn i s'.heap/\(∀ b∈fp,H' b=none)/\W i n σ' H') ?_ m0 ⟨0,_,_,I1,st1,fr1,w0⟩
  rintro n s3 ⟨i,σ3,H3,I3,st3,fr3,w3⟩
  rcases turn i n σ3 H3 w3 with⟨stop,qn⟩|⟨go,Nn,hN,step⟩
  ·refine thn (T.done (jh X N scope (s.heap.objs.size+1) fp s H) rfl rfl rfl hc i [] s3 σ3 H3 _ I3 (stat fr3) st3 stop) λr s4 ⟨hr,I4⟩=>?_
   subst hr
   obtain⟨m,hm,_⟩:=I4.loc
   refine hRR _ _ H3 s4 ⟨m,hm⟩ (Nat.le_succ _) I4.free (Nat.ne_of_lt (Nat.lt_succ_self _)) ?_ qn
   exact I.call' (ch:=fp) I4.os I4.base I4.hok I4.bare λb hb=>⟨(hf b hb).2.2.2.1,(hf b hb).2.1,(hf b hb).2.2.2.2.1,(hf b hb).2.2.2.2.2⟩
  ·refine thn (T.item (jh X N scope (s.heap.objs.size+1) fp s H) rfl rfl rfl hc i [] s3 σ3 H3 _ I3 (stat fr3) st3 go) λr s4 ⟨u,hr,h4⟩=>?_
   subst hr
   refine thn h4 λ_ s5 ⟨x,H5,I5,r5,y5,st5,fr5⟩=>?_
   have I5':=I5.pinned (stat fr5) (T.obj _ _ st5)
   have again:∀ {σ7:St} {H7:Hp} {s7:Shared},Inv (jh X N scope (s.heap.objs.size+1) fp s H) ([]++Zm fp s5.heap) σ7 H7 s7->Nn σ7 H7->∃ m,m<n/\∃ i σ' H',Inv (jh X N scope (s.heap.objs.size+1) fp s H) [] σ' H' s7/\tn i s7.heap/\(∀ b∈fp,H' b=none)/\W i m σ' H':=λ{σ7 H7 s7} I7 n7=>by
    obtain⟨m',hm,w7⟩:=hN σ7 H7 n7
    refine⟨m',hm,i+1,σ7,H7,I7.unpinned,T.keep _ _ _ st5 λb hb o e=>(I7.pin (b,o) (List.mem_append_right _ (List.mem_append_right _ (vC hb e)))).1,λb hb=>?_,w7⟩
    obtain⟨o,e,d⟩:=T.obj _ _ st5 b hb
    exact(I7.pin (b,o) (List.mem_append_right _ (List.mem_append_right _ (vC hb e)))).2.1
   refine thn (hg _ _ _ _ _ s5 σ3 H5 x u _ I5' r5 (step x H5 y5)) λ_ s6 ⟨σ6,H6,I6,q6⟩=>?_
   refine thn (hi _ _ _ _ _ s6 σ6 H6 _ I6 q6) λok s7 ⟨H7,I7,q7⟩=>?_
   cases ok with
   |false=>
    rw[if_neg Bool.false_ne_true] at q7 ⊢
    exact again I7 q7
   |true=>
    rw[if_pos rfl] at q7 ⊢
    refine thn (he _ _ _ _ _ s7 σ6 H7 _ I7 q7) λy s8 ⟨z,H8,I8,r8,xs,e8,l8,n8⟩=>?_
    refine thn (zG _ s8 σ6 H8 (.ref s.heap.objs.size) [z] (.ref s.heap.objs.size) [y] (λv H'=>v=.non/\Nn σ6 H') I8 rfl (.cons r8 .nil) ⟨_,xs,z,rfl,rfl,e8,l8,rfl,n8⟩) λ_ s9 ⟨_,H9,I9,_,_,n9⟩=>again I9 n9
 exact codeAny_compStart_list loop (T.self _ 0 _ _ _ st1 loop)
theorem zT (S:zo X N cap scope osc on)(hc:X.calm=true)(hit:PI X tg iter wi)(hg:∀ C fp s H,PG (jh X N scope C fp s H) tg g)(hi:∀ C fp s H,ZW (jh X N scope C fp s H) ifs tif)(he:∀ C fp s H,PE (jh X N scope C fp s H) elt te)
  (hs:∀ x,foldedSetIterable iter X.env x=pure x:=by intro _;rfl):PE X (.ListComp elt [⟨tg,iter,ifs,0⟩] scope pos) (Kl cap wi g tif te):=by
 intro pins s σ H Q I h
 have hfree:∀ y∈scope.names,y.2=.free->∃ c,X.env.cells.lookup y.1=some c:=λy hy e=>I.ok.has y.1 (.inl (by
  show X.env.scope.names.lookup y.1=_
  rw[S.hosc]
  exact S.free y hy e))
 rw[eval_ListComp]
 refine wpAny_comprehension_free (use:=none) rfl hs (kA hfree) S.kind S.loc (thn (hit pins s σ H _ I h) λv s1 h1=>thn h1 λitv s2 h2=>?_)
 obtain⟨it,fp,tn,J,H2,e,I2,T,st2,f2,h2⟩:=h2
 subst e
 refine Q3 (Q:=Q) (RR:=λacc C=>compPost (model X.prog X.w) X.A X.xe none (EP X pins σ Q) acc C) S hc I2 T st2 f2 hg hi he h2 ?_
 intro p C H' s' ⟨m,hm⟩ hC0 hC hpC I' q
 exact⟨m,hm,λh' hs'=>⟨.ref p,H',Z3 I2 I' hC0 hC hs',rfl,q⟩⟩
theorem jM {y:Str}{py spos:Pos}(hN:X.N.Nodup)(hy:X.N[i]?=some y)(hl:Loc X.env.scope y)(S:zo X N cap scope osc on)(hc:X.calm=true)(hit:PI X tg iter wi)(hg:∀ C fp s H,PG (jh X N scope C fp s H) tg g)
  (hi:∀ C fp s H,ZW (jh X N scope C fp s H) ifs tif) (he:∀ C fp s H,PE (jh X N scope C fp s H) elt te)
  (hsw:swapsWith (.ListComp elt [⟨tg,iter,ifs,0⟩] scope pos) (some (.Name y py)) spos.line X.env=pure true:=by rfl)
  (hs:∀ x,foldedSetIterable iter X.env x=pure x:=by intro _;rfl) (hf:X.fn y=true\/X.env.scope.names.lookup y=some .local:=by first|exact .inl rfl|exact .inr rfl|assumption):
  PS X (.Assign [.Name y py] (.ListComp elt [⟨tg,iter,ifs,0⟩] scope pos) spos) (Wz (Kl cap wi g tif te) (xH i)):=by
 intro pins s σ H D I h
 have hfree:∀ y∈scope.names,y.2=.free->∃ c,X.env.cells.lookup y.1=some c:=λy hy e=>I.ok.has y.1 (.inl (by
  show X.env.scope.names.lookup y.1=_
  rw[S.hosc]
  exact S.free y hy e))
 rw[exec_Assign_Name_used _ _ _ _ hsw]
 refine wpAny_bind (wpAny_standAt (wpAny_bind ?_))
 show wpAny _ X.A (do let _ <- comprehension (.ListComp elt [⟨tg,iter,ifs,0⟩] scope pos) scope X.env _ (newList []) false (eval iter X.env) (some (assign (.Name y py) X.env))) _ _ s
 refine wpAny_bind (wpAny_mono (wpAny_comprehension_free (use:=some (assign (.Name y py) X.env)) (Q:=λ_ s'=>SP X pins D .next s') rfl hs (kA hfree) S.kind S.loc
  (thn (hit pins s σ H _ I h) λv s1 h1=>thn h1 λitv s2 h2=>?_)) (λ_ s' hq=>wpAny_pure (wpAny_pure hq)) λ_ _ e=>e)
 obtain⟨it,fp,tn,J,H2,e,I2,T,st2,f2,h2⟩:=h2
 subst e
 refine Q3 (Q:=λx H1=>xH i x σ H1 D.nx) (RR:=λacc C=>compPost (model X.prog X.w) X.A X.xe (some (assign (.Name y py) X.env)) (λ_ s'=>SP X pins D .next s') acc C) S hc I2 T st2 f2 hg hi he h2 ?_
 intro p C H' s' ⟨m,hm⟩ hC0 hC hpC I' q
 show wpAny _ X.A (assign (.Name y py) X.env (.ref p)) _ _ _
 refine wpAny_assign_Name (Zw (v:=.ref p) I' hN hy hl rfl (λs3 I3 ⟨a,sa,ha⟩=>?_) hf)
 have hCa:C≠a:=by
  rintro rfl
  rcases ha with z|z
  ·exact absurd I2.lt (Nat.not_lt.mpr (by rw[<-z];exact hC0))
  ·obtain⟨v,o,e,_⟩:=I2.cell y C z
   exact absurd (Heap.lt_size e) (Nat.not_lt.mpr hC0)
 refine⟨m,hm.sameBut sa hCa,λh' hs'=>⟨_,H',Z3 I2 I3 hC0 hC hs',q⟩⟩
end
def Ite (K:PySem.W.Frag)(a:Addr):It:=
 ⟨λi H=>∃ xs x,SqL K H a xs/\xs[i]?=some x,λi H x H'=>∃ p y,H p=none/\x=.ref p/\H'=upd H p (.tup [.int i,y])/\∀ xs,SqL K H a xs->xs[i]?=some y,λi H=>∃ xs,SqL K H a xs/\xs.length<=i⟩
section
variable {X:Cx}{pins:List (Addr×Obj)}{σ:St}{H:Hp}{s:Shared}{h':Heap}{t':Nat}{e it:Addr}
theorem Inv.turned2 {us:List Value}{n:Nat}(I:Inv X pins σ H s)(fe:ZX X pins H e)(fi:ZX X pins H it)(kk:∀ b o,b≠e->b≠it->s.heap.get? b=some o->h'.get? b=some o)
  (ht:h'.get? s.heap.objs.size=some { cls:=.type "tuple",data:=.seq us.toArray n }) (r:zA xs us) (hl:xs.length<=sizeLine):
  Inv X pins σ (upd H s.heap.objs.size (.tup xs)) { s with heap:=h',toks:=t' }:=by
 have hn:H s.heap.objs.size=none:=I.hok.fresh (Nat.le_refl _)
 have nit:∀ b u,H b=some u->b≠e/\b≠it:=λb u q=>⟨λz=>(by rw[z,fe.1] at q;cases q),λz=>(by rw[z,fi.1] at q;cases q)⟩
 refine I.step (g':=s.gens) (d':=s.drawn) (ch:=[e,it]) (λb hb=>?_) (λb o _ _ hc q _=>kk b o (λz=>hc (by simp[z])) (λz=>hc (by simp[z])) q) (λb o _ _ hc q _=>⟨o.slots,kk b o (λz=>hc (by simp[z])) (λz=>hc (by simp[z])) q⟩)
  (λb o _ q n=>by rw[qp (Nat.ne_of_lt (Heap.lt_size q))];exact n) (λb o hc q=>⟨o,kk b o (λz=>hc (by simp[z])) (λz=>hc (by simp[z])) q⟩)
  (λb xs q=>by rw[qp (qj q hn)];exact q) (λb o u q=>by rw[qp (qj q hn)];exact q) (λb ps q=>⟨#[],by rw[qp (qj q hn),q];simp⟩) (λm hm=>?_) (λb u q=>?_) I.bare
 ·rcases List.mem_cons.mp hb with z|z
  ·subst z
   exact⟨fe.2.2.2.1,fe.2.1,fe.2.2.2.2.1,fe.2.2.2.2.2⟩
  ·have z:b=it:=by simpa using z
   subst z
   exact⟨fi.2.2.2.1,fi.2.1,fi.2.2.2.2.1,fi.2.2.2.2.2⟩
 ·obtain⟨o,es,ep,ho,q⟩:=hm
  exact⟨o,es,ep,kk _ o (Ne.symm fe.2.1) (Ne.symm fi.2.1) ho,q⟩
 ·by_cases hb:b=s.heap.objs.size
  ·subst hb
   rw[qg] at q
   cases q
   exact⟨hl,us,r,_,ht,rfl,n,rfl⟩
  ·rw[qp hb] at q
   refine(I.hok b u q).stay (λc v hc z=>?_) (λc z=>by rw[qp (qj z hn)];exact z) λc ys z=>by rw[qp (qj z hn)];exact z
   rcases hc with rfl|hc
   ·exact kk c v (nit c u q).1 (nit c u q).2 z
   ·exact kk c v (nit c _ hc).1 (nit c _ hc).2 z
end
theorem Vc {elts:List Expr}{x1}(a e it:Addr)(hei:e≠it):
  KB P w K (.Tuple elts x1 tpos) (Ite K a) [e,it] e (λi h=>∃ old,IsEnum h e it ((i:Nat):Int) old/\h.IsListIter it a i) where
 mem:=by simp
 obj:=λi h st b hb=>by
  obtain⟨old,he,hi⟩:=st
  rcases List.mem_cons.mp hb with z|z
  ·subst z
   exact⟨_,he,λv z=>by cases z⟩
  ·have z:b=it:=by simpa using z
   subst z
   obtain⟨o,e,c,d⟩:=hi
   exact⟨o,e,λv z=>by rw[d] at z;cases z⟩
 keep:=λi h h' st k=>by
  obtain⟨old,he,hi⟩:=st
  exact⟨old,k e (by simp) _ he,hi.at λo q=>k it (by simp) o q⟩
 item:=by
  intro X hP hw hK hc i pins s σ H E I hf st hg
  subst hP hw hK
  obtain⟨xs,x,hq,hx⟩:=hg
  obtain⟨old,he,hi⟩:=st
  obtain⟨its,rv,p,hz⟩:=I.list hq
  obtain⟨u,hu,ru⟩:=rv.get hx
  have fe:=hf e (by simp)
  have fi:=hf it (by simp)
  refine wpAny_pyNext_enum_item he hi p.isList (x:=u) (by simpa using hu) hei λh₁ heo hit₁ ht₁ hz₁ hk₁=>?_
  refine⟨_,rfl,wpAny_letOwnedTupleGo_enum heo λh₂ he₂ hs₂=>?_⟩
  replace hs₂:Heap.SameBut e h₁ h₂:=hs₂
  have elt:e<s.heap.objs.size:=Heap.lt_size he
  have ilt:it<s.heap.objs.size:=by obtain⟨o,q,_⟩:=hi;exact Heap.lt_size q
  have I1:Inv X pins σ (upd H s.heap.objs.size (.tup [.int i,x])) { s with heap:=h₂,toks:=s.toks+1 }:=
   I.turned2 fe fi (λb o hb hb' q=>(hs₂.2 b hb).trans (hk₁ b o hb hb' q)) (us:=[.int i s.toks,u]) ((hs₂.2 _ (Nat.ne_of_gt elt)).trans ht₁) (.cons ⟨_,rfl⟩ (.cons ru .nil)) (by show 2<=sizeLine;decide)
  have hcast:((i:Int)+1)=((i+1:Nat):Int):=by push_cast;rfl
  refine⟨.ref s.heap.objs.size,_,I1,rfl,⟨s.heap.objs.size,x,I.hok.fresh (Nat.le_refl _),rfl,rfl,λys hy=>by rw[I.list_inj hy hq];exact hx⟩,⟨u,?_,hit₁.extBut hs₂.extBut (Ne.symm hei)⟩,λb hb=>?_⟩
  ·rw[<-hcast]
   exact he₂
  ·rcases List.mem_cons.mp hb with z|z
   ·subst z
    rw[qp (Nat.ne_of_lt elt)]
    exact fe.1
   ·have z:b=it:=by simpa using z
    subst z
    rw[qp (Nat.ne_of_lt ilt)]
    exact fi.1
 done:=by
  intro X hP hw hK hc i pins s σ H E I hf st hg
  subst hP hw hK
  obtain⟨xs,hq,hx⟩:=hg
  obtain⟨old,he,hi⟩:=st
  obtain⟨its,rv,p,hz⟩:=I.list hq
  obtain⟨f0,f1,f2,f3,f4,f5⟩:=hf it (by simp)
  have hl:=rv.length
  exact wpAny_pyNext_enum_end (I.ok.hd hc) he hi p.isList (by simp;omega) λh' eb=>⟨rfl,I.turned (t':=s.toks) (λb o hb e=>eb b o hb e) f0 f1 f3 f4 f5⟩
 self:=λ_ _ _ _ _ ⟨_,he,_⟩ h=>wpAny_pyIter_enum he h
def Yw (K:PySem.W.Frag)(ta:TA):TI:=λσ H R=>ta σ H λvs H1=>∃ a,vs=[.ref a]/\(∃ xs,SqL K H1 a xs)/\R (Ite K a) H1
theorem w8 {elts:List Expr}{x1}{a:Expr}{ta:TA}{p:Pos}(hg:Gl X "enumerate")(hm:X.mg "enumerate"=none)(ha:PA X [a] ta)(hs:starEach [a] X.env=[(false,eval a X.env)]:=by rfl):
  PI X (.Tuple elts x1 tpos) (.Call (.Name "enumerate" p) [a] [] pos) (Yw X.K ta):=by
 intro pins s σ H R I h
 refine Call_ (kD I hg hm (by decide +kernel:bootBuiltins "enumerate"=some (.type "enumerate")) (PyProof.Rows.callWith_type1 (thn (ha pos pins s σ H _ I h) λus s1 ⟨vs,H1,I1,r1,q1⟩=>?_) hs rfl))
 obtain⟨a,e,⟨xs,hq⟩,q⟩:=q1
 subst e
 cases r1 with
 |cons r rr=>
  cases rr
  cases r
  obtain⟨its,rv,p,hz⟩:=I1.list hq
  refine call_enumerate_list p.isList λh1 he hi hsz hk=>wpAny_pyIter_enum he ?_
  have I2:Inv X pins σ H1 { s1 with heap:=h1 }:=I1.kept (t':=s1.toks) hk
  refine⟨s1.heap.objs.size+1,[s1.heap.objs.size+1,s1.heap.objs.size],_,_,H1,rfl,I2,Vc a _ _ (Nat.ne_of_gt (Nat.lt_succ_self _)),⟨_,he,hi⟩,λb hb=>?_,q⟩
  have hb':s1.heap.objs.size<=b:=by
   rcases List.mem_cons.mp hb with z|z
   ·rw[z];exact Nat.le_succ _
   ·have z:b=s1.heap.objs.size:=by simpa using z
    rw[z];exact Nat.le_refl _
  have f:=I1.fpOk hb' (I1.hok.fresh hb')
  exact f
theorem KQ {g:TG}{tb:TS}{D:Ends}(Pv:Nat->St->Hp->Prop)(h0:Pv 0 σ H)(hl:∀ i σ H,i<=xs.length->Pv i σ H->SqL K H a xs)
  (hs:∀ i x p σ H,xs[i]?=some x->H p=none->Pv i σ H->g (.ref p) σ (upd H p (.tup [.int i,x])) λσ2 H2=>tb { D with nx:=Pv (i+1),ct:=Pv (i+1),bk:=D.nx } σ2 H2) (he:∀ σ H,Pv xs.length σ H->D.nx σ H):
  ∃ W:Nat->Nat->St->Hp->Prop,(∃ m,W 0 m σ H)/\∀ i m σ H,W i m σ H ->
   ((Ite K a).stop i H/\D.nx σ H)\/((Ite K a).go i H/\∃ N:St->Hp->Prop,(∀ σ' H',N σ' H'->∃ m',m'<m/\W (i+1) m' σ' H')/\∀ x H',(Ite K a).yld i H x H'->g x σ H' λσ2 H2=>tb { D with nx:=N,ct:=N,bk:=D.nx } σ2 H2):=by
 refine⟨λi m σ H=>i<=xs.length/\m=xs.length-i/\Pv i σ H,⟨_,Nat.zero_le _,rfl,h0⟩,?_⟩
 rintro i m σ H ⟨hi,rfl,p⟩
 cases hx:xs[i]? with
 |none=>
  have e:i=xs.length:=Nat.le_antisymm hi (by simpa using hx)
  refine .inl ⟨⟨xs,hl i σ H hi p,Nat.le_of_eq e.symm⟩,he σ H (e ▸ p)⟩
 |some x=>
  have lt:i<xs.length:=(List.getElem?_eq_some_iff.mp hx).1
  refine .inr ⟨⟨xs,x,hl i σ H hi p,hx⟩,Pv (i+1),λσ' H' q=>⟨xs.length-(i+1),by omega,lt,rfl,q⟩,?_⟩
  rintro y H' ⟨q,z,hq,rfl,rfl,hz⟩
  have e:=hz xs (hl i σ H hi p)
  rw[hx] at e
  cases e
  exact hs i x q σ H hx hq p
structure wU (K:PySem.W.Frag)(w:World)(a:Addr):Prop where
 ex:∃ es n,K.lookup a=some ⟨.type "dict",none,.dict es n,#[]⟩/\PySem.W.KeysLit w.params es.toList
 lo:(a == sysModules)=false
def kX (K:PySem.W.Frag)(a:Addr)(x:Str)(o:Option V):Prop:=∃ r,PySem.W.nsIn K a x=some r/\yz o r
def Vt (K:PySem.W.Frag)(w:World)(td ty:TE):TE:=λσ H Q=>td σ H λx H1=>∃ a,x=.ref a/\wU K w a/\ty σ H1 λy H2=>∃ k o,y=.str k/\kX K a k o/\Q (o.getD .non) H2
def YG (K:PySem.W.Frag)(w:World)(td ty:TE):TE:=λσ H Q=>td σ H λx H1=>ty σ H1 λy H2=>∃ a k v,x=.ref a/\wU K w a/\y=.str k/\kX K a k (some v)/\Q v H2
section
variable {X:Cx}{pins:List (Addr×Obj)}{σ:St}{H:Hp}{s:Shared}{a:Addr}
theorem wU.map (D:wU X.K X.w a)(I:Inv X pins σ H s){o:Option V}(g:kX X.K a x o):∃ f,s.heap.MapOf (strKind X.prog X.w) a f/\yz o (f x):=by
 obtain⟨es,n,hl,hk⟩:=D.ex
 obtain⟨r,e,rr⟩:=g
 refine⟨_,PySem.W.mapOf_K (prog:=X.prog) I.kIn hl hk,?_⟩
 rw[PySem.W.find_K hl e]
 exact rr
theorem wU.noDict (D:wU X.K X.w a)(I:Inv X pins σ H s):s.TypeIs (.ref a) "dict"/\∀ b,Value.ref a=.ref b->∃ ob,s.heap.get? b=some ob/\ob.dict=none:=by
 obtain⟨es,n,hl,hk⟩:=D.ex
 refine⟨⟨_,I.kIn _ _ hl,rfl⟩,λb q=>?_⟩
 cases q
 exact⟨_,I.kIn _ _ hl,rfl⟩
end
section
variable {X:Cx}{o e i:Expr}{apos cpos pos:Pos}{td ty:TE}
theorem kx (ho:PE X o td)(he:PE X e ty)(m:M1 X o "get" apos e cpos):PE X (.Call (.Attribute o "get" apos) [e] [] cpos) (Vt X.K X.w td ty):=by
 intro pins s σ H Q I h
 refine wpAny_Call_method m.base m.few m.line PySem.F.plainAttrs_dict PySem.F.slot_dict_get PySem.F.type_dict_get (thn (ho pins s σ H _ I h) λu s1 ⟨x,H1,I1,rx,a,ex,d,q1⟩=>?_)
 subst ex
 obtain rfl:u=Value.ref a:=rx
 obtain⟨t1,t2⟩:=d.noDict I1
 refine⟨t1,t2,?_⟩
 rw[m.trees]
 refine Calls.callWith_builtin rfl (Calls.evalArgs_plain (Calls.spliced_cons (thn (he pins s1 σ H1 _ I1 q1) λiv s2 ⟨y,H2,I2,ry,k,ov,ey,g,q2⟩=>Calls.spliced_nil ?_)))
 subst ey
 obtain⟨t,rfl⟩:=ry
 obtain⟨f,mf,rf⟩:=d.map I2 g
 exact call_meetsIn PySem.F.slot_dict_get (d.noDict I2).1 PySem.F.entry_dict_get (PySem.F.args_dict_get_2 _ _) (meets_dict_get (strKind X.prog X.w) a (strKind_is X.prog X.w k t) d.lo) ⟨f,mf,_,H2,I2.tok _,rf.getD (show zV .non Value.none from rfl),q2⟩
theorem vk (ho:PE X o td)(hi:PE X i ty)(hs:NoSl i):PE X (.Subscript o i pos) (YG X.K X.w td ty):=by
 intro pins s σ H Q I h
 refine Kh PySem.F.slot_dict_getitem.lookup hs (thn (ho pins s σ H _ I h) λu s1 ⟨x,H1,I1,rx,q1⟩=>thn (hi pins s1 σ H1 _ I1 q1) λiv s2 ⟨y,H2,I2,ry,a,k,v,ex,d,ey,g,q2⟩=>?_)
 subst ex ey
 obtain rfl:u=Value.ref a:=rx
 obtain⟨t,rfl⟩:=ry
 obtain⟨f,mf,rf⟩:=d.map I2 g
 obtain⟨w',hw,rw'⟩:=yz.some_of (v:=v) (o:=f k) rf
 exact⟨(d.noDict I2).1,wpAny_getItem_of (strKind_is X.prog X.w k t) mf hw ⟨v,H2,I2.tok _,rw',q2⟩⟩
end
mutual
inductive Dp (K:PySem.W.Frag)(H:Hp):V->PyData->Prop
 |non:Dp K H .non .none
 |bl (b:Bool):Dp K H (.bl b) (.bool b)
 |int (i:Int):Dp K H (.int i) (.int i)
 |str (x:Str):Dp K H (.str x) (.str x)
 |lst {a:Addr} {xs:List V} {ds:List PyData}:SqL K H a xs->DpAll K H xs ds->Dp K H (.ref a) (.list ds)
 |tup {a:Addr} {xs:List V} {ds:List PyData}:SqT K H a xs->DpAll K H xs ds->Dp K H (.ref a) (.tuple ds)
inductive DpAll (K:PySem.W.Frag)(H:Hp):List V->List PyData->Prop
 |nil:DpAll K H [] []
 |cons {v:V} {d:PyData} {vs:List V} {ds:List PyData}:Dp K H v d->DpAll K H vs ds->DpAll K H (v::vs) (d::ds)
end
section
variable {X:Cx}{pins:List (Addr×Obj)}{σ:St}{H:Hp}{s:Shared}
mutual
theorem Dp.reads (I:Inv X pins σ H s):∀ {v:V} {d:PyData} {u:Value},Dp X.K H v d->zV v u->∃ as,Reads s.heap u d as
 |_,_,_,.non,r=>by cases r;exact⟨_,.none⟩
 |_,_,_,.bl b,r=>by cases r;exact⟨_,.bool b⟩
 |_,_,_,.int i,r=>by obtain⟨t,rfl⟩:=r;exact⟨_,.int i t⟩
 |_,_,_,.str x,r=>by obtain⟨t,rfl⟩:=r;exact⟨_,.str x t⟩
 |_,_,_,.lst h1 h2,r=>by
  cases r
  obtain⟨its,rv,⟨o,n,e,c,_,d⟩,_⟩:=I.list h1
  obtain⟨as,h⟩:=DpAll.reads I h2 rv
  exact⟨_,.list e c d (by simpa using h)⟩
 |_,_,_,.tup h1 h2,r=>by
  cases r
  obtain⟨its,rv,⟨o,e,c,n,d⟩,_⟩:=I.tuple h1
  obtain⟨as,h⟩:=DpAll.reads I h2 rv
  exact⟨_,.tuple e c d (by simpa using h)⟩
theorem DpAll.reads (I:Inv X pins σ H s):∀ {vs:List V} {ds:List PyData} {us:List Value},DpAll X.K H vs ds->zA vs us->∃ as,ReadsAll s.heap us ds as
 |_,_,_,.nil,r=>by cases r;exact⟨_,.nil⟩
 |_,_,_,.cons h1 h2,r=>by
  cases r with
  |cons r1 r2=>
   obtain⟨as,a⟩:=Dp.reads I h1 r1
   obtain⟨bs,b⟩:=DpAll.reads I h2 r2
   exact⟨_,.cons a b⟩
end
end
def rEqDp (K:PySem.W.Frag):R2:=λx y H Q=>∃ d e,Dp K H x d/\Dp K H y e/\SeqAt.shaped d=true/\SeqAt.shaped e=true/\Q (.bl (PyData.eqv d e)) H
def rNeDp (K:PySem.W.Frag):R2:=λx y H Q=>∃ d e,Dp K H x d/\Dp K H y e/\SeqAt.shaped d=true/\SeqAt.shaped e=true/\Q (.bl (!PyData.eqv d e)) H
theorem Vi (hu:X.A.units+64<cLine):OpR X (compareOp .Eq) (rEqDp X.K):=by
 intro pins s σ H x y v u Q I rx ry h
 obtain⟨d,e,hd,he,sd,se,q⟩:=h
 obtain⟨as,ra⟩:=hd.reads I rx
 obtain⟨bs,rb⟩:=he.reads I ry
 exact SeqAt.compareEq_shaped ra rb sd se hu ⟨.bl _,H,I,rfl,q⟩
theorem Yo (hu:X.A.units+64<cLine):OpR X (compareOp .NotEq) (rNeDp X.K):=by
 intro pins s σ H x y v u Q I rx ry h
 obtain⟨d,e,hd,he,sd,se,q⟩:=h
 obtain⟨as,ra⟩:=hd.reads I rx
 obtain⟨bs,rb⟩:=he.reads I ry
 exact SeqAt.compareNe_shaped ra rb sd se hu ⟨.bl _,H,I,rfl,q⟩
theorem Qh {a:Int}(h:a.natAbs.log2<1920):(Str.ofString (toString a)).length<=3000:=by
 have e:=int_text_length_le (k:=1920) (by decide) h
 rw[PySem.ofString_length]
 omega
def PF (X:Cx)(e:Expr)(t:TT):Prop:=
 ∀ (pins:List (Addr×Obj)) (s:Shared) (σ:St) (H:Hp) (Q:Bool->Hp->Prop),Inv X pins σ H s->t σ H Q ->
  wpAny (model X.prog X.w) X.A (eval e X.env) (λu s'=>∃ x tk H',u=.str x tk/\x.length<=3000/\Inv X pins σ H' s'/\Q true H') X.xe s
def tOne:TT:=λ_ H Q=>Q true H
def tFmt (te:TE):TT:=λσ H Q=>te σ H λx H1=>asI x λi=>i.natAbs.log2<1920/\Q true H1
def PFs (X:Cx)(es:List Expr)(t:TT):Prop:=
 ∀ (pins:List (Addr×Obj)) (s:Shared) (σ:St) (H:Hp) (Q:Bool->Hp->Prop) (out:Str),out.length+es.length*3000<=sizeLine->Inv X pins σ H s->t σ H Q ->
  wpAny (model X.prog X.w) X.A (joinParts out (evalEach es X.env)) (λu s'=>∃ x tk H',u=.str x tk/\Inv X pins σ H' s'/\Q true H') X.xe s
section
variable {X:Cx}{x:Str}{e:Expr}{es:List Expr}{te:TE}{t u:TT}{pos:Pos}{j:Nat}
theorem zP (hl:x.length<=3000:=by decide):PF X (.Constant (.str x) j pos) tOne:=λpins s σ H Q I h=>by
 refine thn (qD (X:=X) pins s σ H (λv H'=>v=.str x/\Q true H') I ⟨rfl,h⟩) λv s1 ⟨y,H1,I1,r1,ey,q1⟩=>?_
 subst ey
 obtain⟨tk,rfl⟩:=r1
 exact⟨x,tk,H1,rfl,hl,I1,q1⟩
theorem jV (he:PE X e te):PF X (.FormattedValue e (-1) none pos) (tFmt te):=λpins s σ H Q I h=>by
 refine FormattedValue_plain (thn (he pins s σ H _ I h) λv s1 ⟨y,H1,I1,r1,q0⟩=>?_)
 obtain⟨i,ey,hd,q1⟩:=kQ q0
 subst ey
 obtain⟨tk,rfl⟩:=r1
 refine formatField_int_small hd ⟨_,_,H1,rfl,?_,I1.tok _,q1⟩
 exact Qh hd
theorem jF:PFs X [] tOne:=λpins s σ H Q out hl I h=>joinParts_nil ⟨out,_,H,rfl,I.tok _,h⟩ (by simpa using hl)
theorem qB (h1:PF X e t)(h2:PFs X es u):PFs X (e::es) (q0a t u):=λpins s σ H Q out hl I h=>by
 show wpAny _ _ (joinParts out (eval e X.env::evalEach es X.env)) _ _ s
 refine joinParts_cons (thn (h1 pins s σ H _ I h) λv s1 ⟨x,tk,H1,ev,hx,I1,q1⟩=>?_)
 subst ev
 rw[if_pos rfl] at q1
 have e1:(out++x).length=out.length+x.length:=strLen_append out x
 rw[List.length_cons] at hl
 exact⟨by omega,h2 pins s1 σ H1 Q (out++x) (by omega) I1 q1⟩
def Yf (t:TT):TE:=λσ H Q=>t σ H λ_ H1=>∀ x:Str,Q (.str x) H1
theorem jD {e2:Expr}(h:PFs X (e::e2::es) t)(hl:(e::e2::es).length*3000<=sizeLine:=by decide):PE X (.JoinedStr (e::e2::es) pos) (Yf t):=λpins s σ H Q I q=>by
 refine JoinedStr_many (thn (h pins s σ H _ Str.empty (by rw[show Str.empty.length=0 from rfl,Nat.zero_add];exact hl) I q) λv s1 ⟨x,tk,H1,ev,I1,q1⟩=>?_)
 subst ev
 exact⟨.str x,H1,I1,⟨tk,rfl⟩,q1 x⟩
end
def CX1 (P:Program)(w:World):CXT:=λouter H s E e s'=>
 ∃ (a C:Addr) (a0:Value) (B:Heap) (H':Hp),e=.ref a/\s'.os=s.os/\AllBare s'.gens/\Un (frs outer) [] H H' s.heap s'.heap/\HOk P w H' s'.heap /\
  Heap.FlyingW B outer a (.ref C) a0 s'.heap/\(∀ b o,s.heap.get? b=some o->b ∉ frs outer->∃ o',B.get? b=some o')/\(∀ b o,H' b=some o->∃ o',B.get? b=some o')/\E (.ref C) none H'
theorem Qy {L:Addr}{l:List Env}(hf:env.frame=some L):frs (env::l)=L::frs l:=by
 unfold frs
 rw[List.filterMap_cons,hf]
theorem ji.there {o:HO}(x:ji P w H h a o):∃ ob,h.get? a=some ob:=by
 cases o with
 |lst xs=>obtain⟨_,_,_,_,e⟩:=x;exact⟨_,e⟩
 |tup xs=>obtain⟨_,_,_,ob,e,_⟩:=x;exact⟨_,e⟩
 |dK kvs=>obtain⟨_,_,_,_,o,_,_,e,_⟩:=x;exact⟨_,e⟩
 |dT kvs=>obtain⟨_,_,_,_,o,_,_,e,_⟩:=x;exact⟨_,e⟩
 |set S n=>obtain⟨o,_,_,_,e,_⟩:=x;exact⟨_,e⟩
 |ins C dx fs=>obtain⟨_,_,_,e,_⟩:=x;exact⟨_,e⟩
 |own y=>obtain⟨_,e⟩:=x;exact⟨_,e⟩
 |xd fs=>obtain⟨_,⟨_,_,_,e,_⟩,_⟩:=x;exact⟨_,e⟩
 |rng lo hi=>obtain⟨_,_,_,e⟩:=x;exact⟨_,e⟩
 |frz ob u=>obtain⟨e,_⟩:=x;exact⟨_,e⟩
 |tbl ps=>exact⟨_,(show h.get? a=some _ from x)⟩
 |met f y=>exact⟨_,(show h.get? a=some _ from x)⟩
 |ext φ=>obtain⟨_,⟨o,e⟩,_⟩:=x;exact⟨o,e⟩
theorem vp (k:B.StaysIn h)(k':B.StaysIn h'){b:Addr}{o o':Obj}(e:h.get? b=some o)(eb:B.get? b=some o'):h'.get? b=some o:=by
 have q:=k b o' eb
 rw[e] at q
 cases q
 exact k' b _ eb
theorem HOk.inB (ok:HOk P w H h)(k:B.StaysIn h)(k':B.StaysIn h')(t:∀ b o,H b=some o->∃ o',B.get? b=some o'):HOk P w H h':=λb o e=>
 (ok b o e).stay (λc v hc q=>by
  rcases hc with rfl|hc
  ·obtain⟨o',eb⟩:=t _ _ e
   exact vp k k' q eb
  ·obtain⟨o',eb⟩:=t _ _ hc
   exact vp k k' q eb) (λ_ q=>q) λ_ _ q=>q
section
variable {P:Program}{w:World}{K:PySem.W.Frag}{mg:Str->Option Value}{base:Heap}{N:List Str}{qual:Str}{scope:Scope}{f:Addr}{cd:Value}{A:Around}{outer:List Env}{s0:Shared}{H0:Hp}{E:XK}
theorem Un.leave (I:Inv (xO (CX1 P w) P w K mg base N qual scope f cd A outer s0 H0 E) pins σ H s)
  (un:Un (frs (xO (CX1 P w) P w K mg base N qual scope f cd A outer s0 H0 E).stack) [] H H' s.heap h1) (k:B.StaysIn h1) (k':B.StaysIn h') (sm:h1.UpToSlots h')
  (bs:∀ b o,s.heap.get? b=some o->b ∉ frs (xO (CX1 P w) P w K mg base N qual scope f cd A outer s0 H0 E).stack->∃ o',B.get? b=some o'):
  Un (frs outer) [] H0 H' s0.heap h'/\∀ b o,s0.heap.get? b=some o->b ∉ frs outer->∃ o',B.get? b=some o':=by
 have base_:Un (frs outer) [] H0 H s0.heap s.heap:=I.base
 have fst:frs (xO (CX1 P w) P w K mg base N qual scope f cd A outer s0 H0 E).stack=s0.heap.objs.size::frs outer:=Qy rfl
 have out:∀ b o,s0.heap.get? b=some o->b ∉ frs outer->b ∉ frs (xO (CX1 P w) P w K mg base N qual scope f cd A outer s0 H0 E).stack:=λb o e hb z=>by
  rw[fst] at z
  rcases List.mem_cons.mp z with z|z
  ·exact absurd (Heap.lt_size e) (by rw[z];exact Nat.lt_irrefl _)
  ·exact hb z
 have inn:∀ b,b∈frs outer->b∈frs (xO (CX1 P w) P w K mg base N qual scope f cd A outer s0 H0 E).stack:=λb z=>by
  rw[fst]
  exact List.mem_cons_of_mem _ z
 have bs':∀ b o,s0.heap.get? b=some o->b ∉ frs outer->∃ o',B.get? b=some o':=λb o e hb=>by
  obtain⟨o1,e1⟩:=base_.there b o e (by simp)
  exact bs b o1 e1 (out b o e hb)
 have slot_:∀ b o,s0.heap.get? b=some o->H0 b=none->b∈frs outer->∃ sl,h'.get? b=some { o with slots:=sl }:=λb o e n hb=>by
  obtain⟨_,of,hof,hnf⟩:=I.ok.funs.mem hb
  have q:of=o:=by
   have z:s0.heap.get? b=some of:=hof
   rw[e] at z
   exact(Option.some.inj z).symm
  subst q
  obtain⟨s1,e1⟩:=base_.slot b of e n hb (by simp)
  have n1:=base_.free b of e n (by simp)
  obtain⟨s2,e2⟩:=un.slot b _ e1 n1 (inn b hb) (by simp)
  obtain⟨s3,e3⟩:=sm b _ e2 hnf
  exact⟨s3,e3⟩
 refine⟨⟨λb o e n hb _=>?_,λb o e n hb _=>slot_ b o e n hb,λb o e n _=>?_,λb o e _=>?_,λb xs e=>un.tups b xs (base_.tups b xs e),λb o u e=>un.frzs b o u (base_.frzs b o u e),λb ps e=>?_⟩,bs'⟩
 ·have e1:=base_.keep b o e n hb (by simp)
  have n1:=base_.free b o e n (by simp)
  have e2:=un.keep b o e1 n1 (out b o e hb) (by simp)
  obtain⟨o',eb⟩:=bs' b o e hb
  exact vp k k' e2 eb
 ·obtain⟨o1,e1⟩:=base_.there b o e (by simp)
  exact un.free b o1 e1 (base_.free b o e n (by simp)) (by simp)
 ·by_cases hb:b∈frs outer
  ·obtain⟨sl,e1⟩:=slot_ b o e (I.ok.frf b hb) hb
   exact⟨_,e1⟩
  ·obtain⟨o',eb⟩:=bs' b o e hb
   exact⟨o',k' b o' eb⟩
 ·obtain⟨m1,e1⟩:=base_.tbls b ps e
  obtain⟨m2,e2⟩:=un.tbls b _ e1
  exact⟨m1++m2,by rw[e2,Array.append_assoc]⟩
theorem wF {E':XK}(imp:∀ c d H,E' c d H->E c d H):Zb (CX1 P w) (xO (CX1 P w) P w K mg base N qual scope f cd A outer s0 H0 E) E':=by
 intro pins σ H s e s' I h
 obtain⟨a,C,a0,B,H',rfl,os,bare,un,hok,fl,bs,bt,he⟩:=h
 show wpAny (model P w) (A.deeper (envOfC qual scope s0.heap.objs.size f cd)) (leaving (envOfC qual scope s0.heap.objs.size f cd) (.ref a)) _ _ s'
 refine wpAny_leaves_onW I.ok.frames rfl fl λh' fl' sm=>?_
 obtain⟨u,bs'⟩:=Un.leave I un fl.1 fl'.1 sm bs
 exact⟨a,C,a0,B,H',rfl,os.trans I.os,bare,u,hok.inB fl.1 fl'.1 bt,fl',bs',bt,imp _ _ _ he⟩
structure YY (K:PySem.W.Frag)(mg:Str->Option Value)(x:Str)(C:Addr):Prop where
 bound:mg x=some (.ref C)
 exc:PySem.W.excIn K C [.type "ValueError",.type "Exception",.type "BaseException",.type "object"] "ValueError.__new__"=true
theorem own_of (X:K.In h)(O:YY K mg x C):OwnCls x C [.type "ValueError",.type "Exception",.type "BaseException",.type "object"] "ValueError.__new__" mg h:=by
 refine⟨O.bound,?_⟩
 have q:=O.exc
 unfold PySem.W.excIn at q
 split at q
 ·rename_i dd cd sl ho
  split at q
  ·rename_i C' bm k0 k1 k2 k3 n k5 hm hs
   simp only[Bool.and_eq_true,beq_iff_eq,Bool.not_eq_true'] at q
   obtain⟨⟨⟨⟨⟨rfl,rfl⟩,hdel⟩,ht⟩,hok⟩,hni⟩:=q
   obtain⟨nm,bs,mro,ns,qn,hd,sn,sub,ab,col,del⟩:=cd
   dsimp only at hm hdel hok hni
   subst hm hdel
   have hsl:sl=#[k0,k1,k2,k3,some (.builtin "ValueError.__new__"),k5]:=by
    obtain⟨l⟩:=sl
    simp only at hs
    rw[hs]
   subst hsl
   exact⟨bm,ns,nm,qn,bs,hd,sn,sub,ab,col,dd,k0,k1,k2,k3,k5,_,X _ _ ho,.of_isNs (PySem.W.isNs_of_in X hok),PySem.W.nsMap_none_of_in X hok hni,PySem.W.tail_of_in X ht⟩
  ·cases q
 ·cases q
def VJ (E:XK)(C:Addr)(te:TE):TS:=λ_ σ H=>te σ H λ_ H1=>E (.ref C) none H1
theorem j5 {np cpos:Pos}{e:Expr}{te:TE}(O:YY K mg x C)(he:PE (xO (CX1 P w) P w K mg base N qual scope f cd A outer s0 H0 E) e te)
  (hg:Gl (xO (CX1 P w) P w K mg base N qual scope f cd A outer s0 H0 E) x:=by rfl) (hd:(x == ("__debug__":Str))=false:=by decide)
  (hst:starEach [e] (xO (CX1 P w) P w K mg base N qual scope f cd A outer s0 H0 E).env=[(false,eval e (xO (CX1 P w) P w K mg base N qual scope f cd A outer s0 H0 E).env)]:=by rfl):
  PS (xO (CX1 P w) P w K mg base N qual scope f cd A outer s0 H0 E) (.Raise (some (.Call (.Name x np) [e] [] cpos)) none pos) (VJ E C te):=by
 intro pins s σ H D I h
 obtain⟨tl,Nn,nm,q,bs,hdct,sn,sub,ab,col,dd,k0,k1,k2,k3,k5,mN,hC,hN,hni,T⟩:=(own_of (mg:=mg) I.ok.mod.kin O).obj
 refine wpAny_Raise_call_subT (C:=C) (nm:=nm) (q:=q) (N:=Nn) (bs:=bs) (bm:=tl) (hdct:=hdct) (sn:=sn) (sub:=sub) (ab:=ab) (col:=col) (dd:=dd) (k0:=k0) (k1:=k1) (k2:=k2) (k3:=k3) (k5:=k5)
  PySem.F.excBase_ValueError (mN:=mN) (T.hasType PySem.F.excBase_ValueError.hasBase) (I.ok.hd rfl) (by rw[hst];rfl) hni (yr I hg O.bound ⟨rfl,?_⟩ hd)
 rw[hst]
 refine Calls.evalArgs_plain (Calls.spliced_cons (thn (he pins s σ H _ I h) λu s1 ⟨v,H1,I1,rv,hE⟩=>Calls.spliced_nil ⟨rfl,(by show 1<=sizeLine;decide),I1.bk _ _ hC,hN.keeps I1.bk,T.keeps I1.bk,λh' ea mk=>?_⟩))
 show wpAny (model P w) (A.deeper (envOfC qual scope s0.heap.objs.size f cd)) (leaving (envOfC qual scope s0.heap.objs.size f cd) (.ref ea)) _ _ _
 have fst:frs (xO (CX1 P w) P w K mg base N qual scope f cd A outer s0 H0 E).stack=s0.heap.objs.size::frs outer:=Qy rfl
 have stk:s1.heap.FunFrames base (envOfC qual scope s0.heap.objs.size f cd::outer):=I1.stack
 have hB:Heap.StaysIn (PySem.W.hideAll s1.heap (frs (envOfC qual scope s0.heap.objs.size f cd::outer))) s1.heap:=λb o q=>PySem.W.of_hideAll _ q
 refine wpAny_leaves_madeW (base:=PySem.W.hideAll s1.heap (frs (envOfC qual scope s0.heap.objs.size f cd::outer))) I1.ok.frames rfl hB
  (PySem.W.funFrames_hide stk λenv he b hb=>List.mem_filterMap.mpr ⟨env,he,hb⟩) mk λh'' t fl _ _ sm=>?_
 have bt:∀ b o,H1 b=some o->∃ o',(PySem.W.hideAll s1.heap (frs (envOfC qual scope s0.heap.objs.size f cd::outer))).get? b=some o':=λb o q=>by
  obtain⟨ob,g⟩:=ji.there (I1.hok b o q)
  exact⟨ob,PySem.W.hideAll_get _ g λz=>by have:=I1.stkFree b z;rw[q] at this;cases this⟩
 have bs0:∀ b o,s1.heap.get? b=some o->b ∉ frs (xO (CX1 P w) P w K mg base N qual scope f cd A outer s0 H0 E).stack->∃ o',(PySem.W.hideAll s1.heap (frs (envOfC qual scope s0.heap.objs.size f cd::outer))).get? b=some o':=
  λb o q nb=>⟨o,PySem.W.hideAll_get _ q nb⟩
 obtain⟨u,bs'⟩:=Un.leave I1 (Un.refl (fs:=frs (xO (CX1 P w) P w K mg base N qual scope f cd A outer s0 H0 E).stack) (ex:=[]) (H:=H1) (h:=s1.heap)) hB fl.1 ((Heap.UpToSlots.of_keeps mk.keeps).trans sm) bs0
 exact⟨ea,C,_,_,H1,rfl,I1.os,I1.bare,u,I1.hok.inB hB fl.1 bt,fl,bs',bt,hE⟩
end
def wI (a C:Addr):Heap->Prop:=λh=>∃ o vs,h.get? a=some o/\o.cls=.ref C/\o.data=.fields vs
theorem KH (e:wI a C h):ji P w H h a (.ext (wI a C)):=by
 obtain⟨o,vs,q,r⟩:=id e
 refine⟨e,⟨o,q⟩,λh1 h2 p k=>?_⟩
 obtain⟨o1,vs1,q1,r1⟩:=p
 exact⟨o1,vs1,k o1 q1,r1⟩
theorem Un.fly {base h0 h2:Heap}{l:List Env}(hF:h0.FunFrames base l)(un:Un (frs l) [] H H' h0 h1)(k:B.StaysIn h1)(k':B.StaysIn h2)(sm:h1.UpToSlots h2)
  (bs:∀ b o,h0.get? b=some o->b ∉ frs l->∃ o',B.get? b=some o') (hfr:∀ b∈frs l,H b=none):Un (frs l) [] H H' h0 h2:=by
 have slot_:∀ b o,h0.get? b=some o->H b=none->b∈frs l->∃ sl,h2.get? b=some { o with slots:=sl }:=λb o e n hb=>by
  obtain⟨_,of,hof,hnf⟩:=hF.mem hb
  rw[e] at hof
  cases hof
  obtain⟨s2,e2⟩:=un.slot b _ e n hb (by simp)
  obtain⟨s3,e3⟩:=sm b _ e2 hnf
  exact⟨s3,e3⟩
 refine⟨λb o e n hb _=>?_,λb o e n hb _=>slot_ b o e n hb,un.free,λb o e _=>?_,un.tups,un.frzs,un.tbls⟩
 ·obtain⟨o',eb⟩:=bs b o e hb
  exact vp k k' (un.keep b o e n hb (by simp)) eb
 ·by_cases hb:b∈frs l
  ·obtain⟨sl,e1⟩:=slot_ b o e (hfr b hb) hb
   exact⟨_,e1⟩
  ·obtain⟨o',eb⟩:=bs b o e hb
   exact⟨o',k' b o' eb⟩
section
variable {X:Cx}{pins:List (Addr×Obj)}{σ:St}{H:Hp}{s:Shared}{h':Heap}
theorem Inv.track {o:HO}(I:Inv X pins σ H s)(n0:X.s₀.heap.get? a=none)(hL:a≠X.env.locals)(hc:∀ x c,X.env.cells.lookup x=some c->c≠a)(hp:∀ p∈X.pn++pins,p.1≠a)(hn:H a=none)
  (ok:ji X.prog X.w (upd H a o) s.heap a o):Inv X pins σ (upd H a o) s:=by
 refine⟨I.ok,I.os,I.bare,⟨λb ob e n hb hx=>I.base.keep b ob e n hb hx,λb ob e n hb hx=>I.base.slot b ob e n hb hx,λb ob e n hx=>?_,I.base.there,λb xs e=>?_,λb ob u e=>?_,λb ps e=>?_⟩,I.loc,I.cell,?_,λx c e=>?_,λp hp'=>?_,λb u e=>?_,I.len⟩
 ·rw[qp (λz=>by rw[z,n0] at e;cases e)]
  exact I.base.free b ob e n hx
 ·have q:=I.base.tups b xs e
  rw[qp (qj q hn)]
  exact q
 ·have q:=I.base.frzs b ob u e
  rw[qp (qj q hn)]
  exact q
 ·obtain⟨more,q⟩:=I.base.tbls b ps e
  exact⟨more,by rw[qp (qj q hn)];exact q⟩
 ·rw[qp (Ne.symm hL)]
  exact I.free
 ·rw[qp (hc x c e)]
  exact I.freeC x c e
 ·obtain⟨e,n,r⟩:=I.pin p hp'
  exact⟨e,by rw[qp (hp p hp')];exact n,r⟩
 ·by_cases hb:b=a
  ·subst hb
   rw[qg] at e
   cases e
   exact ok
  ·rw[qp hb] at e
   exact(I.hok b u e).stay (λc v _ q=>q) (λc q=>by rw[qp (qj q hn)];exact q) λc xs q=>by rw[qp (qj q hn)];exact q
theorem Inv.nameGone {n:Str}{v:Option Value}{m:Str->Option Value}{t':Nat}(I:Inv X pins σ H s)(hN:X.N.Nodup)(hj:X.N[j]?=some n)(hm:s.heap.Ns X.env.locals m)
  (hl:∀ (i:Nat) (x:Str) (v:V),X.N[i]?=some x->σ[i]?=some (some v)->Vis X.env.scope x->∃ u,zV v u/\Look X.env s.heap m x u)
  (hn:h'.Ns X.env.locals (λx=>if x=n then v else m x)) (hs:Heap.SameBut X.env.locals s.heap h'):Inv X pins (σ.set j none) H { s with heap:=h',toks:=t' }:=by
 obtain⟨oL,_,_,hoL,_⟩:=id hm
 have cne:=I.cne
 refine⟨I.ok,I.os,I.bare,⟨λb o e n hb hx=>?_,λb o e n hb hx=>?_,I.base.free,λb o e hx=>?_,I.base.tups,I.base.frzs,I.base.tbls⟩,⟨_,hn,λi y v' e1 e2 e3=>?_⟩,λy c e=>?_,I.free,I.freeC,λp hp=>?_,λb ob e=>?_,by simpa using I.len⟩
 ·exact(hs.2 b (Nat.ne_of_lt (Nat.lt_of_lt_of_le (Heap.lt_size e) I.ok.above))).trans (I.base.keep b o e n hb hx)
 ·obtain⟨sl,e1⟩:=I.base.slot b o e n hb hx
  exact⟨sl,(hs.2 b (Nat.ne_of_lt (Nat.lt_of_lt_of_le (Heap.lt_size e) I.ok.above))).trans e1⟩
 ·obtain⟨o',e1⟩:=I.base.there b o e hx
  exact⟨o',(hs.2 b (Nat.ne_of_lt (Nat.lt_of_lt_of_le (Heap.lt_size e) I.ok.above))).trans e1⟩
 ·have hij:i≠j:=by
   rintro rfl
   by_cases hlt:i<σ.length
   ·rw[List.getElem?_set_self hlt] at e2
    cases e2
   ·rw[List.getElem?_eq_none (by simpa using hlt)] at e2
    cases e2
  rw[List.getElem?_set_ne (Ne.symm hij)] at e2
  obtain⟨u',r',q⟩:=hl i y v' e1 e2 e3
  refine⟨u',r',?_⟩
  rcases q with⟨k,e⟩|⟨k,c,e,z⟩
  ·refine .inl ⟨k,?_⟩
   have:y≠n:=λe=>hij (Qq hN e1 (e ▸ hj))
   simp[this,e]
  ·exact .inr ⟨k,c,e,z.sameBut hs (cne y c e)⟩
 ·obtain⟨w',z⟩:=I.cell y c e
  exact⟨w',z.sameBut hs (cne y c e)⟩
 ·obtain⟨e,n,ne,nf,d⟩:=I.pin p hp
  exact⟨(hs.2 p.1 ne).trans e,n,ne,nf,d⟩
 ·refine(I.hok b ob e).stay (λc w' hc q=>(hs.2 c ?_).trans q) (λ_ q=>q) λ_ _ q=>q
  rintro rfl
  rcases hc with rfl|hc
  ·rw[I.free] at e;cases e
  ·rw[I.free] at hc;cases hc
end
abbrev Cx.inExc (X:Cx)(e:Value):Cx:={ X with A:=X.A.mark (some e),calm:=false,xe:=λ_ _=>False }
theorem Inv.inExc (I:Inv X pins σ H s)(e:Value):Inv (X.inExc e) pins σ H s:=
 ⟨{ I.ok with hd:=λh=>absurd h Bool.false_ne_true,frames:=I.ok.frames },I.os,I.bare,I.base,I.loc,I.cell,I.free,I.freeC,I.pin,I.hok,I.len⟩
theorem Inv.outExc {e:Value}(ok:X.Ok)(I:Inv (X.inExc e) pins σ H s):Inv X pins σ H s:=
 ⟨ok,I.os,I.bare,I.base,I.loc,I.cell,I.free,I.freeC,I.pin,I.hok,I.len⟩
def tTry (K:PySem.W.Frag)(P:Addr)(sp:Sp)(ta:TA)(i j k:Nat):TS:=λD σ H=>ta σ H λvs H1=>sp vs H1 (λv H2=>D.nx (σ.set i (some v)) H2)
 (λc _ H2=>∃ C,c=.ref C/\PySem.W.exmOne K (.ref C) (.ref P)=some true/\∀ a,H2 a=none->D.nx (((σ.set j (some (.ref a))).set k (some (.ref a))).set j none) (upd H2 a (.ext (wI a C))))
theorem vB {kf:Nat}{P:Addr}{fn n y pn:Str}{e:Expr}{es:List Expr}{ta:TA}{px np cpos apos clp py np2 spos hpos:Pos}
  (hstk:X.stack=X.env::X.outer) (hfr:X.env.frame=some X.env.locals) (hex:X.ex=[])
  (F:jA X.prog X.w X.K X.mg X.base (CX1 X.prog X.w) kf f fd ps sp) (hr:vR kf X.A) (hg:Gl X fn) (hm:X.mg fn=some (.ref f)) (hk:PySem.W.keepIn X.K (.ref f)=true) (hb:Qd X.K fd ps [])
  (ha:PA X.nox (e::es) ta) (hN:X.N.Nodup) (hi:X.N[i]?=some x) (hx:Loc X.env.scope x) (hj:X.N[j]?=some n) (hn:X.env.scope.names.lookup n=some .local) (hkk:X.N[k]?=some y) (hy:Loc X.env.scope y)
  (hgp:Gl X pn) (hmp:X.mg pn=some (.ref P)) (hfx:X.fn x=true\/X.env.scope.names.lookup x=some .local:=by first|exact .inl rfl|exact .inr rfl|assumption)
  (hfy:X.fn y=true\/X.env.scope.names.lookup y=some .local:=by first|exact .inl rfl|exact .inr rfl|assumption)
  (hdb:(fn == ("__debug__":Str))=false:=by decide) (hdp:(pn == ("__debug__":Str))=false:=by decide) (hdn:(n == ("__debug__":Str))=false:=by decide) (hdc:(n == ("__classdict__":Str))=false:=by decide)
  (he:starEach (e::es) X.env=(false,eval e X.env)::starEach es X.env:=by rfl) (hpl:(backTo cpos (starEach es X.env)).any (·.1)=false:=by rfl)
  (hs:swapsWith (.Call (.Name fn np) (e::es) [] cpos) (some (.Name x px)) apos.line X.env=pure false:=by rfl) (hs2:swapsWith (.Name n np2) (some (.Name y py)) spos.line X.env=pure false:=by rfl):
  PS X (.Try [.Assign [.Name x px] (.Call (.Name fn np) (e::es) [] cpos) apos] [.ExceptHandler (some (.Name pn clp)) (some n) [.Assign [.Name y py] (.Name n np2) spos] hpos] [] [] tpos) (tTry X.K P sp ta i j k):=by
 intro pins s σ H D I h
 refine wpAny_Try_except (wpAny_execs_cons (wpAny_Assign_Name ?_ hs))
 refine wpAny_Call_Name_kw (yr I hg hm ?_ hdb)
 refine PySem.W.callWith_K (h₀:=X.base) I.ok.mod.kin hk (wpAny_noRaise (thn (ha cpos pins s σ H _ (I.wish _) h) λus s1 ⟨vs,H1,I1',r,q⟩=>?_)) he hpl
 have I1:Inv X pins σ H1 s1:=I1'.unwish
 refine⟨I1.kIn,?_⟩
 have hl:us.length=ps.length:=by rw[<-r.length];exact F.len _ _ _ _ q
 have hbd:BindsTo s1 fd ⟨us,[]⟩ (ps.zip us):=by
  have z:=hb s1 us I1.kIn (by rw[List.append_nil];exact hl)
  rw[List.append_nil] at z
  exact z
 refine wpAny_call (codeAny_mono (F.run X.A X.stack s1 H1 ⟨us,[]⟩ us vs _ _ hr I1.env0 hbd r q) λr s' hq=>?_)
 cases r with
 |ok fl=>
  cases fl with
  |ret u=>
   obtain⟨v,H2,I2,rv,q2⟩:=I1.after hq
   exact wQ I2 hN hi hx rv (λs3 I3=>wpAny_execs_nil (wpAny_execs_nil ⟨_,H2,I3,q2⟩)) hfx
  |next=>exact False.elim hq
  |brk=>exact False.elim hq
  |cont=>exact False.elim hq
 |error ev=>
  obtain⟨a,C,a0,B,H2,rfl,os,bare,un,hok,fl,bs,bt,C'',ec,exm,q2⟩:=hq
  cases ec
  have frm:X.A.frames=some (X.env::X.outer):=by rw[<-hstk];exact I1.ok.frames
  rw[hstk] at fl
  refine wpAny_looks_onW frm hfr fl λh4 held4 sm4=>?_
  refine wpAny_landsW held4 λh5 fl5 sm5=>?_
  have inv_of:∀ {h6:Heap} {tk:Nat},Heap.FlyingW B (X.env::X.outer) a (.ref C) a0 h6->s'.heap.UpToSlots h6->Inv X pins σ H2 { s' with heap:=h6,toks:=tk }:=λ{h6 tk} fl6 sm6=>
   I1.call' (ch:=[]) (s':={ s' with heap:=h6,toks:=tk }) os (Un.fly I1.stack un fl.1 fl6.1 sm6 bs I1.stkFree) (hok.inB fl.1 fl6.1 bt) bare (λb z=>absurd z (by simp))
  have I5:Inv X pins σ H2 { s' with heap:=h5,toks:=s'.toks }:=inv_of fl5 (sm4.trans sm5)
  have ty:PySem.W.Looks (model X.prog X.w) h5 (typeOf (.ref a)) (.ref C):=by
   obtain⟨ob,hob,hc'⟩:=fl5.there
   rw[<-hc']
   exact(PySem.W.Looks.ld hob).andThen .now
  refine wpAny_handleBy_cons (codeAny_handlers_test (yr (X:=X.inExc (.ref a)) (I5.inExc (.ref a)) hgp hmp ((PySem.W.exm_one (h:=h5) I5.kIn ty exm).here ?_) hdp)) (by intro q;cases q)
  refine codeAny_handlers_suite_as ?_
  refine lands_againW fl5 λh6 fl6 sm6=>?_
  have I6:Inv X pins σ H2 { s' with heap:=h6,toks:=s'.toks }:=inv_of fl6 ((sm4.trans sm5).trans sm6)
  obtain⟨oe,ws,hoe,hoec,hoed,_⟩:=fl6.first
  have nfr:a ∉ frs X.stack:=λz=>by
   rw[hstk] at z
   obtain⟨_,of,hof,hnf⟩:=fl6.2.2.1.mem z
   rw[hoe] at hof
   cases hof
   exact hnf _ hoed
  have n1:s1.heap.get? a=none:=by
   cases g:s1.heap.get? a with
   |none=>rfl
   |some o=>
    obtain⟨o',eb⟩:=bs a o g nfr
    rw[fl.2.1] at eb
    cases eb
  have n0:X.s₀.heap.get? a=none:=by
   cases g:X.s₀.heap.get? a with
   |none=>rfl
   |some o=>
    obtain⟨o',e'⟩:=I1.base.there a o g (by rw[hex];simp)
    rw[n1] at e'
    cases e'
  have hn2:H2 a=none:=by
   cases g:H2 a with
   |none=>rfl
   |some o=>
    obtain⟨o',eb⟩:=bt a o g
    rw[fl.2.1] at eb
    cases eb
  have hL:a≠X.env.locals:=λz=>nfr (by rw[hstk,Qy hfr,z];exact List.mem_cons_self)
  have I7:Inv X pins σ (upd H2 a (.ext (wI a C))) { s' with heap:=h6,toks:=s'.toks }:=
   I6.track n0 hL (λx c e z=>by
    obtain⟨v,o,q,_⟩:=I1.cell x c e
    rw[z,n1] at q
    cases q) (λp hp z=>by
    have q:=(I1.pin p hp).1
    rw[z,n1] at q
    cases q) hn2 (KH ⟨oe,ws,hoe,hoec,hoed⟩)
  refine wQ (X:=X.inExc (.ref a)) (v:=.ref a) (I7.inExc (.ref a)) hN hj (.inl hn) rfl (λs8 I8=>?_) (.inr hn)
  have suite:=qy (X:=X.inExc (.ref a)) (i:=k) (e:=.Name n np2) (pos:=spos) (pos':=py) hN hkk hy (WD (X:=X.inExc (.ref a)) (i:=j) hj (.inl hn) hdn hdc) hs2 hfy
  have len:j<σ.length:=by rw[I.len];exact(List.getElem?_eq_some_iff.mp hj).1
  refine wpAny_execs_cons (wpAny_noRaise (thn (suite pins s8 _ _ { nx:=λσ' H'=>σ'=(σ.set j (some (.ref a))).set k (some (.ref a))/\H'=upd H2 a (.ext (wI a C)),rt:=λ_ _=>False } I8
   (show asV (List.set σ j (some (V.ref a)))[j]? _ by rw[List.getElem?_set_self len];exact⟨rfl,rfl⟩)) λfl s9 q9=>?_))
  cases fl with
  |next=>
   obtain⟨σ9,H9,I9,rfl,rfl⟩:=q9
   refine wpAny_execs_nil ?_
   have I9':Inv X pins _ _ s9:=Inv.outExc I.ok I9
   obtain⟨m,hm9,hl9⟩:=id I9'.loc
   have hp:(X.env.scope.kind == .class || (X.env.scope.kind == .module && X.env.locals != X.env.globals))=false:=by rw[I.ok.kind];rfl
   refine wpAny_nameGoes_keeps hn hm9 hp λh10 v10 hn10 hs10=>?_
   exact⟨_,_,I9'.nameGone hN hj hm9 hl9 hn10 hs10,q2 a hn2⟩
  |brk=>obtain⟨_,_,_,z⟩:=q9;exact False.elim z
  |cont=>obtain⟨_,_,_,z⟩:=q9;exact False.elim z
  |ret v=>obtain⟨_,_,_,_,_,z⟩:=q9;exact False.elim z
theorem Fun.ok1 {mg:Str->Option Value}{base:Heap}{N:List Str}(F:Fun K x qual st f fd)(S:qE N ps (q8 st))
  (len:∀ vs H Q E,sp vs H Q E->vs.length=ps.length)
  (hbody:∀ (cdv:Value) (A:Around) (outer:List Env) (s:Shared) (H:Hp) (vs:List V) (Q:VK) (E:XK),vR k (A.deeper (envOfC qual (q8 st) s.heap.objs.size f cdv))->sp vs H Q E ->
   ∃ t,PSs (xO (CX1 P w) P w K mg base N qual (q8 st) f cdv A outer s H E) (qk st) t/\t { nx:=λ_ H'=>Q .non H',rt:=Q } (wG N vs) H):jA P w K mg base (CX1 P w) (k+1) f fd ps sp:=by
 obtain⟨oc,od,kV,doc,pm,an,cdv,ct,osl,rfl,lk,hcd⟩:=F.ex
 exact fn_of lk hcd S len λA outer s H vs Q E hr hsp=>hbody cdv A outer s H vs Q E hr hsp
def Xr (kb:List (Key×V)):List (Key×V)->Bool
 |[]=>true
 |(k,v)::r=>match jG kb k with
  |none=>false
  |some y=>eqV v y && Xr kb r
theorem Zk {A:Around}{s:Shared}{kb:List (Key×V)}{wb:List (Key×Value)}(rb:KV kb wb)(fb:∀ p∈kb,xA p.2=true):∀ {ka:List (Key×V)} {wa:List (Key×Value)},KV ka wa->(∀ p∈ka,xA p.2=true)->PySem.W.KeqHits A s wb wa (Xr kb ka)
 |_,_,.nil,_=>.nil
 |(k,v)::r,(k',u)::t,.cons h rt,f=>by
  obtain⟨e1,e2⟩:=h
  have e1:k=k':=e1
  subst e1
  have ih:=Zk (A:=A) (s:=s) rb fb rt λp hp=>f p (List.mem_cons_of_mem _ hp)
  have rv:=rb.val k
  unfold Xr
  cases q:jG kb k with
  |none=>
   rw[q] at rv
   exact .miss (yz.none_of rv)
  |some y=>
   rw[q] at rv
   obtain⟨z,hz,rz⟩:=yz.some_of rv
   refine .hit hz (WN e2 rz (f (k,v) List.mem_cons_self) ?_) ih
   have hm:∃ p∈kb,p.2=y:=by
    unfold jG at q
    obtain⟨p,hp,e⟩:=Option.map_eq_some_iff.mp q
    exact⟨p,List.mem_of_find?_eq_some hp,e⟩
   obtain⟨p,hp,rfl⟩:=hm
   exact fb p hp
structure KC (K:PySem.W.Frag)(C:Addr):Prop where
 ga:PySem.W.findIn K (.ref C) "__getattribute__"=some (some (.builtin "BaseException.__getattribute__"))
 gn:PySem.W.findIn K (.ref C) "__getattr__"=some none
 cl:PySem.W.findIn K (.ref C) "__class__"=some (some (.builtin "object.__class__"))
 sb:PySem.W.subIn K (.ref C) (.type "BaseException")=some true
 mo:PySem.W.mroIn K C (.type "object")=some true
 ic:(PySem.W.clsIn K C).isSome=true
 hn:PySem.W.specialIn K (.builtin "object.__class__") "__get__"=some (some (.builtin "getset_descriptor.__get__"))
 tk:PySem.W.takesIn K (.builtin "object.__class__")=some true
section
variable {prog:Program}{w:World}{A:Around}{E:Value->Shared->Prop}{s:Shared}{K:PySem.W.Frag}{a C:Addr}{o:Obj}
open PySem.W Builtin Builtin.ObjectAttr Builtin.Getset_descriptor
theorem Qg {R:Result->Shared->Prop}{tp:Value}(X:K.In s.heap)(hx:s.heap.get? a=some o)(hc:o.cls=.ref C)(hm:mroIn K C (.type "object")=some true)
  (h:R (.ok (.ret (.ref C))) s):codeAny (model prog w) A (.call (.builtin "getset_descriptor.__get__") ⟨[.builtin "object.__class__",.ref a,tp],[]⟩) R s:=by
 obtain⟨hh,g,dr,t,os⟩:=s
 have L0:Looks (model prog w) hh (typeOf (.ref a)) (.ref C):=hc ▸ (Looks.ld hx).andThen .now
 have L1:=looks_mroIn (M:=model prog w) X hm
 refine codeAny_call_builtin KF.slot_gs.plain KF.entry_gs (KF.slot_gs.check _ _ _ _ _ _ _ _ KF.type_class (KF.args_gs _ _ _) ?_)
 unfold Builtin.«getset_descriptor.__get__» descrGet
 rw[dga_obj]
 refine wpAny_bind (wpAny_pure ?_)
 unfold descrGetter descrCheckInstance descrNameAndClass isInstance
 simp only[KF.owner_class]
 repeat lk
 refine⟨Code.quiet_builtin _ (by decide +kernel),codeAny_builtin KF.entry_class ?_⟩
 unfold Builtin.«object.__class__» shownTypeOf
 repeat lk
 exact h
theorem KL {M:Model}(X:K.In h)(D:KC K C):Looks M h (find (.ref a) (.ref C) "__class__") (.bind (.builtin "getset_descriptor.__get__") (.builtin "object.__class__")):=by
 have L1:=looks_findIn (M:=M) X D.cl
 have L2:Looks M h (getOf (some (.builtin "object.__class__"))) (some (.builtin "getset_descriptor.__get__")):=looks_specialIn X D.hn
 have L3:=looks_takesIn (M:=M) X D.tk
 exact L1.andThen (L2.andThen ((show Looks M h (dataDescriptor? (some (.builtin "object.__class__")) (some (.builtin "getset_descriptor.__get__"))) (some (.builtin "getset_descriptor.__get__",.builtin "object.__class__")) from L3.andThen .now).andThen (Looks.tag .now)))
theorem Vf {tk:Tok}{Q:Fin->Shared->Prop}(X:K.In s.heap)(D:KC K C)(hx:s.heap.get? a=some o)(hc:o.cls=.ref C)(h:Q (.done (.ret (.ref C))) s):
  wpAny (model prog w) A (Builtin.«object.__getattribute__» ⟨[.ref a,.str "__class__" tk],[]⟩) Q E s:=by
 obtain⟨hh,g,d,t,os⟩:=s
 have L0:Looks (model prog w) hh (typeOf (.ref a)) (.ref C):=hc ▸ (Looks.ld hx).andThen .now
 have LF:=KL (M:=model prog w) (a:=a) X D
 unfold Builtin.«object.__getattribute__»
 refine wpAny_bind (m:=slotArgs "__getattribute__" 1 _) (wpAny_pure ?_)
 refine wpAny_bind (m:=attrName _) (wpAny_pure ?_)
 refine wpAny_bind (L0.at ?_)
 refine wpAny_bind (LF.at ?_)
 unfold bindTo
 dsimp only
 exact wpAny_bind (wpAny_holding (wpAny_call (Qg (s:=⟨hh,g,d,t,os⟩) X hx hc D.mo (wpAny_pure h))))
theorem VL {M:Model}{nameV:Value}{Q:Unit->Shared->Prop}(X:K.In s.heap)(D:KC K C)(hx:s.heap.get? a=some o)(hc:o.cls=.ref C)(h:Q () s):wpAny M A (checkBuiltinCall "BaseException.__getattribute__" ⟨[.ref a,nameV],[]⟩) Q E s:=by
 obtain⟨hh,g,d,t,os⟩:=s
 have L0:Looks M hh (typeOf (.ref a)) (.ref C):=hc ▸ (Looks.ld hx).andThen .now
 have L4:=looks_subIn (M:=M) X D.sb
 have LI:Looks M hh (isInstance (.ref a) (.type "BaseException")) true:=L0.andThen L4
 have hk:builtinKind "BaseException.__getattribute__"=some .slot:=by decide +kernel
 have hsplit:splitId "BaseException.__getattribute__"=some ("BaseException","__getattribute__"):=by decide +kernel
 have ha:=PySem.F.args_bexc_ga (.ref a) nameV
 simp only[checkBuiltinCall,hk,hsplit]
 refine wpAny_bind (LI.at ?_)
 repeat (first|assumption|lk|wp_step)
theorem Vn {Q:Option Value->Shared->Prop}(X:K.In s.heap)(D:KC K C)(hx:s.heap.get? a=some o)(hc:o.cls=.ref C)(h:Q (some (.ref C)) { s with toks:=s.toks+1 }):
  wpAny (model prog w) A (getAttr? (.ref a) "__class__") Q E s:=by
 obtain⟨hh,g,d,t,os⟩:=s
 have L0:Looks (model prog w) hh (typeOf (.ref a)) (.ref C):=hc ▸ (Looks.ld hx).andThen .now
 have L1:=looks_findIn (M:=model prog w) X D.ga
 have L2:=looks_findIn (M:=model prog w) X D.gn
 have f3:=PySem.F.attrBase_ValueError.ga.bind (.ref a)
 unfold getAttr? getAttrBy? getAttrBy
 refine wpAny_bind (wpAny_mkText (wpAny_bind (wpAny_attempt (wpAny_holding (wpAny_bind (L0.at (wpAny_bind (L1.at ?_))))))))
 have hx2:(Value.builtin "BaseException.__getattribute__" == Value.builtin "object.__getattribute__")=false:=by decide +kernel
 dsimp only
 rw[if_neg (by rw[hx2,Bool.and_false];decide)]
 unfold getAttrByItsOwn
 refine wpAny_bind (m:=hookBefore (.ref C)) (L2.at ?_)
 refine wpAny_bind (wpAny_attempt (wpAny_holding ?_))
 show wpAny _ _ (boundAndCalled _ _ _) _ _ _
 unfold boundAndCalled
 refine wpAny_bind (wpAny_of_eq f3 ?_)
 dsimp only
 refine wpAny_call (codeAny_call_builtin PySem.F.attrBase_ValueError.ga.plain PySem.F.entry_bexc_ga (VL (s:=⟨hh,g,d,t+1,os⟩) X D hx hc (Vf (s:=⟨hh,g,d,t+1,os⟩) X D hx hc ?_)))
 exact handed_on rfl (wpAny_pure h)
theorem JT (D:KC K C):KitX K (.ref a) (.ref C) (wI a C) where
 ty:=λM h _ ⟨o,vs,e,c,_⟩=>c ▸ (Looks.ld e).andThen .now
 it:=λ_ _ X _=>by
  have hi:=D.ic
  unfold clsIn at hi
  split at hi
  ·rename_i c' d' cd' sl' ho
   intro A' Q' E' s' k q
   unfold isType loadHead
   exact wpAny_bind (wpAny_loadPart (k _ _ (X _ _ ho)) (wpAny_pure q))
  ·cases hi
 ne:=λh tp dd its n sl X htp=>by
  have hi:=D.ic
  refine Bool.eq_false_iff.mpr λq=>?_
  have e:C=tp:=Value.ref.inj (beq_iff_eq.mp q)
  subst e
  unfold clsIn at hi
  split at hi
  ·rename_i c' d' cd' sl' ho
   have z:=(X _ _ ho).symm.trans htp
   cases z
  ·cases hi
 ca:=λX ⟨o,vs,e,c,_⟩ k=>Vn X D e c k
end
def cvOf:V->Option Value
 |.ref a=>some (.ref a)
 |.ty n=>some (.type n)
 |_=>none
theorem Jz {c:V}{cw u:Value}(h:cvOf c=some cw)(r:zV c u):u=cw:=by
 cases c with
 |ref a=>cases h;exact r
 |ty n=>cases h;exact r
 |_=>cases h
theorem JR:∀ {cs:List V} {cws us:List Value},cs.map cvOf=cws.map some->zA cs us->us=cws
 |[],[],_,_,.nil=>rfl
 |[],_::_,_,h,_=>by cases h
 |_::_,[],_,h,_=>by cases h
 |c::cs,w::ws,_,h,.cons r rt=>by
  rw[List.map_cons,List.map_cons] at h
  injection h with h1 h2
  rw[Jz h1 r,JR h2 rt]
def YS (K:PySem.W.Frag)(H:Hp)(x:V)(t:Value):Prop:=XJ K H x t\/∃ a C,x=.ref a/\t=.ref C/\H a=some (.ext (wI a C))/\KC K C
def rIsi (K:PySem.W.Frag):List V->Hp->VK->Prop:=λxs H Q=>∃ x c t b,xs=[x,c]/\YS K H x t /\
 ((∃ cw,cvOf c=some cw/\PySem.W.kitOne K t cw=some b)\/(∃ tp cs cws,c=.ref tp/\H tp=some (.tup cs)/\cs.map cvOf=cws.map some/\(∃ a C,x=.ref a/\t=.ref C/\H a=some (.ext (wI a C))/\KC K C)/\PySem.W.kitAny K t cws=some b))/\Q (.bl b) H
theorem wM:we X (.builtin "isinstance") (rIsi X.K):=by
 intro pins s σ H xs us Q I r h
 obtain⟨x,c,t,b,rfl,ty,h,q⟩:=h
 cases r with
 |cons rx rr=>
  cases rr with
  |cons rc rn=>
   cases rn
   rcases h with⟨cw,hc,e⟩|⟨tp,cs,cws,rfl,ht,hm,⟨a,C,rfl,rfl,ha,D⟩,e⟩
   ·have ec:=Jz hc rc
    subst ec
    rcases ty with ty|⟨a,C,rfl,rfl,ha,D⟩
    ·exact VC I rx ty e λtk=>⟨.bl b,H,I.tok tk,rfl,q⟩
    ·cases rx
     obtain⟨p,_⟩:=I.hok a _ ha
     exact PySem.W.kia_one (JT D) I.kIn p e (λz=>nomatch z) λtk=>⟨.bl b,H,I.tok tk,rfl,q⟩
   ·cases rx
    cases rc
    obtain⟨p,_⟩:=I.hok a _ ha
    obtain⟨_,its,rv,⟨⟨oc,od,odt,osl⟩,h1,h2,n,h3⟩⟩:=I.hok tp _ ht
    dsimp only at h2 h3
    subst h2 h3
    have ei:=JR hm rv
    subst ei
    exact PySem.W.kia_tup (JT D) I.kIn p h1 e (λz=>nomatch z) λtk=>⟨.bl b,H,I.tok tk,rfl,q⟩
theorem zA.get' {us:List Value}{u:Value}(r:zA xs us)(h:us[i]?=some u):∃ x,xs[i]?=some x/\zV x u:=by
 have lt:i<xs.length:=by rw[r.length];exact(List.getElem?_eq_some_iff.mp h).1
 obtain⟨u',h',r'⟩:=r.get (List.getElem?_eq_getElem lt)
 rw[h] at h'
 cases h'
 exact⟨_,List.getElem?_eq_getElem lt,r'⟩
theorem ZF (bs:List Bool):((List.range bs.length).all λi=>(bs[i]?).getD true)=bs.all id:=by
 induction bs with
 |nil=>rfl
 |cons b r ih=>
  rw[List.length_cons,List.range_succ_eq_map,List.all_cons,List.all_map,List.all_cons,<- ih]
  rfl
theorem Q6 (hc:X.calm=true):we X (.builtin "all") (λxs H Q=>∃ (a:Addr) (bs:List Bool),xs=[.ref a]/\SqL X.K H a (bs.map V.bl)/\Q (.bl (bs.all id)) H):=by
 intro pins s σ H xs us Q I r h
 obtain⟨a,bs,rfl,hq,q⟩:=h
 obtain⟨u,rfl,ru⟩:=X8 r
 cases ru
 obtain⟨its,rv,p,hz⟩:=I.list hq
 have hl:s.heap.IsList a its.toArray:=p.isList
 have hlt:a<s.heap.objs.size:=by obtain⟨_,e,_⟩:=hl;exact Heap.lt_size e
 refine call_all_walk (wpAny_pyIter_list hl ?_)
 refine⟨s.heap.objs.size,[s.heap.objs.size,a],[s.heap.objs.size],its.toArray.size,_,_,λi=>(bs[i]?).getD true,rfl,Walks.list (A:=X.A.in1) (I.ok.hd hc) _ a (Nat.ne_of_lt hlt) its.toArray,
  ⟨⟨_,Heap.get?_push_size _ rfl,rfl,rfl⟩,hl.push _⟩,λi v s' Q' E' hP hQ=>?_,λh' tk hk=>?_⟩
 ·obtain⟨x,hx,rx⟩:=rv.get' (by simpa using hP)
  rw[List.getElem?_map] at hx
  cases e:bs[i]? with
  |none=>rw[e] at hx;cases hx
  |some b=>
   rw[e] at hx
   cases hx
   cases rx
   simp only[e,Option.getD_some] at hQ
   exact wpAny_truthy_bool hQ
 ·have e1:its.toArray.size=bs.length:=by
   have:=rv.length
   simp only[List.length_map] at this
   simp[this]
  rw[e1,ZF]
  exact⟨.bl _,H,I.kept (λb o e=>hk b o (λhm=>by rw[List.mem_singleton.mp hm] at e;exact Nat.lt_irrefl _ (Heap.lt_size e)) (Heap.get?_push_of_some _ e)),rfl,q⟩
end L2
namespace L2
open PySem PySem.Spec PyProof.Rows
def cs (S:Nat->Bool):List Nat:=(List.range 6).filter S
theorem W3 {S S':Nat->Bool}(h:∀ i<6,S i=S' i):cs S=cs S':=List.filter_congr λi hi=>h i (List.mem_range.mp hi)
def el (tg:Nat->Tok)(k:Nat):Int×Value:=(Int.ofNat k,.int (Int.ofNat k) (tg k))
def tb (m:Nat)(ks:List Nat)(fg mv:Nat)(led:Bool):SetTable:={ mask:=m,place:=ks.toArray,dummies:=#[],finger:=fg,led:=led,moves:=mv,plain:=true }
def sObj (tg:Nat->Tok)(ep m:Nat)(ks:List Nat)(fg mv:Nat)(led:Bool):Obj:={ cls:=.type "set",data:=.set (ks.map (el tg)).toArray ep (tb m ks fg mv led) }
def okM (m n:Nat):Prop:=(m=7/\n<=4)\/m=15\/m=31
def XV (bt:Bool)(h:Heap)(a:Addr)(S:Nat->Bool):Prop:=∃ tg ep m fg mv,h.get? a=some (sObj tg ep m (cs S) fg mv (!bt))/\okM m (cs S).length
theorem okM.mem {m n:Nat}(h:okM m n):m∈[7,15,31]:=by
 rcases h with⟨rfl,_⟩|rfl|rfl <;> decide
section
variable {P:Program}{w:World}{A:Around}{E:Value->Shared->Prop}{s:Shared}{bt:Bool}{a:Addr}{S:Nat->Bool}
theorem XV.congr {h:Heap}{S':Nat->Bool}(C:XV bt h a S)(e:∀ i<6,S i=S' i):XV bt h a S':=by
 obtain⟨tg,ep,m,fg,mv,ho,hm⟩:=C
 rw[W3 e] at ho hm
 exact⟨tg,ep,m,fg,mv,ho,hm⟩
theorem XV.at {h h':Heap}(C:XV bt h a S)(k:∀ o,h.get? a=some o->h'.get? a=some o):XV bt h' a S:=
 let ⟨tg,ep,m,fg,mv,ho,hm⟩:=C
 ⟨tg,ep,m,fg,mv,k _ ho,hm⟩
end
abbrev btOf (w:World):Bool:=w.params.followText "set-order"
section
variable {P:Program}{w:World}{A:Around}{E:Value->Shared->Prop}{s:Shared}{a:Addr}{S:Nat->Bool}{tg:Nat->Tok}{ep m fg mv:Nat}
def order (w:World)(tg:Nat->Tok)(S:Nat->Bool)(a:Addr)(ep:Nat):Array (Int×Value):=cond (btOf w) (pickOrder (w.params.setOrder a ep) ((cs S).map (el tg)).toArray) ((cs S).map (el tg)).toArray
end
end L2
namespace L2
open PySem PySem.Spec PyProof.Rows
section
variable {P:Program}{w:World}{A:Around}{E:Value->Shared->Prop}{s:Shared}{a b:Addr}{R S:Nat->Bool}
theorem XV.ty {bt:Bool}(C:XV bt s.heap a S):s.TypeIs (.ref a) "set":=let ⟨_,_,_,_,_,ho,_⟩:=C;⟨_,ho,rfl⟩
theorem XV.lt {bt:Bool}{h:Heap}(C:XV bt h a S):a<h.objs.size:=let ⟨_,_,_,_,_,ho,_⟩:=C;Heap.lt_size ho
end
end L2
namespace L2
open PySem PySem.Spec PyProof.Rows
end L2
namespace L2
open PySem PySem.Spec PyProof.Rows
end L2
namespace L2
open PySem PySem.Spec PyProof.Rows
def inL (ns:List Int)(j:Nat):Bool:=ns.contains (Int.ofNat j)
def SO (w:World)(a:Addr)(S:Nat->Bool):HO:=.ext λh=>XV (btOf w) h a S
theorem SO.ok {P:Program}{w:World}{H:Hp}{h:Heap}{a:Addr}{S:Nat->Bool}(C:XV (btOf w) h a S):ji P w H h a (SO w a S):=
 ⟨C,let ⟨_,_,_,_,_,ho,_⟩:=C;⟨_,ho⟩,λ_ _ C k=>C.at k⟩
def Itv (K:PySem.W.Frag)(a:Addr)(n:Nat):It:=
 ⟨λi H=>i<n/\∃ xs x,SqL K H a xs/\xs.length=n/\xs.reverse[i]?=some x,λi H x H'=>H'=H/\∀ xs,SqL K H a xs->xs.reverse[i]?=some x,λi _=>n<=i⟩
def iRev (K:PySem.W.Frag)(ta:TA):TI:=λσ H R=>ta σ H λvs H1=>∃ a xs,vs=[.ref a]/\SqL K H1 a xs/\R (Itv K a xs.length) H1
def VA (z:Str)(N:List Str)(cap:List (Option Nat))(scope osc:Scope)(on:List Str):Bool:=
 (scope.kind == .function) && (scope.names.filter (λy=>y.2 == .cell) == [(z,.cell)]) && scope.names.all (λy=>y.2 != .free || (osc.names.lookup y.1 == some .cell && y.1 != z)) && scope.names.all (λy=>y.2 != .local || scope.names.lookup y.1 == some .local) && decide N.Nodup && vL on scope.names cap N
structure jb (z:Str)(X:Cx)(N:List Str)(cap:List (Option Nat))(scope osc:Scope)(on:List Str):Prop where
 hosc:X.env.scope=osc
 hon:X.N=on
 ok:VA z N cap scope osc on=true
section
variable {z:Str}{X:Cx}{N:List Str}{cap:List (Option Nat)}{scope osc:Scope}{on:List Str}(S:jb z X N cap scope osc on)
include S
theorem jb.parts:scope.kind=.function/\scope.names.filter (λy=>y.2 == .cell)=[(z,.cell)]/\(∀ y∈scope.names,y.2=.free->osc.names.lookup y.1=some .cell/\y.1≠z)/\(∀ y∈scope.names,y.2=.local->scope.names.lookup y.1=some .local)/\N.Nodup/\vL on scope.names cap N=true:=by
 have h:=S.ok
 unfold VA at h
 simp only[Bool.and_eq_true,beq_iff_eq,List.all_eq_true,decide_eq_true_eq,Bool.or_eq_true,bne_iff_ne,ne_eq] at h
 obtain⟨⟨⟨⟨⟨a,b⟩,c⟩,d⟩,e⟩,f⟩:=h
 exact⟨a,b,λy hy q=>(c y hy).resolve_left λz=>z q,λy hy q=>(d y hy).resolve_left λz=>z q,e,f⟩
theorem jb.kind:scope.kind=.function:=S.parts.1
theorem jb.one:scope.names.filter (λy=>y.2 == .cell)=[(z,.cell)]:=S.parts.2.1
theorem jb.free:∀ y∈scope.names,y.2=.free->osc.names.lookup y.1=some .cell:=λy hy e=>(S.parts.2.2.1 y hy e).1
theorem jb.ne:∀ y∈scope.names,y.2=.free->y.1≠z:=λy hy e=>(S.parts.2.2.1 y hy e).2
theorem jb.loc:∀ y∈scope.names,y.2=.local->scope.names.lookup y.1=some .local:=S.parts.2.2.2.1
theorem jb.clen:cap.length=N.length:=w4 S.parts.2.2.2.2.2
theorem jb.caps {j i:Nat}{x:Str}(h1:cap[j]?=some (some i))(h2:N[j]?=some x):X.N[i]?=some x/\(∀ y∈scope.names,y.1=x->y.2=.free)/\(x,NameKind.free)∈scope.names:=by
 rw[S.hon]
 exact kZ S.parts.2.2.2.2.2 h1 h2
theorem jb.cell {y:Str×NameKind}(hy:y∈scope.names)(e:y.2=.cell):y.1=z:=by
 have:y∈scope.names.filter (λy=>y.2 == .cell):=List.mem_filter.mpr ⟨hy,by rw[e];rfl⟩
 rw[S.one] at this
 rw[List.mem_singleton.mp this]
end
end L2
namespace L2
open PySem PySem.Spec PyProof.Rows
variable {xs:List V}{P prog:Program}{w:World}{K:PySem.W.Frag}{elts:List Expr}{tpos p pos:Pos}{a b it t z i1 i2 l1 l2:Addr}{X:Cx}{ta:TA}{σ:St}{H:Hp}{Q E:Value->Shared->Prop}{i n1 n2 k1 k2:Nat}{items:Array Value}{A:Around}{s:Shared}{P1 P2:Nat->Value->Prop}{S1 S2:Nat->Heap->Prop}{h:Heap}{f:Bool}{oa:Obj}
def tTryN (K:PySem.W.Frag)(P:Addr)(sp:Sp)(ta:TA)(i k:Nat):TS:=λD σ H=>ta σ H λvs H1=>sp vs H1 (λv H2=>D.nx (σ.set i (some v)) H2)
 (λc _ H2=>∃ C,c=.ref C/\PySem.W.exmOne K (.ref C) (.ref P)=some true/\D.nx (σ.set k (some .non)) H2)
def tOrT (K:PySem.W.Frag)(ta tb:TE):TE:=λσ H Q=>ta σ H λx H1=>∃ k,TruV K x H1 k/\if k=true then Q x H1 else tb σ H1 Q
section
variable {X:Cx}{pins:List (Addr×Obj)}{σ:St}{H:Hp}{s:Shared}{h':Heap}{t':Nat}{l:List Addr}
theorem Inv.turnedL {us:List Value}{n:Nat}(I:Inv X pins σ H s)(hf:∀ b∈l,ZX X pins H b)(kk:∀ b o,b ∉ l->s.heap.get? b=some o->h'.get? b=some o)
  (ht:h'.get? s.heap.objs.size=some { cls:=.type "tuple",data:=.seq us.toArray n }) (r:zA xs us) (hl:xs.length<=sizeLine):
  Inv X pins σ (upd H s.heap.objs.size (.tup xs)) { s with heap:=h',toks:=t' }:=by
 have hn:H s.heap.objs.size=none:=I.hok.fresh (Nat.le_refl _)
 have nit:∀ b u,H b=some u->b ∉ l:=λb u q z=>by rw[(hf b z).1] at q;cases q
 refine I.step (g':=s.gens) (d':=s.drawn) (ch:=l) (λb hb=>⟨(hf b hb).2.2.2.1,(hf b hb).2.1,(hf b hb).2.2.2.2.1,(hf b hb).2.2.2.2.2⟩) (λb o _ _ hc q _=>kk b o hc q) (λb o _ _ hc q _=>⟨o.slots,kk b o hc q⟩)
  (λb o _ q n=>by rw[qp (Nat.ne_of_lt (Heap.lt_size q))];exact n) (λb o hc q=>⟨o,kk b o hc q⟩)
  (λb xs q=>by rw[qp (qj q hn)];exact q) (λb o u q=>by rw[qp (qj q hn)];exact q) (λb ps q=>⟨#[],by rw[qp (qj q hn),q];simp⟩) (λm hm=>?_) (λb u q=>?_) I.bare
 ·obtain⟨o,es,ep,ho,q⟩:=hm
  exact⟨o,es,ep,kk _ o (λz=>(hf _ z).2.1 rfl) ho,q⟩
 ·by_cases hb:b=s.heap.objs.size
  ·subst hb
   rw[qg] at q
   cases q
   exact⟨hl,us,r,_,ht,rfl,n,rfl⟩
  ·rw[qp hb] at q
   refine(I.hok b u q).stay (λc v hc z=>?_) (λc z=>by rw[qp (qj z hn)];exact z) λc ys z=>by rw[qp (qj z hn)];exact z
   rcases hc with rfl|hc
   ·exact kk c v (nit c u q) z
   ·exact kk c v (nit c _ hc) z
theorem Inv.turnedR (I:Inv X pins σ H s)(hf:∀ b∈l,ZX X pins H b)(kk:∀ b o,b ∉ l->s.heap.get? b=some o->h'.get? b=some o):Inv X pins σ H { s with heap:=h',toks:=t' }:=by
 have nit:∀ b u,H b=some u->b ∉ l:=λb u q z=>by rw[(hf b z).1] at q;cases q
 refine I.step (g':=s.gens) (d':=s.drawn) (ch:=l) (λb hb=>⟨(hf b hb).2.2.2.1,(hf b hb).2.1,(hf b hb).2.2.2.2.1,(hf b hb).2.2.2.2.2⟩) (λb o _ _ hc q _=>kk b o hc q) (λb o _ _ hc q _=>⟨o.slots,kk b o hc q⟩)
  (λb o _ q n=>n) (λb o hc q=>⟨o,kk b o hc q⟩)
  (λb xs q=>q) (λb o u q=>q) (λb ps q=>⟨#[],by rw[q];simp⟩) (λm hm=>?_) (λb u q=>?_) I.bare
 ·obtain⟨o,es,ep,ho,q⟩:=hm
  exact⟨o,es,ep,kk _ o (λz=>(hf _ z).2.1 rfl) ho,q⟩
 ·refine(I.hok b u q).stay (λc v hc z=>?_) (λc z=>z) λc ys z=>z
  rcases hc with rfl|hc
  ·exact kk c v (nit c u q) z
  ·exact kk c v (nit c _ hc) z
end
def Itz (K:PySem.W.Frag)(a b:Addr):It:=
 ⟨λi H=>∃ xs ys x y,SqL K H a xs/\SqL K H b ys/\xs[i]?=some x/\ys[i]?=some y,
  λi H z H'=>∃ p x y,H p=none/\z=.ref p/\H'=upd H p (.tup [x,y])/\(∀ xs,SqL K H a xs->xs[i]?=some x)/\∀ ys,SqL K H b ys->ys[i]?=some y,
  λi H=>∃ xs ys,SqL K H a xs/\SqL K H b ys/\(xs.length<=i\/ys.length<=i)⟩
theorem KP {x1}(a b z TI TO i1 i2:Addr)(D:ZipApart z TI TO i1 i2 a b):
  KB P w K (.Tuple elts x1 tpos) (Itz K a b) [z,TI,TO,i1,i2] z (λi h=>IsZip h z TI TO .none/\IsPair h TI (.ref i1) (.ref i2)/\(∃ u v,IsPair h TO u v)/\h.IsListIter i1 a i/\h.IsListIter i2 b i) where
 mem:=by simp
 obj:=λi h st c hc=>by
  obtain⟨h1,h2,⟨u,v,h3⟩,⟨o4,e4,c4,d4⟩,⟨o5,e5,c5,d5⟩⟩:=st
  simp only[List.mem_cons,List.mem_nil_iff,or_false] at hc
  rcases hc with rfl|rfl|rfl|rfl|rfl
  ·exact⟨_,h1,λv z=>by cases z⟩
  ·exact⟨_,h2,λv z=>by cases z⟩
  ·exact⟨_,h3,λv z=>by cases z⟩
  ·exact⟨o4,e4,λv z=>by rw[d4] at z;cases z⟩
  ·exact⟨o5,e5,λv z=>by rw[d5] at z;cases z⟩
 keep:=λi h h' st k=>by
  obtain⟨h1,h2,⟨u,v,h3⟩,h4,h5⟩:=st
  exact⟨k z (by simp) _ h1,k TI (by simp) _ h2,⟨u,v,k TO (by simp) _ h3⟩,h4.at λo q=>k i1 (by simp) o q,h5.at λo q=>k i2 (by simp) o q⟩
 item:=by
  intro X hP hw hK hc i pins s σ H E I hf st hg
  subst hP hw hK
  obtain⟨xs,ys,x,y,hq,hr,hx,hy⟩:=hg
  obtain⟨h1,h2,⟨u,v,h3⟩,h4,h5⟩:=st
  obtain⟨its,rv,p,hz⟩:=I.list hq
  obtain⟨jts,rw_,p2,hz2⟩:=I.list hr
  obtain⟨ux,hux,rux⟩:=rv.get hx
  obtain⟨uy,huy,ruy⟩:=rw_.get hy
  refine wpAny_pyNext_zip_item D h1 h2 h3 h4 h5 p.isList p2.isList (x:=ux) (y:=uy) (by simpa using hux) (by simpa using huy) λh₁ a1 a2 a3 a4 a5 a6 a7=>?_
  refine⟨_,rfl,wpAny_letOwnedTupleGo_zip a1 λh₂ b1 hs₂=>?_⟩
  replace hs₂:Heap.SameBut z h₁ h₂:=hs₂
  have lt:∀ c∈[z,TI,TO,i1,i2],c<s.heap.objs.size:=λc hc=>by
   simp only[List.mem_cons,List.mem_nil_iff,or_false] at hc
   rcases hc with rfl|rfl|rfl|rfl|rfl
   ·exact Heap.lt_size h1
   ·exact Heap.lt_size h2
   ·exact Heap.lt_size h3
   ·obtain⟨o,e,_⟩:=h4;exact Heap.lt_size e
   ·obtain⟨o,e,_⟩:=h5;exact Heap.lt_size e
  have hTI1:IsPair h₁ TI (.ref i1) (.ref i2):=a7 _ _ D.TIz D.TITO D.TIi1 D.TIi2 h2
  have I1:Inv X pins σ (upd H s.heap.objs.size (.tup [x,y])) { s with heap:=h₂,toks:=s.toks }:=
   I.turnedL (l:=[z,TI,TO,i1,i2]) hf (λc o hc q=>by
    simp only[List.mem_cons,List.mem_nil_iff,or_false,not_or] at hc
    exact(hs₂.2 c hc.1).trans (a7 c o hc.1 hc.2.2.1 hc.2.2.2.1 hc.2.2.2.2 q)) (us:=[ux,uy]) (n:=0) ((hs₂.2 _ (Nat.ne_of_gt (lt z (by simp)))).trans a5) (.cons rux (.cons ruy .nil)) (by show 2<=sizeLine;decide)
  refine⟨.ref s.heap.objs.size,_,I1,rfl,⟨s.heap.objs.size,x,y,I.hok.fresh (Nat.le_refl _),rfl,rfl,λys hy=>by rw[I.list_inj hy hq];exact hx,λys' hy'=>by rw[I.list_inj hy' hr];exact hy⟩,
   ⟨b1,(hs₂.2 _ D.TIz).trans hTI1,⟨_,_,(hs₂.2 _ D.TOz).trans a2⟩,a3.extBut hs₂.extBut D.i1z,a4.extBut hs₂.extBut D.i2z⟩,λc hc=>?_⟩
  rw[qp (Nat.ne_of_lt (lt c hc))]
  exact(hf c hc).1
 done:=by
  intro X hP hw hK hc i pins s σ H E I hf st hg
  subst hP hw hK
  obtain⟨xs,ys,hq,hr,hx⟩:=hg
  obtain⟨h1,h2,⟨u,v,h3⟩,h4,h5⟩:=st
  obtain⟨its,rv,p,hz⟩:=I.list hq
  obtain⟨jts,rw_,p2,hz2⟩:=I.list hr
  have hl:=rv.length
  have hl2:=rw_.length
  refine wpAny_pyNext_zip_end (I.ok.hd hc) D h1 h2 h3 h4 h5 p.isList p2.isList ?_ λh' eb=>⟨rfl,I.turnedR (t':=s.toks) (l:=[z,TI,TO,i1,i2]) hf λc o hc q=>?_⟩
  ·rcases hx with hx|hx
   ·exact .inl (by simp;omega)
   ·exact .inr (by simp;omega)
  ·simp only[List.mem_cons,List.mem_nil_iff,or_false,not_or] at hc
   exact eb c o hc.1 hc.2.2.1 hc.2.2.2.1 hc.2.2.2.2 q
 self:=λ_ _ _ _ _ ⟨h1,_⟩ h=>wpAny_pyIter_zip h1 h
def iZip (K:PySem.W.Frag)(ta:TA):TI:=λσ H R=>ta σ H λvs H1=>∃ a b,vs=[.ref a,.ref b]/\(∃ xs,SqL K H1 a xs)/\(∃ ys,SqL K H1 b ys)/\R (Itz K a b) H1
theorem Zf {n a b:Nat}(la:a<n)(lb:b<n):ZipApart (n+4) (n+2) (n+3) n (n+1) a b:=by
 constructor <;> exact λ(e:(_:Nat)=_)=>by omega
theorem yQ {x1}{a b:Expr}(hg:Gl X "zip")(hm:X.mg "zip"=none)(ha:PA X [a,b] ta)
  (hs:starEach [a,b] X.env=[(false,eval a X.env),(false,eval b X.env)]:=by rfl) (hs2:starEach [b] X.env=[(false,eval b X.env)]:=by rfl):
  PI X (.Tuple elts x1 tpos) (.Call (.Name "zip" p) [a,b] [] pos) (iZip X.K ta):=by
 intro pins s σ H R I h
 refine Call_ (kD I hg hm (by decide +kernel:bootBuiltins "zip"=some (.type "zip")) (PyProof.Rows.callWith_type1 (thn (ha pos pins s σ H _ I h) λus s1 ⟨vs,H1,I1,r1,q1⟩=>?_) (by rw[hs,hs2]) (by rw[hs2];rfl)))
 obtain⟨a,b,e,⟨xs,hq⟩,⟨ys,hr⟩,q⟩:=q1
 subst e
 obtain⟨u1,u2,rfl,ru1,ru2⟩:=vals2 r1
 cases ru1;cases ru2
 obtain⟨its,rv,p,hz⟩:=I1.list hq
 obtain⟨jts,rw_,p2,hz2⟩:=I1.list hr
 have la:a<s1.heap.objs.size:=by obtain⟨o,e,_⟩:=p.isList;exact Heap.lt_size e
 have lb:b<s1.heap.objs.size:=by obtain⟨o,e,_⟩:=p2.isList;exact Heap.lt_size e
 refine call_zip_2 p.isList p2.isList λh1 c1 c2 c3 c4 c5 c6 c7=>wpAny_pyIter_zip c1 ?_
 have I2:Inv X pins σ H1 { s1 with heap:=h1 }:=I1.kept (t':=s1.toks) c7
 have D:ZipApart (s1.heap.objs.size+4) (s1.heap.objs.size+2) (s1.heap.objs.size+3) s1.heap.objs.size (s1.heap.objs.size+1) a b:=Zf la lb
 refine⟨s1.heap.objs.size+4,[s1.heap.objs.size+4,s1.heap.objs.size+2,s1.heap.objs.size+3,s1.heap.objs.size,s1.heap.objs.size+1],_,_,H1,rfl,I2,KP a b _ _ _ _ _ D,⟨c1,c2,⟨_,_,c3⟩,c4,c5⟩,λc hc=>?_,q⟩
 have hc':s1.heap.objs.size<=c:=by
  simp only[List.mem_cons,List.mem_nil_iff,or_false] at hc
  rcases hc with rfl|rfl|rfl|rfl|rfl
  ·exact Nat.le_add_right _ _
  ·exact Nat.le_add_right _ _
  ·exact Nat.le_add_right _ _
  ·exact Nat.le_refl _
  ·exact Nat.le_add_right _ _
 exact I1.fpOk hc' (I1.hok.fresh hc')
theorem WV {g:TG}{tb:TS}{D:Ends}(xs ys:List V)(Pv:Nat->St->Hp->Prop)(h0:Pv 0 σ H)(hl:∀ i σ H,i<=min xs.length ys.length->Pv i σ H->SqL K H a xs/\SqL K H b ys)
  (hs:∀ i x y p σ H,xs[i]?=some x->ys[i]?=some y->H p=none->Pv i σ H->g (.ref p) σ (upd H p (.tup [x,y])) λσ2 H2=>tb { D with nx:=Pv (i+1),ct:=Pv (i+1),bk:=D.nx } σ2 H2) (he:∀ σ H,Pv (min xs.length ys.length) σ H->D.nx σ H):
  ∃ W:Nat->Nat->St->Hp->Prop,(∃ m,W 0 m σ H)/\∀ i m σ H,W i m σ H ->
   ((Itz K a b).stop i H/\D.nx σ H)\/((Itz K a b).go i H/\∃ N:St->Hp->Prop,(∀ σ' H',N σ' H'->∃ m',m'<m/\W (i+1) m' σ' H')/\∀ x H',(Itz K a b).yld i H x H'->g x σ H' λσ2 H2=>tb { D with nx:=N,ct:=N,bk:=D.nx } σ2 H2):=by
 refine⟨λi m σ H=>i<=min xs.length ys.length/\m=min xs.length ys.length-i/\Pv i σ H,⟨_,Nat.zero_le _,rfl,h0⟩,?_⟩
 rintro i m σ H ⟨hi,rfl,p⟩
 obtain⟨ha,hb⟩:=hl i σ H hi p
 rcases Nat.lt_or_ge i (min xs.length ys.length) with lt|ge
 ·have l1:i<xs.length:=by omega
  have l2:i<ys.length:=by omega
  refine .inr ⟨⟨xs,ys,xs[i],ys[i],ha,hb,List.getElem?_eq_getElem l1,List.getElem?_eq_getElem l2⟩,Pv (i+1),λσ' H' q=>⟨_,by omega,lt,rfl,q⟩,?_⟩
  rintro z H' ⟨q,x,y,hq,rfl,rfl,hx,hy⟩
  exact hs i x y q σ H (hx xs ha) (hy ys hb) hq p
 ·have e:i=min xs.length ys.length:=by omega
  exact .inl ⟨⟨xs,ys,ha,hb,by omega⟩,he σ H (e ▸ p)⟩
theorem W2 {g:TG}{tif:TT}{te:TE}{p:Addr}{H1:Hp}{Q:VK}(xs ys:List V)(Pv:Nat->St->Hp->Prop)(h0:Pv 0 σ (upd H1 p (.lst [])))(hl:∀ i σ H,i<=min xs.length ys.length->Pv i σ H->SqL K H a xs/\SqL K H b ys)
  (hs:∀ i x y q σ H,xs[i]?=some x->ys[i]?=some y->H q=none->Pv i σ H->g (.ref q) σ (upd H q (.tup [x,y])) λσ2 H2=>tif σ2 H2 λb H3=>if b=true then te σ2 H3 λy H4=>∃ xs,H4 p=some (.lst xs)/\xs.length<sizeLine/\Pv (i+1) σ2 (upd H4 p (.lst (xs++[y]))) else Pv (i+1) σ2 H3)
  (he:∀ σ H,Pv (min xs.length ys.length) σ H->Q (.ref p) H):∃ W:Nat->Nat->St->Hp->Prop,(∃ m,W 0 m σ (upd H1 p (.lst [])))/\∀ i m σ H,W i m σ H ->
 ((Itz K a b).stop i H/\Q (.ref p) H)\/((Itz K a b).go i H/\∃ N:St->Hp->Prop,(∀ σ' H',N σ' H'->∃ m',m'<m/\W (i+1) m' σ' H')/\∀ x H',(Itz K a b).yld i H x H'->g x σ H' λσ2 H2=>tif σ2 H2 λb H3=>
  if b=true then te σ2 H3 λy H4=>∃ xs,H4 p=some (.lst xs)/\xs.length<sizeLine/\N σ2 (upd H4 p (.lst (xs++[y]))) else N σ2 H3):=by
 refine⟨λi m σ H=>i<=min xs.length ys.length/\m=min xs.length ys.length-i/\Pv i σ H,⟨_,Nat.zero_le _,rfl,h0⟩,?_⟩
 rintro i m σ H ⟨hi,rfl,q⟩
 obtain⟨ha,hb⟩:=hl i σ H hi q
 rcases Nat.lt_or_ge i (min xs.length ys.length) with lt|ge
 ·have l1:i<xs.length:=by omega
  have l2:i<ys.length:=by omega
  refine .inr ⟨⟨xs,ys,xs[i],ys[i],ha,hb,List.getElem?_eq_getElem l1,List.getElem?_eq_getElem l2⟩,Pv (i+1),λσ' H' q=>⟨_,by omega,lt,rfl,q⟩,?_⟩
  rintro z H' ⟨r,x,y,hr,rfl,rfl,hx,hy⟩
  exact hs i x y r σ H (hx xs ha) (hy ys hb) hr q
 ·have e:i=min xs.length ys.length:=by omega
  exact .inl ⟨⟨xs,ys,ha,hb,by omega⟩,he σ H (e ▸ q)⟩
structure Fz (H:Hp)(d:Addr)(o:Obj)(kvs:List (Key×V))(H2:Hp):Prop where
 at_:H2 d=some (.frz o (.dK kvs))
 ne:∀ b,b≠d->H2 b=H b
theorem Jb {k:Key}{u:Value}(h:(zj P w).is k u=true):zV (kV k) u:=by
 rcases zR h with⟨i,t,rfl,rfl⟩|⟨x,t,rfl,rfl⟩
 ·exact⟨t,rfl⟩
 ·exact⟨t,rfl⟩
section
variable {X:Cx}{pins:List (Addr×Obj)}{σ:St}{H:Hp}{s:Shared}
theorem Inv.frz (I:Inv X pins σ H s){d:Addr}{o:Obj}{kvs:List (Key×V)}(h:H d=some (.frz o (.dK kvs))):
  s.heap.get? d=some o/\(d == sysModules)=false/\kvs.length<=sizeLine/\∃ vs es ep,KV kvs vs/\o.data=.dict es ep/\s.heap.DictAt (zj X.prog X.w) d vs ep:=by
 obtain⟨ho,hl,hs,vs,hv,hm⟩:=I.hok d _ h
 obtain⟨ep,o',es,h1,h2⟩:=hm.dictAt
 have h1':=h1
 rw[ho] at h1'
 cases h1'
 exact⟨ho,hs,hl,vs,es,ep,hv,h2.2.1,o,es,h1,h2⟩
theorem Inv.freeze (I:Inv X pins σ H s){d:Addr}{kvs:List (Key×V)}(h:Rd H d (.dK kvs)):∃ o H2,Fz H d o kvs H2/\Inv X pins σ H2 s:=by
 rcases h with h|⟨o,h⟩
 ·obtain⟨hl,hs,vs,hv,hm⟩:=I.hok d _ h
  obtain⟨ep,o,es,h1,h2⟩:=id hm.dictAt
  have e:s={ s with heap:=s.heap,toks:=s.toks }:=by cases s;rfl
  refine⟨o,upd H d (.frz o (.dK kvs)),⟨qg,λb hb=>qp hb⟩,?_⟩
  rw[e]
  exact I.write (x:=d) (e:=d) (by rw[h];trivial) (.inl rfl) (λb u _ q=>q) ⟨o,h1⟩ (show ji X.prog X.w _ s.heap d (.frz o (.dK kvs)) from⟨h1,hl,hs,vs,hv,hm⟩)
 ·exact⟨o,H,⟨h,λb _=>rfl⟩,I⟩
end
theorem KV.at {kvs:List (Key×V)}{vs:List (Key×Value)}(r:KV kvs vs):∀ {i:Nat} {k:Key} {v:V},kvs[i]?=some (k,v)->∃ u,vs[i]?=some (k,u)/\zV v u:=by
 induction r with
 |nil=>intro i k v h;simp at h
 |cons h1 _ ih=>
  intro i k v h
  cases i with
  |zero=>
   rename_i a b _ _ _
   simp only[List.getElem?_cons_zero,Option.some.injEq] at h
   subst h
   obtain⟨b1,b2⟩:=b
   exact⟨b2,by simp only[List.getElem?_cons_zero];rw[show b1=k from h1.1.symm],h1.2⟩
  |succ i=>simp only[List.getElem?_cons_succ] at h ⊢;exact ih h
def Itd (d:Addr)(o:Obj)(kvs:List (Key×V)):It:=
 ⟨λi H=>i<kvs.length/\H d=some (.frz o (.dK kvs)),λi H x H'=>H'=H/\∃ k v,kvs[i]?=some (k,v)/\x=kV k,λi H=>kvs.length<=i/\H d=some (.frz o (.dK kvs))⟩
theorem V7 {tg:Expr}(d it:Addr)(o:Obj)(kvs:List (Key×V))(es:Array DictEntry)(ep:Nat)(hd:o.data=.dict es ep):
  KB P w K tg (Itd d o kvs) [it] it (λi h=>h.IsKeyIter it d i kvs.length ep) where
 mem:=by simp
 obj:=λi h st b hb=>by
  have e:b=it:=by simpa using hb
  subst e
  obtain⟨o,e,c,d⟩:=st
  exact⟨o,e,λv z=>by rw[d] at z;cases z⟩
 keep:=λi h h' st k=>st.at λo e=>k it (by simp) o e
 item:=by
  intro X hP hw hK hc i pins s σ H E I hf st hg
  subst hP hw hK
  obtain⟨hi,hH⟩:=hg
  obtain⟨ho,hs,hl,vs,es',ep',hv,hd',hm⟩:=I.frz hH
  rw[hd] at hd'
  injection hd' with _ e2
  subst e2
  obtain⟨f0,f1,f2,f3,f4,f5⟩:=hf it (by simp)
  have hkv:kvs[i]?=some (kvs[i].1,kvs[i].2):=List.getElem?_eq_getElem hi
  obtain⟨u,hu,_⟩:=hv.at hkv
  have hlen:kvs.length=vs.length:=Paired.length hv
  rw[hlen] at st
  refine wpAny_pyNext_dict_item st hm hu λkey h' hk st' sb=>?_
  have I1:Inv X pins σ H { s with heap:=h' }:=I.turned (t':=s.toks) (λb o hb e=>(sb.2 b hb).trans e) f0 f1 f3 f4 f5
  rw[<-hlen] at st'
  obtain⟨oo,e,c,dd⟩:=id st'
  exact⟨key,rfl,KK (s:={ s with heap:=h' }) e c dd (by decide) ⟨kV kvs[i].1,H,I1,Jb hk,⟨rfl,_,_,hkv,rfl⟩,st',λb hb=>(hf b hb).1⟩⟩
 done:=by
  intro X hP hw hK hc i pins s σ H E I hf st hg
  subst hP hw hK
  obtain⟨hi,hH⟩:=hg
  obtain⟨ho,hs,hl,vs,es',ep',hv,hd',hm⟩:=I.frz hH
  rw[hd] at hd'
  injection hd' with _ e2
  subst e2
  obtain⟨f0,f1,f2,f3,f4,f5⟩:=hf it (by simp)
  have hlen:kvs.length=vs.length:=Paired.length hv
  rw[hlen] at st
  exact wpAny_pyNext_dict_end (I.ok.hd hc) st hm (List.getElem?_eq_none (by omega)) λh' eb=>⟨rfl,I.turned (t':=s.toks) (λb o hb e=>eb b o hb e) f0 f1 f3 f4 f5⟩
 self:=λ_ _ _ _ _ st h=>wpAny_pyIter_keyiter st h
def Yz (td:TE):TI:=λσ H R=>td σ H λx H1=>asR x λd=>∃ kvs,Rd H1 d (.dK kvs)/\∀ o H2,Fz H1 d o kvs H2->R (Itd d o kvs) H2
theorem QE {tg l:Expr}{td:TE}(hl:PE X l td):PI X tg l (Yz td):=by
 intro pins s σ H R I h
 refine thn (hl pins s σ H _ I h) λv s1 ⟨x,H1,I1,r1,q1⟩=>?_
 obtain⟨d,e,kvs,hq,q⟩:=vI q1
 subst e
 cases r1
 obtain⟨o,H2,hF,I2⟩:=I1.freeze hq
 obtain⟨ho,hs,_,vs,es,ep,hv,hd,hm⟩:=I2.frz hF.at_
 have hlen:kvs.length=vs.length:=Paired.length hv
 refine wpAny_pyIter_dict hs hm ?_
 refine⟨s1.heap.objs.size,[s1.heap.objs.size],_,_,H2,rfl,I2.kept (t':=s1.toks) λb o e=>Heap.get?_push_of_some _ e,V7 d _ o kvs es ep hd,⟨_,Heap.get?_push_size _ rfl,rfl,by rw[hlen];rfl⟩,λb hb=>?_,q o H2 hF⟩
 have e:b=s1.heap.objs.size:=by simpa using hb
 subst e
 exact I2.fpOk (Nat.le_refl _) (I2.hok.fresh (Nat.le_refl _))
theorem kc:entryFor table "dict_itemiterator.__iter__"=some Builtin.«dict_keyiterator.__iter__»:=entryFor_alias (id':="dict_keyiterator.__iter__") (by kernel_rfl) rfl (by decide +kernel) (by kernel_rfl)
def Iti (d:Addr)(o:Obj)(kvs:List (Key×V)):It:=
 ⟨λi H=>i<kvs.length/\H d=some (.frz o (.dK kvs)),λi H x H'=>∃ p k v,H p=none/\x=.ref p/\H'=upd H p (.tup [kV k,v])/\kvs[i]?=some (k,v),λi H=>kvs.length<=i/\H d=some (.frz o (.dK kvs))⟩
theorem Xp {x1}(d it:Addr)(o:Obj)(kvs:List (Key×V))(es:Array DictEntry)(ep:Nat)(hd:o.data=.dict es ep):
  KB P w K (.Tuple elts x1 tpos) (Iti d o kvs) [it] it (λi h=>∃ ok ov,IsItemIter h it d i kvs.length ep ok ov) where
 mem:=by simp
 obj:=λi h st b hb=>by
  have e:b=it:=by simpa using hb
  subst e
  obtain⟨ok,ov,e⟩:=st
  exact⟨_,e,λv z=>by cases z⟩
 keep:=λi h h' st k=>by
  obtain⟨ok,ov,e⟩:=st
  exact⟨ok,ov,k it (by simp) _ e⟩
 item:=by
  intro X hP hw hK hc i pins s σ H E I hf st hg
  subst hP hw hK
  obtain⟨hi,hH⟩:=hg
  obtain⟨ok,ov,st⟩:=st
  obtain⟨ho,hs,hl,vs,es',ep',hv,hd',hm⟩:=I.frz hH
  rw[hd] at hd'
  injection hd' with _ e2
  subst e2
  have hkv:kvs[i]?=some (kvs[i].1,kvs[i].2):=List.getElem?_eq_getElem hi
  obtain⟨u,hu,ru⟩:=hv.at hkv
  have hlen:kvs.length=vs.length:=Paired.length hv
  rw[hlen] at st
  have ilt:=Heap.lt_size st
  refine wpAny_pyNext_items_item st hm hu λkey h₁ hk a1 a2 a3 a4=>?_
  refine⟨_,rfl,wpAny_letOwnedTupleGo_items a1 λh₂ b1 hs₂=>?_⟩
  replace hs₂:Heap.SameBut it h₁ h₂:=hs₂
  have I1:Inv X pins σ (upd H s.heap.objs.size (.tup [kV kvs[i].1,kvs[i].2])) { s with heap:=h₂,toks:=s.toks }:=
   I.turnedL (l:=[it]) hf (λc o hc q=>by
    have hc:c≠it:=by simpa using hc
    exact(hs₂.2 c hc).trans (a4 c o hc q)) (us:=[key,u]) (n:=0) ((hs₂.2 _ (Nat.ne_of_gt ilt)).trans a2) (.cons (Jb hk) (.cons ru .nil)) (by show 2<=sizeLine;decide)
  rw[<-hlen] at b1
  refine⟨.ref s.heap.objs.size,_,I1,rfl,⟨s.heap.objs.size,_,_,I.hok.fresh (Nat.le_refl _),rfl,rfl,hkv⟩,⟨_,_,b1⟩,λb hb=>?_⟩
  have e:b=it:=by simpa using hb
  subst e
  rw[qp (Nat.ne_of_lt ilt)]
  exact(hf b hb).1
 done:=by
  intro X hP hw hK hc i pins s σ H E I hf st hg
  subst hP hw hK
  obtain⟨hi,hH⟩:=hg
  obtain⟨ok,ov,st⟩:=st
  obtain⟨ho,hs,hl,vs,es',ep',hv,hd',hm⟩:=I.frz hH
  rw[hd] at hd'
  injection hd' with _ e2
  subst e2
  obtain⟨f0,f1,f2,f3,f4,f5⟩:=hf it (by simp)
  have hlen:kvs.length=vs.length:=Paired.length hv
  rw[hlen] at st
  exact wpAny_pyNext_items_end (I.ok.hd hc) st hm (List.getElem?_eq_none (by omega)) λh' eb=>⟨rfl,I.turned (t':=s.toks) (λb o hb e=>eb b o hb e) f0 f1 f3 f4 f5⟩
 self:=λA i s Q E st h=>by
  obtain⟨ok,ov,st⟩:=st
  have hT:s.TypeIs (.ref it) "dict_itemiterator":=⟨_,st,rfl⟩
  refine wpAny_pyIter_slot hT F.slot_dict_itemiterator_iter (wpAny_call_entry F.slot_dict_itemiterator_iter hT kc ?_ (F.args_dict_itemiterator_iter_1 _))
  show wpAny _ _ (ret (.ref it)) _ _ s
  exact wpAny_pure ⟨_,rfl,"dict_itemiterator",_,hT,F.slot_dict_itemiterator_next.lookup,h⟩
def VS (td:TE):TI:=λσ H R=>td σ H λx H1=>asR x λd=>∃ kvs,Rd H1 d (.dK kvs)/\∀ o H2,Fz H1 d o kvs H2->R (Iti d o kvs) H2
theorem wS {x1}{l:Expr}{td:TE}{apos cpos:Pos}(hl:PE X l td)
  (hbase:attributeBase l "items" X.env (eval l X.env)=eval l X.env:=by rfl) (hline:(apos.endLine == cpos.line)=true:=by rfl):PI X (.Tuple elts x1 tpos) (.Call (.Attribute l "items" apos) [] [] cpos) (VS td):=by
 intro pins s σ H R I h
 refine wpAny_Call_method0_late hbase hline (thn (hl pins s σ H _ I h) λv s1 ⟨x,H1,I1,r1,q1⟩=>?_)
 obtain⟨d,e,kvs,hq,q⟩:=vI q1
 subst e
 cases r1
 obtain⟨o,H2,hF,I2⟩:=I1.freeze hq
 obtain⟨ho,hs,_,vs,es,ep,hv,hd,hm⟩:=I2.frz hF.at_
 have hlen:kvs.length=vs.length:=Paired.length hv
 refine⟨"dict","dict.items",F.plainAttrs_dict,F.slot_dict_items,F.type_dict_items,hm.dictOf.typeIs,hm.dictOf.mapOf.noDict,Calls.callWith_builtin rfl (PySem.evalArgs_none ?_)⟩
 refine call_meetsIn F.slot_dict_items hm.dictOf.typeIs F.entry_dict_items (F.args_dict_items_1 _) (meets_dict_items (zj X.prog X.w) d hs) ⟨⟨_,hm.dictOf⟩,?_⟩
 have old:∀ b u,s1.heap.get? b=some u->(s1.heap.push { cls:=.type "dict_items",data:=.fields #[.ref d] }).get? b=some u:=λb u e=>Heap.get?_push_of_some _ e
 refine wpAny_pyIter_items (knd:=zj X.prog X.w) ⟨_,Heap.get?_push_size _ rfl,rfl,rfl⟩ (hm.keep old) ?_
 generalize hH:s1.heap.push { cls:=.type "dict_items",data:=.fields #[.ref d] }=h3 at old ⊢
 have hsz:h3.objs.size=s1.heap.objs.size+1:=by rw[<-hH,size_push']
 refine⟨h3.objs.size,[h3.objs.size],_,_,H2,rfl,I2.kept (t':=s1.toks) λb o e=>Heap.get?_push_of_some _ (old b o e),Xp d _ o kvs es ep hd,⟨_,_,by rw[hlen];exact Heap.get?_push_size _ rfl⟩,λb hb=>?_,q o H2 hF⟩
 have e:b=h3.objs.size:=by simpa using hb
 subst e
 have hb':s1.heap.objs.size<=h3.objs.size:=by rw[hsz];exact Nat.le_succ _
 exact I2.fpOk hb' (I2.hok.fresh hb')
theorem YN {us:List Value}(hl:xs.length=us.length)(h:∀ (j:Nat) x u,xs[j]?=some x->us[j]?=some u->zV x u):zA xs us:=by
 induction xs generalizing us with
 |nil=>
  cases us with
  |nil=>exact .nil
  |cons u us=>simp at hl
 |cons x xs ih=>
  cases us with
  |nil=>simp at hl
  |cons u us=>exact .cons (h 0 x u rfl rfl) (ih (by simpa using hl) λj a b ha hb=>h (j+1) a b (by simpa using ha) (by simpa using hb))
theorem Xm (hc:X.calm=true):we X (.type "list") (λxs H Q=>∃ d kvs,xs=[.ref d]/\Rd H d (.dK kvs)/\∀ l,H l=none->Q (.ref l) (upd H l (.lst (kvs.map λp=>kV p.1)))):=by
 intro pins s σ H xs us Q I r h
 obtain⟨d,kvs,rfl,hq,q⟩:=h
 obtain⟨u,rfl,ru⟩:=X8 r
 cases ru
 obtain⟨hl,hs,vs,hv,hm⟩:=hq.ok I.hok
 obtain⟨ep,hm⟩:=hm.dictAt
 have hlen:kvs.length=vs.length:=Paired.length hv
 refine PySem.W.kdl_call (PySem.W.kdl_dict (kvs:=vs) (ep:=ep) hs) (I.ok.hd hc) hm (by rw[<-hlen];exact hl) λh' tk acc c hk hS hacc=>?_
 refine⟨.ref s.heap.objs.size,_,I.laid (t':=tk) hk (Nat.le_refl _) (show ji X.prog X.w _ h' _ (.lst (kvs.map λp=>kV p.1)) from⟨by rw[List.length_map];exact hl,acc.toList,c,YN ?_ λj x u hx hu=>?_,hS⟩),rfl,q _ (I.hok.fresh (Nat.le_refl _))⟩
 ·have e:acc.toList.length=vs.length:=by rw[Array.length_toList];exact hacc.1
  rw[List.length_map,e,hlen]
 ·rw[List.getElem?_map] at hx
  obtain⟨p,hp,rfl⟩:=Option.map_eq_some_iff.mp hx
  obtain⟨w',hw',_⟩:=hv.at (k:=p.1) (v:=p.2) hp
  obtain⟨k,y,hky,his⟩:=hacc.2 j u (by rw[<-Array.getElem?_toList];exact hu)
  rw[hw'] at hky
  cases hky
  exact Jb his
theorem wv:we X (.type "dict") (λxs H Q=>∃ a kvs,xs=[.ref a]/\Rd H a (.dK kvs)/\∀ p,H p=none->Q (.ref p) (upd H p (.dK kvs))):=by
 intro pins s σ H xs us Q I r h
 obtain⟨d,kvs,rfl,hq,q⟩:=h
 obtain⟨u,rfl,ru⟩:=X8 r
 cases ru
 exact Wm I hq λp s' hp I'=>⟨.ref p,_,I',rfl,q p hp⟩
def rNeD:R2:=λx y H Q=>∃ a ka,x=.ref a/\Rd H a (.dK ka)/\((y=.non/\Q (.bl true) H)\/∃ b kb,y=.ref b/\Rd H b (.dK kb)/\(∀ p∈ka,xA p.2=true)/\(∀ p∈kb,xA p.2=true)/\Q (.bl (!(decide (ka.length=kb.length) && Xr kb ka))) H)
theorem vj (l:Addr)(o:Obj)(hc:o.cls=.type "dict"):
  Meets (Builtin.«dict.__ne__» ⟨[.ref l,.none],[]⟩) (λ_ R s=>s.heap.get? l=some o/\R (.ok (.ret .notImplemented)) s):=
 .of_wp λprog w A R s h=>by
  obtain⟨hp,g,d,tk,os⟩:=s
  obtain⟨hl,h⟩:=h
  have f1:=F.sub_NoneType_dict
  cases o
  subst hc
  wp_walk using wpAny_loadPart' hl
  exact⟨_,rfl,h⟩
theorem op_neD (hu:X.A.units<cLine):OpR X (compareOp .NotEq) rNeD:=by
 intro pins s σ H x y v u Q I rx ry h
 obtain⟨a,ka,rfl,ha,h⟩:=h
 cases rx
 obtain⟨la,sa,wa,ra,da⟩:=ha.ok I.hok
 rcases h with⟨rfl,q⟩|⟨b,kb,rfl,hb,fa,fb,q⟩
 ·cases ry
  have hT:=da.typeIs
  obtain⟨o,ho,hc⟩:=id hT
  exact PySem.SeqAt.rc_ne_decline_or (k:=false) hT rfl (by decide) F.sub_NoneType_dict F.slot_dict_ne F.slot_NoneType_ne_refl
   (λ_ hq=>call_meets F.slot_dict_ne hT F.entry_dict_ne (F.args_dict_ne_2 _ _) (vj a o hc) ⟨ho,hq⟩)
   (λ_ hq=>call_gives F.slot_NoneType_ne_refl rfl F.entry_NoneType_ne (F.args_NoneType_ne_2 _ _) (PySem.SeqAt.NoneType___ne___none_ref_0 a) hq)
   (λ_ hq=>wpAny_of_eq (rfl:isSame (.ref a) .none=pure false) hq) (.inr hu) ⟨.bl true,H,I,rfl,q⟩
 ·cases ry
  obtain⟨lb,sb,wb,rb,db⟩:=hb.ok I.hok
  refine PySem.W.keq_ne sa sb da db hu (λ_=>Zk rb fb ra fa) ⟨.bl _,H,I,rfl,?_⟩
  rw[show(wa.length == wb.length && Xr kb ka)=(decide (ka.length=kb.length) && Xr kb ka) by rw[ra.length,rb.length];rfl]
  exact q
section
variable {prog:Program}{w:World}{A:Around}{E:Value->Shared->Prop}{s:Shared}
theorem XC {x:Value}(hit:s.heap.IsTupleIter it t i)(ht:s.heap.IsTuple t items)(hx:items[i]?=some x)
  (hQ:∀ h',h'.IsTupleIter it t (i+1)->Heap.SameBut it s.heap h'->Q x { s with heap:=h' }):wpAny (model prog w) A (Builtin.SmallTypes.nextOf (.ref it)) Q E s:=by
 obtain⟨o,ho,hc,hd⟩:=id hit
 obtain⟨ol,hol,_,nl,hdl⟩:=ht
 unfold Builtin.SmallTypes.nextOf
 refine wpAny_bind (wpAny_callSpecial?_slot (name:=Str.ofString "__next__") hit.typeIs F.slot_tuple_iterator_next (wpAny_call_entry F.slot_tuple_iterator_next hit.typeIs F.entry_tuple_iterator_next ?_ (F.args_tuple_iterator_next_1 _)))
 show wpAny _ _ (field (.ref it) 0 >>= _) _ _ s
 refine wpAny_bind (wpAny_field ho hd (x:=.ref t) rfl ?_)
 show wpAny _ _ (if (Value.ref t == Value.none)=true then _ else _) _ _ s
 rw[if_neg (show ¬ ((Value.ref t == Value.none)=true) from Bool.false_ne_true)]
 show wpAny _ _ (field (.ref it) 1 >>= _) _ _ s
 refine wpAny_bind (wpAny_field ho hd (x:=.int i 0) rfl ?_)
 show wpAny _ _ (seqItems? (.ref t) >>= _) _ _ s
 refine wpAny_bind (wpAny_seqItems hol hdl ?_)
 simp only[Int.toNat_natCast,hx]
 refine wpAny_bind (wpAny_setField ho hd (by simp) (wpAny_pure ⟨x,rfl,wpAny_pure (hQ _ ?_ (Heap.SameBut.update ..))⟩))
 exact⟨_,Heap.get?_update_self _ ho (Obj.isFreed_of_fields (Obj.data_mapFields hd _)),(Obj.cls_mapFields ..).trans hc,by rw[Obj.data_mapFields hd];simp[rawInt]⟩
theorem Kf (hh:A.handled=none)(hit:s.heap.IsTupleIter it t i)(ht:s.heap.IsTuple t items)(hx:items[i]?=none)
  (hE:∀ h' e,Heap.ExtBut it s.heap h'->(∃ o,h'.get? e=some o/\o.cls=.type "StopIteration")->E (.ref e) { s with heap:=h' }):wpAny (model prog w) A (Builtin.SmallTypes.nextOf (.ref it)) Q E s:=by
 obtain⟨o,ho,hc,hd⟩:=id hit
 obtain⟨ol,hol,_,nl,hdl⟩:=ht
 unfold Builtin.SmallTypes.nextOf
 refine wpAny_bind (wpAny_callSpecial?_slot (name:=Str.ofString "__next__") hit.typeIs F.slot_tuple_iterator_next (wpAny_call_entry F.slot_tuple_iterator_next hit.typeIs F.entry_tuple_iterator_next ?_ (F.args_tuple_iterator_next_1 _)))
 show wpAny _ _ (field (.ref it) 0 >>= _) _ _ s
 refine wpAny_bind (wpAny_field ho hd (x:=.ref t) rfl ?_)
 show wpAny _ _ (if (Value.ref t == Value.none)=true then _ else _) _ _ s
 rw[if_neg (show ¬ ((Value.ref t == Value.none)=true) from Bool.false_ne_true)]
 show wpAny _ _ (field (.ref it) 1 >>= _) _ _ s
 refine wpAny_bind (wpAny_field ho hd (x:=.int i 0) rfl ?_)
 show wpAny _ _ (seqItems? (.ref t) >>= _) _ _ s
 refine wpAny_bind (wpAny_seqItems hol hdl ?_)
 simp only[Int.toNat_natCast,hx]
 refine wpAny_bind (wpAny_rule (wpAny_bind (wpAny_setField ho hd (by simp) ?_)))
 show wpAny _ _ (newExc (.type "StopIteration") [] >>= _) _ _ _
 refine wpAny_bind ?_
 simp only[newExc,newTuple]
 refine wpAny_bind (wpAny_newObj_type ?_ (by size_fits))
 refine wpAny_bind (m:=firstArgMember _ _) (wpAny_of_eq (a:=Value.none) (by first|rfl|(simp only[firstArgMember];rfl)) ?_)
 refine wpAny_newObj_type ?_ (by size_fits)
 simp only[raiseNew]
 refine wpAny_bind (wpAny_handled ?_)
 first|rw[show A.in1.handled=none from hh]|rw[hh]
 refine wpAny_bind (wpAny_pure (wpAny_throw ?_))
 exact hE _ _ (((Heap.SameBut.update ..).extBut.push _).push _) ⟨_,Heap.get?_push_size _ rfl,rfl⟩
theorem VR (hh:A.handled=none)(it l:Addr)(hne:l≠it)(items:Array Value):
  Draws prog w A it [it,l] items.size (λi v=>items[i]?=some v) (λi h=>h.IsTupleIter it l i/\h.IsTuple l items) where
 live:=λ_ _ st=>let ⟨o,ho,_⟩:=st.1;⟨o,ho⟩
 frame:=λ_ _ _ st hk=>⟨st.1.at λo e=>hk it (by simp) o e,let ⟨o,ho,q⟩:=st.2;⟨o,hk l (by simp) o ho,q⟩⟩
 item:=λi s Q E hi st hQ=>by
  refine XC st.1 st.2 (x:=items[i]) (by simp[hi]) λh' hit' hs'=>?_
  exact hQ _ h' s.toks (by simp[hi]) ⟨hit',let ⟨o,ho,q⟩:=st.2;⟨o,(hs'.2 l hne).trans ho,q⟩⟩ hs'
 done:=λs Q E st hE=>Kf hh st.1 st.2 (by simp) hE
theorem Jk (l:Addr)(items:Array Value)(n:Nat)(dct:Option Addr)(sl:Array (Option Value)):
  Meets (Builtin.«enumerate.__new__» ⟨[.type "enumerate",.ref l],[]⟩) (λ_ R s=>s.heap.get? l=some { cls:=.type "tuple",dict:=dct,data:=.seq items n,slots:=sl } /\
   R (.ok (.ret (.ref (s.heap.push { cls:=.type "tuple_iterator",data:=.fields #[.ref l,.int 0 0] }).objs.size)))
    { s with heap:=(s.heap.push { cls:=.type "tuple_iterator",data:=.fields #[.ref l,.int 0 0] }).push { cls:=.type "enumerate",data:=.fields #[.none,.bool false,.ref s.heap.objs.size,rawInt 0,.none,.none] } }):=
 .of_wp λprog w A R s h=>by
  obtain⟨hp,g,d,tk,os⟩:=s
  obtain⟨hl,h⟩:=h
  have hsub:=sub_enumerate
  have hL:Heap.IsTuple (Shared.heap ⟨hp,g,d,tk,os⟩) l items:=⟨_,hl,rfl,n,rfl⟩
  wp_walk using AutoSeq1.wpAny_loadPart' hl
  refine wpAny_stack_any λst=>wpAny_pure ?_
  split
  ·rename_i c _ _ _ _ _
   cases(c == Value.type "enumerate")
   ·wp_walk using AutoSeq1.wpAny_loadPart' hl,wpAny_pyIter_tuple hL
    exact⟨_,rfl,h⟩
   ·wp_walk using AutoSeq1.wpAny_loadPart' hl,wpAny_pyIter_tuple hL
    exact⟨_,rfl,h⟩
  ·wp_walk using AutoSeq1.wpAny_loadPart' hl,wpAny_pyIter_tuple hL
   exact⟨_,rfl,h⟩
theorem Xg {l:Addr}(hL:s.heap.IsTuple l items)
  (h:∀ h',IsEnum h' (s.heap.objs.size+1) s.heap.objs.size 0 .none->h'.IsTupleIter s.heap.objs.size l 0->h'.objs.size=s.heap.objs.size+2 ->
   (∀ b o,s.heap.get? b=some o->h'.get? b=some o)->Q (.ref (s.heap.objs.size+1)) { s with heap:=h' }):
  wpAny (model prog w) A (call (.type "enumerate") [.ref l]) Q E s:=by
 obtain⟨⟨c,dct,dt,sl⟩,hl,hc,n,hd⟩:=hL
 replace hc:c=.type "tuple":=hc
 replace hd:dt=.seq items n:=hd
 subst hc hd
 refine callType_new F.called_enumerate (by decide) (F.typeCall_enumerate_1 _) (F.newCall_enumerate_1 _) (λobj=>F.args_object_init_2 obj _) F.entry_enumerate_new (Jk l items n dct sl) ⟨hl,?_⟩
 have hz:(s.heap.push { cls:=.type "tuple_iterator",data:=.fields #[.ref l,.int 0 0] }).objs.size=s.heap.objs.size+1:=Heap.size_push ..
 show _/\_
 rw[hz]
 have he:=Heap.get?_push_size (s.heap.push { cls:=.type "tuple_iterator",data:=.fields #[.ref l,.int 0 0] }) (o:={ cls:=.type "enumerate",data:=.fields #[.none,.bool false,.ref s.heap.objs.size,rawInt 0,.none,.none] }) rfl
 rw[hz] at he
 exact⟨⟨_,he,rfl⟩,h _ he ⟨_,Heap.get?_push_of_some _ (Heap.get?_push_size _ rfl),rfl,rfl⟩ (by rw[Heap.size_push,hz]) λb o x=>Heap.get?_push_of_some _ (Heap.get?_push_of_some _ x)⟩
end
def Itet (K:PySem.W.Frag)(a:Addr):It:=
 ⟨λi H=>∃ xs x,SqT K H a xs/\xs[i]?=some x,λi H x H'=>∃ p y,H p=none/\x=.ref p/\H'=upd H p (.tup [.int i,y])/\∀ xs,SqT K H a xs->xs[i]?=some y,λi H=>∃ xs,SqT K H a xs/\xs.length=i⟩
theorem Xh {x1}(a e it:Addr)(hei:e≠it)(hea:e≠a)(hai:a≠it):
  KB P w K (.Tuple elts x1 tpos) (Itet K a) [e,it] e (λi h=>∃ old,IsEnum h e it ((i:Nat):Int) old/\h.IsTupleIter it a i) where
 mem:=by simp
 obj:=λi h st b hb=>by
  obtain⟨old,he,hi⟩:=st
  rcases List.mem_cons.mp hb with z|z
  ·subst z
   exact⟨_,he,λv z=>by cases z⟩
  ·have z:b=it:=by simpa using z
   subst z
   obtain⟨o,e,c,d⟩:=hi
   exact⟨o,e,λv z=>by rw[d] at z;cases z⟩
 keep:=λi h h' st k=>by
  obtain⟨old,he,hi⟩:=st
  exact⟨old,k e (by simp) _ he,hi.at λo q=>k it (by simp) o q⟩
 item:=by
  intro X hP hw hK hc i pins s σ H E I hf st hg
  subst hP hw hK
  obtain⟨xs,x,hq,hx⟩:=hg
  obtain⟨old,he,hi⟩:=st
  obtain⟨its,rv,p,hz⟩:=I.tuple hq
  obtain⟨u,hu,ru⟩:=rv.get hx
  have fe:=hf e (by simp)
  have fi:=hf it (by simp)
  have hlt:i<its.toArray.size:=by
   have:=(List.getElem?_eq_some_iff.mp hu).1
   simpa using this
  refine wpAny_pyNext_enum_itemD (VR (A:=X.A.in1) (I.ok.hd hc) it a hai its.toArray) he ⟨hi,p⟩ hlt hei (by simp[hei,hea]) λx' h₁ tk hx' heo ⟨hit₁,_⟩ ht₁ hz₁ hk₁=>?_
  have e1:x'=u:=by
   have:=hx'
   rw[show its.toArray[i]?=some u by simpa using hu] at this
   exact(Option.some.inj this).symm
  subst e1
  refine⟨_,rfl,wpAny_letOwnedTupleGo_enum heo λh₂ he₂ hs₂=>?_⟩
  replace hs₂:Heap.SameBut e h₁ h₂:=hs₂
  have elt:e<s.heap.objs.size:=Heap.lt_size he
  have ilt:it<s.heap.objs.size:=by obtain⟨o,q,_⟩:=hi;exact Heap.lt_size q
  have I1:Inv X pins σ (upd H s.heap.objs.size (.tup [.int i,x])) { s with heap:=h₂,toks:=tk+1 }:=
   I.turned2 fe fi (λb o hb hb' q=>(hs₂.2 b hb).trans (hk₁ b o hb hb' q)) (us:=[.int i tk,x']) ((hs₂.2 _ (Nat.ne_of_gt elt)).trans ht₁) (.cons ⟨_,rfl⟩ (.cons ru .nil)) (by show 2<=sizeLine;decide)
  have hcast:((i:Int)+1)=((i+1:Nat):Int):=by push_cast;rfl
  refine⟨.ref s.heap.objs.size,_,I1,rfl,⟨s.heap.objs.size,x,I.hok.fresh (Nat.le_refl _),rfl,rfl,λys hy=>by rw[I.tuple_inj hy hq];exact hx⟩,⟨x',?_,?_⟩,λb hb=>?_⟩
  ·rw[<-hcast]
   exact he₂
  ·exact hit₁.at λo q=>(hs₂.2 it (Ne.symm hei)).trans q
  ·rcases List.mem_cons.mp hb with z|z
   ·subst z
    rw[qp (Nat.ne_of_lt elt)]
    exact fe.1
   ·have z:b=it:=by simpa using z
    subst z
    rw[qp (Nat.ne_of_lt ilt)]
    exact fi.1
 done:=by
  intro X hP hw hK hc i pins s σ H E I hf st hg
  subst hP hw hK
  obtain⟨xs,hq,hx⟩:=hg
  obtain⟨old,he,hi⟩:=st
  obtain⟨its,rv,p,hz⟩:=I.tuple hq
  obtain⟨f0,f1,f2,f3,f4,f5⟩:=hf it (by simp)
  have hl:=rv.length
  have e2:its.toArray.size=i:=by simp;omega
  exact wpAny_pyNext_enum_endD (VR (A:=X.A.in1) (I.ok.hd hc) it a hai its.toArray) he ⟨by rw[e2];exact hi,p⟩ λh' eb=>⟨rfl,I.turned (t':=s.toks) (λb o hb e=>eb b o hb e) f0 f1 f3 f4 f5⟩
 self:=λ_ _ _ _ _ ⟨_,he,_⟩ h=>wpAny_pyIter_enum he h
def V9 (K:PySem.W.Frag)(ta:TA):TI:=λσ H R=>ta σ H λvs H1=>∃ a,vs=[.ref a]/\(∃ xs,SqT K H1 a xs)/\R (Itet K a) H1
theorem wN {x1}{a:Expr}(hg:Gl X "enumerate")(hm:X.mg "enumerate"=none)(ha:PA X [a] ta)(hs:starEach [a] X.env=[(false,eval a X.env)]:=by rfl):
  PI X (.Tuple elts x1 tpos) (.Call (.Name "enumerate" p) [a] [] pos) (V9 X.K ta):=by
 intro pins s σ H R I h
 refine Call_ (kD I hg hm (by decide +kernel:bootBuiltins "enumerate"=some (.type "enumerate")) (PyProof.Rows.callWith_type1 (thn (ha pos pins s σ H _ I h) λus s1 ⟨vs,H1,I1,r1,q1⟩=>?_) hs rfl))
 obtain⟨a,e,⟨xs,hq⟩,q⟩:=q1
 subst e
 cases r1 with
 |cons r rr=>
  cases rr
  cases r
  obtain⟨its,rv,p,hz⟩:=I1.tuple hq
  have la:a<s1.heap.objs.size:=by obtain⟨o,e,_⟩:=id p;exact Heap.lt_size e
  refine Xg p λh1 he hi hsz hk=>wpAny_pyIter_enum he ?_
  have I2:Inv X pins σ H1 { s1 with heap:=h1 }:=I1.kept (t':=s1.toks) hk
  refine⟨s1.heap.objs.size+1,[s1.heap.objs.size+1,s1.heap.objs.size],_,_,H1,rfl,I2,Xh a _ _ (Nat.ne_of_gt (Nat.lt_succ_self _)) (Nat.ne_of_gt (Nat.lt_succ_of_lt la)) (Nat.ne_of_lt la),⟨_,he,hi⟩,λb hb=>?_,q⟩
  have hb':s1.heap.objs.size<=b:=by
   rcases List.mem_cons.mp hb with z|z
   ·rw[z];exact Nat.le_succ _
   ·have z:b=s1.heap.objs.size:=by simpa using z
    rw[z];exact Nat.le_refl _
  exact I1.fpOk hb' (I1.hok.fresh hb')
theorem W7 {ws:List Value}(ht:IsTup s.heap t ([]:List Value).toArray)(hb:IsTup s.heap b ws.toArray)(h0:Q (.ref b) s):
  wpAny (model prog w) A (binaryOp .Add (.ref t) (.ref b)) Q E s:=by
 obtain⟨⟨cls,dd,data,sl⟩,ho,hc,n,hd⟩:=id ht
 obtain⟨⟨cls2,dd2,data2,sl2⟩,ho2,hc2,n2,hd2⟩:=id hb
 simp only at hc hd hc2 hd2
 subst hc hd hc2 hd2
 exact concat_meets ⟨_,ho,rfl⟩ ⟨_,ho2,rfl⟩ noFill_tuple_add seq_tuple_add PySem.F.slot_tuple_add PySem.F.entry_tuple_add (PySem.F.args_tuple_add_2 _ _)
  (tuple_addW0 t b ([]:List Value).toArray ws.toArray n n2 dd dd2 sl sl2 (by simp)) ⟨ho,ho2,h0⟩
def rCatU (K:PySem.W.Frag):R2:=λx y H Q=>∃ a b xs ys,x=.ref a/\y=.ref b/\SqT K H a xs/\SqT K H b ys/\xs.length+ys.length<=sizeLine /\
 ∀ p H2,qq H H2->SqT K H2 p (xs++ys)->Q (.ref p) H2
theorem Yq:OpR X (binaryOp .Add) (rCatU X.K):=by
 intro pins s σ H x y v u Q I rx ry h
 obtain⟨a,b,xs,ys,rfl,rfl,ha,hb,hz,q⟩:=h
 by_cases hx:xs=[]
 ·subst hx
  cases rx
  cases ry
  obtain⟨its,r1,p1,_⟩:=I.tuple ha
  obtain⟨its2,r2,p2,_⟩:=I.tuple hb
  cases r1
  refine W7 p1 p2 ⟨.ref b,H,I,rfl,q b H (λ_ _ e=>e) hb⟩
 ·refine Yy pins s σ H _ _ v u Q I rx ry ⟨a,b,xs,ys,rfl,rfl,ha,hb,hx,hz,λe=>?_,λ_ p hp=>q p _ (λb o e=>by rw[qp (qj e hp)];exact e) (SqT.of qg)⟩
  subst e
  exact q a H (λ_ _ e=>e) (by rw[List.append_nil];exact ha)
theorem k4 {sl:Addr}{vl vu:Value}{lo hi:Option Int}(ht:IsTup s.heap t items)(hs:s.heap.IsSliceOf sl vl vu .none)(pl:IsPart vl lo)(pu:IsPart vu hi)
  (hw:HT.sIx items.size 0 lo=0/\HT.sIx items.size items.size hi=items.size) (h:Q (.ref t) s):wpAny (model prog w) A (getItem (.ref t) (.ref sl)) Q E s:=by
 obtain⟨os,hos,hcs,hds⟩:=id hs
 have hTs:s.TypeIs (.ref sl) "slice":=⟨os,hos,hcs⟩
 unfold getItem
 try with_reducible refine wpAny_holding ?_
 first|refine wpAny_bind (wpAny_pure ?_)|skip
 refine wpAny_bind (wpAny_sequenceKey ht.typeIs (by decide) ?_)
 refine wpAny_bind (wpAny_callSpecial?_slot (name:=Str.ofString "__getitem__") ht.typeIs PyProof.Rows.slot_tuple_getitem
  (wpAny_call_entry PyProof.Rows.slot_tuple_getitem ht.typeIs PyProof.Rows.entry_tuple_getitem ?_ (PyProof.Rows.args_tuple_getitem _ _)))
 show wpAny _ _ (Builtin.Tuple.tupleItemsOf (.ref t) >>= _) _ _ s
 refine wpAny_bind (tupleItemsOf_ ht ?_)
 refine wpAny_bind (wpAny_typeOf hTs ?_)
 rw[if_pos (by decide)]
 refine wpAny_bind (HT.sliceApplied_gen hs pl pu ?_)
 show wpAny _ _ (if (((HT.sIx items.size 0 lo:Nat):Int) == 0 && (1:Int) == 1 && (HT.sIx items.size items.size hi-HT.sIx items.size 0 lo) == items.size)=true then _ else _) _ _ s
 rw[if_pos (by rw[hw.1,hw.2];simp)]
 unfold Builtin.Tuple.tupleIsExact
 refine wpAny_bind (wpAny_bind (wpAny_typeOf ht.typeIs (wpAny_pure ?_)))
 rw[if_pos (by decide)]
 first
  |exact wpAny_bind (wpAny_rule (wpAny_pure ⟨_,rfl,wpAny_pure h⟩))
  |exact wpAny_bind (wpAny_rule (wpAny_bind (wpAny_pure ⟨_,rfl,wpAny_pure h⟩)))
  |exact wpAny_bind (wpAny_rule (wpAny_bind (wpAny_pure (wpAny_pure ⟨_,rfl,wpAny_pure h⟩))))
  |exact wpAny_bind (wpAny_bind (wpAny_rule (wpAny_pure ⟨_,rfl,wpAny_pure h⟩)))
def rSlU (K:PySem.W.Frag):V->Option Int->Option Int->Hp->VK->Prop:=λx lo hi H Q=>∃ a xs,x=.ref a/\SqT K H a xs/\∀ p H2,qq H H2->SqT K H2 p (QU xs lo hi)->Q (.ref p) H2
theorem vg:SlR X (rSlU X.K):=by
 intro pins s σ H x v vl vu lo hi sl Q I rx hs pl pu h
 obtain⟨a,xs,rfl,hx,q⟩:=h
 by_cases hw:HT.sIx xs.length 0 lo=0/\HT.sIx xs.length xs.length hi=xs.length
 ·cases rx
  obtain⟨its,r,ht,hz⟩:=I.tuple hx
  have hlen:its.toArray.size=xs.length:=by rw[List.size_toArray];exact r.length.symm
  refine⟨"tuple",_,PyProof.Rows.slot_tuple_getitem.lookup,ht.typeIs,?_⟩
  refine k4 ht hs pl pu (by rw[hlen];exact hw) ⟨.ref a,H,I,rfl,q a H (λ_ _ e=>e) ?_⟩
  have e:QU xs lo hi=xs:=by
   unfold QU
   rw[hw.1,hw.2]
   simp
  rw[e]
  exact hx
 ·exact Wy pins s σ H _ v vl vu lo hi sl Q I rx hs pl pu ⟨a,xs,rfl,hx,hw,λp hp=>q p _ (λb o e=>by rw[qp (qj e hp)];exact e) (SqT.of qg)⟩
section
variable {prog:Program}{w:World}{A:Around}{E:Value->Shared->Prop}{s:Shared}
theorem V0 {TI TO:Addr}{a b:Value}(D:ZipApart z TI TO i1 i2 l1 l2)
  (D1:Draws prog w A i1 [i1,l1] n1 P1 S1) (D2:Draws prog w A i2 [i2,l2] n2 P2 S2) (hz:IsZip s.heap z TI TO .none) (hTI:IsPair s.heap TI (.ref i1) (.ref i2)) (hTO:IsPair s.heap TO a b) (h1:S1 k1 s.heap) (h2:S2 k2 s.heap) (lt1:k1<n1) (lt2:k2<n2)
  (hQ:∀ x y h' tk,P1 k1 x->P2 k2 y->IsZip h' z TI TO (rawInt s.heap.objs.size)->IsPair h' TO x y->S1 (k1+1) h'->S2 (k2+1) h'->IsPair h' s.heap.objs.size x y->h'.objs.size=s.heap.objs.size+1 ->
   (∀ c o,c≠z->c≠TO->c≠i1->c≠i2->s.heap.get? c=some o->h'.get? c=some o)->Q (.ref s.heap.objs.size) { s with heap:=h',toks:=tk }):
  wpAny (model prog w) A (Builtin.«zip.__next__» ⟨[.ref z],[]⟩) (λfin s'=>∃ v,fin=.done (.ret v)/\Q v s') E s:=by
 show wpAny _ _ (field (.ref z) 2 >>= _) _ _ _
 refine wpAny_bind (wpAny_field hz rfl (x:=.bool false) rfl ?_)
 show wpAny _ _ (field (.ref z) 3 >>= _) _ _ _
 refine wpAny_bind (wpAny_field hz rfl (x:=.ref TI) rfl ?_)
 refine wpAny_bind (wpAny_seqItems hTI rfl ?_)
 show wpAny _ _ (Builtin.SmallTypes.ownedTupleIsFree (.ref z) >>= _) _ _ _
 refine wpAny_bind ?_
 unfold Builtin.SmallTypes.ownedTupleIsFree
 refine wpAny_bind (wpAny_field hz rfl (x:=.none) rfl (wpAny_pure ?_))
 simp only[if_true]
 refine wpAny_bind (wpAny_rule ?_)
 refine wpAny_bind (wpAny_field hz rfl (x:=.ref TO) rfl ?_)
 refine wpAny_bind (wpAny_setField_rec hz (by simp) λg1 hz1 e1=>?_)
 replace hz1:IsZip g1 z TI TO .ellipsis:=hz1
 refine wpAny_bind ?_
 simp only[List.zipIdx_cons,List.zipIdx_nil,List.forIn_cons,List.forIn_nil]
 have fr1:∀ {S:Nat->Heap->Prop} {n:Nat} {P:Nat->Value->Prop} {i l c:Addr} {k:Nat} {h h':Heap},Draws prog w A i [i,l] n P S->S k h->Heap.SameBut c h h'->i≠c->l≠c->S k h':=λ{S n P i l c k h h'} D st e n1 n2=>D.frame _ _ _ st λb hb o q=>by
  simp only[List.mem_cons,List.mem_nil_iff,or_false] at hb
  rcases hb with rfl|rfl
  ·exact e.extBut _ _ n1 q
  ·exact e.extBut _ _ n2 q
 refine wpAny_bind (wpAny_bind (wpAny_onRaise ?_))
 show wpAny _ _ (Builtin.SmallTypes.nextOf (.ref i1) >>= _) _ _ _
 refine wpAny_bind (D1.item k1 _ _ _ lt1 (fr1 D1 h1 e1 D.i1z D.l1z) λx g2 tk2 hx st2 e2=>wpAny_pure ?_)
 have hTO2:IsPair g2 TO a b:=e2.extBut _ _ D.TOi1 (e1.extBut _ _ D.TOz hTO)
 refine wpAny_bind (wpAny_seqItems hTO2 rfl ?_)
 refine wpAny_bind (wpAny_updateSeq_pair hTO2 λg3 hTO3 e3=>?_)
 replace hTO3:IsPair g3 TO x b:=hTO3
 refine wpAny_bind (wpAny_letGo (wpAny_pure ?_))
 refine wpAny_bind (wpAny_bind (wpAny_onRaise ?_))
 show wpAny _ _ (Builtin.SmallTypes.nextOf (.ref i2) >>= _) _ _ _
 refine wpAny_bind (D2.item k2 _ _ _ lt2 (fr1 D2 (fr1 D2 (fr1 D2 h2 e1 D.i2z D.l2z) e2 D.i12.symm D.l2i1) e3 D.TOi2.symm D.l2TO) λy g4 tk4 hy st4 e4=>wpAny_pure ?_)
 have hTO4:IsPair g4 TO x b:=e4.extBut _ _ D.TOi2 hTO3
 refine wpAny_bind (wpAny_seqItems hTO4 rfl ?_)
 refine wpAny_bind (wpAny_updateSeq_pair hTO4 λg5 hTO5 e5=>?_)
 replace hTO5:IsPair g5 TO x y:=hTO5
 refine wpAny_bind (wpAny_letGo (wpAny_pure (wpAny_pure ?_)))
 refine wpAny_bind (wpAny_seqItems hTO5 rfl ?_)
 refine wpAny_bind (wpAny_newTuple ?_)
 have hsz:g5.objs.size=s.heap.objs.size:=by rw[e5.1,e4.1,e3.1,e2.1,e1.1]
 have hz5:IsZip g5 z TI TO .ellipsis:=e5.extBut _ _ D.TOz.symm (e4.extBut _ _ D.i2z.symm (e3.extBut _ _ D.TOz.symm (e2.extBut _ _ D.i1z.symm hz1)))
 have hk5:∀ c o,c≠z->c≠TO->c≠i1->c≠i2->s.heap.get? c=some o->g5.get? c=some o:=λc o c1 c2 c3 c4 e=>e5.extBut _ _ c2 (e4.extBut _ _ c4 (e3.extBut _ _ c2 (e2.extBut _ _ c3 (e1.extBut _ _ c1 e))))
 have st1:S1 (k1+1) g5:=fr1 D1 (fr1 D1 (fr1 D1 st2 e3 D.TOi1.symm D.l1TO) e4 D.i12 D.l1i2) e5 D.TOi1.symm D.l1TO
 have st2':S2 (k2+1) g5:=fr1 D2 st4 e5 D.TOi2.symm D.l2TO
 have zlt:z<g5.objs.size:=Heap.lt_size hz5
 show wpAny _ _ (Builtin.SmallTypes.ownedTupleHandOut (.ref z) (.ref g5.objs.size) >>= _) _ _ _
 refine wpAny_bind ?_
 unfold Builtin.SmallTypes.ownedTupleHandOut
 have hz6:IsZip (g5.push { cls:=.type "tuple",data:=.seq #[x,y] }) z TI TO .ellipsis:=Heap.get?_push_of_some _ hz5
 refine wpAny_bind (wpAny_setField_rec hz6 (by simp) λg7 hz7 e7=>?_)
 replace hz7:IsZip g7 z TI TO (rawInt g5.objs.size):=hz7
 refine wpAny_setField_rec hz7 (by simp) λg8 hz8 e8=>?_
 replace hz8:IsZip g8 z TI TO (rawInt g5.objs.size):=hz8
 have up:∀ c o,c≠z->g5.get? c=some o->g8.get? c=some o:=λc o c1 e=>e8.extBut _ _ c1 (e7.extBut _ _ c1 (Heap.get?_push_of_some _ e))
 have hT8:IsPair g8 g5.objs.size x y:=e8.extBut _ _ (Nat.ne_of_gt zlt) (e7.extBut _ _ (Nat.ne_of_gt zlt) (Heap.get?_push_size _ rfl))
 have hs8:g8.objs.size=g5.objs.size+1:=by rw[e8.1,e7.1,Heap.size_push]
 rw[hsz] at hz8 hT8 hs8
 have upS:∀ {S:Nat->Heap->Prop} {n:Nat} {P:Nat->Value->Prop} {i l:Addr} {k:Nat},Draws prog w A i [i,l] n P S->S k g5->i≠z->l≠z->S k g8:=λ{S n P i l k} D st n1 n2=>D.frame _ _ _ st λb hb o q=>by
  simp only[List.mem_cons,List.mem_nil_iff,or_false] at hb
  rcases hb with rfl|rfl
  ·exact up _ _ n1 q
  ·exact up _ _ n2 q
 refine wpAny_pure ⟨_,rfl,?_⟩
 show Q (.ref g5.objs.size) _
 rw[hsz]
 exact hQ x y g8 _ hx hy hz8 (up _ _ D.TOz hTO5) (upS D1 st1 D.i1z D.l1z) (upS D2 st2' D.i2z D.l2z) hT8 hs8 λc o c1 c2 c3 c4 e=>up c o c1 (hk5 c o c1 c2 c3 c4 e)
theorem K2 {TI TO:Addr}{a b:Value}{Q:Option Value->Shared->Prop}(D:ZipApart z TI TO i1 i2 l1 l2)
  (D1:Draws prog w A.in1 i1 [i1,l1] n1 P1 S1) (D2:Draws prog w A.in1 i2 [i2,l2] n2 P2 S2) (hz:IsZip s.heap z TI TO .none) (hTI:IsPair s.heap TI (.ref i1) (.ref i2)) (hTO:IsPair s.heap TO a b) (h1:S1 k1 s.heap) (h2:S2 k2 s.heap) (lt1:k1<n1) (lt2:k2<n2)
  (hQ:∀ x y h' tk,P1 k1 x->P2 k2 y->IsZip h' z TI TO (rawInt s.heap.objs.size)->IsPair h' TO x y->S1 (k1+1) h'->S2 (k2+1) h'->IsPair h' s.heap.objs.size x y->h'.objs.size=s.heap.objs.size+1 ->
   (∀ c o,c≠z->c≠TO->c≠i1->c≠i2->s.heap.get? c=some o->h'.get? c=some o)->Q (some (.ref s.heap.objs.size)) { s with heap:=h',toks:=tk }):
  wpAny (model prog w) A (pyNext (.ref z)) Q E s:=by
 have hT:s.TypeIs (.ref z) "zip":=⟨_,hz,rfl⟩
 unfold pyNext
 exact wpAny_bind (wpAny_attempt (wpAny_callSpecial?_slot (name:=Str.ofString "__next__") hT F.slot_zip_next
  (wpAny_call_entry F.slot_zip_next hT F.entry_zip_next (V0 D D1 D2 hz hTI hTO h1 h2 lt1 lt2 λx y h' tk p1 p2 a1 a2 a3 a4 a5 a6 a7=>wpAny_pure (hQ x y h' tk p1 p2 a1 a2 a3 a4 a5 a6 a7)) (F.args_zip_next_1 _))))
theorem V4 {TI TO:Addr}{a b:Value}{Q:Fin->Shared->Prop}(D:ZipApart z TI TO i1 i2 l1 l2)
  (D1:Draws prog w A i1 [i1,l1] n1 P1 S1) (D2:Draws prog w A i2 [i2,l2] n2 P2 S2) (hz:IsZip s.heap z TI TO .none) (hTI:IsPair s.heap TI (.ref i1) (.ref i2)) (hTO:IsPair s.heap TO a b) (h1:S1 k1 s.heap) (h2:S2 k2 s.heap) (hend:k1=n1\/(k1<n1/\k2=n2))
  (hE:∀ h' tk e,(∀ c o,c≠z->c≠TO->c≠i1->c≠i2->s.heap.get? c=some o->h'.get? c=some o)->(∃ o,h'.get? e=some o/\o.cls=.type "StopIteration")->E (.ref e) { s with heap:=h',toks:=tk }):
  wpAny (model prog w) A (Builtin.«zip.__next__» ⟨[.ref z],[]⟩) Q E s:=by
 show wpAny _ _ (field (.ref z) 2 >>= _) _ _ _
 refine wpAny_bind (wpAny_field hz rfl (x:=.bool false) rfl ?_)
 show wpAny _ _ (field (.ref z) 3 >>= _) _ _ _
 refine wpAny_bind (wpAny_field hz rfl (x:=.ref TI) rfl ?_)
 refine wpAny_bind (wpAny_seqItems hTI rfl ?_)
 show wpAny _ _ (Builtin.SmallTypes.ownedTupleIsFree (.ref z) >>= _) _ _ _
 refine wpAny_bind ?_
 unfold Builtin.SmallTypes.ownedTupleIsFree
 refine wpAny_bind (wpAny_field hz rfl (x:=.none) rfl (wpAny_pure ?_))
 simp only[if_true]
 refine wpAny_bind (wpAny_rule ?_)
 refine wpAny_bind (wpAny_field hz rfl (x:=.ref TO) rfl ?_)
 refine wpAny_bind (wpAny_setField_rec hz (by simp) λg1 hz1 e1=>?_)
 replace hz1:IsZip g1 z TI TO .ellipsis:=hz1
 refine wpAny_bind ?_
 simp only[List.zipIdx_cons,List.zipIdx_nil,List.forIn_cons,List.forIn_nil]
 have fr1:∀ {S:Nat->Heap->Prop} {n:Nat} {P:Nat->Value->Prop} {i l c:Addr} {k:Nat} {h h':Heap},Draws prog w A i [i,l] n P S->S k h->Heap.SameBut c h h'->i≠c->l≠c->S k h':=λ{S n P i l c k h h'} D st e n1 n2=>D.frame _ _ _ st λb hb o q=>by
  simp only[List.mem_cons,List.mem_nil_iff,or_false] at hb
  rcases hb with rfl|rfl
  ·exact e.extBut _ _ n1 q
  ·exact e.extBut _ _ n2 q
 refine wpAny_bind (wpAny_bind (wpAny_onRaise ?_))
 show wpAny _ _ (Builtin.SmallTypes.nextOf (.ref i1) >>= _) _ _ _
 rcases hend with rfl|⟨lt1,rfl⟩
 ·refine wpAny_bind (D1.done _ _ _ (fr1 D1 h1 e1 D.i1z D.l1z) λg2 e e2 he=>?_)
  obtain⟨oe,hoe,hce⟩:=he
  have hz2:IsZip g2 z TI TO .ellipsis:=e2 _ _ D.i1z.symm hz1
  have hez:e≠z:=λx=>by subst x;rw[hz2] at hoe;cases hoe;simp at hce
  exact wpAny_setField_rec hz2 (by simp) λg3 _ e3=>hE g3 _ e (λc o c1 _ c3 _ x=>e3.extBut _ _ c1 (e2 _ _ c3 (e1.extBut _ _ c1 x))) ⟨oe,e3.extBut _ _ hez hoe,hce⟩
 ·refine wpAny_bind (D1.item k1 _ _ _ lt1 (fr1 D1 h1 e1 D.i1z D.l1z) λx g2 tk2 hx st2 e2=>wpAny_pure ?_)
  have hTO2:IsPair g2 TO a b:=e2.extBut _ _ D.TOi1 (e1.extBut _ _ D.TOz hTO)
  refine wpAny_bind (wpAny_seqItems hTO2 rfl ?_)
  refine wpAny_bind (wpAny_updateSeq_pair hTO2 λg3 hTO3 e3=>?_)
  refine wpAny_bind (wpAny_letGo (wpAny_pure ?_))
  refine wpAny_bind (wpAny_bind (wpAny_onRaise ?_))
  show wpAny _ _ (Builtin.SmallTypes.nextOf (.ref i2) >>= _) _ _ _
  refine wpAny_bind (D2.done _ _ _ (fr1 D2 (fr1 D2 (fr1 D2 h2 e1 D.i2z D.l2z) e2 D.i12.symm D.l2i1) e3 D.TOi2.symm D.l2TO) λg4 e e4 he=>?_)
  obtain⟨oe,hoe,hce⟩:=he
  have hz4:IsZip g4 z TI TO .ellipsis:=e4 _ _ D.i2z.symm (e3.extBut _ _ D.TOz.symm (e2.extBut _ _ D.i1z.symm hz1))
  have hez:e≠z:=λx=>by subst x;rw[hz4] at hoe;cases hoe;simp at hce
  exact wpAny_setField_rec hz4 (by simp) λg5 _ e5=>hE g5 _ e (λc o c1 c2 c3 c4 x=>e5.extBut _ _ c1 (e4 _ _ c4 (e3.extBut _ _ c2 (e2.extBut _ _ c3 (e1.extBut _ _ c1 x))))) ⟨oe,e5.extBut _ _ hez hoe,hce⟩
theorem Wk {TI TO:Addr}{a b:Value}{Q:Option Value->Shared->Prop}(D:ZipApart z TI TO i1 i2 l1 l2)
  (D1:Draws prog w A.in1 i1 [i1,l1] n1 P1 S1) (D2:Draws prog w A.in1 i2 [i2,l2] n2 P2 S2) (hz:IsZip s.heap z TI TO .none) (hTI:IsPair s.heap TI (.ref i1) (.ref i2)) (hTO:IsPair s.heap TO a b) (h1:S1 k1 s.heap) (h2:S2 k2 s.heap) (hend:k1=n1\/(k1<n1/\k2=n2))
  (hQ:∀ h' tk,(∀ c o,c≠z->c≠TO->c≠i1->c≠i2->s.heap.get? c=some o->h'.get? c=some o)->Q none { s with heap:=h',toks:=tk }):wpAny (model prog w) A (pyNext (.ref z)) Q E s:=by
 have hT:s.TypeIs (.ref z) "zip":=⟨_,hz,rfl⟩
 unfold pyNext
 refine wpAny_bind (wpAny_attempt (wpAny_callSpecial?_slot (name:=Str.ofString "__next__") hT F.slot_zip_next
  (wpAny_call_entry F.slot_zip_next hT F.entry_zip_next (V4 D D1 D2 hz hTI hTO h1 h2 hend λh' tk e hk he=>?_) (F.args_zip_next_1 _))))
 obtain⟨o,ho,hc⟩:=he
 refine wpAny_bind (wpAny_isInstance (T:="StopIteration") (b:=true) ⟨o,ho,hc⟩ isSubtype_stop ?_)
 exact wpAny_pure (hQ _ _ hk)
end
def SqQ (K:PySem.W.Frag)(k:Bool)(H:Hp)(a:Addr)(xs:List V):Prop:=if k=true then SqT K H a xs else SqL K H a xs
def wE (k:Bool)(h:Heap)(it a:Addr)(i:Nat):Prop:=if k=true then h.IsTupleIter it a i else h.IsListIter it a i
def qObj (k:Bool)(h:Heap)(a:Addr)(items:Array Value):Prop:=if k=true then h.IsTuple a items else h.IsList a items
def Xx (k:Bool):String:=if k=true then "tuple_iterator" else "list_iterator"
theorem JV (hh:A.handled=none)(k:Bool)(it l:Addr)(hne:l≠it)(items:Array Value):
  Draws prog w A it [it,l] items.size (λi v=>items[i]?=some v) (λi h=>wE k h it l i/\qObj k h l items):=by
 cases k with
 |true=>exact VR hh it l hne items
 |false=>exact Draws.list hh it l hne items
def Itq (K:PySem.W.Frag)(ka kb:Bool)(a b:Addr):It:=
 ⟨λi H=>∃ xs ys x y,SqQ K ka H a xs/\SqQ K kb H b ys/\xs[i]?=some x/\ys[i]?=some y,
  λi H z H'=>∃ p x y,H p=none/\z=.ref p/\H'=upd H p (.tup [x,y])/\(∀ xs,SqQ K ka H a xs->xs[i]?=some x)/\∀ ys,SqQ K kb H b ys->ys[i]?=some y,
  λi H=>∃ xs ys,SqQ K ka H a xs/\SqQ K kb H b ys/\(xs.length=i\/(i<xs.length/\ys.length=i))⟩
theorem wE.obj {k:Bool}(x:wE k h it a i):∃ o,h.get? it=some o/\∀ v,o.data≠.cell v:=by
 cases k with
 |true=>obtain⟨o,e,c,d⟩:=x;exact⟨o,e,λv z=>by rw[d] at z;cases z⟩
 |false=>obtain⟨o,e,c,d⟩:=x;exact⟨o,e,λv z=>by rw[d] at z;cases z⟩
theorem wE.at {k:Bool}{h':Heap}(x:wE k h it a i)(q:∀ o,h.get? it=some o->h'.get? it=some o):wE k h' it a i:=by
 cases k with
 |true=>exact Heap.IsTupleIter.at x q
 |false=>exact Heap.IsListIter.at x q
def zH (ka kb:Bool)(h:Heap)(a b:Addr):Heap:=
 ((((h.push { cls:=.type (Xx ka),data:=.fields #[.ref a,.int 0 0] }).push { cls:=.type (Xx kb),data:=.fields #[.ref b,.int 0 0] }).push { cls:=.type "tuple",data:=.seq #[.ref h.objs.size,.ref (h.objs.size+1)] }).push { cls:=.type "tuple",data:=.seq #[.none,.none] }).push
  { cls:=.type "zip",data:=.fields #[.none,.bool false,.bool false,.ref (h.objs.size+2),.ref (h.objs.size+3)] }
theorem szp (h:Heap)(o:Obj):(h.push o).objs.size=h.objs.size+1:=Heap.size_push ..
theorem Jd (a b:Addr)(xs ys:Array Value):Meets (Builtin.«zip.__new__» ⟨[.type "zip",.ref a,.ref b],[]⟩) (λ_ R s=>s.heap.IsTuple a xs/\s.heap.IsList b ys/\R (.ok (.ret (.ref (s.heap.objs.size+4)))) { s with heap:=zH true false s.heap a b }):=
 .of_wp λprog w A R s h=>by
  obtain⟨hp,g,d,tk,os⟩:=s
  obtain⟨h1,h2,h⟩:=h
  have hsub:=sub_zip
  have hL1:Heap.IsTuple (Shared.heap ⟨hp,g,d,tk,os⟩) a xs:=h1
  have hL2:Heap.IsList (Shared.heap ⟨hp.push { cls:=.type "tuple_iterator",data:=.fields #[.ref a,.int 0 0] },g,d,tk,os⟩) b ys:=Heap.IsList.push h2 _
  wp_walk using wpAny_pyIter_tuple hL1,wpAny_pyIter_list hL2
  refine⟨_,rfl,?_⟩
  simp only[szp]
  exact h
theorem Ji (a b:Addr)(xs ys:Array Value):Meets (Builtin.«zip.__new__» ⟨[.type "zip",.ref a,.ref b],[]⟩) (λ_ R s=>s.heap.IsTuple a xs/\s.heap.IsTuple b ys/\R (.ok (.ret (.ref (s.heap.objs.size+4)))) { s with heap:=zH true true s.heap a b }):=
 .of_wp λprog w A R s h=>by
  obtain⟨hp,g,d,tk,os⟩:=s
  obtain⟨h1,h2,h⟩:=h
  have hsub:=sub_zip
  have hL1:Heap.IsTuple (Shared.heap ⟨hp,g,d,tk,os⟩) a xs:=h1
  have hL2:Heap.IsTuple (Shared.heap ⟨hp.push { cls:=.type "tuple_iterator",data:=.fields #[.ref a,.int 0 0] },g,d,tk,os⟩) b ys:=let ⟨o,e,q⟩:=h2;⟨o,Heap.get?_push_of_some _ e,q⟩
  wp_walk using wpAny_pyIter_tuple hL1,wpAny_pyIter_tuple hL2
  refine⟨_,rfl,?_⟩
  simp only[szp]
  exact h
section
variable {prog:Program}{w:World}{A:Around}{E:Value->Shared->Prop}{s:Shared}
theorem YK {ka kb:Bool}:IsZip (zH ka kb h a b) (h.objs.size+4) (h.objs.size+2) (h.objs.size+3) .none/\IsPair (zH ka kb h a b) (h.objs.size+2) (.ref h.objs.size) (.ref (h.objs.size+1))/\IsPair (zH ka kb h a b) (h.objs.size+3) .none .none /\
  wE ka (zH ka kb h a b) h.objs.size a 0/\wE kb (zH ka kb h a b) (h.objs.size+1) b 0/\∀ c o,h.get? c=some o->(zH ka kb h a b).get? c=some o:=by
 have q:∀ (g:Heap) (n:Nat) (o:Obj),o.isFreed=false->g.objs.size=n->(g.push o).get? n=some o:=λg n o hf e=>by rw[<-e];exact Heap.get?_push_size _ hf
 refine⟨?_,?_,?_,?_,?_,?_⟩
 ·exact q _ _ _ rfl (by simp only[szp])
 ·exact Heap.get?_push_of_some _ (Heap.get?_push_of_some _ (q _ _ _ rfl (by simp only[szp])))
 ·exact Heap.get?_push_of_some _ (q _ _ _ rfl (by simp only[szp]))
 ·have e:=Heap.get?_push_of_some { cls:=.type "zip",data:=.fields #[.none,.bool false,.bool false,.ref (h.objs.size+2),.ref (h.objs.size+3)] } (Heap.get?_push_of_some { cls:=.type "tuple",data:=.seq #[.none,.none] } (Heap.get?_push_of_some { cls:=.type "tuple",data:=.seq #[.ref h.objs.size,.ref (h.objs.size+1)] } (Heap.get?_push_of_some { cls:=.type (Xx kb),data:=.fields #[.ref b,.int 0 0] } (q h h.objs.size { cls:=.type (Xx ka),data:=.fields #[.ref a,.int 0 0] } rfl rfl))))
  cases ka with
  |true=>exact⟨_,e,rfl,rfl⟩
  |false=>exact⟨_,e,rfl,rfl⟩
 ·have e:=Heap.get?_push_of_some { cls:=.type "zip",data:=.fields #[.none,.bool false,.bool false,.ref (h.objs.size+2),.ref (h.objs.size+3)] } (Heap.get?_push_of_some { cls:=.type "tuple",data:=.seq #[.none,.none] } (Heap.get?_push_of_some { cls:=.type "tuple",data:=.seq #[.ref h.objs.size,.ref (h.objs.size+1)] } (q (h.push { cls:=.type (Xx ka),data:=.fields #[.ref a,.int 0 0] }) (h.objs.size+1) { cls:=.type (Xx kb),data:=.fields #[.ref b,.int 0 0] } rfl (szp _ _))))
  cases kb with
  |true=>exact⟨_,e,rfl,rfl⟩
  |false=>exact⟨_,e,rfl,rfl⟩
 ·exact λc o e=>Heap.get?_push_of_some _ (Heap.get?_push_of_some _ (Heap.get?_push_of_some _ (Heap.get?_push_of_some _ (Heap.get?_push_of_some _ e))))
theorem Km (kb:Bool){xs ys:Array Value}(ha:s.heap.IsTuple a xs)(hb:qObj kb s.heap b ys)(h:Q (.ref (s.heap.objs.size+4)) { s with heap:=zH true kb s.heap a b }):wpAny (model prog w) A (call (.type "zip") [.ref a,.ref b]) Q E s:=by
 cases kb with
 |true=>exact callType_new F.called_zip (by decide) (F.typeCall_zip_2 _ _) (F.newCall_zip_2 _ _) (λobj=>F.args_object_init_3 obj _ _) F.entry_zip_new (Ji a b xs ys) ⟨ha,hb,⟨⟨_,YK.1,rfl⟩,h⟩⟩
 |false=>exact callType_new F.called_zip (by decide) (F.typeCall_zip_2 _ _) (F.newCall_zip_2 _ _) (λobj=>F.args_object_init_3 obj _ _) F.entry_zip_new (Jd a b xs ys) ⟨ha,hb,⟨⟨_,YK.1,rfl⟩,h⟩⟩
end
def iZipT (K:PySem.W.Frag)(kb:Bool)(ta:TA):TI:=λσ H R=>ta σ H λvs H1=>∃ a b,vs=[.ref a,.ref b]/\(∃ xs,SqT K H1 a xs)/\(∃ ys,SqQ K kb H1 b ys)/\R (Itq K true kb a b) H1
abbrev ku (h:Heap)(z TI TO a:Addr)(f:Bool):Prop:=
 h.get? z=some { cls:=.type "zip",dict:=none,data:=.fields #[rawInt a,.bool f,.bool false,.ref TI,.ref TO],slots:=#[] }
section
variable {prog:Program}{w:World}{A:Around}{E:Value->Shared->Prop}{s:Shared}
theorem Zh {TI TO:Addr}(hz:ku s.heap z TI TO a f)(ha:s.heap.get? a=some oa):
  wpAny (model prog w) A (Builtin.SmallTypes.ownedTupleIsFree (.ref z)) (λb s'=>b=false/\∃ g1,ku g1 z TI TO a true/\Heap.SameBut z s.heap g1/\s'={ s with heap:=g1 }) E s:=by
 unfold Builtin.SmallTypes.ownedTupleIsFree
 refine wpAny_bind (wpAny_field hz rfl (x:=rawInt a) rfl ?_)
 show wpAny _ _ (loadIfAlive ((a:Int).toNat) >>= _) _ _ _
 rw[Int.toNat_natCast]
 refine wpAny_bind (PySem.W.kdx_alive ha ?_)
 simp only[Option.isNone_some,Bool.false_eq_true,if_false]
 refine wpAny_bind (wpAny_field hz rfl (x:=.bool f) rfl ?_)
 cases f with
 |true=>
  rw[if_neg (show ¬ ((Value.bool true != Value.bool true)=true) from Bool.false_ne_true)]
  exact wpAny_pure ⟨rfl,_,hz,Heap.SameBut.refl _ _,rfl⟩
 |false=>
  rw[if_pos (show(Value.bool false != Value.bool true)=true from rfl)]
  exact wpAny_bind (wpAny_setField_rec hz (by simp) λg1 hz1 e1=>wpAny_pure ⟨rfl,g1,hz1,e1,rfl⟩)
theorem K1 {TI TO:Addr}(D:ZipApart z TI TO i1 i2 l1 l2)
  (D1:Draws prog w A i1 [i1,l1] n1 P1 S1) (D2:Draws prog w A i2 [i2,l2] n2 P2 S2) (hz:ku s.heap z TI TO a f) (hTI:IsPair s.heap TI (.ref i1) (.ref i2)) (ha:s.heap.get? a=some oa) (h1:S1 k1 s.heap) (h2:S2 k2 s.heap) (lt1:k1<n1) (lt2:k2<n2)
  (hQ:∀ x y h' tk,P1 k1 x->P2 k2 y->ku h' z TI TO a true->S1 (k1+1) h'->S2 (k2+1) h'->IsPair h' s.heap.objs.size x y->h'.objs.size=s.heap.objs.size+1 ->
   (∀ c o,c≠z->c≠i1->c≠i2->s.heap.get? c=some o->h'.get? c=some o)->Q (.ref s.heap.objs.size) { s with heap:=h',toks:=tk }):
  wpAny (model prog w) A (Builtin.«zip.__next__» ⟨[.ref z],[]⟩) (λfin s'=>∃ v,fin=.done (.ret v)/\Q v s') E s:=by
 show wpAny _ _ (field (.ref z) 2 >>= _) _ _ _
 refine wpAny_bind (wpAny_field hz rfl (x:=.bool false) rfl ?_)
 show wpAny _ _ (field (.ref z) 3 >>= _) _ _ _
 refine wpAny_bind (wpAny_field hz rfl (x:=.ref TI) rfl ?_)
 refine wpAny_bind (wpAny_seqItems hTI rfl ?_)
 show wpAny _ _ (Builtin.SmallTypes.ownedTupleIsFree (.ref z) >>= _) _ _ _
 refine wpAny_bind (thn (Zh hz ha) λb s' ⟨eb,g1,hz1,e1,es⟩=>?_)
 subst eb es
 simp only[Bool.false_eq_true,if_false]
 have fr1:∀ {S:Nat->Heap->Prop} {n:Nat} {P:Nat->Value->Prop} {i l c:Addr} {k:Nat} {h h':Heap},Draws prog w A i [i,l] n P S->S k h->Heap.SameBut c h h'->i≠c->l≠c->S k h':=λ{S n P i l c k h h'} D st e n1 n2=>D.frame _ _ _ st λb hb o q=>by
  simp only[List.mem_cons,List.mem_nil_iff,or_false] at hb
  rcases hb with rfl|rfl
  ·exact e.extBut _ _ n1 q
  ·exact e.extBut _ _ n2 q
 simp only[List.forIn_toArray,List.forIn_cons,List.forIn_nil]
 refine wpAny_bind (wpAny_bind (wpAny_bind (wpAny_holding ?_)))
 show wpAny _ _ (Builtin.SmallTypes.nextOf (.ref i1) >>= _) _ _ _
 refine wpAny_bind (D1.item k1 _ _ _ lt1 (fr1 D1 h1 e1 D.i1z D.l1z) λx g2 tk2 hx st2 e2=>wpAny_pure (wpAny_pure ?_))
 refine wpAny_bind (wpAny_bind (wpAny_holding ?_))
 show wpAny _ _ (Builtin.SmallTypes.nextOf (.ref i2) >>= _) _ _ _
 refine wpAny_bind (D2.item k2 _ _ _ lt2 (fr1 D2 (fr1 D2 h2 e1 D.i2z D.l2z) e2 D.i12.symm D.l2i1) λy g4 tk4 hy st4 e4=>wpAny_pure (wpAny_pure (wpAny_pure ?_)))
 refine wpAny_bind (wpAny_newTuple (hsz:=by show(2:Nat)<=sizeLine;decide) (wpAny_pure ⟨_,rfl,?_⟩))
 have hsz:g4.objs.size=s.heap.objs.size:=by rw[e4.1,e2.1,e1.1]
 have hz4:ku g4 z TI TO a true:=e4.extBut _ _ D.i2z.symm (e2.extBut _ _ D.i1z.symm hz1)
 have up:∀ c o,g4.get? c=some o->(g4.push { cls:=.type "tuple",data:=.seq #[x,y] }).get? c=some o:=λc o e=>Heap.get?_push_of_some _ e
 have upS:∀ {S:Nat->Heap->Prop} {n:Nat} {P:Nat->Value->Prop} {i l:Addr} {k:Nat},Draws prog w A i [i,l] n P S->S k g4->S k (g4.push { cls:=.type "tuple",data:=.seq #[x,y] }):=λ{S n P i l k} D st=>D.frame _ _ _ st λb hb o q=>up _ _ q
 have hT:IsPair (g4.push { cls:=.type "tuple",data:=.seq #[x,y] }) g4.objs.size x y:=Heap.get?_push_size _ rfl
 have hs8:=szp g4 { cls:=.type "tuple",data:=.seq #[x,y] }
 show Q (.ref g4.objs.size) _
 rw[hsz] at hT hs8 ⊢
 exact hQ x y _ _ hx hy (up _ _ hz4) (upS D1 (fr1 D1 st2 e4 D.i12 D.l1i2)) (upS D2 st4) hT hs8 λc o c1 c3 c4 e=>up _ _ (e4.extBut _ _ c4 (e2.extBut _ _ c3 (e1.extBut _ _ c1 e)))
theorem VH {TI TO:Addr}{Q:Option Value->Shared->Prop}(D:ZipApart z TI TO i1 i2 l1 l2)
  (D1:Draws prog w A.in1 i1 [i1,l1] n1 P1 S1) (D2:Draws prog w A.in1 i2 [i2,l2] n2 P2 S2) (hz:ku s.heap z TI TO a f) (hTI:IsPair s.heap TI (.ref i1) (.ref i2)) (ha:s.heap.get? a=some oa) (h1:S1 k1 s.heap) (h2:S2 k2 s.heap) (lt1:k1<n1) (lt2:k2<n2)
  (hQ:∀ x y h' tk,P1 k1 x->P2 k2 y->ku h' z TI TO a true->S1 (k1+1) h'->S2 (k2+1) h'->IsPair h' s.heap.objs.size x y->h'.objs.size=s.heap.objs.size+1 ->
   (∀ c o,c≠z->c≠i1->c≠i2->s.heap.get? c=some o->h'.get? c=some o)->Q (some (.ref s.heap.objs.size)) { s with heap:=h',toks:=tk }):
  wpAny (model prog w) A (pyNext (.ref z)) Q E s:=by
 have hT:s.TypeIs (.ref z) "zip":=⟨_,hz,rfl⟩
 unfold pyNext
 exact wpAny_bind (wpAny_attempt (wpAny_callSpecial?_slot (name:=Str.ofString "__next__") hT F.slot_zip_next
  (wpAny_call_entry F.slot_zip_next hT F.entry_zip_next (K1 D D1 D2 hz hTI ha h1 h2 lt1 lt2 λx y h' tk p1 p2 a1 a2 a3 a4 a5 a6=>wpAny_pure (hQ x y h' tk p1 p2 a1 a2 a3 a4 a5 a6)) (F.args_zip_next_1 _))))
theorem Wj {TI TO:Addr}{Q:Option Value->Shared->Prop}(D:ZipApart z TI TO i1 i2 l1 l2)
  (D1:Draws prog w A.in1 i1 [i1,l1] n1 P1 S1) (D2:Draws prog w A.in1 i2 [i2,l2] n2 P2 S2) (hz:ku s.heap z TI TO a f) (hTI:IsPair s.heap TI (.ref i1) (.ref i2)) (ha:s.heap.get? a=some oa) (h1:S1 k1 s.heap) (h2:S2 k2 s.heap) (hend:k1=n1\/(k1<n1/\k2=n2))
  (hQ:∀ h' tk,(∀ c o,c≠z->c≠i1->c≠i2->s.heap.get? c=some o->h'.get? c=some o)->Q none { s with heap:=h',toks:=tk }):wpAny (model prog w) A (pyNext (.ref z)) Q E s:=by
 have hT:s.TypeIs (.ref z) "zip":=⟨_,hz,rfl⟩
 have stop:∀ (g:Heap) (tk:Nat) (e:Addr),(∀ c o,c≠z->c≠i1->c≠i2->s.heap.get? c=some o->g.get? c=some o)->(∃ o,g.get? e=some o/\o.cls=.type "StopIteration") ->
   wpAny (model prog w) A (do if <- isInstance (.ref e) (.type "StopIteration") then return none else throw (.ref e)) Q E { s with heap:=g,toks:=tk }:=λg tk e hk ⟨o,ho,hc⟩=>
  wpAny_bind (wpAny_isInstance (T:="StopIteration") (b:=true) ⟨o,ho,hc⟩ isSubtype_stop (wpAny_pure (hQ _ _ hk)))
 unfold pyNext
 refine wpAny_bind (wpAny_attempt (wpAny_callSpecial?_slot (name:=Str.ofString "__next__") hT F.slot_zip_next
  (wpAny_call_entry F.slot_zip_next hT F.entry_zip_next ?_ (F.args_zip_next_1 _))))
 show wpAny _ _ (field (.ref z) 2 >>= _) _ _ _
 refine wpAny_bind (wpAny_field hz rfl (x:=.bool false) rfl ?_)
 show wpAny _ _ (field (.ref z) 3 >>= _) _ _ _
 refine wpAny_bind (wpAny_field hz rfl (x:=.ref TI) rfl ?_)
 refine wpAny_bind (wpAny_seqItems hTI rfl ?_)
 show wpAny _ _ (Builtin.SmallTypes.ownedTupleIsFree (.ref z) >>= _) _ _ _
 refine wpAny_bind (thn (Zh hz ha) λb s' ⟨eb,g1,hz1,e1,es⟩=>?_)
 subst eb es
 simp only[Bool.false_eq_true,if_false]
 have fr1:∀ {S:Nat->Heap->Prop} {n:Nat} {P:Nat->Value->Prop} {i l c:Addr} {k:Nat} {h h':Heap},Draws prog w A.in1 i [i,l] n P S->S k h->Heap.SameBut c h h'->i≠c->l≠c->S k h':=λ{S n P i l c k h h'} D st e n1 n2=>D.frame _ _ _ st λb hb o q=>by
  simp only[List.mem_cons,List.mem_nil_iff,or_false] at hb
  rcases hb with rfl|rfl
  ·exact e.extBut _ _ n1 q
  ·exact e.extBut _ _ n2 q
 simp only[List.forIn_toArray,List.forIn_cons,List.forIn_nil]
 refine wpAny_bind (wpAny_bind (wpAny_bind (wpAny_holding ?_)))
 show wpAny _ _ (Builtin.SmallTypes.nextOf (.ref i1) >>= _) _ _ _
 rcases hend with rfl|⟨lt1,rfl⟩
 ·refine wpAny_bind (D1.done _ _ _ (fr1 D1 h1 e1 D.i1z D.l1z) λg2 e e2 he=>?_)
  exact stop g2 _ e (λc o c1 c3 _ x=>e2 _ _ c3 (e1.extBut _ _ c1 x)) he
 ·refine wpAny_bind (D1.item k1 _ _ _ lt1 (fr1 D1 h1 e1 D.i1z D.l1z) λx g2 tk2 hx st2 e2=>wpAny_pure (wpAny_pure ?_))
  refine wpAny_bind (wpAny_bind (wpAny_holding ?_))
  show wpAny _ _ (Builtin.SmallTypes.nextOf (.ref i2) >>= _) _ _ _
  refine wpAny_bind (D2.done _ _ _ (fr1 D2 (fr1 D2 h2 e1 D.i2z D.l2z) e2 D.i12.symm D.l2i1) λg4 e e4 he=>?_)
  exact stop g4 _ e (λc o c1 c3 c4 x=>e4 _ _ c4 (e2.extBut _ _ c3 (e1.extBut _ _ c1 x))) he
def ZSt (h:Heap)(z TI TO i1 i2:Addr):Prop:=(IsZip h z TI TO .none/\∃ u v,IsPair h TO u v)\/∃ a f oa,ku h z TI TO a f/\h.get? a=some oa/\a≠z/\a≠i1/\a≠i2
theorem Wt {TI TO:Addr}{Q:Option Value->Shared->Prop}(D:ZipApart z TI TO i1 i2 l1 l2)
  (D1:Draws prog w A.in1 i1 [i1,l1] n1 P1 S1) (D2:Draws prog w A.in1 i2 [i2,l2] n2 P2 S2) (hz:ZSt s.heap z TI TO i1 i2) (hTI:IsPair s.heap TI (.ref i1) (.ref i2)) (h1:S1 k1 s.heap) (h2:S2 k2 s.heap) (lt1:k1<n1) (lt2:k2<n2) (b1:i1<s.heap.objs.size) (b2:i2<s.heap.objs.size)
  (hQ:∀ x y h' tk,P1 k1 x->P2 k2 y->ZSt h' z TI TO i1 i2->IsPair h' TI (.ref i1) (.ref i2)->S1 (k1+1) h'->S2 (k2+1) h'->IsPair h' s.heap.objs.size x y->h'.objs.size=s.heap.objs.size+1 ->
   (∀ c o,c ∉ [z,TI,TO,i1,i2]->s.heap.get? c=some o->h'.get? c=some o)->Q (some (.ref s.heap.objs.size)) { s with heap:=h',toks:=tk }):
  wpAny (model prog w) A (pyNext (.ref z)) Q E s:=by
 rcases hz with⟨hz,u,v,hTO⟩|⟨a,f,oa,hz,ha,a1,a2,a3⟩
 ·have lz:=Heap.lt_size hz
  refine K2 D D1 D2 hz hTI hTO h1 h2 lt1 lt2 λx y h' tk p1 p2 c1 c2 c3 c4 c5 c6 c7=>hQ x y h' tk p1 p2 (.inr ⟨_,false,_,c1,c5,Nat.ne_of_gt lz,Nat.ne_of_gt b1,Nat.ne_of_gt b2⟩) (c7 _ _ D.TIz D.TITO D.TIi1 D.TIi2 hTI) c3 c4 c5 c6 λc o hc e=>?_
  simp only[List.mem_cons,List.mem_nil_iff,or_false,not_or] at hc
  exact c7 c o hc.1 hc.2.2.1 hc.2.2.2.1 hc.2.2.2.2 e
 ·refine VH D D1 D2 hz hTI ha h1 h2 lt1 lt2 λx y h' tk p1 p2 c1 c3 c4 c5 c6 c7=>hQ x y h' tk p1 p2 (.inr ⟨_,true,_,c1,c7 _ _ a1 a2 a3 ha,a1,a2,a3⟩) (c7 _ _ D.TIz D.TIi1 D.TIi2 hTI) c3 c4 c5 c6 λc o hc e=>?_
  simp only[List.mem_cons,List.mem_nil_iff,or_false,not_or] at hc
  exact c7 c o hc.1 hc.2.2.2.1 hc.2.2.2.2 e
theorem YV {TI TO:Addr}{Q:Option Value->Shared->Prop}(D:ZipApart z TI TO i1 i2 l1 l2)
  (D1:Draws prog w A.in1 i1 [i1,l1] n1 P1 S1) (D2:Draws prog w A.in1 i2 [i2,l2] n2 P2 S2) (hz:ZSt s.heap z TI TO i1 i2) (hTI:IsPair s.heap TI (.ref i1) (.ref i2)) (h1:S1 k1 s.heap) (h2:S2 k2 s.heap) (hend:k1=n1\/(k1<n1/\k2=n2))
  (hQ:∀ h' tk,(∀ c o,c ∉ [z,TI,TO,i1,i2]->s.heap.get? c=some o->h'.get? c=some o)->Q none { s with heap:=h',toks:=tk }):wpAny (model prog w) A (pyNext (.ref z)) Q E s:=by
 rcases hz with⟨hz,u,v,hTO⟩|⟨a,f,oa,hz,ha,a1,a2,a3⟩
 ·refine Wk D D1 D2 hz hTI hTO h1 h2 hend λh' tk c7=>hQ h' tk λc o hc e=>?_
  simp only[List.mem_cons,List.mem_nil_iff,or_false,not_or] at hc
  exact c7 c o hc.1 hc.2.2.1 hc.2.2.2.1 hc.2.2.2.2 e
 ·refine Wj D D1 D2 hz hTI ha h1 h2 hend λh' tk c7=>hQ h' tk λc o hc e=>?_
  simp only[List.mem_cons,List.mem_nil_iff,or_false,not_or] at hc
  exact c7 c o hc.1 hc.2.2.2.1 hc.2.2.2.2 e
theorem ZSt.keep {h':Heap}{TI TO S:Addr}(x:ZSt h z TI TO i1 i2)(hk:∀ b o,b≠S->h.get? b=some o->h'.get? b=some o)(hS:∃ o,h'.get? S=some o)(nz:z≠S)(nT:TO≠S):ZSt h' z TI TO i1 i2:=by
 rcases x with⟨a,u,v,b⟩|⟨a,f,oa,hz,ha,n⟩
 ·exact .inl ⟨hk _ _ nz a,u,v,hk _ _ nT b⟩
 ·by_cases e:a=S
  ·subst e
   obtain⟨o,ho⟩:=hS
   exact .inr ⟨a,f,o,hk _ _ nz hz,ho,n⟩
  ·exact .inr ⟨a,f,oa,hk _ _ nz hz,hk _ _ e ha,n⟩
end
structure ZL (K:PySem.W.Frag)(H0 H:Hp)(S:Addr)(xs ys:List V)(i:Nat):Prop where
 same:∀ b o,b≠S->H0 b=some o->H b=some o
 at_:∃ ps:List Addr,H S=some (.lst (ps.map V.ref))/\ps.length=i/\∀ (j:Nat) (q:Addr),ps[j]?=some q->H0 q=none/\∃ x y,xs[j]?=some x/\ys[j]?=some y/\H q=some (.tup [x,y])
theorem V3 (hh:A.handled=none){pins:List (Addr×Obj)}{H0:Hp}{TI TO S:Addr}(D:ZipApart z TI TO i1 i2 a b){ys:List V}(hx:SqT X.K H0 a xs)(hy:SqT X.K H0 b ys)(hl:xs.length<=1000)(hn0:H0 S=none){res:Value}{R:Result->Shared->Prop}
  (hR:∀ H s,Inv X pins σ H s->ZL X.K H0 H S xs ys (min xs.length ys.length)->R (.ok (.ret res)) s):
  ∀ (k i:Nat) (H:Hp) (s:Shared),min xs.length ys.length-i=k->i<=min xs.length ys.length->Inv X pins σ H s->(∀ c∈[z,TI,TO,i1,i2],ZX X pins H c)->ZSt s.heap z TI TO i1 i2->IsPair s.heap TI (.ref i1) (.ref i2)->wE true s.heap i1 a i->wE true s.heap i2 b i->TO<s.heap.objs.size->ZL X.K H0 H S xs ys i ->
   codeAny (model X.prog X.w) A (.builtin "list.extend.loop" ⟨[.ref S,.ref z,res],[]⟩) R s:=by
 intro k
 induction k with
 |zero=>
  intro i H s hk hi I hf hz hTI h4 h5 hTO L
  have sT:∀ {c:Addr} {zs:List V},SqT X.K H0 c zs->SqT X.K H c zs:=λ{c zs} h=>by
   rcases h with(h|⟨o,h⟩)|h
   ·exact .inl (.inl (L.same _ _ (λe=>by rw[e,hn0] at h;cases h) h))
   ·exact .inl (.inr ⟨o,L.same _ _ (λe=>by rw[e,hn0] at h;cases h) h⟩)
   ·exact .inr h
  obtain⟨its,rv,p,_⟩:=I.tuple (sT hx)
  obtain⟨jts,rw_,p2,_⟩:=I.tuple (sT hy)
  have e1:=rv.length
  have e2:=rw_.length
  refine codeAny_builtin PySem.F.entry_extend_loop ?_
  rw[Around.under_plainId PySem.F.plain_extend_loop _]
  show wpAny _ A.in1 (pyNext (.ref z) >>= _) _ _ _
  refine wpAny_bind (YV D (JV (prog:=X.prog) (w:=X.w) (A:=A.in1.in1) hh true i1 a D.l1i1 its.toArray) (JV (prog:=X.prog) (w:=X.w) (A:=A.in1.in1) hh true i2 b D.l2i2 jts.toArray) hz hTI ⟨h4,p⟩ ⟨h5,p2⟩ ?_ λh' tk hk'=>wpAny_pure ?_)
  ·simp only[List.size_toArray]
   omega
  ·have ei:i=min xs.length ys.length:=by omega
   exact hR _ _ (I.turnedR (t':=tk) hf hk') (ei ▸ L)
 |succ k ih=>
  intro i H s hk hi I hf hz hTI h4 h5 hTO L
  have sT:∀ {c:Addr} {zs:List V},SqT X.K H0 c zs->SqT X.K H c zs:=λ{c zs} h=>by
   rcases h with(h|⟨o,h⟩)|h
   ·exact .inl (.inl (L.same _ _ (λe=>by rw[e,hn0] at h;cases h) h))
   ·exact .inl (.inr ⟨o,L.same _ _ (λe=>by rw[e,hn0] at h;cases h) h⟩)
   ·exact .inr h
  obtain⟨its,rv,p,_⟩:=I.tuple (sT hx)
  obtain⟨jts,rw_,p2,_⟩:=I.tuple (sT hy)
  have e1:=rv.length
  have e2:=rw_.length
  obtain⟨x,hxi⟩:∃ x,xs[i]?=some x:=⟨xs[i]'(by omega),List.getElem?_eq_getElem _⟩
  obtain⟨y,hyi⟩:∃ y,ys[i]?=some y:=⟨ys[i]'(by omega),List.getElem?_eq_getElem _⟩
  obtain⟨ux,hux,rux⟩:=rv.get hxi
  obtain⟨uy,huy,ruy⟩:=rw_.get hyi
  obtain⟨o1,q1,_⟩:=h4.obj
  obtain⟨o2,q2,_⟩:=h5.obj
  refine codeAny_builtin PySem.F.entry_extend_loop ?_
  rw[Around.under_plainId PySem.F.plain_extend_loop _]
  show wpAny _ A.in1 (pyNext (.ref z) >>= _) _ _ _
  refine wpAny_bind (Wt D (JV (prog:=X.prog) (w:=X.w) (A:=A.in1.in1) hh true i1 a D.l1i1 its.toArray) (JV (prog:=X.prog) (w:=X.w) (A:=A.in1.in1) hh true i2 b D.l2i2 jts.toArray) hz hTI ⟨h4,p⟩ ⟨h5,p2⟩ (by simp only[List.size_toArray];omega) (by simp only[List.size_toArray];omega) (Heap.lt_size q1) (Heap.lt_size q2) λvx vy h₁ tk px py c1 cTI c3 c4 c5 c6 c7=>?_)
  have ex:vx=ux:=by
   have:=px
   rw[show its.toArray[i]?=some ux by simpa using hux] at this
   exact(Option.some.inj this).symm
  have ey:vy=uy:=by
   have:=py
   rw[show jts.toArray[i]?=some uy by simpa using huy] at this
   exact(Option.some.inj this).symm
  subst ex ey
  have I1:Inv X pins σ (upd H s.heap.objs.size (.tup [x,y])) { s with heap:=h₁,toks:=tk }:=
   I.turnedL (l:=[z,TI,TO,i1,i2]) hf c7 (us:=[vx,vy]) (n:=0) c5 (.cons rux (.cons ruy .nil)) (by show 2<=sizeLine;decide)
  obtain⟨ps,hS,hpl,hps⟩:=L.at_
  have hfr:H s.heap.objs.size=none:=I.fresh
  have nS:S≠s.heap.objs.size:=qj hS hfr
  have hS1:upd H s.heap.objs.size (.tup [x,y]) S=some (.lst (ps.map V.ref)):=by rw[qp nS];exact hS
  obtain⟨zl,ks,n,r,hkl,e⟩:=I1.lstM hS1
  have hlen:ks.length=i:=by rw[<-hkl,List.length_map,hpl]
  show wpAny _ A.in1 (updateSeq S (·.push (Value.ref s.heap.objs.size)) >>= _) _ _ _
  have I2:=I1.lset (its':=ks++[.ref s.heap.objs.size]) (ys:=ps.map V.ref++[.ref s.heap.objs.size]) (f:=(·.push (Value.ref s.heap.objs.size))) (t':=tk) hS1 e (by simp) (r.append (.cons (show zV (.ref _) (Value.ref _) from rfl) .nil)) (by
   rw[List.length_append,List.length_map,hpl]
   exact Nat.le_trans (show i+1<=1000 by omega) (by decide))
  have nfS:∀ c∈[z,TI,TO,i1,i2],c≠S:=λc hc z=>by
   have:=(hf c hc).1
   rw[z,hS] at this;cases this
  have hup:∀ b o,b≠S->h₁.get? b=some o->(h₁.update S (Obj.mapSeq (·.push (Value.ref s.heap.objs.size)))).get? b=some o:=λb o hb e=>(Heap.get?_update_other _ _ (Ne.symm hb)).trans e
  refine wpAny_bind (wpAny_updateSeq e rfl (wpAny_pure ⟨plainId_quiet PySem.F.plain_extend_loop _,ih (i+1) _ _ (by omega) (by omega) I2 (λc hc=>?_) (c1.keep hup ⟨_,Heap.get?_update_self _ e rfl⟩ (nfS z (by simp)) (nfS TO (by simp))) (hup _ _ (nfS TI (by simp)) cTI) (c3.1.at λo q=>hup _ _ (nfS i1 (by simp)) q) (c4.1.at λo q=>hup _ _ (nfS i2 (by simp)) q) (by show TO<(h₁.update S _).objs.size;rw[(Heap.SameBut.update ..).1,c6];exact Nat.lt_succ_of_lt hTO) ⟨λb o hb q=>?_,ps++[s.heap.objs.size],?_,by rw[List.length_append,hpl];rfl,λj q hj=>?_⟩⟩) (by rw[List.size_toArray,hlen];exact Nat.le_trans (show i<=1000 by omega) (by decide)) (by show(ks.toArray.push (Value.ref s.heap.objs.size)).size<=sizeLine+1;rw[Array.size_push,List.size_toArray,hlen];exact Nat.le_trans (show i+1<=1001 by omega) (by decide)))
  ·have:=hf c hc
   refine⟨?_,this.2⟩
   have lt:c≠s.heap.objs.size:=by
    have:c<s.heap.objs.size:=by
     simp only[List.mem_cons,List.mem_nil_iff,or_false] at hc
     rcases hc with rfl|rfl|rfl|rfl|rfl
     ·rcases hz with⟨q,_⟩|⟨_,_,_,q,_⟩
      ·exact Heap.lt_size q
      ·exact Heap.lt_size q
     ·exact Heap.lt_size hTI
     ·exact hTO
     ·exact Heap.lt_size q1
     ·exact Heap.lt_size q2
    exact Nat.ne_of_lt this
   rw[qp (nfS c hc),qp lt]
   exact this.1
  ·have nb:b≠s.heap.objs.size:=λz=>by
    subst z
    have:=L.same _ _ hb q
    rw[hfr] at this;cases this
   rw[qp hb,qp nb]
   exact L.same b o hb q
  ·rw[qg,List.map_append];rfl
  ·rcases Nat.lt_trichotomy j ps.length with h1|h1|h1
   ·rw[List.getElem?_append_left h1] at hj
    obtain⟨f0,x',y',g1,g2,g3⟩:=hps j q hj
    have nq:q≠S:=λz=>by rw[z,hS] at g3;cases g3
    have nq2:q≠s.heap.objs.size:=λz=>by rw[z,hfr] at g3;cases g3
    exact⟨f0,x',y',g1,g2,by rw[qp nq,qp nq2];exact g3⟩
   ·subst h1
    have hb:s.heap.objs.size=q:=by simpa using hj
    subst hb
    refine⟨?_,x,y,by rw[hpl];exact hxi,by rw[hpl];exact hyi,by rw[qp nS.symm,qg]⟩
    cases e0:H0 s.heap.objs.size with
    |none=>rfl
    |some o=>rw[L.same _ _ nS.symm e0] at hfr;cases hfr
   ·have hnone:(ps++[s.heap.objs.size])[j]?=none:=List.getElem?_eq_none (by rw[List.length_append,List.length_singleton];omega)
    rw[hnone] at hj;cases hj
theorem K7:typeLookup (.type "zip") "__len__"=pure none:=by rw[typeLookup_type,builtinLookup_eq_fast];kernel_rfl
theorem Xz:typeLookup (.type "zip") "__length_hint__"=pure none:=by rw[typeLookup_type,builtinLookup_eq_fast];kernel_rfl
theorem KG {r:Addr}{Q:Bool->Shared->Prop}(hT:s.TypeIs (.ref r) "zip")(h:Q true s):wpAny (model prog w) A (Builtin.List.listLengthHint (.ref r)) Q E s:=by
 unfold Builtin.List.listLengthHint
 refine wpAny_bind (wpAny_specialOf hT K7 ?_)
 refine wpAny_ite_split (λhab=>absurd hab (by decide)) (λ_=>?_)
 refine wpAny_ite_split (λhab=>absurd hab (by decide)) (λ_=>?_)
 exact wpAny_bind (wpAny_specialOf hT Xz (wpAny_pure h))
theorem Vb (hc:X.calm=true){pins:List (Addr×Obj)}{TI TO:Addr}{ys:List V}(I:Inv X pins σ H s)(D:ZipApart z TI TO i1 i2 a b)(hx:SqT X.K H a xs)(hy:SqT X.K H b ys)(hl:xs.length<=1000)
  (hf:∀ c∈[z,TI,TO,i1,i2],ZX X pins H c) (hz:IsZip s.heap z TI TO .none) (hTI:IsPair s.heap TI (.ref i1) (.ref i2)) (hTO:IsPair s.heap TO .none .none) (h4:wE true s.heap i1 a 0) (h5:wE true s.heap i2 b 0)
  (hQ:∀ H' s',Inv X pins σ H' s'->H s.heap.objs.size=none->ZL X.K H H' s.heap.objs.size xs ys (min xs.length ys.length)->Q (.ref s.heap.objs.size) s'):wpAny (model X.prog X.w) X.A (call (.type "list") [.ref z]) Q E s:=by
 have hh:X.A.handled=none:=I.ok.hd hc
 refine callType_codes (Q₁:=λobj s₁=>obj=.ref s.heap.objs.size/\s₁={ s with heap:=s.heap.push { cls:=.type "list",data:=.seq #[] } }) PySem.F.called_list (PySem.F.typeCall_list_1 _) PySem.F.entry_list_init
  (code_list_new _ ⟨rfl,rfl⟩) λobj s₁ h₁=>?_
 obtain⟨rfl,rfl⟩:=h₁
 have hfr:H s.heap.objs.size=none:=I.fresh
 have I1:=I.lnew (its:=[]) (ys:=[]) (t':=s.toks) .nil (Nat.zero_le _)
 have hS:(s.heap.push { cls:=.type "list",data:=.seq #[] }).get? s.heap.objs.size=some { cls:=.type "list",data:=.seq #[] }:=Heap.get?_push_size _ rfl
 have up1:∀ c o,s.heap.get? c=some o->(s.heap.push { cls:=.type "list",data:=.seq #[] }).get? c=some o:=λc o e=>Heap.get?_push_of_some _ e
 have lt:∀ c o,s.heap.get? c=some o->c≠s.heap.objs.size:=λc o e=>Nat.ne_of_lt (Heap.lt_size e)
 obtain⟨o1,q1,_⟩:=h4.obj
 obtain⟨o2,q2,_⟩:=h5.obj
 have hne:∀ c∈[z,TI,TO,i1,i2],c≠s.heap.objs.size:=λc hc=>by
  simp only[List.mem_cons,List.mem_nil_iff,or_false] at hc
  rcases hc with rfl|rfl|rfl|rfl|rfl
  ·exact lt _ _ hz
  ·exact lt _ _ hTI
  ·exact lt _ _ hTO
  ·exact lt _ _ q1
  ·exact lt _ _ q2
 refine⟨⟨_,hS,rfl⟩,PySem.F.args_list_init_2 _ _,?_⟩
 show wpAny _ _ (do let old <- Builtin.List.listItems (.ref s.heap.objs.size);Builtin.List.listUpdate (.ref s.heap.objs.size) (λ_=>#[]);letGo old.toList.reverse;Builtin.List.listExtendWith (.ref s.heap.objs.size) (.ref z) .none) _ _ _
 refine wpAny_bind ?_
 unfold Builtin.List.listItems
 refine wpAny_bind (wpAny_seqItems hS rfl (wpAny_pure ?_))
 show wpAny _ _ (updateSeq s.heap.objs.size (λ_=>#[]) >>= λ_=>letGo (#[]:Array Value).toList.reverse >>= λ_=>Builtin.List.listExtendWith (.ref s.heap.objs.size) (.ref z) .none) _ _ _
 refine wpAny_bind (wpAny_updateSeq hS rfl ?_)
 have I2:=I1.lset (its':=[]) (ys:=[]) (t':=s.toks) (f:=λ_=>#[]) qg hS rfl .nil (Nat.zero_le _)
 have hS2:=Heap.get?_update_self (Obj.mapSeq (λ_=>(#[]:Array Value))) hS rfl
 have up2:∀ c o,c≠s.heap.objs.size->s.heap.get? c=some o->((s.heap.push { cls:=.type "list",data:=.seq #[] }).update s.heap.objs.size (Obj.mapSeq (λ_=>(#[]:Array Value)))).get? c=some o:=λc o hc e=>(Heap.get?_update_other _ _ (Ne.symm hc)).trans (up1 c o e)
 refine wpAny_bind (wpAny_letGo ?_)
 unfold Builtin.List.listExtendWith
 have hz2:=up2 _ _ (lt _ _ hz) hz
 refine wpAny_bind (wpAny_typeOf (T:="zip") ⟨_,hz2,rfl⟩ ?_)
 have n1:Builtin.List.listSameRef (.ref s.heap.objs.size) (.ref z)=false:=by simp[Builtin.List.listSameRef,(lt _ _ hz).symm]
 have n2:(Value.type "zip" == Value.type "list")=false:=by decide
 have n3:(Value.type "zip" == Value.type "tuple")=false:=by decide
 simp only[n1,n2,n3,Bool.or_false,Bool.false_eq_true,if_false]
 refine wpAny_bind (wpAny_pyIter_zip hz2 ?_)
 refine wpAny_bind (wpAny_holding (KG ⟨_,hz2,rfl⟩ ?_))
 refine wpAny_ite_split (λ_=>?_) (λhab=>absurd (by simp) hab)
 refine wpAny_bind (wpAny_rule ?_)
 refine wpAny_bind ?_
 show wpAny _ _ (updateSeq s.heap.objs.size (·.push .none) >>= λ_=>updateSeq s.heap.objs.size (·.pop)) _ _ _
 refine wpAny_bind (wpAny_updateSeq hS2 rfl ?_)
 have I3:=I2.lset (its':=[.none]) (ys:=[.non]) (t':=s.toks) (f:=(·.push Value.none)) qg hS2 rfl (.cons rfl .nil) (by show 1<=sizeLine;decide)
 have hS3:=Heap.get?_update_self (Obj.mapSeq (·.push Value.none)) hS2 rfl
 refine wpAny_updateSeq (hz:=by seq_fits) hS3 rfl ?_
 have I4:=I3.lset (its':=[]) (ys:=[]) (t':=s.toks) (f:=(·.pop)) qg hS3 rfl .nil (Nat.zero_le _)
 have up4:∀ c o,c≠s.heap.objs.size->s.heap.get? c=some o->((((s.heap.push { cls:=.type "list",data:=.seq #[] }).update s.heap.objs.size (Obj.mapSeq (λ_=>(#[]:Array Value)))).update s.heap.objs.size (Obj.mapSeq (·.push Value.none))).update s.heap.objs.size (Obj.mapSeq (·.pop))).get? c=some o:=
  λc o hc e=>(Heap.get?_update_other _ _ (Ne.symm hc)).trans ((Heap.get?_update_other _ _ (Ne.symm hc)).trans (up2 c o hc e))
 refine wpAny_pure ⟨plainId_quiet PySem.F.plain_extend_loop _,?_⟩
 refine V3 (X:=X) (A:=X.A.in1) hh D hx hy hl hfr (λH' s' I' L=>?_) _ 0 _ _ rfl (Nat.zero_le _) I4 (λc hc=>⟨?_,(hf c hc).2⟩) (.inl ⟨up4 _ _ (lt _ _ hz) hz,_,_,up4 _ _ (lt _ _ hTO) hTO⟩) (up4 _ _ (lt _ _ hTI) hTI) (h4.at λo q=>up4 _ _ (lt _ _ q) q) (h5.at λo q=>up4 _ _ (lt _ _ q) q) ?_ ⟨λc o hc e=>?_,[],qg,rfl,λj q hj=>by simp at hj⟩
 ·exact⟨rfl,hQ H' s' I' hfr L⟩
 ·rw[qp (hne c hc),qp (hne c hc),qp (hne c hc),qp (hne c hc)]
  exact(hf c hc).1
 ·have e:=up4 _ _ (lt _ _ hTO) hTO
  exact Heap.lt_size e
 ·rw[qp hc,qp hc,qp hc,qp hc]
  exact e
def Ql (K:PySem.W.Frag)(ta:TA):TE:=λσ H Q=>ta σ H λvs H1=>∃ a b xs ys,vs=[.ref a,.ref b]/\SqT K H1 a xs/\SqT K H1 b ys/\xs.length<=1000/\∀ S H2,H1 S=none->ZL K H1 H2 S xs ys (min xs.length ys.length)->Q (.ref S) H2
theorem vz {a b:Expr}{p2 pos2:Pos}(hc:X.calm=true)(hg:Gl X "zip")(hm:X.mg "zip"=none)(hgl:Gl X "list")(hml:X.mg "list"=none)(ha:PA X [a,b] ta)
  (hs:starEach [a,b] X.env=[(false,eval a X.env),(false,eval b X.env)]:=by rfl) (hs2:starEach [b] X.env=[(false,eval b X.env)]:=by rfl)
  (hs3:starEach [.Call (.Name "zip" p2) [a,b] [] pos2] X.env=[(false,eval (.Call (.Name "zip" p2) [a,b] [] pos2) X.env)]:=by rfl):
  PE X (.Call (.Name "list" p) [.Call (.Name "zip" p2) [a,b] [] pos2] [] pos) (Ql X.K ta):=by
 intro pins s σ H Q I h
 refine wpAny_Call_Name_kw (kD I hgl hml PyProof.Rows.boot_list ?_ (by decide) (by decide))
 refine PyProof.Rows.callWith_type1 ?_ (by rw[hs3];rfl) rfl
 rw[hs3]
 refine Calls.spliced_cons ?_
 refine Call_ (kD I hg hm (by decide +kernel:bootBuiltins "zip"=some (.type "zip")) (PyProof.Rows.callWith_type1 (thn (ha pos2 pins s σ H _ I h) λus s1 ⟨vs,H1,I1,r1,q1⟩=>?_) (by rw[hs,hs2]) (by rw[hs2];rfl)))
 obtain⟨a,b,xs,ys,e,hq,hr,hl,q⟩:=q1
 subst e
 obtain⟨u1,u2,rfl,ru1,ru2⟩:=vals2 r1
 cases ru1;cases ru2
 obtain⟨its,rv,p,hz⟩:=I1.tuple hq
 obtain⟨jts,rw_,p2,hz2⟩:=I1.tuple hr
 have la:a<s1.heap.objs.size:=by obtain⟨o,e,_⟩:=id p;exact Heap.lt_size e
 have lb:b<s1.heap.objs.size:=by obtain⟨o,e,_⟩:=id p2;exact Heap.lt_size e
 obtain⟨c1,c2,c3,c4,c5,c7⟩:=YK (ka:=true) (kb:=true) (h:=s1.heap) (a:=a) (b:=b)
 refine Km true p p2 (Calls.spliced_nil ?_)
 have I2:Inv X pins σ H1 { s1 with heap:=zH true true s1.heap a b }:=I1.kept (t':=s1.toks) c7
 have D:ZipApart (s1.heap.objs.size+4) (s1.heap.objs.size+2) (s1.heap.objs.size+3) s1.heap.objs.size (s1.heap.objs.size+1) a b:=Zf la lb
 refine Vb hc I2 D hq hr hl (λc hc=>?_) c1 c2 c3 c4 c5 λH' s' I' hf L=>⟨.ref _,H',I',rfl,q _ H' hf L⟩
 have hc':s1.heap.objs.size<=c:=by
  simp only[List.mem_cons,List.mem_nil_iff,or_false] at hc
  rcases hc with rfl|rfl|rfl|rfl|rfl
  ·exact Nat.le_add_right _ _
  ·exact Nat.le_add_right _ _
  ·exact Nat.le_add_right _ _
  ·exact Nat.le_refl _
  ·exact Nat.le_add_right _ _
 exact I1.fpOk hc' (I1.hok.fresh hc')
theorem DpAll.at:∀ {vs:List V} {ds:List PyData},DpAll K H vs ds->∀ {j:Nat} {v:V},vs[j]?=some v->∃ d,ds[j]?=some d/\Dp K H v d
 |_,_,.cons h t,0,v,e=>by cases e;exact⟨_,rfl,h⟩
 |_,_,.cons h t,j+1,v,e=>by
  obtain⟨d,h1,h2⟩:=t.at (j:=j) (by simpa using e)
  exact⟨d,by simpa using h1,h2⟩
open Classical in
def Yv (s:Shared)(d:PyData)(u:Value):Bool:=if h:∃ e,(∃ as,Reads s.heap u e as)/\SeqAt.shaped e=true then PyData.eqv h.choose d else false
theorem Kn {d e:PyData}{u:Value}{as:List Addr}(r:Reads s.heap u e as)(hs:SeqAt.shaped e=true):Yv s d u=PyData.eqv e d:=by
 have h:∃ e,(∃ as,Reads s.heap u e as)/\SeqAt.shaped e=true:=⟨e,⟨as,r⟩,hs⟩
 unfold Yv
 rw[dif_pos h]
 obtain⟨⟨as',r'⟩,hs'⟩:=h.choose_spec
 rw[SeqAt.Reads.unique h.choose e u as' as (SeqAt.canLay_of_shaped hs') r' r]
theorem X7 {X:Cx}{pins:List (Addr×Obj)}{σ:St}{H:Hp}{s:Shared}(I:Inv X pins σ H s){d:PyData}:∀ {vs:List V} {ds:List PyData} {us:List Value},DpAll X.K H vs ds->zA vs us->(∀ e∈ds,SeqAt.shaped e=true)->us.any (Yv s d)=ds.any λe=>PyData.eqv e d
 |_,_,_,.nil,.nil,_=>rfl
 |_,_,_,.cons h t,.cons r rs,hs=>by
  obtain⟨as,ra⟩:=h.reads I r
  rw[List.any_cons,List.any_cons,Kn ra (hs _ (by simp)),X7 I t rs λe he=>hs e (by simp[he])]
theorem X3 {X:Cx}{pins:List (Addr×Obj)}{σ:St}{H:Hp}{s:Shared}(I:Inv X pins σ H s){A:Around}(hu:A.in1.units+64<cLine){d:PyData}{x:Value}{bs:List Addr}(rx:Reads s.heap x d bs)(hd:SeqAt.shaped d=true):∀ {vs:List V} {ds:List PyData} {us:List Value},DpAll X.K H vs ds->zA vs us->(∀ e∈ds,SeqAt.shaped e=true)->∀ u∈us,SeqAt.EqAt A.in1 s u x (Yv s d u)
 |_,_,_,.nil,.nil,_,u,hu=>by cases hu
 |_,_,_,.cons h t,.cons r rs,hs,u,hm=>by
  rcases List.mem_cons.mp hm with rfl|hm
  ·obtain⟨as,ra⟩:=h.reads I r
   have he:=hs _ (List.mem_cons_self)
   rw[Kn ra he]
   exact PySem.W.keq_at ra rx he hd hu
  ·exact X3 I hu rx hd t rs (λe he=>hs e (by simp[he])) u hm
def XM (K:PySem.W.Frag):R2:=λx y H Q=>∃ p xs d ds,y=.ref p/\SqL K H p xs/\Dp K H x d/\DpAll K H xs ds/\SeqAt.shaped d=true/\(∀ e∈ds,SeqAt.shaped e=true)/\Q (.bl (ds.any λe=>PyData.eqv e d)) H
theorem Kz (hu:X.A.units+65<cLine):OpR X (compareOp .In) (XM X.K):=by
 intro pins s σ H x y v u Q I rx ry h
 obtain⟨p,xs,d,ds,rfl,hq,hd,hds,sd,ss,q⟩:=h
 cases ry
 obtain⟨its,r,pl,hz⟩:=I.list hq
 obtain⟨bs,rb⟩:=hd.reads I rx
 refine SeqAt.in_listAt (Yv s d) pl.isList (λw hw=>X3 I (by show X.A.units+1+64<cLine;omega) rb sd hds r ss w (by simpa using hw)) ⟨.bl _,H,I,rfl,?_⟩
 rw[show its.toArray.any (Yv s d)=its.any (Yv s d) by simp,X7 I hds r ss]
 exact q
def rCount:V->List V->Hp->VK->Prop:=λx vs H Q=>∃ l xs y,x=.ref l/\vs=[y]/\H l=some (.lst xs)/\xA y=true/\xs.all xA=true/\Q (.int (xs.countP λz=>eqV z y:Nat)) H
theorem yO {x:V}:∀ {xs:List V} {us:List Value},zA xs us->xs.all xA=true->us.countP (eqU x)=xs.countP λy=>eqV y x
 |_,_,.nil,_=>rfl
 |y::xs,u::us,.cons r t,f=>by
  rw[List.all_cons,Bool.and_eq_true] at f
  rw[List.countP_cons,List.countP_cons,Zx r f.1,yO t f.2]
theorem KW:MtM X "list.count" rCount:=by
 intro pins s σ H x vs v us Q I rx rv h
 obtain⟨l,xs,y,rfl,rfl,hH,fy,fs,q⟩:=h
 cases rx
 obtain⟨u,rfl,ru⟩:=rv.one
 obtain⟨z,its,n,r,hl,e⟩:=I.lstM hH
 refine call_meets F.slot_list_count ⟨_,e,rfl⟩ F.entry_list_count (F.args_list_count_2 _ _) (SeqAt.list_countAt l its.toArray n none #[] u (eqU y)) ⟨e,λw hw=>xK ru fy r fs w (by simpa using hw),.int _,H,I.tok _,⟨_,rfl⟩,?_⟩
 rw[yO r fs]
 exact q
def rIndex:V->List V->Hp->VK->Prop:=λx vs H Q=>∃ l xs y,∃ j:Nat,∃ yj,x=.ref l/\vs=[y]/\H l=some (.lst xs)/\xA y=true/\xs.all xA=true/\xs[j]?=some yj/\eqV yj y=true/\(∀ m ym,m<j->xs[m]?=some ym->eqV ym y=false)/\Q (.int j) H
theorem KY:MtM X "list.index" rIndex:=by
 intro pins s σ H x vs v us Q I rx rv h
 obtain⟨l,xs,y,j,yj,rfl,rfl,hH,fy,fs,hj,hit,hno,q⟩:=h
 cases rx
 obtain⟨u,rfl,ru⟩:=rv.one
 obtain⟨z,its,n,r,hl,e⟩:=I.lstM hH
 obtain⟨uj,huj,ruj⟩:=r.get hj
 obtain⟨ltj,ej⟩:=List.getElem?_eq_some_iff.mp huj
 have fl:∀ {k:Nat} {a:V},xs[k]?=some a->xA a=true:=λha=>List.all_eq_true.mp fs _ (List.mem_of_getElem? ha)
 refine call_meets F.slot_list_index ⟨_,e,rfl⟩ F.entry_list_index (F.args_list_index_2 _ _) (SeqAt.list_indexAt l its.toArray n none #[] u (eqU y) j (by simpa using ltj) ?_ ?_ λm hm hlt=>?_) ⟨e,λw hw=>xK ru fy r fs w (by simpa using hw),.int _,H,I.tok _,⟨_,rfl⟩,q⟩
 ·have:sizeLine<2 ^ 63-1:=by decide
  omega
 ·show eqU y (its.toArray[j]'_)=true
  rw[List.getElem_toArray,ej,Zx ruj (fl hj)]
  exact hit
 ·have hm':m<its.length:=by simpa using hm
  have lx:m<xs.length:=by omega
  obtain⟨um,hum,rum⟩:=r.get (List.getElem?_eq_getElem lx)
  obtain⟨_,em⟩:=List.getElem?_eq_some_iff.mp hum
  rw[List.getElem_toArray,em,Zx rum (fl (List.getElem?_eq_getElem lx))]
  exact hno m _ hlt (List.getElem?_eq_getElem lx)
end L2
namespace Rp
variable {bs:List Blk}{inp:List Int}{a b:Int}{st st1:Sto}
inductive Wd|plus|minus|times|over
 deriving DecidableEq
inductive zQ|set (v k:Int)|input (v k:Int)|op (w:Wd)(v a b:Int)|tell (a:Int)|move (p q:Int)
 deriving DecidableEq
inductive En|go (n:Int)|iff (a n m:Int)|fin
 deriving DecidableEq
structure Blk where
 ds:List zQ
 en:En
abbrev Sto:=Int->Option Int
def Sto.put (st:Sto)(k x:Int):Sto:=λj=>if j=k then some x else st j
def Sto.mv (st:Sto)(p q:Int):Sto:=λj=>if j=p then st q else st j
def reck:Wd->Int->Int->Int
 |.plus,a,b=>(a+b) % 1000003
 |.minus,a,b=>(a-b) % 1000003
 |.times,a,b=>a*b % 1000003
 |.over,a,b=>a*b % 1000003
structure S where
 st:Sto
 told:List Int
 many:Int
inductive Out|stuck|non|told (l:List Int)(n:Int)
def doD (inp:List Int):zQ->Sto->List Int->Option (Sto×List Int)
 |.set v k,st,t=>some (st.put v (k % 1000003),t)
 |.input v k,st,t=>if k ≥ inp.length then none else some (st.put v (inp.getD k.toNat 0 % 1000003),t)
 |.op w v a b,st,t=>match st a with
  |none=>none
  |some x=>match st b with
   |none=>none
   |some y=>some (st.put v (reck w x y),t)
 |.tell a,st,t=>match st a with
  |none=>none
  |some x=>some (st,t++[x])
 |.move p q,st,t=>some (st.mv p q,t)
def WX:zQ->Int
 |.move _ _=>0
 |_=>1
theorem vQ (d:zQ):0<=WX d:=by cases d <;> simp[WX]
def Yu (inp:List Int)(most:Int):List zQ->S->Sum S Out
 |[],s=>.inl s
 |d::ds,s=>if s.many+WX d>most then .inr .non else match doD inp d s.st s.told with
  |none=>.inr .stuck
  |some (st,t)=>Yu inp most ds ⟨st,t,s.many+WX d⟩
def after:En->Sto->Option (Option Int)
 |.fin,_=>some none
 |.go n,_=>some (some n)
 |.iff a n m,st=>match st a with
  |none=>none
  |some x=>some (some (if x≠0 then n else m))
def KD (bs:List Blk)(inp:List Int)(most:Int):Nat->Int->S->Out
 |0,_,_=>.non
 |f+1,at_,s=>match bs[at_.toNat]? with
  |none=>.stuck
  |some b=>match Yu inp most b.ds s with
   |.inr o=>o
   |.inl s1=>if s1.many+1>most then .non else match after b.en s1.st with
    |none=>.stuck
    |some none=>.told s1.told (s1.many+1)
    |some (some n)=>KD bs inp most f n { s1 with many:=s1.many+1 }
def run (bs:List Blk)(inp:List Int)(most:Int):Out:=KD bs inp most (most.toNat+1) 0 ⟨λ_=>none,[],0⟩
theorem ZM {inp:List Int}{most:Int}:∀ {ds:List zQ} {s s1:S},Yu inp most ds s=.inl s1->s.many<=s1.many
 |[],s,s1,h=>by injection h with h;subst h;exact Int.le_refl _
 |d::ds,s,s1,h=>by
  unfold Yu at h
  split at h
  ·cases h
  ·split at h
   ·cases h
   ·rename_i st t _
    have:=ZM h
    have:=vQ d
    simp only at *
    omega
theorem y8 {bs:List Blk}{inp:List Int}{most:Int}:∀ {f g:Nat} {at_:Int} {s:S},(most-s.many).toNat<f->(most-s.many).toNat<g->KD bs inp most f at_ s=KD bs inp most g at_ s
 |0,_,_,_,h,_=>absurd h (Nat.not_lt_zero _)
 |_+1,0,_,_,_,h=>absurd h (Nat.not_lt_zero _)
 |f+1,g+1,at_,s,h1,h2=>by
  unfold KD
  split
  ·rfl
  ·split
   ·rfl
   ·rename_i b _ s1 e
    split
    ·rfl
    ·split
     ·rfl
     ·rfl
     ·have hm:=ZM e
      exact y8 (by simp only;omega) (by simp only;omega)
def wk (inp:List Int):List zQ->Sto->Option (Sto×List Int×Int)
 |[],st=>some (st,[],0)
 |d::ds,st=>match doD inp d st [] with
  |none=>none
  |some (st1,t1)=>match wk inp ds st1 with
   |none=>none
   |some (st2,t2,m)=>some (st2,t1++t2,WX d+m)
theorem Wv (inp:List Int)(d:zQ)(st:Sto)(t:List Int):doD inp d st t=(doD inp d st []).map λp=>(p.1,t++p.2):=by
 cases d with
 |set v k=>simp[doD]
 |input v k=>
  simp only[doD]
  split <;> simp
 |op w v a b=>
  simp only[doD]
  cases st a with
  |none=>rfl
  |some x=>
   cases st b with
   |none=>rfl
   |some y=>simp
 |tell a=>
  simp only[doD]
  cases st a <;> simp
 |move p q=>simp[doD]
theorem x8 {inp:List Int}:∀ {ds:List zQ} {st st':Sto} {t:List Int} {m:Int},wk inp ds st=some (st',t,m)->0<=m
 |[],_,_,_,_,h=>by simp[wk] at h;omega
 |d::ds,st,st',t,m,h=>by
  unfold wk at h
  split at h
  ·cases h
  ·split at h
   ·cases h
   ·rename_i e
    have:=x8 e
    have:=vQ d
    injection h with h
    injection h with h1 h
    injection h with h2 h3
    omega
theorem Zj {inp:List Int}{most:Int}:∀ {ds:List zQ} {st st':Sto} {t0 t:List Int} {k m:Int},wk inp ds st=some (st',t,m)->k<=most ->
  Yu inp most ds ⟨st,t0,k⟩=if k+m>most then .inr .non else .inl ⟨st',t0++t,k+m⟩
 |[],st,st',t0,t,k,m,h,hk=>by
  simp[wk] at h
  obtain⟨rfl,rfl,rfl⟩:=h
  rw[if_neg (by omega)]
  simp[Yu]
 |d::ds,st,st',t0,t,k,m,h,hk=>by
  unfold wk at h
  split at h
  ·cases h
  ·rename_i st1 t1 e1
   split at h
   ·cases h
   ·rename_i st2 t2 m2 e2
    injection h with h
    injection h with h1 h
    injection h with h2 h3
    subst h1 h2 h3
    have n2:=x8 e2
    have n1:=vQ d
    unfold Yu
    simp only
    by_cases hc:k+WX d>most
    ·rw[if_pos hc,if_pos (by omega)]
    ·rw[if_neg hc,Wv,e1]
     simp only[Option.map_some]
     rw[Zj e2 (by omega)]
     by_cases hc2:k+WX d+m2>most
     ·rw[if_pos hc2,if_pos (by omega)]
     ·rw[if_neg hc2,if_neg (by omega)]
      congr 2
      ·rw[List.append_assoc]
      ·omega
def kO (bs:List Blk)(inp:List Int)(at_:Int)(st:Sto):Option (Int×Sto×List Int×Int):=
 match bs[at_.toNat]? with
 |none=>none
 |some b=>match wk inp b.ds st with
  |none=>none
  |some (st1,t,m)=>match after b.en st1 with
   |some (some n)=>some (n,st1,t,m+1)
   |_=>none
inductive Way (bs:List Blk)(inp:List Int):Int->Sto->Int->Sto->Int->Prop
 |here {a:Int} {st:Sto}:Way bs inp a st a st 0
 |more {a b c:Int} {st st1 st2:Sto} {t:List Int} {m k:Int}:Way bs inp a st b st1 k->kO bs inp b st1=some (c,st2,t,m)->Way bs inp a st c st2 (k+m)
theorem ZC {t:List Int}{m:Int}(h:kO bs inp a st=some (b,st1,t,m)):1<=m:=by
 unfold kO at h
 split at h
 ·cases h
 ·split at h
  ·cases h
  ·rename_i e
   split at h
   ·injection h with h
    injection h with _ h
    injection h with _ h
    injection h with _ h
    have:=x8 e
    omega
   ·cases h
theorem Vq {most:Int}{f:Nat}{t0 t:List Int}{k m:Int}(h:kO bs inp a st=some (b,st1,t,m))(hk:k<=most):
  KD bs inp most (f+1) a ⟨st,t0,k⟩=if k+m>most then .non else KD bs inp most f b ⟨st1,t0++t,k+m⟩:=by
 unfold kO at h
 split at h
 ·cases h
 ·rename_i bl e0
  split at h
  ·cases h
  ·rename_i st2 t2 m2 e
   split at h
   ·rename_i n ea
    injection h with h
    injection h with h1 h
    injection h with h2 h
    injection h with h3 h4
    subst h1 h2 h3 h4
    have nn:=x8 e
    show(match bs[a.toNat]? with|none=>_|some b=>_)=_
    rw[e0]
    simp only
    rw[Zj e hk]
    by_cases hc:k+m2>most
    ·rw[if_pos hc]
     simp only
     rw[if_pos (by omega)]
    ·rw[if_neg hc]
     simp only
     by_cases hc2:k+m2+1>most
     ·rw[if_pos hc2,if_pos (by omega)]
     ·rw[if_neg hc2,if_neg (by omega),ea]
      simp only
      congr 2
      omega
   ·cases h
theorem Way.run {most:Int}{d:Int}(w:Way bs inp a st b st1 d):∀ {t0:List Int} {k:Int} {f:Nat},k<=most->(most-k).toNat<f ->
  KD bs inp most f a ⟨st,t0,k⟩=.non\/∃ t1,k+d<=most/\KD bs inp most f a ⟨st,t0,k⟩=KD bs inp most ((most-(k+d)).toNat+1) b ⟨st1,t1,k+d⟩:=by
 induction w with
 |here=>
  intro t0 k f hk hf
  refine .inr ⟨t0,by omega,?_⟩
  rw[Int.add_zero]
  exact y8 hf (Nat.lt_succ_self _)
 |more w h ih=>
  rename_i b c st1 st2 t m d
  intro t0 k f hk hf
  rcases ih (t0:=t0) hk hf with e|⟨t1,hle,e⟩
  ·exact .inl e
  ·rw[Vq h hle] at e
   have hm:=ZC h
   by_cases hc:k+d+m>most
   ·rw[if_pos hc] at e
    exact .inl e
   ·rw[if_neg hc] at e
    refine .inr ⟨t1++t,by omega,?_⟩
    rw[e,show k+(d+m)=k+d+m by omega]
    exact y8 (by simp only;omega) (by simp only;omega)
def WO (st:Sto):Prop:=∀ k x,st k=some x->0<=x/\x<1000003
theorem WO.none:WO (λ_=>none):=λk x h=>by cases h
theorem WO.put (h:WO st){k x:Int}(h0:0<=x)(h1:x<1000003):WO (st.put k x):=λj y e=>by
 unfold Sto.put at e
 split at e
 ·cases e;exact⟨h0,h1⟩
 ·exact h j y e
theorem WO.mv (h:WO st){p q:Int}:WO (st.mv p q):=λj y e=>by
 unfold Sto.mv at e
 split at e
 ·exact h q y e
 ·exact h j y e
def okD (n:Int):zQ->Prop
 |.set v _=>0<=v/\v<n
 |.input v k=>(0<=v/\v<n)/\0<=k
 |.op w v a b=>w≠.over/\(0<=v/\v<n)/\(0<=a/\a<n)/\(0<=b/\b<n)
 |.tell a=>0<=a/\a<n
 |.move p q=>(0<=p/\p<60)/\(0<=q/\q<60)
def okE (n:Int)(m:Nat):En->Prop
 |.go t=>0<=t/\t<m
 |.iff a t u=>(0<=a/\a<n)/\(0<=t/\t<m)/\(0<=u/\u<m)
 |.fin=>True
def smallD:zQ->Prop
 |.input _ k=>k<2 ^ 64
 |_=>True
end Rp
namespace Rp
end Rp
namespace Rp
end Rp
namespace Rp
open PySem L2
variable {α β:Type}{ds:List zQ}{b:Blk}{bs:List Blk}{kvs:List (Key×V)}{k:Key}{v:V}
def z5 (R:α->β->Prop)(xs:List α)(ys:List β):Prop:=xs.length=ys.length/\∀ (i:Nat) (x:α) (y:β),xs[i]?=some x->ys[i]?=some y->R x y
theorem z5.nil {R:α->β->Prop}:z5 R [] []:=⟨rfl,λi x y h=>by simp at h⟩
theorem z5.imp {R S:α->β->Prop}{xs:List α}{ys:List β}(h:z5 R xs ys)(f:∀ x y,R x y->S x y):z5 S xs ys:=⟨h.1,λi x y a b=>f x y (h.2 i x y a b)⟩
theorem z5.snoc {R:α->β->Prop}{xs:List α}{ys:List β}{x:α}{y:β}(h:z5 R xs ys)(r:R x y):z5 R (xs++[x]) (ys++[y]):=by
 refine⟨by rw[List.length_append,List.length_append,h.1];rfl,λi a b ha hb=>?_⟩
 by_cases hi:i<xs.length
 ·rw[List.getElem?_append_left hi] at ha
  rw[List.getElem?_append_left (h.1 ▸ hi)] at hb
  exact h.2 i a b ha hb
 ·rw[List.getElem?_append_right (by omega)] at ha
  rw[List.getElem?_append_right (by rw[<-h.1];omega),<- h.1] at hb
  cases hq:i-xs.length with
  |zero=>
   rw[hq] at ha hb
   simp at ha hb
   subst ha hb
   exact r
  |succ n=>rw[hq] at ha;simp at ha
theorem z5.cons {α β:Type}{R:α->β->Prop}{xs:List α}{ys:List β}{x:α}{y:β}(r:R x y)(h:z5 R xs ys):z5 R (x::xs) (y::ys):=by
 refine⟨by rw[List.length_cons,List.length_cons,h.1],λi a b ha hb=>?_⟩
 cases i with
 |zero=>simp at ha hb;subst ha hb;exact r
 |succ i=>exact h.2 i a b (by simpa using ha) (by simpa using hb)
theorem z5.append {R:α->β->Prop}{xs xs':List α}{ys ys':List β}(h:z5 R xs ys)(h':z5 R xs' ys'):z5 R (xs++xs') (ys++ys'):=by
 refine⟨by rw[List.length_append,List.length_append,h.1,h'.1],λi a b ha hb=>?_⟩
 by_cases hi:i<xs.length
 ·rw[List.getElem?_append_left hi] at ha
  rw[List.getElem?_append_left (h.1 ▸ hi)] at hb
  exact h.2 i a b ha hb
 ·rw[List.getElem?_append_right (by omega)] at ha
  rw[List.getElem?_append_right (by rw[<-h.1];omega),<- h.1] at hb
  exact h'.2 _ a b ha hb
theorem z5.get {R:α->β->Prop}{xs:List α}{ys:List β}{i:Nat}{x:α}(h:z5 R xs ys)(hx:xs[i]?=some x):∃ y,ys[i]?=some y/\R x y:=by
 have lt:i<ys.length:=by rw[<-h.1];exact(List.getElem?_eq_some_iff.mp hx).1
 exact⟨ys[i],List.getElem?_eq_getElem lt,h.2 i x _ hx (List.getElem?_eq_getElem lt)⟩
theorem z5.get' {R:α->β->Prop}{xs:List α}{ys:List β}{i:Nat}{y:β}(h:z5 R xs ys)(hy:ys[i]?=some y):∃ x,xs[i]?=some x/\R x y:=by
 have lt:i<xs.length:=by rw[h.1];exact(List.getElem?_eq_some_iff.mp hy).1
 exact⟨xs[i],List.getElem?_eq_getElem lt,h.2 i _ y (List.getElem?_eq_getElem lt) hy⟩
theorem z5.take {R:α->β->Prop}{xs:List α}{ys:List β}(h:z5 R xs ys)(n:Nat):z5 R (xs.take n) (ys.take n):=by
 refine⟨by rw[List.length_take,List.length_take,h.1],λi a b ha hb=>?_⟩
 rw[List.getElem?_take] at ha hb
 split at ha
 ·rename_i q
  rw[if_pos q] at hb
  exact h.2 i a b ha hb
 ·cases ha
theorem z5.drop {R:α->β->Prop}{xs:List α}{ys:List β}(h:z5 R xs ys)(n:Nat):z5 R (xs.drop n) (ys.drop n):=by
 refine⟨by rw[List.length_drop,List.length_drop,h.1],λi a b ha hb=>?_⟩
 rw[List.getElem?_drop] at ha hb
 exact h.2 _ a b ha hb
theorem z5.replicate {R:α->β->Prop}{x:α}{y:β}(r:R x y)(n:Nat):z5 R (List.replicate n x) (List.replicate n y):=by
 refine⟨by simp,λi a b ha hb=>?_⟩
 rw[List.getElem?_replicate] at ha hb
 split at ha
 ·rename_i q
  rw[if_pos q] at hb
  cases ha
  cases hb
  exact r
 ·cases ha
theorem _root_.L2.qq.new {H:Hp}{p:Addr}{o:HO}(h:H p=none):qq H (upd H p o):=λb u e=>by rw[qp (qj e h)];exact e
theorem _root_.L2.qq.seqT {K:PySem.W.Frag}{H H':Hp}{a:Addr}{xs:List V}(e:qq H H')(h:SqT K H a xs):SqT K H' a xs:=by
 rcases h with(h|⟨o,h⟩)|h
 ·exact .inl (.inl (e _ _ h))
 ·exact .inl (.inr ⟨o,e _ _ h⟩)
 ·exact .inr h
def Wd.txt:Wd->Str
 |.plus=>"plus"
 |.minus=>"minus"
 |.times=>"times"
 |.over=>"over"
def zQ.vs:zQ->List V
 |.set v k=>[.str "set",.int v,.int k]
 |.input v k=>[.str "input",.int v,.int k]
 |.op w v a b=>[.str "op",.str w.txt,.int v,.int a,.int b]
 |.tell a=>[.str "tell",.int a]
 |.move p q=>[.str "move",.int p,.int q]
def En.vs:En->List V
 |.go n=>[.str "go",.int n]
 |.iff a n m=>[.str "if",.int a,.int n,.int m]
 |.fin=>[.str "end"]
def zQ.isMove:zQ->Bool
 |.move _ _=>true
 |_=>false
def j0 (K:PySem.W.Frag)(H:Hp)(v:V)(d:zQ):Prop:=∃ p,v=.ref p/\SqT K H p d.vs
def J0 (K:PySem.W.Frag)(H:Hp)(v:V)(e:En):Prop:=∃ p,v=.ref p/\SqT K H p e.vs
def yx (K:PySem.W.Frag)(H:Hp)(v:V)(ds:List zQ):Prop:=∃ p xs,v=.ref p/\SqL K H p xs/\z5 (j0 K H) xs ds
def Zu (K:PySem.W.Frag)(H:Hp)(v:V)(b:Blk):Prop:=∃ p dl en,v=.ref p/\SqT K H p [dl,en]/\yx K H dl b.ds/\J0 K H en b.en
def xy (K:PySem.W.Frag)(H:Hp)(v:V)(bs:List Blk):Prop:=∃ p xs,v=.ref p/\SqL K H p xs/\z5 (Zu K H) xs bs
inductive Row|dd (d:zQ)|ee (e:En)
def Row.vs:Row->List V
 |.dd d=>d.vs
 |.ee e=>e.vs
def zQ.gv:zQ->List Int
 |.set v _=>[v]
 |.input v _=>[v]
 |.op _ v _ _=>[v]
 |.tell _=>[]
 |.move _ _=>[]
def zQ.rd:zQ->List Int
 |.op _ _ x y=>[x,y]
 |.tell x=>[x]
 |_=>[]
def En.rd:En->List Int
 |.iff x _ _=>[x]
 |_=>[]
def En.ways:En->List Int
 |.go n=>[n]
 |.iff _ n m=>[n,m]
 |.fin=>[]
def Row.gv:Row->List Int
 |.dd d=>d.gv
 |.ee _=>[]
def Row.rd:Row->List Int
 |.dd d=>d.rd
 |.ee e=>e.rd
def Row.isMove:Row->Bool
 |.dd d=>d.isMove
 |.ee _=>false
def jp (K:PySem.W.Frag)(H:Hp)(v:V)(r:Row):Prop:=∃ p,v=.ref p/\SqT K H p r.vs
def yZ (K:PySem.W.Frag)(H:Hp)(v:V)(ds:List zQ):Prop:=∃ p xs,v=.ref p/\H p=some (.lst xs)/\z5 (j0 K H) xs ds
def wg (K:PySem.W.Frag)(H:Hp)(v:V)(b:Blk):Prop:=∃ p dl en,v=.ref p/\SqT K H p [dl,en]/\yZ K H dl b.ds/\J0 K H en b.en
def jZ (K:PySem.W.Frag)(H:Hp)(v:V)(bs:List Blk):Prop:=∃ p xs,v=.ref p/\H p=some (.lst xs)/\z5 (wg K H) xs bs
section
variable {K:PySem.W.Frag}{H H':Hp}{v:V}
theorem j0.same {d:zQ}(h:j0 K H v d)(s:qq H H'):j0 K H' v d:=let ⟨p,e,q⟩:=h;⟨p,e,s.seqT q⟩
theorem jp.same {r:Row}(h:jp K H v r)(s:qq H H'):jp K H' v r:=let ⟨p,e,q⟩:=h;⟨p,e,s.seqT q⟩
theorem J0.same {e:En}(h:J0 K H v e)(s:qq H H'):J0 K H' v e:=let ⟨p,e,q⟩:=h;⟨p,e,s.seqT q⟩
theorem yx.same (h:yx K H v ds)(s:qq H H'):yx K H' v ds:=let ⟨p,xs,e,q,a⟩:=h;⟨p,xs,e,s.seq q,a.imp λ_ _ z=>z.same s⟩
theorem Zu.same (h:Zu K H v b)(s:qq H H'):Zu K H' v b:=let ⟨p,dl,en,e,q,a,c⟩:=h;⟨p,dl,en,e,s.seqT q,a.same s,c.same s⟩
theorem yZ.same (h:yZ K H v ds)(s:qq H H'):yZ K H' v ds:=let ⟨p,xs,e,q,a⟩:=h;⟨p,xs,e,s _ _ q,a.imp λ_ _ z=>z.same s⟩
theorem wg.same (h:wg K H v b)(s:qq H H'):wg K H' v b:=let ⟨p,dl,en,e,q,a,c⟩:=h;⟨p,dl,en,e,s.seqT q,a.same s,c.same s⟩
theorem yZ.at_ (h:yZ K H v ds):yx K H v ds:=let ⟨p,xs,e,q,a⟩:=h;⟨p,xs,e,SqL.of q,a⟩
theorem wg.at_ (h:wg K H v b):Zu K H v b:=let ⟨p,dl,en,e,q,a,c⟩:=h;⟨p,dl,en,e,q,a.at_,c⟩
theorem jZ.same (h:jZ K H v bs)(s:qq H H'):jZ K H' v bs:=let ⟨p,xs,e,q,a⟩:=h;⟨p,xs,e,s _ _ q,a.imp λ_ _ z=>z.same s⟩
theorem jZ.at_ (h:jZ K H v bs):xy K H v bs:=let ⟨p,xs,e,q,a⟩:=h;⟨p,xs,e,SqL.of q,a.imp λ_ _ z=>z.at_⟩
theorem xy.same (h:xy K H v bs)(s:qq H H'):xy K H' v bs:=let ⟨p,xs,e,q,a⟩:=h;⟨p,xs,e,s.seq q,a.imp λ_ _ z=>z.same s⟩
end
def OVal:Option V->Option Int->Prop
 |some (.int x),o=>o=some x
 |some .non,o=>o=none
 |none,o=>o=none
 |_,_=>False
structure Rep (kvs:List (Key×V))(st:Sto):Prop where
 val:∀ k:Int,OVal (jG kvs (Sum.inl k)) (st k)
 key:∀ p∈kvs,∃ k:Int,p.1=Sum.inl k/\0<=k/\k<60
 flat:∀ p∈kvs,p.2=.non\/∃ x,p.2=.int x
 nd:(kvs.map (·.1)).Nodup
theorem Rep.nil:Rep [] (λ_=>none):=⟨λ_=>rfl,λp h=>(by cases h),λp h=>(by cases h),List.nodup_nil⟩
theorem vw {p:Key×V}(h:p∈xT kvs k v):p∈kvs\/p=(k,v):=by
 unfold xT at h
 split at h
 ·obtain⟨q,hq,e⟩:=List.mem_map.mp h
  split at e
  ·rename_i ek
   right
   rw[<-e,ek]
  ·left
   rw[<-e]
   exact hq
 ·rcases List.mem_append.mp h with h|h
  ·exact .inl h
  ·right
   simpa using h
theorem jS {u:V}(h:jG kvs k=some u):(xT kvs k v).map (·.1)=kvs.map (·.1):=by
 have q:(kvs.any λkv=>decide (kv.1=k))=true:=by rw[xh,h];rfl
 unfold xT
 rw[if_pos q,List.map_map]
 refine List.map_congr_left λp _=>?_
 show(if p.1=k then(p.1,v) else p).1=p.1
 split <;> rfl
theorem Rep.put {st st':Sto}{k:Int}{o:Option Int}(r:Rep kvs st)(h0:0<=k)(h1:k<60)(hv:OVal (some v) o)(hf:v=.non\/∃ x,v=.int x)(hst:∀ j,st' j=if j=k then o else st j):
  Rep (xT kvs (Sum.inl k) v) st':=by
 refine⟨λj=>?_,λp hp=>?_,λp hp=>?_,?_⟩
 ·rw[xk,hst]
  by_cases e:j=k
  ·subst e
   rw[if_pos rfl,if_pos rfl]
   exact hv
  ·rw[if_neg (λz=>e (Sum.inl.inj z)),if_neg e]
   exact r.val j
 ·rcases vw hp with h|h
  ·exact r.key p h
  ·subst h
   exact⟨k,rfl,h0,h1⟩
 ·rcases vw hp with h|h
  ·exact r.flat p h
  ·subst h
   exact hf
 ·cases e:jG kvs (Sum.inl k:Key) with
  |none=>exact QQ _ r.nd e
  |some u=>rw[jS e];exact r.nd
theorem vU:∀ (n:Nat) (l:List Int),l.Nodup->(∀ k∈l,0<=k/\k<n)->l.length<=n
 |0,l,_,h=>by
  cases l with
  |nil=>exact Nat.le_refl _
  |cons a r=>have:=h a List.mem_cons_self;omega
 |n+1,l,nd,h=>by
  have q:(l.filter (λk=>decide (k≠(n:Int)))).length<=n:=vU n _ (nd.filter _) λk hk=>by
   have hk:=List.mem_filter.mp hk
   have h1:=h k hk.1
   have h2:k≠n:=of_decide_eq_true hk.2
   omega
  have q2:l.length<=(l.filter (λk=>decide (k≠(n:Int)))).length+1:=by
   clear q h
   induction l with
   |nil=>simp
   |cons a r ih=>
    obtain⟨h1,h2⟩:=List.nodup_cons.mp nd
    by_cases e:a=(n:Int)
    ·subst e
     have z:r.filter (λk=>decide (k≠(n:Int)))=r:=List.filter_eq_self.mpr λb hb=>decide_eq_true λe=>h1 (e ▸ hb)
     rw[List.filter_cons,if_neg (by simp),z]
     exact Nat.le_refl _
    ·rw[List.filter_cons,if_pos (by simp[e])]
     have:=ih h2
     simp only[List.length_cons]
     omega
  omega
theorem Rep.len {st:Sto}(r:Rep kvs st):kvs.length<=60:=by
 have h:=vU 60 (kvs.map λp=>match p.1 with|.inl k=>k|.inr _=>0) ?_ ?_
 ·simpa using h
 ·have key:=r.key
  have nd:=r.nd
  clear r
  induction kvs with
  |nil=>exact List.nodup_nil
  |cons p t ih=>
   have nd':(p.1::t.map (·.1)).Nodup:=nd
   obtain⟨h1,h2⟩:=List.nodup_cons.mp nd'
   obtain⟨k,hk,_⟩:=key p List.mem_cons_self
   refine List.nodup_cons.mpr ⟨λm=>h1 ?_,ih (λq hq=>key q (List.mem_cons_of_mem _ hq)) h2⟩
   obtain⟨q,hq,e⟩:=List.mem_map.mp m
   obtain⟨k',hk',_⟩:=key q (List.mem_cons_of_mem _ hq)
   simp only[hk,hk'] at e
   subst e
   exact List.mem_map.mpr ⟨q,hq,by rw[hk,hk']⟩
 ·intro k hk
  obtain⟨p,hp,e⟩:=List.mem_map.mp hk
  obtain⟨k',hk',h0,h1⟩:=r.key p hp
  rw[hk'] at e
  dsimp only at e
  subst e
  exact⟨h0,h1⟩
theorem Q4 {α:Type}[DecidableEq α]:∀ {l m:List α},l.Nodup->(∀ a∈l,a∈m)->m.length<=l.length->∀ a∈m,a∈l
 |[],m,_,_,hl=>λa ha=>by
  cases m with
  |nil=>cases ha
  |cons b r=>simp at hl
 |x::l,m,nd,hs,hl=>λa ha=>by
  obtain⟨h1,h2⟩:=List.nodup_cons.mp nd
  have hx:x∈m:=hs x List.mem_cons_self
  by_cases e:a=x
  ·subst e;exact List.mem_cons_self
  ·have ha':a∈m.erase x:=(List.mem_erase_of_ne e).mpr ha
   refine List.mem_cons_of_mem _ (Q4 h2 (λb hb=>(List.mem_erase_of_ne λz=>h1 (by rw[<-z];exact hb)).mpr (hs b (List.mem_cons_of_mem _ hb))) ?_ a ha')
   rw[List.length_erase_of_mem hx]
   simp only[List.length_cons] at hl
   omega
theorem JU (nd:(kvs.map (·.1)).Nodup)(h:(k,v)∈kvs):jG kvs k=some v:=by
 induction kvs with
 |nil=>cases h
 |cons p r ih=>
  have nd':(p.1::r.map (·.1)).Nodup:=nd
  obtain⟨h1,h2⟩:=List.nodup_cons.mp nd'
  rcases List.mem_cons.mp h with e|h
  ·subst e
   exact jg rfl
  ·have hne:¬ p.1=k:=λe=>h1 (by rw[e];exact List.mem_map.mpr ⟨_,h,rfl⟩)
   rw[j2 hne]
   exact ih h2 h
theorem kM (h:jG kvs k=some v):(k,v)∈kvs:=by
 unfold jG at h
 obtain⟨p,hp,e⟩:=Option.map_eq_some_iff.mp h
 have h1:=List.mem_of_find?_eq_some hp
 have h2:p.1=k:=of_decide_eq_true (List.find?_some (p:=λkv:Key×V=>decide (kv.1=k)) hp)
 obtain⟨p1,p2⟩:=p
 dsimp only at h2 e
 subst h2 e
 exact h1
end Rp
namespace L2
open PySem PySem.Spec PyProof.Rows
variable {a p:Addr}{K:PySem.W.Frag}{H H1:Hp}{xs:List V}{i:Int}{Q:VK}{g:TG}{D:Ends}{σ:St}{tif:TT}{te:TE}
structure FnT (K:PySem.W.Frag)(mg:Str->Option Value)(x:Str)(st:Stmt)(f:Addr)(fd:FuncData)(ps:List Str):Prop where
 fn:Fun K x x st f fd
 mg:mg x=some (.ref f)
 b:Qd K fd ps []
section
variable {X:Cx}
theorem w5 {n:Int}{x:Str}{pos:Pos}(h:∃ t,X.mg x=some (.int n t))(hg:Gl X x:=by rfl)(hd:(x == ("__debug__":Str))=false:=by decide):PE X (.Name x pos) (tC (.int n)):=by
 obtain⟨t,e⟩:=h
 exact jE hg e ⟨t,rfl⟩ hd
end
theorem Yg:Z2 .non .non=true:=rfl
theorem Y1 (i:Int):Z2 .non (.int i)=true:=rfl
theorem Y8 (i:Int):Z2 (.int i) .non=true:=rfl
theorem YB (i:Str):Z2 .non (.str i)=true:=rfl
theorem Ys (i:Str):Z2 (.str i) .non=true:=rfl
theorem QT (i j:Int):Z2 (.int i) (.int j)=true:=rfl
theorem vW (i j:Str):Z2 (.str i) (.str j)=true:=rfl
theorem YJ (i:Int)(j:Str):Z2 (.int i) (.str j)=true:=rfl
theorem YO (i:Str)(j:Int):Z2 (.str i) (.int j)=true:=rfl
theorem Kj (i j:Bool):Z2 (.bl i) (.bl j)=true:=rfl
theorem K9 {a b:String}(h:Str.ofString a=Str.ofString b):a=b:=by
 rw[Str.ofString_eq_toList,Str.ofString_eq_toList] at h
 have h2:a.toList.map Char.toNat=b.toList.map Char.toNat:=by
  have h1:=congrArg (λx:Str=>x.cps.toList) h
  simpa using h1
 have h3:a.toList=b.toList:=(List.map_inj_right (λx y e=>Char.ext (UInt32.toNat_inj.mp e))).mp h2
 exact String.toList_inj.mp h3
theorem jT {a b:String}:(Str.ofString a=Str.ofString b)=(a=b):=propext ⟨K9,λh=>by rw[h]⟩
theorem units0 {k:Nat}{A:Around}(hr:vR k A):A.units<cLine:=hr.units0
theorem qi {v:V}(h:SqT K H p xs)(e:atI xs i=some v)(q:Q v H):yK K (.ref p) (.int i) H Q:=⟨p,xs,i,v,rfl,rfl,h,e,q⟩
theorem qR {v:V}(h:SqL K H p xs)(e:atI xs i=some v)(q:Q v H):q0c K (.ref p) (.int i) H Q:=⟨p,xs,i,v,rfl,rfl,h,e,q⟩
def rLen (K:PySem.W.Frag):List V->Hp->VK->Prop
 |[x],H,Q=>∃ n,LenV K x H n/\Q (.int (n:Nat)) H
 |_,_,_=>False
theorem ze {X:Cx}:we X (.builtin "len") (rLen X.K):=λpins s σ H xs us Q I r h=>by
 match xs,h with
 |[x],⟨n,h1,h2⟩=>exact Wq pins s σ H [x] us Q I r ⟨x,n,rfl,h1,h2⟩
theorem jN (h:SqL K H p xs)(q:Q (.int xs.length) H):rLen K [.ref p] H Q:=⟨_,.inl ⟨xs,h,rfl⟩,q⟩
theorem Yx (h:SqT K H p xs)(q:Q (.int xs.length) H):rLen K [.ref p] H Q:=⟨_,.inr ⟨xs,h,rfl⟩,q⟩
theorem xn (s:String):PyData.strOk (Str.ofString s)=true:=by
 unfold PyData.strOk
 rw[Str.ofString_eq_toList,Array.all_eq_true']
 intro x hx
 obtain⟨c,_,rfl⟩:=List.mem_map.mp (List.mem_toArray.mp hx)
 have h:=c.valid
 refine decide_eq_true ?_
 show c.val.toNat<0x110000
 rcases h with h|h
 ·have:c.val.toNat<0xd800:=h
  omega
 ·exact h.2
theorem j9 (h0:-(2 ^ 64)<i)(h:i<2 ^ 64):i.natAbs.log2<1920:=by
 by_cases z:i.natAbs=0
 ·rw[z];decide
 ·exact(Nat.log2_lt z).mpr (Nat.lt_of_lt_of_le (show i.natAbs<2 ^ 64 by omega) (Nat.pow_le_pow_right (by decide) (by decide)))
def WW (J:It)(g:TG)(tb:TS)(D:Ends)(σ:St)(H1:Hp):Prop:=∃ W:Nat->Nat->St->Hp->Prop,(∃ m,W 0 m σ H1)/\∀ i m σ H,W i m σ H ->
 (J.stop i H/\D.nx σ H)\/(J.go i H/\∃ N:St->Hp->Prop,(∀ σ' H',N σ' H'->∃ m',m'<m/\W (i+1) m' σ' H')/\∀ x H',J.yld i H x H'->g x σ H' λσ2 H2=>tb { D with nx:=N,ct:=N,bk:=D.nx } σ2 H2)
theorem Y0 {wi:TI}{tb:TS}:tFor wi g tb D σ H=wi σ H λJ H1=>WW J g tb D σ H1:=rfl
theorem zz {tb:TS}(xs:List V)(Pv:Nat->St->Hp->Prop)(h0:Pv 0 σ H)(hl:∀ i σ H,i<=xs.length->Pv i σ H->SqL K H a xs)
  (hs:∀ i x σ H,xs[i]?=some x->Pv i σ H->g x σ H λσ2 H2=>tb { D with nx:=Pv (i+1),ct:=Pv (i+1),bk:=D.nx } σ2 H2) (he:∀ σ H,Pv xs.length σ H->D.nx σ H):WW (Itl K a) g tb D σ H:=KN Pv h0 hl hs he
theorem JK {tb:TS}(xs:List V)(Pv:Nat->St->Hp->Prop)(h0:Pv 0 σ H)(hl:∀ i σ H,i<=xs.length->Pv i σ H->SqT K H a xs)
  (hs:∀ i x σ H,xs[i]?=some x->Pv i σ H->g x σ H λσ2 H2=>tb { D with nx:=Pv (i+1),ct:=Pv (i+1),bk:=D.nx } σ2 H2) (he:∀ σ H,Pv xs.length σ H->D.nx σ H):WW (Itt K a) g tb D σ H:=Y9 Pv h0 hl hs he
theorem wY {tb:TS}(xs:List V)(Pv:Nat->St->Hp->Prop)(h0:Pv 0 σ H)(hl:∀ i σ H,i<=xs.length->Pv i σ H->SqL K H a xs)
  (hs:∀ i x p σ H,xs[i]?=some x->H p=none->Pv i σ H->g (.ref p) σ (upd H p (.tup [.int i,x])) λσ2 H2=>tb { D with nx:=Pv (i+1),ct:=Pv (i+1),bk:=D.nx } σ2 H2) (he:∀ σ H,Pv xs.length σ H->D.nx σ H):WW (Ite K a) g tb D σ H:=KQ Pv h0 hl hs he
theorem kY {lo:Int}{n:Nat}{tb:TS}(Pv:Nat->St->Hp->Prop)(h0:Pv 0 σ H)
  (hs:∀ i σ H,i<n->Pv i σ H->g (.int (lo+i)) σ H λσ2 H2=>tb { D with nx:=Pv (i+1),ct:=Pv (i+1),bk:=D.nx } σ2 H2) (he:∀ σ H,Pv n σ H->D.nx σ H):WW (Itr lo n) g tb D σ H:=Vz Pv h0 hs he
def vH (J:It)(g:TG)(tif:TT)(te:TE)(p:Addr)(σ:St)(H1:Hp)(Q:VK):Prop:=∃ W:Nat->Nat->St->Hp->Prop,(∃ m,W 0 m σ (upd H1 p (.lst [])))/\∀ i m σ H,W i m σ H ->
 (J.stop i H/\Q (.ref p) H)\/(J.go i H/\∃ N:St->Hp->Prop,(∀ σ' H',N σ' H'->∃ m',m'<m/\W (i+1) m' σ' H')/\∀ x H',J.yld i H x H'->g x σ H' λσ2 H2=>tif σ2 H2 λb H3=>
  if b=true then te σ2 H3 λy H4=>∃ xs,H4 p=some (.lst xs)/\xs.length<sizeLine/\N σ2 (upd H4 p (.lst (xs++[y]))) else N σ2 H3)
theorem KU {cap:List (Option Nat)}{wi:TI}:Kl cap wi g tif te σ H Q=wi σ H λJ H1=>∀ p,H1 p=none->vH J g tif te p (yD cap σ) H1 Q:=rfl
theorem xF {lo:Int}{n:Nat}(Pv:Nat->St->Hp->Prop)(h0:Pv 0 σ (upd H1 p (.lst [])))
  (hs:∀ i σ H,i<n->Pv i σ H->g (.int (lo+i)) σ H λσ2 H2=>tif σ2 H2 λb H3=>if b=true then te σ2 H3 λy H4=>∃ xs,H4 p=some (.lst xs)/\xs.length<sizeLine/\Pv (i+1) σ2 (upd H4 p (.lst (xs++[y]))) else Pv (i+1) σ2 H3)
  (he:∀ σ H,Pv n σ H->Q (.ref p) H):vH (Itr lo n) g tif te p σ H1 Q:=by
 refine⟨λi m σ H=>i<=n/\m=n-i/\Pv i σ H,⟨_,Nat.zero_le _,rfl,h0⟩,?_⟩
 rintro i m σ H ⟨hi,rfl,q⟩
 by_cases lt:i<n
 ·refine .inr ⟨lt,Pv (i+1),λσ' H' q=>⟨n-(i+1),by omega,lt,rfl,q⟩,?_⟩
  rintro x H' ⟨rfl,rfl⟩
  exact hs i σ H' lt q
 ·have e:i=n:=Nat.le_antisymm hi (Nat.not_lt.mp lt)
  subst e
  exact .inl ⟨Nat.le_refl _,he σ H q⟩
theorem jO (xs:List V)(Pv:Nat->St->Hp->Prop)(h0:Pv 0 σ (upd H1 p (.lst [])))(hl:∀ i σ H,i<=xs.length->Pv i σ H->SqL K H a xs)
  (hs:∀ i x σ H,xs[i]?=some x->Pv i σ H->g x σ H λσ2 H2=>tif σ2 H2 λb H3=>if b=true then te σ2 H3 λy H4=>∃ xs,H4 p=some (.lst xs)/\xs.length<sizeLine/\Pv (i+1) σ2 (upd H4 p (.lst (xs++[y]))) else Pv (i+1) σ2 H3)
  (he:∀ σ H,Pv xs.length σ H->Q (.ref p) H):vH (Itl K a) g tif te p σ H1 Q:=by
 refine⟨λi m σ H=>i<=xs.length/\m=xs.length-i/\Pv i σ H,⟨_,Nat.zero_le _,rfl,h0⟩,?_⟩
 rintro i m σ H ⟨hi,rfl,q⟩
 cases hx:xs[i]? with
 |none=>
  have e:i=xs.length:=Nat.le_antisymm hi (by simpa using hx)
  exact .inl ⟨⟨xs,hl i σ H hi q,Nat.le_of_eq e.symm⟩,he σ H (e ▸ q)⟩
 |some x=>
  have lt:i<xs.length:=(List.getElem?_eq_some_iff.mp hx).1
  refine .inr ⟨⟨xs,x,hl i σ H hi q,hx⟩,Pv (i+1),λσ' H' q=>⟨xs.length-(i+1),by omega,lt,rfl,q⟩,?_⟩
  rintro y H' ⟨rfl,hz⟩
  have e:=hz xs (hl i σ H' hi q)
  rw[hx] at e
  cases e
  exact hs i x σ H' hx q
theorem VN (xs:List V)(Pv:Nat->St->Hp->Prop)(h0:Pv 0 σ (upd H1 p (.lst [])))(hl:∀ i σ H,i<=xs.length->Pv i σ H->SqT K H a xs)
  (hs:∀ i x σ H,xs[i]?=some x->Pv i σ H->g x σ H λσ2 H2=>tif σ2 H2 λb H3=>if b=true then te σ2 H3 λy H4=>∃ xs,H4 p=some (.lst xs)/\xs.length<sizeLine/\Pv (i+1) σ2 (upd H4 p (.lst (xs++[y]))) else Pv (i+1) σ2 H3)
  (he:∀ σ H,Pv xs.length σ H->Q (.ref p) H):vH (Itt K a) g tif te p σ H1 Q:=by
 refine⟨λi m σ H=>i<=xs.length/\m=xs.length-i/\Pv i σ H,⟨_,Nat.zero_le _,rfl,h0⟩,?_⟩
 rintro i m σ H ⟨hi,rfl,q⟩
 cases hx:xs[i]? with
 |none=>
  have e:i=xs.length:=Nat.le_antisymm hi (by simpa using hx)
  exact .inl ⟨⟨xs,hl i σ H hi q,Nat.le_of_eq e.symm⟩,he σ H (e ▸ q)⟩
 |some x=>
  have lt:i<xs.length:=(List.getElem?_eq_some_iff.mp hx).1
  refine .inr ⟨⟨xs,x,hl i σ H hi q,hx⟩,Pv (i+1),λσ' H' q=>⟨xs.length-(i+1),by omega,lt,rfl,q⟩,?_⟩
  rintro y H' ⟨rfl,hz⟩
  have e:=hz xs (hl i σ H' hi q)
  rw[hx] at e
  cases e
  exact hs i x σ H' hx q
end L2
namespace L2
open PySem
variable {i:Int}{x:Str}
section
variable {α β:Type}{f:α->β}{a b:α}{l m:List α}{i n:Nat}
theorem dm1:List.map f (a::l)=f a::List.map f l:=rfl
theorem dm2:List.map f []=[]:=rfl
theorem da1:(a::l)++m=a::(l++m):=rfl
theorem da2:[]++m=m:=rfl
theorem dg1:(a::l)[0]?=some a:=rfl
theorem dg2:(a::l)[i+1]?=l[i]?:=rfl
theorem dx1:List.set (a::l) 0 b=b::l:=rfl
theorem dx2:List.set (a::l) (i+1) b=a::List.set l i b:=rfl
theorem dl1:(a::l).length=l.length+1:=rfl
theorem dl2:([]:List α).length=0:=rfl
theorem dr1:List.replicate (n+1) a=a::List.replicate n a:=rfl
theorem dr2:List.replicate 0 a=[]:=rfl
theorem dc1:cond true a b=a:=rfl
theorem dc2:cond false a b=b:=rfl
theorem dp1 {p q:Prop}:cond true p q=p:=rfl
theorem dp2 {p q:Prop}:cond false p q=q:=rfl
theorem do1:(some a).getD b=a:=rfl
theorem do2:(none:Option α).getD b=b:=rfl
theorem db1 {g:α->Option β}:(some a).bind g=g a:=rfl
theorem db2 {g:α->Option β}:(none:Option α).bind g=none:=rfl
end
theorem W6 {v:V}{Q:V->Prop}:asV (some (some v)) Q=Q v:=rfl
theorem jH {b:Bool}{Q:Bool->Prop}:asB (.bl b) Q=Q b:=rfl
theorem Y3 {b:Int}{Q:Int->Prop}:asI (.int b) Q=Q b:=rfl
theorem QF {b:Addr}{Q:Addr->Prop}:asR (.ref b) Q=Q b:=rfl
theorem YC {b:Str}{Q:Str->Prop}:asS (.str b) Q=Q b:=rfl
theorem eqD_ii {j:Int}:eqD (.int i) (.int j)=decide (i=j):=rfl
theorem JA {i j:Str}:eqD (.str i) (.str j)=decide (i=j):=rfl
theorem WF {i j:Bool}:eqD (.bl i) (.bl j)=decide (i=j):=rfl
theorem eqD_nn:eqD .non .non=true:=rfl
theorem eqD_ni:eqD .non (.int i)=false:=rfl
theorem eqD_in:eqD (.int i) .non=false:=rfl
theorem eqD_is:eqD (.int i) (.str x)=false:=rfl
theorem eqD_si:eqD (.str x) (.int i)=false:=rfl
theorem eqD_ns:eqD .non (.str x)=false:=rfl
theorem eqD_sn:eqD (.str x) .non=false:=rfl
end L2
namespace Rp
variable {p A B:Prop}{b:Bool}
class BP (b:Bool)(p:outParam Prop):Prop where
 iff:b=true ↔ p
instance (priority:=low)(b:Bool):BP b (b=true):=⟨Iff.rfl⟩
instance [Decidable p]:BP (decide p) p:=⟨decide_eq_true_iff⟩
instance [Decidable p]:BP (!decide p) (¬ p):=⟨by simp⟩
theorem kW (h:b=true)(x:A):if b=true then A else B:=by rw[if_pos h];exact x
theorem vq (h:b=false)(x:B):if b=true then A else B:=by rw[if_neg (by rw[h];exact Bool.false_ne_true)];exact x
theorem xN [h:BP b p](h1:p->A)(h2:¬ p->B):if b=true then A else B:=by
 cases e:b with
 |true=>rw[if_pos rfl];exact h1 (h.iff.mp e)
 |false=>rw[if_neg Bool.false_ne_true];exact h2 λz=>by rw[h.iff.mpr z] at e;cases e
end Rp
namespace Rp
open PySem PySem.Spec PyProof.Rows
open L2 hiding PE PT PW PA PS PSs PC PG PGs PI PO PPs ZW PF PFs qI qh qf qy jM zf zU kF qN qQ v6 kz j5 vB qa qD kI kH jE Qm w5 Jq qw xY ZJ QZ jI xj yV wP vX qY v5 vk qz jD zT xr vn kx wO qo qP jx qm Ze yR vJ vo vO xt wj xz X0 kG jw w8 ww z7 qr x9 y7 jn qL jf xq qd q5 zv zk jF qB zP jV vP jQ pv
@[irreducible] def PE (X:Cx)(e:Expr)(t:TE):Prop:=L2.PE X e t
@[irreducible] def PT (X:Cx)(e:Expr)(t:TT):Prop:=L2.PT X e t
@[irreducible] def PW (X:Cx)(e:Expr)(t:TT):Prop:=L2.PW X e t
@[irreducible] def PA (X:Cx)(es:List Expr)(t:TA):Prop:=L2.PA X es t
@[irreducible] def PS (X:Cx)(st:Stmt)(t:TS):Prop:=L2.PS X st t
@[irreducible] def PSs (X:Cx)(st:List Stmt)(t:TS):Prop:=L2.PSs X st t
@[irreducible] def PC (X:Cx)(op:CmpOp)(a b:Expr)(t:TE):Prop:=L2.PC X op a b t
@[irreducible] def PG (X:Cx)(target:Expr)(t:TG):Prop:=L2.PG X target t
@[irreducible] def PGs (X:Cx)(ts:List Expr)(t:TGs):Prop:=L2.PGs X ts t
@[irreducible] def PI (X:Cx)(tg iter:Expr)(wi:TI):Prop:=L2.PI X tg iter wi
@[irreducible] def PO (X:Cx)(e:Option Expr)(t:TO):Prop:=L2.PO X e t
@[irreducible] def PPs (X:Cx)(pos:Pos)(keys:List (Option Expr))(values:List Expr)(trs:List (TE×TE)):Prop:=L2.PPs X pos keys values trs
@[irreducible] def ZW (X:Cx)(ifs:List Expr)(t:TT):Prop:=L2.ZW X ifs t
@[irreducible] def PF (X:Cx)(e:Expr)(t:TT):Prop:=L2.PF X e t
@[irreducible] def PFs (X:Cx)(es:List Expr)(t:TT):Prop:=L2.PFs X es t
section
variable {X:Cx}{st:Stmt}{xM:List Stmt}{t u:TS}{e:Expr}{te:TE}{pos:Pos}
theorem qI:PSs X [] Yd:=by with_unfolding_all exact L2.qI
theorem qh (h1:PS X st t):PSs X [st] t:=by with_unfolding_all exact L2.qh h1
theorem qf (h1:PS X st t)(h2:PSs X xM u):PSs X (st::xM) (tSeq t u):=by with_unfolding_all exact L2.qf h1 h2
end
section
variable {X:Cx}{pos:Pos}
theorem qy {i:Nat}{x:Str}{e:Expr}{te:TE}{pos':Pos}(hN:X.N.Nodup)(hi:X.N[i]?=some x)(hx:Loc X.env.scope x)(he:PE X e te)(hs:swapsWith e (some (.Name x pos')) pos.line X.env=pure false:=by rfl)(hf:X.fn x=true\/X.env.scope.names.lookup x=some .local:=by first|exact .inl rfl|exact .inr rfl|assumption):
  PS X (.Assign [.Name x pos'] e pos) (Wz te (xH i)):=by with_unfolding_all exact L2.qy hN hi hx he hs hf
end
section
variable {X:Cx}{N:List Str}{cap:List (Option Nat)}{scope osc:Scope}{on:List Str}{tg elt iter:Expr}{ifs:List Expr}{pos:Pos}{wi:TI}{g:TG}{tif:TT}{te:TE}
theorem jM {i:Nat}{y:Str}{py spos:Pos}(hN:X.N.Nodup)(hy:X.N[i]?=some y)(hl:Loc X.env.scope y)(S:zo X N cap scope osc on)(hc:X.calm=true)(hit:PI X tg iter wi)(hg:∀ C fp s H,PG (jh X N scope C fp s H) tg g)
  (hi:∀ C fp s H,ZW (jh X N scope C fp s H) ifs tif) (he:∀ C fp s H,PE (jh X N scope C fp s H) elt te)
  (hsw:swapsWith (.ListComp elt [⟨tg,iter,ifs,0⟩] scope pos) (some (.Name y py)) spos.line X.env=pure true:=by rfl)
  (hs:∀ x,foldedSetIterable iter X.env x=pure x:=by intro _;rfl) (hf:X.fn y=true\/X.env.scope.names.lookup y=some .local:=by first|exact .inl rfl|exact .inr rfl|assumption):
  PS X (.Assign [.Name y py] (.ListComp elt [⟨tg,iter,ifs,0⟩] scope pos) spos) (Wz (Kl cap wi g tif te) (xH i)):=by with_unfolding_all exact L2.jM hN hy hl S hc hit hg hi he hsw hs hf
end
section
variable {X:Cx}{st:Stmt}{xM:List Stmt}{t u:TS}{e:Expr}{te:TE}{pos:Pos}
theorem zf {c:Expr}{a b:List Stmt}{tc:TT}(hc:PT X c tc)(ha:PSs X a t)(hb:PSs X b u):PS X (.If c a b pos) (tIfS tc t u):=by with_unfolding_all exact L2.zf hc ha hb
end
section
variable {X:Cx}{tg:Expr}
theorem zU {iter:Expr}{body:List Stmt}{wi:TI}{g:TG}{tb:TS}{pos:Pos}(hp:PassesOwn (model X.prog X.w) X.A X.env X.xe)(hc:X.calm=true)(hi:PI X tg iter wi)(hg:PG X tg g)(hb:PSs X body tb)
  (hs:∀ x,foldedSetIterable iter X.env x=pure x:=by intro _;rfl):PS X (.For tg iter body [] pos) (tFor wi g tb):=by with_unfolding_all exact L2.zU hp hc hi hg hb hs
end
section
variable {X:Cx}{pos:Pos}
theorem kF {c:Expr}{body:List Stmt}{tc:TT}{tb:TS}(hp:PassesOwn (model X.prog X.w) X.A X.env X.xe)(hc:PT X c tc)(hb:PSs X body tb):PS X (.While c body [] pos) (WC tc tb):=by with_unfolding_all exact L2.kF hp hc hb
end
section
variable {X:Cx}{st:Stmt}{xM:List Stmt}{t u:TS}{e:Expr}{te:TE}{pos:Pos}
theorem qN (he:PE X e te):PS X (.Return (some e) pos) (tRet te):=by with_unfolding_all exact L2.qN he
theorem qQ (he:PE X e te)(hs:swapsWith e none pos.line X.env=pure false:=by rfl):PS X (.Expr e pos) (YH te):=by with_unfolding_all exact L2.qQ he hs
end
section
variable {X:Cx}{o i e value:Expr}{pos pos' tpos:Pos}{td ty tv:TE}
theorem v6 (hu:X.A.units+1<cLine)(ho:PE X o td)(hi:PE X i ty)(hv:PE X value tv)(hs:swapsWith value (some (.Subscript o i pos')) pos.line X.env=pure false):
  PS X (.Assign [.Subscript o i pos'] value pos) (Yb td ty tv):=by with_unfolding_all exact L2.v6 hu ho hi hv hs
end
section
variable {X:Cx}{pos:Pos}
theorem kz {tg e:Expr}{te:TE}{g:TG}(he:PE X e te)(hg:PG X tg g)(hs:swapsWithSole [tg] e pos.line X.env=pure false:=by rfl)(hw:swappedStores [tg] e X.env=pure none:=by rfl)
  (h1:(assignEach [tg] X.env).map (·.2)=[assign tg X.env]:=by rfl):PS X (.Assign [tg] e pos) (Wz te g):=by with_unfolding_all exact L2.kz he hg hs hw h1
end
section
variable {P:Program}{w:World}{K:PySem.W.Frag}{mg:Str->Option Value}{base:Heap}{N:List Str}{qual:Str}{scope:Scope}{f:Addr}{cd:Value}{A:Around}{outer:List Env}{s0:Shared}{H0:Hp}{E:XK}
theorem j5 {x:Str}{C:Addr}{np cpos pos:Pos}{e:Expr}{te:TE}(O:YY K mg x C)(he:PE (xO (CX1 P w) P w K mg base N qual scope f cd A outer s0 H0 E) e te)
  (hg:Gl (xO (CX1 P w) P w K mg base N qual scope f cd A outer s0 H0 E) x:=by rfl) (hd:(x == ("__debug__":Str))=false:=by decide)
  (hst:starEach [e] (xO (CX1 P w) P w K mg base N qual scope f cd A outer s0 H0 E).env=[(false,eval e (xO (CX1 P w) P w K mg base N qual scope f cd A outer s0 H0 E).env)]:=by rfl):
  PS (xO (CX1 P w) P w K mg base N qual scope f cd A outer s0 H0 E) (.Raise (some (.Call (.Name x np) [e] [] cpos)) none pos) (VJ E C te):=by with_unfolding_all exact L2.j5 O he hg hd hst
end
section
theorem vB {X:Cx}{kf:Nat}{f P:Addr}{fd:FuncData}{ps:List Str}{sp:Sp}{fn x n y pn:Str}{e:Expr}{es:List Expr}{ta:TA}{i j k:Nat}{px np cpos apos clp py np2 spos hpos tpos:Pos}
  (hstk:X.stack=X.env::X.outer) (hfr:X.env.frame=some X.env.locals) (hex:X.ex=[])
  (F:jA X.prog X.w X.K X.mg X.base (CX1 X.prog X.w) kf f fd ps sp) (hr:vR kf X.A) (hg:Gl X fn) (hm:X.mg fn=some (.ref f)) (hk:PySem.W.keepIn X.K (.ref f)=true) (hb:Qd X.K fd ps [])
  (ha:PA X.nox (e::es) ta) (hN:X.N.Nodup) (hi:X.N[i]?=some x) (hx:Loc X.env.scope x) (hj:X.N[j]?=some n) (hn:X.env.scope.names.lookup n=some .local) (hkk:X.N[k]?=some y) (hy:Loc X.env.scope y)
  (hgp:Gl X pn) (hmp:X.mg pn=some (.ref P)) (hfx:X.fn x=true\/X.env.scope.names.lookup x=some .local:=by first|exact .inl rfl|exact .inr rfl|assumption)
  (hfy:X.fn y=true\/X.env.scope.names.lookup y=some .local:=by first|exact .inl rfl|exact .inr rfl|assumption)
  (hdb:(fn == ("__debug__":Str))=false:=by decide) (hdp:(pn == ("__debug__":Str))=false:=by decide) (hdn:(n == ("__debug__":Str))=false:=by decide) (hdc:(n == ("__classdict__":Str))=false:=by decide)
  (he:starEach (e::es) X.env=(false,eval e X.env)::starEach es X.env:=by rfl) (hpl:(backTo cpos (starEach es X.env)).any (·.1)=false:=by rfl)
  (hs:swapsWith (.Call (.Name fn np) (e::es) [] cpos) (some (.Name x px)) apos.line X.env=pure false:=by rfl) (hs2:swapsWith (.Name n np2) (some (.Name y py)) spos.line X.env=pure false:=by rfl):
  PS X (.Try [.Assign [.Name x px] (.Call (.Name fn np) (e::es) [] cpos) apos] [.ExceptHandler (some (.Name pn clp)) (some n) [.Assign [.Name y py] (.Name n np2) spos] hpos] [] [] tpos) (tTry X.K P sp ta i j k):=by with_unfolding_all exact L2.vB hstk hfr hex F hr hg hm hk hb ha hN hi hx hj hn hkk hy hgp hmp hfx hfy hdb hdp hdn hdc he hpl hs hs2
end
section
variable {X:Cx}
theorem qa {i j pos}:PE X (.Constant (.int i) j pos) (tC (.int i)):=by with_unfolding_all exact L2.qa
theorem qD {x j pos}:PE X (.Constant (.str x) j pos) (tC (.str x)):=by with_unfolding_all exact L2.qD
theorem kI {b j pos}:PE X (.Constant (.bool b) j pos) (tC (.bl b)):=by with_unfolding_all exact L2.kI
theorem kH {j pos}:PE X (.Constant .none j pos) (tC .non):=by with_unfolding_all exact L2.kH
theorem jE {x:Str}{v:V}{u:Value}{pos:Pos}(hg:Gl X x)(hm:X.mg x=some u)(r:zV v u)(hd:(x == ("__debug__":Str))=false:=by decide):PE X (.Name x pos) (tC v):=by with_unfolding_all exact L2.jE hg hm r hd
theorem Qm {x:Str}{v:V}{u:Value}{pos:Pos}(hg:Gl X x)(hm:X.mg x=none)(hv:bootBuiltins x=some u)(r:zV v u)(hn:x≠"__name__":=by decide)(hd:(x == ("__debug__":Str))=false:=by decide):PE X (.Name x pos) (tC v):=by with_unfolding_all exact L2.Qm hg hm hv r hn hd
theorem w5 {n:Int}{x:Str}{pos:Pos}(h:∃ t,X.mg x=some (.int n t))(hg:Gl X x:=by rfl)(hd:(x == ("__debug__":Str))=false:=by decide):PE X (.Name x pos) (tC (.int n)):=by with_unfolding_all exact L2.w5 h hg hd
end
section
variable {X:Cx}{a b c:Expr}{ta tb tc:TE}{pos:Pos}
theorem Jq {op:UnaryOp}{r:V->Hp->VK->Prop}(ho:UnR X (unaryOp op) r)(ha:PE X a ta):PE X (.UnaryOp op a pos) (tUn r ta):=by with_unfolding_all exact L2.Jq ho ha
theorem qw {op:Operator}{r:R2}(ho:OpR X (binaryOp op) r)(ha:PE X a ta)(hb:PE X b tb):PE X (.BinOp a op b pos) (tOp r ta tb):=by with_unfolding_all exact L2.qw ho ha hb
theorem xY {op:CmpOp}{r:R2}(ho:OpR X (compareOp op) r)(ha:PE X a ta)(hb:PE X b tb)(hm:behindInMarks op b=false):PE X (.Compare a [op] [b] pos) (tOp r ta tb):=by with_unfolding_all exact L2.xY ho ha hb hm
end
section
variable {X:Cx}
variable {a b:Expr}{ta tb:TE}{pos:Pos}
variable {tA tB':TT}{xM:List Expr}
theorem ZJ {op}{t:TE}(h:PE X a t):PE X (.BoolOp op [a] pos) t:=by with_unfolding_all exact L2.ZJ h
theorem QZ (ha:PE X a ta)(hb:PE X (.BoolOp .And (b::xM) pos) tb):PE X (.BoolOp .And (a::b::xM) pos) (Y2 ta tb):=by with_unfolding_all exact L2.QZ ha hb
theorem jI {c:Expr}(hc:PT X c tA)(ha:PE X a ta)(hb:PE X b tb):PE X (.IfExp c a b pos) (tIf tA ta tb):=by with_unfolding_all exact L2.jI hc ha hb
end
section
variable {X:Cx}{e:Expr}{es:List Expr}{te:TE}{t:TA}{pos:Pos}
theorem xj {x1}(h:PA X es t):PE X (.Tuple es x1 pos) (tTup t):=by with_unfolding_all exact L2.xj h
theorem yV (h:PA X es t):PE X (.List es pos) (tLst t):=by with_unfolding_all exact L2.yV h
end
section
variable {X:Cx}{pos:Pos}
theorem wP:PE X (.Dict [] [] pos) WQ:=by with_unfolding_all exact L2.wP
end
section
theorem vX {X:Cx}{pos:Pos}{keys:List (Option Expr)}{values:List Expr}{trs:List (TE×TE)}(h:PPs X pos keys values trs)(hall:keys.all (·.isSome)=true)(hl:keys.length=values.length)(h0:keys≠[])
  (h15:keys.length<=15):PE X (.Dict keys values pos) (Y6 trs):=by with_unfolding_all exact L2.vX h hall hl h0 h15
end
section
variable {X:Cx}{e:Expr}{te:TE}{lo hi:Option Expr}{tl th:TO}{pos p2:Pos}
theorem qY {r:V->Option Int->Option Int->Hp->VK->Prop}(hr:SlR X r)(he:PE X e te)(hl:PO X lo tl)(hu:PO X hi th):PE X (.Subscript e (.Slice lo hi none p2) pos) (tSl r te tl th):=by with_unfolding_all exact L2.qY hr he hl hu
end
section
variable {X:Cx}{o i e value:Expr}{pos pos' tpos:Pos}{td ty tv:TE}
theorem v5 (hu:X.A.units+1<cLine)(ho:PE X o td)(hi:PE X i ty)(hs:NoSl i):PE X (.Subscript o i pos) (Y7 td ty):=by with_unfolding_all exact L2.v5 hu ho hi hs
end
section
variable {X:Cx}{o e i:Expr}{apos cpos pos:Pos}{td ty:TE}
theorem vk (ho:PE X o td)(hi:PE X i ty)(hs:NoSl i):PE X (.Subscript o i pos) (YG X.K X.w td ty):=by with_unfolding_all exact L2.vk ho hi hs
end
section
variable {X:Cx}{a b:Expr}{ta tb:TE}{pos:Pos}
theorem qz {r:R2}(hr:IxR X r)(ha:PE X a ta)(hb:PE X b tb)(hs:K4 b):PE X (.Subscript a b pos) (tOp r ta tb):=by with_unfolding_all exact L2.qz hr ha hb hs
end
section
variable {X:Cx}{x:Str}{e:Expr}{es:List Expr}{te:TE}{t u:TT}{pos:Pos}{j:Nat}
theorem jD {e2:Expr}(h:PFs X (e::e2::es) t)(hl:(e::e2::es).length*3000<=sizeLine:=by decide):PE X (.JoinedStr (e::e2::es) pos) (Yf t):=by with_unfolding_all exact L2.jD h hl
end
section
variable {X:Cx}{N:List Str}{cap:List (Option Nat)}{scope osc:Scope}{on:List Str}{tg elt iter:Expr}{ifs:List Expr}{pos:Pos}{wi:TI}{g:TG}{tif:TT}{te:TE}
theorem zT (S:zo X N cap scope osc on)(hc:X.calm=true)(hit:PI X tg iter wi)(hg:∀ C fp s H,PG (jh X N scope C fp s H) tg g)(hi:∀ C fp s H,ZW (jh X N scope C fp s H) ifs tif)(he:∀ C fp s H,PE (jh X N scope C fp s H) elt te)
  (hs:∀ x,foldedSetIterable iter X.env x=pure x:=by intro _;rfl):PE X (.ListComp elt [⟨tg,iter,ifs,0⟩] scope pos) (Kl cap wi g tif te):=by with_unfolding_all exact L2.zT S hc hit hg hi he hs
end
section
variable {X:Cx}{a b:Expr}{ta tb:TE}{pos:Pos}
variable {o e:Expr}{es:List Expr}{to:TE}{t:TA}{name:Str}{apos cpos:Pos}{T id:String}{r:V->List V->Hp->VK->Prop}
theorem xr (pa:PlainAttrs T)(slot:Slot T name id)(hty:typeOf (.builtin id)=pure (.type "method_descriptor"))(hm:MtR X id r)(ho:PE X o to)(ha:PA X (e::es) t)
  (hbase:attributeBase o name X.env (eval o X.env)=eval o X.env:=by rfl)
  (hfew:((backTo cpos (starEach (e::es) X.env)).all (λx=>!x.1) && (backToKw cpos (keywordEach [] X.env)).all (λx=>x.1.isSome)
   && decide ((e::es).length+([]:List Keyword).length+(if ([]:List Keyword).isEmpty then 0 else 1)<30))=true:=by rfl)
  (hline:(apos.endLine == cpos.line)=true:=by rfl) (hs:starEach (e::es) X.env=(false,eval e X.env)::starEach es X.env:=by rfl) (hplain:(backTo cpos (starEach es X.env)).any (·.1)=false:=by rfl):
  PE X (.Call (.Attribute o name apos) (e::es) [] cpos) (tBM X.K T r to t):=by with_unfolding_all exact L2.xr pa slot hty hm ho ha hbase hfew hline hs hplain
end
section
variable {X:Cx}{o e f:Expr}{apos cpos:Pos}{td ty tx:TE}
theorem vn (hu:X.A.units+1<cLine)(ho:PE X o td)(he:PE X e ty)(m:M1 X o "get" apos e cpos):PE X (.Call (.Attribute o "get" apos) [e] [] cpos) (Vd td ty):=by with_unfolding_all exact L2.vn hu ho he m
end
section
variable {X:Cx}{o e i:Expr}{apos cpos pos:Pos}{td ty:TE}
theorem kx (ho:PE X o td)(he:PE X e ty)(m:M1 X o "get" apos e cpos):PE X (.Call (.Attribute o "get" apos) [e] [] cpos) (Vt X.K X.w td ty):=by with_unfolding_all exact L2.kx ho he m
end
section
variable {X:Cx}{o e f:Expr}{apos cpos:Pos}{td ty tx:TE}
theorem wO (ho:PE X o td)(he:PE X e ty)(hf:PE X f tx)(m:M2 X o "pop" apos e f cpos):PE X (.Call (.Attribute o "pop" apos) [e,f] [] cpos) (K8 td ty tx):=by with_unfolding_all exact L2.wO ho he hf m
end
section
variable {X:Cx}{CX:CXT}{k:Nat}{f C:Addr}{fd:FuncData}{ps:List Str}{sp:Sp}{dvs:List V}{ds:List Value}{E:XK}{x m:Str}{p pos apos:Pos}{e o:Expr}{es:List Expr}{ta:TE}{t:TA}
theorem qo (F:jA X.prog X.w X.K X.mg X.base CX k f fd ps sp)(hr:vR k X.A)(hg:Gl X x)(hm:X.mg x=some (.ref f))(hk:PySem.W.keepIn X.K (.ref f)=true)(hb:Qd X.K fd ps ds)(hd:zA dvs ds)(hx:Zb CX X E)
  (ha:PA X (e::es) t) (hdb:(x == ("__debug__":Str))=false:=by decide) (he:starEach (e::es) X.env=(false,eval e X.env)::starEach es X.env:=by rfl) (hpl:(backTo pos (starEach es X.env)).any (·.1)=false:=by rfl):
  PE X (.Call (.Name x p) (e::es) [] pos) (KM sp dvs E t):=by with_unfolding_all exact L2.qo F hr hg hm hk hb hd hx ha hdb he hpl
end
section
variable {X:Cx}{x:Str}{p pos:Pos}{e:Expr}{es:List Expr}{t:TA}{id T:String}{r:List V->Hp->VK->Prop}
theorem qP (hc:we X (.builtin id) r)(hg:Gl X x)(hm:X.mg x=none)(hv:bootBuiltins x=some (.builtin id))(ha:PA X (e::es) t)(hn:x≠"__name__":=by decide)(hdb:(x == ("__debug__":Str))=false:=by decide)
  (he:starEach (e::es) X.env=(false,eval e X.env)::starEach es X.env:=by rfl) (hpl:(backTo pos (starEach es X.env)).any (·.1)=false:=by rfl):PE X (.Call (.Name x p) (e::es) [] pos) (tCB r t):=by with_unfolding_all exact L2.qP hc hg hm hv ha hn hdb he hpl
theorem jx (hc:we X (.type T) r)(hg:Gl X x)(hm:X.mg x=none)(hv:bootBuiltins x=some (.type T))(ha:PA X (e::es) t)(hn:x≠"__name__":=by decide)(hdb:(x == ("__debug__":Str))=false:=by decide)
  (he:starEach (e::es) X.env=(false,eval e X.env)::starEach es X.env:=by rfl) (hpl:(backTo pos (starEach es X.env)).any (·.1)=false:=by rfl):PE X (.Call (.Name x p) (e::es) [] pos) (tCB r t):=by with_unfolding_all exact L2.jx hc hg hm hv ha hn hdb he hpl
end
section
variable {X:Cx}{a b c:Expr}{ta tb tc:TE}{pos:Pos}
theorem qm {op:CmpOp}{r:R2}(ho:OpR X (compareOp op) r)(ha:PE X a ta)(hb:PE X b tb)(hm:behindInMarks op b=false):PT X (.Compare a [op] [b] pos) (J3 (tOp r ta tb)):=by with_unfolding_all exact L2.qm ho ha hb hm
end
section
variable {X:Cx}
variable {a b:Expr}{ta tb:TE}{pos:Pos}
theorem Ze {op:CmpOp}{t:TE}(h:PC X op a b t)(h1:behindInMarks op b=false:=by first|exact JZ _ (by decide) (by decide)|rfl):PT X (.Compare a [op] [b] pos) (tB t):=by with_unfolding_all exact L2.Ze h h1
end
section
variable {X:Cx}
variable {a b:Expr}{ta tb:TE}{pos:Pos}
variable {tA tB':TT}{xM:List Expr}
theorem yR (ha:PT X a tA):PT X (.UnaryOp .Not a pos) (tNot tA):=by with_unfolding_all exact L2.yR ha
end
section
variable {X:Cx}
variable {a b:Expr}{ta tb:TE}{pos:Pos}
theorem vJ {e:Expr}{t:TE}(h:PE X e t)(he:∀ whole,isTrue e X.env whole=(do let v <- whole;standAt e.pos;holding [v] (truthy v)):=by intro _;rfl):PT X e (tB t):=by with_unfolding_all exact L2.vJ h he
end
section
variable {X:Cx}{a b c:Expr}{ta tb tc:TE}{pos:Pos}
theorem vo (ha:PE X a ta)(he:∀ whole,isTrue a X.env whole=(do let v <- whole;standAt a.pos;holding [v] (truthy v))):
  PT X a (λσ H Q=>ta σ H λx H'=>∃ k,TruV X.K x H' k/\Q k H'):=by with_unfolding_all exact L2.vo ha he
end
section
theorem PW.pt {X:Cx}{e:Expr}{t:TT}(h:PW X e t):PT X e t:=by with_unfolding_all exact L2.PW.pt h
end
section
variable {X:Cx}
variable {a b:Expr}{ta tb:TE}{pos:Pos}
variable {tA tB':TT}{xM:List Expr}
theorem vO (ha:PT X a tA)(hb:PW X (.BoolOp .And (b::xM) pos) tB'):PW X (.BoolOp .And (a::b::xM) pos) (q0a tA tB'):=by with_unfolding_all exact L2.vO ha hb
theorem xt (ha:PT X a tA):PW X (.BoolOp .And [a] pos) tA:=by with_unfolding_all exact L2.xt ha
theorem wj (ha:PT X a tA)(hb:PW X (.BoolOp .Or (b::xM) pos) tB'):PW X (.BoolOp .Or (a::b::xM) pos) (tOr tA tB'):=by with_unfolding_all exact L2.wj ha hb
theorem xz (ha:PT X a tA):PW X (.BoolOp .Or [a] pos) tA:=by with_unfolding_all exact L2.xz ha
end
section
variable {X:Cx}{o i e value:Expr}{pos pos' tpos:Pos}{td ty tv:TE}
theorem X0 (hu:X.A.units+1<cLine)(hi:PE X i ty)(ho:PE X o td):PC X .In i o (tDIn ty td):=by with_unfolding_all exact L2.X0 hu hi ho
theorem kG (hu:X.A.units+1<cLine)(hi:PE X i ty)(ho:PE X o td):PC X .NotIn i o (Jh ty td):=by with_unfolding_all exact L2.kG hu hi ho
end
section
variable {X:Cx}{tg:Expr}
theorem jw {a:Expr}{ta:TA}{p pos:Pos}(hg:Gl X "range")(hm:X.mg "range"=none)(ha:PA X [a] ta)(hs:starEach [a] X.env=[(false,eval a X.env)]:=by rfl):PI X tg (.Call (.Name "range" p) [a] [] pos) (YX ta):=by with_unfolding_all exact L2.jw hg hm ha hs
end
section
theorem w8 {X:Cx}{elts:List Expr}{x1}{tpos:Pos}{a:Expr}{ta:TA}{p pos:Pos}(hg:Gl X "enumerate")(hm:X.mg "enumerate"=none)(ha:PA X [a] ta)(hs:starEach [a] X.env=[(false,eval a X.env)]:=by rfl):
  PI X (.Tuple elts x1 tpos) (.Call (.Name "enumerate" p) [a] [] pos) (Yw X.K ta):=by with_unfolding_all exact L2.w8 hg hm ha hs
end
section
variable {X:Cx}{tg:Expr}
theorem ww {l:Expr}{tl:TE}(hl:PE X l tl):PI X tg l (iTup X.K tl):=by with_unfolding_all exact L2.ww hl
theorem z7 {l:Expr}{tl:TE}(hl:PE X l tl):PI X tg l (YR X.K tl):=by with_unfolding_all exact L2.z7 hl
end
section
variable {X:Cx}{pos:Pos}
theorem qr {i:Nat}{x:Str}(hN:X.N.Nodup)(hi:X.N[i]?=some x)(hx:Loc X.env.scope x)(hf:X.fn x=true\/X.env.scope.names.lookup x=some .local:=by first|exact .inl rfl|exact .inr rfl|assumption):PG X (.Name x pos) (xH i):=by with_unfolding_all exact L2.qr hN hi hx hf
theorem x9 {es:List Expr}{k:Nat}{t:TGs}{n:Nat}(hc:X.calm=true)(h:PGs X es t)
  (hn:(assignEach es X.env).length=n:=by rfl) (hst:(assignEach es X.env).findIdx? (·.1)=none:=by rfl):PG X (.Tuple es k pos) (gTup X.K n t):=by with_unfolding_all exact L2.x9 hc h hn hst
theorem y7 {o i:Expr}{to ti:TE}{t:TSet}(ho:PE X o to)(hi:PE X i ti)(hs:PSet X t)
  (ha:∀ v,assign (.Subscript o i pos) X.env v=(do
   let ov <- holding [v] (eval o X.env)
   let iv <- holding [v,ov] (eval i X.env)
   standAt pos
   holding [v,ov,iv] (setItem ov iv v)
   release [v,ov,iv] []):=by intro _;rfl):PG X (.Subscript o i pos) (Yn to ti t):=by with_unfolding_all exact L2.y7 ho hi hs ha
theorem jn:PGs X [] gNil:=by with_unfolding_all exact L2.jn
theorem qL {e:Expr}{es:List Expr}{t:TG}{u:TGs}(h1:PG X e t)(h2:PGs X es u)
  (hs:(assignEach (e::es) X.env).map (·.2)=assign e X.env::(assignEach es X.env).map (·.2):=by rfl):PGs X (e::es) (VQ t u):=by with_unfolding_all exact L2.qL h1 h2 hs
end
section
theorem jf {X:Cx}:ZW X [] Z9:=by with_unfolding_all exact L2.jf
theorem xq {X:Cx}{c:Expr}{t:TT}(h:PT X c t):ZW X [c] t:=by with_unfolding_all exact L2.xq h
end
section
variable {X:Cx}{e:Expr}{es:List Expr}{te:TE}{t:TA}{pos:Pos}
theorem qd:PA X [] WI:=by with_unfolding_all exact L2.qd
theorem q5 (ha:PE X e te)(hr:PA X es t)(hs:starEach (e::es) X.env=(false,eval e X.env)::starEach es X.env:=by rfl):PA X (e::es) (yE te t):=by with_unfolding_all exact L2.q5 ha hr hs
end
section
variable {X:Cx}{e:Expr}{te:TE}{lo hi:Option Expr}{tl th:TO}{pos p2:Pos}
theorem zv:PO X none yq:=by with_unfolding_all exact L2.zv
theorem zk (h:PE X e te):PO X (some e) (Vp te):=by with_unfolding_all exact L2.zk h
end
section
variable {X:Cx}{x:Str}{e:Expr}{es:List Expr}{te:TE}{t u:TT}{pos:Pos}{j:Nat}
theorem jF:PFs X [] tOne:=by with_unfolding_all exact L2.jF
theorem qB (h1:PF X e t)(h2:PFs X es u):PFs X (e::es) (q0a t u):=by with_unfolding_all exact L2.qB h1 h2
theorem zP (hl:x.length<=3000:=by decide):PF X (.Constant (.str x) j pos) tOne:=by with_unfolding_all exact L2.zP hl
theorem jV (he:PE X e te):PF X (.FormattedValue e (-1) none pos) (tFmt te):=by with_unfolding_all exact L2.jV he
end
section
theorem vP {X:Cx}{pos:Pos}:PPs X pos [] [] []:=by with_unfolding_all exact L2.vP
theorem jQ {X:Cx}{pos:Pos}{k v:Expr}{ks:List (Option Expr)}{vs:List Expr}{tk tv:TE}{trs:List (TE×TE)}(hk:PE X k tk)(hv:PE X v tv)(hr:PPs X pos ks vs trs):
  PPs X pos (some k::ks) (v::vs) ((tk,tv)::trs):=by with_unfolding_all exact L2.jQ hk hv hr
end
section
variable {X:Cx}
theorem pv (i:Nat){x:Str}{pos:Pos}(hN:X.N[i]?=some x:=by rfl)(hv:Vis X.env.scope x:=by first|exact Or.inl rfl|exact Or.inr (Or.inl rfl)|exact Or.inr (Or.inr rfl))(hd:(x == ("__debug__":Str))=false:=by decide)
  (hcd:(x == ("__classdict__":Str))=false:=by decide):PE X (.Name x pos) (vG i):=by with_unfolding_all exact L2.pv i hN hv hd hcd
end
section
variable {P:Program}{w:World}{K:PySem.W.Frag}{mg:Str->Option Value}{base:Heap}
theorem _root_.L2.Fun.okQ {x qual:Str}{st:Stmt}{f:Addr}{fd:FuncData}{N ps:List Str}{k:Nat}{sp:Sp}(F:Fun K x qual st f fd)(S:qE N ps (q8 st))(len:∀ vs H Q E,sp vs H Q E->vs.length=ps.length)
  (hbody:∀ (cdv:Value) (A:Around) (outer:List Env) (s:Shared) (H:Hp) (vs:List V) (Q:VK) (E:XK),vR k (A.deeper (envOfC qual (q8 st) s.heap.objs.size f cdv))->sp vs H Q E ->
   ∃ t,PSs (xO CX0 P w K mg base N qual (q8 st) f cdv A outer s H E).nox (qk st) t/\t { nx:=λ_ H'=>Q .non H',rt:=Q } (wG N vs) H):jA P w K mg base CX0 (k+1) f fd ps sp:=by with_unfolding_all exact L2.Fun.ok F S len hbody
end
section
theorem _root_.L2.Fun.ok1Q {P:Program}{w:World}{K:PySem.W.Frag}{mg:Str->Option Value}{base:Heap}{x qual:Str}{st:Stmt}{f:Addr}{fd:FuncData}{N ps:List Str}{k:Nat}{sp:Sp}(F:Fun K x qual st f fd)(S:qE N ps (q8 st))
  (len:∀ vs H Q E,sp vs H Q E->vs.length=ps.length)
  (hbody:∀ (cdv:Value) (A:Around) (outer:List Env) (s:Shared) (H:Hp) (vs:List V) (Q:VK) (E:XK),vR k (A.deeper (envOfC qual (q8 st) s.heap.objs.size f cdv))->sp vs H Q E ->
   ∃ t,PSs (xO (CX1 P w) P w K mg base N qual (q8 st) f cdv A outer s H E) (qk st) t/\t { nx:=λ_ H'=>Q .non H',rt:=Q } (wG N vs) H):jA P w K mg base (CX1 P w) (k+1) f fd ps sp:=by with_unfolding_all exact L2.Fun.ok1 F S len hbody
end
end Rp
namespace Rp
open PySem PySem.Spec PyProof.Rows
open L2 hiding PE PT PW PA PS PSs PC PG PGs PI PO PPs ZW PF PFs X4
section
variable {X:Cx}{a b:Expr}{ta tb:TE}{pos:Pos}
variable {o e:Expr}{es:List Expr}{to:TE}{t:TA}{name:Str}{apos cpos:Pos}{T id:String}{r:V->List V->Hp->VK->Prop}
theorem X4 (pa:PlainAttrs T)(slot:Slot T name id)(hty:typeOf (.builtin id)=pure (.type "method_descriptor"))(hm:MtR X id r)(ho:PE X o to)
  (hbase:attributeBase o name X.env (eval o X.env)=eval o X.env:=by rfl) (hline:(apos.endLine == cpos.line)=true:=by rfl):PE X (.Call (.Attribute o name apos) [] [] cpos) (tBM0 X.K T r to):=by with_unfolding_all exact L2.X4 pa slot hty hm ho hbase hline
end
end Rp
namespace L2
open PySem PySem.Spec PyProof.Rows
structure New (H:Hp)(p:Addr)(o:HO)(H2:Hp):Prop where
 fr:H p=none
 same:qq H H2
 at_:H2 p=some o
 ne:∀ b,b≠p->H2 b=H b
theorem New.mk' {H:Hp}{p:Addr}{o:HO}(h:H p=none):New H p o (upd H p o):=⟨h,λb u e=>by rw[qp (qj e h)];exact e,qg,λb hb=>qp hb⟩
def VF (t:TA):TE:=λσ H Q=>t σ H λxs H1=>xs.length<=sizeLine/\∀ p H2,New H1 p (.tup xs) H2->Q (.ref p) H2
def KE (t:TA):TE:=λσ H Q=>t σ H λxs H1=>xs.length<=sizeLine/\∀ p H2,New H1 p (.lst xs) H2->Q (.ref p) H2
def WR:TE:=λ_ H Q=>∀ p H2,New H p (.dK []) H2->Q (.ref p) H2
def Qi:R2:=λx y H Q=>∃ l b xs zs,x=.ref l/\y=.ref b/\H l=some (.lst xs)/\H b=some (.lst zs)/\xs.length+zs.length<=sizeLine/\∀ p H2,New H p (.lst (xs++zs)) H2->Q (.ref p) H2
def Zl (K:PySem.W.Frag):V->Option Int->Option Int->Hp->VK->Prop:=λx lo hi H Q=>∃ a xs,x=.ref a/\SqL K H a xs/\∀ p H2,New H p (.lst (QU xs lo hi)) H2->Q (.ref p) H2
def rListS (K:PySem.W.Frag):List V->Hp->VK->Prop:=λxs H Q=>∃ p ys,xs=[.ref p]/\(SqL K H p ys\/SqT K H p ys)/\∀ l H2,New H l (.lst ys) H2->Q (.ref l) H2
section
variable {X:Cx}{es:List Expr}{t:TA}{pos:Pos}
theorem Wn {x1}(h:PA X es t):PE X (.Tuple es x1 pos) (VF t):=by
 intro pins s σ H Q I hq
 refine wpAny_Tuple_spliced (thn (h pos pins s σ H _ I hq) λus s1 ⟨xs,H1,I1,r,z,q⟩=>⟨by rw[<-r.length];exact z,?_⟩)
 have hf:H1 s1.heap.objs.size=none:=I1.hok.fresh (Nat.le_refl _)
 refine⟨.ref s1.heap.objs.size,upd H1 s1.heap.objs.size (.tup xs),I1.laid (t':=s1.toks) (λb u e=>Heap.get?_push_of_some _ e) (Nat.le_refl _) ?_,rfl,q _ _ (.mk' hf)⟩
 exact⟨z,us,r,⟨_,Heap.get?_push_size _ rfl,rfl,_,rfl⟩⟩
theorem Wl (h:PA X es t):PE X (.List es pos) (KE t):=by
 intro pins s σ H Q I hq
 refine wpAny_List_spliced (thn (h pos pins s σ H _ I hq) λus s1 ⟨xs,H1,I1,r,z,q⟩=>⟨by rw[<-r.length];exact z,?_⟩)
 have hf:H1 s1.heap.objs.size=none:=I1.hok.fresh (Nat.le_refl _)
 refine⟨.ref s1.heap.objs.size,upd H1 s1.heap.objs.size (.lst xs),I1.laid (t':=s1.toks) (λb u e=>Heap.get?_push_of_some _ e) (Nat.le_refl _) ?_,rfl,q _ _ (.mk' hf)⟩
 exact⟨z,us,0,r,Heap.get?_push_size _ rfl⟩
theorem Vv:PE X (.Dict [] [] pos) WR:=λpins s σ H Q I h=>wP pins s σ H Q I λp hp=>h p _ (.mk' hp)
theorem zm:OpR X (binaryOp .Add) Qi:=λpins s σ H x y v u Q I rx ry ⟨l,b,xs,zs,h1,h2,h3,h4,h5,q⟩=>VD pins s σ H x y v u Q I rx ry ⟨l,b,xs,zs,h1,h2,h3,h4,h5,λp hp=>q p _ (.mk' hp)⟩
theorem jC:SlR X (Zl X.K):=λpins s σ H x v vl vu lo hi sl Q I rx hs pl pu ⟨a,xs,h1,h2,q⟩=>Yh pins s σ H x v vl vu lo hi sl Q I rx hs pl pu ⟨a,xs,h1,h2,λp hp=>q p _ (.mk' hp)⟩
theorem w9:we X (.type "list") (rListS X.K):=λpins s σ H xs us Q I r ⟨p,ys,h1,h2,q⟩=>Zo pins s σ H xs us Q I r ⟨p,ys,h1,h2,λl hl=>q l _ (.mk' hl)⟩
end
end L2
namespace Rp
open PySem PySem.Spec PyProof.Rows
open L2 hiding PE PT PW PA PS PSs PC PG PGs PI PO PPs ZW PF PFs
variable {X:Cx}{es:List Expr}{pos:Pos}
theorem qH {t:TA}{x1}(h:PA X es t):PE X (.Tuple es x1 pos) (VF t):=by with_unfolding_all exact L2.Wn h
theorem qO {t:TA}(h:PA X es t):PE X (.List es pos) (KE t):=by with_unfolding_all exact L2.Wl h
theorem Jg {K:PySem.W.Frag}{k:Nat}{t:TGs}{n:Nat}(hK:X.K=K)(hc:X.calm=true)(h:PGs X es t)
  (hn:(assignEach es X.env).length=n:=by rfl) (hst:(assignEach es X.env).findIdx? (·.1)=none:=by rfl):PG X (.Tuple es k pos) (gTup K n t):=by
 subst hK
 exact x9 hc h hn hst
theorem JI:PE X (.Dict [] [] pos) WR:=by with_unfolding_all exact L2.Vv
end Rp
namespace Rp
open PySem L2
variable {n:Nat}{d:PyData}
def X1:V->PyData
 |.int i=>.int i
 |.str x=>.str x
 |_=>.none
def okV:V->Bool
 |.int _=>true
 |.str x=>PyData.strOk x
 |_=>false
theorem dpV {K:PySem.W.Frag}{H:Hp}{v:V}(h:okV v=true):Dp K H v (X1 v):=by
 cases v <;> first|exact .int _|exact .str _|cases h
theorem Q2 {K:PySem.W.Frag}{H:Hp}:∀ {vs:List V},vs.all okV=true->DpAll K H vs (vs.map X1)
 |[],_=>.nil
 |v::r,h=>by
  rw[List.all_cons,Bool.and_eq_true] at h
  exact .cons (dpV h.1) (Q2 h.2)
theorem kN {α:Type}{K:PySem.W.Frag}{H:Hp}{R:V->α->Prop}{f:α->PyData}(hf:∀ x y,R x y->Dp K H x (f y)):∀ {xs:List V} {ys:List α},z5 R xs ys->DpAll K H xs (ys.map f)
 |[],[],_=>.nil
 |[],y::ys,h=>by have:=h.1;simp at this
 |x::xs,[],h=>by have:=h.1;simp at this
 |x::xs,y::ys,h=>.cons (hf x y (h.2 0 x y rfl rfl)) (kN hf ⟨by have:=h.1;simpa using this,λi a b ha hb=>h.2 (i+1) a b (by simpa using ha) (by simpa using hb)⟩)
structure Shp (n:Nat)(d:PyData):Prop where
 lay:d.canLay0=true
 dep:d.depth<=n
theorem Ko:∀ {ds:List PyData},(∀ d∈ds,d.canLay0=true)->PyData.canLayAll0 ds=true
 |[],_=>rfl
 |d::r,h=>by
  show(d.canLay0 && PyData.canLayAll0 r)=true
  rw[h d List.mem_cons_self,Ko λe he=>h e (List.mem_cons_of_mem _ he)]
  rfl
theorem VT {n:Nat}:∀ {ds:List PyData},(∀ d∈ds,d.depth<=n)->PyData.depthAll ds<=n
 |[],_=>Nat.zero_le _
 |d::r,h=>by
  show max d.depth (PyData.depthAll r)<=n
  exact Nat.max_le.mpr ⟨h d List.mem_cons_self,VT λe he=>h e (List.mem_cons_of_mem _ he)⟩
theorem Shp.list {ds:List PyData}(h:∀ d∈ds,Shp n d):Shp (n+1) (.list ds):=⟨Ko λd hd=>(h d hd).lay,Nat.succ_le_succ (VT λd hd=>(h d hd).dep)⟩
theorem Shp.tuple {ds:List PyData}(h:∀ d∈ds,Shp n d):Shp (n+1) (.tuple ds):=⟨Ko λd hd=>(h d hd).lay,Nat.succ_le_succ (VT λd hd=>(h d hd).dep)⟩
theorem Shp.mono {m:Nat}(h:Shp n d)(l:n<=m):Shp m d:=⟨h.lay,Nat.le_trans h.dep l⟩
theorem Shp.sh (h:Shp n d)(l:n<=64):SeqAt.shaped d=true:=by
 unfold SeqAt.shaped
 rw[h.lay,Bool.true_and]
 exact decide_eq_true (Nat.le_trans h.dep l)
theorem Shp.refl (h:Shp n d):PyData.eqv d d=true:=SeqAt.eqv_refl d h.lay
theorem shV {v:V}(h:okV v=true):Shp 0 (X1 v):=by
 cases v <;> first|exact⟨rfl,Nat.le_refl _⟩|exact⟨h,Nat.le_refl _⟩|cases h
theorem shVs {vs:List V}(h:vs.all okV=true):∀ d∈vs.map X1,Shp 0 d:=λd hd=>by
 obtain⟨v,hv,rfl⟩:=List.mem_map.mp hd
 exact shV (List.all_eq_true.mp h v hv)
theorem YA (d:zQ):d.vs.all okV=true:=by
 cases d with
 |op w v a b=>cases w <;> simp[zQ.vs,okV,Wd.txt,xn]
 |_=>simp[zQ.vs,okV,xn]
theorem en_ok (e:En):e.vs.all okV=true:=by cases e <;> simp[En.vs,okV,xn]
def zQ.dat (d:zQ):PyData:=.tuple (d.vs.map X1)
def En.dat (e:En):PyData:=.tuple (e.vs.map X1)
def Blk.dat (b:Blk):PyData:=.tuple [.list (b.ds.map zQ.dat),b.en.dat]
def progD (bs:List Blk):PyData:=.list (bs.map Blk.dat)
def WT (ns:List Int):PyData:=.list (ns.map PyData.int)
section
variable {K:PySem.W.Frag}{H:Hp}{v:V}
theorem j0.dp {d:zQ}(h:j0 K H v d):Dp K H v d.dat:=by
 obtain⟨p,rfl,hS⟩:=h
 exact .tup hS (Q2 (YA d))
theorem J0.dp {d:En}(h:J0 K H v d):Dp K H v d.dat:=by
 obtain⟨p,rfl,hS⟩:=h
 exact .tup hS (Q2 (en_ok d))
theorem Zu.dp {b:Blk}(h:Zu K H v b):Dp K H v b.dat:=by
 obtain⟨p,dl,en,rfl,hS,⟨q,xs,rfl,hL,hA⟩,hE⟩:=h
 exact .tup hS (.cons (.lst hL (kN (λ_ _ z=>z.dp) hA)) (.cons hE.dp .nil))
theorem xy.dp {bs:List Blk}(h:xy K H v bs):Dp K H v (progD bs):=by
 obtain⟨p,xs,rfl,hL,hA⟩:=h
 exact .lst hL (kN (λ_ _ z=>z.dp) hA)
theorem Y5 {a:Addr}{ns:List Int}(h:SqL K H a (ns.map V.int)):Dp K H (.ref a) (WT ns):=by
 refine .lst h ?_
 have:(ns.map V.int).all okV=true:=by simp[okV]
 have:=Q2 (K:=K) (H:=H) this
 rw[List.map_map] at this
 exact this
end
end Rp
namespace Rp
open PySem L2
variable {bs:List Blk}{Ws:List NS}{n at0 x:Int}{seen left:List Int}{K:PySem.W.Frag}{H:Hp}{v:V}
def Blk.rows (b:Blk):List Row:=b.ds.map Row.dd++[.ee b.en]
abbrev NS:=Nat->Bool
def YF (r:Row)(S:NS):NS:=λi=>(S i && !inL r.gv i) || inL r.rd i
def getW (Ws:List NS)(t:Int):NS:=Ws.getD t.toNat λ_=>false
def ini (Ws:List NS)(ws:List Int):NS:=λi=>ws.any λt=>getW Ws t i
def WM (Ws:List NS)(b:Blk):NS:=b.rows.foldr YF (ini Ws b.en.ways)
inductive Mt|reads|gives|non
def vE:List Row->Int->Mt
 |[],_=>.non
 |r::rs,n=>if r.rd.contains n then .reads else if r.gv.contains n then .gives else vE rs n
theorem yN (S:NS)(i:Nat):∀ rs:List Row,rs.foldr YF S i=match vE rs (Int.ofNat i) with|.reads=>true|.gives=>false|.non=>S i
 |[]=>rfl
 |r::rs=>by
  rw[List.foldr_cons]
  show((rs.foldr YF S i && !inL r.gv i) || inL r.rd i)=_
  rw[yN S i rs,show vE (r::rs) (Int.ofNat i)=(if r.rd.contains (Int.ofNat i) then .reads else if r.gv.contains (Int.ofNat i) then .gives else vE rs (Int.ofNat i)) from rfl]
  unfold inL
  generalize vE rs (Int.ofNat i)=mm
  cases r.rd.contains (Int.ofNat i) with
  |true=>simp
  |false=>
   cases r.gv.contains (Int.ofNat i) with
   |true=>simp
   |false=>simp
theorem K3 (Ws:List NS)(b:Blk)(i:Nat):WM Ws b i=match vE b.rows (Int.ofNat i) with|.reads=>true|.gives=>false|.non=>ini Ws b.en.ways i:=yN _ i _
inductive Wa (bs:List Blk)(n:Int):Nat->Prop
 |here {t:Nat} {b:Blk}:bs[t]?=some b->vE b.rows n=.reads->Wa bs n t
 |next {t:Nat} {b:Blk} {u:Int}:bs[t]?=some b->vE b.rows n=.non->u∈b.en.ways->Wa bs n u.toNat->Wa bs n t
def V1 (bs:List Blk)(Ws:List NS):Prop:=∀ t i,i<6->Ws.getD t (λ_=>false) i=true->Wa bs (Int.ofNat i) t
theorem V1.none (bs:List Blk)(n:Nat):V1 bs (List.replicate n λ_=>false):=λt i _ h=>by
 rw[List.getD_eq_getElem?_getD,List.getElem?_replicate] at h
 split at h <;> simp at h
theorem V1.step (h:V1 bs Ws):V1 bs (bs.map (WM Ws)):=λt i hi e=>by
 rw[List.getD_eq_getElem?_getD,List.getElem?_map] at e
 cases hb:bs[t]? with
 |none=>rw[hb] at e;simp at e
 |some b=>
  rw[hb] at e
  have e:WM Ws b i=true:=e
  rw[K3] at e
  cases hm:vE b.rows (Int.ofNat i) with
  |reads=>exact .here hb hm
  |gives=>rw[hm] at e;cases e
  |non=>
   rw[hm] at e
   obtain⟨u,hu,hw⟩:=List.any_eq_true.mp e
   exact .next hb hm hu (h u.toNat i hi hw)
def sub (S T:NS):Prop:=∀ i<6,S i=true->T i=true
theorem Ww {Vs:List NS}(h:∀ t i,i<6->Ws.getD t (λ_=>false) i=true->Vs.getD t (λ_=>false) i=true)(ws:List Int):sub (ini Ws ws) (ini Vs ws):=λi hi e=>by
 obtain⟨u,hu,hw⟩:=List.any_eq_true.mp e
 exact List.any_eq_true.mpr ⟨u,hu,h u.toNat i hi hw⟩
theorem V5 {Vs:List NS}(h:∀ t i,i<6->Ws.getD t (λ_=>false) i=true->Vs.getD t (λ_=>false) i=true)(b:Blk):sub (WM Ws b) (WM Vs b):=λi hi e=>by
 rw[K3] at e ⊢
 cases hm:vE b.rows (Int.ofNat i) with
 |reads=>rfl
 |gives=>rw[hm] at e;cases e
 |non=>rw[hm] at e;exact Ww h _ i hi e
def Kk (bs:List Blk)(Ws:List NS):Prop:=Ws.length=bs.length/\∀ t i,i<6->Ws.getD t (λ_=>false) i=true->(bs.map (WM Ws)).getD t (λ_=>false) i=true
theorem Kk.none (bs:List Blk):Kk bs (List.replicate bs.length λ_=>false):=⟨by simp,λt i _ h=>by
 rw[List.getD_eq_getElem?_getD,List.getElem?_replicate] at h
 split at h <;> simp at h⟩
theorem Kk.step (h:Kk bs Ws):Kk bs (bs.map (WM Ws)):=⟨by simp,λt i hi e=>by
 rw[List.getD_eq_getElem?_getD,List.getElem?_map] at e ⊢
 cases hb:bs[t]? with
 |none=>rw[hb] at e;simp at e
 |some b=>
  rw[hb] at e
  have e:WM Ws b i=true:=e
  exact V5 h.2 b i hi e⟩
structure XU (bs:List Blk)(n:Int)(at0:Int)(left seen:List Int):Prop where
 lo:∀ x∈left++seen,0<=x/\x<bs.length
 back:∀ x∈left,Wa bs n x.toNat->Wa bs n at0.toNat
 at0:at0∈left\/at0∈seen
 shut:∀ x∈seen,∃ b,bs[x.toNat]?=some b/\vE b.rows n≠.reads/\(vE b.rows n=.non->∀ u∈b.en.ways,u∈left\/u∈seen)
 nd:seen.Nodup
theorem XU.done (S:XU bs n at0 [] seen):¬ Wa bs n at0.toNat:=by
 have hat:at0∈seen:=S.at0.resolve_left λh=>by cases h
 have key:∀ t,Wa bs n t->∀ x∈seen,x.toNat=t->False:=λt w=>by
  induction w with
  |here hb hm=>
   rintro x hx rfl
   obtain⟨b',hb',h1,_⟩:=S.shut x hx
   rw[hb] at hb';cases hb'
   exact h1 hm
  |next hb hm hu _ ih=>
   rintro x hx rfl
   obtain⟨b',hb',_,h2⟩:=S.shut x hx
   rw[hb] at hb';cases hb'
   rcases h2 hm _ hu with h|h
   ·cases h
   ·exact ih _ h rfl
 exact λw=>key _ w _ hat rfl
theorem XU.old (S:XU bs n at0 (left++[x]) seen)(hx:x∈seen):XU bs n at0 left seen:=
 ⟨λy hy=>S.lo y (by rcases List.mem_append.mp hy with h|h <;> simp[h]),λy hy=>S.back y (by simp[hy]),by
  rcases S.at0 with h|h
  ·rcases List.mem_append.mp h with h|h
   ·exact .inl h
   ·rw[List.mem_singleton.mp h];exact .inr hx
  ·exact .inr h,λy hy=>by
  obtain⟨b,h1,h2,h3⟩:=S.shut y hy
  refine⟨b,h1,h2,λz u hu=>?_⟩
  rcases h3 z u hu with h|h
  ·rcases List.mem_append.mp h with h|h
   ·exact .inl h
   ·rw[List.mem_singleton.mp h];exact .inr hx
  ·exact .inr h,S.nd⟩
theorem XU.hit {b:Blk}(S:XU bs n at0 (left++[x]) seen)(hb:bs[x.toNat]?=some b)(hm:vE b.rows n=.reads):Wa bs n at0.toNat:=S.back x (by simp) (.here hb hm)
theorem XU.new {ws:List Int}{b:Blk}(S:XU bs n at0 (left++[x]) seen)(hx:x ∉ seen)(hb:bs[x.toNat]?=some b)(hm:vE b.rows n≠.reads)
  (hw:(vE b.rows n=.non/\ws=b.en.ways)\/(vE b.rows n=.gives/\ws=[])) (hok:∀ u∈b.en.ways,0<=u/\u<bs.length):XU bs n at0 (left++ws) (seen++[x]):=by
 have hsub:∀ u∈ws,u∈b.en.ways:=λu hu=>by
  rcases hw with⟨_,e⟩|⟨_,e⟩
  ·rw[<-e];exact hu
  ·rw[e] at hu;cases hu
 refine⟨λy hy=>?_,λy hy w=>?_,?_,λy hy=>?_,?_⟩
 ·rcases List.mem_append.mp hy with h|h
  ·rcases List.mem_append.mp h with h|h
   ·exact S.lo y (by simp[h])
   ·exact hok y (hsub y h)
  ·rcases List.mem_append.mp h with h|h
   ·exact S.lo y (by simp[h])
   ·exact S.lo y (by rw[List.mem_singleton.mp h];simp)
 ·rcases List.mem_append.mp hy with h|h
  ·exact S.back y (by simp[h]) w
  ·rcases hw with⟨hn,e⟩|⟨_,e⟩
   ·exact S.back x (by simp) (.next hb hn (by rw[<-e];exact h) w)
   ·rw[e] at h;cases h
 ·rcases S.at0 with h|h
  ·rcases List.mem_append.mp h with h|h
   ·exact .inl (by simp[h])
   ·exact .inr (by simp[List.mem_singleton.mp h])
  ·exact .inr (by simp[h])
 ·rcases List.mem_append.mp hy with h|h
  ·obtain⟨b',h1,h2,h3⟩:=S.shut y h
   refine⟨b',h1,h2,λz u hu=>?_⟩
   rcases h3 z u hu with h|h
   ·rcases List.mem_append.mp h with h|h
    ·exact .inl (by simp[h])
    ·exact .inr (by simp[List.mem_singleton.mp h])
   ·exact .inr (by simp[h])
  ·rw[List.mem_singleton.mp h]
   refine⟨b,hb,hm,λz u hu=>?_⟩
   rcases hw with⟨_,e⟩|⟨hg,_⟩
   ·exact .inl (by rw[e];simp[hu])
   ·rw[hg] at z;cases z
 ·rw[List.nodup_append]
  exact⟨S.nd,by simp,λa ha c hc=>by rw[List.mem_singleton.mp hc];exact λe=>hx (e ▸ ha)⟩
theorem XU.len (S:XU bs n at0 left seen):seen.length<=bs.length:=
 vU bs.length seen S.nd λk hk=>S.lo k (by simp[hk])
def intssD (a:List (List Int)):PyData:=.list (a.map WT)
def JB (K:PySem.W.Frag)(H:Hp)(v:V)(ns:List Int):Prop:=∃ l,v=.ref l/\H l=some (.lst (ns.map V.int))
def wV (K:PySem.W.Frag)(H:Hp)(v:V)(nss:List (List Int)):Prop:=∃ l xs,v=.ref l/\H l=some (.lst xs)/\z5 (JB K H) xs nss
theorem JB.same {H':Hp}{ns:List Int}(h:JB K H v ns)(s:qq H H'):JB K H' v ns:=let ⟨l,e,q⟩:=h;⟨l,e,s _ _ q⟩
theorem wV.same {H':Hp}{ns:List (List Int)}(h:wV K H v ns)(s:qq H H'):wV K H' v ns:=let ⟨l,xs,e,q,a⟩:=h;⟨l,xs,e,s _ _ q,a.imp λ_ _ z=>z.same s⟩
theorem wV.dp {ns:List (List Int)}(h:wV K H v ns):Dp K H v (intssD ns):=by
 obtain⟨l,xs,rfl,hl,ha⟩:=h
 exact .lst (SqL.of hl) (kN (f:=WT) (λx y h=>by obtain⟨a,rfl,q⟩:=h;exact Y5 (SqL.of q)) ha)
theorem jp.dd {d:zQ}(h:j0 K H v d):jp K H v (.dd d):=h
theorem jp.ee {e:En}(h:J0 K H v e):jp K H v (.ee e):=h
end Rp
namespace Rp
open PySem PySem.Spec PyProof.Rows
open L2 hiding PE PT PW PA PS PSs PC PG PGs PI PO PPs ZW PF PFs QE wS wN yQ wR vA
section
theorem QE {X:Cx}{tg l:Expr}{td:TE}(hl:PE X l td):PI X tg l (Yz td):=by with_unfolding_all exact L2.QE hl
theorem wS {X:Cx}{elts:List Expr}{x1}{tpos:Pos}{l:Expr}{td:TE}{apos cpos:Pos}(hl:PE X l td)
  (hbase:attributeBase l "items" X.env (eval l X.env)=eval l X.env:=by rfl) (hline:(apos.endLine == cpos.line)=true:=by rfl):PI X (.Tuple elts x1 tpos) (.Call (.Attribute l "items" apos) [] [] cpos) (VS td):=by with_unfolding_all exact L2.wS hl hbase hline
theorem wN {X:Cx}{elts:List Expr}{x1}{tpos:Pos}{a:Expr}{ta:TA}{p pos:Pos}(hg:Gl X "enumerate")(hm:X.mg "enumerate"=none)(ha:PA X [a] ta)(hs:starEach [a] X.env=[(false,eval a X.env)]:=by rfl):
  PI X (.Tuple elts x1 tpos) (.Call (.Name "enumerate" p) [a] [] pos) (V9 X.K ta):=by with_unfolding_all exact L2.wN hg hm ha hs
theorem yQ {X:Cx}{elts:List Expr}{x1}{tpos:Pos}{a b:Expr}{ta:TA}{p pos:Pos}(hg:Gl X "zip")(hm:X.mg "zip"=none)(ha:PA X [a,b] ta)
  (hs:starEach [a,b] X.env=[(false,eval a X.env),(false,eval b X.env)]:=by rfl) (hs2:starEach [b] X.env=[(false,eval b X.env)]:=by rfl):
  PI X (.Tuple elts x1 tpos) (.Call (.Name "zip" p) [a,b] [] pos) (iZip X.K ta):=by with_unfolding_all exact L2.yQ hg hm ha hs hs2
end
section
variable {X:Cx}{o e f:Expr}{apos cpos:Pos}{td ty tx:TE}
theorem wR (ho:PE X o td)(he:PE X e ty)(m:M1 X o "pop" apos e cpos):PE X (.Call (.Attribute o "pop" apos) [e] [] cpos) (Kb td ty):=by with_unfolding_all exact L2.wR ho he m
theorem vA (hu:X.A.units+1<cLine)(ho:PE X o td)(he:PE X e ty)(hf:PE X f tx)(m:M2 X o "get" apos e f cpos):PE X (.Call (.Attribute o "get" apos) [e,f] [] cpos) (Vk td ty tx):=by with_unfolding_all exact L2.vA hu ho he hf m
end
end Rp
namespace Rp
open PySem L2
variable {K:PySem.W.Frag}{a p d:Addr}{b h h':HSto}{g:TG}{σ:St}{H H1 H':Hp}{tif:TT}{te:TE}{Q:VK}{o:Option Row}{kvs:List (Key×V)}{k n q:Int}{x:RP}{i:Nat}{v:V}{r c:Row}{ks:List Key}{ys:List V}
theorem W9 {b:Addr}{tb:TS}{D:Ends}(xs ys:List V)(Pv:Nat->St->Hp->Prop)(h0:Pv 0 σ H)(hl:∀ i σ H,i<=min xs.length ys.length->Pv i σ H->SqL K H a xs/\SqL K H b ys)
  (hs:∀ i x y p σ H,xs[i]?=some x->ys[i]?=some y->H p=none->Pv i σ H->g (.ref p) σ (upd H p (.tup [x,y])) λσ2 H2=>tb { D with nx:=Pv (i+1),ct:=Pv (i+1),bk:=D.nx } σ2 H2) (he:∀ σ H,Pv (min xs.length ys.length) σ H->D.nx σ H):
  WW (Itz K a b) g tb D σ H:=WV xs ys Pv h0 hl hs he
theorem Za {b:Addr}(xs ys:List V)(Pv:Nat->St->Hp->Prop)(h0:Pv 0 σ (upd H1 p (.lst [])))(hl:∀ i σ H,i<=min xs.length ys.length->Pv i σ H->SqL K H a xs/\SqL K H b ys)
  (hs:∀ i x y q σ H,xs[i]?=some x->ys[i]?=some y->H q=none->Pv i σ H->g (.ref q) σ (upd H q (.tup [x,y])) λσ2 H2=>tif σ2 H2 λb H3=>if b=true then te σ2 H3 λy H4=>∃ xs,H4 p=some (.lst xs)/\xs.length<sizeLine/\Pv (i+1) σ2 (upd H4 p (.lst (xs++[y]))) else Pv (i+1) σ2 H3)
  (he:∀ σ H,Pv (min xs.length ys.length) σ H->Q (.ref p) H):vH (Itz K a b) g tif te p σ H1 Q:=W2 xs ys Pv h0 hl hs he
theorem Je (xs:List V)(Pv:Nat->St->Hp->Prop)(h0:Pv 0 σ (upd H1 p (.lst [])))(hl:∀ i σ H,i<=xs.length->Pv i σ H->SqT K H a xs)
  (hs:∀ i x q σ H,xs[i]?=some x->H q=none->Pv i σ H->g (.ref q) σ (upd H q (.tup [.int i,x])) λσ2 H2=>tif σ2 H2 λb H3=>if b=true then te σ2 H3 λy H4=>∃ xs,H4 p=some (.lst xs)/\xs.length<sizeLine/\Pv (i+1) σ2 (upd H4 p (.lst (xs++[y]))) else Pv (i+1) σ2 H3)
  (he:∀ σ H,Pv xs.length σ H->Q (.ref p) H):vH (Itet K a) g tif te p σ H1 Q:=by
 refine⟨λi m σ H=>i<=xs.length/\m=xs.length-i/\Pv i σ H,⟨_,Nat.zero_le _,rfl,h0⟩,?_⟩
 rintro i m σ H ⟨hi,rfl,q⟩
 cases hx:xs[i]? with
 |none=>
  have e:i=xs.length:=Nat.le_antisymm hi (by simpa using hx)
  exact .inl ⟨⟨xs,hl i σ H hi q,e.symm⟩,he σ H (e ▸ q)⟩
 |some x=>
  have lt:i<xs.length:=(List.getElem?_eq_some_iff.mp hx).1
  refine .inr ⟨⟨xs,x,hl i σ H hi q,hx⟩,Pv (i+1),λσ' H' q=>⟨xs.length-(i+1),by omega,lt,rfl,q⟩,?_⟩
  rintro y H' ⟨r,z,hr,rfl,rfl,hz⟩
  have e:=hz xs (hl i σ H hi q)
  rw[hx] at e
  cases e
  exact hs i x r σ H hx hr q
theorem XR {o:Obj}{tb:TS}{D:Ends}(Pv:Nat->St->Hp->Prop)(h0:Pv 0 σ H)(hl:∀ i σ H,i<=kvs.length->Pv i σ H->H d=some (.frz o (.dK kvs)))
  (hs:∀ i k v p σ H,kvs[i]?=some (k,v)->H p=none->Pv i σ H->g (.ref p) σ (upd H p (.tup [kV k,v])) λσ2 H2=>tb { D with nx:=Pv (i+1),ct:=Pv (i+1),bk:=D.nx } σ2 H2) (he:∀ σ H,Pv kvs.length σ H->D.nx σ H):
  WW (Iti d o kvs) g tb D σ H:=by
 refine⟨λi m σ H=>i<=kvs.length/\m=kvs.length-i/\Pv i σ H,⟨_,Nat.zero_le _,rfl,h0⟩,?_⟩
 rintro i m σ H ⟨hi,rfl,q⟩
 rcases Nat.lt_or_ge i kvs.length with lt|ge
 ·refine .inr ⟨⟨lt,hl i σ H hi q⟩,Pv (i+1),λσ' H' q=>⟨kvs.length-(i+1),by omega,lt,rfl,q⟩,?_⟩
  rintro y H' ⟨r,k,v,hr,rfl,rfl,hk⟩
  exact hs i k v r σ H hk hr q
 ·have e:i=kvs.length:=by omega
  exact .inl ⟨⟨ge,hl i σ H hi q⟩,he σ H (e ▸ q)⟩
theorem Xq {o:Obj}(Pv:Nat->St->Hp->Prop)(h0:Pv 0 σ (upd H1 p (.lst [])))(hl:∀ i σ H,i<=kvs.length->Pv i σ H->H d=some (.frz o (.dK kvs)))
  (hs:∀ i k v σ H,kvs[i]?=some (k,v)->Pv i σ H->g (kV k) σ H λσ2 H2=>tif σ2 H2 λb H3=>if b=true then te σ2 H3 λy H4=>∃ xs,H4 p=some (.lst xs)/\xs.length<sizeLine/\Pv (i+1) σ2 (upd H4 p (.lst (xs++[y]))) else Pv (i+1) σ2 H3)
  (he:∀ σ H,Pv kvs.length σ H->Q (.ref p) H):vH (Itd d o kvs) g tif te p σ H1 Q:=by
 refine⟨λi m σ H=>i<=kvs.length/\m=kvs.length-i/\Pv i σ H,⟨_,Nat.zero_le _,rfl,h0⟩,?_⟩
 rintro i m σ H ⟨hi,rfl,q⟩
 rcases Nat.lt_or_ge i kvs.length with lt|ge
 ·refine .inr ⟨⟨lt,hl i σ H hi q⟩,Pv (i+1),λσ' H' q=>⟨kvs.length-(i+1),by omega,lt,rfl,q⟩,?_⟩
  rintro y H' ⟨rfl,k,v,hk,rfl⟩
  exact hs i k v σ H' hk q
 ·have e:i=kvs.length:=by omega
  exact .inl ⟨⟨ge,hl i σ H hi q⟩,he σ H (e ▸ q)⟩
theorem Xu {k j:Key}:jG (xW kvs k) j=if j=k then none else jG kvs j:=by
 induction kvs with
 |nil=>split <;> rfl
 |cons p r ih=>
  by_cases e:p.1=k
  ·rw[ZS e,ih]
   by_cases ej:j=k
   ·rw[if_pos ej,if_pos ej]
   ·rw[if_neg ej,if_neg ej,j2 λz=>ej (z.symm.trans e)]
  ·rw[ZI e]
   by_cases ep:p.1=j
   ·rw[jg ep,jg ep,if_neg λz=>e (ep.trans z)]
   ·rw[j2 ep,j2 ep,ih]
abbrev HSto:=Int->Option Int
structure xu (kvs:List (Key×V))(h:HSto):Prop where
 val:∀ k:Int,jG kvs (Sum.inl k:Key)=(h k).map V.int
 key:∀ p∈kvs,∃ k:Int,p.1=Sum.inl k/\0<=k/\k<60
 full:∀ p∈kvs,∃ x:Int,p.2=.int x
 nd:(kvs.map (·.1)).Nodup
theorem xu.rep (r:xu kvs h):Rep kvs h:=
 ⟨λk=>by
  rw[r.val k]
  cases h k <;> rfl,r.key,λp hp=>.inr (r.full p hp),r.nd⟩
theorem xu.len (r:xu kvs h):kvs.length<=60:=r.rep.len
theorem xu.nil:xu [] (λ_=>none):=⟨λ_=>rfl,λp h=>(by cases h),λp h=>(by cases h),List.nodup_nil⟩
theorem xu.flat (r:xu kvs h):∀ p∈kvs,xA p.2=true:=λp hp=>by
 obtain⟨x,e⟩:=r.full p hp
 rw[e];rfl
theorem xu.dom (r:xu kvs h){x:Int}(e:h k=some x):0<=k/\k<60:=by
 have h1:jG kvs (Sum.inl k:Key)=some (.int x):=by rw[r.val k,e];rfl
 obtain⟨j,hj,h0,h1⟩:=r.key _ (kM h1)
 cases hj
 exact⟨h0,h1⟩
theorem xu.put {x:Int}(r:xu kvs h)(h0:0<=k)(h1:k<60)(hh:∀ j,h' j=if j=k then some x else h j):xu (xT kvs (Sum.inl k) (.int x)) h':=by
 refine⟨λj=>?_,λp hp=>?_,λp hp=>?_,?_⟩
 ·rw[xk,hh]
  by_cases e:j=k
  ·rw[if_pos (by rw[e]),if_pos e];rfl
  ·rw[if_neg (λz=>e (Sum.inl.inj z)),if_neg e];exact r.val j
 ·rcases vw hp with h|h
  ·exact r.key p h
  ·subst h;exact⟨k,rfl,h0,h1⟩
 ·rcases vw hp with h|h
  ·exact r.full p h
  ·subst h;exact⟨x,rfl⟩
 ·cases e:jG kvs (Sum.inl k:Key) with
  |none=>exact QQ _ r.nd e
  |some u=>rw[jS e];exact r.nd
theorem xu.drop (r:xu kvs h)(hh:∀ j,h' j=if j=k then none else h j):xu (xW kvs (Sum.inl k)) h':=by
 refine⟨λj=>?_,λp hp=>r.key p (ye hp),λp hp=>r.full p (ye hp),Qj r.nd⟩
 rw[Xu,hh]
 by_cases e:j=k
 ·rw[if_pos (by rw[e]),if_pos e];rfl
 ·rw[if_neg (λz=>e (Sum.inl.inj z)),if_neg e];exact r.val j
theorem xu.congr (r:xu kvs h)(e:∀ j,h' j=h j):xu kvs h':=⟨λk=>by rw[e k];exact r.val k,r.key,r.full,r.nd⟩
theorem xu.get (r:xu kvs h)(e:Rd H d (.dK kvs)):Q1 H d (.int k) ((h k).map V.int):=.inl ⟨kvs,Sum.inl k,e,rfl,(r.val k).symm⟩
theorem xu.gets {x:Int}(r:xu kvs h)(e:Rd H d (.dK kvs))(hx:h k=some x):Q1 H d (.int k) (some (.int x)):=.inl ⟨kvs,Sum.inl k,e,rfl,by rw[r.val k,hx];rfl⟩
theorem xu.at (r:xu kvs h){k:Key}(e:kvs[i]?=some (k,v)):∃ p n:Int,k=Sum.inl p/\v=.int n/\h p=some n/\0<=p/\p<60:=by
 have hm:=List.mem_of_getElem? e
 obtain⟨p,hp,h0,h1⟩:=r.key _ hm
 obtain⟨n,hn⟩:=r.full _ hm
 dsimp only at hp hn
 subst hp hn
 have h2:=JU r.nd hm
 rw[r.val p] at h2
 refine⟨p,n,rfl,rfl,?_,h0,h1⟩
 cases e:h p with
 |none=>rw[e] at h2;cases h2
 |some m=>rw[e] at h2;cases h2;rfl
def HD (H:Hp)(d:Addr)(h:HSto):Prop:=∃ kvs,Rd H d (.dK kvs)/\xu kvs h
def HDO (H:Hp)(d:Addr)(h:HSto):Prop:=∃ kvs,H d=some (.dK kvs)/\xu kvs h
theorem HDO.hd (x:HDO H d h):HD H d h:=let ⟨k,a,b⟩:=x;⟨k,.inl a,b⟩
theorem HD.same (x:HD H d h)(s:qq H H'):HD H' d h:=by
 obtain⟨k,a,b⟩:=x
 rcases a with a|⟨o,a⟩
 ·exact⟨k,.inl (s _ _ a),b⟩
 ·exact⟨k,.inr ⟨o,s _ _ a⟩,b⟩
def UpD (d:Addr)(H H':Hp):Prop:=∀ b o,b≠d->H b=some o->H' b=some o
theorem UpD.refl:UpD d H H:=λ_ _ _ e=>e
theorem UpD.trans {H'':Hp}(a:UpD d H H')(b:UpD d H' H''):UpD d H H'':=λx o n e=>b x o n (a x o n e)
theorem UpD.of (s:qq H H'):UpD d H H':=λx o _ e=>s x o e
theorem UpD.upd {o:HO}:UpD d H (upd H d o):=λx u n e=>by rw[qp n];exact e
theorem UpD.seqT {xs:List V}(u:UpD d H H')(hd:H d=some (.dK kvs))(h:SqT K H a xs):SqT K H' a xs:=by
 rcases h with(h|⟨o,h⟩)|h
 ·exact .inl (.inl (u a _ (λe=>by rw[e,hd] at h;cases h) h))
 ·exact .inl (.inr ⟨o,u a _ (λe=>by rw[e,hd] at h;cases h) h⟩)
 ·exact .inr h
theorem UpD.row (u:UpD d H H')(hd:H d=some (.dK kvs))(h:jp K H v r):jp K H' v r:=let ⟨p,e,q⟩:=h;⟨p,e,u.seqT hd q⟩
theorem UpD.same {H0:Hp}(u:UpD d H H')(s:qq H0 H)(hd:H0 d=none):qq H0 H':=λb o e=>u b o (qj e hd) (s b o e)
def jB (p q:Int)(h:HSto):HSto:=λx=>if x=p then h q else h x
def jo (n p:Int)(h:HSto):HSto:=λx=>if x=p then some n else if h x=some n then none else h x
open Classical in
def wH (ks:List Key)(n:Int)(h:HSto):HSto:=λx=>if (Sum.inl x:Key)∈ks/\h x=some n then none else h x
theorem Ke (j:Int):wH [] n h j=h j:=if_neg λz=>by cases z.1
theorem VW {j:Int}(hj:¬ (Sum.inl j:Key)∈ks):wH ks n h j=h j:=if_neg λz=>hj z.1
theorem Xe (hq:h q=some n)(j:Int):wH (ks++[Sum.inl q]) n h j=if j=q then none else wH ks n h j:=by
 unfold wH
 by_cases e:j=q
 ·subst e
  rw[if_pos ⟨by simp,hq⟩,if_pos rfl]
 ·rw[if_neg e]
  by_cases c:(Sum.inl j:Key)∈ks/\h j=some n
  ·rw[if_pos ⟨List.mem_append_left _ c.1,c.2⟩,if_pos c]
  ·rw[if_neg λz=>?_,if_neg c]
   rcases List.mem_append.mp z.1 with y|y
   ·exact c ⟨y,z.2⟩
   ·have:=List.mem_singleton.mp y
    exact e (Sum.inl.inj this)
theorem Jv (hq:¬ h q=some n)(j:Int):wH (ks++[Sum.inl q]) n h j=wH ks n h j:=by
 unfold wH
 by_cases c:(Sum.inl j:Key)∈ks/\h j=some n
 ·rw[if_pos ⟨List.mem_append_left _ c.1,c.2⟩,if_pos c]
 ·rw[if_neg λz=>?_,if_neg c]
  rcases List.mem_append.mp z.1 with y|y
  ·exact c ⟨y,z.2⟩
  ·have e:=Sum.inl.inj (List.mem_singleton.mp y)
   rw[e] at z
   exact hq z.2
theorem Ks (r:xu kvs h)(j:Int):wH (kvs.map (·.1)) n h j=if h j=some n then none else h j:=by
 unfold wH
 by_cases c:h j=some n
 ·have hm:(Sum.inl j:Key)∈kvs.map (·.1):=wX (v:=.int n) (by rw[r.val j,c];rfl)
  rw[if_pos ⟨hm,c⟩,if_pos c]
 ·rw[if_neg λz=>c z.2,if_neg c]
theorem xu.notin (r:xu kvs h){k:Key}(hk:kvs[i]?=some (k,v)):¬ k∈(kvs.take i).map (·.1):=λhm=>by
 obtain⟨⟨k',v'⟩,hm',e'⟩:=List.mem_map.mp hm
 obtain⟨j,hj,e2⟩:=List.mem_iff_getElem.mp hm'
 rw[List.length_take] at hj
 rw[List.getElem_take] at e2
 have hlt:=(List.getElem?_eq_some_iff.mp hk).1
 have a1:(kvs.map (·.1))[j]'(by rw[List.length_map];omega)=k:=by rw[List.getElem_map,e2];exact e'
 have a2:(kvs.map (·.1))[i]'(by rw[List.length_map];omega)=k:=by
  rw[List.getElem_map]
  have:=(List.getElem?_eq_some_iff.mp hk).2
  rw[this]
 have:=(List.getElem_inj r.nd).mp (a1.trans a2.symm)
 omega
def zX:List Int->List Int->HSto->HSto
 |n::ns,p::ps,h=>zX ns ps (jo n p h)
 |_,_,h=>h
theorem wp:∀ {i:Nat} {ns ps:List Int} {n p:Int} {h:HSto},ns[i]?=some n->ps[i]?=some p->zX (ns.take (i+1)) (ps.take (i+1)) h=jo n p (zX (ns.take i) (ps.take i) h)
 |0,m::ns,q::ps,n,p,h,hn,hp=>by
  simp only[List.getElem?_cons_zero,Option.some.injEq] at hn hp
  subst hn hp
  rfl
 |i+1,m::ns,q::ps,n,p,h,hn,hp=>by
  simp only[List.getElem?_cons_succ] at hn hp
  exact wp (i:=i) (h:=jo m q h) hn hp
 |0,[],_,_,_,_,hn,_=>by simp at hn
 |_+1,[],_,_,_,_,hn,_=>by simp at hn
 |0,_::_,[],_,_,_,_,hp=>by simp at hp
 |_+1,_::_,[],_,_,_,_,hp=>by simp at hp
theorem wo:∀ {ns ps:List Int} {h:HSto},zX (ns.take (min ns.length ps.length)) (ps.take (min ns.length ps.length)) h=zX ns ps h
 |[],ps,h=>by simp[zX]
 |m::ns,[],h=>by simp[zX]
 |m::ns,q::ps,h=>by
  have e:min (m::ns).length (q::ps).length=min ns.length ps.length+1:=by simp only[List.length_cons];omega
  rw[e]
  exact wo (ns:=ns) (ps:=ps) (h:=jo m q h)
abbrev RP:=Option Row×Row
def jt:RP->HSto->HSto
 |(_,.dd (.move p q)),h=>jB p q h
 |(some r,c),h=>zX r.gv c.gv h
 |(none,_),h=>h
def zF:RP->HSto->Bool
 |(_,.dd (.move _ _)),_=>true
 |(some r,c),h=>(List.zip r.rd c.rd).all λx=>decide (h x.2=some x.1)
 |(none,_),_=>true
def KA:RP->Prop
 |(o,.dd (.move p q))=>0<=p/\p<60
 |(some r,c)=>r.isMove=false/\∀ p∈c.gv,0<=p/\p<60
 |(none,_)=>False
theorem KA.bare (h:KA (o,c))(hc:c.isMove=false):∃ r,o=some r/\r.isMove=false/\(∀ p∈c.gv,0<=p/\p<60)/\(∀ x,jt (o,c) x=zX r.gv c.gv x)/\∀ x,zF (o,c) x=(List.zip r.rd c.rd).all λy=>decide (x y.2=some y.1):=by
 cases o with
 |none=>
  exfalso
  cases c with
  |dd d=>cases d <;> first|exact h|cases hc
  |ee e=>exact h
 |some r=>
  cases c with
  |dd d=>cases d <;> first|exact⟨r,rfl,h.1,h.2,λ_=>rfl,λ_=>rfl⟩|cases hc
  |ee e=>exact⟨r,rfl,h.1,h.2,λ_=>rfl,λ_=>rfl⟩
theorem xb (hc:c.isMove=true):∃ p q,c=.dd (.move p q):=by
 cases c with
 |dd d=>cases d <;> first|exact⟨_,_,rfl⟩|cases hc
 |ee e=>cases hc
def zS (ps:List RP)(h:HSto):HSto:=ps.foldl (λh x=>jt x h) h
def qU:List RP->HSto->Bool
 |[],_=>true
 |x::r,h=>zF x h && qU r (jt x h)
def xx (a b:HSto):HSto:=λp=>if a p=b p then a p else none
def kJ (K:PySem.W.Frag)(H:Hp)(v:V):Option Row->Prop
 |none=>v=.non
 |some r=>jp K H v r
def xR (K:PySem.W.Frag)(H:Hp)(v:V)(x:RP):Prop:=∃ p a b,v=.ref p/\SqT K H p [a,b]/\kJ K H a x.1/\jp K H b x.2
def v8 (K:PySem.W.Frag)(H:Hp)(v:V)(ps:List RP):Prop:=∃ l xs,v=.ref l/\H l=some (.lst xs)/\z5 (xR K H) xs ps
section
variable {K:PySem.W.Frag}{H H':Hp}{v:V}
theorem kJ.same (h:kJ K H v o)(s:qq H H'):kJ K H' v o:=by
 cases o with
 |none=>exact h
 |some r=>exact jp.same h s
theorem xR.same (h:xR K H v x)(s:qq H H'):xR K H' v x:=let ⟨p,a,b,e,q,h1,h2⟩:=h;⟨p,a,b,e,s.seqT q,h1.same s,h2.same s⟩
theorem v8.same {x:List RP}(h:v8 K H v x)(s:qq H H'):v8 K H' v x:=let ⟨l,xs,e,q,a⟩:=h;⟨l,xs,e,s _ _ q,a.imp λ_ _ z=>z.same s⟩
theorem UpD.opt (u:UpD d H H')(hd:H d=some (.dK kvs))(h:kJ K H v o):kJ K H' v o:=by
 cases o with
 |none=>exact h
 |some r=>exact u.row hd h
theorem UpD.pair (u:UpD d H H')(hd:H d=some (.dK kvs))(h:xR K H v x):xR K H' v x:=let ⟨p,a,b,e,q,h1,h2⟩:=h;⟨p,a,b,e,u.seqT hd q,u.opt hd h1,u.row hd h2⟩
end
theorem vf {ps:List RP}(hx:ps[i]?=some x):zS (ps.take (i+1)) h=jt x (zS (ps.take i) h):=by
 unfold zS
 rw[List.take_succ,hx,List.foldl_append]
 rfl
theorem QR {ps:List RP}{g:HSto}(hx:ps[i]?=some x):qU (ps.drop i) g=(zF x g && qU (ps.drop (i+1)) (jt x g)):=by
 obtain⟨lt,e⟩:=List.getElem?_eq_some_iff.mp hx
 rw[List.drop_eq_getElem_cons lt,e]
 rfl
open Classical in
def yp (ks:List Key)(a b:HSto):HSto:=λp=>if (Sum.inl p:Key)∈ks/\a p=b p then a p else none
theorem Kr {a:HSto}(j:Int):yp [] a b j=none:=if_neg λz=>by cases z.1
theorem Xc {a:HSto}(ha:a q=some n)(hb:b q=some n)(j:Int):yp (ks++[Sum.inl q]) a b j=if j=q then some n else yp ks a b j:=by
 unfold yp
 by_cases e:j=q
 ·subst e
  rw[if_pos ⟨by simp,ha.trans hb.symm⟩,if_pos rfl,ha]
 ·rw[if_neg e]
  by_cases c:(Sum.inl j:Key)∈ks/\a j=b j
  ·rw[if_pos ⟨List.mem_append_left _ c.1,c.2⟩,if_pos c]
  ·rw[if_neg λz=>?_,if_neg c]
   rcases List.mem_append.mp z.1 with y|y
   ·exact c ⟨y,z.2⟩
   ·exact e (Sum.inl.inj (List.mem_singleton.mp y))
theorem Jp {a:HSto}(ha:a q=some n)(hb:¬ b q=some n)(j:Int):yp (ks++[Sum.inl q]) a b j=yp ks a b j:=by
 unfold yp
 by_cases c:(Sum.inl j:Key)∈ks/\a j=b j
 ·rw[if_pos ⟨List.mem_append_left _ c.1,c.2⟩,if_pos c]
 ·rw[if_neg λz=>?_,if_neg c]
  rcases List.mem_append.mp z.1 with y|y
  ·exact c ⟨y,z.2⟩
  ·have e:=Sum.inl.inj (List.mem_singleton.mp y)
   rw[e] at z
   exact hb (z.2.symm.trans ha)
theorem VX {a:HSto}(r:xu kvs a)(j:Int):yp (kvs.map (·.1)) a b j=xx a b j:=by
 unfold yp xx
 by_cases c:a j=b j
 ·rw[if_pos c]
  cases e:a j with
  |none=>split <;> rfl
  |some n=>
   have hm:(Sum.inl j:Key)∈kvs.map (·.1):=wX (v:=.int n) (by rw[r.val j,e];rfl)
   rw[if_pos ⟨hm,by rw[<-e];exact c⟩]
 ·rw[if_neg c,if_neg λz=>c z.2]
theorem Rd.inj {a b:List (Key×V)}(x:Rd H d (.dK a))(y:Rd H d (.dK b)):a=b:=by
 rcases x with x|⟨o,x⟩ <;> rcases y with y|⟨o',y⟩ <;> rw[x] at y <;> cases y <;> rfl
theorem Fz.hd {H2:Hp}{e:Addr}{o:Obj}{g:HSto}(f:Fz H d o kvs H2)(hk:Rd H d (.dK kvs))(h:HD H e g):HD H2 e g:=by
 obtain⟨k,a,b⟩:=h
 by_cases ed:e=d
 ·subst ed
  have:=Rd.inj a hk
  subst this
  exact⟨k,.inr ⟨o,f.at_⟩,b⟩
 ·refine⟨k,?_,b⟩
  rcases a with a|⟨o',a⟩
  ·exact .inl (by rw[f.ne _ ed];exact a)
  ·exact .inr ⟨o',by rw[f.ne _ ed];exact a⟩
def sbs:List Row->List Row->List RP
 |_,[]=>[]
 |rs,c::cs=>if c.isMove=true then(none,c)::sbs rs cs else match rs with
  |r::rs'=>(some r,c)::sbs rs' cs
  |[]=>[]
def y6 (cs:List Row):Nat:=(cs.filter λc=>!c.isMove).length
theorem wK {rs cs:List Row}(h:c.isMove=true):sbs rs (c::cs)=(none,c)::sbs rs cs:=by
 conv=>lhs;unfold sbs
 rw[if_pos h]
theorem wL {rs cs:List Row}(h:c.isMove=false):sbs (r::rs) (c::cs)=(some r,c)::sbs rs cs:=by
 conv=>lhs;unfold sbs
 rw[if_neg (by rw[h];exact Bool.false_ne_true)]
theorem vD {cs:List Row}:y6 (c::cs)=(if c.isMove=true then 0 else 1)+y6 cs:=by
 unfold y6
 rw[List.filter_cons]
 cases c.isMove
 ·simp only[Bool.not_false,if_true,Bool.false_eq_true,if_false,List.length_cons];omega
 ·simp
theorem UpD.seqTL {xs:List V}(u:UpD d H H')(hd:H d=some (.lst ys))(h:SqT K H a xs):SqT K H' a xs:=by
 rcases h with(h|⟨o,h⟩)|h
 ·exact .inl (.inl (u a _ (λe=>by rw[e,hd] at h;cases h) h))
 ·exact .inl (.inr ⟨o,u a _ (λe=>by rw[e,hd] at h;cases h) h⟩)
 ·exact .inr h
theorem UpD.rowL (u:UpD d H H')(hd:H d=some (.lst ys))(h:jp K H v r):jp K H' v r:=let ⟨p,e,q⟩:=h;⟨p,e,u.seqTL hd q⟩
theorem UpD.pairL (u:UpD d H H')(hd:H d=some (.lst ys))(h:xR K H v x):xR K H' v x:=by
 obtain⟨p,a,b,e,q,h1,h2⟩:=h
 refine⟨p,a,b,e,u.seqTL hd q,?_,u.rowL hd h2⟩
 obtain⟨o,c⟩:=x
 cases o with
 |none=>exact h1
 |some r=>exact u.rowL hd h1
theorem xw {α:Type}{l:List α}{x:α}(h:l[i]?=some x):l.drop i=x::l.drop (i+1):=by
 obtain⟨lt,e⟩:=List.getElem?_eq_some_iff.mp h
 rw[List.drop_eq_getElem_cons lt,e]
end Rp
namespace Rp
open PySem L2
variable {a b h g:HSto}{p t n:Int}{B:Bg}{e:Addr}{kvs:List (Key×V)}{H0 H H':Hp}
def leH (a b:HSto):Prop:=∀ p n,a p=some n->b p=some n
theorem leH.refl:leH a a:=λ_ _ e=>e
theorem leH.trans {c:HSto}(x:leH a b)(y:leH b c):leH a c:=λp n e=>y p n (x p n e)
theorem leH.anti (x:leH a b)(y:leH b a):a=b:=by
 funext p
 cases h:a p with
 |some n=>exact(x p n h).symm
 |none=>
  cases h':b p with
  |none=>rfl
  |some n=>rw[y p n h'] at h;cases h
theorem xB:leH (xx a b) a:=λp n e=>by
 unfold xx at e
 split at e
 ·exact e
 ·cases e
theorem xG:leH (xx a b) b:=λp n e=>by
 unfold xx at e
 split at e
 ·rename_i c
  rw[<-c];exact e
 ·cases e
theorem VO {c:HSto}(x:leH c a)(y:leH c b):leH c (xx a b):=λp n e=>by
 unfold xx
 rw[x p n e,y p n e,if_pos rfl]
theorem Jl:xx (λ_=>none) b=λ_=>none:=by
 funext p
 unfold xx
 split <;> rfl
theorem kw {q:Int}(h:leH a b):leH (jB p q a) (jB p q b):=λx n e=>by
 unfold jB at e ⊢
 split at e
 ·rename_i c
  rw[if_pos c];exact h _ _ e
 ·rename_i c
  rw[if_neg c];exact h _ _ e
theorem yJ {m:Int}(h:leH a b):leH (jo m p a) (jo m p b):=λx n e=>by
 unfold jo at e ⊢
 by_cases c:x=p
 ·rw[if_pos c] at e ⊢;exact e
 ·rw[if_neg c] at e ⊢
  by_cases d:a x=some m
  ·rw[if_pos d] at e;cases e
  ·rw[if_neg d] at e
   have hb:=h x n e
   rw[if_neg λz=>d (by rw[e];rw[hb] at z;exact z)]
   exact hb
theorem v7:∀ {ns ps:List Int} {a b:HSto},leH a b->leH (zX ns ps a) (zX ns ps b)
 |[],_,_,_,h=>by unfold zX;exact h
 |_::_,[],_,_,h=>by unfold zX;exact h
 |n::ns,p::ps,a,b,h=>by
  unfold zX
  exact v7 (yJ h)
theorem kB {x:RP}(h:leH a b):leH (jt x a) (jt x b):=by
 obtain⟨o,c⟩:=x
 cases o with
 |none=>
  cases c with
  |dd d=>cases d <;> first|exact kw h|exact h
  |ee e=>exact h
 |some r=>
  cases c with
  |dd d=>cases d <;> first|exact kw h|exact v7 h
  |ee e=>exact v7 h
theorem wr {ps:List RP}:∀ {a b:HSto},leH a b->leH (zS ps a) (zS ps b):=by
 induction ps with
 |nil=>intro a b h;exact h
 |cons x r ih=>
  intro a b h
  exact ih (kB h)
theorem yG {x:RP}(h:leH a b)(hr:zF x a=true):zF x b=true:=by
 obtain⟨o,c⟩:=x
 have key:∀ r:Row,((List.zip r.rd c.rd).all λy=>decide (a y.2=some y.1))=true->((List.zip r.rd c.rd).all λy=>decide (b y.2=some y.1))=true:=λr hh=>by
  rw[List.all_eq_true] at hh ⊢
  intro y hy
  exact decide_eq_true (h _ _ (of_decide_eq_true (hh y hy)))
 cases o with
 |none=>
  cases c with
  |dd d=>cases d <;> rfl
  |ee e=>rfl
 |some r=>
  cases c with
  |dd d=>cases d <;> first|rfl|exact key r hr
  |ee e=>exact key r hr
theorem kK:∀ {ps:List RP} {a b:HSto},leH a b->qU ps a=true->qU ps b=true
 |[],_,_,_,_=>rfl
 |x::r,a,b,h,hr=>by
  unfold qU at hr ⊢
  rw[Bool.and_eq_true] at hr ⊢
  exact⟨yG h hr.1,kK (kB h) hr.2⟩
abbrev Bg:=Int->Option HSto
def Cl (B:Bg)(ws:List Int)(e:HSto):Prop:=∀ t∈ws,∃ h,B t=some h/\leH h e
structure Flow (ws:Int->List Int)(E:Int->HSto->HSto)(F:Bg):Prop where
 z:F 0=some (λ_=>none)
 cl:∀ n h,F n=some h->Cl F (ws n) (E n h)
structure WL (N:Int)(ws:Int->List Int)(E:Int->HSto->HSto)(B:Bg)(todo:List Int)(skip:Int->Prop):Prop where
 z:B 0=some (λ_=>none)
 dom:∀ n h,B n=some h->0<=n/\n<N
 cl:∀ n h,B n=some h->n∈todo\/skip n\/Cl B (ws n) (E n h)
 td:∀ n∈todo,∃ h,B n=some h
 best:∀ F,Flow ws E F->∀ n h,B n=some h->∃ f,F n=some f/\leH f h
def Qo (B:Bg)(t:Int)(h:HSto):Bg:=λx=>if x=t then some h else B x
theorem xf:Qo B t h t=some h:=if_pos rfl
theorem jm {x:Int}(e:x≠t):Qo B t h x=B x:=if_neg e
def Qx (o:Option HSto)(e:HSto):HSto:=match o with
 |none=>e
 |some h=>xx h e
theorem Vl {o:Option HSto}{e:HSto}:leH (Qx o e) e:=by
 cases o with
 |none=>exact leH.refl
 |some h=>exact xG
section
variable {N:Int}{ws:Int->List Int}{E:Int->HSto->HSto}{B:Bg}{todo:List Int}{skip:Int->Prop}
theorem WL.init (hN:0<N):WL N ws E (λx=>if x=0 then some (λ_=>none) else none) [0] (λ_=>False):=by
 refine⟨if_pos rfl,λn h e=>?_,λn h e=>?_,λn hn=>⟨_,if_pos (List.mem_singleton.mp hn)⟩,λF hF n h e=>?_⟩
 ·split at e
  ·rename_i c;subst c;exact⟨Int.le_refl _,hN⟩
  ·cases e
 ·split at e
  ·rename_i c;subst c;exact .inl (List.mem_singleton.mpr rfl)
  ·cases e
 ·split at e
  ·rename_i c
   subst c
   cases e
   exact⟨_,hF.z,leH.refl⟩
  ·cases e
theorem WL.pop (W:WL N ws E B (todo++[n]) (λ_=>False)):WL N ws E B todo (λm=>m=n):=by
 refine⟨W.z,W.dom,λm h e=>?_,λm hm=>W.td m (List.mem_append_left _ hm),W.best⟩
 rcases W.cl m h e with c|c|c
 ·rcases List.mem_append.mp c with c|c
  ·exact .inl c
  ·exact .inr (.inl (List.mem_singleton.mp c))
 ·cases c
 ·exact .inr (.inr c)
theorem WL.put (mono:∀ n a b,leH a b->leH (E n a) (E n b))(W:WL N ws E B todo skip)(hb:∀ F,Flow ws E F->∃ f,F n=some f/\leH f h)(ht:t∈ws n)(h0:0<=t)(h1:t<N):
  WL N ws E (Qo B t (Qx (B t) (E n h))) (todo++[t]) skip:=by
 have low:∀ g,B t=some g->leH (Qx (B t) (E n h)) g:=λg e=>by rw[e];exact xB
 refine⟨?_,λm g e=>?_,λm g e=>?_,λm hm=>?_,λF hF m g e=>?_⟩
 ·by_cases c:(0:Int)=t
  ·subst c
   rw[xf,W.z]
   exact congrArg some Jl
  ·rw[jm c];exact W.z
 ·by_cases c:m=t
  ·subst c;exact⟨h0,h1⟩
  ·rw[jm c] at e;exact W.dom m g e
 ·by_cases c:m=t
  ·subst c;exact .inl (by simp)
  ·rw[jm c] at e
   rcases W.cl m g e with z|z|z
   ·exact .inl (List.mem_append_left _ z)
   ·exact .inr (.inl z)
   ·refine .inr (.inr λu hu=>?_)
    obtain⟨k,hk,hl⟩:=z u hu
    by_cases d:u=t
    ·subst d
     exact⟨_,xf,(low k hk).trans hl⟩
    ·exact⟨k,by rw[jm d];exact hk,hl⟩
 ·by_cases c:m=t
  ·subst c;exact⟨_,xf⟩
  ·rw[jm c]
   rcases List.mem_append.mp hm with z|z
   ·exact W.td m z
   ·exact absurd (List.mem_singleton.mp z) c
 ·by_cases c:m=t
  ·subst c
   rw[xf] at e
   cases e
   obtain⟨f,hf,hl⟩:=hb F hF
   obtain⟨f',hf',hl'⟩:=hF.cl n f hf m ht
   refine⟨f',hf',?_⟩
   have l1:leH f' (E n h):=hl'.trans (mono n _ _ hl)
   cases o:B m with
   |none=>exact l1
   |some k=>
    obtain⟨f2,hf2,hl2⟩:=W.best F hF m k o
    rw[hf'] at hf2
    cases hf2
    exact VO hl2 l1
  ·rw[jm c] at e;exact W.best F hF m g e
theorem WL.done (W:WL N ws E B todo (λm=>m=n))(hn:n∈todo\/(B n=some h/\Cl B (ws n) (E n h))):WL N ws E B todo (λ_=>False):=by
 refine⟨W.z,W.dom,λm g e=>?_,W.td,W.best⟩
 rcases W.cl m g e with c|c|c
 ·exact .inl c
 ·subst c
  rcases hn with c|⟨c,d⟩
  ·exact .inl c
  ·rw[c] at e
   cases e
   exact .inr (.inr d)
 ·exact .inr (.inr c)
theorem WL.flow (W:WL N ws E B [] (λ_=>False)):Flow ws E B:=⟨W.z,λn h e=>by
 rcases W.cl n h e with c|c|c
 ·cases c
 ·cases c
 ·exact c⟩
end
structure q0b (N:Int)(ws:Int->List Int)(E:Int->HSto->HSto)(B:Bg):Prop where
 flow:Flow ws E B
 dom:∀ n h,B n=some h->0<=n/\n<N
 best:∀ F,Flow ws E F->∀ n h,B n=some h->∃ f,F n=some f/\leH f h
theorem q0b.eq {N:Int}{ws:Int->List Int}{E:Int->HSto->HSto}{A:Bg}(a:q0b N ws E A)(b:q0b N ws E B):A=B:=by
 funext n
 cases ha:A n with
 |none=>
  cases hb:B n with
  |none=>rfl
  |some h=>
   obtain⟨f,hf,_⟩:=b.best A a.flow n h hb
   rw[ha] at hf;cases hf
 |some h=>
  obtain⟨f,hf,hl⟩:=a.best B b.flow n h ha
  obtain⟨f',hf',hl'⟩:=b.best A a.flow n f hf
  rw[ha] at hf'
  cases hf'
  rw[hf,leH.anti hl' hl]
def card (h:HSto):Nat:=(List.range 60).countP λi=>(h (i:Nat)).isSome
theorem Jc (h:HSto):card h<=60:=by
 have:=List.countP_le_length (p:=λi:Nat=>(h (i:Nat)).isSome) (l:=List.range 60)
 rw[List.length_range] at this
 exact this
theorem Z8 {α:Type}{p q:α->Bool}:∀ {l:List α},(∀ x∈l,p x=true->q x=true)->(∃ x∈l,p x=false/\q x=true)->l.countP p<l.countP q
 |[],_,⟨x,hx,_⟩=>by cases hx
 |a::l,hpq,⟨x,hx,h1,h2⟩=>by
  rw[List.countP_cons,List.countP_cons]
  have mono:l.countP p<=l.countP q:=List.countP_mono_left λy hy=>hpq y (List.mem_cons_of_mem _ hy)
  rcases List.mem_cons.mp hx with e|hx
  ·subst e
   rw[h1,h2]
   simp only[Bool.false_eq_true,if_false,if_true]
   omega
  ·have ih:=Z8 (λy hy=>hpq y (List.mem_cons_of_mem _ hy)) ⟨x,hx,h1,h2⟩
   have:=hpq a (by simp)
   cases hp:p a with
   |false=>cases q a <;> simp <;> omega
   |true=>rw[this hp];simp;omega
theorem Ka (h:leH a b)(ne:¬ a=b)(dom:∀ p n,b p=some n->0<=p/\p<60):card a<card b:=by
 have:∃ p,¬ a p=b p:=Classical.byContradiction λc=>ne (funext λp=>Classical.byContradiction λz=>c ⟨p,z⟩)
 obtain⟨p,hp⟩:=this
 cases hb:b p with
 |none=>
  cases ha:a p with
  |none=>exact absurd (ha.trans hb.symm) hp
  |some n=>rw[h p n ha] at hb;cases hb
 |some n=>
  have ha:a p=none:=by
   cases ha:a p with
   |none=>rfl
   |some m=>exact absurd (by rw[ha,<- h p m ha]) hp
  obtain⟨h0,h1⟩:=dom p n hb
  have e:((p.toNat:Nat):Int)=p:=Int.toNat_of_nonneg h0
  refine Z8 (λi _ hi=>?_) ⟨p.toNat,List.mem_range.mpr (by omega),?_,?_⟩
  ·obtain⟨m,hm⟩:=Option.isSome_iff_exists.mp hi
   rw[h _ _ hm];rfl
  ·show(a ((p.toNat:Nat):Int)).isSome=false
   rw[e,ha];rfl
  ·show(b ((p.toNat:Nat):Int)).isSome=true
   rw[e,hb];rfl
def wtO:Option HSto->Nat
 |none=>61
 |some h=>card h
def wt (n:Nat)(B:Bg):Nat:=((List.range n).map λ(i:Nat)=>wtO (B (i:Nat))).sum
theorem VM {B:Bg}{t:Int}{h:HSto}:∀ {n:Nat},0<=t->t<n->wtO (some h)<wtO (B t)->wt n (Qo B t h)<wt n B
 |0,h0,h1,_=>by omega
 |n+1,h0,h1,hl=>by
  unfold wt
  rw[List.range_succ,List.map_append,List.map_append,List.sum_append,List.sum_append]
  simp only[List.map_cons,List.map_nil,List.sum_cons,List.sum_nil,Nat.add_zero]
  by_cases e:((n:Nat):Int)=t
  ·have same:((List.range n).map λ(i:Nat)=>wtO (Qo B t h (i:Nat)))=(List.range n).map λ(i:Nat)=>wtO (B (i:Nat)):=List.map_congr_left λi hi=>by
    have:=List.mem_range.mp hi
    rw[jm (by omega)]
   rw[same,e,xf]
   omega
  ·have ih:wt n (Qo B t h)<wt n B:=VM h0 (by omega) hl
   unfold wt at ih
   rw[jm e]
   omega
theorem YE (B:Bg):∀ n:Nat,wt n B<=61*n
 |0=>Nat.le_refl _
 |n+1=>by
  have ih:=YE B n
  unfold wt at ih ⊢
  rw[List.range_succ,List.map_append,List.sum_append]
  simp only[List.map_cons,List.map_nil,List.sum_cons,List.sum_nil,Nat.add_zero]
  have:wtO (B (n:Nat))<=61:=by
   cases B (n:Nat) with
   |none=>exact Nat.le_refl _
   |some h=>exact Nat.le_succ_of_le (Jc h)
  omega
theorem vm {α:Type}[DecidableEq α]:∀ {l m:List α},l.Nodup->(∀ a∈l,a∈m)->l.length<=m.length
 |[],m,_,_=>Nat.zero_le _
 |x::l,m,nd,hs=>by
  obtain⟨h1,h2⟩:=List.nodup_cons.mp nd
  have hx:x∈m:=hs x List.mem_cons_self
  have:=vm (l:=l) (m:=m.erase x) h2 λb hb=>(List.mem_erase_of_ne λz=>h1 (by rw[<-z];exact hb)).mpr (hs b (List.mem_cons_of_mem _ hb))
  rw[List.length_erase_of_mem hx] at this
  have:=List.length_pos_of_mem hx
  simp only[List.length_cons]
  omega
theorem Z1 {kb:List (Key×V)}:∀ {ka:List (Key×V)},Xr kb ka=true->∀ p∈ka,∃ y,jG kb p.1=some y/\eqV p.2 y=true
 |[],_,p,hp=>by cases hp
 |(k,v)::r,h,p,hp=>by
  unfold Xr at h
  cases e:jG kb k with
  |none=>rw[e] at h;cases h
  |some y=>
   rw[e] at h
   simp only[Bool.and_eq_true] at h
   rcases List.mem_cons.mp hp with rfl|hp
   ·exact⟨y,e,h.1⟩
   ·exact Z1 h.2 p hp
theorem JS {kb:List (Key×V)}:∀ {ka:List (Key×V)},(∀ p∈ka,∃ y,jG kb p.1=some y/\eqV p.2 y=true)->Xr kb ka=true
 |[],_=>rfl
 |(k,v)::r,h=>by
  obtain⟨y,h1,h2⟩:=h (k,v) (by simp)
  unfold Xr
  dsimp only at h1 h2
  rw[h1]
  show(eqV v y && Xr kb r)=true
  rw[h2,JS λp hp=>h p (List.mem_cons_of_mem _ hp)]
  rfl
theorem xu.mem (r:xu kvs h){p:Key×V}(hp:p∈kvs):∃ k n:Int,p=(Sum.inl k,.int n)/\h k=some n:=by
 obtain⟨i,hi,e⟩:=List.mem_iff_getElem.mp hp
 obtain⟨k,n,h1,h2,h3,_⟩:=r.at (i:=i) (k:=p.1) (v:=p.2) (by rw[List.getElem?_eq_getElem hi,e])
 exact⟨k,n,by cases p;dsimp only at h1 h2;rw[h1,h2],h3⟩
theorem xu.eqv {ka kb:List (Key×V)}(ra:xu ka a)(rb:xu kb b):(decide (ka.length=kb.length) && Xr kb ka)=true ↔ a=b:=by
 rw[Bool.and_eq_true]
 refine⟨λ⟨hl,h⟩=>?_,λe=>?_⟩
 ·have hl:=of_decide_eq_true hl
  have m:=Z1 h
  have back:∀ x∈kb.map (·.1),x∈ka.map (·.1):=Q4 ra.nd (λx hx=>by
   obtain⟨p,hp,e⟩:=List.mem_map.mp hx
   obtain⟨y,hy,_⟩:=m p hp
   subst e
   exact wX hy) (by simp[hl])
  refine leH.anti (λp n e=>?_) (λp n e=>?_)
  ·have h1:jG ka (Sum.inl p:Key)=some (.int n):=by rw[ra.val p,e];rfl
   obtain⟨y,hy,hy2⟩:=m _ (kM h1)
   dsimp only at hy hy2
   rw[rb.val p] at hy
   cases eb:b p with
   |none=>rw[eb] at hy;cases hy
   |some k=>
    rw[eb] at hy
    cases hy
    simp only[eqV,beq_iff_eq] at hy2
    rw[hy2]
  ·have h1:jG kb (Sum.inl p:Key)=some (.int n):=by rw[rb.val p,e];rfl
   obtain⟨q,hq,eq⟩:=List.mem_map.mp (back _ (wX h1))
   obtain⟨k,x,rfl,hx⟩:=ra.mem hq
   cases eq
   obtain⟨y,hy,hy2⟩:=m _ hq
   dsimp only at hy hy2
   rw[h1] at hy
   cases hy
   simp only[eqV,beq_iff_eq] at hy2
   rw[hx,hy2]
 ·subst e
  have sub:∀ {k1 k2:List (Key×V)},xu k1 a->xu k2 a->∀ x∈k1.map (·.1),x∈k2.map (·.1):=λr1 r2 x hx=>by
   obtain⟨p,hp,e⟩:=List.mem_map.mp hx
   obtain⟨k,n,rfl,hn⟩:=r1.mem hp
   subst e
   exact wX (v:=.int n) (by rw[r2.val k,hn];rfl)
  have le:∀ {k1 k2:List (Key×V)},xu k1 a->xu k2 a->k1.length<=k2.length:=λr1 r2=>by
   have:=vm r1.nd (sub r1 r2)
   simpa using this
  refine⟨decide_eq_true (Nat.le_antisymm (le ra rb) (le rb ra)),JS λp hp=>?_⟩
  obtain⟨k,n,rfl,hn⟩:=ra.mem hp
  exact⟨.int n,by rw[rb.val k,hn];rfl,by simp[eqV]⟩
structure BK (H0 H:Hp)(kvs:List (Key×V))(B:Bg):Prop where
 non:∀ k:Int,B k=none->jG kvs (Sum.inl k:Key)=none
 val:∀ (k:Int) h,B k=some h->∃ d,jG kvs (Sum.inl k:Key)=some (.ref d)/\HD H d h/\H0 d=none
 key:∀ p∈kvs,∃ k:Int,p.1=Sum.inl k/\0<=k/\k<60
 nd:(kvs.map (·.1)).Nodup
theorem BK.mono (b:BK H0 H kvs B)(m:∀ e g,HD H e g->HD H' e g):BK H0 H' kvs B:=
 ⟨b.non,λk h e=>let ⟨d,h1,h2,h3⟩:=b.val k h e;⟨d,h1,m _ _ h2,h3⟩,b.key,b.nd⟩
theorem BK.put {d:Addr}(b:BK H0 H kvs B)(t0:0<=t)(t1:t<60)(hd:HD H d h)(kd:H0 d=none):BK H0 H (xT kvs (Sum.inl t) (.ref d)) (Qo B t h):=by
 refine⟨λk e=>?_,λk g e=>?_,λp hp=>?_,?_⟩
 ·by_cases c:k=t
  ·subst c;rw[xf] at e;cases e
  ·rw[jm c] at e
   rw[xk,if_neg λz=>c (Sum.inl.inj z)]
   exact b.non k e
 ·by_cases c:k=t
  ·subst c
   rw[xf] at e
   cases e
   exact⟨d,by rw[xk,if_pos rfl],hd,kd⟩
  ·rw[jm c] at e
   obtain⟨d',h1,h2⟩:=b.val k g e
   exact⟨d',by rw[xk,if_neg λz=>c (Sum.inl.inj z)];exact h1,h2⟩
 ·rcases vw hp with h|h
  ·exact b.key p h
  ·subst h;exact⟨t,rfl,t0,t1⟩
 ·cases e:jG kvs (Sum.inl t:Key) with
  |none=>exact QQ _ b.nd e
  |some u=>rw[jS e];exact b.nd
theorem BK.len (b:BK H0 H kvs B):kvs.length<=60:=by
 have r:Rep (kvs.map λp=>(p.1,V.non)) (λ_=>none):=⟨λk=>by
  cases e:jG (kvs.map λp=>(p.1,V.non)) (Sum.inl k:Key) with
  |none=>rfl
  |some v=>
   obtain⟨p,hp,e2⟩:=List.mem_map.mp (kM e)
   have e3:V.non=v:=congrArg Prod.snd e2
   subst e3
   rfl,λp hp=>by
  obtain⟨q,hq,rfl⟩:=List.mem_map.mp hp
  exact b.key q hq,λp hp=>by
  obtain⟨q,hq,rfl⟩:=List.mem_map.mp hp
  exact .inl rfl,by rw[List.map_map];exact b.nd⟩
 have:=r.len
 simpa using this
theorem HD.neB {pb:Addr}{k:Key}{d:Addr}(h:HD H e g)(hb:H pb=some (.dK kvs))(hk:jG kvs k=some (.ref d)):e≠pb:=λz=>by
 subst z
 obtain⟨k',a,r⟩:=h
 have:=Rd.inj a (.inl hb)
 subst this
 obtain⟨x,hx⟩:=r.full _ (kM hk)
 cases hx
theorem HD.neL {l:Addr}{xs:List V}(h:HD H e g)(hl:H l=some (.lst xs)):e≠l:=λz=>by
 subst z
 obtain⟨k',a|⟨o,a⟩,r⟩:=h <;> rw[a] at hl <;> cases hl
theorem HD.ne (h:HD H e g)(s:H' e=H e):HD H' e g:=by
 obtain⟨k',a|⟨o,a⟩,r⟩:=h
 ·exact⟨k',.inl (s.trans a),r⟩
 ·exact⟨k',.inr ⟨o,s.trans a⟩,r⟩
theorem HD.dom (h:HD H e g)(x:g p=some n):0<=p/\p<60:=let ⟨_,_,r⟩:=h;r.dom x
def kL (K:PySem.W.Frag)(H:Hp)(v:V)(pss:List (List RP)):Prop:=∃ l xs,v=.ref l/\H l=some (.lst xs)/\z5 (v8 K H) xs pss
theorem kL.same {K:PySem.W.Frag}{v:V}{x:List (List RP)}(h:kL K H v x)(s:qq H H'):kL K H' v x:=let ⟨l,xs,e,q,a⟩:=h;⟨l,xs,e,s _ _ q,a.imp λ_ _ z=>z.same s⟩
def Js (bs:List Blk)(n:Int):List Int:=(bs.getD n.toNat ⟨[],.fin⟩).en.ways
def EOf (pss:List (List RP))(n:Int)(h:HSto):HSto:=zS (pss.getD n.toNat []) h
end Rp
namespace L2
open PySem PySem.Spec PyProof.Rows
end L2
namespace Rp
open PySem L2
end Rp
namespace Rp
open PySem PySem.Spec PyProof.Rows
open L2 hiding PE PT PW PA PS PSs PC PG PGs PI PO PPs ZW PF PFs vz
variable {k i m:Nat}{a:Ad}{x v:V}{xs ys:List V}{n pn:Int}{e h g:HSto}{d:zQ}{H H' H0 G:Hp}{p l pb td t:Addr}{o:HO}{b:Blk}{K:PySem.W.Frag}{Q:VK}{bs:List Blk}{kvs:List (Key×V)}{B:Bg}{r:Row}{ps:List NP}{u:Option V}{α:Type}
theorem vz {X:Cx}{a b:Expr}{ta:TA}{p p2 pos pos2:Pos}(hc:X.calm=true)(hg:Gl X "zip")(hm:X.mg "zip"=none)(hgl:Gl X "list")(hml:X.mg "list"=none)(ha:PA X [a,b] ta)
  (hs:starEach [a,b] X.env=[(false,eval a X.env),(false,eval b X.env)]:=by rfl) (hs2:starEach [b] X.env=[(false,eval b X.env)]:=by rfl)
  (hs3:starEach [.Call (.Name "zip" p2) [a,b] [] pos2] X.env=[(false,eval (.Call (.Name "zip" p2) [a,b] [] pos2) X.env)]:=by rfl):
  PE X (.Call (.Name "list" p) [.Call (.Name "zip" p2) [a,b] [] pos2] [] pos) (Ql X.K ta):=by with_unfolding_all exact L2.vz hc hg hm hgl hml ha hs hs2 hs3
theorem V8 {A:Around}(hr:vR k A):A.units+65<cLine:=by have:=hr.un;omega
def top (i:Nat):Stmt:=PySem.Challenge.pw_regpress_k11_looker.main.body.getD i (.Pass ⟨0,0,0,0⟩)
abbrev jJ:Stmt:=top 13
theorem Xd:qE ["deed"] ["deed"] (q8 jJ):=⟨rfl,rfl,rfl,by decide +kernel,rfl,by decide +kernel,by decide +kernel⟩
abbrev jL:Stmt:=top 14
theorem XS:qE ["block"] ["block"] (q8 jL):=⟨rfl,rfl,rfl,by decide +kernel,rfl,by decide +kernel,by decide +kernel⟩
abbrev je:Stmt:=top 15
theorem Ja:qE ["row"] ["row"] (q8 je):=⟨rfl,rfl,rfl,by decide +kernel,rfl,by decide +kernel,by decide +kernel⟩
abbrev jy:Stmt:=top 16
theorem Xn:qE ["row"] ["row"] (q8 jy):=⟨rfl,rfl,rfl,by decide +kernel,rfl,by decide +kernel,by decide +kernel⟩
abbrev qV:Stmt:=top 17
theorem xP:qE ["row","spots"] ["row"] (q8 qV):=⟨rfl,rfl,rfl,by decide +kernel,rfl,by decide +kernel,by decide +kernel⟩
abbrev jz:Stmt:=top 18
theorem XI:qE ["end"] ["end"] (q8 jz):=⟨rfl,rfl,rfl,by decide +kernel,rfl,by decide +kernel,by decide +kernel⟩
abbrev zq:Stmt:=top 19
theorem xp:qE ["blocks","most_deeds","number","block"] ["blocks","most_deeds"] (q8 zq):=⟨rfl,rfl,rfl,by decide +kernel,rfl,by decide +kernel,by decide +kernel⟩
abbrev zM:Stmt:=top 20
theorem x2:qE ["blocks","names","number","block","deed"] ["blocks","names"] (q8 zM):=⟨rfl,rfl,rfl,by decide +kernel,rfl,by decide +kernel,by decide +kernel⟩
abbrev zJ:Stmt:=top 21
theorem Qa:qE ["deed","names","number"] ["deed","names","number"] (q8 zJ):=⟨rfl,rfl,rfl,by decide +kernel,rfl,by decide +kernel,by decide +kernel⟩
abbrev j3:Stmt:=top 22
theorem wq:qE ["end","names","block_count","number","block"] ["end","names","block_count","number"] (q8 j3):=⟨rfl,rfl,rfl,by decide +kernel,rfl,by decide +kernel,by decide +kernel⟩
abbrev zr:Stmt:=top 23
theorem vN:qE ["row","names","number","name"] ["row","names","number"] (q8 zr):=⟨rfl,rfl,rfl,by decide +kernel,rfl,by decide +kernel,by decide +kernel⟩
abbrev zE:Stmt:=top 29
theorem QH:qE ["pans"] ["pans"] (q8 zE):=⟨rfl,rfl,rfl,by decide +kernel,rfl,by decide +kernel,by decide +kernel⟩
abbrev zO:Stmt:=top 30
theorem x4:qE ["code","pans","number","block","move"] ["code","pans"] (q8 zO):=⟨rfl,rfl,rfl,by decide +kernel,rfl,by decide +kernel,by decide +kernel⟩
abbrev zI:Stmt:=top 31
theorem kP:qE ["move","pans","number","place"] ["move","pans","number"] (q8 zI):=⟨rfl,rfl,rfl,by decide +kernel,rfl,by decide +kernel,by decide +kernel⟩
abbrev jc:Stmt:=top 32
theorem J4:qE ["block"] ["block"] (q8 jc):=⟨rfl,rfl,rfl,by decide +kernel,rfl,by decide +kernel,by decide +kernel⟩
abbrev qW:Stmt:=top 33
theorem jY:qE ["code","bare","block"] ["code"] (q8 qW):=⟨rfl,rfl,rfl,by decide +kernel,rfl,by decide +kernel,by decide +kernel⟩
abbrev z8:Stmt:=top 37
theorem wC:qE ["blocks"] ["blocks"] (q8 z8):=⟨rfl,rfl,rfl,by decide +kernel,rfl,by decide +kernel,by decide +kernel⟩
abbrev x3:Stmt:=top 39
theorem VP:qE ["blocks","code","pans"] ["blocks","code","pans"] (q8 x3):=⟨rfl,rfl,rfl,by decide +kernel,rfl,by decide +kernel,by decide +kernel⟩
abbrev zy:Stmt:=top 40
theorem Zr:qE ["blocks","code"] ["blocks","code"] (q8 zy):=⟨rfl,rfl,rfl,by decide +kernel,rfl,by decide +kernel,by decide +kernel⟩
abbrev jd:Stmt:=top 41
theorem J9:qE ["block"] ["block"] (q8 jd):=⟨rfl,rfl,rfl,by decide +kernel,rfl,by decide +kernel,by decide +kernel⟩
abbrev qG:Stmt:=top 42
theorem jk:qE ["blocks","code","pairs","beginnings"] ["blocks","code"] (q8 qG):=⟨rfl,rfl,rfl,by decide +kernel,rfl,by decide +kernel,by decide +kernel⟩
abbrev zh:Stmt:=top 43
theorem zW:qE ["block","code_block","rows","pairs","at","code_row"] ["block","code_block"] (q8 zh):=⟨rfl,rfl,rfl,by decide +kernel,rfl,by decide +kernel,by decide +kernel⟩
abbrev qJ:Stmt:=top 44
theorem qK:qE ["blocks","pairs","beginnings","to_do","number","held","block","before","now"] ["blocks","pairs"] (q8 qJ):=⟨rfl,rfl,rfl,by decide +kernel,rfl,by decide +kernel,by decide +kernel⟩
abbrev zi:Stmt:=top 45
theorem jK:qE ["first","second","both","place","name"] ["first","second"] (q8 zi):=⟨rfl,rfl,rfl,by decide +kernel,rfl,by decide +kernel,by decide +kernel⟩
abbrev zt:Stmt:=top 46
theorem jR:qE ["pairs","beginning","held","row","code_row"] ["pairs","beginning"] (q8 zt):=⟨rfl,rfl,rfl,by decide +kernel,rfl,by decide +kernel,by decide +kernel⟩
abbrev qA:Stmt:=top 47
theorem zd:qE ["pairs","beginning","held","row","code_row"] ["pairs","beginning"] (q8 qA):=⟨rfl,rfl,rfl,by decide +kernel,rfl,by decide +kernel,by decide +kernel⟩
abbrev qT:Stmt:=top 48
theorem wc:qE ["row","code_row","held"] ["row","code_row","held"] (q8 qT):=⟨rfl,rfl,rfl,by decide +kernel,rfl,by decide +kernel,by decide +kernel⟩
abbrev j1:Stmt:=top 49
theorem v9:qE ["row","code_row","held","name","place"] ["row","code_row","held"] (q8 j1):=⟨rfl,rfl,rfl,by decide +kernel,rfl,by decide +kernel,by decide +kernel⟩
abbrev j7:Stmt:=top 50
theorem Z6:qE ["place","source","held"] ["place","source","held"] (q8 j7):=⟨rfl,rfl,rfl,by decide +kernel,rfl,by decide +kernel,by decide +kernel⟩
abbrev zC:Stmt:=top 51
theorem kC:qE ["name","place","held","other"] ["name","place","held"] (q8 zC):=⟨rfl,rfl,rfl,by decide +kernel,rfl,by decide +kernel,by decide +kernel⟩
abbrev j6:Stmt:=top 53
theorem ZK:qE ["_law_script","_law_k"] ["_law_script","_law_k"] (q8 j6):=⟨rfl,rfl,rfl,by decide +kernel,rfl,by decide +kernel,by decide +kernel⟩
abbrev ju:Stmt:=top 54
theorem vV:qE ["_law_script","_law_k","_law_number"] ["_law_script","_law_k"] (q8 ju):=⟨rfl,rfl,rfl,by decide +kernel,rfl,by decide +kernel,by decide +kernel⟩
abbrev j8:Stmt:=top 55
theorem jW:qE ["_law_script","_law_k","_law_names","_law_number","_law_v","_law_a","_law_b"] ["_law_script","_law_k","_law_names"] (q8 j8):=⟨rfl,rfl,rfl,by decide +kernel,rfl,by decide +kernel,by decide +kernel⟩
abbrev jr:Stmt:=top 56
theorem y9:qE ["_law_script","_law_k","_law_blocks","_law_names","_law_number"] ["_law_script","_law_k","_law_blocks","_law_names"] (q8 jr):=⟨rfl,rfl,rfl,by decide +kernel,rfl,by decide +kernel,by decide +kernel⟩
abbrev qS:Stmt:=top 57
theorem z9:qE ["_law_script","_law_names","_law_blocks","_law_found","_law_at","_law_deeds","_law_kinds","_law_first"] ["_law_script"] (q8 qS):=⟨rfl,rfl,rfl,by decide +kernel,rfl,by decide +kernel,by decide +kernel⟩
abbrev zK:Stmt:=top 58
theorem z0:qE ["_law_blocks","_law_pans","_law_found","_law_deeds","_law_end_here","_law_new","_law_deed_here"] ["_law_blocks","_law_pans"] (q8 zK):=⟨rfl,rfl,rfl,by decide +kernel,rfl,by decide +kernel,by decide +kernel⟩
abbrev qM:Stmt:=top 59
theorem qF:qE ["_law_script","_law_k","_law_code","_law_pans","_law_number","_law_at","_law_deeds","_law_end_here","_law_spot","_law_place","_law_pan","_law_way","_law_deed_here","_law_j"] ["_law_script","_law_k","_law_code","_law_pans"] (q8 qM):=⟨rfl,rfl,rfl,by decide +kernel,rfl,by decide +kernel,by decide +kernel⟩
abbrev zN:Stmt:=top 61
theorem js:qE ["_law_blocks","_law_found","_law_deeds","_law_end_here","_law_row","_law_deed_here"] ["_law_blocks"] (q8 zN):=⟨rfl,rfl,rfl,by decide +kernel,rfl,by decide +kernel,by decide +kernel⟩
abbrev zL:Stmt:=top 62
theorem Q5:qE ["_law_deed_here"] ["_law_deed_here"] (q8 zL):=⟨rfl,rfl,rfl,by decide +kernel,rfl,by decide +kernel,by decide +kernel⟩
abbrev z6:Stmt:=top 63
theorem za:qE ["_law_sure","_law_deeds","_law_code","_law_rest","_law_good","_law_deed_here","_law_held","_law_own","_law_pairs","_law_spot"] ["_law_sure","_law_deeds","_law_code"] (q8 z6):=⟨rfl,rfl,rfl,by decide +kernel,rfl,by decide +kernel,by decide +kernel⟩
abbrev zZ:Stmt:=top 64
theorem zg:qE ["_law_blocks","_law_code","_law_every","_law_name","_law_states","_law_left","_law_at","_law_sure","_law_good","_law_end_here","_law_goals","_law_way","_law_old","_law_new"] ["_law_blocks","_law_code"] (q8 zZ):=⟨rfl,rfl,rfl,by decide +kernel,rfl,by decide +kernel,by decide +kernel⟩
abbrev zx:Stmt:=top 65
theorem jU:qE ["_law_blocks","_law_code","_law_pans","_law_kept","_law_found","e","_law_kinds"] ["_law_blocks","_law_code","_law_pans"] (q8 zx):=⟨rfl,rfl,rfl,by decide +kernel,rfl,by decide +kernel,by decide +kernel⟩
abbrev zB:Stmt:=top 66
theorem Qc:qE ["_law_end_here","_law_many"] ["_law_end_here","_law_many"] (q8 zB):=⟨rfl,rfl,rfl,by decide +kernel,rfl,by decide +kernel,by decide +kernel⟩
abbrev xI:Stmt:=top 67
theorem wx:qE ["_law_script","_law_blocks","_law_pans","_law_code","_law_k","_law_way"] ["_law_script"] (q8 xI):=⟨rfl,rfl,rfl,by decide +kernel,rfl,by decide +kernel,by decide +kernel⟩
set_option genInjectivity false
set_option genSizeOf false
structure Ad where
 is_move:Addr
 fd_is_move:FuncData
 rows_of:Addr
 fd_rows_of:FuncData
 given_in:Addr
 fd_given_in:FuncData
 read_in:Addr
 fd_read_in:FuncData
 without_names:Addr
 fd_without_names:FuncData
 ways_on:Addr
 fd_ways_on:FuncData
 check_sizes:Addr
 fd_check_sizes:FuncData
 check_rows:Addr
 fd_check_rows:FuncData
 check_deed:Addr
 fd_check_deed:FuncData
 check_end:Addr
 fd_check_end:FuncData
 check_names:Addr
 fd_check_names:FuncData
 check_pans:Addr
 fd_check_pans:FuncData
 check_code:Addr
 fd_check_code:FuncData
 check_move:Addr
 fd_check_move:FuncData
 moves_in:Addr
 fd_moves_in:FuncData
 without_moves:Addr
 fd_without_moves:FuncData
 check_program:Addr
 fd_check_program:FuncData
 passes:Addr
 fd_passes:FuncData
 has_shape:Addr
 fd_has_shape:FuncData
 shape_of:Addr
 fd_shape_of:FuncData
 reads_what_is_held:Addr
 fd_reads_what_is_held:FuncData
 side_by_side:Addr
 fd_side_by_side:FuncData
 held_at_beginnings:Addr
 fd_held_at_beginnings:FuncData
 held_in_both:Addr
 fd_held_in_both:FuncData
 held_at_end:Addr
 fd_held_at_end:FuncData
 reads_of_block_are_held:Addr
 fd_reads_of_block_are_held:FuncData
 reads_are_held:Addr
 fd_reads_are_held:FuncData
 take_note:Addr
 fd_take_note:FuncData
 note_move:Addr
 fd_note_move:FuncData
 note_given:Addr
 fd_note_given:FuncData
 _law_cell:Addr
 fd__law_cell:FuncData
 _law_mix:Addr
 fd__law_mix:FuncData
 _law_deed:Addr
 fd__law_deed:FuncData
 _law_end:Addr
 fd__law_end:FuncData
 _law_program:Addr
 fd__law_program:FuncData
 _law_homes:Addr
 fd__law_homes:FuncData
 _law_changed:Addr
 fd__law_changed:FuncData
 _law_shape:Addr
 fd__law_shape:FuncData
 _law_reads:Addr
 fd__law_reads:FuncData
 _law_walk:Addr
 fd__law_walk:FuncData
 _law_due:Addr
 fd__law_due:FuncData
 _law_told:Addr
 fd__law_told:FuncData
 _law_other:Addr
 fd__law_other:FuncData
 law:Addr
 fd_law:FuncData
 PressError:Addr
 BadProgram:Addr
 BadPans:Addr
 Stuck:Addr
 WORDS:Addr
 DEED_SIZES:Addr
 END_SIZES:Addr
 GIVEN_SPOTS:Addr
 READ_SPOTS:Addr
 BLOCK_SPOTS:Addr
 gs_set:Addr
 gs_input:Addr
 gs_op:Addr
 gs_tell:Addr
 gs_go:Addr
 gs_if:Addr
 gs_end:Addr
 rs_set:Addr
 rs_input:Addr
 rs_op:Addr
 rs_tell:Addr
 rs_go:Addr
 rs_if:Addr
 rs_end:Addr
 bs_go:Addr
 bs_if:Addr
 bs_end:Addr
structure Tx (K:PySem.W.Frag)(w:World)(mg:Str->Option Value)(a:Ad):Prop where
 F_is_move:FnT K mg "is_move" jJ a.is_move a.fd_is_move ["deed"]
 F_rows_of:FnT K mg "rows_of" jL a.rows_of a.fd_rows_of ["block"]
 F_given_in:FnT K mg "given_in" je a.given_in a.fd_given_in ["row"]
 F_read_in:FnT K mg "read_in" jy a.read_in a.fd_read_in ["row"]
 F_without_names:FnT K mg "without_names" qV a.without_names a.fd_without_names ["row"]
 F_ways_on:FnT K mg "ways_on" jz a.ways_on a.fd_ways_on ["end"]
 F_check_sizes:FnT K mg "check_sizes" zq a.check_sizes a.fd_check_sizes ["blocks","most_deeds"]
 F_check_rows:FnT K mg "check_rows" zM a.check_rows a.fd_check_rows ["blocks","names"]
 F_check_deed:FnT K mg "check_deed" zJ a.check_deed a.fd_check_deed ["deed","names","number"]
 F_check_end:FnT K mg "check_end" j3 a.check_end a.fd_check_end ["end","names","block_count","number"]
 F_check_names:FnT K mg "check_names" zr a.check_names a.fd_check_names ["row","names","number"]
 F_check_pans:FnT K mg "check_pans" zE a.check_pans a.fd_check_pans ["pans"]
 F_check_code:FnT K mg "check_code" zO a.check_code a.fd_check_code ["code","pans"]
 F_check_move:FnT K mg "check_move" zI a.check_move a.fd_check_move ["move","pans","number"]
 F_moves_in:FnT K mg "moves_in" jc a.moves_in a.fd_moves_in ["block"]
 F_without_moves:FnT K mg "without_moves" qW a.without_moves a.fd_without_moves ["code"]
 F_check_program:FnT K mg "check_program" z8 a.check_program a.fd_check_program ["blocks"]
 F_passes:FnT K mg "passes" x3 a.passes a.fd_passes ["blocks","code","pans"]
 F_has_shape:FnT K mg "has_shape" zy a.has_shape a.fd_has_shape ["blocks","code"]
 F_shape_of:FnT K mg "shape_of" jd a.shape_of a.fd_shape_of ["block"]
 F_reads_what_is_held:FnT K mg "reads_what_is_held" qG a.reads_what_is_held a.fd_reads_what_is_held ["blocks","code"]
 F_side_by_side:FnT K mg "side_by_side" zh a.side_by_side a.fd_side_by_side ["block","code_block"]
 F_held_at_beginnings:FnT K mg "held_at_beginnings" qJ a.held_at_beginnings a.fd_held_at_beginnings ["blocks","pairs"]
 F_held_in_both:FnT K mg "held_in_both" zi a.held_in_both a.fd_held_in_both ["first","second"]
 F_held_at_end:FnT K mg "held_at_end" zt a.held_at_end a.fd_held_at_end ["pairs","beginning"]
 F_reads_of_block_are_held:FnT K mg "reads_of_block_are_held" qA a.reads_of_block_are_held a.fd_reads_of_block_are_held ["pairs","beginning"]
 F_reads_are_held:FnT K mg "reads_are_held" qT a.reads_are_held a.fd_reads_are_held ["row","code_row","held"]
 F_take_note:FnT K mg "take_note" j1 a.take_note a.fd_take_note ["row","code_row","held"]
 F_note_move:FnT K mg "note_move" j7 a.note_move a.fd_note_move ["place","source","held"]
 F_note_given:FnT K mg "note_given" zC a.note_given a.fd_note_given ["name","place","held"]
 F__law_cell:FnT K mg "_law_cell" j6 a._law_cell a.fd__law_cell ["_law_script","_law_k"]
 F__law_mix:FnT K mg "_law_mix" ju a._law_mix a.fd__law_mix ["_law_script","_law_k"]
 F__law_deed:FnT K mg "_law_deed" j8 a._law_deed a.fd__law_deed ["_law_script","_law_k","_law_names"]
 F__law_end:FnT K mg "_law_end" jr a._law_end a.fd__law_end ["_law_script","_law_k","_law_blocks","_law_names"]
 F__law_program:FnT K mg "_law_program" qS a._law_program a.fd__law_program ["_law_script"]
 F__law_homes:FnT K mg "_law_homes" zK a._law_homes a.fd__law_homes ["_law_blocks","_law_pans"]
 F__law_changed:FnT K mg "_law_changed" qM a._law_changed a.fd__law_changed ["_law_script","_law_k","_law_code","_law_pans"]
 F__law_shape:FnT K mg "_law_shape" zN a._law_shape a.fd__law_shape ["_law_blocks"]
 F__law_reads:FnT K mg "_law_reads" zL a._law_reads a.fd__law_reads ["_law_deed_here"]
 F__law_walk:FnT K mg "_law_walk" z6 a._law_walk a.fd__law_walk ["_law_sure","_law_deeds","_law_code"]
 F__law_due:FnT K mg "_law_due" zZ a._law_due a.fd__law_due ["_law_blocks","_law_code"]
 F__law_told:FnT K mg "_law_told" zx a._law_told a.fd__law_told ["_law_blocks","_law_code","_law_pans"]
 F__law_other:FnT K mg "_law_other" zB a._law_other a.fd__law_other ["_law_end_here","_law_many"]
 F_law:FnT K mg "law" xI a.law a.fd_law ["_law_script"]
 MOST_BLOCKS:∃ t,mg "MOST_BLOCKS"=some (.int 12 t)
 FEWEST_PANS:∃ t,mg "FEWEST_PANS"=some (.int 2 t)
 MOST_PANS:∃ t,mg "MOST_PANS"=some (.int 16 t)
 MOST_DEEDS_codes:∃ t,mg "MOST_DEEDS_codes"=some (.int 400 t)
 PLACES:∃ t,mg "PLACES"=some (.int 60 t)
 MOST_DEEDS_programs:∃ t,mg "MOST_DEEDS_programs"=some (.int 30 t)
 NAMES:∃ t,mg "NAMES"=some (.int 24 t)
 PressError:mg "PressError"=some (.ref a.PressError)
 BadProgram:mg "BadProgram"=some (.ref a.BadProgram)
 BadPans:mg "BadPans"=some (.ref a.BadPans)
 Stuck:mg "Stuck"=some (.ref a.Stuck)
 WORDS:mg "WORDS"=some (.ref a.WORDS)
 DEED_SIZES:mg "DEED_SIZES"=some (.ref a.DEED_SIZES)
 END_SIZES:mg "END_SIZES"=some (.ref a.END_SIZES)
 GIVEN_SPOTS:mg "GIVEN_SPOTS"=some (.ref a.GIVEN_SPOTS)
 READ_SPOTS:mg "READ_SPOTS"=some (.ref a.READ_SPOTS)
 BLOCK_SPOTS:mg "BLOCK_SPOTS"=some (.ref a.BLOCK_SPOTS)
 wordsT:∀ H,SqT K H a.WORDS [.str "plus",.str "minus",.str "times"]
 kd_DEED_SIZES:wU K w a.DEED_SIZES
 kd_END_SIZES:wU K w a.END_SIZES
 kd_GIVEN_SPOTS:wU K w a.GIVEN_SPOTS
 kd_READ_SPOTS:wU K w a.READ_SPOTS
 kd_BLOCK_SPOTS:wU K w a.BLOCK_SPOTS
 DEED_SIZES_set:kX K a.DEED_SIZES "set" (some (.int 3))
 DEED_SIZES_input:kX K a.DEED_SIZES "input" (some (.int 3))
 DEED_SIZES_op:kX K a.DEED_SIZES "op" (some (.int 5))
 DEED_SIZES_tell:kX K a.DEED_SIZES "tell" (some (.int 2))
 END_SIZES_go:kX K a.END_SIZES "go" (some (.int 2))
 END_SIZES_if:kX K a.END_SIZES "if" (some (.int 4))
 END_SIZES_end:kX K a.END_SIZES "end" (some (.int 1))
 GIVEN_SPOTS_set:kX K a.GIVEN_SPOTS "set" (some (.ref a.gs_set))
 gs_set:∀ H,SqT K H a.gs_set [.int 1]
 GIVEN_SPOTS_input:kX K a.GIVEN_SPOTS "input" (some (.ref a.gs_input))
 gs_input:∀ H,SqT K H a.gs_input [.int 1]
 GIVEN_SPOTS_op:kX K a.GIVEN_SPOTS "op" (some (.ref a.gs_op))
 gs_op:∀ H,SqT K H a.gs_op [.int 2]
 GIVEN_SPOTS_tell:kX K a.GIVEN_SPOTS "tell" (some (.ref a.gs_tell))
 gs_tell:∀ H,SqT K H a.gs_tell []
 GIVEN_SPOTS_go:kX K a.GIVEN_SPOTS "go" (some (.ref a.gs_go))
 gs_go:∀ H,SqT K H a.gs_go []
 GIVEN_SPOTS_if:kX K a.GIVEN_SPOTS "if" (some (.ref a.gs_if))
 gs_if:∀ H,SqT K H a.gs_if []
 GIVEN_SPOTS_end:kX K a.GIVEN_SPOTS "end" (some (.ref a.gs_end))
 gs_end:∀ H,SqT K H a.gs_end []
 READ_SPOTS_set:kX K a.READ_SPOTS "set" (some (.ref a.rs_set))
 rs_set:∀ H,SqT K H a.rs_set []
 READ_SPOTS_input:kX K a.READ_SPOTS "input" (some (.ref a.rs_input))
 rs_input:∀ H,SqT K H a.rs_input []
 READ_SPOTS_op:kX K a.READ_SPOTS "op" (some (.ref a.rs_op))
 rs_op:∀ H,SqT K H a.rs_op [.int 3,.int 4]
 READ_SPOTS_tell:kX K a.READ_SPOTS "tell" (some (.ref a.rs_tell))
 rs_tell:∀ H,SqT K H a.rs_tell [.int 1]
 READ_SPOTS_go:kX K a.READ_SPOTS "go" (some (.ref a.rs_go))
 rs_go:∀ H,SqT K H a.rs_go []
 READ_SPOTS_if:kX K a.READ_SPOTS "if" (some (.ref a.rs_if))
 rs_if:∀ H,SqT K H a.rs_if [.int 1]
 READ_SPOTS_end:kX K a.READ_SPOTS "end" (some (.ref a.rs_end))
 rs_end:∀ H,SqT K H a.rs_end []
 BLOCK_SPOTS_go:kX K a.BLOCK_SPOTS "go" (some (.ref a.bs_go))
 bs_go:∀ H,SqT K H a.bs_go [.int 1]
 BLOCK_SPOTS_if:kX K a.BLOCK_SPOTS "if" (some (.ref a.bs_if))
 bs_if:∀ H,SqT K H a.bs_if [.int 2,.int 3]
 BLOCK_SPOTS_end:kX K a.BLOCK_SPOTS "end" (some (.ref a.bs_end))
 bs_end:∀ H,SqT K H a.bs_end []
 ds_move:kX K a.DEED_SIZES "move" none
 xBad:YY K mg "BadProgram" a.BadProgram
 eBad:KC K a.BadProgram
 xPans:YY K mg "BadPans" a.BadPans
 ePans:KC K a.BadPans
 xStuck:YY K mg "Stuck" a.Stuck
 eStuck:KC K a.Stuck
 exBad:PySem.W.exmOne K (.ref a.BadProgram) (.ref a.PressError)=some true
 exPans:PySem.W.exmOne K (.ref a.BadPans) (.ref a.PressError)=some true
 exStuck:PySem.W.exmOne K (.ref a.Stuck) (.ref a.PressError)=some true
 iInt:PySem.W.kitOne K (.type "int") (.type "int")=some true
 iIntB:PySem.W.kitOne K (.type "int") (.type "bool")=some false
 iBoolB:PySem.W.kitOne K (.type "bool") (.type "bool")=some true
 iBad1:PySem.W.kitOne K (.ref a.BadProgram) (.ref a.BadProgram)=some true
 iBad2:PySem.W.kitOne K (.ref a.BadProgram) (.ref a.BadPans)=some false
 iBad3:PySem.W.kitOne K (.ref a.BadProgram) (.ref a.Stuck)=some false
 iPan1:PySem.W.kitOne K (.ref a.BadPans) (.ref a.BadProgram)=some false
 iPan2:PySem.W.kitOne K (.ref a.BadPans) (.ref a.BadPans)=some true
 iPan3:PySem.W.kitOne K (.ref a.BadPans) (.ref a.Stuck)=some false
 len:mg "len"=none
 range:mg "range"=none
 enumerate:mg "enumerate"=none
 isinstance:mg "isinstance"=none
 int:mg "int"=none
 list:mg "list"=none
 dict:mg "dict"=none
 tuple:mg "tuple"=none
 bool:mg "bool"=none
 all:mg "all"=none
 zip:mg "zip"=none
set_option genInjectivity true
set_option genSizeOf true
local macro_rules | `(tactic| walk_at "rd") => do
 let g (s : String) : Array Lean.Ident := (s.splitOn " ").toArray.map fun x => Lean.mkIdent x.toName
 let a := g "tSeq Yd tRet tRetN Wz xH tIfS tOp tUn J3 vG tC yE WI tTup tLst tCB KM q0a tOr tNot L2.tB YH rI0 rI rU rEq rNe W6 jH Y3 QF YC eqD_ii JA WF eqD_nn eqD_ni eqD_in eqD_is eqD_si eqD_ns eqD_sn Yg Y1 Y8 YB Ys QT vW YJ YO Kj L2.wG L2.xO Vd Vt YG VJ Yf tFmt tOne Y7 Vk tTryN tOrT Yb tBM tBM0 tFld sFld Y0 KU YR iTup Yw iRev YX iZip iZipT Yz VS V9 gTup VQ gNil yD Z9 tIsN tSl yq Vp tIf Y2 tOrV tNotV VF KE Ql Y6 X6 Kb K8 tDIn Jh dm1 dm2 da1 da2 dg1 dg2 dx1 dx2 dl1 dl2 dr1 dr2 dc1 dc2 dp1 dp2 do1 do2 db1 db2 id_eq Nat.reduceAdd Nat.reduceSub"
 let b := g "jT String.reduceEq reduceCtorEq decide_true decide_false Bool.not_true Bool.not_false Bool.false_eq_true if_true if_false not_true_eq_false not_false_eq_true exists_eq_left' exists_eq_left V.int.injEq V.str.injEq V.bl.injEq V.ref.injEq List.cons.injEq and_true true_and exists_const Option.some.injEq Int.reduceLT Int.reduceLE Int.reduceEq Int.cast_ofNat_Int Int.natCast_one Int.natCast_zero"
 `(tactic| first | (dsimp only [$[$a:ident],*]; try simp only [$[$b:ident],*]) | simp only [$[$b:ident],*])
local macro_rules | `(tactic| walk_at "st") => `(tactic| repeat (first | refine qi (by assumption) rfl ?_ | refine Yx (by assumption) ?_ | walk_at "rd"))
section
variable {P:Program}{w:World}{K:PySem.W.Frag}{mg:Str->Option Value}{base:Heap}
def cell (ns:List Int)(k:Int):Int:=if ns=[] then 0 else ns.getD (k % ns.length).toNat 0
def mix (ns:List Int)(k:Int):Int:=((cell ns k+104729*(k+1)) % 4294967291*48271 % 4294967279 / 64*69621+(cell ns k+104729*(k+1)) % 4294967291*48271 % 4294967279) % 4294967231
theorem VZ {ns:List Int}{i:Int}(h0:0<=i)(h1:i<ns.length):atI (ns.map V.int) i=some (.int (ns.getD i.toNat 0)):=by
 unfold atI ixN
 rw[List.length_map,if_pos h0,if_pos h1]
 show(ns.map V.int)[i.toNat]?=_
 have lt:i.toNat<ns.length:=by omega
 rw[List.getElem?_map,List.getElem?_eq_getElem lt,List.getD_eq_getElem?_getD,List.getElem?_eq_getElem lt]
 rfl
def Yc (K:PySem.W.Frag):Sp:=λvs H Q _=>∃ a ns k,vs=[.ref a,.int k]/\SqL K H a (ns.map V.int)/\Q (.int (cell ns k)) H
theorem Z7 (T:Tx K w mg a):jA P w K mg base CX0 1 a._law_cell a.fd__law_cell ["_law_script","_law_k"] (Yc K):=by
 refine T.F__law_cell.fn.okQ ZK (λvs H Q E h=>?_) (λcdv A outer s H vs Q E hr h=>?_)
 ·obtain⟨a,ns,k,rfl,_⟩:=h
  rfl
 ·obtain⟨p,ns,k,rfl,hS,q⟩:=h
  refine⟨_,(qf (zf (vo (pv 0) (λ_=>rfl)) (qh (qN (qz qZ (pv 0) (qw z4 (pv 1) (qP ze (by rfl) T.len PySem.boot_len (q5 (pv 0) qd))) (λ_ _=>rfl)))) qI)
   (qh (qN qa))),?_⟩
  try walk_at "rd"
  refine⟨_,.inl ⟨_,hS,rfl⟩,?_⟩
  unfold cell at q
  cases ns with
  |nil=>
   simp only[List.map_nil,List.isEmpty_nil,Bool.not_true,Bool.false_eq_true,if_false]
   exact q
  |cons x r=>
   simp only[List.map_cons,List.isEmpty_cons,Bool.not_false,if_true]
   rw[if_neg (by simp)] at q
   refine jN hS ?_
   have pos:(0:Int)<((x::r).length:Nat):=by simp only[List.length_cons];omega
   rw[List.length_map]
   try walk_at "rd"
   refine⟨pos,qR hS (VZ (Int.emod_nonneg _ (by omega)) (Int.emod_lt_of_pos _ pos)) q⟩
def sp_mix (K:PySem.W.Frag):Sp:=λvs H Q _=>∃ a ns k,vs=[.ref a,.int k]/\SqL K H a (ns.map V.int)/\Q (.int (mix ns k)) H
theorem xa (T:Tx K w mg a):jA P w K mg base CX0 2 a._law_mix a.fd__law_mix ["_law_script","_law_k"] (sp_mix K):=by
 refine T.F__law_mix.fn.okQ vV (λvs H Q E h=>?_) (λcdv A outer s H vs Q E hr h=>?_)
 ·obtain⟨a,ns,k,rfl,_⟩:=h
  rfl
 ·obtain⟨p,ns,k,rfl,hS,q⟩:=h
  have G__law_cell:=Z7 (P:=P) (base:=base) T
  refine⟨_,(qf (qy (i:=2) vV.nd rfl (Or.inl rfl) (qw z4 (qw zD (qo G__law_cell (hr.mono (by decide)) rfl T.F__law_cell.mg T.F__law_cell.fn.kp T.F__law_cell.b .nil qX (q5 (pv 0) (q5 (pv 1) qd))) (qw ZB qa (qw zD (pv 1) qa))) qa))
   (qf (qy (i:=2) vV.nd rfl (Or.inl rfl) (qw z4 (qw ZB (pv 2) qa) qa))
   (qh (qN (qw z4 (qw zD (qw ZB (qw zY (pv 2) qa) qa) (pv 2)) qa))))),?_⟩
  try walk_at "rd"
  refine⟨p,ns,k,rfl,hS,?_⟩
  dsimp only
  try walk_at "rd"
  have h1:=Int.emod_nonneg (cell ns k+104729*(k+1)) (show(4294967291:Int)≠0 by decide)
  have h2:=Int.emod_lt_of_pos (cell ns k+104729*(k+1)) (show(0:Int)<4294967291 by decide)
  exact⟨.inl ⟨by decide,by decide⟩,.inr ⟨by decide,by decide⟩,⟨by decide,by decide⟩,.inr ⟨by decide,by decide⟩,q⟩
def Xy (K:PySem.W.Frag):Sp:=λvs H Q _=>∃ v r,vs=[v]/\jp K H v r/\∀ H',qq H H'->Q (.bl r.isMove) H'
theorem cut1:QU (x::xs) none (some 1)=[x]:=by
 have h:HT.sIx (x::xs).length (x::xs).length (some 1)=1:=by
  simp[HT.sIx]
 unfold QU
 rw[h]
 rfl
theorem xC (T:Tx K w mg a):jA P w K mg base CX0 1 a.is_move a.fd_is_move ["deed"] (Xy K):=by
 refine T.F_is_move.fn.okQ Xd (λvs H Q E h=>?_) (λcdv A outer s H vs Q E hr h=>?_)
 ·obtain⟨v,r,rfl,_⟩:=h
  rfl
 ·obtain⟨v,r,rfl,⟨p,rfl,hS⟩,q⟩:=h
  refine⟨_,(qh (qN (xY (Vi hr.units) (qY vg (pv 0) zv (zk qa)) (xj (q5 qD qd)) (qC _)))),?_⟩
  try walk_at "rd"
  refine⟨p,_,rfl,hS,λp1 H1 s1 h1=>?_⟩
  have key:∀ (k:String) (xs:List V) (b:Bool),r.vs=.str (Str.ofString k)::xs->decide (k="move")=b->r.isMove=b->1<=sizeLine/\∀ (p:Addr),H1 p=none->rEqDp K (.ref p1) (V.ref p) (upd H1 p (HO.tup [V.str (Str.ofString "move")])) Q:=λk xs b e hk hb=>by
   rw[e,cut1] at h1
   refine⟨by decide,λp2 h2=>⟨.tuple [.str (Str.ofString k)],.tuple [.str (Str.ofString "move")],.tup ((qq.new h2).seqT h1) (.cons (.str _) .nil),.tup (SqT.of qg) (.cons (.str _) .nil),?_,?_,?_⟩⟩
   ·simp[SeqAt.shaped,PyData.canLay0,PyData.canLayAll0,PyData.depth,PyData.depthAll,xn]
   ·simp[SeqAt.shaped,PyData.canLay0,PyData.canLayAll0,PyData.depth,PyData.depthAll,xn]
   ·have e2:PyData.eqv (.tuple [.str (Str.ofString k)]) (.tuple [.str (Str.ofString "move")])=r.isMove:=by
     rw[hb,<- hk]
     simp only[PyData.eqv,PyData.eqvAll,Bool.and_true]
     by_cases h:k="move"
     ·subst h;simp
     ·simp[h,jT]
    rw[e2]
    exact q _ (s1.trans (qq.new h2))
  cases r with
  |dd d=>
   cases d with
   |set v k=>exact key "set" _ false rfl (by decide) rfl
   |input v k=>exact key "input" _ false rfl (by decide) rfl
   |op w v x y=>exact key "op" _ false rfl (by decide) rfl
   |tell x=>exact key "tell" _ false rfl (by decide) rfl
   |move x y=>exact key "move" _ true rfl (by decide) rfl
  |ee e=>
   cases e with
   |go n=>exact key "go" _ false rfl (by decide) rfl
   |iff x n m=>exact key "if" _ false rfl (by decide) rfl
   |fin=>exact key "end" _ false rfl (by decide) rfl
def JO (K:PySem.W.Frag)(f:Row->List Int):Sp:=λvs H Q _=>∃ v r,vs=[v]/\jp K H v r/\r.isMove=false/\∀ p,H p=none->Q (.ref p) (upd H p (.lst ((f r).map V.int)))
theorem spots {q p l:Addr}{xs:List V}{spots:List Nat}{ys:List Int}{H:Hp}{Q:VK}(hS:SqT K H p xs)(hsp:∀ H,SqT K H q (spots.map λ(s:Nat)=>V.int (s:Int)))(hal:z5 (λ(s:Nat) (i:Int)=>atI xs s=some (.int i)) spots ys)
  (hl:H l=none) (len:spots.length<1000) (k:Q (.ref l) (upd H l (.lst (ys.map V.int)))):vH (Itt K q) (xH 0) Z9 (tOp (yK K) (vG 1) (vG 0)) l [none,some (.ref p)] H Q:=by
 refine VN (spots.map λ(s:Nat)=>V.int (s:Int)) (λi σ H'=>(∃ u,σ=[u,some (.ref p)])/\H'=upd H l (.lst ((ys.take i).map V.int))) ⟨⟨_,rfl⟩,rfl⟩ (λi σ H' _ h=>hsp _) ?_ ?_
 ·rintro i x σ H' hi ⟨⟨u,rfl⟩,rfl⟩
  rw[List.getElem?_map] at hi
  cases es:spots[i]? with
  |none=>rw[es] at hi;cases hi
  |some s=>
   rw[es] at hi
   cases hi
   obtain⟨y,hy,hat⟩:=hal.get es
   have lt:=(List.getElem?_eq_some_iff.mp hy).1
   repeat (first|refine qi (qq.seqT (qq.new hl) hS) hat ?_|walk_at "rd")
   refine⟨_,qg,?_,⟨_,rfl⟩,?_⟩
   ·rw[List.length_map,List.length_take,<- hal.1]
    exact Nat.lt_of_le_of_lt (Nat.min_le_right _ _) (Nat.lt_trans len (by decide))
   ·rw[YW,List.take_succ,hy]
    simp
 ·rintro σ H' ⟨_,rfl⟩
  rw[List.length_map,hal.1,List.take_length]
  exact k
theorem y4 (T:Tx K w mg a):jA P w K mg base CX0 1 a.given_in a.fd_given_in ["row"] (JO K Row.gv):=by
 refine T.F_given_in.fn.okQ Ja (λvs H Q E h=>?_) (λcdv A outer s H vs Q E hr h=>?_)
 ·obtain⟨v,r,rfl,_⟩:=h
  rfl
 ·obtain⟨v,r,rfl,⟨p,rfl,hS⟩,hm,q⟩:=h
  refine⟨_,(qh (qN (zT (N:=["spot","row"]) (osc:=(q8 je)) (on:=["row"]) (cap:=[none,some 0]) ⟨rfl,rfl,by decide +kernel⟩ rfl (ww (vk (jE (v:=.ref a.GIVEN_SPOTS) rfl T.GIVEN_SPOTS rfl) (qz qu (pv 0) qa (λ_ _=>rfl)) (λ_ _=>rfl))) (λ_ _ _ _=>(qr (i:=0) (show List.Nodup (["spot","row"]:List Str) by decide +kernel) rfl (Or.inl rfl))) (λ_ _ _ _=>jf) (λ_ _ _ _=>(qz (r:=yK K) qu (pv 1) (pv 0) (λ_ _=>rfl)))))),?_⟩
  try walk_at "rd"
  cases r with
  |dd d=>
   cases d with
   |set v k=>exact qi hS rfl ⟨_,_,_,rfl,T.kd_GIVEN_SPOTS,rfl,T.GIVEN_SPOTS_set,⟨_,T.gs_set _⟩,λl hl=>spots (spots:=[1]) hS T.gs_set (.cons rfl .nil) hl (by decide) (q l hl)⟩
   |input v k=>exact qi hS rfl ⟨_,_,_,rfl,T.kd_GIVEN_SPOTS,rfl,T.GIVEN_SPOTS_input,⟨_,T.gs_input _⟩,λl hl=>spots (spots:=[1]) hS T.gs_input (.cons rfl .nil) hl (by decide) (q l hl)⟩
   |op w v x y=>exact qi hS rfl ⟨_,_,_,rfl,T.kd_GIVEN_SPOTS,rfl,T.GIVEN_SPOTS_op,⟨_,T.gs_op _⟩,λl hl=>spots (spots:=[2]) hS T.gs_op (.cons rfl .nil) hl (by decide) (q l hl)⟩
   |tell x=>exact qi hS rfl ⟨_,_,_,rfl,T.kd_GIVEN_SPOTS,rfl,T.GIVEN_SPOTS_tell,⟨_,T.gs_tell _⟩,λl hl=>spots (spots:=[]) hS T.gs_tell .nil hl (by decide) (q l hl)⟩
   |move x y=>cases hm
  |ee e=>
   cases e with
   |go n=>exact qi hS rfl ⟨_,_,_,rfl,T.kd_GIVEN_SPOTS,rfl,T.GIVEN_SPOTS_go,⟨_,T.gs_go _⟩,λl hl=>spots (spots:=[]) hS T.gs_go .nil hl (by decide) (q l hl)⟩
   |iff x n m=>exact qi hS rfl ⟨_,_,_,rfl,T.kd_GIVEN_SPOTS,rfl,T.GIVEN_SPOTS_if,⟨_,T.gs_if _⟩,λl hl=>spots (spots:=[]) hS T.gs_if .nil hl (by decide) (q l hl)⟩
   |fin=>exact qi hS rfl ⟨_,_,_,rfl,T.kd_GIVEN_SPOTS,rfl,T.GIVEN_SPOTS_end,⟨_,T.gs_end _⟩,λl hl=>spots (spots:=[]) hS T.gs_end .nil hl (by decide) (q l hl)⟩
theorem yX (T:Tx K w mg a):jA P w K mg base CX0 1 a.read_in a.fd_read_in ["row"] (JO K Row.rd):=by
 refine T.F_read_in.fn.okQ Xn (λvs H Q E h=>?_) (λcdv A outer s H vs Q E hr h=>?_)
 ·obtain⟨v,r,rfl,_⟩:=h
  rfl
 ·obtain⟨v,r,rfl,⟨p,rfl,hS⟩,hm,q⟩:=h
  refine⟨_,(qh (qN (zT (N:=["spot","row"]) (osc:=(q8 jy)) (on:=["row"]) (cap:=[none,some 0]) ⟨rfl,rfl,by decide +kernel⟩ rfl (ww (vk (jE (v:=.ref a.READ_SPOTS) rfl T.READ_SPOTS rfl) (qz qu (pv 0) qa (λ_ _=>rfl)) (λ_ _=>rfl))) (λ_ _ _ _=>(qr (i:=0) (show List.Nodup (["spot","row"]:List Str) by decide +kernel) rfl (Or.inl rfl))) (λ_ _ _ _=>jf) (λ_ _ _ _=>(qz (r:=yK K) qu (pv 1) (pv 0) (λ_ _=>rfl)))))),?_⟩
  try walk_at "rd"
  cases r with
  |dd d=>
   cases d with
   |set v k=>exact qi hS rfl ⟨_,_,_,rfl,T.kd_READ_SPOTS,rfl,T.READ_SPOTS_set,⟨_,T.rs_set _⟩,λl hl=>spots (spots:=[]) hS T.rs_set .nil hl (by decide) (q l hl)⟩
   |input v k=>exact qi hS rfl ⟨_,_,_,rfl,T.kd_READ_SPOTS,rfl,T.READ_SPOTS_input,⟨_,T.rs_input _⟩,λl hl=>spots (spots:=[]) hS T.rs_input .nil hl (by decide) (q l hl)⟩
   |op w v x y=>exact qi hS rfl ⟨_,_,_,rfl,T.kd_READ_SPOTS,rfl,T.READ_SPOTS_op,⟨_,T.rs_op _⟩,λl hl=>spots (spots:=[3,4]) hS T.rs_op (.cons rfl (.cons rfl .nil)) hl (by decide) (q l hl)⟩
   |tell x=>exact qi hS rfl ⟨_,_,_,rfl,T.kd_READ_SPOTS,rfl,T.READ_SPOTS_tell,⟨_,T.rs_tell _⟩,λl hl=>spots (spots:=[1]) hS T.rs_tell (.cons rfl .nil) hl (by decide) (q l hl)⟩
   |move x y=>cases hm
  |ee e=>
   cases e with
   |go n=>exact qi hS rfl ⟨_,_,_,rfl,T.kd_READ_SPOTS,rfl,T.READ_SPOTS_go,⟨_,T.rs_go _⟩,λl hl=>spots (spots:=[]) hS T.rs_go .nil hl (by decide) (q l hl)⟩
   |iff x n m=>exact qi hS rfl ⟨_,_,_,rfl,T.kd_READ_SPOTS,rfl,T.READ_SPOTS_if,⟨_,T.rs_if _⟩,λl hl=>spots (spots:=[1]) hS T.rs_if (.cons rfl .nil) hl (by decide) (q l hl)⟩
   |fin=>exact qi hS rfl ⟨_,_,_,rfl,T.kd_READ_SPOTS,rfl,T.READ_SPOTS_end,⟨_,T.rs_end _⟩,λl hl=>spots (spots:=[]) hS T.rs_end .nil hl (by decide) (q l hl)⟩
def Xs (K:PySem.W.Frag):Sp:=λvs H Q _=>∃ v e,vs=[v]/\J0 K H v e/\∀ p,H p=none->Q (.ref p) (upd H p (.lst (e.ways.map V.int)))
theorem yT (T:Tx K w mg a):jA P w K mg base CX0 1 a.ways_on a.fd_ways_on ["end"] (Xs K):=by
 refine T.F_ways_on.fn.okQ XI (λvs H Q E h=>?_) (λcdv A outer s H vs Q E hr h=>?_)
 ·obtain⟨v,r,rfl,_⟩:=h
  rfl
 ·obtain⟨v,e,rfl,⟨p,rfl,hS⟩,q⟩:=h
  refine⟨_,(qh (qN (zT (N:=["spot","end"]) (osc:=(q8 jz)) (on:=["end"]) (cap:=[none,some 0]) ⟨rfl,rfl,by decide +kernel⟩ rfl (ww (vk (jE (v:=.ref a.BLOCK_SPOTS) rfl T.BLOCK_SPOTS rfl) (qz qu (pv 0) qa (λ_ _=>rfl)) (λ_ _=>rfl))) (λ_ _ _ _=>(qr (i:=0) (show List.Nodup (["spot","end"]:List Str) by decide +kernel) rfl (Or.inl rfl))) (λ_ _ _ _=>jf) (λ_ _ _ _=>(qz (r:=yK K) qu (pv 1) (pv 0) (λ_ _=>rfl)))))),?_⟩
  try walk_at "rd"
  cases e with
  |go n=>exact qi hS rfl ⟨_,_,_,rfl,T.kd_BLOCK_SPOTS,rfl,T.BLOCK_SPOTS_go,⟨_,T.bs_go _⟩,λl hl=>spots (spots:=[1]) hS T.bs_go (.cons rfl .nil) hl (by decide) (q l hl)⟩
  |iff x n m=>exact qi hS rfl ⟨_,_,_,rfl,T.kd_BLOCK_SPOTS,rfl,T.BLOCK_SPOTS_if,⟨_,T.bs_if _⟩,λl hl=>spots (spots:=[2,3]) hS T.bs_if (.cons rfl (.cons rfl .nil)) hl (by decide) (q l hl)⟩
  |fin=>exact qi hS rfl ⟨_,_,_,rfl,T.kd_BLOCK_SPOTS,rfl,T.BLOCK_SPOTS_end,⟨_,T.bs_end _⟩,λl hl=>spots (spots:=[]) hS T.bs_end .nil hl (by decide) (q l hl)⟩
def yI (K:PySem.W.Frag)(B:Addr):Sp:=λvs H Q E=>∃ v r n m,vs=[v,.int n,.int m]/\0<=m/\m<1000/\jp K H v r/\r.isMove=false /\
 ((∀ i∈r.gv++r.rd,0<=i/\i<n)->∀ H',qq H H'->Q .non H')/\((¬ ∀ i∈r.gv++r.rd,0<=i/\i<n)->∀ H',qq H H'->E (.ref B) none H')
theorem vM (T:Tx K w mg a):jA P w K mg base (CX1 P w) 2 a.check_names a.fd_check_names ["row","names","number"] (yI K a.BadProgram):=by
 refine T.F_check_names.fn.ok1Q vN (λvs H Q E h=>?_) (λcdv A outer s H vs Q E hr h=>?_)
 ·obtain⟨v,r,n,m,rfl,_⟩:=h
  rfl
 ·obtain⟨v,r,n,m,rfl,hm0,hm1,hR,hm,q1,q2⟩:=h
  have G_given_in:=y4 (P:=P) (w:=w) (base:=base) T
  have G_read_in:=yX (P:=P) (w:=w) (base:=base) T
  refine⟨_,(qh (zU PassesOwn.leaving rfl (z7 (qw VD (qo G_given_in (hr.mono (by decide)) rfl T.F_given_in.mg T.F_given_in.fn.kp T.F_given_in.b .nil qX (q5 (pv 0) qd)) (qo G_read_in (hr.mono (by decide)) rfl T.F_read_in.mg T.F_read_in.fn.kp T.F_read_in.b .nil qX (q5 (pv 0) qd)))) (qr (i:=3) vN.nd rfl (Or.inl rfl))
    (qh (zf (PW.pt (wj (qm yn (pv 3) qa (qC _)) (xz (qm Vm (pv 3) (pv 1) (qC _))))) (qh (j5 T.xBad (jD (qB zP (qB (jV (pv 2)) (qB zP jF)))))) qI)))),?_⟩
  try walk_at "rd"
  refine⟨v,r,rfl,hR,hm,λl1 h1=>?_⟩
  try walk_at "rd"
  refine⟨v,r,rfl,hR.same (qq.new h1),hm,λl2 h2=>?_⟩
  dsimp only
  have n12:l1≠l2:=qj qg h2
  have s2:=(qq.new h1).trans (qq.new (o:=.lst (List.map V.int r.rd)) h2)
  have g1:upd (upd H l1 (HO.lst (List.map V.int r.gv))) l2 (HO.lst (List.map V.int r.rd)) l1=some (HO.lst (List.map V.int r.gv)):=by rw[qp n12,qg]
  have lenS:(List.map V.int r.gv).length+(List.map V.int r.rd).length<=sizeLine:=by
   rw[List.length_map,List.length_map]
   refine Nat.le_trans (?_:_<=10) (by decide)
   cases r with
   |dd d=>cases d <;> simp[Row.gv,Row.rd,zQ.gv,zQ.rd]
   |ee e=>cases e <;> simp[Row.gv,Row.rd,En.rd]
  have g2:upd (upd H l1 (HO.lst (List.map V.int r.gv))) l2 (HO.lst (List.map V.int r.rd)) l2=some (HO.lst (List.map V.int r.rd)):=qg
  generalize upd (upd H l1 (HO.lst (List.map V.int r.gv))) l2 (HO.lst (List.map V.int r.rd))=H2 at s2 g1 g2 ⊢
  refine⟨l1,l2,_,_,rfl,rfl,g1,g2,lenS,λl3 h3=>?_⟩
  have s3:=s2.trans (qq.new (o:=.lst (List.map V.int r.gv++List.map V.int r.rd)) h3)
  have e3:List.map V.int r.gv++List.map V.int r.rd=(r.gv++r.rd).map V.int:=List.map_append.symm
  have g3:SqL K (upd H2 l3 (.lst (List.map V.int r.gv++List.map V.int r.rd))) l3 ((r.gv++r.rd).map V.int):=by rw[<-e3];exact SqL.of qg
  generalize upd H2 l3 (.lst (List.map V.int r.gv++List.map V.int r.rd))=H3 at s3 g3 ⊢
  generalize r.gv++r.rd=ids at q1 q2 g3
  refine⟨⟨_,g3⟩,zz (ids.map V.int) (λi σ H'=>H'=H3/\(∃ u,σ=[some v,some (.int n),some (.int m),u])/\∀ j,j<i->∀ x,ids[j]?=some x->0<=x/\x<n)
   ⟨rfl,⟨_,rfl⟩,λj h=>absurd h (by omega)⟩ (λi σ H' _ h=>by rw[h.1];exact g3) ?_ ?_⟩
  ·rintro i x σ H' hi ⟨rfl,⟨u,rfl⟩,hb⟩
   rw[List.getElem?_map] at hi
   cases es:ids[i]? with
   |none=>rw[es] at hi;cases hi
   |some y=>
    rw[es] at hi
    cases hi
    try walk_at "rd"
    have bad:¬ (0<=y/\y<n)->¬ ∀ i∈ids,0<=i/\i<n:=λz w=>z (w y (List.mem_of_getElem? es))
    refine xN (λc=>?_) (λc=>?_)
    ·exact⟨j9 (by omega) (by omega),λ_=>q2 (bad (by omega)) _ s3⟩
    ·refine xN (λc2=>?_) (λc2=>?_)
     ·exact⟨j9 (by omega) (by omega),λ_=>q2 (bad (by omega)) _ s3⟩
     ·refine⟨⟨_,rfl⟩,λj hj x hx=>?_⟩
      by_cases e:j=i
      ·subst e
       rw[es] at hx
       cases hx
       omega
      ·exact hb j (by omega) x hx
  ·rintro σ H' ⟨rfl,_,hb⟩
   refine q1 (λi hi=>?_) _ s3
   obtain⟨j,hj,e⟩:=List.mem_iff_getElem.mp hi
   exact hb j (by rw[List.length_map];exact hj) i (by rw[List.getElem?_eq_getElem hj,e])
def okC (n:Int)(d:zQ):Prop:=d.isMove=false/\okD n d
def QA (K:PySem.W.Frag)(B:Addr):Sp:=λvs H Q E=>∃ v d n m,vs=[v,.int n,.int m]/\0<=m/\m<1000/\j0 K H v d/\(okC n d->∀ H',qq H H'->Q .non H')/\(¬ okC n d->∀ H',qq H H'->E (.ref B) none H')
theorem QL (T:Tx K w mg a):jA P w K mg base (CX1 P w) 3 a.check_deed a.fd_check_deed ["deed","names","number"] (QA K a.BadProgram):=by
 refine T.F_check_deed.fn.ok1Q Qa (λvs H Q E h=>?_) (λcdv A outer s H vs Q E hr h=>?_)
 ·obtain⟨v,d,n,m,rfl,_⟩:=h
  rfl
 ·obtain⟨v,d,n,m,rfl,hm0,hm1,⟨p,rfl,hS⟩,q1,q2⟩:=h
  have G_check_names:=vM (P:=P) (base:=base) T
  have lm:=j9 (i:=m) (by omega) (by omega)
  refine⟨_,(qf (zf (PW.pt (wj (qm jq (qP ze (by rfl) T.len PySem.boot_len (q5 (pv 0) qd)) qa (qC _)) (xz (qm yA (kx (jE (v:=.ref a.DEED_SIZES) rfl T.DEED_SIZES rfl) (qz qu (pv 0) qa (λ_ _=>rfl)) ⟨rfl,rfl,rfl,rfl⟩) (qP ze (by rfl) T.len PySem.boot_len (q5 (pv 0) qd)) (qC _))))) (qh (j5 T.xBad (jD (qB zP (qB (jV (pv 2)) (qB zP jF)))))) qI)
   (qf (zf (PW.pt (vO (qm jq (qz qu (pv 0) qa (λ_ _=>rfl)) qD (qC _)) (xt (qm wu (qz qu (pv 0) qa (λ_ _=>rfl)) (jE (v:=.ref a.WORDS) rfl T.WORDS rfl) rfl)))) (qh (j5 T.xBad (jD (qB zP (qB (jV (pv 2)) (qB zP jF)))))) qI)
   (qf (zf (PW.pt (vO (qm jq (qz qu (pv 0) qa (λ_ _=>rfl)) qD (qC _)) (xt (qm yn (qz qu (pv 0) qa (λ_ _=>rfl)) qa (qC _))))) (qh (j5 T.xBad (jD (qB zP (qB (jV (pv 2)) (qB zP jF)))))) qI)
   (qh (qQ (qo G_check_names (hr.mono (by decide)) rfl T.F_check_names.mg T.F_check_names.fn.kp T.F_check_names.b .nil (wF λ_ _ _ h=>h) (q5 (pv 0) (q5 (pv 1) (q5 (pv 2) qd))))))))),?_⟩
  cases d with
  |set v k=>
   simp only[zQ.vs] at hS
   try walk_at "st"
   refine⟨T.kd_DEED_SIZES,qi hS rfl ⟨_,_,rfl,T.DEED_SIZES_set,?_⟩⟩
   try walk_at "st"
   refine⟨_,.dd (.set v k),n,m,rfl,hm0,hm1,⟨p,rfl,hS⟩,rfl,λz=>q1 ⟨rfl,z v (by simp[Row.gv,zQ.gv])⟩,λz=>q2 λy=>z ?_⟩
   intro i hi
   simp[Row.gv,Row.rd,zQ.gv,zQ.rd] at hi
   rw[hi]
   exact y.2
  |input v k=>
   simp only[zQ.vs] at hS
   try walk_at "st"
   refine⟨T.kd_DEED_SIZES,qi hS rfl ⟨_,_,rfl,T.DEED_SIZES_input,?_⟩⟩
   try walk_at "st"
   refine xN (λc=>⟨lm,λ_=>q2 (λy=>?_) _ (qq.refl _)⟩) (λc=>?_)
   ·have:=y.2.2
    omega
   ·refine⟨_,.dd (.input v k),n,m,rfl,hm0,hm1,⟨p,rfl,hS⟩,rfl,λz=>q1 ⟨rfl,z v (by simp[Row.gv,zQ.gv]),by omega⟩,λz=>q2 λy=>z ?_⟩
    intro i hi
    simp[Row.gv,Row.rd,zQ.gv,zQ.rd] at hi
    rw[hi]
    exact y.2.1
  |op w v x y=>
   simp only[zQ.vs] at hS
   try walk_at "st"
   refine⟨T.kd_DEED_SIZES,qi hS rfl ⟨_,_,rfl,T.DEED_SIZES_op,?_⟩⟩
   try walk_at "st"
   refine⟨_,_,rfl,.inr (T.wordsT _),rfl,rfl,?_⟩
   dsimp only[jH]
   cases w with
   |over=>
    refine iteT ⟨lm,λ_=>q2 (λy=>?_) _ (qq.refl _)⟩
    exact y.2.1 rfl
   |_=>
    refine iteF ?_
    try walk_at "st"
    refine⟨_,.dd (.op _ v x y),n,m,rfl,hm0,hm1,⟨p,rfl,hS⟩,rfl,λz=>q1 ⟨rfl,by simp,z v (by simp[Row.gv,zQ.gv]),z x (by simp[Row.rd,zQ.rd]),z y (by simp[Row.rd,zQ.rd])⟩,λz=>q2 λu=>z ?_⟩
    intro i hi
    simp[Row.gv,Row.rd,zQ.gv,zQ.rd] at hi
    obtain⟨_,_,u1,u2,u3⟩:=u
    rcases hi with rfl|rfl|rfl
    ·exact u1
    ·exact u2
    ·exact u3
  |tell x=>
   simp only[zQ.vs] at hS
   try walk_at "st"
   refine⟨T.kd_DEED_SIZES,qi hS rfl ⟨_,_,rfl,T.DEED_SIZES_tell,?_⟩⟩
   try walk_at "st"
   refine⟨_,.dd (.tell x),n,m,rfl,hm0,hm1,⟨p,rfl,hS⟩,rfl,λz=>q1 ⟨rfl,z x (by simp[Row.rd,zQ.rd])⟩,λz=>q2 λy=>z ?_⟩
   intro i hi
   simp[Row.gv,Row.rd,zQ.gv,zQ.rd] at hi
   rw[hi]
   exact y.2
  |move x y=>
   simp only[zQ.vs] at hS
   try walk_at "st"
   refine⟨T.kd_DEED_SIZES,qi hS rfl ⟨_,_,rfl,T.ds_move,?_⟩⟩
   try walk_at "st"
   exact⟨lm,λ_=>q2 (λy=>by cases y.1) _ (qq.refl _)⟩
theorem Yk {c:Nat}{e:En}:okE n c e ↔ (∀ i∈(Row.ee e).gv++(Row.ee e).rd,0<=i/\i<n)/\∀ t∈e.ways,0<=t/\t<c:=by
 cases e <;> simp[okE,Row.gv,Row.rd,En.rd,En.ways]
def Zt (K:PySem.W.Frag)(B:Addr):Sp:=λvs H Q E=>∃ v e n m,∃ c:Nat,vs=[v,.int n,.int c,.int m]/\0<=m/\m<1000/\J0 K H v e/\(okE n c e->∀ H',qq H H'->Q .non H')/\(¬ okE n c e->∀ H',qq H H'->E (.ref B) none H')
theorem ZO (T:Tx K w mg a):jA P w K mg base (CX1 P w) 3 a.check_end a.fd_check_end ["end","names","block_count","number"] (Zt K a.BadProgram):=by
 refine T.F_check_end.fn.ok1Q wq (λvs H Q E h=>?_) (λcdv A outer s H vs Q E hr h=>?_)
 ·obtain⟨v,e,n,m,c,rfl,_⟩:=h
  rfl
 ·obtain⟨v,e,n,m,c,rfl,hm0,hm1,⟨p,rfl,hS⟩,q1,q2⟩:=h
  have G_check_names:=vM (P:=P) (base:=base) T
  have G_ways_on:=yT (P:=P) (w:=w) (base:=base) T
  have lm:=j9 (i:=m) (by omega) (by omega)
  refine⟨_,(qf (zf (PW.pt (wj (qm jq (qP ze (by rfl) T.len PySem.boot_len (q5 (pv 0) qd)) qa (qC _)) (xz (qm yA (kx (jE (v:=.ref a.END_SIZES) rfl T.END_SIZES rfl) (qz qu (pv 0) qa (λ_ _=>rfl)) ⟨rfl,rfl,rfl,rfl⟩) (qP ze (by rfl) T.len PySem.boot_len (q5 (pv 0) qd)) (qC _))))) (qh (j5 T.xBad (jD (qB zP (qB (jV (pv 3)) (qB zP jF)))))) qI)
   (qf (qQ (qo G_check_names (hr.mono (by decide)) rfl T.F_check_names.mg T.F_check_names.fn.kp T.F_check_names.b .nil (wF λ_ _ _ h=>h) (q5 (pv 0) (q5 (pv 1) (q5 (pv 3) qd)))))
   (qh (zU PassesOwn.leaving rfl (z7 (qo G_ways_on (hr.mono (by decide)) rfl T.F_ways_on.mg T.F_ways_on.fn.kp T.F_ways_on.b .nil qX (q5 (pv 0) qd))) (qr (i:=4) wq.nd rfl (Or.inl rfl))
    (qh (zf (PW.pt (wj (qm yn (pv 4) qa (qC _)) (xz (qm Vm (pv 4) (pv 2) (qC _))))) (qh (j5 T.xBad (jD (qB zP (qB (jV (pv 3)) (qB zP jF)))))) qI)))))),?_⟩
  rw[Yk] at q1 q2
  have hS0:=hS
  obtain⟨e',he⟩:∃ e',e'=e:=⟨e,rfl⟩
  rw[<-he] at q1 q2 hS0
  cases e
  all_goals
   simp only[En.vs] at hS
   try walk_at "st"
   refine⟨T.kd_END_SIZES,qi hS rfl ⟨_,_,rfl,by first|exact T.END_SIZES_go|exact T.END_SIZES_if|exact T.END_SIZES_end,?_⟩⟩
   try walk_at "st"
   refine⟨_,.ee e',n,m,rfl,hm0,hm1,⟨p,rfl,hS0⟩,rfl,λzn H1 s1=>?_,λz=>q2 λy=>z y.1⟩
   try walk_at "st"
   refine⟨_,e',rfl,⟨p,rfl,s1.seqT hS0⟩,λl hl=>?_⟩
   have s2:=s1.trans (qq.new (o:=.lst (List.map V.int e'.ways)) hl)
   have g:SqL K _ l _:=SqL.of (K:=K) (qg (H:=H1) (o:=.lst (List.map V.int e'.ways)))
   dsimp only
   generalize upd H1 l (.lst (List.map V.int e'.ways))=H2 at s2 g ⊢
   generalize e'.ways=ids at q1 q2 g
   refine⟨⟨_,g⟩,zz (ids.map V.int) (λi σ H'=>H'=H2/\(∃ u,σ=[some (.ref p),some (.int n),some (.int c),some (.int m),u])/\∀ j,j<i->∀ x,ids[j]?=some x->0<=x/\x<c)
    ⟨rfl,⟨_,rfl⟩,λj h=>absurd h (by omega)⟩ (λi σ H' _ h=>by rw[h.1];exact g) ?_ ?_⟩
   ·rintro i x σ H' hi ⟨rfl,⟨u,rfl⟩,hb⟩
    rw[List.getElem?_map] at hi
    cases es:ids[i]? with
    |none=>rw[es] at hi;cases hi
    |some y=>
     rw[es] at hi
     cases hi
     try walk_at "rd"
     have bad:¬ (0<=y/\y<c)->¬ ∀ i∈ids,0<=i/\i<c:=λz w=>z (w y (List.mem_of_getElem? es))
     refine xN (λc=>?_) (λc=>?_)
     ·exact⟨lm,λ_=>q2 (λz=>bad (by omega) z.2) _ s2⟩
     ·refine xN (λc2=>?_) (λc2=>?_)
      ·exact⟨lm,λ_=>q2 (λz=>bad (by omega) z.2) _ s2⟩
      ·refine⟨⟨_,rfl⟩,λj hj x hx=>?_⟩
       by_cases e:j=i
       ·subst e
        rw[es] at hx
        cases hx
        omega
       ·exact hb j (by omega) x hx
   ·rintro σ H' ⟨rfl,_,hb⟩
    refine q1 ⟨zn,λi hi=>?_⟩ _ s2
    obtain⟨j,hj,e⟩:=List.mem_iff_getElem.mp hi
    exact hb j (by rw[List.length_map];exact hj) i (by rw[List.getElem?_eq_getElem hj,e])
def okSz (n:Int)(bs:List Blk):Prop:=1<=bs.length/\bs.length<=12/\∀ b∈bs,(b.ds.length:Int)<=n
def yB (K:PySem.W.Frag)(B:Addr):Sp:=λvs H Q E=>∃ v bs n,vs=[v,.int n]/\0<=n/\n<1000/\xy K H v bs/\(okSz n bs->∀ H',qq H H'->Q .non H')/\(¬ okSz n bs->∀ H',qq H H'->E (.ref B) none H')
theorem vK (T:Tx K w mg a):jA P w K mg base (CX1 P w) 1 a.check_sizes a.fd_check_sizes ["blocks","most_deeds"] (yB K a.BadProgram):=by
 refine T.F_check_sizes.fn.ok1Q xp (λvs H Q E h=>?_) (λcdv A outer s H vs Q E hr h=>?_)
 ·obtain⟨v,bs,n,rfl,_⟩:=h
  rfl
 ·obtain⟨v,bs,n,rfl,hn0,hn1,⟨p,xs,rfl,hS,hA⟩,q1,q2⟩:=h
  have ln:=j9 (i:=n) (by omega) (by omega)
  have l12:=j9 (i:=12) (by omega) (by omega)
  refine⟨_,(qf (zf (PW.pt (wj (qm yn (qP ze (by rfl) T.len PySem.boot_len (q5 (pv 0) qd)) qa (qC _)) (xz (qm XO (qP ze (by rfl) T.len PySem.boot_len (q5 (pv 0) qd)) (w5 T.MOST_BLOCKS) (qC _))))) (qh (j5 T.xBad (jD (qB zP (qB (jV (w5 T.MOST_BLOCKS)) (qB zP jF)))))) qI)
   (qh (zU PassesOwn.leaving rfl (w8 rfl T.enumerate (q5 (pv 0) qd)) (x9 rfl (qL (qr (i:=2) xp.nd rfl (Or.inl rfl)) (qL (qr (i:=3) xp.nd rfl (Or.inl rfl)) jn)))
    (qh (zf (qm XO (qP ze (by rfl) T.len PySem.boot_len (q5 (qz qu (pv 3) qa (λ_ _=>rfl)) qd)) (pv 1) (qC _)) (qh (j5 T.xBad (jD (qB zP (qB (jV (pv 2)) (qB zP (qB (jV (pv 1)) (qB zP jF)))))))) qI))))),?_⟩
  repeat (first|refine jN hS ?_|walk_at "rd")
  rw[hA.1]
  refine xN (λc=>⟨l12,λ_=>q2 (λz=>?_) _ (qq.refl _)⟩) (λc=>?_)
  ·have:=z.1
   omega
  repeat (first|refine jN hS ?_|walk_at "rd")
  rw[hA.1]
  refine xN (λc=>⟨l12,λ_=>q2 (λz=>?_) _ (qq.refl _)⟩) (λc2=>?_)
  ·have:=z.2.1
   omega
  refine⟨⟨_,hS⟩,wY xs (λi σ H'=>qq H H'/\(∃ u v,σ=[some (.ref p),some (.int n),u,v])/\∀ j,j<i->∀ b,bs[j]?=some b->(b.ds.length:Int)<=n)
   ⟨qq.refl _,⟨_,_,rfl⟩,λj h=>absurd h (by omega)⟩ (λi σ H' _ h=>h.1.seq hS) ?_ ?_⟩
  ·rintro i x t σ H' hx ht ⟨hs,⟨u,v,rfl⟩,hb⟩
   obtain⟨b,hbi,hB⟩:=hA.get hx
   have hs2:=hs.trans (qq.new (o:=.tup [.int i,x]) ht)
   have hi:i<12:=by
    have:=(List.getElem?_eq_some_iff.mp hbi).1
    omega
   obtain⟨pb,dl,en,rfl,hBT,⟨pd,ys,rfl,hDL,hDA⟩,hE⟩:=hB.same hs2
   try walk_at "rd"
   refine⟨t,_,rfl,SqT.of qg,?_⟩
   try walk_at "rd"
   refine⟨rfl,_,_,⟨rfl,rfl⟩,_,_,rfl,rfl,?_⟩
   try walk_at "rd"
   refine qi hBT rfl (jN hDL ?_)
   try walk_at "rd"
   rw[hDA.1]
   refine xN (λc=>⟨j9 (by omega) (by omega),ln,λ_=>q2 (λz=>?_) _ hs2⟩) (λc=>⟨hs2,⟨_,_,rfl,rfl⟩,λj hj b' hb'=>?_⟩)
   ·have:=z.2.2 b (List.mem_of_getElem? hbi)
    omega
   ·by_cases e:j=i
    ·subst e
     rw[hbi] at hb'
     cases hb'
     omega
    ·exact hb j (by omega) b' hb'
  ·rintro σ H' ⟨hs,_,hb⟩
   refine q1 ⟨by omega,by omega,λb hb'=>?_⟩ _ hs
   obtain⟨j,hj,e⟩:=List.mem_iff_getElem.mp hb'
   exact hb j (by rw[hA.1];exact hj) b (by rw[List.getElem?_eq_getElem hj,e])
def okRw (n:Int)(bs:List Blk):Prop:=∀ b∈bs,(∀ d∈b.ds,okC n d)/\okE n bs.length b.en
def QD (K:PySem.W.Frag)(B:Addr):Sp:=λvs H Q E=>∃ v bs n,vs=[v,.int n]/\bs.length<1000/\xy K H v bs/\(okRw n bs->∀ H',qq H H'->Q .non H')/\(¬ okRw n bs->∀ H',qq H H'->E (.ref B) none H')
theorem kt (T:Tx K w mg a):jA P w K mg base (CX1 P w) 4 a.check_rows a.fd_check_rows ["blocks","names"] (QD K a.BadProgram):=by
 refine T.F_check_rows.fn.ok1Q x2 (λvs H Q E h=>?_) (λcdv A outer s H vs Q E hr h=>?_)
 ·obtain⟨v,bs,n,rfl,_⟩:=h
  rfl
 ·obtain⟨v,bs,n,rfl,hn,⟨p,xs,rfl,hS,hA⟩,q1,q2⟩:=h
  have G_check_deed:=QL (P:=P) (base:=base) T
  have G_check_end:=ZO (P:=P) (base:=base) T
  refine⟨_,(qh (zU PassesOwn.leaving rfl (w8 rfl T.enumerate (q5 (pv 0) qd)) (x9 rfl (qL (qr (i:=2) x2.nd rfl (Or.inl rfl)) (qL (qr (i:=3) x2.nd rfl (Or.inl rfl)) jn)))
    (qf (zU PassesOwn.leaving rfl (z7 (qz qu (pv 3) qa (λ_ _=>rfl))) (qr (i:=4) x2.nd rfl (Or.inl rfl))
    (qh (qQ (qo G_check_deed (hr.mono (by decide)) rfl T.F_check_deed.mg T.F_check_deed.fn.kp T.F_check_deed.b .nil (wF λ_ _ _ h=>h) (q5 (pv 4) (q5 (pv 1) (q5 (pv 2) qd)))))))
   (qh (qQ (qo G_check_end (hr.mono (by decide)) rfl T.F_check_end.mg T.F_check_end.fn.kp T.F_check_end.b .nil (wF λ_ _ _ h=>h) (q5 (qz qu (pv 3) qa (λ_ _=>rfl)) (q5 (pv 1) (q5 (qP ze (by rfl) T.len PySem.boot_len (q5 (pv 0) qd)) (q5 (pv 2) qd)))))))))),?_⟩
  try walk_at "rd"
  refine⟨⟨_,hS⟩,wY xs (λi σ H'=>qq H H'/\(∃ u v w,σ=[some (.ref p),some (.int n),u,v,w])/\∀ j,j<i->∀ b,bs[j]?=some b->(∀ d∈b.ds,okC n d)/\okE n bs.length b.en)
   ⟨qq.refl _,⟨_,_,_,rfl⟩,λj h=>absurd h (by omega)⟩ (λi σ H' _ h=>h.1.seq hS) ?_ ?_⟩
  ·rintro i x t σ H' hx ht ⟨hs,⟨u,v,w,rfl⟩,hb⟩
   obtain⟨b,hbi,hB⟩:=hA.get hx
   have hs2:=hs.trans (qq.new (o:=.tup [.int i,x]) ht)
   have hi:i<1000:=by
    have:=(List.getElem?_eq_some_iff.mp hbi).1
    omega
   have hmem:=List.mem_of_getElem? hbi
   obtain⟨pb,dl,en,rfl,hBT,⟨pd,ys,rfl,hDL,hDA⟩,hE⟩:=hB.same hs2
   try walk_at "rd"
   refine⟨t,_,rfl,SqT.of qg,?_⟩
   try walk_at "rd"
   refine⟨rfl,_,_,⟨rfl,rfl⟩,_,_,rfl,rfl,?_⟩
   refine qi hBT rfl ?_
   generalize upd H' t (.tup [.int i,.ref pb])=H2 at hs2 hBT hDL hDA hE ⊢
   refine⟨⟨_,hDL⟩,zz ys (λk σ H'=>qq H2 H'/\(∃ w,σ=[some (.ref p),some (.int n),some (.int i),some (.ref pb),w])/\∀ j,j<k->∀ d,b.ds[j]?=some d->okC n d)
    ⟨qq.refl _,⟨_,rfl⟩,λj h=>absurd h (by omega)⟩ (λi σ H' _ h=>h.1.seq hDL) ?_ ?_⟩
   ·rintro k y σ H3 hy ⟨s3,⟨w,rfl⟩,hb2⟩
    obtain⟨d,hd,hD⟩:=hDA.get hy
    try walk_at "rd"
    refine⟨y,d,n,i,rfl,by omega,by omega,hD.same s3,λz H4 s4=>⟨s3.trans s4,⟨_,rfl⟩,λj hj d' hd'=>?_⟩,λz H4 s4=>q2 (λc=>z ((c b hmem).1 d (List.mem_of_getElem? hd))) _ (hs2.trans (s3.trans s4))⟩
    by_cases e:j=k
    ·subst e
     rw[hd] at hd'
     cases hd'
     exact z
    ·exact hb2 j (by omega) d' hd'
   ·rintro σ H3 ⟨s3,⟨w,rfl⟩,hb2⟩
    try walk_at "rd"
    refine qi (s3.seqT hBT) rfl (jN ((hs2.trans s3).seq hS) ?_)
    rw[hA.1]
    refine⟨en,b.en,n,i,bs.length,rfl,by omega,by omega,hE.same s3,λz H4 s4=>⟨hs2.trans (s3.trans s4),⟨_,_,_,rfl,rfl,rfl⟩,λj hj b' hb'=>?_⟩,λz H4 s4=>q2 (λc=>z (c b hmem).2) _ (hs2.trans (s3.trans s4))⟩
    by_cases e:j=i
    ·subst e
     rw[hbi] at hb'
     cases hb'
     refine⟨λd hd=>?_,z⟩
     obtain⟨j,hj,e⟩:=List.mem_iff_getElem.mp hd
     exact hb2 j (by rw[hDA.1];exact hj) d (by rw[List.getElem?_eq_getElem hj,e])
    ·exact hb j (by omega) b' hb'
  ·rintro σ H' ⟨hs,_,hb⟩
   refine q1 (λb hb'=>?_) _ hs
   obtain⟨j,hj,e⟩:=List.mem_iff_getElem.mp hb'
   exact hb j (by rw[hA.1];exact hj) b (by rw[List.getElem?_eq_getElem hj,e])
def okP (bs:List Blk):Prop:=okSz 30 bs/\okRw 24 bs
def wz (K:PySem.W.Frag)(B:Addr):Sp:=λvs H Q E=>∃ v bs,vs=[v]/\xy K H v bs/\(okP bs->∀ H',qq H H'->Q .non H')/\(¬ okP bs->∀ H',qq H H'->E (.ref B) none H')
theorem wD (T:Tx K w mg a):jA P w K mg base (CX1 P w) 5 a.check_program a.fd_check_program ["blocks"] (wz K a.BadProgram):=by
 refine T.F_check_program.fn.ok1Q wC (λvs H Q E h=>?_) (λcdv A outer s H vs Q E hr h=>?_)
 ·obtain⟨v,bs,rfl,_⟩:=h
  rfl
 ·obtain⟨v,bs,rfl,hP,q1,q2⟩:=h
  have G_check_sizes:=vK (P:=P) (base:=base) T
  have G_check_rows:=kt (P:=P) (base:=base) T
  refine⟨_,(qf (qQ (qo G_check_sizes (hr.mono (by decide)) rfl T.F_check_sizes.mg T.F_check_sizes.fn.kp T.F_check_sizes.b .nil (wF λ_ _ _ h=>h) (q5 (pv 0) (q5 (w5 T.MOST_DEEDS_programs) qd))))
   (qh (qQ (qo G_check_rows (hr.mono (by decide)) rfl T.F_check_rows.mg T.F_check_rows.fn.kp T.F_check_rows.b .nil (wF λ_ _ _ h=>h) (q5 (pv 0) (q5 (w5 T.NAMES) qd)))))),?_⟩
  try walk_at "rd"
  refine⟨v,bs,30,rfl,by decide,by decide,hP,λz H1 s1=>?_,λz H1 s1=>q2 (λc=>z c.1) _ s1⟩
  try walk_at "rd"
  refine⟨v,bs,24,rfl,?_,hP.same s1,λz2 H2 s2=>q1 ⟨z,z2⟩ _ (s1.trans s2),λz2 H2 s2=>q2 (λc=>z2 c.2) _ (s1.trans s2)⟩
  have:=z.2.1
  omega
end
theorem JJ {m:Int}(h:n<=m)(o:okD n d):okD m d:=by
 cases d with
 |set v k=>exact⟨o.1,by have:=o.2;omega⟩
 |input v k=>exact⟨⟨o.1.1,by have:=o.1.2;omega⟩,o.2⟩
 |op w v x y=>exact⟨o.1,⟨o.2.1.1,by have:=o.2.1.2;omega⟩,⟨o.2.2.1.1,by have:=o.2.2.1.2;omega⟩,⟨o.2.2.2.1,by have:=o.2.2.2.2;omega⟩⟩
 |tell x=>exact⟨o.1,by have:=o.2;omega⟩
 |move p q=>exact o
theorem JQ {m:Int}(h:n<=m){c:Nat}{e:En}(o:okE n c e):okE m c e:=by
 cases e with
 |go t=>exact o
 |fin=>exact o
 |iff x t u=>exact⟨⟨o.1.1,by have:=o.1.2;omega⟩,o.2⟩
theorem jv (s:qq H H')(h:H p=none):qq H (upd H' p o):=λb u e=>by rw[qp (qj e h)];exact s _ _ e
section
variable {P:Program}{w:World}{K:PySem.W.Frag}{mg:Str->Option Value}{base:Heap}
def ZR (n:Int)(d:zQ):Prop:=okC n d/\smallD d
def Ym (K:PySem.W.Frag):Sp:=λvs H Q _=>∃ s k n,∃ ns:List Int,vs=[.ref s,.int k,.int n]/\SqL K H s (ns.map V.int)/\1<=n/\n<=24/\∀ p d H',qq H H'->H' p=some (.tup d.vs)->H p=none->ZR n d->Q (.ref p) H'
theorem QW (T:Tx K w mg a):jA P w K mg base CX0 3 a._law_deed a.fd__law_deed ["_law_script","_law_k","_law_names"] (Ym K):=by
 refine T.F__law_deed.fn.okQ jW (λvs H Q E h=>?_) (λcdv A outer s H vs Q E hr h=>?_)
 ·obtain⟨s,k,n,ns,rfl,_⟩:=h
  rfl
 ·obtain⟨s,k,n,ns,rfl,hS,hn1,hn2,q⟩:=h
  have G__law_mix:=xa (P:=P) (w:=w) (base:=base) T
  refine⟨_,(qf (qy (i:=3) jW.nd rfl (Or.inl rfl) (qo G__law_mix (hr.mono (by decide)) rfl T.F__law_mix.mg T.F__law_mix.fn.kp T.F__law_mix.b .nil qX (q5 (pv 0) (q5 (pv 1) qd))))
   (qf (qy (i:=4) jW.nd rfl (Or.inl rfl) (qw z4 (qw zY (pv 3) qa) (pv 2)))
   (qf (qy (i:=5) jW.nd rfl (Or.inl rfl) (qw z4 (qw zY (pv 3) qa) (pv 2)))
   (qf (qy (i:=6) jW.nd rfl (Or.inl rfl) (qw z4 (qw zY (pv 3) qa) (pv 2)))
   (qf (zf (qm yn (qw z4 (pv 3) qa) qa (qC _)) (qh (qN (xj (q5 qD (q5 (qz qZ (yV (q5 qD (q5 qD (q5 qD qd)))) (qw z4 (qw zY (pv 3) qa) qa) (λ_ _=>rfl)) (q5 (pv 4) (q5 (pv 5) (q5 (pv 6) qd)))))))) qI)
   (qf (zf (qm yn (qw z4 (pv 3) qa) qa (qC _)) (qh (qN (xj (q5 qD (q5 (pv 5) qd))))) qI)
   (qf (zf (qm jq (qw z4 (pv 3) qa) qa (qC _)) (qh (qN (xj (q5 qD (q5 (pv 4) (q5 (qw z4 (qw zY (pv 3) qa) qa) qd)))))) qI)
   (qh (qN (xj (q5 qD (q5 (pv 4) (q5 (qz qZ (yV (q5 qa (q5 qa (q5 (Jq JH qa) (q5 qa (q5 qa (q5 (qw z4 (qw zY (pv 3) qa) qa) qd))))))) (qw z4 (qw zY (pv 3) qa) qa) (λ_ _=>rfl)) qd))))))))))))),?_⟩
  try walk_at "rd"
  refine⟨_,ns,k,rfl,hS,?_⟩
  try walk_at "rd"
  have md:∀ x,0<=x % n/\x % n<n:=λx=>⟨Int.emod_nonneg _ (by omega),Int.emod_lt_of_pos _ (by omega)⟩
  generalize mix ns k=m at *
  have cd:∀ b:Int,b=8\/b=64\/b=512\/b=4096->CDiv m b:=λb hb=>by rcases hb with rfl|rfl|rfl|rfl <;> exact⟨by decide,by decide⟩
  refine⟨cd _ (by simp),by omega,cd _ (by simp),by omega,cd _ (by simp),by omega,xN (λc=>⟨by decide,λp hp=>⟨cd _ (by simp),?_⟩⟩) (λc=>xN (λc=>⟨by decide,λp hp=>q p (.tell _) _ (qq.new hp) qg hp ⟨⟨rfl,md _⟩,trivial⟩⟩) (λc=>
   xN (λc=>⟨cd _ (by simp),by decide,λp hp=>q p (.input _ _) _ (qq.new hp) qg hp ⟨⟨rfl,md _,Int.emod_nonneg _ (by decide)⟩,?_⟩⟩) (λc=>⟨cd _ (by simp),by decide,λp hp=>⟨cd _ (by simp),?_⟩⟩)))⟩
  ·have hi:m / 4096 % 3=0\/m / 4096 % 3=1\/m / 4096 % 3=2:=by omega
   have fin:∀ w:Wd,w≠.over->∀ H1,qq H H1->5<=sizeLine/\∀ p,H1 p=none->Q (V.ref p) (upd H1 p (HO.tup [V.str (Str.ofString "op"),.str w.txt,V.int (m / 8 % n),V.int (m / 64 % n),V.int (m / 512 % n)])):=λw hw H1 s1=>
    ⟨by decide,λp hp=>q p (.op w _ _ _) _ (s1.trans (qq.new hp)) qg (s1.free hp) ⟨⟨rfl,hw,md _,md _,md _⟩,trivial⟩⟩
   rcases hi with e|e|e <;> rw[e]
   ·exact qR (SqL.of qg) rfl (fin .plus (by simp) _ (qq.new hp))
   ·exact qR (SqL.of qg) rfl (fin .minus (by simp) _ (qq.new hp))
   ·exact qR (SqL.of qg) rfl (fin .times (by simp) _ (qq.new hp))
  ·show m / 64 % 3<2 ^ 64
   omega
  ·have hi:m / 64 % 6=0\/m / 64 % 6=1\/m / 64 % 6=2\/m / 64 % 6=3\/m / 64 % 6=4\/m / 64 % 6=5:=by omega
   have fin:∀ z:Int,∀ H1,qq H H1->3<=sizeLine/\∀ p,H1 p=none->Q (V.ref p) (upd H1 p (HO.tup [V.str (Str.ofString "set"),V.int (m / 8 % n),.int z])):=λz H1 s1=>
    ⟨by decide,λp hp=>q p (.set _ z) _ (s1.trans (qq.new hp)) qg (s1.free hp) ⟨⟨rfl,md _⟩,trivial⟩⟩
   rcases hi with e|e|e|e|e|e <;> rw[e] <;> exact qR (SqL.of qg) rfl (fin _ _ (qq.new hp))
def WB (K:PySem.W.Frag):Sp:=λvs H Q _=>∃ s k n,∃ m:Nat,∃ ns:List Int,vs=[.ref s,.int k,.int m,.int n]/\SqL K H s (ns.map V.int)/\1<=n/\n<=24/\1<=m/\∀ p e H',qq H H'->H' p=some (.tup e.vs)->H p=none->okE n m e->Q (.ref p) H'
theorem J7 (T:Tx K w mg a):jA P w K mg base CX0 3 a._law_end a.fd__law_end ["_law_script","_law_k","_law_blocks","_law_names"] (WB K):=by
 refine T.F__law_end.fn.okQ y9 (λvs H Q E h=>?_) (λcdv A outer s H vs Q E hr h=>?_)
 ·obtain⟨s,k,n,m,ns,rfl,_⟩:=h
  rfl
 ·obtain⟨s,k,n,m,ns,rfl,hS,hn1,hn2,hm,q⟩:=h
  have G__law_mix:=xa (P:=P) (w:=w) (base:=base) T
  refine⟨_,(qf (qy (i:=4) y9.nd rfl (Or.inl rfl) (qo G__law_mix (hr.mono (by decide)) rfl T.F__law_mix.mg T.F__law_mix.fn.kp T.F__law_mix.b .nil qX (q5 (pv 0) (q5 (pv 1) qd))))
   (qf (zf (qm jq (qw z4 (pv 4) qa) qa (qC _)) (qh (qN (xj (q5 qD qd)))) qI)
   (qf (zf (qm yn (qw z4 (pv 4) qa) qa (qC _)) (qh (qN (xj (q5 qD (q5 (qw z4 (qw zY (pv 4) qa) (pv 2)) qd))))) qI)
   (qh (qN (xj (q5 qD (q5 (qw z4 (qw zY (pv 4) qa) (pv 3)) (q5 (qw z4 (qw zY (pv 4) qa) (pv 2)) (q5 (qw z4 (qw zY (pv 4) qa) (pv 2)) qd)))))))))),?_⟩
  try walk_at "rd"
  refine⟨_,ns,k,rfl,hS,?_⟩
  try walk_at "rd"
  have md:∀ x,0<=x % n/\x % n<n:=λx=>⟨Int.emod_nonneg _ (by omega),Int.emod_lt_of_pos _ (by omega)⟩
  have mb:∀ x,0<=x % (m:Int)/\x % (m:Int)<m:=λx=>⟨Int.emod_nonneg _ (by omega),Int.emod_lt_of_pos _ (by omega)⟩
  generalize mix ns k=z at *
  have cd:∀ b:Int,b=5\/b=50\/b=500->CDiv z b:=λb hb=>by rcases hb with rfl|rfl|rfl <;> exact⟨by decide,by decide⟩
  exact xN (λc=>⟨by decide,λp hp=>q p .fin _ (qq.new hp) qg hp trivial⟩) (λc=>xN (λc=>⟨cd _ (by simp),by omega,by decide,λp hp=>q p (.go _) _ (qq.new hp) qg hp (mb _)⟩)
   (λc=>⟨cd _ (by simp),by omega,cd _ (by simp),by omega,cd _ (by simp),by omega,by decide,λp hp=>q p (.iff _ _ _) _ (qq.new hp) qg hp ⟨md _,mb _,mb _⟩⟩))
end
def hide (H:Hp)(p:Addr):Hp:=λb=>if b=p then none else H b
theorem zp:qq (hide H p) H:=λb o e=>by
 unfold hide at e
 split at e
 ·cases e
 ·exact e
theorem ja (s:qq H H'):qq (hide H p) (hide H' p):=λb o e=>by
 unfold hide at e ⊢
 split at e
 ·cases e
 ·rename_i h
  rw[if_neg h]
  exact s _ _ e
theorem x6:hide (upd H p o) p=hide H p:=by
 funext b
 unfold hide
 split
 ·rfl
 ·rename_i h
  rw[qp h]
theorem zb {b:Addr}(h:b≠p):hide H p b=H b:=if_neg h
theorem Zy (s:qq H H')(h:H p=none):qq H (hide H' p):=λb o e=>by rw[zb (qj e h)];exact s _ _ e
theorem Ju (h:SqT K H p xs)(hl:H l=some (.lst ys))(hh:∀ b,b≠l->H' b=H b):SqT K H' p xs:=by
 rcases h with(h|⟨o,h⟩)|h
 ·exact .inl (.inl (by rw[hh p (xZ h hl (by intro z;cases z))];exact h))
 ·exact .inl (.inr ⟨o,by rw[hh p (xZ h hl (by intro z;cases z))];exact h⟩)
 ·exact .inr h
theorem j0.ne (h:j0 K H v d)(hl:H l=some (.lst ys))(hh:∀ b,b≠l->H' b=H b):j0 K H' v d:=let ⟨p,e,q⟩:=h;⟨p,e,Ju q hl hh⟩
theorem J0.ne {d:En}(h:J0 K H v d)(hl:H l=some (.lst ys))(hh:∀ b,b≠l->H' b=H b):J0 K H' v d:=let ⟨p,e,q⟩:=h;⟨p,e,Ju q hl hh⟩
theorem xm (h:i<=xs.length):QU xs none (some (i:Int))=xs.take i:=by
 unfold QU
 rw[HT.sIx_none,HT.sIx_nat,List.drop_zero,Nat.sub_zero,Nat.min_eq_left h]
theorem vt (h:i<=xs.length):QU xs (some (i:Int)) none=xs.drop i:=by
 unfold QU
 rw[HT.sIx_none,HT.sIx_nat,Nat.min_eq_left h]
 exact List.take_of_length_le (by rw[List.length_drop];exact Nat.le_refl _)
theorem XA {m:Int}(h:n<=m)(g:ZR n d):ZR m d:=⟨⟨g.1.1,JJ h g.1.2⟩,g.2⟩
def Z4 (K:PySem.W.Frag)(l:Addr)(n:Nat)(H:Hp):Prop:=∃ xs ds,H l=some (.lst xs)/\z5 (j0 K H) xs ds/\ds.length=n/\∀ d∈ds,ZR 6 d
theorem Z4.same {n:Nat}(h:Z4 K l n H)(s:qq H H'):Z4 K l n H':=let ⟨xs,ds,h1,h2,h3,h4⟩:=h;⟨xs,ds,s _ _ h1,h2.imp λ_ _ z=>z.same s,h3,h4⟩
theorem Z4.nil:Z4 K l 0 (upd H l (.lst [])):=⟨[],[],qg,.nil,rfl,λd h=>by cases h⟩
theorem Z4.snoc {n:Nat}(h:Z4 K l n H)(hp:H p=some (.tup d.vs))(g:ZR 6 d)(hn:n<1000):∃ xs,H l=some (.lst xs)/\xs.length<sizeLine/\Z4 K l (n+1) (upd H l (.lst (xs++[.ref p]))):=by
 obtain⟨xs,ds,h1,h2,h3,h4⟩:=h
 have hD:j0 K H (.ref p) d:=⟨p,rfl,SqT.of hp⟩
 refine⟨xs,h1,by rw[h2.1,h3];exact Nat.lt_trans hn (by decide),_,ds++[d],qg,(h2.snoc hD).imp λ_ _ z=>z.ne h1 λb hb=>qp hb,by rw[List.length_append,h3];rfl,λe he=>?_⟩
 rcases List.mem_append.mp he with he|he
 ·exact h4 e he
 ·rw[List.mem_singleton.mp he]
  exact g
theorem Z4.cat {x y:Addr}{n:Nat}(h:Z4 K x n H)(g:Z4 K y m H)(hl:n+m<=1000):∃ xs ys,H x=some (.lst xs)/\H y=some (.lst ys)/\xs.length+ys.length<=sizeLine/\∀ p,H p=none->Z4 K p (n+m) (upd H p (.lst (xs++ys))):=by
 obtain⟨xs,ds,h1,h2,h3,h4⟩:=h
 obtain⟨ys,es,g1,g2,g3,g4⟩:=g
 refine⟨xs,ys,h1,g1,by rw[h2.1,g2.1,h3,g3];exact Nat.le_trans hl (by decide),λp hp=>⟨_,ds++es,qg,(h2.append g2).imp λ_ _ z=>z.same (qq.new hp),by rw[List.length_append,h3,g3],λe he=>?_⟩⟩
 rcases List.mem_append.mp he with he|he
 ·exact h4 e he
 ·exact g4 e he
section
variable {P:Program}{w:World}{K:PySem.W.Frag}{mg:Str->Option Value}{base:Heap}
structure J2 (bs:List Blk):Prop where
 l0:1<=bs.length
 l1:bs.length<=4
 ds:∀ b∈bs,b.ds.length<=12/\(∀ d∈b.ds,ZR 6 d)/\okE 6 bs.length b.en
def NewP (K:PySem.W.Frag)(H H':Hp)(v:V)(bs:List Blk):Prop:=∃ p xs,v=.ref p/\H p=none/\H' p=some (.lst xs)/\z5 (wg K (hide H' p)) xs bs
def Xl (K:PySem.W.Frag):Sp:=λvs H Q _=>∃ s,∃ ns:List Int,vs=[.ref s]/\SqL K H s (ns.map V.int)/\∀ v H' bs,qq H H'->NewP K H H' v bs->J2 bs->Q v H'
theorem yc (T:Tx K w mg a):jA P w K mg base CX0 4 a._law_program a.fd__law_program ["_law_script"] (Xl K):=by
 refine T.F__law_program.fn.okQ z9 (λvs H Q E h=>?_) (λcdv A outer s H vs Q E hr h=>?_)
 ·obtain⟨s,ns,rfl,_⟩:=h
  rfl
 ·obtain⟨s,ns,rfl,hS,q⟩:=h
  have G__law_mix:=xa (P:=P) (w:=w) (base:=base) T
  have G__law_deed:=QW (P:=P) (w:=w) (base:=base) T
  have G__law_end:=J7 (P:=P) (w:=w) (base:=base) T
  refine⟨_,(qf (qy (i:=1) z9.nd rfl (Or.inr rfl) (qw zD qa (qw z4 (qo G__law_mix (hr.mono (by decide)) rfl T.F__law_mix.mg T.F__law_mix.fn.kp T.F__law_mix.b .nil qX (q5 (pv 0) (q5 qa qd))) qa)))
   (qf (qy (i:=2) z9.nd rfl (Or.inl rfl) (qw zD qa (qw z4 (qo G__law_mix (hr.mono (by decide)) rfl T.F__law_mix.mg T.F__law_mix.fn.kp T.F__law_mix.b .nil qX (q5 (pv 0) (q5 qa qd))) qa)))
   (qf (qy (i:=3) z9.nd rfl (Or.inl rfl) (yV qd))
   (qf (zU PassesOwn.never rfl (jw rfl T.range (q5 (pv 2) qd)) (qr (i:=4) z9.nd rfl (Or.inr rfl))
    (qf (jM (i:=5) z9.nd rfl (Or.inl rfl) (N:=["_law_k","_law_script","_law_names","_law_at"]) (osc:=(q8 qS)) (on:=["_law_script","_law_names","_law_blocks","_law_found","_law_at","_law_deeds","_law_kinds","_law_first"]) (cap:=[none,some 0,some 1,some 4]) ⟨rfl,rfl,by decide +kernel⟩ rfl (jw rfl T.range (q5 (qw z4 (qo G__law_mix (hr.mono (by decide)) rfl T.F__law_mix.mg T.F__law_mix.fn.kp T.F__law_mix.b .nil qX (q5 (pv 0) (q5 (qw zD qa (qw ZB qa (pv 4))) qd))) qa) qd)) (λ_ _ _ _=>(qr (i:=0) (show List.Nodup (["_law_k","_law_script","_law_names","_law_at"]:List Str) by decide +kernel) rfl (Or.inl rfl))) (λ_ _ _ _=>jf) (λ_ _ _ _=>(qo G__law_deed (hr.mono (by decide)) rfl T.F__law_deed.mg T.F__law_deed.fn.kp T.F__law_deed.b .nil qX (q5 (pv 1) (q5 (qw zD (qw zD qa (qw ZB qa (pv 3))) (pv 0)) (q5 (pv 2) qd))))))
   (qf (zf (PW.pt (vO (qm jq (pv 4) qa (qC _)) (xt (qm XO (qw z4 (qo G__law_mix (hr.mono (by decide)) rfl T.F__law_mix.mg T.F__law_mix.fn.kp T.F__law_mix.b .nil qX (q5 (pv 0) (q5 qa qd))) qa) qa (qC _))))) (qf (qy (i:=6) z9.nd rfl (Or.inr rfl) (zT (N:=["_law_v","_law_script"]) (osc:=(q8 qS)) (on:=["_law_script","_law_names","_law_blocks","_law_found","_law_at","_law_deeds","_law_kinds","_law_first"]) (cap:=[none,some 0]) ⟨rfl,rfl,by decide +kernel⟩ rfl (jw rfl T.range (q5 (pv 1) qd)) (λ_ _ _ _=>(qr (i:=0) (show List.Nodup (["_law_v","_law_script"]:List Str) by decide +kernel) rfl (Or.inl rfl))) (λ_ _ _ _=>jf) (λ_ _ _ _=>(qw z4 (qo G__law_mix (hr.mono (by decide)) rfl T.F__law_mix.mg T.F__law_mix.fn.kp T.F__law_mix.b .nil qX (q5 (pv 1) (q5 (qw zD qa (pv 0)) qd))) qa))))
   (qf (jM (i:=7) z9.nd rfl (Or.inl rfl) (N:=["_law_v","_law_kinds"]) (osc:=(q8 qS)) (on:=["_law_script","_law_names","_law_blocks","_law_found","_law_at","_law_deeds","_law_kinds","_law_first"]) (cap:=[none,some 6]) ⟨rfl,rfl,by decide +kernel⟩ rfl (jw rfl T.range (q5 (pv 1) qd)) (λ_ _ _ _=>(qr (i:=0) (show List.Nodup (["_law_v","_law_kinds"]:List Str) by decide +kernel) rfl (Or.inl rfl))) (λ_ _ _ _=>jf) (λ_ _ _ _=>(jI (qm XO (qz (r:=q0c K) qZ (pv 1) (pv 0) (λ_ _=>rfl)) qa (qC _)) (xj (q5 qD (q5 (pv 0) (q5 (qw z4 (pv 0) qa) qd)))) (xj (q5 qD (q5 (pv 0) (q5 (qw zD (pv 0) qa) qd)))))))
   (qh (qy (i:=5) z9.nd rfl (Or.inl rfl) (qw VD (pv 7) (pv 5)))))) qI)
   (qh (qQ (xr PySem.F.plainAttrs_list PySem.F.slot_list_append PySem.F.type_list_append zG (pv 3) (q5 (xj (q5 (pv 5) (q5 (qo G__law_end (hr.mono (by decide)) rfl T.F__law_end.mg T.F__law_end.fn.kp T.F__law_end.b .nil qX (q5 (pv 0) (q5 (qw zD qa (pv 4)) (q5 (pv 2) (q5 (pv 1) qd))))) qd))) qd)))))))
   (qh (qN (pv 3))))))),?_⟩
  try walk_at "rd"
  refine⟨_,ns,_,rfl,hS,?_⟩
  try walk_at "rd"
  refine⟨_,ns,_,rfl,hS,?_⟩
  try walk_at "rd"
  have m0:0<=mix ns 0 % 6/\mix ns 0 % 6<6:=⟨Int.emod_nonneg _ (by decide),Int.emod_lt_of_pos _ (by decide)⟩
  have m1:0<=mix ns 1 % 4/\mix ns 1 % 4<4:=⟨Int.emod_nonneg _ (by decide),Int.emod_lt_of_pos _ (by decide)⟩
  obtain⟨N,hN⟩:∃ N:Nat,1+mix ns 0 % 6=N:=⟨(1+mix ns 0 % 6).toNat,by omega⟩
  obtain⟨B,hB⟩:∃ B:Nat,1+mix ns 1 % 4=B:=⟨(1+mix ns 1 % 4).toNat,by omega⟩
  rw[hN,hB]
  refine⟨by decide,λp hp=>⟨by omega,by omega,kY (λi σ H'=>(∃ u1 u2 u3 u4,σ=[some (.ref s),some (.int N),some (.int B),some (.ref p),u1,u2,u3,u4])/\qq H H' /\
   ∃ xs bs,H' p=some (.lst xs)/\z5 (wg K (hide H' p)) xs bs/\bs.length=i/\∀ b∈bs,b.ds.length<=12/\(∀ d∈b.ds,ZR 6 d)/\okE 6 B b.en)
   ⟨⟨_,_,_,_,rfl⟩,qq.new hp,[],[],qg,.nil,rfl,λb h=>by cases h⟩ ?_ ?_⟩⟩
  ·rintro i σ H1 hi ⟨⟨u1,u2,u3,u4,rfl⟩,s1,xs,bs,hx,hA,hl,hg⟩
   have hi:i<B:=by simpa using hi
   try walk_at "rd"
   refine⟨.inl ⟨by decide,by decide⟩,_,ns,_,rfl,s1.seq hS,?_⟩
   try walk_at "rd"
   obtain⟨M,hM⟩:∃ M:Nat,mix ns (2+9*(0+i)) % 7=M/\M<7:=⟨(mix ns (2+9*(0+i)) % 7).toNat,by omega,by omega⟩
   rw[hM.1]
   refine⟨by omega,by omega,λl5 h5=>xF (λj σ H'=>(∃ u,σ=[u,some (.ref s),some (.int N),some (.int (0+i))])/\qq H1 H'/\Z4 K l5 j H') ⟨⟨_,rfl⟩,qq.new h5,.nil⟩ ?_ ?_⟩
   ·rintro j σ H2 hj ⟨⟨u,rfl⟩,s2,hD⟩
    try walk_at "rd"
    refine⟨.inl ⟨by decide,by decide⟩,_,_,_,ns,rfl,(s1.trans s2).seq hS,by omega,by omega,λq d H3 s3 hq hq0 gd=>?_⟩
    have hj:j<M:=by simpa using hj
    obtain⟨zs,z1,z2,z3⟩:=(hD.same s3).snoc hq (XA (by omega) gd) (by omega)
    dsimp only
    exact⟨zs,z1,z2,⟨_,rfl⟩,jv (s2.trans s3) h5,z3⟩
   ·rintro σ H2 ⟨_,s2,hD⟩
    have hD:Z4 K l5 M H2:=by simpa using hD
    have fin:∀ (l:Addr) (m:Nat) (H3:Hp) (R:Hp->Prop),l≠p->m<=12->qq H1 H3->Z4 K l m H3->(∀ H4,qq H H4->(∃ xs bs,H4 p=some (HO.lst xs)/\z5 (wg K (hide H4 p)) xs bs/\bs.length=i+1/\∀ (b:Blk),b∈bs->b.ds.length<=12/\(∀ (d:zQ),d∈b.ds->ZR 6 d)/\okE 6 B b.en)->R H4) ->
      tyV K "list" (V.ref p) H3/\WB K [V.ref s,V.int (48+(0+↑i)),V.int ↑B,V.int ↑N] H3 (λx H1=>2<=sizeLine/\∀ (p_1:Addr),H1 p_1=none->Jw (V.ref p) [V.ref p_1] (upd H1 p_1 (HO.tup [V.ref l,x])) λ_ H1=>R H1) E0:=by
     intro l m H3 R nlp hm s3 hD R0
     refine⟨.inl ⟨rfl,_,SqL.of (s3 _ _ hx)⟩,_,_,_,B,ns,rfl,(s1.trans s3).seq hS,by omega,by omega,by omega,λq e H4 s4 hq hq0 ge=>⟨by decide,λt ht=>?_⟩⟩
     have hx4:H4 p=some (.lst xs):=s4 _ _ (s3 _ _ hx)
     have ntp:p≠t:=qj hx4 ht
     have nqp:q≠p:=xZ hq hx4 (by intro z;cases z)
     have st:=qq.new (o:=.tup [.ref l,.ref q]) ht
     obtain⟨zs,ds,h1,h2,h3,h4⟩:=(hD.same s4).same st
     have hx5:=st _ _ hx4
     have hq5:=st _ _ hq
     have ht5:upd H4 t (.tup [.ref l,.ref q]) t=some (.tup [.ref l,.ref q]):=qg
     have s5:=(s3.trans s4).trans st
     generalize upd H4 t (.tup [.ref l,.ref q])=H5 at h1 h2 hx5 hq5 ht5 s5 ⊢
     refine⟨p,xs,.ref t,rfl,rfl,hx5,by rw[hA.1,hl];exact Nat.lt_trans (by omega:i<100) (by decide),R0 _ (jv (s1.trans s5) hp) ⟨_,bs++[⟨ds,e⟩],qg,?_,by rw[List.length_append,hl];rfl,λb hb=>?_⟩⟩
     ·rw[x6]
      refine z5.snoc (hA.imp λ_ _ z=>z.same (ja s5)) ?_
      exact⟨t,_,_,rfl,SqT.of (by rw[zb ntp.symm];exact ht5),⟨l,zs,rfl,(by rw[zb nlp];exact h1),h2.imp λ_ _ z=>z.ne hx5 λb hb=>zb hb⟩,⟨q,rfl,SqT.of (by rw[zb nqp];exact hq5)⟩⟩
     ·rcases List.mem_append.mp hb with hb|hb
      ·exact hg b hb
      ·rw[List.mem_singleton.mp hb]
       exact⟨by rw[h3];exact hm,h4,JQ (by omega) ge⟩
    have n5p:l5≠p:=λe=>by rw[e,hx] at h5;cases h5
    refine xN (λc=>⟨_,ns,_,rfl,(s1.trans s2).seq hS,?_⟩) (λc=>fin l5 M H2 _ n5p (by omega) s2 hD λH4 s4 h4=>⟨⟨_,_,_,_,rfl,rfl,rfl,rfl⟩,s4,h4⟩)
    try walk_at "rd"
    refine xN (λc2=>⟨by omega,by omega,λp6 h6=>?_⟩) (λc2=>fin l5 M H2 _ n5p (by omega) s2 hD λH4 s4 h4=>⟨⟨_,_,_,_,rfl,rfl,rfl,rfl⟩,s4,h4⟩)
    refine xF (λj σ H'=>(∃ u,σ=[u,some (.ref s)])/\qq H2 H'/\∃ ks:List Int,H' p6=some (.lst (ks.map V.int))/\ks.length=j) ⟨⟨_,rfl⟩,qq.new h6,[],qg,rfl⟩ ?_ ?_
    ·rintro j σ H3 hj ⟨⟨u,rfl⟩,s3,ks,hk,hkl⟩
     try walk_at "rd"
     refine⟨_,ns,_,rfl,((s1.trans s2).trans s3).seq hS,?_⟩
     try walk_at "rd"
     refine⟨_,hk,?_,⟨_,rfl⟩,jv s3 h6,ks++[mix ns (41+(0+j)) % 3],?_,?_⟩
     ·rw[List.length_map,hkl]
      exact Nat.lt_trans (by omega:j<100) (by decide)
     ·rw[qg,List.map_append]
      rfl
     ·rw[List.length_append,hkl]
      rfl
    ·rintro σ H3 ⟨_,s3,ks,hk,hkl⟩
     have hkl:ks.length=N:=by simpa using hkl
     refine⟨by omega,by omega,λp7 h7=>?_⟩
     refine xF (λj σ H'=>(∃ u,σ=[u,some (.ref p6)])/\qq H3 H'/\Z4 K p7 j H') ⟨⟨_,rfl⟩,qq.new h7,.nil⟩ ?_ ?_
     ·rintro j σ H4 hj ⟨⟨u,rfl⟩,s4,hD4⟩
      have hj:j<N:=by simpa using hj
      try walk_at "rd"
      refine qR (SqL.of (s4 _ _ hk)) (VZ (by omega) (by omega)) ?_
      try walk_at "rd"
      refine xN (λ_=>⟨by decide,λt ht=>?_⟩) (λ_=>⟨by decide,λt ht=>?_⟩)
      ·obtain⟨zs,z1,z2,z3⟩:=(hD4.same (qq.new ht)).snoc (d:=.input (0+j) ((0+j) % 3)) qg ⟨⟨rfl,⟨by omega,by omega⟩,by omega⟩,show(0+(j:Int)) % 3<2 ^ 64 by omega⟩ (by omega)
       exact⟨zs,z1,z2,⟨_,rfl⟩,jv (s4.trans (qq.new ht)) h7,z3⟩
      ·obtain⟨zs,z1,z2,z3⟩:=(hD4.same (qq.new ht)).snoc (d:=.set (0+j) ((0+j)+5)) qg ⟨⟨rfl,by omega,by omega⟩,trivial⟩ (by omega)
       exact⟨zs,z1,z2,⟨_,rfl⟩,jv (s4.trans (qq.new ht)) h7,z3⟩
     ·rintro σ H4 ⟨_,s4,hD4⟩
      have hD4:Z4 K p7 N H4:=by simpa using hD4
      obtain⟨x7,x5,e7,e5,len,mk⟩:=hD4.cat (hD.same (s3.trans s4)) (by omega)
      refine⟨p7,l5,_,_,rfl,rfl,e7,e5,len,λp8 h8=>fin p8 (N+M) _ _ ?_ (by omega) ((s2.trans (s3.trans s4)).trans (qq.new h8)) (mk p8 h8) λH5 s5 h5=>⟨⟨_,_,_,_,rfl,rfl,rfl,rfl⟩,s5,h5⟩⟩
      exact λe=>by
       rw[e,(s2.trans (s3.trans s4)) _ _ hx] at h8
       cases h8
  ·rintro σ H1 ⟨⟨u1,u2,u3,u4,rfl⟩,s1,xs,bs,hx,hA,hl,hg⟩
   have hl:bs.length=B:=by simpa using hl
   try walk_at "rd"
   exact q _ _ bs s1 ⟨p,xs,rfl,hp,hx,hA⟩ ⟨by omega,by omega,λb hb=>by rw[hl];exact hg b hb⟩
end
def Blk.bare (b:Blk):Blk:=⟨b.ds.filter λd=>!d.isMove,b.en⟩
def Yp (n:Int):zQ->Prop
 |.move p q=>((0<=p/\p<60)/\(0<=q/\q<60))/\¬ (n<=p/\n<=q)
 |_=>True
def v3 (n:Int)(bs:List Blk):Prop:=okSz 400 bs/\(∀ b∈bs,∀ d∈b.ds,Yp n d)/\okRw n (bs.map Blk.bare)
section
variable {P:Program}{w:World}{K:PySem.W.Frag}{mg:Str->Option Value}{base:Heap}
def jX (n:Int):Prop:=2<=n/\n<=16
def Qw (B:Addr):Sp:=λvs H Q E=>∃ n,vs=[.int n]/\(jX n->Q .non H)/\(¬ jX n->E (.ref B) none H)
theorem QP (T:Tx K w mg a):jA P w K mg base (CX1 P w) 1 a.check_pans a.fd_check_pans ["pans"] (Qw a.BadPans):=by
 refine T.F_check_pans.fn.ok1Q QH (λvs H Q E h=>?_) (λcdv A outer s H vs Q E hr h=>?_)
 ·obtain⟨n,rfl,_⟩:=h
  rfl
 ·obtain⟨n,rfl,q1,q2⟩:=h
  refine⟨_,(qh (zf (PW.pt (wj (qm yn (pv 0) (w5 T.FEWEST_PANS) (qC _)) (xz (qm XO (pv 0) (w5 T.MOST_PANS) (qC _))))) (qh (j5 T.xPans (jD (qB zP (qB (jV (w5 T.FEWEST_PANS)) (qB zP (qB (jV (w5 T.MOST_PANS)) (qB zP jF)))))))) qI)),?_⟩
  try walk_at "rd"
  refine xN (λc=>⟨j9 (by omega) (by omega),j9 (by omega) (by omega),λ_=>q2 λz=>?_⟩) (λc=>xN (λc2=>⟨j9 (by omega) (by omega),j9 (by omega) (by omega),λ_=>q2 λz=>?_⟩) (λc2=>q1 ⟨by omega,by omega⟩))
  ·have:=z.1
   omega
  ·have:=z.2
   omega
def Jj (K:PySem.W.Frag):Sp:=λvs H Q _=>∃ v b,vs=[v]/\Zu K H v b/\b.ds.length<1000/\∀ p xs H',qq H H'->H p=none->H' p=some (.lst xs)->z5 (j0 K H') xs (b.ds.filter zQ.isMove)->Q (.ref p) H'
theorem Jx (T:Tx K w mg a):jA P w K mg base CX0 2 a.moves_in a.fd_moves_in ["block"] (Jj K):=by
 refine T.F_moves_in.fn.okQ J4 (λvs H Q E h=>?_) (λcdv A outer s H vs Q E hr h=>?_)
 ·obtain⟨v,b,rfl,_⟩:=h
  rfl
 ·obtain⟨v,b,rfl,⟨p,dl,en,rfl,hT,⟨pd,xs,rfl,hL,hA⟩,hE⟩,hlen,q⟩:=h
  have G_is_move:=xC (P:=P) (w:=w) (base:=base) T
  refine⟨_,(qh (qN (zT (N:=["deed"]) (osc:=(q8 jc)) (on:=["block"]) (cap:=[none]) ⟨rfl,rfl,by decide +kernel⟩ rfl (z7 (qz qu (pv 0) qa (λ_ _=>rfl))) (λ_ _ _ _=>(qr (i:=0) (show List.Nodup (["deed"]:List Str) by decide +kernel) rfl (Or.inl rfl))) (λ_ _ _ _=>(xq (vJ (qo G_is_move (hr.mono (by decide)) rfl T.F_is_move.mg T.F_is_move.fn.kp T.F_is_move.b .nil qX (q5 (pv 0) qd)) (λ_=>rfl)))) (λ_ _ _ _=>(pv 0))))),?_⟩
  repeat (first|refine qi hT rfl ?_|walk_at "rd")
  refine⟨⟨_,hL⟩,λl hl=>jO xs (λi σ H'=>(∃ u,σ=[u])/\qq H H'/\∃ ys,H' l=some (.lst ys)/\z5 (j0 K H') ys ((b.ds.take i).filter zQ.isMove)) ⟨⟨_,rfl⟩,qq.new hl,[],qg,.nil⟩ (λi σ H' _ h=>h.2.1.seq hL) ?_ ?_⟩
  ·rintro i x σ H1 hi ⟨⟨u,rfl⟩,s1,ys,hy,hAy⟩
   obtain⟨d,hd,hD⟩:=hA.get hi
   have lti:=(List.getElem?_eq_some_iff.mp hd).1
   try walk_at "rd"
   refine⟨x,.dd d,rfl,hD.same s1,λH2 s2=>?_⟩
   dsimp only[Row.isMove,jH]
   rw[List.take_succ,hd,List.filter_append]
   have lenf:((b.ds.take i).filter zQ.isMove).length<=i:=Nat.le_trans (List.length_filter_le _ _) (by rw[List.length_take];exact Nat.min_le_left _ _)
   cases em:d.isMove with
   |true=>
    refine kW rfl ?_
    have e1:(Option.toList (some d)).filter zQ.isMove=[d]:=by simp[em]
    rw[e1]
    refine⟨ys,s2 _ _ hy,?_,⟨_,rfl⟩,jv (s1.trans s2) hl,_,qg,?_⟩
    ·rw[hAy.1]
     exact Nat.lt_of_le_of_lt lenf (Nat.lt_trans (by omega:i<1000) (by decide))
    ·exact((hAy.imp λ_ _ z=>z.same s2).snoc (hD.same (s1.trans s2))).imp λ_ _ z=>z.ne (s2 _ _ hy) λb hb=>qp hb
   |false=>
    refine vq rfl ?_
    have e1:(Option.toList (some d)).filter zQ.isMove=[]:=by simp[em]
    rw[e1,List.append_nil]
    exact⟨⟨_,rfl⟩,s1.trans s2,ys,s2 _ _ hy,hAy.imp λ_ _ z=>z.same s2⟩
  ·rintro σ H1 ⟨_,s1,ys,hy,hAy⟩
   rw[hA.1,List.take_length] at hAy
   exact q l ys H1 s1 hl hy hAy
def XG (K:PySem.W.Frag):Sp:=λvs H Q _=>∃ v bs,vs=[v]/\xy K H v bs/\bs.length<1000/\(∀ b∈bs,b.ds.length<1000)/\∀ v' H',qq H H'->jZ K H' v' (bs.map Blk.bare)->Q v' H'
theorem xQ (T:Tx K w mg a):jA P w K mg base CX0 2 a.without_moves a.fd_without_moves ["code"] (XG K):=by
 refine T.F_without_moves.fn.okQ jY (λvs H Q E h=>?_) (λcdv A outer s H vs Q E hr h=>?_)
 ·obtain⟨v,bs,rfl,_⟩:=h
  rfl
 ·obtain⟨v,bs,rfl,⟨pb,xs,rfl,hS,hA⟩,hl1,hl2,q⟩:=h
  have G_is_move:=xC (P:=P) (w:=w) (base:=base) T
  refine⟨_,(qf (qy (i:=1) jY.nd rfl (Or.inl rfl) (qO qd))
   (qf (zU PassesOwn.never rfl (z7 (pv 0)) (qr (i:=2) jY.nd rfl (Or.inl rfl))
    (qh (qQ (xr PySem.F.plainAttrs_list PySem.F.slot_list_append PySem.F.type_list_append zG (pv 1) (q5 (qH (q5 (zT (N:=["deed"]) (osc:=(q8 qW)) (on:=["code","bare","block"]) (cap:=[none]) ⟨rfl,rfl,by decide +kernel⟩ rfl (z7 (qz qu (pv 2) qa (λ_ _=>rfl))) (λ_ _ _ _=>(qr (i:=0) (show List.Nodup (["deed"]:List Str) by decide +kernel) rfl (Or.inl rfl))) (λ_ _ _ _=>(xq (yR (vJ (qo G_is_move (hr.mono (by decide)) rfl T.F_is_move.mg T.F_is_move.fn.kp T.F_is_move.b .nil qX (q5 (pv 0) qd)) (λ_=>rfl))))) (λ_ _ _ _=>(pv 0))) (q5 (qz qu (pv 2) qa (λ_ _=>rfl)) qd))) qd)))))
   (qh (qN (pv 1))))),?_⟩
  try walk_at "rd"
  refine⟨by decide,λp H0 n0=>⟨⟨_,n0.same.seq hS⟩,zz xs (λi σ H'=>(∃ u,σ=[some (.ref pb),some (.ref p),u])/\qq H H'/\∃ ys,H' p=some (.lst ys)/\z5 (wg K (hide H' p)) ys ((bs.take i).map Blk.bare))
   ⟨⟨_,rfl⟩,n0.same,[],n0.at_,.nil⟩ (λi σ H' _ h=>h.2.1.seq hS) ?_ ?_⟩⟩
  ·rintro i x σ H1 hi ⟨⟨u,rfl⟩,s1,ys,hy,hAy⟩
   obtain⟨b,hbi,qb,dl,en,rfl,hBT,⟨pd,zs,rfl,hDL,hDA⟩,hE⟩:=hA.get hi
   have lti:=(List.getElem?_eq_some_iff.mp hbi).1
   have hlb:=hl2 b (List.mem_of_getElem? hbi)
   try walk_at "rd"
   refine⟨.inl ⟨rfl,_,SqL.of hy⟩,qi (s1.seqT hBT) rfl ⟨⟨_,s1.seq hDL⟩,λl hl=>?_⟩⟩
   have nl:l≠p:=λe=>by rw[e,hy] at hl;cases hl
   refine jO zs (λj σ H'=>(∃ u,σ=[u])/\qq H1 H'/\∃ ws,H' l=some (.lst ws)/\z5 (j0 K H') ws ((b.ds.take j).filter λd=>!d.isMove)) ⟨⟨_,rfl⟩,qq.new hl,[],qg,.nil⟩ (λi σ H' _ h=>(s1.trans h.2.1).seq hDL) ?_ ?_
   ·rintro j x σ H2 hj ⟨⟨u,rfl⟩,s2,ws,hw,hAw⟩
    obtain⟨d,hd,hD⟩:=hDA.get hj
    have ltj:=(List.getElem?_eq_some_iff.mp hd).1
    try walk_at "rd"
    refine⟨x,.dd d,rfl,hD.same (s1.trans s2),λH3 s3=>?_⟩
    dsimp only[Row.isMove,jH]
    rw[List.take_succ,hd,List.filter_append]
    have lenf:((b.ds.take j).filter λd=>!d.isMove).length<=j:=Nat.le_trans (List.length_filter_le _ _) (by rw[List.length_take];exact Nat.min_le_left _ _)
    cases em:d.isMove with
    |false=>
     refine kW rfl ?_
     have e1:(Option.toList (some d)).filter (λd=>!d.isMove)=[d]:=by simp[em]
     rw[e1]
     refine⟨ws,s3 _ _ hw,?_,⟨_,rfl⟩,jv (s2.trans s3) hl,_,qg,?_⟩
     ·rw[hAw.1]
      exact Nat.lt_of_le_of_lt lenf (Nat.lt_trans (by omega:j<1000) (by decide))
     ·exact((hAw.imp λ_ _ z=>z.same s3).snoc (hD.same (s1.trans (s2.trans s3)))).imp λ_ _ z=>z.ne (s3 _ _ hw) λb hb=>qp hb
    |true=>
     refine vq rfl ?_
     have e1:(Option.toList (some d)).filter (λd=>!d.isMove)=[]:=by simp[em]
     rw[e1,List.append_nil]
     exact⟨⟨_,rfl⟩,s2.trans s3,ws,s3 _ _ hw,hAw.imp λ_ _ z=>z.same s3⟩
   ·rintro σ H2 ⟨_,s2,ws,hw,hAw⟩
    rw[hDA.1,List.take_length] at hAw
    refine qi ((s1.trans s2).seqT hBT) rfl ⟨by decide,λt H3 n3=>?_⟩
    have hy3:=n3.same _ _ (s2 _ _ hy)
    have s3:=s2.trans n3.same
    refine⟨p,ys,.ref t,rfl,rfl,hy3,?_,⟨_,rfl⟩,jv (s1.trans s3) n0.fr,_,qg,?_⟩
    ·rw[hAy.1,List.length_map,List.length_take]
     exact Nat.lt_of_le_of_lt (Nat.min_le_right _ _) (Nat.lt_trans hl1 (by decide))
    ·rw[x6,List.take_succ,hbi,List.map_append]
     have sh:=Zy (s1.trans s3) n0.fr
     have nt:t≠p:=xZ n3.at_ hy3 (by intro z;cases z)
     refine z5.append (hAy.imp λ_ _ z=>z.same (ja s3)) (.cons ?_ .nil)
     exact⟨t,_,_,rfl,SqT.of (by rw[zb nt];exact n3.at_),⟨l,ws,rfl,(by rw[zb nl];exact n3.same _ _ hw),hAw.imp λ_ _ z=>(z.same n3.same).ne hy3 λb hb=>zb hb⟩,hE.same sh⟩
  ·rintro σ H1 ⟨⟨u,rfl⟩,s1,ys,hy,hAy⟩
   rw[hA.1,List.take_length] at hAy
   try walk_at "rd"
   exact q _ _ s1 ⟨p,ys,rfl,hy,hAy.imp λ_ _ z=>z.same zp⟩
def QM (K:PySem.W.Frag)(B:Addr):Sp:=λvs H Q E=>∃ v x y n m,vs=[v,.int n,.int m]/\0<=m/\m<1000/\j0 K H v (.move x y)/\(Yp n (.move x y)->∀ H',qq H H'->Q .non H')/\(¬ Yp n (.move x y)->∀ H',qq H H'->E (.ref B) none H')
theorem QN (T:Tx K w mg a):jA P w K mg base (CX1 P w) 1 a.check_move a.fd_check_move ["move","pans","number"] (QM K a.BadProgram):=by
 refine T.F_check_move.fn.ok1Q kP (λvs H Q E h=>?_) (λcdv A outer s H vs Q E hr h=>?_)
 ·obtain⟨v,x,y,n,m,rfl,_⟩:=h
  rfl
 ·obtain⟨v,x,y,n,m,rfl,hm0,hm1,⟨p,rfl,hS⟩,q1,q2⟩:=h
  have lm:=j9 (i:=m) (by omega) (by omega)
  refine⟨_,(qf (zf (qm yA (qP ze (by rfl) T.len PySem.boot_len (q5 (pv 0) qd)) qa (qC _)) (qh (j5 T.xBad (jD (qB zP (qB (jV (pv 2)) (qB zP jF)))))) qI)
   (qf (zU PassesOwn.leaving rfl (ww (qY Wy (pv 0) (zk qa) zv)) (qr (i:=3) kP.nd rfl (Or.inl rfl))
    (qh (zf (PW.pt (wj (qm yn (pv 3) qa (qC _)) (xz (qm Vm (pv 3) (w5 T.PLACES) (qC _))))) (qh (j5 T.xBad (jD (qB zP (qB (jV (pv 2)) (qB zP jF)))))) qI)))
   (qh (zf (PW.pt (vO (qm Vm (qz qu (pv 0) qa (λ_ _=>rfl)) (pv 1) (qC _)) (xt (qm Vm (qz qu (pv 0) qa (λ_ _=>rfl)) (pv 1) (qC _))))) (qh (j5 T.xBad (jD (qB zP (qB (jV (pv 2)) (qB zP jF)))))) qI)))),?_⟩
  simp only[zQ.vs] at hS
  try walk_at "st"
  refine⟨p,_,rfl,hS,λz=>?_,λp1 h1=>?_⟩
  ·have z2:=z.1
   simp[HT.sIx] at z2
  have e1:QU [V.str (Str.ofString "move"),V.int x,V.int y] (some 1) none=[V.int x,V.int y]:=by simp[QU,HT.sIx]
  rw[e1]
  have s1:=qq.new (o:=.tup [V.int x,V.int y]) h1
  have hT1:SqT K (upd H p1 (.tup [V.int x,V.int y])) p1 [V.int x,V.int y]:=SqT.of qg
  generalize upd H p1 (.tup [V.int x,V.int y])=H1 at s1 hT1 ⊢
  have hS:=s1.seqT hS
  refine⟨⟨_,hT1⟩,JK [V.int x,V.int y] (λi σ H'=>H'=H1/\(∃ u,σ=[some (.ref p),some (.int n),some (.int m),u])/\(1<=i->0<=x/\x<60)/\(2<=i->0<=y/\y<60)) ⟨rfl,⟨_,rfl⟩,λz=>by omega,λz=>by omega⟩ (λi σ H' _ h=>by rw[h.1];exact hT1) ?_ ?_⟩
  ·rintro i z σ H' hi ⟨rfl,⟨u,rfl⟩,hb,hb2⟩
   match i,hi with
   |0,hi=>
    cases hi
    try walk_at "rd"
    refine xN (λc1=>⟨lm,λ_=>q2 (λy=>?_) _ s1⟩) (λc1=>xN (λc2=>⟨lm,λ_=>q2 (λy=>?_) _ s1⟩) (λc2=>⟨⟨_,rfl⟩,λ_=>⟨by omega,by omega⟩,λz=>by omega⟩))
    ·have:=y.1.1.1
     omega
    ·have:=y.1.1.2
     omega
   |1,hi=>
    cases hi
    try walk_at "rd"
    refine xN (λc1=>⟨lm,λ_=>q2 (λy=>?_) _ s1⟩) (λc1=>xN (λc2=>⟨lm,λ_=>q2 (λy=>?_) _ s1⟩) (λc2=>⟨⟨_,rfl⟩,λ_=>hb (Nat.le_refl _),λz=>⟨by omega,by omega⟩⟩))
    ·have:=y.1.2.1
     omega
    ·have:=y.1.2.2
     omega
  ·rintro σ H' ⟨rfl,⟨u,rfl⟩,hb,hb2⟩
   have hx:=hb (by simp)
   have hy:=hb2 (by simp)
   try walk_at "st"
   refine xN (λc1=>?_) (λc1=>q1 ⟨⟨hx,hy⟩,λz=>c1 z.1⟩ _ s1)
   try walk_at "st"
   exact xN (λc2=>⟨lm,λ_=>q2 (λz=>z.2 ⟨c1,c2⟩) _ s1⟩) (λc2=>q1 ⟨⟨hx,hy⟩,λz=>c2 z.2⟩ _ s1)
def QO (K:PySem.W.Frag)(B BP:Addr):Sp:=λvs H Q E=>∃ v bs n,vs=[v,.int n]/\xy K H v bs/\(¬ jX n->∀ H',qq H H'->E (.ref BP) none H')/\(jX n->¬ v3 n bs->∀ H',qq H H'->E (.ref B) none H')/\(jX n->v3 n bs->∀ H',qq H H'->Q .non H')
theorem QC (T:Tx K w mg a):jA P w K mg base (CX1 P w) 5 a.check_code a.fd_check_code ["code","pans"] (QO K a.BadProgram a.BadPans):=by
 refine T.F_check_code.fn.ok1Q x4 (λvs H Q E h=>?_) (λcdv A outer s H vs Q E hr h=>?_)
 ·obtain⟨v,bs,n,rfl,_⟩:=h
  rfl
 ·obtain⟨v,bs,n,rfl,hP,q0,q1,q2⟩:=h
  have G_check_pans:=QP (P:=P) (base:=base) T
  have G_check_sizes:=vK (P:=P) (base:=base) T
  have G_moves_in:=Jx (P:=P) (w:=w) (base:=base) T
  have G_check_move:=QN (P:=P) (base:=base) T
  have G_without_moves:=xQ (P:=P) (w:=w) (base:=base) T
  have G_check_rows:=kt (P:=P) (base:=base) T
  refine⟨_,(qf (qQ (qo G_check_pans (hr.mono (by decide)) rfl T.F_check_pans.mg T.F_check_pans.fn.kp T.F_check_pans.b .nil (wF λ_ _ _ h=>h) (q5 (pv 1) qd)))
   (qf (qQ (qo G_check_sizes (hr.mono (by decide)) rfl T.F_check_sizes.mg T.F_check_sizes.fn.kp T.F_check_sizes.b .nil (wF λ_ _ _ h=>h) (q5 (pv 0) (q5 (w5 T.MOST_DEEDS_codes) qd))))
   (qf (zU PassesOwn.leaving rfl (w8 rfl T.enumerate (q5 (pv 0) qd)) (x9 rfl (qL (qr (i:=2) x4.nd rfl (Or.inl rfl)) (qL (qr (i:=3) x4.nd rfl (Or.inl rfl)) jn)))
    (qh (zU PassesOwn.leaving rfl (z7 (qo G_moves_in (hr.mono (by decide)) rfl T.F_moves_in.mg T.F_moves_in.fn.kp T.F_moves_in.b .nil qX (q5 (pv 3) qd))) (qr (i:=4) x4.nd rfl (Or.inl rfl))
    (qh (qQ (qo G_check_move (hr.mono (by decide)) rfl T.F_check_move.mg T.F_check_move.fn.kp T.F_check_move.b .nil (wF λ_ _ _ h=>h) (q5 (pv 4) (q5 (pv 1) (q5 (pv 2) qd)))))))))
   (qh (qQ (qo G_check_rows (hr.mono (by decide)) rfl T.F_check_rows.mg T.F_check_rows.fn.kp T.F_check_rows.b .nil (wF λ_ _ _ h=>h) (q5 (qo G_without_moves (hr.mono (by decide)) rfl T.F_without_moves.mg T.F_without_moves.fn.kp T.F_without_moves.b .nil qX (q5 (pv 0) qd)) (q5 (pv 1) qd)))))))),?_⟩
  try walk_at "rd"
  refine⟨n,rfl,λhn=>?_,λhn=>q0 hn _ (qq.refl _)⟩
  try walk_at "rd"
  refine⟨v,bs,400,rfl,by decide,by decide,hP,λhz H1 s1=>?_,λhz H1 s1=>q1 hn (λc=>hz c.1) _ s1⟩
  obtain⟨p,xs,rfl,hS,hA⟩:=hP
  try walk_at "rd"
  refine⟨⟨_,s1.seq hS⟩,wY xs (λi σ H'=>qq H H'/\(∃ u1 u2 u3,σ=[some (.ref p),some (.int n),u1,u2,u3])/\∀ j,j<i->∀ b,bs[j]?=some b->∀ d∈b.ds,Yp n d)
   ⟨s1,⟨_,_,_,rfl⟩,λj h=>absurd h (by omega)⟩ (λi σ H' _ h=>h.1.seq hS) ?_ ?_⟩
  ·rintro i x t σ H' hx ht ⟨hs,⟨u1,u2,u3,rfl⟩,hb⟩
   obtain⟨b,hbi,hB⟩:=hA.get hx
   have hs2:=hs.trans (qq.new (o:=.tup [.int i,x]) ht)
   have hmem:=List.mem_of_getElem? hbi
   have hi:i<12:=by
    have:=(List.getElem?_eq_some_iff.mp hbi).1
    have:=hz.2.1
    omega
   have hbl:b.ds.length<=400:=by have:=hz.2.2 b hmem;omega
   have hT2:SqT K (upd H' t (.tup [.int i,x])) t [.int i,x]:=SqT.of qg
   generalize upd H' t (.tup [.int i,x])=H2 at hs2 hT2 ⊢
   try walk_at "rd"
   refine⟨t,_,rfl,hT2,rfl,_,_,rfl,_,_,rfl,rfl,?_⟩
   refine⟨x,b,rfl,hB.same hs2,by omega,λl ms H3 s3 hl0 hl hAm=>?_⟩
   have hs3:=hs2.trans s3
   try walk_at "rd"
   refine⟨⟨_,SqL.of hl⟩,zz ms (λk σ H'=>qq H3 H'/\(∃ u,σ=[some (.ref p),some (.int n),some (.int i),some x,u])/\∀ j,j<k->∀ d,(b.ds.filter zQ.isMove)[j]?=some d->Yp n d)
    ⟨qq.refl _,⟨_,rfl⟩,λj h=>absurd h (by omega)⟩ (λi σ H' _ h=>h.1.seq (SqL.of hl)) ?_ ?_⟩
   ·rintro k y σ H4 hy ⟨s4,⟨u,rfl⟩,hb2⟩
    obtain⟨d,hd,hD⟩:=hAm.get hy
    have hdm:=List.mem_of_getElem? hd
    obtain⟨hd1,hd2⟩:=List.mem_filter.mp hdm
    cases d with
    |move x1 y1=>
     try walk_at "rd"
     refine⟨y,x1,y1,n,i,rfl,by omega,by omega,hD.same s4,λz H5 s5=>⟨s4.trans s5,⟨_,rfl⟩,λj hj d' hd'=>?_⟩,λz H5 s5=>q1 hn (λc=>z (c.2.1 b hmem _ hd1)) _ (hs3.trans (s4.trans s5))⟩
     by_cases e:j=k
     ·subst e
      rw[hd] at hd'
      cases hd'
      exact z
     ·exact hb2 j (by omega) d' hd'
    |_=>cases hd2
   ·rintro σ H4 ⟨s4,⟨u,rfl⟩,hb2⟩
    refine⟨hs3.trans s4,⟨_,_,_,rfl⟩,λj hj b' hb' d hd=>?_⟩
    by_cases e:j=i
    ·subst e
     rw[hbi] at hb'
     cases hb'
     cases d with
     |move x1 y1=>
      obtain⟨k,hk,ek⟩:=List.mem_iff_getElem.mp (List.mem_filter.mpr ⟨hd,(rfl:zQ.isMove (.move x1 y1)=true)⟩)
      exact hb2 k (by rw[hAm.1];exact hk) _ (by rw[List.getElem?_eq_getElem hk,ek])
     |_=>trivial
    ·exact hb j (by omega) b' hb' d hd
  ·rintro σ H4 ⟨s4,⟨u1,u2,u3,rfl⟩,hb⟩
   have hmv:∀ b∈bs,∀ d∈b.ds,Yp n d:=λb hb'=>by
    obtain⟨j,hj,e⟩:=List.mem_iff_getElem.mp hb'
    exact hb j (by rw[hA.1];exact hj) b (by rw[List.getElem?_eq_getElem hj,e])
   have hl12:=hz.2.1
   try walk_at "rd"
   refine⟨_,bs,rfl,xy.same ⟨p,xs,rfl,hS,hA⟩ s4,by omega,λb hb'=>by have:=hz.2.2 b hb';omega,λv' H5 s5 hP5=>?_⟩
   try walk_at "rd"
   refine⟨v',_,n,rfl,by rw[List.length_map];omega,hP5.at_,λz H6 s6=>q2 hn ⟨hz,hmv,z⟩ _ (s4.trans (s5.trans s6)),λz H6 s6=>q1 hn (λc=>z c.2.2) _ (s4.trans (s5.trans s6))⟩
end
theorem vh {i:Int}(h0:0<=i)(h:xs[i.toNat]?=some x):atI xs i=some x:=by
 have lt:=(List.getElem?_eq_some_iff.mp h).1
 unfold atI ixN
 rw[if_pos h0,if_pos (by omega)]
 exact h
section
variable {P:Program}{w:World}{K:PySem.W.Frag}{mg:Str->Option Value}{base:Heap}
def XH (K:PySem.W.Frag):Sp:=λvs H Q _=>∃ v b,vs=[v]/\wg K H v b/\b.ds.length<1000/\∀ l xs H',qq H H'->H l=none->H' l=some (.lst xs)->z5 (jp K H') xs b.rows->Q (.ref l) H'
theorem yM (T:Tx K w mg a):jA P w K mg base CX0 1 a.rows_of a.fd_rows_of ["block"] (XH K):=by
 refine T.F_rows_of.fn.okQ XS (λvs H Q E h=>?_) (λcdv A outer s H vs Q E hr h=>?_)
 ·obtain⟨v,b,rfl,_⟩:=h
  rfl
 ·obtain⟨v,b,rfl,⟨p,dl,en,rfl,hT,⟨pd,xs,rfl,hD,hA⟩,hE⟩,hn,q⟩:=h
  refine⟨_,(qh (qN (qw zm (qz qu (pv 0) qa (λ_ _=>rfl)) (qO (q5 (qz qu (pv 0) qa (λ_ _=>rfl)) qd))))),?_⟩
  try walk_at "rd"
  refine qi hT rfl (qi hT rfl ⟨by decide,λp1 H1 n1=>?_⟩)
  refine⟨pd,p1,xs,_,rfl,rfl,n1.same _ _ hD,n1.at_,?_,λp2 H2 n2=>?_⟩
  ·rw[hA.1]
   exact Nat.le_trans (Nat.succ_le_of_lt (Nat.lt_of_le_of_lt (Nat.le_refl _) hn)) (by decide)
  ·have s2:=n1.same.trans n2.same
   refine q p2 _ H2 s2 (n1.same.free n2.fr) n2.at_ ?_
   unfold Blk.rows
   refine z5.append ⟨by rw[hA.1,List.length_map],λi x r hx hr=>?_⟩ (.cons (jp.ee (hE.same s2)) .nil)
   rw[List.getElem?_map] at hr
   obtain⟨d,hd,rfl⟩:=Option.map_eq_some_iff.mp hr
   exact jp.dd ((hA.2 i x d hx hd).same s2)
def Zs:Sp:=λvs H Q _=>∃ p q d h,vs=[.int p,.int q,.ref d]/\HDO H d h/\0<=p/\p<60/\∀ H',UpD d H H'->HDO H' d (jB p q h)->Q .non H'
theorem QY (T:Tx K w mg a):jA P w K mg base CX0 1 a.note_move a.fd_note_move ["place","source","held"] Zs:=by
 refine T.F_note_move.fn.okQ Z6 (λvs H Q E h=>?_) (λcdv A outer s H vs Q E hr h=>?_)
 ·obtain⟨p,q,d,h,rfl,_⟩:=h
  rfl
 ·obtain⟨p,q,d,h,rfl,⟨kvs,hd,r⟩,p0,p1,Qn⟩:=h
  have hu:=yF hr
  have lenk:kvs.length<sizeLine:=Nat.lt_of_le_of_lt r.len (by decide)
  refine⟨_,(qh (zf (Ze (X0 hu (pv 1) (pv 2))) (qh (v6 hu (pv 2) (pv 0) (v5 hu (pv 2) (pv 1) (λ_ _=>rfl)) rfl)) (qh (qQ (wO (pv 2) (pv 0) kH ⟨rfl,rfl,rfl,rfl⟩))))),?_⟩
  try walk_at "rd"
  refine⟨_,r.get (k:=q) (.inl hd),?_⟩
  cases e:h q with
  |some x=>
   refine kW rfl ?_
   try walk_at "rd"
   refine⟨_,r.gets (.inl hd) e,_,Xa.k (k:=Sum.inl p) hd lenk,Qn _ UpD.upd ⟨_,qg,r.put p0 p1 λj=>?_⟩⟩
   unfold jB
   rw[e]
  |none=>
   refine vq rfl ?_
   try walk_at "rd"
   refine⟨.inl ⟨kvs,.inl hd⟩,kvs,Sum.inl p,hd,rfl,λv hv=>Qn _ UpD.upd ⟨_,qg,r.drop λj=>?_⟩,λhn=>Qn _ UpD.refl ⟨_,hd,r.congr λj=>?_⟩⟩
   ·unfold jB
    rw[e]
   ·unfold jB
    by_cases ej:j=p
    ·rw[if_pos ej,e,ej]
     rw[r.val p] at hn
     cases hp:h p with
     |none=>rfl
     |some y=>rw[hp] at hn;cases hn
    ·rw[if_neg ej]
def Qp:Sp:=λvs H Q _=>∃ n p d h,vs=[.int n,.int p,.ref d]/\HDO H d h/\0<=p/\p<60/\∀ H',UpD d H H'->HDO H' d (jo n p h)->Q .non H'
theorem QI (T:Tx K w mg a):jA P w K mg base CX0 1 a.note_given a.fd_note_given ["name","place","held"] Qp:=by
 refine T.F_note_given.fn.okQ kC (λvs H Q E h=>?_) (λcdv A outer s H vs Q E hr h=>?_)
 ·obtain⟨n,p,d,h,rfl,_⟩:=h
  rfl
 ·obtain⟨n,p,d,h,rfl,⟨kvs,hd,r⟩,p0,p1,Qn⟩:=h
  have hu:=yF hr
  refine⟨_,(qf (zU PassesOwn.never rfl (z7 (jx (Xm rfl) (by rfl) T.list PyProof.Rows.boot_list (q5 (pv 2) qd))) (qr (i:=3) kC.nd rfl (Or.inl rfl))
    (qh (zf (qm jq (v5 hu (pv 2) (pv 3) (λ_ _=>rfl)) (pv 0) (qC _)) (qh (qQ (wR (pv 2) (pv 3) ⟨rfl,rfl,rfl,rfl⟩))) qI)))
   (qh (v6 hu (pv 2) (pv 1) (pv 0) rfl))),?_⟩
  try walk_at "rd"
  refine⟨d,kvs,rfl,.inl hd,λl hl=>?_⟩
  have nl:d≠l:=qj hd hl
  have hd1:upd H l (.lst (kvs.map λp=>kV p.1)) d=some (.dK kvs):=by rw[qp nl];exact hd
  have hl1:upd H l (.lst (kvs.map λp=>kV p.1)) l=some (.lst (kvs.map λp=>kV p.1)):=qg
  have s1:qq H (upd H l (.lst (kvs.map λp=>kV p.1))):=qq.new hl
  generalize upd H l (.lst (kvs.map λp=>kV p.1))=H1 at hd1 hl1 s1 ⊢
  try walk_at "rd"
  refine⟨⟨_,SqL.of hl1⟩,zz _ (λi σ H'=>(∃ u,σ=[some (.int n),some (.int p),some (.ref d),u])/\UpD d H1 H'/\H' l=some (.lst (kvs.map λp=>kV p.1))/\HDO H' d (wH ((kvs.take i).map (·.1)) n h))
   ⟨⟨_,rfl⟩,UpD.refl,hl1,kvs,hd1,r.congr Ke⟩ (λi σ H' _ z=>SqL.of z.2.2.1) ?_ ?_⟩
  ·rintro i x σ H2 hi ⟨⟨u,rfl⟩,u2,hl2,kvs2,hd2,r2⟩
   rw[List.getElem?_map] at hi
   obtain⟨⟨k,v⟩,hk,rfl⟩:=Option.map_eq_some_iff.mp hi
   obtain⟨q,m,rfl,rfl,hq,q0,q1⟩:=r.at hk
   have hnot:=r.notin hk
   have hq2:wH ((kvs.take i).map (·.1)) n h q=some m:=(VW hnot).trans hq
   have htk:(kvs.take (i+1)).map (·.1)=(kvs.take i).map (·.1)++[Sum.inl q]:=by
    rw[List.take_succ,hk,List.map_append]
    rfl
   try walk_at "rd"
   refine⟨_,r2.gets (.inl hd2) hq2,?_⟩
   try walk_at "rd"
   refine xN (λc=>?_) (λc=>?_)
   ·subst c
    refine⟨.inl ⟨kvs2,.inl hd2⟩,kvs2,Sum.inl q,.int m,hd2,rfl,by rw[r2.val q,hq2];rfl,⟨_,rfl⟩,u2.trans UpD.upd,?_,_,qg,r2.drop λj=>?_⟩
    ·rw[qp nl.symm]
     exact hl2
    ·rw[htk]
     exact Xe hq j
   ·refine⟨⟨_,rfl⟩,u2,hl2,kvs2,hd2,r2.congr λj=>?_⟩
    rw[htk]
    exact Jv (λz=>c (Option.some.inj (hq.symm.trans z))) j
  ·rintro σ H2 ⟨⟨u,rfl⟩,u2,hl2,kvs2,hd2,r2⟩
   rw[List.length_map,List.take_length] at r2
   have lenk:kvs2.length<sizeLine:=Nat.lt_of_le_of_lt r2.len (by decide)
   try walk_at "rd"
   refine⟨_,Xa.k (k:=Sum.inl p) hd2 lenk,Qn _ (((UpD.of s1).trans u2).trans UpD.upd) ⟨_,qg,r2.put p0 p1 λj=>?_⟩⟩
   rw[Ks r]
   rfl
def Zq (K:PySem.W.Frag):Sp:=λvs H Q _=>∃ v c d h x,vs=[v,c,.ref d]/\kJ K H v x.1/\jp K H c x.2/\KA x/\HDO H d h/\∀ H',UpD d H H'->HDO H' d (jt x h)->Q .non H'
theorem wm (T:Tx K w mg a):jA P w K mg base CX0 2 a.take_note a.fd_take_note ["row","code_row","held"] (Zq K):=by
 refine T.F_take_note.fn.okQ v9 (λvs H Q E h=>?_) (λcdv A outer s H vs Q E hr h=>?_)
 ·obtain⟨v,c,d,h,x,rfl,_⟩:=h
  rfl
 ·obtain⟨v,c,d,h,⟨o,cr⟩,rfl,hv,hc,ok,hD,Qn⟩:=h
  have hu:=yF hr
  have G_is_move:=xC (P:=P) (w:=w) (base:=base) T
  have G_note_move:=QY (P:=P) (w:=w) (base:=base) T
  have G_note_given:=QI (P:=P) (w:=w) (base:=base) T
  have G_given_in:=y4 (P:=P) (w:=w) (base:=base) T
  refine⟨_,(qh (zf (vJ (qo G_is_move (hr.mono (by decide)) rfl T.F_is_move.mg T.F_is_move.fn.kp T.F_is_move.b .nil qX (q5 (pv 1) qd)) (λ_=>rfl)) (qh (qQ (qo G_note_move (hr.mono (by decide)) rfl T.F_note_move.mg T.F_note_move.fn.kp T.F_note_move.b .nil qX (q5 (qz qu (pv 1) qa (λ_ _=>rfl)) (q5 (qz qu (pv 1) qa (λ_ _=>rfl)) (q5 (pv 2) qd)))))) (qh (zU PassesOwn.never rfl (yQ rfl T.zip (q5 (qo G_given_in (hr.mono (by decide)) rfl T.F_given_in.mg T.F_given_in.fn.kp T.F_given_in.b .nil qX (q5 (pv 0) qd)) (q5 (qo G_given_in (hr.mono (by decide)) rfl T.F_given_in.mg T.F_given_in.fn.kp T.F_given_in.b .nil qX (q5 (pv 1) qd)) qd))) (x9 rfl (qL (qr (i:=3) v9.nd rfl (Or.inl rfl)) (qL (qr (i:=4) v9.nd rfl (Or.inl rfl)) jn)))
    (qh (qQ (qo G_note_given (hr.mono (by decide)) rfl T.F_note_given.mg T.F_note_given.fn.kp T.F_note_given.b .nil qX (q5 (pv 3) (q5 (pv 4) (q5 (pv 2) qd)))))))))),?_⟩
  try walk_at "rd"
  refine⟨c,cr,rfl,hc,λH1 s1=>?_⟩
  try walk_at "rd"
  obtain⟨kvs,hd,r⟩:=hD
  cases hm:cr.isMove with
  |true=>
   obtain⟨p,q,rfl⟩:=xb hm
   refine kW rfl ?_
   obtain⟨pc,rfl,hS⟩:=hc
   exact qi (s1.seqT hS) rfl (qi (s1.seqT hS) rfl ⟨p,q,d,h,rfl,⟨kvs,s1 _ _ hd,r⟩,ok.1,ok.2,λH' u hD=>Qn _ ((UpD.of s1).trans u) hD⟩)
  |false=>
   refine vq rfl ?_
   obtain⟨rr,rfl,rm,hp,eT,_⟩:=ok.bare hm
   refine⟨v,rr,rfl,jp.same hv s1,rm,λl1 k1=>?_⟩
   have s2:=s1.trans (qq.new (o:=.lst (List.map V.int rr.gv)) k1)
   have a1:upd H1 l1 (.lst (List.map V.int rr.gv)) l1=some (.lst (List.map V.int rr.gv)):=qg
   generalize upd H1 l1 (.lst (List.map V.int rr.gv))=H2 at s2 a1 ⊢
   refine⟨c,cr,rfl,hc.same s2,hm,λl2 k2=>?_⟩
   have s3:=s2.trans (qq.new (o:=.lst (List.map V.int cr.gv)) k2)
   have a1:=qq.new (o:=.lst (List.map V.int cr.gv)) k2 _ _ a1
   have a2:upd H2 l2 (.lst (List.map V.int cr.gv)) l2=some (.lst (List.map V.int cr.gv)):=qg
   generalize upd H2 l2 (.lst (List.map V.int cr.gv))=H3 at s3 a1 a2 ⊢
   have hd3:=s3 _ _ hd
   have n1:l1≠d:=xZ a1 hd3 (by intro z;cases z)
   have n2:l2≠d:=xZ a2 hd3 (by intro z;cases z)
   refine⟨l1,l2,⟨rfl,rfl⟩,⟨_,SqL.of a1⟩,⟨_,SqL.of a2⟩,W9 (rr.gv.map V.int) (cr.gv.map V.int) (λi σ H'=>(∃ u w,σ=[some v,some c,some (.ref d),u,w])/\UpD d H3 H'/\HDO H' d (zX (rr.gv.take i) (cr.gv.take i) h))
    ⟨⟨_,_,rfl⟩,UpD.refl,kvs,hd3,r⟩ (λi σ H' _ z=>⟨SqL.of (z.2.1 _ _ n1 a1),SqL.of (z.2.1 _ _ n2 a2)⟩) ?_ ?_⟩
   ·rintro i x y t σ H4 hx hy ht ⟨⟨u,w1,rfl⟩,u4,kvs4,hd4,r4⟩
    rw[List.getElem?_map] at hx hy
    obtain⟨n,hn,rfl⟩:=Option.map_eq_some_iff.mp hx
    obtain⟨p,hp2,rfl⟩:=Option.map_eq_some_iff.mp hy
    have s5:=qq.new (o:=.tup [.int n,.int p]) ht
    have hT5:SqT K (upd H4 t (.tup [.int n,.int p])) t [.int n,.int p]:=SqT.of qg
    generalize upd H4 t (.tup [.int n,.int p])=H5 at s5 hT5 ⊢
    try walk_at "rd"
    refine⟨t,_,rfl,hT5,rfl,_,_,rfl,_,_,rfl,rfl,n,p,d,_,rfl,⟨kvs4,s5 _ _ hd4,r4⟩,(hp p (List.mem_of_getElem? hp2)).1,(hp p (List.mem_of_getElem? hp2)).2,λH6 u6 hD6=>⟨⟨_,_,rfl,rfl⟩,(u4.trans (UpD.of s5)).trans u6,?_⟩⟩
    rw[wp hn hp2]
    exact hD6
   ·rintro σ H4 ⟨⟨u,w1,rfl⟩,u4,hD4⟩
    rw[List.length_map,List.length_map,wo] at hD4
    refine Qn _ ((UpD.of s3).trans u4) ?_
    rw[eT]
    exact hD4
def QG (K:PySem.W.Frag):Sp:=λvs H Q _=>∃ v c d h x,vs=[v,c,.ref d]/\kJ K H v x.1/\jp K H c x.2/\KA x/\HDO H d h/\∀ H',qq H H'->Q (.bl (zF x h)) H'
theorem rd_len (r:Row):r.rd.length<=2:=by
 cases r with
 |dd d=>cases d <;> simp[Row.rd,zQ.rd]
 |ee e=>cases e <;> simp[Row.rd,En.rd]
theorem wf (T:Tx K w mg a):jA P w K mg base CX0 2 a.reads_are_held a.fd_reads_are_held ["row","code_row","held"] (QG K):=by
 refine T.F_reads_are_held.fn.okQ wc (λvs H Q E h=>?_) (λcdv A outer s H vs Q E hr h=>?_)
 ·obtain⟨v,c,d,h,x,rfl,_⟩:=h
  rfl
 ·obtain⟨v,c,d,h,⟨o,cr⟩,rfl,hv,hc,ok,⟨kvs,hd,r⟩,Qn⟩:=h
  have hu:=yF hr
  have G_is_move:=xC (P:=P) (w:=w) (base:=base) T
  have G_read_in:=yX (P:=P) (w:=w) (base:=base) T
  refine⟨_,(qf (zf (vJ (qo G_is_move (hr.mono (by decide)) rfl T.F_is_move.mg T.F_is_move.fn.kp T.F_is_move.b .nil qX (q5 (pv 1) qd)) (λ_=>rfl)) (qh (qN kI)) qI)
   (qh (qN (qP (Q6 rfl) (by rfl) T.all PyProof.Rows.boot_all (q5 (zT (N:=["name","place","held"]) (osc:=(q8 qT)) (on:=["row","code_row","held"]) (cap:=[none,none,some 2]) ⟨rfl,rfl,by decide +kernel⟩ rfl (yQ rfl T.zip (q5 (qo G_read_in (hr.mono (by decide)) rfl T.F_read_in.mg T.F_read_in.fn.kp T.F_read_in.b .nil qX (q5 (pv 0) qd)) (q5 (qo G_read_in (hr.mono (by decide)) rfl T.F_read_in.mg T.F_read_in.fn.kp T.F_read_in.b .nil qX (q5 (pv 1) qd)) qd))) (λ_ _ _ _=>(Jg (K:=K) (n:=2) rfl rfl (qL (qr (i:=0) (show List.Nodup (["name","place","held"]:List Str) by decide +kernel) rfl (Or.inl rfl)) (qL (qr (i:=1) (show List.Nodup (["name","place","held"]:List Str) by decide +kernel) rfl (Or.inl rfl)) jn)))) (λ_ _ _ _=>jf) (λ_ _ _ _=>(xY jq (vn hu (pv 2) (pv 1) ⟨rfl,rfl,rfl,rfl⟩) (pv 0) (qC _)))) qd))))),?_⟩
  try walk_at "rd"
  refine⟨c,cr,rfl,hc,λH1 s1=>?_⟩
  try walk_at "rd"
  cases hm:cr.isMove with
  |true=>
   obtain⟨p,q,rfl⟩:=xb hm
   refine kW rfl ?_
   exact Qn _ s1
  |false=>
   refine vq rfl ?_
   obtain⟨rr,rfl,rm,_,_,eR⟩:=ok.bare hm
   refine⟨v,rr,rfl,jp.same hv s1,rm,λl1 k1=>?_⟩
   have s2:=s1.trans (qq.new (o:=.lst (List.map V.int rr.rd)) k1)
   have a1:upd H1 l1 (.lst (List.map V.int rr.rd)) l1=some (.lst (List.map V.int rr.rd)):=qg
   generalize upd H1 l1 (.lst (List.map V.int rr.rd))=H2 at s2 a1 ⊢
   refine⟨c,cr,rfl,hc.same s2,hm,λl2 k2=>?_⟩
   have s3:=s2.trans (qq.new (o:=.lst (List.map V.int cr.rd)) k2)
   have a1:=qq.new (o:=.lst (List.map V.int cr.rd)) k2 _ _ a1
   have a2:upd H2 l2 (.lst (List.map V.int cr.rd)) l2=some (.lst (List.map V.int cr.rd)):=qg
   generalize upd H2 l2 (.lst (List.map V.int cr.rd))=H3 at s3 a1 a2 ⊢
   have hd3:=s3 _ _ hd
   try walk_at "rd"
   refine⟨l1,l2,⟨rfl,rfl⟩,⟨_,SqL.of a1⟩,⟨_,SqL.of a2⟩,λpl kpl=>?_⟩
   refine Za (rr.rd.map V.int) (cr.rd.map V.int) (λi σ H'=>(∃ u w,σ=[u,w,some (.ref d)])/\qq H3 H'/\H' pl=some (.lst ((((List.zip rr.rd cr.rd).take i).map λy=>decide (h y.2=some y.1)).map V.bl)))
    ⟨⟨_,_,rfl⟩,qq.new kpl,qg⟩ (λi σ H' _ z=>⟨SqL.of (z.2.1 _ _ a1),SqL.of (z.2.1 _ _ a2)⟩) ?_ ?_
   ·rintro i x y t σ H4 hx hy ht ⟨⟨u,w1,rfl⟩,s4,hp4⟩
    rw[List.getElem?_map] at hx hy
    obtain⟨n,hn,rfl⟩:=Option.map_eq_some_iff.mp hx
    obtain⟨p,hp2,rfl⟩:=Option.map_eq_some_iff.mp hy
    have s5:=qq.new (o:=.tup [.int n,.int p]) ht
    have hT5:SqT K (upd H4 t (.tup [.int n,.int p])) t [.int n,.int p]:=SqT.of qg
    generalize upd H4 t (.tup [.int n,.int p])=H5 at s5 hT5 ⊢
    have hz:(List.zip rr.rd cr.rd)[i]?=some (n,p):=by rw[List.getElem?_zip_eq_some];exact⟨hn,hp2⟩
    have li:i<2:=Nat.lt_of_lt_of_le (List.getElem?_eq_some_iff.mp hn).1 (rd_len rr)
    have hd5:=s5 _ _ (s4 _ _ hd3)
    try walk_at "rd"
    refine⟨t,_,rfl,hT5,rfl,_,_,rfl,_,_,rfl,rfl,?_⟩
    try walk_at "rd"
    have fin:∀ b,b=decide (h p=some n)->∃ xs,H5 pl=some (.lst xs)/\xs.length<sizeLine/\(∃ u w,some (V.int n)=u/\some (V.int p)=w)/\qq H3 (upd H5 pl (.lst (xs++[V.bl b])))/\upd H5 pl (.lst (xs++[V.bl b])) pl=some (.lst ((((List.zip rr.rd cr.rd).take (i+1)).map λy=>decide (h y.2=some y.1)).map V.bl)):=λb hb=>by
     refine⟨_,s5 _ _ hp4,?_,⟨_,_,rfl,rfl⟩,jv (s4.trans s5) kpl,?_⟩
     ·rw[List.length_map,List.length_map,List.length_take]
      exact Nat.lt_of_le_of_lt (Nat.min_le_left _ _) (Nat.lt_trans li (by decide))
     ·rw[qg,List.take_succ,hz,List.map_append,List.map_append,hb]
      rfl
    refine⟨.inl ⟨kvs,.inl hd5⟩,_,r.get (k:=p) (.inl hd5),?_⟩
    cases e:h p with
    |none=>exact fin _ (by rw[e];rfl)
    |some m=>
     refine fin _ ?_
     rw[e]
     show decide (m=n)=decide (some m=some n)
     by_cases c:m=n
     ·subst c;simp
     ·simp[c]
   ·rintro σ H4 ⟨_,s4,hp4⟩
    refine⟨pl,_,rfl,SqL.of hp4,?_⟩
    rw[List.take_of_length_le (by rw[List.length_zip,List.length_map,List.length_map];exact Nat.le_refl _),List.all_map]
    have e:zF (some rr,cr) h=(List.zip rr.rd cr.rd).all (id ∘ λy=>decide (h y.2=some y.1)):=eR h
    rw[<-e]
    exact Qn _ (s3.trans s4)
def yH (K:PySem.W.Frag):Sp:=λvs H Q _=>∃ v b h ps,vs=[v,.ref b]/\v8 K H v ps/\(∀ x∈ps,KA x)/\HD H b h/\∀ d H',qq H H'->H d=none->HDO H' d (zS ps h)->Q (.ref d) H'
theorem yL (T:Tx K w mg a):jA P w K mg base CX0 3 a.held_at_end a.fd_held_at_end ["pairs","beginning"] (yH K):=by
 refine T.F_held_at_end.fn.okQ jR (λvs H Q E h=>?_) (λcdv A outer s H vs Q E hr h=>?_)
 ·obtain⟨v,b,h,ps,rfl,_⟩:=h
  rfl
 ·obtain⟨v,b,h,ps,rfl,⟨l,xs,rfl,hl,hA⟩,ok,⟨kvs,hb,r⟩,Qn⟩:=h
  have G_take_note:=wm (P:=P) (w:=w) (base:=base) T
  refine⟨_,(qf (qy (i:=2) jR.nd rfl (Or.inl rfl) (jx wv (by rfl) T.dict PyProof.Rows.boot_dict (q5 (pv 1) qd)))
   (qf (zU PassesOwn.never rfl (z7 (pv 0)) (x9 rfl (qL (qr (i:=3) jR.nd rfl (Or.inl rfl)) (qL (qr (i:=4) jR.nd rfl (Or.inl rfl)) jn)))
    (qh (qQ (qo G_take_note (hr.mono (by decide)) rfl T.F_take_note.mg T.F_take_note.fn.kp T.F_take_note.b .nil qX (q5 (pv 3) (q5 (pv 4) (q5 (pv 2) qd)))))))
   (qh (qN (pv 2))))),?_⟩
  try walk_at "rd"
  refine⟨b,kvs,rfl,hb,λd kd=>?_⟩
  have s1:=qq.new (o:=.dK kvs) kd
  have hd1:upd H d (.dK kvs) d=some (.dK kvs):=qg
  generalize upd H d (.dK kvs)=H1 at s1 hd1 ⊢
  have hl1:=s1 _ _ hl
  have nl:l≠d:=xZ hl1 hd1 (by intro z;cases z)
  try walk_at "rd"
  refine⟨⟨_,SqL.of hl1⟩,zz xs (λi σ H'=>(∃ u w,σ=[some (.ref l),some (.ref b),some (.ref d),u,w])/\UpD d H1 H'/\HDO H' d (zS (ps.take i) h))
   ⟨⟨_,_,rfl⟩,UpD.refl,kvs,hd1,r⟩ (λi σ H' _ z=>SqL.of (z.2.1 _ _ nl hl1)) ?_ ?_⟩
  ·rintro i x σ H2 hi ⟨⟨u,w1,rfl⟩,u2,hD2⟩
   obtain⟨y,hy,hP⟩:=hA.get hi
   obtain⟨t,va,vb,rfl,hT,h1,h2⟩:=u2.pair hd1 (hP.same s1)
   try walk_at "rd"
   refine⟨t,_,rfl,hT,rfl,_,_,rfl,_,_,rfl,rfl,va,vb,d,_,y,rfl,h1,h2,ok y (List.mem_of_getElem? hy),hD2,λH3 u3 hD3=>⟨⟨_,_,rfl,rfl⟩,u2.trans u3,?_⟩⟩
   rw[vf hy]
   exact hD3
  ·rintro σ H2 ⟨⟨u,w1,rfl⟩,u2,hD2⟩
   rw[hA.1,List.take_length] at hD2
   try walk_at "rd"
   exact Qn d H2 (u2.same s1 kd) kd hD2
def wd (K:PySem.W.Frag):Sp:=λvs H Q _=>∃ v b h ps,vs=[v,.ref b]/\v8 K H v ps/\(∀ x∈ps,KA x)/\HD H b h/\∀ H',qq H H'->Q (.bl (qU ps h)) H'
theorem xg (T:Tx K w mg a):jA P w K mg base CX0 3 a.reads_of_block_are_held a.fd_reads_of_block_are_held ["pairs","beginning"] (wd K):=by
 refine T.F_reads_of_block_are_held.fn.okQ zd (λvs H Q E h=>?_) (λcdv A outer s H vs Q E hr h=>?_)
 ·obtain⟨v,b,h,ps,rfl,_⟩:=h
  rfl
 ·obtain⟨v,b,h,ps,rfl,⟨l,xs,rfl,hl,hA⟩,ok,⟨kvs,hb,r⟩,Qn⟩:=h
  have G_take_note:=wm (P:=P) (w:=w) (base:=base) T
  have G_reads_are_held:=wf (P:=P) (w:=w) (base:=base) T
  refine⟨_,(qf (qy (i:=2) zd.nd rfl (Or.inl rfl) (jx wv (by rfl) T.dict PyProof.Rows.boot_dict (q5 (pv 1) qd)))
   (qf (zU PassesOwn.never rfl (z7 (pv 0)) (x9 rfl (qL (qr (i:=3) zd.nd rfl (Or.inl rfl)) (qL (qr (i:=4) zd.nd rfl (Or.inl rfl)) jn)))
    (qf (zf (yR (vJ (qo G_reads_are_held (hr.mono (by decide)) rfl T.F_reads_are_held.mg T.F_reads_are_held.fn.kp T.F_reads_are_held.b .nil qX (q5 (pv 3) (q5 (pv 4) (q5 (pv 2) qd)))) (λ_=>rfl))) (qh (qN kI)) qI)
   (qh (qQ (qo G_take_note (hr.mono (by decide)) rfl T.F_take_note.mg T.F_take_note.fn.kp T.F_take_note.b .nil qX (q5 (pv 3) (q5 (pv 4) (q5 (pv 2) qd))))))))
   (qh (qN kI)))),?_⟩
  try walk_at "rd"
  refine⟨b,kvs,rfl,hb,λd kd=>?_⟩
  have s1:=qq.new (o:=.dK kvs) kd
  have hd1:upd H d (.dK kvs) d=some (.dK kvs):=qg
  generalize upd H d (.dK kvs)=H1 at s1 hd1 ⊢
  have hl1:=s1 _ _ hl
  have nl:l≠d:=xZ hl1 hd1 (by intro z;cases z)
  try walk_at "rd"
  refine⟨⟨_,SqL.of hl1⟩,zz xs (λi σ H'=>(∃ u w,σ=[some (.ref l),some (.ref b),some (.ref d),u,w])/\UpD d H1 H'/\HDO H' d (zS (ps.take i) h)/\qU ps h=qU (ps.drop i) (zS (ps.take i) h))
   ⟨⟨_,_,rfl⟩,UpD.refl,⟨kvs,hd1,r⟩,rfl⟩ (λi σ H' _ z=>SqL.of (z.2.1 _ _ nl hl1)) ?_ ?_⟩
  ·rintro i x σ H2 hi ⟨⟨u,w1,rfl⟩,u2,hD2,hR⟩
   obtain⟨y,hy,hP⟩:=hA.get hi
   obtain⟨t,va,vb,rfl,hT,h1,h2⟩:=u2.pair hd1 (hP.same s1)
   rw[QR hy] at hR
   try walk_at "rd"
   refine⟨t,_,rfl,hT,rfl,_,_,rfl,_,_,rfl,rfl,va,vb,d,_,y,rfl,h1,h2,ok y (List.mem_of_getElem? hy),hD2,λH3 s3=>?_⟩
   try walk_at "rd"
   obtain⟨kvs2,hd2,r2⟩:=hD2
   cases e:zF y (zS (ps.take i) h) with
   |false=>
    refine kW rfl ?_
    rw[e,Bool.false_and] at hR
    rw[<-hR]
    exact Qn _ ((u2.trans (UpD.of s3)).same s1 kd)
   |true=>
    refine vq rfl ?_
    rw[e,Bool.true_and] at hR
    try walk_at "rd"
    refine⟨va,vb,d,_,y,rfl,h1.same s3,h2.same s3,ok y (List.mem_of_getElem? hy),⟨kvs2,s3 _ _ hd2,r2⟩,λH4 u4 hD4=>⟨⟨_,_,rfl,rfl⟩,(u2.trans (UpD.of s3)).trans u4,?_,?_⟩⟩
    ·rw[vf hy]
     exact hD4
    ·rw[vf hy]
     exact hR
  ·rintro σ H2 ⟨⟨u,w1,rfl⟩,u2,hD2,hR⟩
   rw[hA.1,List.drop_length] at hR
   try walk_at "rd"
   have e:qU ps h=true:=hR
   rw[<-e]
   exact Qn _ (u2.same s1 kd)
def yk:Sp:=λvs H Q _=>∃ a b h1 h2,vs=[.ref a,.ref b]/\HD H a h1/\HD H b h2/\∀ d H',UpD a H H'->(∀ e g,HD H e g->HD H' e g)->H d=none->HDO H' d (xx h1 h2)->Q (.ref d) H'
theorem yh (T:Tx K w mg a):jA P w K mg base CX0 1 a.held_in_both a.fd_held_in_both ["first","second"] yk:=by
 refine T.F_held_in_both.fn.okQ jK (λvs H Q E h=>?_) (λcdv A outer s H vs Q E hr h=>?_)
 ·obtain⟨a,b,h1,h2,rfl,_⟩:=h
  rfl
 ·obtain⟨pa,pb,h1,h2,rfl,⟨ka,hka,ra⟩,hb,Qn⟩:=h
  have hu:=yF hr
  refine⟨_,(qf (qy (i:=2) jK.nd rfl (Or.inl rfl) JI)
   (qf (zU PassesOwn.never rfl (wS (pv 0)) (x9 rfl (qL (qr (i:=3) jK.nd rfl (Or.inl rfl)) (qL (qr (i:=4) jK.nd rfl (Or.inl rfl)) jn)))
    (qh (zf (qm jq (vn hu (pv 1) (pv 3) ⟨rfl,rfl,rfl,rfl⟩) (pv 4) (qC _)) (qh (v6 hu (pv 2) (pv 3) (pv 4) rfl)) qI)))
   (qh (qN (pv 2))))),?_⟩
  try walk_at "rd"
  refine λd H1 n1=>?_
  try walk_at "rd"
  have hka1:Rd H1 pa (.dK ka):=by
   rcases hka with e|⟨o,e⟩
   ·exact .inl (n1.same _ _ e)
   ·exact .inr ⟨o,n1.same _ _ e⟩
  refine⟨ka,hka1,λo H2 f2=>?_⟩
  have npd:pa≠d:=by
   rcases hka with e|⟨o,e⟩
   ·exact qj e n1.fr
   ·exact qj e n1.fr
  have hd2:H2 d=some (.dK []):=by rw[f2.ne _ npd.symm];exact n1.at_
  have hb2:HD H2 pb h2:=Fz.hd f2 hka1 (hb.same n1.same)
  have npb:pb≠d:=by
   obtain⟨k,e|⟨o,e⟩,_⟩:=hb
   ·exact qj e n1.fr
   ·exact qj e n1.fr
  obtain⟨kb,hkb,rb⟩:=hb2
  have keepb:∀ H',UpD d H2 H'->Rd H' pb (.dK kb):=λH' u=>by
   rcases hkb with e|⟨o,e⟩
   ·exact .inl (u _ _ npb e)
   ·exact .inr ⟨o,u _ _ npb e⟩
  refine XR (λi σ H'=>(∃ u w,σ=[some (.ref pa),some (.ref pb),some (.ref d),u,w])/\UpD d H2 H'/\HDO H' d (yp ((ka.take i).map (·.1)) h1 h2))
   ⟨⟨_,_,rfl⟩,UpD.refl,[],hd2,xu.nil.congr Kr⟩ (λi σ H' _ z=>z.2.1 _ _ npd f2.at_) ?_ ?_
  ·rintro i k v t σ H3 hk ht ⟨⟨u,w1,rfl⟩,u3,kd,hd3,r3⟩
   obtain⟨q,n,rfl,rfl,hq,q0,q1⟩:=ra.at hk
   have s4:=qq.new (o:=.tup [kV (Sum.inl q),.int n]) ht
   have hT4:SqT K (upd H3 t (.tup [kV (Sum.inl q),.int n])) t [.int q,.int n]:=SqT.of qg
   generalize upd H3 t (.tup [kV (Sum.inl q),.int n])=H4 at s4 hT4 ⊢
   have hkb4:=keepb H4 (u3.trans (UpD.of s4))
   have hd4:=s4 _ _ hd3
   have lenk:kd.length<sizeLine:=Nat.lt_of_le_of_lt r3.len (by decide)
   have htk:(ka.take (i+1)).map (·.1)=(ka.take i).map (·.1)++[Sum.inl q]:=by
    rw[List.take_succ,hk,List.map_append]
    rfl
   try walk_at "rd"
   refine⟨t,_,rfl,hT4,rfl,_,_,rfl,_,_,rfl,rfl,?_⟩
   try walk_at "rd"
   refine⟨.inl ⟨kb,hkb4⟩,_,rb.get (k:=q) hkb4,?_⟩
   have no:¬ h2 q=some n->(∃ u w,some (V.int q)=u/\some (V.int n)=w)/\UpD d H2 H4/\HDO H4 d (yp ((ka.take (i+1)).map (·.1)) h1 h2):=λc=>by
    refine⟨⟨_,_,rfl,rfl⟩,u3.trans (UpD.of s4),kd,hd4,r3.congr λj=>?_⟩
    rw[htk]
    exact Jp hq c j
   cases e:h2 q with
   |none=>
    exact no (by rw[e];intro z;cases z)
   |some m=>
    show if decide (m=n)=true then _ else(_:Prop)
    refine xN (λc=>?_) (λc=>?_)
    ·subst c
     refine⟨_,Xa.k (k:=Sum.inl q) hd4 lenk,⟨_,_,rfl,rfl⟩,(u3.trans (UpD.of s4)).trans UpD.upd,_,qg,r3.put q0 q1 λj=>?_⟩
     rw[htk]
     exact Xc hq e j
    ·exact no (by rw[e];exact λz=>c (Option.some.inj z))
  ·rintro σ H3 ⟨⟨u,w1,rfl⟩,u3,kd,hd3,r3⟩
   rw[List.take_length] at r3
   try walk_at "rd"
   refine Qn d H3 (λb o nb e=>?_) (λe g z=>?_) n1.fr ⟨kd,hd3,r3.congr λj=>(VX ra j).symm⟩
   ·exact u3 _ _ (qj e n1.fr) (by rw[f2.ne _ nb];exact n1.same _ _ e)
   ·have ne:e≠d:=by
     obtain⟨k,e1|⟨o,e1⟩,_⟩:=z
     ·exact qj e1 n1.fr
     ·exact qj e1 n1.fr
    obtain⟨k,z1,z2⟩:=Fz.hd f2 hka1 (z.same n1.same)
    refine⟨k,?_,z2⟩
    rcases z1 with z1|⟨o,z1⟩
    ·exact .inl (u3 _ _ ne z1)
    ·exact .inr ⟨o,u3 _ _ ne z1⟩
def Yj (K:PySem.W.Frag):Sp:=λvs H Q _=>∃ v c b cb,vs=[v,c]/\wg K H v b/\wg K H c cb/\b.ds.length<1000/\cb.ds.length<1000/\y6 cb.rows<=b.rows.length/\∀ l xs H',qq H H'->H l=none->H' l=some (.lst xs)->z5 (xR K H') xs (sbs b.rows cb.rows)->Q (.ref l) H'
theorem yu (T:Tx K w mg a):jA P w K mg base CX0 2 a.side_by_side a.fd_side_by_side ["block","code_block"] (Yj K):=by
 refine T.F_side_by_side.fn.okQ zW (λvs H Q E h=>?_) (λcdv A outer s H vs Q E hr h=>?_)
 ·obtain⟨v,c,b,cb,rfl,_⟩:=h
  rfl
 ·obtain⟨v,c,b,cb,rfl,hB,hC,lb,lc,hle,Qn⟩:=h
  have G_rows_of:=yM (P:=P) (w:=w) (base:=base) T
  have G_is_move:=xC (P:=P) (w:=w) (base:=base) T
  refine⟨_,(qf (qy (i:=2) zW.nd rfl (Or.inl rfl) (qo G_rows_of (hr.mono (by decide)) rfl T.F_rows_of.mg T.F_rows_of.fn.kp T.F_rows_of.b .nil qX (q5 (pv 0) qd)))
   (qf (qy (i:=3) zW.nd rfl (Or.inl rfl) (qO qd))
   (qf (qy (i:=4) zW.nd rfl (Or.inl rfl) qa)
   (qf (zU PassesOwn.never rfl (z7 (qo G_rows_of (hr.mono (by decide)) rfl T.F_rows_of.mg T.F_rows_of.fn.kp T.F_rows_of.b .nil qX (q5 (pv 1) qd))) (qr (i:=5) zW.nd rfl (Or.inl rfl))
    (qh (zf (vJ (qo G_is_move (hr.mono (by decide)) rfl T.F_is_move.mg T.F_is_move.fn.kp T.F_is_move.b .nil qX (q5 (pv 5) qd)) (λ_=>rfl)) (qh (qQ (xr PySem.F.plainAttrs_list PySem.F.slot_list_append PySem.F.type_list_append zG (pv 3) (q5 (qH (q5 kH (q5 (pv 5) qd))) qd)))) (qf (qQ (xr PySem.F.plainAttrs_list PySem.F.slot_list_append PySem.F.type_list_append zG (pv 3) (q5 (qH (q5 (qz qZ (pv 2) (pv 4) (λ_ _=>rfl)) (q5 (pv 5) qd))) qd)))
   (qh (qy (i:=4) zW.nd rfl (Or.inl rfl) (qw zD (pv 4) qa)))))))
   (qh (qN (pv 3))))))),?_⟩
  try walk_at "rd"
  refine⟨v,b,rfl,hB,lb,λlr rxs H1 s1 k1 hlr1 hR1=>?_⟩
  try walk_at "rd"
  refine⟨by decide,λlp H2 n2=>?_⟩
  try walk_at "rd"
  refine⟨c,cb,rfl,hC.same (s1.trans n2.same),lc,λlx cxs H3 s3 k3 hlx3 hR3=>?_⟩
  try walk_at "rd"
  have hlp3:=s3 _ _ n2.at_
  have hlr3:=s3 _ _ (n2.same _ _ hlr1)
  have s03:=(s1.trans n2.same).trans s3
  have klp:H lp=none:=s1.free n2.fr
  have nlx:lx≠lp:=(qj n2.at_ k3).symm
  have nlr:lr≠lp:=qj hlr1 n2.fr
  have hR1':z5 (jp K H3) rxs b.rows:=hR1.imp λ_ _ z=>z.same (n2.same.trans s3)
  refine⟨⟨_,SqL.of hlx3⟩,zz cxs (λi σ H'=>∃ n xs done,(∃ u,σ=[some v,some c,some (.ref lr),some (.ref lp),some (.int ((n:Nat):Int)),u])/\UpD lp H3 H'/\H' lp=some (.lst xs)/\z5 (xR K H') xs done/\done.length=i/\done++sbs (b.rows.drop n) (cb.rows.drop i)=sbs b.rows cb.rows/\n+y6 (cb.rows.drop i)<=b.rows.length)
   ⟨0,[],[],⟨_,rfl⟩,UpD.refl,hlp3,.nil,rfl,rfl,by simpa using hle⟩ (λi σ H' _ z=>by obtain⟨n,xs,done,_,u,_⟩:=z;exact SqL.of (u _ _ nlx hlx3)) ?_ ?_⟩
  ·rintro i x σ H4 hi ⟨n,xs,done,⟨u,rfl⟩,u4,hlp4,hA4,hdl,hE,hN⟩
   obtain⟨cr,hcr,hRx⟩:=hR3.get hi
   have hRx4:=u4.rowL hlp3 hRx
   have li:i<1002:=by
    have:=(List.getElem?_eq_some_iff.mp hcr).1
    have e2:cb.rows.length=cb.ds.length+1:=by unfold Blk.rows;simp
    omega
   rw[xw hcr] at hE hN
   try walk_at "rd"
   refine⟨x,cr,rfl,hRx4,λH5 s5=>?_⟩
   have hlp5:=s5 _ _ hlp4
   have hA5:z5 (xR K H5) xs done:=hA4.imp λ_ _ z=>z.same s5
   have lenx:xs.length<sizeLine:=by rw[hA4.1,hdl];exact Nat.lt_trans li (by decide)
   have fin:∀ t H6 y va,New H5 t (.tup [va,x]) H6->kJ K H5 va y.1->jp K H5 x y.2->UpD lp H3 (upd H6 lp (.lst (xs++[.ref t])))/\z5 (xR K (upd H6 lp (.lst (xs++[.ref t])))) (xs++[.ref t]) (done++[y]):=λt H6 y va n6 h1 h2=>by
    have uu:UpD lp H6 (upd H6 lp (.lst (xs++[.ref t]))):=UpD.upd
    have hlp6:=n6.same _ _ hlp5
    refine⟨((u4.trans (UpD.of s5)).trans (UpD.of n6.same)).trans uu,?_⟩
    exact((hA5.imp λ_ _ z=>z.same n6.same).snoc ⟨t,va,x,rfl,SqT.of n6.at_,h1.same n6.same,h2.same n6.same⟩).imp λ_ _ z=>uu.pairL hlp6 z
   dsimp only[jH]
   cases hm:cr.isMove with
   |true=>
    refine kW rfl ?_
    rw[wK hm] at hE
    rw[vD,if_pos hm,Nat.zero_add] at hN
    refine⟨.inl ⟨rfl,_,SqL.of hlp5⟩,by decide,λt H6 n6=>?_⟩
    obtain⟨f1,f2⟩:=fin t H6 (none,cr) .non n6 rfl (hRx4.same s5)
    exact⟨lp,xs,.ref t,rfl,rfl,n6.same _ _ hlp5,lenx,n,_,_,⟨_,rfl,rfl⟩,f1,qg,f2,by rw[List.length_append,hdl];rfl,by rw[List.append_assoc];exact hE,hN⟩
   |false=>
    refine vq rfl ?_
    rw[vD,if_neg (by rw[hm];exact Bool.false_ne_true)] at hN
    have lt:n<b.rows.length:=by omega
    obtain⟨vr,hvr,hRr⟩:=hR1'.get' (List.getElem?_eq_getElem lt)
    rw[xw (List.getElem?_eq_getElem lt),wL hm] at hE
    have hRr5:=(u4.rowL hlp3 hRr).same s5
    refine⟨.inl ⟨rfl,_,SqL.of hlp5⟩,qR (SqL.of (s5 _ _ (u4 _ _ nlr hlr3))) (xE hvr) ⟨by decide,λt H6 n6=>?_⟩⟩
    obtain⟨f1,f2⟩:=fin t H6 (some b.rows[n],cr) vr n6 hRr5 (hRx4.same s5)
    refine⟨lp,xs,.ref t,rfl,rfl,n6.same _ _ hlp5,lenx,n+1,_,_,⟨_,by push_cast;rfl,rfl⟩,f1,qg,f2,by rw[List.length_append,hdl];rfl,by rw[List.append_assoc];exact hE,by omega⟩
  ·rintro σ H4 ⟨n,xs,done,⟨u,rfl⟩,u4,hlp4,hA4,hdl,hE,hN⟩
   rw[hR3.1,List.drop_length] at hE
   have e0:sbs (b.rows.drop n) []=[]:=by cases b.rows.drop n <;> rfl
   rw[e0,List.append_nil] at hE
   rw[hE] at hA4
   try walk_at "rd"
   exact Qn lp xs H4 (u4.same s03 klp) klp hlp4 hA4
def Row.bareVs:Row->List V
 |.dd (.set _ k)=>[.str "set",.int k]
 |.dd (.input _ k)=>[.str "input",.int k]
 |.dd (.op w _ _ _)=>[.str "op",.str w.txt]
 |.dd (.tell _)=>[.str "tell"]
 |.dd (.move _ _)=>[]
 |.ee (.go n)=>[.str "go",.int n]
 |.ee (.iff _ n m)=>[.str "if",.int n,.int m]
 |.ee .fin=>[.str "end"]
theorem yg (r:Row):r.vs.length<1000:=by
 cases r with
 |dd d=>cases d <;> (show _<1000;simp[Row.vs,zQ.vs])
 |ee e=>cases e <;> (show _<1000;simp[Row.vs,En.vs])
def yb (sp:List V):Nat->List V->List V
 |_,[]=>[]
 |i,x::r=>if (!inV (.int (i:Nat)) sp)=true then x::yb sp (i+1) r else yb sp (i+1) r
theorem J8 {q:Addr}{vs sp:List V}(hS:SqT K H p vs)(hq:SqT K H q sp)(hsp:sp.all xA=true)(hlen:vs.length<1000)(hl:H l=none)(k:∀ H',qq H H'->H' l=some (.lst (yb sp 0 vs))->Q (.ref l) H'):
  vH (Itet K p) (gTup K 2 (VQ (xH 0) (VQ (xH 1) gNil))) (J3 (tOp (rIn K true) (vG 0) (vG 2))) (vG 1) l [none,none,some (.ref q)] H Q:=by
 refine Je vs (λi σ H'=>(∃ u w,σ=[u,w,some (.ref q)])/\qq H H'/\∃ done,H' l=some (.lst done)/\done.length<=i/\done++yb sp i (vs.drop i)=yb sp 0 vs) ⟨⟨_,_,rfl⟩,qq.new hl,[],qg,Nat.le_refl _,rfl⟩ (λi σ H' _ h=>h.2.1.seqT hS) ?_ ?_
 ·rintro i x t σ H1 hi ht ⟨⟨u,w1,rfl⟩,s1,done,hd,hdl,hE⟩
  have s2:=s1.trans (qq.new (o:=.tup [.int i,x]) ht)
  have hT2:SqT K (upd H1 t (.tup [.int i,x])) t [.int i,x]:=SqT.of qg
  have hd2:=qq.new (o:=.tup [.int i,x]) ht _ _ hd
  generalize upd H1 t (.tup [.int i,x])=H2 at s2 hT2 hd2 ⊢
  have li:=(List.getElem?_eq_some_iff.mp hi).1
  rw[xw hi,yb] at hE
  try walk_at "rd"
  refine⟨t,_,rfl,hT2,rfl,_,_,rfl,_,_,rfl,rfl,q,sp,rfl,.inr (s2.seqT hq),rfl,hsp,?_⟩
  dsimp only[jH]
  show if (!inV (.int (i:Nat)) sp)=true then _ else(_:Prop)
  cases e:inV (.int (i:Nat)) sp with
  |false=>
   rw[e] at hE
   refine kW rfl ?_
   refine⟨done,hd2,Nat.lt_of_le_of_lt hdl (Nat.lt_trans li (Nat.lt_trans hlen (by decide))),⟨_,_,rfl,rfl⟩,jv s2 hl,_,qg,by rw[List.length_append];exact Nat.succ_le_succ hdl,?_⟩
   rw[List.append_assoc]
   exact hE
  |true=>
   rw[e] at hE
   refine vq rfl ?_
   exact⟨⟨_,_,rfl,rfl⟩,s2,done,hd2,Nat.le_succ_of_le hdl,hE⟩
 ·rintro σ H1 ⟨_,s1,done,hd,_,hE⟩
  rw[List.drop_length,yb,List.append_nil] at hE
  rw[hE] at hd
  exact k H1 s1 hd
def wB (K:PySem.W.Frag):Sp:=λvs H Q _=>∃ v r,vs=[v]/\jp K H v r/\r.isMove=false/\∀ p H',qq H H'->H p=none->H' p=some (.lst r.bareVs)->Q (.ref p) H'
theorem wA (T:Tx K w mg a):jA P w K mg base CX0 1 a.without_names a.fd_without_names ["row"] (wB K):=by
 refine T.F_without_names.fn.okQ xP (λvs H Q E h=>?_) (λcdv A outer s H vs Q E hr h=>?_)
 ·obtain⟨v,r,rfl,_⟩:=h
  rfl
 ·obtain⟨v,r,rfl,⟨p,rfl,hS⟩,hm,Qn⟩:=h
  refine⟨_,(qf (qy (i:=1) xP.nd rfl (Or.inr rfl) (qw Yq (vk (jE (v:=.ref a.GIVEN_SPOTS) rfl T.GIVEN_SPOTS rfl) (qz qu (pv 0) qa (λ_ _=>rfl)) (λ_ _=>rfl)) (vk (jE (v:=.ref a.READ_SPOTS) rfl T.READ_SPOTS rfl) (qz qu (pv 0) qa (λ_ _=>rfl)) (λ_ _=>rfl))))
   (qh (qN (zT (N:=["spot","part","spots"]) (osc:=(q8 qV)) (on:=["row","spots"]) (cap:=[none,none,some 1]) ⟨rfl,rfl,by decide +kernel⟩ rfl (wN rfl T.enumerate (q5 (pv 0) qd)) (λ_ _ _ _=>(Jg (K:=K) (n:=2) rfl rfl (qL (qr (i:=0) (show List.Nodup (["spot","part","spots"]:List Str) by decide +kernel) rfl (Or.inl rfl)) (qL (qr (i:=1) (show List.Nodup (["spot","part","spots"]:List Str) by decide +kernel) rfl (Or.inl rfl)) jn)))) (λ_ _ _ _=>(xq (qm (r:=rIn K true) wu (pv 0) (pv 2) rfl))) (λ_ _ _ _=>(pv 1)))))),?_⟩
  try walk_at "rd"
  cases r with
  |dd d=>
   cases d with
   |set v k=>exact qi hS rfl ⟨_,_,_,rfl,T.kd_GIVEN_SPOTS,rfl,T.GIVEN_SPOTS_set,qi hS rfl ⟨_,_,_,rfl,T.kd_READ_SPOTS,rfl,T.READ_SPOTS_set,_,_,_,_,rfl,rfl,T.gs_set _,T.rs_set _,by decide,λq H2 s2 hq=>⟨⟨_,s2.seqT hS⟩,λl hl=>J8 (s2.seqT hS) hq (by decide) (yg _) hl λH' s' hl'=>Qn l H' (s2.trans s') (s2.free hl) hl'⟩⟩⟩
   |input v k=>exact qi hS rfl ⟨_,_,_,rfl,T.kd_GIVEN_SPOTS,rfl,T.GIVEN_SPOTS_input,qi hS rfl ⟨_,_,_,rfl,T.kd_READ_SPOTS,rfl,T.READ_SPOTS_input,_,_,_,_,rfl,rfl,T.gs_input _,T.rs_input _,by decide,λq H2 s2 hq=>⟨⟨_,s2.seqT hS⟩,λl hl=>J8 (s2.seqT hS) hq (by decide) (yg _) hl λH' s' hl'=>Qn l H' (s2.trans s') (s2.free hl) hl'⟩⟩⟩
   |op w v x y=>exact qi hS rfl ⟨_,_,_,rfl,T.kd_GIVEN_SPOTS,rfl,T.GIVEN_SPOTS_op,qi hS rfl ⟨_,_,_,rfl,T.kd_READ_SPOTS,rfl,T.READ_SPOTS_op,_,_,_,_,rfl,rfl,T.gs_op _,T.rs_op _,by decide,λq H2 s2 hq=>⟨⟨_,s2.seqT hS⟩,λl hl=>J8 (s2.seqT hS) hq (by decide) (yg _) hl λH' s' hl'=>Qn l H' (s2.trans s') (s2.free hl) hl'⟩⟩⟩
   |tell x=>exact qi hS rfl ⟨_,_,_,rfl,T.kd_GIVEN_SPOTS,rfl,T.GIVEN_SPOTS_tell,qi hS rfl ⟨_,_,_,rfl,T.kd_READ_SPOTS,rfl,T.READ_SPOTS_tell,_,_,_,_,rfl,rfl,T.gs_tell _,T.rs_tell _,by decide,λq H2 s2 hq=>⟨⟨_,s2.seqT hS⟩,λl hl=>J8 (s2.seqT hS) hq (by decide) (yg _) hl λH' s' hl'=>Qn l H' (s2.trans s') (s2.free hl) hl'⟩⟩⟩
   |move x y=>cases hm
  |ee e=>
   cases e with
   |go n=>exact qi hS rfl ⟨_,_,_,rfl,T.kd_GIVEN_SPOTS,rfl,T.GIVEN_SPOTS_go,qi hS rfl ⟨_,_,_,rfl,T.kd_READ_SPOTS,rfl,T.READ_SPOTS_go,_,_,_,_,rfl,rfl,T.gs_go _,T.rs_go _,by decide,λq H2 s2 hq=>⟨⟨_,s2.seqT hS⟩,λl hl=>J8 (s2.seqT hS) hq (by decide) (yg _) hl λH' s' hl'=>Qn l H' (s2.trans s') (s2.free hl) hl'⟩⟩⟩
   |iff x n m=>exact qi hS rfl ⟨_,_,_,rfl,T.kd_GIVEN_SPOTS,rfl,T.GIVEN_SPOTS_if,qi hS rfl ⟨_,_,_,rfl,T.kd_READ_SPOTS,rfl,T.READ_SPOTS_if,_,_,_,_,rfl,rfl,T.gs_if _,T.rs_if _,by decide,λq H2 s2 hq=>⟨⟨_,s2.seqT hS⟩,λl hl=>J8 (s2.seqT hS) hq (by decide) (yg _) hl λH' s' hl'=>Qn l H' (s2.trans s') (s2.free hl) hl'⟩⟩⟩
   |fin=>exact qi hS rfl ⟨_,_,_,rfl,T.kd_GIVEN_SPOTS,rfl,T.GIVEN_SPOTS_end,qi hS rfl ⟨_,_,_,rfl,T.kd_READ_SPOTS,rfl,T.READ_SPOTS_end,_,_,_,_,rfl,rfl,T.gs_end _,T.rs_end _,by decide,λq H2 s2 hq=>⟨⟨_,s2.seqT hS⟩,λl hl=>J8 (s2.seqT hS) hq (by decide) (yg _) hl λH' s' hl'=>Qn l H' (s2.trans s') (s2.free hl) hl'⟩⟩⟩
def fresh (H H':Hp):Hp:=λb=>match H b with
 |none=>H' b
 |some _=>none
theorem JW {b:Addr}(h:H b=none):fresh H H' b=H' b:=by unfold fresh;rw[h]
theorem XE:qq (fresh H H') H':=λb o e=>by
 unfold fresh at e
 cases h:H b with
 |none=>rw[h] at e;exact e
 |some u=>rw[h] at e;cases e
theorem X9 {H'':Hp}(s:qq H' H''):qq (fresh H H') (fresh H H''):=λb o e=>by
 unfold fresh at e ⊢
 cases h:H b with
 |none=>rw[h] at e;exact s _ _ e
 |some u=>rw[h] at e;cases e
theorem Xj (h:H l=some o):qq (fresh H H') (hide H' l):=λb u e=>by
 have nb:b≠l:=λz=>by unfold fresh at e;rw[z,h] at e;cases e
 rw[zb nb]
 exact XE _ _ e
theorem Vw {H2:Hp}:hide (fresh H (upd H2 l o)) l=hide (fresh H H2) l:=by
 funext b
 unfold hide
 by_cases e:b=l
 ·rw[if_pos e,if_pos e]
 ·rw[if_neg e,if_neg e]
  unfold fresh
  rw[qp e]
def XN (H:Hp)(v:V)(ys:List V):Prop:=∃ p,v=.ref p/\H p=some (.lst ys)
def vT (H:Hp)(v:V)(yss:List (List V)):Prop:=∃ p xs,v=.ref p/\H p=some (.lst xs)/\z5 (XN H) xs yss
theorem XN.same (h:XN H v ys)(s:qq H H'):XN H' v ys:=let ⟨p,e,q⟩:=h;⟨p,e,s _ _ q⟩
theorem vT.same {ys:List (List V)}(h:vT H v ys)(s:qq H H'):vT H' v ys:=let ⟨p,xs,e,q,a⟩:=h;⟨p,xs,e,s _ _ q,a.imp λ_ _ z=>z.same s⟩
def Blk.shape (b:Blk):List (List V):=b.rows.map Row.bareVs
def ya (b:Blk):Prop:=∀ r∈b.rows,r.isMove=false
def y0 (K:PySem.W.Frag):Sp:=λvs H Q _=>∃ v b,vs=[v]/\wg K H v b/\b.ds.length<1000/\ya b/\∀ v' H',qq H H'->vT (fresh H H') v' b.shape->Q v' H'
theorem Jn (T:Tx K w mg a):jA P w K mg base CX0 2 a.shape_of a.fd_shape_of ["block"] (y0 K):=by
 refine T.F_shape_of.fn.okQ J9 (λvs H Q E h=>?_) (λcdv A outer s H vs Q E hr h=>?_)
 ·obtain⟨v,b,rfl,_⟩:=h
  rfl
 ·obtain⟨v,b,rfl,hB,lb,hn,Qn⟩:=h
  have G_rows_of:=yM (P:=P) (w:=w) (base:=base) T
  have G_without_names:=wA (P:=P) (w:=w) (base:=base) T
  refine⟨_,(qh (qN (zT (N:=["row"]) (osc:=(q8 jd)) (on:=["block"]) (cap:=[none]) ⟨rfl,rfl,by decide +kernel⟩ rfl (z7 (qo G_rows_of (hr.mono (by decide)) rfl T.F_rows_of.mg T.F_rows_of.fn.kp T.F_rows_of.b .nil qX (q5 (pv 0) qd))) (λ_ _ _ _=>(qr (i:=0) (show List.Nodup (["row"]:List Str) by decide +kernel) rfl (Or.inl rfl))) (λ_ _ _ _=>jf) (λ_ _ _ _=>(qo G_without_names (hr.mono (by decide)) rfl T.F_without_names.mg T.F_without_names.fn.kp T.F_without_names.b .nil qX (q5 (pv 0) qd)))))),?_⟩
  try walk_at "rd"
  refine⟨v,b,rfl,hB,lb,λlr rxs H1 s1 k1 hlr hR=>?_⟩
  try walk_at "rd"
  refine⟨⟨_,SqL.of hlr⟩,λl kl=>?_⟩
  have kl0:=s1.free kl
  refine jO rxs (λi σ H'=>(∃ u,σ=[u])/\qq H1 H'/\∃ ys,H' l=some (.lst ys)/\z5 (XN (hide (fresh H H') l)) ys ((b.rows.take i).map Row.bareVs)) ⟨⟨_,rfl⟩,qq.new kl,[],qg,.nil⟩ (λi σ H' _ h=>SqL.of (h.2.1 _ _ hlr)) ?_ ?_
  ·rintro i x σ H2 hi ⟨⟨u,rfl⟩,s2,ys,hy,hA⟩
   obtain⟨r,hr2,hRx⟩:=hR.get hi
   have li:=(List.getElem?_eq_some_iff.mp hr2).1
   have e2:b.rows.length=b.ds.length+1:=by unfold Blk.rows;simp
   try walk_at "rd"
   refine⟨x,r,rfl,hRx.same s2,hn r (List.mem_of_getElem? hr2),λp H3 s3 kp hp=>?_⟩
   have np:p≠l:=(qj hy kp).symm
   refine⟨ys,s3 _ _ hy,?_,⟨_,rfl⟩,jv (s2.trans s3) kl,_,qg,?_⟩
   ·rw[hA.1,List.length_map,List.length_take]
    exact Nat.lt_of_le_of_lt (Nat.min_le_left _ _) (Nat.lt_trans (by omega:i<1001) (by decide))
   ·rw[Vw,List.take_succ,hr2,List.map_append]
    refine(hA.imp λ_ _ z=>z.same (ja (X9 s3))).append (.cons ⟨p,rfl,?_⟩ .nil)
    rw[zb np,JW ((s1.trans s2).free kp)]
    exact hp
  ·rintro σ H2 ⟨_,s2,ys,hy,hA⟩
   rw[hR.1,List.take_length] at hA
   exact Qn _ H2 (s1.trans s2) ⟨l,ys,rfl,by rw[JW kl0];exact hy,hA.imp λ_ _ z=>z.same zp⟩
mutual
theorem VE {H H':Hp}(s:qq H H'):∀ {v:V} {d:PyData},Dp K H v d->Dp K H' v d
 |_,_,.non=>.non
 |_,_,.bl b=>.bl b
 |_,_,.int i=>.int i
 |_,_,.str x=>.str x
 |_,_,.lst h1 h2=>.lst (s.seq h1) (dpSameAll s h2)
 |_,_,.tup h1 h2=>.tup (s.seqT h1) (dpSameAll s h2)
theorem dpSameAll {H H':Hp}(s:qq H H'):∀ {vs:List V} {ds:List PyData},DpAll K H vs ds->DpAll K H' vs ds
 |_,_,.nil=>.nil
 |_,_,.cons h1 h2=>.cons (VE s h1) (dpSameAll s h2)
end
def Wg (yss:List (List V)):PyData:=.list (yss.map λys=>.list (ys.map X1))
def vZ (zs:List (List (List V))):PyData:=.list (zs.map Wg)
theorem xX (r:Row):r.bareVs.all okV=true:=by
 cases r with
 |dd d=>
  cases d with
  |op w v a b=>cases w <;> simp[Row.bareVs,okV,Wd.txt,xn]
  |_=>simp[Row.bareVs,okV,xn]
 |ee e=>cases e <;> simp[Row.bareVs,okV,xn]
theorem X2 {y:V}(hx:okV x=true)(hy:okV y=true)(h:PyData.eqv (X1 x) (X1 y)=true):x=y:=by
 cases x <;> cases y <;> simp_all [okV,X1,PyData.eqv]
theorem jP {α:Type}{f:α->PyData}:∀ {a b:List α},(∀ x∈a,∀ y∈b,PyData.eqv (f x) (f y)=true->x=y)->PyData.eqvAll (a.map f) (b.map f)=true->a=b
 |[],[],_,_=>rfl
 |[],_::_,_,h=>by simp[PyData.eqvAll] at h
 |_::_,[],_,h=>by simp[PyData.eqvAll] at h
 |x::a,y::b,hi,h=>by
  simp only[List.map_cons,PyData.eqvAll,Bool.and_eq_true] at h
  rw[hi x (by simp) y (by simp) h.1,jP (λx hx y hy=>hi x (by simp[hx]) y (by simp[hy])) h.2]
theorem yy (bs:List Blk):Shp 3 (vZ (bs.map Blk.shape)):=.list λd hd=>by
 obtain⟨z,hz,rfl⟩:=List.mem_map.mp hd
 obtain⟨b,hb,rfl⟩:=List.mem_map.mp hz
 refine .list λe he=>?_
 obtain⟨ys,hys,rfl⟩:=List.mem_map.mp he
 obtain⟨r,hr,rfl⟩:=List.mem_map.mp hys
 exact .list (shVs (xX r))
theorem XL {as:List Blk}:PyData.eqv (vZ (as.map Blk.shape)) (vZ (bs.map Blk.shape))=true ↔ as.map Blk.shape=bs.map Blk.shape:=by
 refine⟨λh=>?_,λh=>by rw[h];exact(yy bs).refl⟩
 unfold vZ at h
 simp only[PyData.eqv] at h
 refine jP (λx hx y hy e=>?_) h
 obtain⟨b,hb,rfl⟩:=List.mem_map.mp hx
 obtain⟨c,hc,rfl⟩:=List.mem_map.mp hy
 unfold Wg at e
 simp only[PyData.eqv] at e
 refine jP (λx hx y hy e=>?_) e
 obtain⟨r,hr,rfl⟩:=List.mem_map.mp hx
 obtain⟨r',hr',rfl⟩:=List.mem_map.mp hy
 simp only[PyData.eqv] at e
 exact jP (λx hx y hy e=>X2 (List.all_eq_true.mp (xX r) x hx) (List.all_eq_true.mp (xX r') y hy) e) e
theorem vT.dp (h:vT H v b.shape):Dp K H v (Wg b.shape):=by
 obtain⟨p,xs,rfl,hp,hA⟩:=h
 refine .lst (SqL.of hp) ?_
 have hA':z5 (λv (r:Row)=>XN H v r.bareVs) xs b.rows:=⟨by rw[hA.1];unfold Blk.shape;rw[List.length_map],λi x r hx hr=>hA.2 i x _ hx (by unfold Blk.shape;rw[List.getElem?_map,hr];rfl)⟩
 have:=kN (K:=K) (H:=H) (f:=λr:Row=>PyData.list (r.bareVs.map X1)) (λx r ⟨q,e,hq⟩=>by rw[e];exact .lst (SqL.of hq) (Q2 (xX r))) hA'
 unfold Blk.shape
 rw[List.map_map]
 exact this
theorem Ku (hl:H l=some (.lst xs))(hA:z5 (wg K H) xs bs)(hb:∀ b∈bs,b.ds.length<1000/\ya b)(hn:bs.length<1000)(kp:H p=none)
  (k:∀ H',qq H H'->Dp K H' (.ref p) (vZ (bs.map Blk.shape))->Q (.ref p) H'):vH (Itl K l) (xH 0) Z9 (KM (y0 K) [] E0 (yE (vG 0) WI)) p [none] H Q:=by
 refine jO xs (λi σ H'=>(∃ u,σ=[u])/\qq H H'/\∃ ys,H' p=some (.lst ys)/\z5 (λv (b:Blk)=>vT (hide H' p) v b.shape) ys (bs.take i)) ⟨⟨_,rfl⟩,qq.new kp,[],qg,.nil⟩ (λi σ H' _ h=>SqL.of (h.2.1 _ _ hl)) ?_ ?_
 ·rintro i x σ H2 hi ⟨⟨u,rfl⟩,s2,ys,hy,hA2⟩
  obtain⟨b,hbi,hB⟩:=hA.get hi
  have li:=(List.getElem?_eq_some_iff.mp hbi).1
  obtain⟨b1,b2⟩:=hb b (List.mem_of_getElem? hbi)
  try walk_at "rd"
  refine⟨x,b,rfl,hB.same s2,b1,b2,λv' H3 s3 hS=>?_⟩
  refine⟨ys,s3 _ _ hy,?_,⟨_,rfl⟩,jv (s2.trans s3) kp,_,qg,?_⟩
  ·rw[hA2.1,List.length_take]
   exact Nat.lt_of_le_of_lt (Nat.min_le_left _ _) (Nat.lt_trans (by omega:i<1000) (by decide))
  ·rw[x6,List.take_succ,hbi]
   exact(hA2.imp λ_ _ z=>z.same (ja s3)).append (.cons (hS.same (Xj hy)) .nil)
 ·rintro σ H2 ⟨_,s2,ys,hy,hA2⟩
  rw[hA.1,List.take_length] at hA2
  refine k H2 s2 (.lst (SqL.of hy) ?_)
  have:=kN (K:=K) (H:=H2) (f:=λb:Blk=>Wg b.shape) (λv b h=>(h.same zp).dp) hA2
  rw[List.map_map]
  exact this
def J6 (bs cs:List Blk):Bool:=PyData.eqv (vZ (bs.map Blk.shape)) (vZ ((cs.map Blk.bare).map Blk.shape))
theorem wT {cs:List Blk}:J6 bs cs=true ↔ bs.map Blk.shape=(cs.map Blk.bare).map Blk.shape:=XL
theorem ZG (b:Blk):ya b.bare:=λr hr=>by
 unfold Blk.rows Blk.bare at hr
 rcases List.mem_append.mp hr with h|h
 ·obtain⟨d,hd,rfl⟩:=List.mem_map.mp h
  have:=(List.mem_filter.mp hd).2
  show d.isMove=false
  simpa using this
 ·rw[List.mem_singleton.mp h]
  rfl
def Zp (K:PySem.W.Frag):Sp:=λvs H Q _=>∃ v c bs cs,vs=[v,c]/\jZ K H v bs/\xy K H c cs/\bs.length<1000/\cs.length<1000/\(∀ b∈bs,b.ds.length<1000/\ya b)/\(∀ b∈cs,b.ds.length<1000)/\∀ H',qq H H'->Q (.bl (J6 bs cs)) H'
theorem ZH (T:Tx K w mg a):jA P w K mg base CX0 3 a.has_shape a.fd_has_shape ["blocks","code"] (Zp K):=by
 refine T.F_has_shape.fn.okQ Zr (λvs H Q E h=>?_) (λcdv A outer s H vs Q E hr h=>?_)
 ·obtain⟨v,c,bs,cs,rfl,_⟩:=h
  rfl
 ·obtain⟨v,c,bs,cs,rfl,⟨l,xs,rfl,hl,hA⟩,hC,n1,n2,hb,hc,Qn⟩:=h
  have G_shape_of:=Jn (P:=P) (w:=w) (base:=base) T
  have G_without_moves:=xQ (P:=P) (w:=w) (base:=base) T
  refine⟨_,(qh (qN (xY (Vi hr.units) (zT (N:=["block"]) (osc:=(q8 zy)) (on:=["blocks","code"]) (cap:=[none]) ⟨rfl,rfl,by decide +kernel⟩ rfl (z7 (pv 0)) (λ_ _ _ _=>(qr (i:=0) (show List.Nodup (["block"]:List Str) by decide +kernel) rfl (Or.inl rfl))) (λ_ _ _ _=>jf) (λ_ _ _ _=>(qo G_shape_of (hr.mono (by decide)) rfl T.F_shape_of.mg T.F_shape_of.fn.kp T.F_shape_of.b .nil qX (q5 (pv 0) qd)))) (zT (N:=["block"]) (osc:=(q8 zy)) (on:=["blocks","code"]) (cap:=[none]) ⟨rfl,rfl,by decide +kernel⟩ rfl (z7 (qo G_without_moves (hr.mono (by decide)) rfl T.F_without_moves.mg T.F_without_moves.fn.kp T.F_without_moves.b .nil qX (q5 (pv 1) qd))) (λ_ _ _ _=>(qr (i:=0) (show List.Nodup (["block"]:List Str) by decide +kernel) rfl (Or.inl rfl))) (λ_ _ _ _=>jf) (λ_ _ _ _=>(qo G_shape_of (hr.mono (by decide)) rfl T.F_shape_of.mg T.F_shape_of.fn.kp T.F_shape_of.b .nil qX (q5 (pv 0) qd)))) (qC _)))),?_⟩
  try walk_at "rd"
  refine⟨⟨_,SqL.of hl⟩,λp kp=>Ku hl hA hb n1 kp λH1 s1 d1=>?_⟩
  try walk_at "rd"
  refine⟨c,cs,rfl,hC.same s1,n2,hc,λv' H2 s2 hP=>?_⟩
  obtain⟨l2,xs2,rfl,hl2,hA2⟩:=hP
  try walk_at "rd"
  refine⟨⟨_,SqL.of hl2⟩,λp2 kp2=>Ku hl2 hA2 (λb hb'=>?_) (by rw[List.length_map];exact n2) kp2 λH3 s3 d3=>?_⟩
  ·obtain⟨b0,h0,rfl⟩:=List.mem_map.mp hb'
   exact⟨Nat.lt_of_le_of_lt (List.length_filter_le _ _) (hc b0 h0),ZG b0⟩
  ·exact⟨_,_,VE (s2.trans s3) d1,d3,(yy bs).sh (by decide),(yy _).sh (by decide),Qn _ (s1.trans (s2.trans s3))⟩
end
section
variable {P:Program}{w:World}{K:PySem.W.Frag}{mg:Str->Option Value}{base:Heap}
def Wo (K:PySem.W.Frag):Sp:=λvs H Q _=>∃ v pv bs pss,vs=[v,pv]/\jZ K H v bs/\kL K H pv pss/\0<bs.length/\bs.length<=12/\pss.length=bs.length/\(∀ ps∈pss,∀ x∈ps,KA x)/\(∀ b∈bs,∀ t∈b.en.ways,0<=t/\t<bs.length) /\
 ∀ pb kvs H' B,qq H H'->H pb=none->H' pb=some (.dK kvs)->BK H H' kvs B->q0b bs.length (Js bs) (EOf pss) B->Q (.ref pb) H'
theorem v4 (T:Tx K w mg a):jA P w K mg base CX0 4 a.held_at_beginnings a.fd_held_at_beginnings ["blocks","pairs"] (Wo K):=by
 refine T.F_held_at_beginnings.fn.okQ qK (λvs H Q E h=>?_) (λcdv A outer s H vs Q E hr h=>?_)
 ·obtain⟨v,pv,bs,pss,rfl,_⟩:=h
  rfl
 ·obtain⟨v,pv,bs,pss,rfl,⟨lb,bxs,rfl,hlb,hBA⟩,⟨lp,pxs,rfl,hlp,hPA⟩,n0,n12,hpl,okp,okw,Qn⟩:=h
  have hu:=yF hr
  have G_held_at_end:=yL (P:=P) (w:=w) (base:=base) T
  have G_held_in_both:=yh (P:=P) (w:=w) (base:=base) T
  have G_ways_on:=yT (P:=P) (w:=w) (base:=base) T
  refine⟨_,(qf (qy (i:=2) qK.nd rfl (Or.inl rfl) (vX (jQ qa JI vP) rfl rfl (by simp) (by simp)))
   (qf (qy (i:=3) qK.nd rfl (Or.inl rfl) (qO (q5 qa qd)))
   (qf (kF PassesOwn.never (qm XO (qP ze (by rfl) T.len PySem.boot_len (q5 (pv 3) qd)) qa (qC _))
    (qf (qy (i:=4) qK.nd rfl (Or.inl rfl) (X4 PySem.F.plainAttrs_list PySem.F.slot_list_pop PySem.F.type_list_pop mt_pop (pv 3)))
   (qf (qy (i:=5) qK.nd rfl (Or.inl rfl) (qo G_held_at_end (hr.mono (by decide)) rfl T.F_held_at_end.mg T.F_held_at_end.fn.kp T.F_held_at_end.b .nil qX (q5 (qz qZ (pv 1) (pv 4) (λ_ _=>rfl)) (q5 (v5 hu (pv 2) (pv 4) (λ_ _=>rfl)) qd))))
   (qh (zU PassesOwn.never rfl (z7 (qo G_ways_on (hr.mono (by decide)) rfl T.F_ways_on.mg T.F_ways_on.fn.kp T.F_ways_on.b .nil qX (q5 (qz qu (qz qZ (pv 0) (pv 4) (λ_ _=>rfl)) qa (λ_ _=>rfl)) qd))) (qr (i:=6) qK.nd rfl (Or.inl rfl))
    (qf (qy (i:=7) qK.nd rfl (Or.inl rfl) (vn hu (pv 2) (pv 6) ⟨rfl,rfl,rfl,rfl⟩))
   (qf (qy (i:=8) qK.nd rfl (Or.inl rfl) (jI (qm Wx (pv 7) kH (qC _)) (pv 5) (qo G_held_in_both (hr.mono (by decide)) rfl T.F_held_in_both.mg T.F_held_in_both.fn.kp T.F_held_in_both.b .nil qX (q5 (pv 7) (q5 (pv 5) qd)))))
   (qh (zf (qm (op_neD (units0 hr)) (pv 8) (pv 7) (qC _)) (qf (v6 hu (pv 2) (pv 6) (pv 8) rfl)
   (qh (qQ (xr PySem.F.plainAttrs_list PySem.F.slot_list_append PySem.F.type_list_append zG (pv 3) (q5 (pv 6) qd))))) qI)))))))))
   (qh (qN (pv 2)))))),?_⟩
  try walk_at "rd"
  refine λpb kpb d0 H2 n2=>⟨n2.same _ _ qg,[(Sum.inl 0,.ref d0)],rfl,(show 1<=15 by decide),by decide,λtd H3 n3=>?_⟩
  have em:xv [] [((Sum.inl 0:Key),V.ref d0)]=[(Sum.inl 0,.ref d0)]:=rfl
  rw[em] at n3
  have npd:pb≠d0:=qj qg n2.fr
  have s2:qq H H2:=(qq.new kpb).trans n2.same
  have s2':qq H (upd H2 pb (.dK [(Sum.inl 0,.ref d0)])):=jv s2 kpb
  have s3:qq H H3:=s2'.trans n3.same
  have hpb3:H3 pb=some (.dK [(Sum.inl 0,.ref d0)]):=n3.same _ _ qg
  have hd03:H3 d0=some (.dK []):=n3.same _ _ (by rw[qp npd.symm];exact n2.at_)
  have kd0:H d0=none:=(qq.new kpb).free n2.fr
  have ktd:H td=none:=s2'.free n3.fr
  have bk0:BK H H3 [(Sum.inl 0,.ref d0)] (λx=>if x=0 then some (λ_=>none) else none):=
   BK.put (kvs:=[]) (B:=λ_=>none) ⟨λ_ _=>rfl,λk h e=>(by cases e),λp h=>(by cases h),List.nodup_nil⟩ (Int.le_refl 0) (by decide) ⟨[],.inl hd03,xu.nil⟩ kd0
  refine⟨λm σ H'=>∃ B todo kvs,(∃ u4 u5 u6 u7 u8,σ=[some (.ref lb),some (.ref lp),some (.ref pb),some (.ref td),u4,u5,u6,u7,u8])/\qq H H'/\H' pb=some (.dK kvs)/\BK H H' kvs B/\H' td=some (.lst (todo.map V.int))/\WL bs.length (Js bs) (EOf pss) B todo (λ_=>False)/\2*wt bs.length B+todo.length=m/\m<=2000,
   ⟨_,_,[0],_,⟨_,_,_,_,_,rfl⟩,s3,hpb3,bk0,n3.at_,WL.init (by omega),rfl,?_⟩,?_⟩
  ·have:=YE (λx=>if x=0 then some (λ_=>none) else none) bs.length
   simp only[List.length_cons,List.length_nil]
   omega
  ·rintro m σ H1 ⟨B,todo,kvs,⟨u4,u5,u6,u7,u8,rfl⟩,s1,hpb,bk,htd,wl,hm,hm2⟩
   try walk_at "rd"
   refine jN (SqL.of htd) ?_
   rw[List.length_map]
   try walk_at "rd"
   refine xN (λc=>?_) (λc=>?_)
   ·obtain⟨ini,n,rfl⟩:∃ ini n,todo=ini++[n]:=⟨todo.dropLast,todo.getLast (by intro z;rw[z] at c;simp at c),(List.dropLast_concat_getLast _).symm⟩
    refine⟨λσ' H'=>∃ m',m'<m/\_,λ_ _ z=>z,?_⟩
    try walk_at "rd"
    obtain⟨h,hBn⟩:=wl.td n (by simp)
    obtain⟨n0',nN⟩:=wl.dom n h hBn
    obtain⟨j,rfl⟩:=Int.eq_ofNat_of_zero_le n0'
    have jl:j<bs.length:=by omega
    have s1':qq H (upd H1 td (.lst (ini.map V.int))):=jv s1 ktd
    have npt:pb≠td:=xZ hpb htd (by intro z;cases z)
    have hpb':upd H1 td (.lst (ini.map V.int)) pb=some (.dK kvs):=by rw[qp npt];exact hpb
    have bk':BK H (upd H1 td (.lst (ini.map V.int))) kvs B:=bk.mono λe g z=>z.ne (qp (z.neL htd))
    have htd':upd H1 td (.lst (ini.map V.int)) td=some (.lst (ini.map V.int)):=qg
    have wl':=wl.pop
    have hbest:∀ F,Flow (Js bs) (EOf pss) F->∃ f,F (j:Int)=some f/\leH f h:=λF hF=>wl.best F hF _ _ hBn
    have hm':2*wt bs.length B+ini.length<m:=by rw[<-hm,List.length_append];simp only[List.length_cons,List.length_nil];omega
    refine⟨.inl ⟨rfl,_,SqL.of htd⟩,td,_,.int j,rfl,rfl,htd,?_,?_⟩
    ·rw[List.map_append,List.length_append]
     simp
    ·rw[show((ini++[(j:Int)]).map V.int).dropLast=ini.map V.int by rw[List.map_append];simp]
     generalize upd H1 td (.lst (ini.map V.int))=H4 at s1' hpb' bk' htd' ⊢
     have pj:pss[j]?=some pss[j]:=List.getElem?_eq_getElem (by omega)
     have bj:bs[j]?=some bs[j]:=List.getElem?_eq_getElem jl
     obtain⟨vps,hvps,hPs⟩:=hPA.get' pj
     obtain⟨vb,hvb,hB⟩:=hBA.get' bj
     obtain⟨d,hvd,hd,kd⟩:=bk'.val _ h hBn
     have eE:EOf pss (j:Int) h=zS pss[j] h:=by unfold EOf;rw[Int.toNat_natCast,List.getD_eq_getElem?_getD,pj];rfl
     have eW:Js bs (j:Int)=bs[j].en.ways:=by unfold Js;rw[Int.toNat_natCast,List.getD_eq_getElem?_getD,bj];rfl
     refine qR (SqL.of (s1' _ _ hlp)) (xE hvps) ⟨.ref d,.inl ⟨kvs,Sum.inl (j:Int),.inl hpb',rfl,hvd.symm⟩,vps,d,h,_,rfl,hPs.same s1',okp _ (List.mem_of_getElem? pj),hd,λdh H5 s5 kdh hDO=>?_⟩
     obtain⟨q,dl,en,rfl,hT,hDs,hEn⟩:=hB
     refine qR (SqL.of (s5 _ _ (s1' _ _ hlb))) (xE hvb) (qi ((s1'.trans s5).seqT hT) rfl ⟨en,_,rfl,hEn.same (s1'.trans s5),λlw klw=>?_⟩)
     have s6:=s5.trans (qq.new (o:=.lst (bs[j].en.ways.map V.int)) klw)
     have hlw:upd H5 lw (.lst (bs[j].en.ways.map V.int)) lw=some (.lst (bs[j].en.ways.map V.int)):=qg
     have hdh:HD (upd H5 lw (.lst (bs[j].en.ways.map V.int))) dh (EOf pss j h):=by rw[eE];exact hDO.hd.same (qq.new klw)
     have kdh0:H dh=none:=s1'.free kdh
     generalize upd H5 lw (.lst (bs[j].en.ways.map V.int))=H6 at s6 hlw hdh ⊢
     try walk_at "rd"
     refine⟨⟨_,SqL.of hlw⟩,zz (bs[j].en.ways.map V.int) (λi σ H'=>∃ B' todo' kvs',(∃ u6 u7 u8,σ=[some (.ref lb),some (.ref lp),some (.ref pb),some (.ref td),some (.int j),some (.ref dh),u6,u7,u8])/\qq H H'/\H' pb=some (.dK kvs')/\BK H H' kvs' B'/\H' td=some (.lst (todo'.map V.int)) /\
       H' lw=some (.lst (bs[j].en.ways.map V.int))/\HD H' dh (EOf pss j h)/\WL bs.length (Js bs) (EOf pss) B' todo' (λx=>x=(j:Int))/\2*wt bs.length B'+todo'.length<m/\((j:Int)∈todo'\/(B' j=some h/\Cl B' (bs[j].en.ways.take i) (EOf pss j h))))
      ⟨B,ini,kvs,⟨_,_,_,rfl⟩,s1'.trans s6,s6 _ _ hpb',bk'.mono λe g z=>z.same s6,s6 _ _ htd',hlw,hdh,wl',hm',.inr ⟨hBn,λt ht=>by cases ht⟩⟩ (λi σ H' _ z=>by obtain⟨_,_,_,_,_,_,_,_,z,_⟩:=z;exact SqL.of z) ?_ ?_⟩
     ·rintro i x σ H7 hi ⟨B',todo',kvs',⟨u6',u7',u8',rfl⟩,s7,hpb7,bk7,htd7,hlw7,hdh7,wl7,hm7,hcl⟩
      rw[List.getElem?_map] at hi
      obtain⟨t,ht,rfl⟩:=Option.map_eq_some_iff.mp hi
      have htm:=List.mem_of_getElem? ht
      obtain⟨t0,t1⟩:=okw _ (List.mem_of_getElem? bj) t htm
      try walk_at "rd"
      refine⟨.inl ⟨kvs',.inl hpb7⟩,_,.inl ⟨kvs',Sum.inl t,.inl hpb7,rfl,rfl⟩,?_⟩
      have mono:∀ n a b,leH a b->leH (EOf pss n a) (EOf pss n b):=λn a b z=>wr z
      have lt':todo'.length<sizeLine:=Nat.lt_of_le_of_lt (by omega:todo'.length<=2000) (by decide)
      have Fin:∀ (H8:Hp) (dn:Addr),qq H H8->H8 pb=some (.dK kvs')->BK H H8 kvs' B'->H8 td=some (.lst (todo'.map V.int))->H8 lw=some (.lst (bs[j].en.ways.map V.int))->HD H8 dh (EOf pss j h)->HD H8 dn (Qx (B' t) (EOf pss j h))->H dn=none->wtO (some (Qx (B' t) (EOf pss j h)))<wtO (B' t) ->
        ∃ H4,Xa H8 pb (.int t) (.ref dn) H4/\H4 td=some (.lst (todo'.map V.int))/\∀ H9,H9=upd H4 td (.lst (todo'.map V.int++[.int t]))->qq H H9/\H9 pb=some (.dK (xT kvs' (Sum.inl t) (.ref dn)))/\BK H H9 (xT kvs' (Sum.inl t) (.ref dn)) (Qo B' t (Qx (B' t) (EOf pss j h))) /\
         H9 td=some (.lst ((todo'++[t]).map V.int))/\H9 lw=some (.lst (bs[j].en.ways.map V.int))/\HD H9 dh (EOf pss j h)/\WL bs.length (Js bs) (EOf pss) (Qo B' t (Qx (B' t) (EOf pss j h))) (todo'++[t]) (λx=>x=(j:Int)) /\
         2*wt bs.length (Qo B' t (Qx (B' t) (EOf pss j h)))+(todo'++[t]).length<m/\((j:Int)∈todo'++[t]\/(Qo B' t (Qx (B' t) (EOf pss j h)) j=some h/\Cl (Qo B' t (Qx (B' t) (EOf pss j h))) (bs[j].en.ways.take (i+1)) (EOf pss j h))):=λH8 dn s8 hpb8 bk8 htd8 hlw8 hdh8 hdn8 kdn hlt=>by
       obtain⟨d00,hv00,_,_⟩:=bk8.val 0 _ wl7.z
       have lenk:kvs'.length<sizeLine:=Nat.lt_of_le_of_lt bk8.len (by decide)
       have nlp2:lw≠pb:=xZ hlw8 hpb8 (by intro z;cases z)
       have htd4:upd H8 pb (.dK (xT kvs' (Sum.inl t) (.ref dn))) td=some (.lst (todo'.map V.int)):=by rw[qp npt.symm];exact htd8
       have nlt:lw≠td:=λz=>by
        have hl0:=s6 _ _ htd'
        have:H5 lw=none:=klw
        rw[z,s5 _ _ htd'] at this
        cases this
       refine⟨_,Xa.k (k:=Sum.inl t) hpb8 lenk,htd4,?_⟩
       rintro H9 rfl
       have keep:∀ e g,HD H8 e g->HD (upd (upd H8 pb (.dK (xT kvs' (Sum.inl t) (.ref dn)))) td (.lst (todo'.map V.int++[.int t]))) e g:=λe g z=>by
        have z1:HD (upd H8 pb (.dK (xT kvs' (Sum.inl t) (.ref dn)))) e g:=z.ne (qp (z.neB hpb8 hv00))
        exact z1.ne (qp (z1.neL htd4))
       have hwt:=VM t0 t1 hlt
       refine⟨jv (jv s8 kpb) ktd,by rw[qp npt];exact qg,(bk8.put t0 (by omega) hdn8 kdn).mono keep,by rw[qg,List.map_append];rfl,by rw[qp nlt,qp nlp2];exact hlw8,keep _ _ hdh8,wl7.put mono hbest (by rw[eW];exact htm) t0 t1,by rw[List.length_append];simp only[List.length_cons,List.length_nil];omega,?_⟩
       by_cases c:(j:Int)=t
       ·exact .inl (by rw[c];simp)
       ·rcases hcl with z|⟨z1,z2⟩
        ·exact .inl (List.mem_append_left _ z)
        ·refine .inr ⟨by rw[jm c];exact z1,λu hu=>?_⟩
         by_cases cu:u=t
         ·subst cu
          exact⟨_,xf,Vl⟩
         ·rw[jm cu]
          rw[List.take_succ,ht] at hu
          rcases List.mem_append.mp hu with hu|hu
          ·exact z2 u hu
          ·exact absurd (by simpa using hu) cu
      cases hBt:B' t with
      |none=>
       rw[bk7.non t hBt]
       refine kW (decide_eq_true rfl) ?_
       have hdh7':=hdh7
       obtain⟨kd7,hk7,r7⟩:=hdh7
       refine⟨dh,kd7,rfl,hk7,.inl ⟨rfl,?_⟩⟩
       dsimp only[jH]
       refine iteT ?_
       obtain⟨H8,hp,htd8,F⟩:=Fin H7 dh s7 hpb7 bk7 htd7 hlw7 hdh7' (by rw[hBt];exact hdh7') kdh0 (by rw[hBt];exact Nat.lt_succ_of_le (Jc _))
       refine⟨H8,hp,.inl ⟨rfl,_,SqL.of htd8⟩,td,_,.int t,rfl,rfl,htd8,by rw[List.length_map];exact lt',_,_,_,⟨_,_,_,rfl,rfl,rfl⟩,F _ rfl⟩
      |some g=>
       obtain⟨db,hvb7,hdb7,kdb⟩:=bk7.val t g hBt
       obtain⟨d00,hv00,_,_⟩:=bk7.val 0 _ wl7.z
       rw[hvb7]
       refine vq (decide_eq_false λz=>by cases z) ?_
       refine⟨db,dh,g,_,rfl,hdb7,hdh7,λdn H8 u8 keep kdn hDn=>?_⟩
       have s8:qq H H8:=u8.same s7 kdb
       have hpb8:H8 pb=some (.dK kvs'):=u8 _ _ (hdb7.neB hpb7 hv00).symm hpb7
       have htd8:H8 td=some (.lst (todo'.map V.int)):=u8 _ _ (hdb7.neL htd7).symm htd7
       have hlw8:H8 lw=some (.lst (bs[j].en.ways.map V.int)):=u8 _ _ (hdb7.neL hlw7).symm hlw7
       have bk8:=bk7.mono keep
       have hdh8:=keep _ _ hdh7
       have kdn0:H dn=none:=s7.free kdn
       have hDn':=hDn
       obtain⟨kn,hkn,rn⟩:=hDn
       obtain⟨kb,hkb,rb⟩:=keep _ _ hdb7
       try walk_at "rd"
       refine⟨dn,kn,rfl,.inl hkn,.inr ⟨db,kb,rfl,hkb,rn.flat,rb.flat,?_⟩⟩
       have iff:=rn.eqv rb
       dsimp only[jH]
       cases eq:(decide (kn.length=kb.length) && Xr kb kn) with
       |true=>
        have em2:xx g (EOf pss j h)=g:=iff.mp eq
        refine vq rfl ?_
        refine⟨B',todo',kvs',⟨_,_,_,rfl,rfl,rfl⟩,s8,hpb8,bk8,htd8,hlw8,hdh8,wl7,hm7,?_⟩
        rcases hcl with z|⟨z1,z2⟩
        ·exact .inl z
        ·refine .inr ⟨z1,λu hu=>?_⟩
         rw[List.take_succ,ht] at hu
         rcases List.mem_append.mp hu with hu|hu
         ·exact z2 u hu
         ·have:u=t:=by simpa using hu
          subst this
          exact⟨g,hBt,by rw[<-em2];exact xG⟩
       |false=>
        have ne:¬ xx g (EOf pss j h)=g:=λz=>by rw[iff.mpr z] at eq;cases eq
        refine kW rfl ?_
        obtain⟨H10,hp,htd10,F⟩:=Fin H8 dn s8 hpb8 bk8 htd8 hlw8 hdh8 (by rw[hBt];exact hDn'.hd) kdn0 (by rw[hBt];exact Ka xB ne λp n z=>hdb7.dom z)
        refine⟨H10,hp,.inl ⟨rfl,_,SqL.of htd10⟩,td,_,.int t,rfl,rfl,htd10,by rw[List.length_map];exact lt',_,_,_,⟨_,_,_,rfl,rfl,rfl⟩,F _ rfl⟩
     ·rintro σ H7 ⟨B',todo',kvs',⟨u6',u7',u8',rfl⟩,s7,hpb7,bk7,htd7,hlw7,hdh7,wl7,hm7,hcl⟩
      rw[List.length_map,List.take_length] at hcl
      refine⟨_,hm7,B',todo',kvs',⟨_,_,_,_,_,rfl⟩,s7,hpb7,bk7,htd7,wl7.done (h:=h) (by rw[eW];exact hcl),rfl,by omega⟩
   ·have e:todo=[]:=by
     cases todo with
     |nil=>rfl
     |cons a r=>exact absurd (by simp:(0:Int)<((a::r).length:Nat)) c
    subst e
    try walk_at "rd"
    exact Qn pb kvs H1 B s1 kpb hpb bk ⟨wl.flow,wl.dom,wl.best⟩
def zc (bs cs:List Blk):List (List RP):=List.zipWith (λ(b cb:Blk)=>sbs b.rows cb.rows) bs cs
def Vy (pss:List (List RP))(B:Bg):Prop:=∀ n h,B n=some h->qU (pss.getD n.toNat []) h=true
def Qf (K:PySem.W.Frag):Sp:=λvs H Q _=>∃ v c bs cs,vs=[v,c]/\jZ K H v bs/\jZ K H c cs/\0<bs.length/\bs.length<=12/\cs.length=bs.length/\(∀ b∈bs,b.ds.length<1000)/\(∀ b∈cs,b.ds.length<1000) /\
 (∀ (i:Nat) (b cb:Blk),bs[i]?=some b->cs[i]?=some cb->y6 cb.rows<=b.rows.length)/\(∀ ps∈zc bs cs,∀ x∈ps,KA x)/\(∀ b∈bs,∀ t∈b.en.ways,0<=t/\t<bs.length) /\
 ∀ H' B r,qq H H'->q0b bs.length (Js bs) (EOf (zc bs cs)) B->(r=true ↔ Vy (zc bs cs) B)->Q (.bl r) H'
def gdB (pss:List (List RP))(B:Bg)(p:Key×V):Bool:=match p.1 with
 |.inl n=>(match B n with
  |some h=>qU (pss.getD n.toNat []) h
  |none=>true)
 |.inr _=>true
theorem Yt {pss:List (List RP)}(bk:BK H0 H kvs B):((kvs.map (gdB pss B)).all id=true) ↔ Vy pss B:=by
 rw[List.all_map,List.all_eq_true]
 refine⟨λh n g e=>?_,λh p hp=>?_⟩
 ·obtain⟨d,hv,_⟩:=bk.val n g e
  have:=h _ (kM hv)
  unfold gdB at this
  simp only[Function.comp,e,id] at this
  exact this
 ·obtain⟨n,hn,_⟩:=bk.key p hp
  show gdB pss B p=true
  unfold gdB
  rw[hn]
  dsimp only
  cases e:B n with
  |none=>rfl
  |some g=>exact h n g e
theorem UpD.hide:UpD p H (hide H p):=λb o n e=>by rw[zb n];exact e
theorem vi (T:Tx K w mg a):jA P w K mg base CX0 5 a.reads_what_is_held a.fd_reads_what_is_held ["blocks","code"] (Qf K):=by
 refine T.F_reads_what_is_held.fn.okQ jk (λvs H Q E h=>?_) (λcdv A outer s H vs Q E hr h=>?_)
 ·obtain⟨v,c,bs,cs,rfl,_⟩:=h
  rfl
 ·obtain⟨v,c,bs,cs,rfl,hB0,⟨lc,cxs,rfl,hlc,hCA⟩,n0,n12,hlen,lb,lcb,hbar,okp,okw,Qn⟩:=h
  have hu:=yF hr
  have G_side_by_side:=yu (P:=P) (w:=w) (base:=base) T
  have G_held_at_beginnings:=v4 (P:=P) (w:=w) (base:=base) T
  have G_reads_of_block_are_held:=xg (P:=P) (w:=w) (base:=base) T
  obtain⟨l,bxs,rfl,hl,hBA⟩:=id hB0
  refine⟨_,(qf (qy (i:=2) jk.nd rfl (Or.inr rfl) (zT (N:=["block","code_block"]) (osc:=(q8 qG)) (on:=["blocks","code","pairs","beginnings"]) (cap:=[none,none]) ⟨rfl,rfl,by decide +kernel⟩ rfl (yQ rfl T.zip (q5 (pv 0) (q5 (pv 1) qd))) (λ_ _ _ _=>(Jg (K:=K) (n:=2) rfl rfl (qL (qr (i:=0) (show List.Nodup (["block","code_block"]:List Str) by decide +kernel) rfl (Or.inl rfl)) (qL (qr (i:=1) (show List.Nodup (["block","code_block"]:List Str) by decide +kernel) rfl (Or.inl rfl)) jn)))) (λ_ _ _ _=>jf) (λ_ _ _ _=>(qo G_side_by_side (hr.mono (by decide)) rfl T.F_side_by_side.mg T.F_side_by_side.fn.kp T.F_side_by_side.b .nil qX (q5 (pv 0) (q5 (pv 1) qd))))))
   (qf (qy (i:=3) jk.nd rfl (Or.inr rfl) (qo G_held_at_beginnings (hr.mono (by decide)) rfl T.F_held_at_beginnings.mg T.F_held_at_beginnings.fn.kp T.F_held_at_beginnings.b .nil qX (q5 (pv 0) (q5 (pv 2) qd))))
   (qh (qN (qP (Q6 rfl) (by rfl) T.all PyProof.Rows.boot_all (q5 (zT (N:=["number","pairs","beginnings"]) (osc:=(q8 qG)) (on:=["blocks","code","pairs","beginnings"]) (cap:=[none,some 2,some 3]) ⟨rfl,rfl,by decide +kernel⟩ rfl (QE (pv 3)) (λ_ _ _ _=>(qr (i:=0) (show List.Nodup (["number","pairs","beginnings"]:List Str) by decide +kernel) rfl (Or.inl rfl))) (λ_ _ _ _=>jf) (λ_ _ _ _=>(qo G_reads_of_block_are_held (hr.mono (by decide)) rfl T.F_reads_of_block_are_held.mg T.F_reads_of_block_are_held.fn.kp T.F_reads_of_block_are_held.b .nil qX (q5 (qz (r:=q0c K) qZ (pv 1) (pv 0) (λ_ _=>rfl)) (q5 (v5 hu (pv 2) (pv 0) (λ_ _=>rfl)) qd))))) qd)))))),?_⟩
  try walk_at "rd"
  refine⟨l,lc,⟨rfl,rfl⟩,⟨_,SqL.of hl⟩,⟨_,SqL.of hlc⟩,λp kp=>?_⟩
  have hzl:∀ (i:Nat) (b cb:Blk),bs[i]?=some b->cs[i]?=some cb->(zc bs cs)[i]?=some (sbs b.rows cb.rows):=λi b cb h1 h2=>by
   unfold zc
   rw[List.getElem?_zipWith,h1,h2]
  have hpl:(zc bs cs).length=bs.length:=by unfold zc;rw[List.length_zipWith,hlen,Nat.min_self]
  refine Za bxs cxs (λi σ H'=>(∃ u w,σ=[u,w])/\qq H H'/\∃ ys,H' p=some (.lst ys)/\z5 (v8 K (hide H' p)) ys ((zc bs cs).take i)) ⟨⟨_,_,rfl⟩,qq.new kp,[],qg,.nil⟩ (λi σ H' _ h=>⟨SqL.of (h.2.1 _ _ hl),SqL.of (h.2.1 _ _ hlc)⟩) ?_ ?_
  ·rintro i x y t σ H1 hx hy ht ⟨⟨u,w1,rfl⟩,s1,ys,hp1,hA1⟩
   obtain⟨b,hbi,hB⟩:=hBA.get hx
   obtain⟨cb,hci,hC⟩:=hCA.get hy
   have li:=(List.getElem?_eq_some_iff.mp hbi).1
   have s2:=qq.new (o:=.tup [x,y]) ht
   have hT2:SqT K (upd H1 t (.tup [x,y])) t [x,y]:=SqT.of qg
   generalize upd H1 t (.tup [x,y])=H2 at s2 hT2 ⊢
   have s02:=s1.trans s2
   try walk_at "rd"
   refine⟨t,_,rfl,hT2,rfl,_,_,rfl,_,_,rfl,rfl,?_⟩
   try walk_at "rd"
   refine⟨x,y,b,cb,rfl,hB.same s02,hC.same s02,lb b (List.mem_of_getElem? hbi),lcb cb (List.mem_of_getElem? hci),hbar i b cb hbi hci,λq zs H3 s3 kq hq hZ=>?_⟩
   have hp3:=s3 _ _ (s2 _ _ hp1)
   have nq:q≠p:=(qj (s2 _ _ hp1) kq).symm
   refine⟨ys,hp3,?_,⟨_,_,rfl,rfl⟩,jv (s02.trans s3) kp,_,qg,?_⟩
   ·rw[hA1.1,List.length_take]
    exact Nat.lt_of_le_of_lt (Nat.min_le_left _ _) (Nat.lt_trans (by omega:i<13) (by decide))
   ·rw[x6,List.take_succ,hzl i b cb hbi hci]
    exact(hA1.imp λ_ _ z=>z.same (ja (s2.trans s3))).append (.cons ⟨q,zs,rfl,by rw[zb nq];exact hq,hZ.imp λ_ _ z=>UpD.hide.pairL hp3 z⟩ .nil)
  ·rintro σ H1 ⟨_,s1,ys,hp1,hA1⟩
   rw[hBA.1,hCA.1,hlen,Nat.min_self,<- hpl,List.take_length] at hA1
   have hPs:kL K H1 (.ref p) (zc bs cs):=⟨p,ys,rfl,hp1,hA1.imp λ_ _ z=>z.same zp⟩
   try walk_at "rd"
   refine⟨.ref l,.ref p,bs,zc bs cs,rfl,hB0.same s1,hPs,n0,n12,hpl,okp,okw,λpb kvs H2 B s2 kpb hpb bk best=>?_⟩
   try walk_at "rd"
   refine⟨kvs,.inl hpb,λo H3 f3 pl kpl=>?_⟩
   have u3:UpD pb H2 H3:=λb o n e=>by rw[f3.ne _ n];exact e
   have s02:=s1.trans s2
   have kpb0:H pb=none:=s1.free kpb
   have s03:qq H H3:=u3.same s02 kpb0
   have keep:∀ e g,HD H2 e g->HD H3 e g:=λe g z=>Fz.hd f3 (.inl hpb) z
   have bk3:=bk.mono keep
   obtain⟨p',ys',e',hp2,hA2⟩:=hPs.same s2
   cases e'
   have hp3:H3 p=some (.lst ys'):=u3 _ _ (xZ hp2 hpb (by intro z;cases z)) hp2
   have hA3:z5 (v8 K H3) ys' (zc bs cs):=hA2.imp λx ps z=>by
    obtain⟨q,zs,rfl,hq,hZ⟩:=z
    exact⟨q,zs,rfl,u3 _ _ (xZ hq hpb (by intro z;cases z)) hq,hZ.imp λ_ _ z=>u3.pair hpb z⟩
   refine Xq (λi σ H'=>(∃ u,σ=[u,some (.ref p),some (.ref pb)])/\qq H3 H'/\H' pl=some (.lst (((kvs.take i).map (gdB (zc bs cs) B)).map V.bl))) ⟨⟨_,rfl⟩,qq.new kpl,qg⟩ (λi σ H' _ z=>z.2.1 _ _ f3.at_) ?_ ?_
   ·rintro i k v σ H4 hk ⟨⟨u,rfl⟩,s4,hpl4⟩
    have hm:=List.mem_of_getElem? hk
    obtain⟨n,hn,n0',n60⟩:=bk3.key _ hm
    dsimp only at hn
    subst hn
    have hv:=JU bk3.nd hm
    cases hBn:B n with
    |none=>rw[bk3.non n hBn] at hv;cases hv
    |some h=>
     obtain⟨d,hvd,hd,_⟩:=bk3.val n h hBn
     rw[hv] at hvd
     cases hvd
     obtain⟨_,nN⟩:=best.dom n h hBn
     obtain⟨j,rfl⟩:=Int.eq_ofNat_of_zero_le n0'
     have jl:j<(zc bs cs).length:=by rw[hpl];omega
     have pj:(zc bs cs)[j]?=some (zc bs cs)[j]:=List.getElem?_eq_getElem jl
     obtain⟨vps,hvps,hP⟩:=hA3.get' pj
     have eg:(zc bs cs).getD ((j:Int).toNat) []=(zc bs cs)[j]:=by rw[Int.toNat_natCast,List.getD_eq_getElem?_getD,pj];rfl
     have leni:i<61:=Nat.lt_succ_of_le (Nat.le_trans (Nat.le_of_lt (List.getElem?_eq_some_iff.mp hk).1) bk3.len)
     try walk_at "rd"
     refine qR (SqL.of (s4 _ _ hp3)) (xE hvps) ⟨.ref d,.inl ⟨kvs,Sum.inl (j:Int),.inr ⟨o,s4 _ _ f3.at_⟩,rfl,hv.symm⟩,vps,d,h,_,rfl,hP.same s4,okp _ (List.mem_of_getElem? pj),hd.same s4,λH5 s5=>?_⟩
     refine⟨_,s5 _ _ hpl4,?_,⟨_,rfl⟩,jv (s4.trans s5) kpl,?_⟩
     ·rw[List.length_map,List.length_map,List.length_take]
      exact Nat.lt_of_le_of_lt (Nat.min_le_left _ _) (Nat.lt_trans leni (by decide))
     ·rw[qg,List.take_succ,hk,List.map_append,List.map_append]
      have e1:gdB (zc bs cs) B (Sum.inl (j:Int),V.ref d)=qU (zc bs cs)[j] h:=by
       unfold gdB
       dsimp only
       rw[hBn]
       dsimp only
       rw[eg]
      show some (HO.lst (_++[V.bl _]))=some (HO.lst (_++[V.bl (gdB (zc bs cs) B (Sum.inl (j:Int),V.ref d))]))
      rw[e1]
   ·rintro σ H4 ⟨_,s4,hpl4⟩
    rw[List.take_length] at hpl4
    exact⟨pl,_,rfl,SqL.of hpl4,Qn H4 B _ (s03.trans s4) best (Yt bk3)⟩
def Looks (bs cs:List Blk):Prop:=bs.map Blk.shape=(cs.map Blk.bare).map Blk.shape/\∃ B,q0b bs.length (Js bs) (EOf (zc bs cs)) B/\Vy (zc bs cs) B
theorem ky (b:Blk):b.bare.rows=b.rows.filter λr=>!r.isMove:=by
 unfold Blk.rows Blk.bare
 rw[List.filter_append,List.filter_map]
 rfl
theorem XQ (b:Blk):y6 b.rows=b.bare.rows.length:=by rw[ky];rfl
theorem wW {cs:List Blk}(h:bs.map Blk.shape=(cs.map Blk.bare).map Blk.shape){cb:Blk}(hb:bs[i]?=some b)(hc:cs[i]?=some cb):y6 cb.rows=b.rows.length:=by
 have e:(bs.map Blk.shape)[i]?=((cs.map Blk.bare).map Blk.shape)[i]?:=by rw[h]
 rw[List.getElem?_map,List.getElem?_map,List.getElem?_map,hb,hc] at e
 have e2:b.shape=cb.bare.shape:=Option.some.inj e
 have e3:=congrArg List.length e2
 unfold Blk.shape at e3
 rw[List.length_map,List.length_map] at e3
 rw[XQ,e3]
theorem Qr:∀ {cs rs:List Row} {x:RP},x∈sbs rs cs->(x.1=none/\x.2.isMove=true/\x.2∈cs)\/(x.2.isMove=false/\x.2∈cs/\∃ r∈rs,x.1=some r)
 |[],rs,x,h=>by cases rs <;> cases h
 |c::cs,rs,x,h=>by
  cases hm:c.isMove with
  |true=>
   rw[wK hm] at h
   rcases List.mem_cons.mp h with e|h
   ·subst e;exact .inl ⟨rfl,hm,by simp⟩
   ·rcases Qr h with⟨a,b,d⟩|⟨a,b,d⟩
    ·exact .inl ⟨a,b,by simp[d]⟩
    ·exact .inr ⟨a,by simp[b],d⟩
  |false=>
   cases rs with
   |nil=>
    unfold sbs at h
    rw[if_neg (by rw[hm];exact Bool.false_ne_true)] at h
    cases h
   |cons r rs=>
    rw[wL hm] at h
    rcases List.mem_cons.mp h with e|h
    ·subst e;exact .inr ⟨hm,by simp,r,by simp,rfl⟩
    ·rcases Qr h with⟨a,b,d⟩|⟨a,b,q,d,e⟩
     ·exact .inl ⟨a,b,by simp[d]⟩
     ·exact .inr ⟨a,by simp[b],q,by simp[d],e⟩
theorem xJ (h:okP bs)(hb:b∈bs):ya b:=λr hr=>by
 unfold Blk.rows at hr
 rcases List.mem_append.mp hr with z|z
 ·obtain⟨d,hd,rfl⟩:=List.mem_map.mp z
  exact((h.2 b hb).1 d hd).1
 ·rw[List.mem_singleton.mp z];rfl
theorem JM {e:En}(h:okE n m e):∀ t∈e.ways,0<=t/\t<m:=λt ht=>by
 cases e with
 |go q=>have:=List.mem_singleton.mp ht;subst this;exact h
 |iff x q r=>
  simp only[En.ways,List.mem_cons,List.mem_nil_iff,or_false] at ht
  rcases ht with rfl|rfl
  ·exact h.2.1
  ·exact h.2.2
 |fin=>cases ht
theorem Q8 {cs:List Blk}(hp:okP bs)(hn:jX n)(hc:v3 n cs):∀ ps∈zc bs cs,∀ x∈ps,KA x:=λps hps x hx=>by
 obtain⟨i,hi,e⟩:=List.mem_iff_getElem.mp hps
 unfold zc at hi e
 rw[List.getElem_zipWith] at e
 rw[List.length_zipWith] at hi
 have hb:bs[i]'(by omega)∈bs:=List.getElem_mem _
 have hcb:cs[i]'(by omega)∈cs:=List.getElem_mem _
 subst e
 obtain⟨o,c⟩:=x
 rcases Qr hx with⟨h1,h2,h3⟩|⟨h1,h2,r,h3,h4⟩
 ·obtain⟨p,q,rfl⟩:=xb h2
  dsimp only at h3
  have:zQ.move p q∈(cs[i]'(by omega)).ds:=by
   unfold Blk.rows at h3
   rcases List.mem_append.mp h3 with z|z
   ·obtain⟨d,hd,e⟩:=List.mem_map.mp z
    cases e
    exact hd
   ·cases List.mem_singleton.mp z
  exact(hc.2.1 _ hcb _ this).1.1
 ·dsimp only at h4 h1 h2
  subst h4
  have rm:=xJ hp hb r h3
  have gv:∀ p∈c.gv,0<=p/\p<60:=λp hp=>by
   cases c with
   |ee e=>cases hp
   |dd d=>
    have hd:d∈(cs[i]'(by omega)).bare.ds:=by
     unfold Blk.rows at h2
     rcases List.mem_append.mp h2 with z|z
     ·obtain⟨d',hd,e⟩:=List.mem_map.mp z
      cases e
      exact List.mem_filter.mpr ⟨hd,by rw[show d.isMove=false from h1];rfl⟩
     ·cases List.mem_singleton.mp z
    have ok:=(hc.2.2 _ (List.mem_map.mpr ⟨_,hcb,rfl⟩)).1 d hd
    have h16:=hn.2
    cases d with
    |set v k=>have:=List.mem_singleton.mp hp;subst this;have:=ok.2;exact⟨this.1,by have:=this.2;omega⟩
    |input v k=>have:=List.mem_singleton.mp hp;subst this;have:=ok.2.1;exact⟨this.1,by have:=this.2;omega⟩
    |op w v x y=>have:=List.mem_singleton.mp hp;subst this;have:=ok.2.2.1;exact⟨this.1,by have:=this.2;omega⟩
    |tell x=>cases hp
    |move x y=>cases hp
  cases c with
  |ee e=>exact⟨rm,gv⟩
  |dd d=>cases d <;> first|exact⟨rm,gv⟩|cases h1
def Kw (K:PySem.W.Frag)(B BP:Addr):Sp:=λvs H Q E=>∃ v c n bs cs,vs=[v,c,.int n]/\jZ K H v bs/\jZ K H c cs/\(¬ okP bs->∀ H',qq H H'->E (.ref B) none H')/\(okP bs->¬ jX n->∀ H',qq H H'->E (.ref BP) none H')/\(okP bs->jX n->¬ v3 n cs->∀ H',qq H H'->E (.ref B) none H') /\
 (okP bs->jX n->v3 n cs->∀ H' r,qq H H'->(r=true ↔ Looks bs cs)->Q (.bl r) H')
theorem Kt (T:Tx K w mg a):jA P w K mg base (CX1 P w) 6 a.passes a.fd_passes ["blocks","code","pans"] (Kw K a.BadProgram a.BadPans):=by
 refine T.F_passes.fn.ok1Q VP (λvs H Q E h=>?_) (λcdv A outer s H vs Q E hr h=>?_)
 ·obtain⟨v,c,n,bs,cs,rfl,_⟩:=h
  rfl
 ·obtain⟨v,c,n,bs,cs,rfl,hB,hC,q1,q2,q3,Qn⟩:=h
  have G_check_program:=wD (P:=P) (base:=base) T
  have G_check_code:=QC (P:=P) (base:=base) T
  have G_has_shape:=ZH (P:=P) (w:=w) (base:=base) T
  have G_reads_what_is_held:=vi (P:=P) (w:=w) (base:=base) T
  refine⟨_,(qf (qQ (qo G_check_program (hr.mono (by decide)) rfl T.F_check_program.mg T.F_check_program.fn.kp T.F_check_program.b .nil (wF λ_ _ _ h=>h) (q5 (pv 0) qd)))
   (qf (qQ (qo G_check_code (hr.mono (by decide)) rfl T.F_check_code.mg T.F_check_code.fn.kp T.F_check_code.b .nil (wF λ_ _ _ h=>h) (q5 (pv 1) (q5 (pv 2) qd))))
   (qh (qN (QZ (qo G_has_shape (hr.mono (by decide)) rfl T.F_has_shape.mg T.F_has_shape.fn.kp T.F_has_shape.b .nil qX (q5 (pv 0) (q5 (pv 1) qd))) (ZJ (qo G_reads_what_is_held (hr.mono (by decide)) rfl T.F_reads_what_is_held.mg T.F_reads_what_is_held.fn.kp T.F_reads_what_is_held.b .nil qX (q5 (pv 0) (q5 (pv 1) qd))))))))),?_⟩
  try walk_at "rd"
  refine⟨v,bs,rfl,hB.at_,λhp H1 s1=>?_,λhp H1 s1=>q1 hp _ s1⟩
  try walk_at "rd"
  refine⟨c,cs,n,rfl,(hC.same s1).at_,λhn H2 s2=>q2 hp hn _ (s1.trans s2),λhn hc H2 s2=>q3 hp hn hc _ (s1.trans s2),λhn hc H2 s2=>?_⟩
  have s02:=s1.trans s2
  try walk_at "rd"
  refine⟨v,c,bs,cs,rfl,hB.same s02,(hC.same s02).at_,by have:=hp.1.2.1;omega,by have:=hc.1.2.1;omega,λb hb=>⟨by have:=hp.1.2.2 b hb;omega,xJ hp hb⟩,λb hb=>by have:=hc.1.2.2 b hb;omega,λH3 s3=>?_⟩
  dsimp only[jH]
  cases e:J6 bs cs with
  |false=>
   refine vq rfl ?_
   refine Qn hp hn hc H3 false (s02.trans s3) ⟨λz=>(by cases z),λz=>?_⟩
   rw[wT.mpr z.1] at e
   cases e
  |true=>
   refine kW rfl ?_
   have hsh:=wT.mp e
   have hlen:cs.length=bs.length:=by have:=congrArg List.length hsh;simpa using this.symm
   refine⟨v,c,bs,cs,rfl,hB.same (s02.trans s3),hC.same (s02.trans s3),by have:=hp.1.1;omega,hp.1.2.1,hlen,λb hb=>by have:=hp.1.2.2 b hb;omega,λb hb=>by have:=hc.1.2.2 b hb;omega,λi b cb h1 h2=>Nat.le_of_eq (wW hsh h1 h2),Q8 hp hn hc,λb hb=>JM (hp.2 b hb).2,λH4 B r s4 best hr2=>Qn hp hn hc H4 r ((s02.trans s3).trans s4) (hr2.trans ⟨λz=>⟨hsh,B,best,z⟩,λz=>?_⟩)⟩
   obtain⟨_,B',best',z⟩:=z
   rw[best.eq best']
   exact z
end
def smK:zQ->Prop
 |.input _ k=>k<2 ^ 64
 |.move p q=>p<30/\q<30
 |_=>True
def xV (pn:Int)(d:zQ):Prop:=okD 60 d/\smK d/\Yp pn d/\(d.isMove=false->okD pn d)
structure Xw (pn:Int)(n:Nat)(bs:List Blk):Prop where
 l0:1<=bs.length
 l1:bs.length<=4
 ds:∀ b∈bs,b.ds.length<=n/\(∀ d∈b.ds,xV pn d)/\okE pn bs.length b.en
def QV (pn:Int)(K:PySem.W.Frag)(l:Addr)(n:Nat)(H:Hp):Prop:=∃ xs ds,H l=some (.lst xs)/\z5 (j0 K H) xs ds/\ds.length<=n/\∀ d∈ds,xV pn d
theorem QV.same {n:Nat}(h:QV pn K l n H)(s:qq H H'):QV pn K l n H':=let ⟨xs,ds,h1,h2,h3,h4⟩:=h;⟨xs,ds,s _ _ h1,h2.imp λ_ _ z=>z.same s,h3,h4⟩
theorem QV.more {n:Nat}{es:List zQ}(h:QV pn K l n H)(hp:H p=some (.lst ys))(hA:z5 (j0 K H) ys es)(hg:∀ d∈es,xV pn d)(hm:es.length<=m)(hnm:n+m<=1000):
  ∃ xs,H l=some (.lst xs)/\xs.length+ys.length<=sizeLine/\∀ q H2,New H q (.lst (xs++ys)) H2->QV pn K q (n+m) H2:=by
 obtain⟨xs,ds,h1,h2,h3,h4⟩:=h
 refine⟨xs,h1,by rw[h2.1,hA.1];exact Nat.le_trans (by omega:_<=1000) (by decide),λq H2 nq=>⟨_,ds++es,nq.at_,(h2.append hA).imp λ_ _ z=>z.same nq.same,by rw[List.length_append];omega,λd hd=>?_⟩⟩
 rcases List.mem_append.mp hd with hd|hd
 ·exact h4 d hd
 ·exact hg d hd
theorem QV.mono {n:Nat}(h:QV pn K l n H)(hm:n<=m):QV pn K l m H:=let ⟨xs,ds,h1,h2,h3,h4⟩:=h;⟨xs,ds,h1,h2,Nat.le_trans h3 hm,h4⟩
theorem QV.two {t1 t2 t3:Addr}{G1 G2 G3:Hp}{d1 d2:zQ}(hC:QV pn K l m G)(n1:New G t1 (.tup d1.vs) G1)(n2:New G1 t2 (.tup d2.vs) G2)(n3:New G2 t3 (.lst [.ref t1,.ref t2]) G3)(g1:xV pn d1)(g2:xV pn d2)(hm:m+2<=1000):
  ∃ xs,G3 l=some (.lst xs)/\xs.length+[V.ref t1,V.ref t2].length<=sizeLine/\∀ q G4,New G3 q (.lst (xs++[.ref t1,.ref t2])) G4->QV pn K q (m+2) G4:=by
 refine(hC.same (n1.same.trans (n2.same.trans n3.same))).more (es:=[d1,d2]) n3.at_ (.cons ⟨t1,rfl,SqT.of (n3.same _ _ (n2.same _ _ n1.at_))⟩ (.cons ⟨t2,rfl,SqT.of (n3.same _ _ n2.at_)⟩ .nil)) ?_ (Nat.le_refl _) hm
 intro d hd
 rcases List.mem_cons.mp hd with rfl|hd
 ·exact g1
 ·rw[List.mem_singleton.mp hd]
  exact g2
theorem QV.app {n:Nat}(h:QV pn K l n H)(hp:H p=some (.tup d.vs))(g:xV pn d)(hn:n<1000):∃ xs,H l=some (.lst xs)/\xs.length<sizeLine/\QV pn K l (n+1) (upd H l (.lst (xs++[.ref p]))):=by
 obtain⟨xs,ds,h1,h2,h3,h4⟩:=h
 have hD:j0 K H (.ref p) d:=⟨p,rfl,SqT.of hp⟩
 refine⟨xs,h1,by rw[h2.1];exact Nat.lt_of_le_of_lt h3 (Nat.lt_trans hn (by decide)),_,ds++[d],qg,(h2.snoc hD).imp λ_ _ z=>z.ne h1 λb hb=>qp hb,by rw[List.length_append];exact Nat.succ_le_succ h3,λe he=>?_⟩
 rcases List.mem_append.mp he with he|he
 ·exact h4 e he
 ·rw[List.mem_singleton.mp he]
  exact g
section
variable {P:Program}{w:World}{K:PySem.W.Frag}{mg:Str->Option Value}{base:Heap}
def xU (K:PySem.W.Frag)(H0 H:Hp)(v:V)(bs:List Blk):Prop:=∃ l xs,v=.ref l/\H0 l=none/\H l=some (.lst xs)/\z5 (wg K (hide H l)) xs bs
theorem xU.pN (h:xU K H0 H v bs):jZ K H v bs:=let ⟨l,xs,e,_,h,a⟩:=h;⟨l,xs,e,h,a.imp λ_ _ z=>z.same zp⟩
theorem xU.low {H1:Hp}(h:xU K H1 H v bs)(s:qq H0 H1):xU K H0 H v bs:=let ⟨l,xs,e,k,h,a⟩:=h;⟨l,xs,e,s.free k,h,a⟩
theorem xU.same (h:xU K H0 H v bs)(s:qq H H'):xU K H0 H' v bs:=let ⟨l,xs,e,k,h,a⟩:=h;⟨l,xs,e,k,s _ _ h,a.imp λ_ _ z=>z.same (ja s)⟩
def Wi (K:PySem.W.Frag):Sp:=λvs H Q _=>∃ v n bs,vs=[v,.int n]/\jZ K H v bs/\J2 bs/\2<=n/\n<=6/\∀ v' H' bs',qq H H'->xU K H H' v' bs'->Xw n 60 bs'->Q v' H'
theorem QK (T:Tx K w mg a):jA P w K mg base CX0 1 a._law_homes a.fd__law_homes ["_law_blocks","_law_pans"] (Wi K):=by
 refine T.F__law_homes.fn.okQ z0 (λvs H Q E h=>?_) (λcdv A outer s H vs Q E hr h=>?_)
 ·obtain⟨v,n,bs,rfl,_⟩:=h
  rfl
 ·obtain⟨v,n,bs,rfl,⟨pb,xs,rfl,hL,hA⟩,hg,hn1,hn2,q⟩:=h
  refine⟨_,(qf (qy (i:=2) z0.nd rfl (Or.inl rfl) (qO qd))
   (qf (zU PassesOwn.never rfl (z7 (pv 0)) (x9 rfl (qL (qr (i:=3) z0.nd rfl (Or.inl rfl)) (qL (qr (i:=4) z0.nd rfl (Or.inl rfl)) jn)))
    (qf (qy (i:=5) z0.nd rfl (Or.inl rfl) (qO qd))
   (qf (zU PassesOwn.never rfl (z7 (pv 3)) (qr (i:=6) z0.nd rfl (Or.inl rfl))
    (qh (zf (qm jq (qz qu (pv 6) qa (λ_ _=>rfl)) qD (qC _)) (qf (qy (i:=5) z0.nd rfl (Or.inl rfl) (qw zm (pv 5) (qO (q5 (qH (q5 qD (q5 qa (q5 (qw zD (pv 1) (qz qu (pv 6) qa (λ_ _=>rfl))) qd)))) (q5 (qH (q5 qD (q5 qa (q5 (qw zD (pv 1) (qz qu (pv 6) qa (λ_ _=>rfl))) qd)))) qd)))))
   (qh (qy (i:=5) z0.nd rfl (Or.inl rfl) (qw zm (pv 5) (qO (q5 (qH (q5 qD (q5 (qz qu (pv 6) qa (λ_ _=>rfl)) (q5 qa (q5 qa (q5 qa qd)))))) (q5 (qH (q5 qD (q5 (qw zD (pv 1) (qz qu (pv 6) qa (λ_ _=>rfl))) (q5 qa qd)))) qd))))))) (qh (zf (qm jq (qz qu (pv 6) qa (λ_ _=>rfl)) qD (qC _)) (qh (qy (i:=5) z0.nd rfl (Or.inl rfl) (qw zm (pv 5) (qO (q5 (qH (q5 qD (q5 qa (q5 (qw zD (pv 1) (qz qu (pv 6) qa (λ_ _=>rfl))) qd)))) (q5 (qH (q5 qD (q5 qa qd))) qd)))))) (qh (qy (i:=5) z0.nd rfl (Or.inl rfl) (qw zm (pv 5) (qO (q5 (qH (q5 (qz qu (pv 6) qa (λ_ _=>rfl)) (q5 qa (q5 (qz qu (pv 6) qa (λ_ _=>rfl)) qd)))) (q5 (qH (q5 qD (q5 (qw zD (pv 1) (qz qu (pv 6) qa (λ_ _=>rfl))) (q5 qa qd)))) qd)))))))))))
   (qf (zf (qm jq (qz qu (pv 4) qa (λ_ _=>rfl)) qD (qC _)) (qf (qQ (xr PySem.F.plainAttrs_list PySem.F.slot_list_append PySem.F.type_list_append zG (pv 5) (q5 (qH (q5 qD (q5 qa (q5 (qw zD (pv 1) (qz qu (pv 4) qa (λ_ _=>rfl))) qd)))) qd)))
   (qh (qy (i:=4) z0.nd rfl (Or.inl rfl) (qH (q5 qD (q5 qa (q5 (qz qu (pv 4) qa (λ_ _=>rfl)) (q5 (qz qu (pv 4) qa (λ_ _=>rfl)) qd)))))))) qI)
   (qh (qQ (xr PySem.F.plainAttrs_list PySem.F.slot_list_append PySem.F.type_list_append zG (pv 2) (q5 (qH (q5 (pv 5) (q5 (pv 4) qd))) qd))))))))
   (qh (qN (pv 2))))),?_⟩
  try walk_at "rd"
  have hS:SqL K H pb xs:=SqL.of hL
  refine⟨by decide,λpf H0 n0=>⟨⟨_,n0.same.seq hS⟩,zz xs (λi σ H'=>(∃ u1 u2 u3 u4,σ=[some (.ref pb),some (.int n),some (.ref pf),u1,u2,u3,u4])/\qq H H'/\∃ ys cs,H' pf=some (.lst ys)/\z5 (wg K (hide H' pf)) ys cs/\cs.length=i/\∀ c∈cs,c.ds.length<=60/\(∀ d∈c.ds,xV n d)/\okE n bs.length c.en)
   ⟨⟨_,_,_,_,rfl⟩,n0.same,[],[],n0.at_,.nil,rfl,λc h=>by cases h⟩ (λi σ H' _ h=>h.2.1.seq hS) ?_ ?_⟩⟩
  ·rintro i x σ H1 hi ⟨⟨u1,u2,u3,u4,rfl⟩,s1,ys,cs,hy,hAy,hcl,hcg⟩
   obtain⟨b,hbi,qb,dl,en,rfl,hBT,⟨pd,zs,rfl,hDL,hDA⟩,hE⟩:=hA.get hi
   have lti:=(List.getElem?_eq_some_iff.mp hbi).1
   obtain⟨gb1,gb2,gb3⟩:=hg.ds b (List.mem_of_getElem? hbi)
   try walk_at "rd"
   refine⟨qb,_,rfl,s1.seqT hBT,rfl,_,_,rfl,_,_,rfl,rfl,by decide,λp0 H2 n2=>?_⟩
   have s2:=s1.trans n2.same
   refine⟨⟨_,s2.seq (SqL.of hDL)⟩,zz zs (λj σ H'=>(∃ l u,σ=[some (.ref pb),some (.int n),some (.ref pf),some (.ref pd),some en,some (.ref l),u]/\H1 l=none/\QV n K l (4*j) H')/\qq H1 H') ⟨⟨p0,_,rfl,n2.fr,[],[],n2.at_,.nil,Nat.le_refl _,λd h=>by cases h⟩,n2.same⟩ (λj σ H' _ h=>(s1.trans h.2).seq (SqL.of hDL)) ?_ ?_⟩
   ·rintro j y σ H3 hj ⟨⟨l,u,rfl,nl,hC⟩,s3⟩
    obtain⟨d,hd,hD⟩:=hDA.get hj
    have ltj:=(List.getElem?_eq_some_iff.mp hd).1
    have hD3:=hD.same (s1.trans s3)
    have gd:=gb2 d (List.mem_of_getElem? hd)
    obtain⟨py,rfl,hSd⟩:=hD3
    have hy3:=s3 _ _ hy
    have npf:∀ {G G':Hp} {q:Addr} {o:HO},qq H3 G->New G q o G'->H1 q=none:=λ{G G' q o} sG nq=>(s3.trans sG).free nq.fr
    have mv:∀ x y:Int,0<=x->x<30->0<=y->y<30->x<n\/y<n->xV n (.move x y):=λx y h1 h2 h3 h4 h5=>⟨⟨⟨h1,by omega⟩,⟨h3,by omega⟩⟩,⟨h2,h4⟩,⟨⟨⟨h1,by omega⟩,⟨h3,by omega⟩⟩,λz=>by omega⟩,λz=>(by cases z)⟩
    have j4:4*j+4<=1000:=by omega
    obtain⟨⟨gm,gok⟩,gsm⟩:=gd
    cases d with
    |op w v x y=>
     obtain⟨ow,ov,ox,oy⟩:=gok
     simp only[zQ.vs] at hSd
     try walk_at "st"
     refine⟨by decide,λt1 G1 n1=>qi (n1.same.seqT hSd) rfl ⟨by decide,λt2 G2 n2=>⟨by decide,λt3 G3 n3=>?_⟩⟩⟩
     obtain⟨ws,e1,e2,e3⟩:=hC.two (d1:=.move 0 (n+x)) (d2:=.move 1 (n+y)) n1 n2 n3 (mv _ _ (by omega) (by omega) (by omega) (by omega) (by omega)) (mv _ _ (by omega) (by omega) (by omega) (by omega) (by omega)) (by omega)
     refine⟨l,t3,_,_,rfl,rfl,e1,n3.at_,e2,λq1 G4 n4=>?_⟩
     have sG4:=n1.same.trans (n2.same.trans (n3.same.trans n4.same))
     have hSd4:=sG4.seqT hSd
     try walk_at "rd"
     refine qi hSd4 rfl ⟨by decide,λt4 G5 n5=>qi (n5.same.seqT hSd4) rfl ⟨by decide,λt5 G6 n6=>⟨by decide,λt6 G7 n7=>?_⟩⟩⟩
     obtain⟨ws2,f1,f2,f3⟩:=(e3 q1 G4 n4).two (d1:=.op w 0 0 1) (d2:=.move (n+v) 0) n5 n6 n7 ⟨⟨ow,⟨by decide,by decide⟩,⟨by decide,by decide⟩,⟨by decide,by decide⟩⟩,trivial,trivial,λ_=>⟨ow,⟨by decide,by omega⟩,⟨by decide,by omega⟩,⟨by decide,by omega⟩⟩⟩ (mv _ _ (by omega) (by omega) (by omega) (by omega) (by omega)) (by omega)
     refine⟨q1,t6,_,_,rfl,rfl,f1,n7.at_,f2,λq2 G8 n8=>?_⟩
     have sG7:=sG4.trans (n5.same.trans (n6.same.trans n7.same))
     exact⟨⟨q2,_,⟨rfl,rfl⟩,npf sG7 n8,(f3 q2 G8 n8).mono (by omega)⟩,s3.trans (sG7.trans n8.same)⟩
    |tell x=>
     simp only[zQ.vs] at hSd
     have ox:0<=x/\x<6:=gok
     try walk_at "st"
     refine⟨by decide,λt1 G1 n1=>⟨by decide,λt2 G2 n2=>⟨by decide,λt3 G3 n3=>?_⟩⟩⟩
     obtain⟨ws,e1,e2,e3⟩:=hC.two (d1:=.move 1 (n+x)) (d2:=.tell 1) n1 n2 n3 (mv _ _ (by omega) (by omega) (by omega) (by omega) (by omega)) ⟨⟨by decide,by decide⟩,trivial,trivial,λ_=>⟨by decide,by omega⟩⟩ (by omega)
     refine⟨l,t3,_,_,rfl,rfl,e1,n3.at_,e2,λq1 G4 n4=>?_⟩
     have sG:=n1.same.trans (n2.same.trans n3.same)
     exact⟨⟨q1,_,⟨rfl,rfl⟩,npf sG n4,(e3 q1 G4 n4).mono (by omega)⟩,s3.trans (sG.trans n4.same)⟩
    |set v k=>
     simp only[zQ.vs] at hSd
     have ov:0<=v/\v<6:=gok
     try walk_at "st"
     refine⟨by decide,λt1 G1 n1=>qi (n1.same.seqT hSd) rfl ⟨by decide,λt2 G2 n2=>⟨by decide,λt3 G3 n3=>?_⟩⟩⟩
     obtain⟨ws,e1,e2,e3⟩:=hC.two (d1:=.set 0 k) (d2:=.move (n+v) 0) n1 n2 n3 ⟨⟨by decide,by decide⟩,trivial,trivial,λ_=>⟨by decide,by omega⟩⟩ (mv _ _ (by omega) (by omega) (by omega) (by omega) (by omega)) (by omega)
     refine⟨l,t3,_,_,rfl,rfl,e1,n3.at_,e2,λq1 G4 n4=>?_⟩
     have sG:=n1.same.trans (n2.same.trans n3.same)
     exact⟨⟨q1,_,⟨rfl,rfl⟩,npf sG n4,(e3 q1 G4 n4).mono (by omega)⟩,s3.trans (sG.trans n4.same)⟩
    |input v k=>
     simp only[zQ.vs] at hSd
     have ov:(0<=v/\v<6)/\0<=k:=gok
     try walk_at "st"
     refine⟨by decide,λt1 G1 n1=>qi (n1.same.seqT hSd) rfl ⟨by decide,λt2 G2 n2=>⟨by decide,λt3 G3 n3=>?_⟩⟩⟩
     obtain⟨ws,e1,e2,e3⟩:=hC.two (d1:=.input 0 k) (d2:=.move (n+v) 0) n1 n2 n3 ⟨⟨⟨by decide,by decide⟩,ov.2⟩,gsm,trivial,λ_=>⟨⟨by decide,by omega⟩,ov.2⟩⟩ (mv _ _ (by omega) (by omega) (by omega) (by omega) (by omega)) (by omega)
     refine⟨l,t3,_,_,rfl,rfl,e1,n3.at_,e2,λq1 G4 n4=>?_⟩
     have sG:=n1.same.trans (n2.same.trans n3.same)
     exact⟨⟨q1,_,⟨rfl,rfl⟩,npf sG n4,(e3 q1 G4 n4).mono (by omega)⟩,s3.trans (sG.trans n4.same)⟩
    |move x y=>cases gm
   ·rintro σ H3 ⟨⟨l,u,rfl,nl,hC⟩,s3⟩
    have hy3:=s3 _ _ hy
    have hC:QV n K l 48 H3:=hC.mono (by rw[hDA.1];omega)
    have fin:∀ (G:Hp) (l' ee:Addr) (e:En) (R:Hp->Prop),qq H1 G->QV n K l' 60 G->H1 l'=none->J0 K G (.ref ee) e->okE n bs.length e->(∀ G',qq H G'->(∃ ys cs,G' pf=some (.lst ys)/\z5 (wg K (hide G' pf)) ys cs/\cs.length=i+1/\∀ c∈cs,c.ds.length<=60/\(∀ d∈c.ds,xV n d)/\okE n bs.length c.en)->R G') ->
      tyV K "list" (V.ref pf) G/\2<=sizeLine/\∀ (p:Addr) (H2:Hp),New G p (HO.tup [V.ref l',V.ref ee]) H2->Jw (V.ref pf) [V.ref p] H2 λx H1=>R H1:=by
     intro G l' ee e R sG hC' nl0 hE' ge R0
     have nl':l'≠pf:=λz=>by
      rw[z,hy] at nl0
      cases nl0
     refine⟨.inl ⟨rfl,_,SqL.of (sG _ _ hy)⟩,by decide,λt G2 nt=>?_⟩
     obtain⟨ws,ds,c1,c2,c3,c4⟩:=hC'.same nt.same
     have hyf:=nt.same _ _ (sG _ _ hy)
     have ntp:t≠pf:=xZ nt.at_ hyf (by intro z;cases z)
     have sf:=sG.trans nt.same
     refine⟨pf,ys,.ref t,rfl,rfl,hyf,?_,R0 _ (jv (s1.trans sf) n0.fr) ⟨_,cs++[⟨ds,e⟩],qg,?_,by rw[List.length_append,hcl];rfl,λc hc=>?_⟩⟩
     ·rw[hAy.1,hcl]
      have:=hg.l1
      exact Nat.lt_of_lt_of_le (by omega:i<10) (by decide)
     ·rw[x6]
      refine z5.append (hAy.imp λ_ _ z=>z.same (ja sf)) (.cons ?_ .nil)
      exact⟨t,_,_,rfl,SqT.of (by rw[zb ntp];exact nt.at_),⟨l',ws,rfl,by rw[zb nl'];exact c1,c2.imp λ_ _ z=>z.ne hyf λb hb=>zb hb⟩,(hE'.same nt.same).ne hyf λb hb=>zb hb⟩
     ·rcases List.mem_append.mp hc with hc|hc
      ·exact hcg c hc
      ·rw[List.mem_singleton.mp hc]
       exact⟨c3,c4,ge⟩
    have hE3:=hE.same (s1.trans s3)
    obtain⟨pe,rfl,hSe⟩:=hE3
    generalize hen:b.en=e0 at hSe gb3
    cases e0 with
    |fin=>
     simp only[En.vs] at hSe
     try walk_at "st"
     exact fin H3 l pe .fin _ s3 (hC.mono (by decide)) nl ⟨pe,rfl,hSe⟩ trivial λG' sG' hG'=>⟨⟨_,_,_,_,rfl,rfl,rfl,rfl⟩,sG',hG'⟩
    |go t=>
     simp only[En.vs] at hSe
     try walk_at "st"
     exact fin H3 l pe (.go t) _ s3 (hC.mono (by decide)) nl ⟨pe,rfl,hSe⟩ gb3 λG' sG' hG'=>⟨⟨_,_,_,_,rfl,rfl,rfl,rfl⟩,sG',hG'⟩
    |iff x t u2=>
     simp only[En.vs] at hSe
     obtain⟨ox,ot,ou⟩:=gb3
     try walk_at "st"
     refine⟨.inl ⟨rfl,hC.elim λxs h=>⟨xs,h.elim λds h=>SqL.of h.1⟩⟩,qi hSe rfl ⟨by decide,λt1 G1 n1=>?_⟩⟩
     obtain⟨ws,e1,e2,e3⟩:=(hC.same n1.same).app (d:=.move 0 (n+x)) n1.at_ ⟨⟨⟨by omega,by omega⟩,⟨by omega,by omega⟩⟩,⟨by omega,by omega⟩,⟨⟨⟨by omega,by omega⟩,⟨by omega,by omega⟩⟩,λz=>by omega⟩,λz=>(by cases z)⟩ (by decide)
     refine⟨l,ws,.ref t1,rfl,rfl,e1,e2,?_⟩
     have sU:qq H1 (upd G1 l (.lst (ws++[.ref t1]))):=jv (s3.trans n1.same) nl
     have hSe1:SqT K (upd G1 l (.lst (ws++[.ref t1]))) pe [V.str (Str.ofString "if"),V.int x,V.int t,V.int u2]:=Ju (n1.same.seqT hSe) e1 λb hb=>qp hb
     refine qi hSe1 rfl (qi hSe1 rfl ⟨by decide,λt2 G2 n2'=>?_⟩)
     exact fin G2 l t2 (.iff 0 t u2) _ (sU.trans n2'.same) ((e3.same n2'.same).mono (by decide)) nl ⟨t2,rfl,SqT.of n2'.at_⟩ ⟨⟨by decide,by omega⟩,ot,ou⟩ λG' sG' hG'=>⟨⟨_,_,_,_,rfl,rfl,rfl,rfl⟩,sG',hG'⟩
  ·rintro σ H1 ⟨⟨u1,u2,u3,u4,rfl⟩,s1,ys,cs,hy,hAy,hcl,hcg⟩
   rw[hA.1] at hcl
   try walk_at "rd"
   have:=hg.l0
   have:=hg.l1
   exact q _ _ cs s1 ⟨pf,ys,rfl,n0.fr,hy,hAy⟩ ⟨by omega,by omega,λb hb=>by rw[hcl];exact hcg b hb⟩
end
def elseOf:Stmt->List Stmt
 |.If _ _ e _=>e
 |_=>[]
abbrev Jy (l:List Stmt):List Stmt:=elseOf (l.getD 0 (.Pass ⟨0,0,0,0⟩))
def x0:zQ->List Nat
 |.move _ _=>[1,2]
 |.op _ _ _ _=>[2,3,4]
 |_=>[1]
theorem KI {j:Nat}{x:Int}(g:xV pn d)(hj:j∈x0 d)(h0:0<=x)(h1:x<60)(h2:x<pn)(h3:x<30):∃ d':zQ,d'.vs=d.vs.set j (.int x)/\xV pn d':=by
 cases d with
 |set v k=>
  simp[x0] at hj
  subst hj
  exact⟨.set x k,rfl,⟨h0,h1⟩,trivial,trivial,λ_=>⟨h0,h2⟩⟩
 |input v k=>
  simp[x0] at hj
  subst hj
  exact⟨.input x k,rfl,⟨⟨h0,h1⟩,g.1.2⟩,g.2.1,trivial,λ_=>⟨⟨h0,h2⟩,g.1.2⟩⟩
 |op w v a b=>
  obtain⟨⟨ow,ov,oa,ob⟩,_,_,gb⟩:=g
  obtain⟨_,ov',oa',ob'⟩:=gb rfl
  simp[x0] at hj
  rcases hj with rfl|rfl|rfl
  ·exact⟨.op w x a b,rfl,⟨ow,⟨h0,h1⟩,oa,ob⟩,trivial,trivial,λ_=>⟨ow,⟨h0,h2⟩,oa',ob'⟩⟩
  ·exact⟨.op w v x b,rfl,⟨ow,ov,⟨h0,h1⟩,ob⟩,trivial,trivial,λ_=>⟨ow,ov',⟨h0,h2⟩,ob'⟩⟩
  ·exact⟨.op w v a x,rfl,⟨ow,ov,oa,⟨h0,h1⟩⟩,trivial,trivial,λ_=>⟨ow,ov',oa',⟨h0,h2⟩⟩⟩
 |tell a=>
  simp[x0] at hj
  subst hj
  exact⟨.tell x,rfl,⟨h0,h1⟩,trivial,trivial,λ_=>⟨h0,h2⟩⟩
 |move a b=>
  obtain⟨⟨oa,ob⟩,⟨sa,sb⟩,_,_⟩:=g
  simp[x0] at hj
  rcases hj with rfl|rfl
  ·exact⟨.move x b,rfl,⟨⟨h0,h1⟩,ob⟩,⟨h3,sb⟩,⟨⟨⟨h0,h1⟩,ob⟩,λz=>by have:=z.1;omega⟩,λz=>(by cases z)⟩
  ·exact⟨.move a x,rfl,⟨oa,⟨h0,h1⟩⟩,⟨sa,h3⟩,⟨⟨oa,⟨h0,h1⟩⟩,λz=>by have:=z.2;omega⟩,λz=>(by cases z)⟩
section
variable {P:Program}{w:World}{K:PySem.W.Frag}{mg:Str->Option Value}{base:Heap}
def XD (K:PySem.W.Frag):Sp:=λvs H Q _=>∃ s k v n m bs,∃ ns:List Int,vs=[.ref s,.int k,v,.int n]/\SqL K H s (ns.map V.int)/\jZ K H v bs/\Xw n m bs/\m<900/\2<=n/\n<=7/\∀ v' H' bs',qq H H'->xU K H H' v' bs'->Xw n (m+1) bs'->Q v' H'
theorem yi (T:Tx K w mg a):jA P w K mg base CX0 3 a._law_changed a.fd__law_changed ["_law_script","_law_k","_law_code","_law_pans"] (XD K):=by
 refine T.F__law_changed.fn.okQ qF (λvs H Q E h=>?_) (λcdv A outer s H vs Q E hr h=>?_)
 ·obtain⟨s,k,v,n,m,bs,ns,rfl,_⟩:=h
  rfl
 ·obtain⟨sc,k,v,n,m,bs,ns,rfl,hS,⟨pb,xs,rfl,hLs,hA⟩,hg,hm,hn1,hn2,q⟩:=h
  have G__law_mix:=xa (P:=P) (w:=w) (base:=base) T
  have hL:SqL K H pb xs:=SqL.of hLs
  generalize hz:mix ns k=z
  have pos:(0:Int)<xs.length:=by rw[hA.1];have:=hg.l0;omega
  have hi:=Int.emod_nonneg z (show(xs.length:Int)≠0 by omega)
  have hi2:=Int.emod_lt_of_pos z pos
  obtain⟨i,hi⟩:∃ i:Nat,z % xs.length=i/\i<xs.length:=⟨(z % xs.length).toNat,by omega,by omega⟩
  obtain⟨b,hb⟩:∃ b,bs[i]?=some b:=⟨_,List.getElem?_eq_getElem (by rw[<-hA.1];exact hi.2)⟩
  obtain⟨vb,hvb,⟨qb,dl,en,rfl,hBT,⟨pd,ys,rfl,hDL,hDA⟩,hE⟩⟩:=hA.get' hb
  obtain⟨gb1,gb2,gb3⟩:=hg.ds b (List.mem_of_getElem? hb)
  have ib:i<bs.length:=by rw[<-hA.1];exact hi.2
  have xl:xs.length=bs.length:=hA.1
  have lenb:=hg.l1
  have yl:ys.length=b.ds.length:=hDA.1
  have hpan:0<=z / 4096 % n/\z / 4096 % n<n:=⟨Int.emod_nonneg _ (by omega),Int.emod_lt_of_pos _ (by omega)⟩
  obtain⟨tT,hT,kT⟩:∃ tT,PSs (xO CX0 P w K mg base ["_law_script","_law_k","_law_code","_law_pans","_law_number","_law_at","_law_deeds","_law_end_here","_law_spot","_law_place","_law_pan","_law_way","_law_deed_here","_law_j"] "_law_changed" (q8 qM) a._law_changed cdv A outer s H E).nox ((qk qM).drop 8) tT/\∀ σ H',(∃ pd' ys' ds' u8 u9 u10 u11 u12 u13,σ=[some (.ref sc),some (.int k),some (.ref pb),some (.int n),some (.int z),some (.int i),some (.ref pd'),some en,u8,u9,u10,u11,u12,u13] /\
    qq H H'/\H' pd'=some (.lst ys')/\z5 (j0 K H') ys' ds'/\ds'.length<=m+1/\∀ d∈ds',xV n d)->tT { nx:=λ_ H'=>Q .non H',rt:=Q } σ H':=by
   refine⟨_,(qh (qN (qw zm (qw zm (qY jC (pv 2) zv (zk (pv 5))) (qO (q5 (qH (q5 (pv 6) (q5 (pv 7) qd))) qd))) (qY jC (pv 2) (zk (qw zD (pv 5) qa)) zv)))),?_⟩
   rintro σ H1 ⟨pd',ys',ds',u8,u9,u10,u11,u12,u13,rfl,s1,hp',hA',hl',hg'⟩
   try walk_at "rd"
   refine⟨pb,xs,rfl,s1.seq hL,λp1 G1 n1=>⟨by decide,λt G2 n2=>⟨by decide,λp2 G3 n3=>⟨p1,p2,_,_,rfl,rfl,n3.same _ _ (n2.same _ _ n1.at_),n3.at_,?_,λp3 G4 n4=>?_⟩⟩⟩⟩
   ·rw[xm (by omega),List.length_take]
    exact Nat.le_trans (by simp only[List.length_cons,List.length_nil];omega:_<=10) (by decide)
   have t4:=n1.same.trans (n2.same.trans (n3.same.trans n4.same))
   refine⟨pb,xs,rfl,(s1.trans t4).seq hL,λp4 G5 n5=>⟨p3,p4,_,_,rfl,rfl,n5.same _ _ n4.at_,n5.at_,?_,λp5 G6 n6=>?_⟩⟩
   ·rw[show((i:Int)+1)=((i+1:Nat):Int) by omega,vt (by omega),xm (by omega),List.length_append,List.length_take,List.length_drop]
    exact Nat.le_trans (by simp only[List.length_cons,List.length_nil];omega:_<=20) (by decide)
   have tf:=t4.trans (n5.same.trans n6.same)
   have sf:=s1.trans tf
   have at6:=n6.at_
   rw[show((i:Int)+1)=((i+1:Nat):Int) by omega,vt (by omega),xm (by omega)] at at6
   have th:qq G5 (hide G6 p5):=λb o e=>by rw[zb (qj e n6.fr)];exact n6.same _ _ e
   have tg:=(t4.trans n5.same).trans th
   have hB:wg K (hide G6 p5) (.ref t) ⟨ds',b.en⟩:=⟨t,_,_,rfl,SqT.of (th _ _ (n5.same _ _ (n4.same _ _ (n3.same _ _ n2.at_)))),⟨pd',ys',rfl,tg _ _ hp',hA'.imp λ_ _ z=>z.same tg⟩,hE.same (s1.trans tg)⟩
   have hA2:=hA.imp λ_ _ z=>z.same (s1.trans tg)
   have hlen:(bs.take i++[(⟨ds',b.en⟩:Blk)]++bs.drop (i+1)).length=bs.length:=by
    rw[List.length_append,List.length_append,List.length_take,List.length_drop]
    simp only[List.length_cons,List.length_nil]
    omega
   refine q (.ref p5) G6 (bs.take i++[(⟨ds',b.en⟩:Blk)]++bs.drop (i+1)) sf ⟨p5,_,rfl,(s1.trans (t4.trans n5.same)).free n6.fr,at6,((hA2.take i).append (z5.cons hB .nil)).append (hA2.drop (i+1))⟩ ⟨by rw[hlen];exact hg.l0,by rw[hlen];exact lenb,λc hc=>?_⟩
   rw[hlen]
   have old:∀ c∈bs,c.ds.length<=m+1/\(∀ d∈c.ds,xV n d)/\okE n bs.length c.en:=λc hc=>⟨Nat.le_succ_of_le (hg.ds c hc).1,(hg.ds c hc).2⟩
   rcases List.mem_append.mp hc with hc|hc
   ·rcases List.mem_append.mp hc with hc|hc
    ·exact old c (List.mem_of_mem_take hc)
    ·rw[List.mem_singleton.mp hc]
     exact⟨hl',hg',gb3⟩
   ·exact old c (List.mem_of_mem_drop hc)
  have mid:∀ (G:Hp) (p1 p2:Addr) (t u:Nat) (vs:List V) (es:List zQ) (R:VK),qq H G->t<=b.ds.length->G p1=some (.lst (ys.take t))->G p2=some (.lst vs)->z5 (j0 K G) vs es->(∀ d∈es,xV n d)->es.length<=2->t<=u->u<=b.ds.length->t+es.length+(b.ds.length-u)<=m+1 ->
    (∀ p5 G6 ys' ds',qq H G6->G6 p5=some (.lst ys')->z5 (j0 K G6) ys' ds'->ds'.length<=m+1->(∀ d∈ds',xV n d)->R (.ref p5) G6)->Qi (.ref p1) (.ref p2) G λx H1=>Zl K (V.ref pd) (some (u:Int)) none H1 λy H2=>Qi x y H2 R:=by
   intro G p1 p2 t u vs es R sG ht h1 h2 hAe hge he2 htu hu hlen R0
   refine⟨p1,p2,_,_,rfl,rfl,h1,h2,?_,λp3 G1 n1=>⟨pd,ys,rfl,(sG.trans n1.same).seq (SqL.of hDL),λp4 G2 n2=>⟨p3,p4,_,_,rfl,rfl,n2.same _ _ n1.at_,n2.at_,?_,λp5 G3 n3=>?_⟩⟩⟩
   ·rw[List.length_take,hAe.1]
    exact Nat.le_trans (by omega:_<=2000) (by decide)
   ·rw[vt (by omega),List.length_append,List.length_take,List.length_drop,hAe.1]
    exact Nat.le_trans (by omega:_<=4000) (by decide)
   ·have at5:=n3.at_
    rw[vt (by omega)] at at5
    have tf:=n1.same.trans (n2.same.trans n3.same)
    have hD2:=hDA.imp λ_ _ z=>z.same (sG.trans tf)
    refine R0 p5 G3 _ (b.ds.take t++es++b.ds.drop u) (sG.trans tf) at5 (((hD2.take t).append (hAe.imp λ_ _ z=>z.same tf)).append (hD2.drop u)) ?_ λd hd=>?_
    ·rw[List.length_append,List.length_append,List.length_take,List.length_drop]
     omega
    ·rcases List.mem_append.mp hd with hd|hd
     ·rcases List.mem_append.mp hd with hd|hd
      ·exact gb2 d (List.mem_of_mem_take hd)
      ·exact hge d hd
     ·exact gb2 d (List.mem_of_mem_drop hd)
  obtain⟨tE,hEl,kE⟩:∃ tE,PSs (xO CX0 P w K mg base ["_law_script","_law_k","_law_code","_law_pans","_law_number","_law_at","_law_deeds","_law_end_here","_law_spot","_law_place","_law_pan","_law_way","_law_deed_here","_law_j"] "_law_changed" (q8 qM) a._law_changed cdv A outer s H E).nox (Jy (Jy (Jy (Jy ((qk qM).drop 7))))) tE/\∀ (t:Nat) u9 u11 H',t<b.ds.length->qq H H' ->
    tE { nx:=tT { nx:=λ_ H'=>Q .non H',rt:=Q },rt:=Q } [some (.ref sc),some (.int k),some (.ref pb),some (.int n),some (.int z),some (.int i),some (.ref pd),some en,some (.int t),u9,some (.int (z / 4096 % n)),u11,none,none] H':=by
   refine⟨_,(qf (qy (i:=12) qF.nd rfl (Or.inl rfl) (jx w9 (by rfl) T.list PyProof.Rows.boot_list (q5 (qz qZ (pv 6) (pv 8) (λ_ _=>rfl)) qd)))
   (qf (qy (i:=13) qF.nd rfl (Or.inl rfl) (jI (qm jq (qz qZ (pv 12) qa (λ_ _=>rfl)) qD (qC _)) (qz qZ (qO (q5 qa (q5 qa qd))) (qw z4 (qw zY (pv 4) qa) qa) (λ_ _=>rfl)) (jI (qm jq (qz qZ (pv 12) qa (λ_ _=>rfl)) qD (qC _)) (qz qZ (qO (q5 qa (q5 qa (q5 qa qd)))) (qw z4 (qw zY (pv 4) qa) qa) (λ_ _=>rfl)) qa)))
   (qf (kz (pv 10) (y7 (pv 12) (pv 13) wJ))
   (qh (qy (i:=6) qF.nd rfl (Or.inl rfl) (qw zm (qw zm (qY jC (pv 6) zv (zk (pv 8))) (qO (q5 (jx Qk (by rfl) T.tuple PyProof.Rows.boot_tuple (q5 (pv 12) qd)) qd))) (qY jC (pv 6) (zk (qw zD (pv 8) qa)) zv))))))),?_⟩
   intro t u9 u11 H1 ht s1
   obtain⟨yv,hyv⟩:∃ yv,ys[t]?=some yv:=⟨_,List.getElem?_eq_getElem (by rw[yl];exact ht)⟩
   obtain⟨d,hd,hD⟩:=hDA.get hyv
   obtain⟨py,rfl,hSd⟩:=hD.same s1
   have gd:=gb2 d (List.mem_of_getElem? hd)
   try walk_at "rd"
   refine qR (s1.seq (SqL.of hDL)) (vh (by omega) (by simpa using hyv)) ⟨py,_,rfl,.inr hSd,λl G1 n1=>?_⟩
   have s2:=s1.trans n1.same
   have hl:=SqL.of (K:=K) n1.at_
   have hlt:t<ys.length:=by omega
   have kdn:∃ (kd:String) (sps:List Nat),d.vs[0]?=some (.str (Str.ofString kd))/\sps=x0 d/\(kd="move"->sps=[1,2])/\(kd≠"move"->kd="op"->sps=[2,3,4])/\(kd≠"move"->kd≠"op"->sps=[1]):=by
    cases d <;> exact⟨_,_,rfl,rfl,by simp[x0],by simp[x0],by simp[x0]⟩
   obtain⟨kd,sps,hk0,hsp,hk1,hk2,hk3⟩:=kdn
   have tail:∀ (G:Hp) (j:Nat),qq G1 G->j∈x0 d ->
     Yn (vG 12) (vG 13) rSetL (V.int (z / 4096 % n)) [some (V.ref sc),some (V.int k),some (V.ref pb),some (V.int n),some (V.int z),some (V.int ↑i),some (V.ref pd),some en,some (V.int ↑t),u9,some (V.int (z / 4096 % n)),u11,some (.ref l),some (.int j)] G
      (Wz (tOp Qi (tOp Qi (tSl (Zl K) (vG 6) yq (Vp (vG 8))) (KE (yE (tCB (λxs H Q=>∃ p ys,xs=[V.ref p]/\(SqL K H p ys/\(∀ (l:Addr),H l=none->Q (V.ref l) (upd H l (HO.tup ys)))\/SqT K H p ys/\Q (V.ref p) H)) (yE (vG 12) WI)) WI))) (tSl (Zl K) (vG 6) (Vp (tOp (rI0 λi j=>V.int (i+j)) (vG 8) (tC (V.int 1)))) yq)) (xH 6) { nx:=tT { nx:=λ_ H'=>Q .non H',rt:=Q },rt:=Q }):=by
    intro G j sG hj
    obtain⟨d',hd',gd'⟩:=KI gd hj hpan.1 (show z / 4096 % n<60 by omega) hpan.2 (by omega)
    have hjl:j<d.vs.length:=by
     cases d <;> simp[x0] at hj <;> simp[zQ.vs] <;> omega
    unfold Yn
    try walk_at "rd"
    refine⟨l,d.vs,j,j,rfl,rfl,sG _ _ n1.at_,?_,?_⟩
    ·unfold ixN
     rw[if_pos (by omega),if_pos (by omega)]
     simp
    ·have sU:qq H (upd G l (.lst (d.vs.set j (.int (z / 4096 % n))))):=jv (s2.trans sG) (s1.free n1.fr)
     have hU:upd G l (.lst (d.vs.set j (.int (z / 4096 % n)))) l=some (.lst d'.vs):=by rw[qg,hd']
     generalize upd G l (.lst (d.vs.set j (.int (z / 4096 % n))))=U at sU hU ⊢
     try walk_at "rd"
     refine⟨pd,ys,rfl,sU.seq (SqL.of hDL),λp1 U1 m1=>⟨l,d'.vs,rfl,.inl ⟨SqL.of (m1.same _ _ hU),λp2 h2=>⟨by decide,λp3 U3 m3=>?_⟩⟩⟩⟩
     have sU3:qq H U3:=(sU.trans m1.same).trans ((qq.new h2).trans m3.same)
     have m1a:=m1.at_
     rw[xm (by omega)] at m1a
     have e2:((t:Int)+1)=((t+1:Nat):Int):=by omega
     rw[e2]
     refine mid U3 p1 p3 t (t+1) [.ref p2] [d'] _ sU3 (by omega) (m3.same _ _ ((qq.new h2) _ _ m1a)) m3.at_ (.cons ⟨p2,rfl,SqT.of (m3.same _ _ qg)⟩ .nil) (λe he=>by rw[List.mem_singleton.mp he];exact gd') (by simp) (by omega) (by omega) (by simp only[List.length_cons,List.length_nil];omega) λp5 G6 ys' ds' sf h1 h2 h3 h4=>?_
     exact kT _ _ ⟨p5,ys',ds',_,_,_,_,_,_,rfl,sf,h1,h2,h3,h4⟩
   dsimp only
   refine qR hl (vh (by omega) (by simpa using hk0)) ?_
   dsimp only[vW,dp1]
   by_cases km:kd="move"
   ·refine kW (by rw[km];simp[eqD]) ?_
    refine⟨by decide,λp1 G2 m1=>⟨⟨by decide,by decide⟩,?_⟩⟩
    have hj:z / 7 % 2=0\/z / 7 % 2=1:=by omega
    have hs:=hsp ▸ hk1 km
    rcases hj with e|e <;> rw[e]
    ·exact qR (SqL.of m1.at_) rfl (tail G2 1 m1.same (by rw[hs];simp))
    ·exact qR (SqL.of m1.at_) rfl (tail G2 2 m1.same (by rw[hs];simp))
   ·refine vq (by simp[eqD,jT,km]) ?_
    refine qR hl (vh (by omega) (by simpa using hk0)) ?_
    dsimp only[vW,dp1]
    by_cases ko:kd="op"
    ·refine kW (by rw[ko];simp[eqD]) ?_
     refine⟨by decide,λp1 G2 m1=>⟨⟨by decide,by decide⟩,?_⟩⟩
     have hj:z / 7 % 3=0\/z / 7 % 3=1\/z / 7 % 3=2:=by omega
     have hs:=hsp ▸ hk2 km ko
     rcases hj with e|e|e <;> rw[e]
     ·exact qR (SqL.of m1.at_) rfl (tail G2 2 m1.same (by rw[hs];simp))
     ·exact qR (SqL.of m1.at_) rfl (tail G2 3 m1.same (by rw[hs];simp))
     ·exact qR (SqL.of m1.at_) rfl (tail G2 4 m1.same (by rw[hs];simp))
    ·refine vq (by simp[eqD,jT,ko]) ?_
     have hs:=hsp ▸ hk3 km ko
     exact tail G1 1 (qq.refl _) (by rw[hs];simp)
  refine⟨_,(qf (qy (i:=4) qF.nd rfl (Or.inl rfl) (qo G__law_mix (hr.mono (by decide)) rfl T.F__law_mix.mg T.F__law_mix.fn.kp T.F__law_mix.b .nil qX (q5 (pv 0) (q5 (pv 1) qd))))
   (qf (qy (i:=5) qF.nd rfl (Or.inl rfl) (qw z4 (pv 4) (qP ze (by rfl) T.len PySem.boot_len (q5 (pv 2) qd))))
   (qf (kz (qz qZ (pv 2) (pv 5) (λ_ _=>rfl)) (x9 rfl (qL (qr (i:=6) qF.nd rfl (Or.inl rfl)) (qL (qr (i:=7) qF.nd rfl (Or.inl rfl)) jn))))
   (qf (qy (i:=8) qF.nd rfl (Or.inl rfl) (qw z4 (qw zY (pv 4) qa) (qw zD (qP ze (by rfl) T.len PySem.boot_len (q5 (pv 6) qd)) qa)))
   (qf (qy (i:=9) qF.nd rfl (Or.inl rfl) (qz qZ (qO (q5 (qw z4 (qw zY (pv 4) qa) (pv 3)) (q5 (qw zD (pv 3) (qw z4 (qw zY (pv 4) qa) qa)) qd))) (qw z4 (qw zY (pv 4) qa) qa) (λ_ _=>rfl)))
   (qf (qy (i:=10) qF.nd rfl (Or.inl rfl) (qw z4 (qw zY (pv 4) qa) (pv 3)))
   (qf (qy (i:=11) qF.nd rfl (Or.inl rfl) (qw z4 (qw zY (pv 4) qa) qa))
   (qf (zf (PW.pt (wj (qm jq (pv 11) qa (qC _)) (xz (qm jq (pv 8) (qP ze (by rfl) T.len PySem.boot_len (q5 (pv 6) qd)) (qC _))))) (qh (qy (i:=6) qF.nd rfl (Or.inl rfl) (qw zm (qw zm (qY jC (pv 6) zv (zk (pv 8))) (qO (q5 (qH (q5 qD (q5 (pv 10) (q5 (pv 9) qd)))) qd))) (qY jC (pv 6) (zk (pv 8)) zv)))) (qh (zf (qm jq (pv 11) qa (qC _)) (qh (qy (i:=6) qF.nd rfl (Or.inl rfl) (qw zm (qw zm (qY jC (pv 6) zv (zk (pv 8))) (qO (q5 (qH (q5 qD (q5 (pv 9) (q5 (pv 10) qd)))) qd))) (qY jC (pv 6) (zk (pv 8)) zv)))) (qh (zf (PW.pt (vO (qm jq (pv 11) qa (qC _)) (xt (qm jq (qz qu (qz qZ (pv 6) (pv 8) (λ_ _=>rfl)) qa (λ_ _=>rfl)) qD (qC _))))) (qh (qy (i:=6) qF.nd rfl (Or.inl rfl) (qw zm (qY jC (pv 6) zv (zk (pv 8))) (qY jC (pv 6) (zk (qw zD (pv 8) qa)) zv)))) (qh (zf (PW.pt (vO (qm jq (pv 11) qa (qC _)) (xt (qm yn (qw zD (pv 8) qa) (qP ze (by rfl) T.len PySem.boot_len (q5 (pv 6) qd)) (qC _))))) (qh (qy (i:=6) qF.nd rfl (Or.inl rfl) (qw zm (qw zm (qY jC (pv 6) zv (zk (pv 8))) (qO (q5 (qz qZ (pv 6) (qw zD (pv 8) qa) (λ_ _=>rfl)) (q5 (qz qZ (pv 6) (pv 8) (λ_ _=>rfl)) qd)))) (qY jC (pv 6) (zk (qw zD (pv 8) qa)) zv)))) hEl)))))))
   hT)))))))),?_⟩
  try walk_at "rd"
  refine⟨_,ns,_,rfl,hS,jN hL ?_⟩
  rw[hz]
  try walk_at "rd"
  rw[hi.1]
  have cd:∀ b:Int,0<b->b<2 ^ 20->CDiv z b:=λb h1 h2=>⟨by omega,by omega⟩
  refine⟨pos,qR hL (vh (by omega) (by simpa using hvb)) ⟨qb,_,rfl,hBT,rfl,_,_,rfl,_,_,rfl,rfl,cd _ (by decide) (by decide),jN (SqL.of hDL) ?_⟩⟩
  try walk_at "rd"
  have hp2:(0:Int)<(ys.length:Int)+1:=by omega
  have ht1:=Int.emod_nonneg (z / 8) (show(ys.length:Int)+1≠0 by omega)
  have ht2:=Int.emod_lt_of_pos (z / 8) hp2
  obtain⟨t,ht⟩:∃ t:Nat,z / 8 % ((ys.length:Int)+1)=t/\t<=ys.length:=⟨(z / 8 % ((ys.length:Int)+1)).toNat,by omega,by omega⟩
  rw[ht.1]
  refine⟨hp2,cd _ (by decide) (by decide),by omega,cd _ (by decide) (by decide),by decide,λw1 G1 n1=>⟨cd _ (by decide) (by decide),?_⟩⟩
  obtain⟨pl,hpl,hat⟩:∃ pl:Int,(0<=pl/\pl<30)/\atI [V.int (z / 512 % n),V.int (n+z / 512 % 6)] (z / 64 % 2)=some (.int pl):=by
   have hj:z / 64 % 2=0\/z / 64 % 2=1:=by omega
   have h5:0<=z / 512 % n/\z / 512 % n<n:=⟨Int.emod_nonneg _ (by omega),Int.emod_lt_of_pos _ (by omega)⟩
   rcases hj with e|e <;> rw[e]
   ·exact⟨_,⟨h5.1,by omega⟩,rfl⟩
   ·exact⟨_,⟨by omega,by omega⟩,rfl⟩
  refine qR (SqL.of n1.at_) hat ⟨cd _ (by decide) (by decide),by omega,cd _ (by decide) (by decide),?_⟩
  have s1:=n1.same
  have out:∀ (p5:Addr) (G6:Hp) (ys':List V) (ds':List zQ),qq H G6->G6 p5=some (.lst ys')->z5 (j0 K G6) ys' ds'->ds'.length<=m+1->(∀ d∈ds',xV n d) ->
    tT { nx:=λx H'=>Q V.non H',rt:=Q } [some (V.ref sc),some (V.int k),some (V.ref pb),some (V.int n),some (V.int z),some (V.int ↑i),some (.ref p5),some en,some (V.int ↑t),some (V.int pl),some (V.int (z / 4096 % n)),some (V.int (z / 20000 % 6)),none,none] G6:=
   λp5 G6 ys' ds' sf h1 h2 h3 h4=>kT _ _ ⟨p5,ys',ds',_,_,_,_,_,_,rfl,sf,h1,h2,h3,h4⟩
  have ins:∀ x y:Int,(0<=x/\x<30)->(0<=y/\y<30)->(x<n\/y<n)->Zl K (V.ref pd) none (some ↑t) G1 λx_1 H1=>3<=sizeLine/\∀ (p:Addr) (H2:Hp),New H1 p (HO.tup [V.str (Str.ofString "move"),V.int x,V.int y]) H2->1<=sizeLine/\∀ (p_1:Addr) (H2_1:Hp),New H2 p_1 (HO.lst [V.ref p]) H2_1 ->
    Qi x_1 (V.ref p_1) H2_1 λx H1=>Zl K (V.ref pd) (some ↑t) none H1 λy H2=>Qi x y H2 λx H1=>tT { nx:=λx H'=>Q V.non H',rt:=Q } [some (V.ref sc),some (V.int k),some (V.ref pb),some (V.int n),some (V.int z),some (V.int ↑i),some x,some en,some (V.int ↑t),some (V.int pl),some (V.int (z / 4096 % n)),some (V.int (z / 20000 % 6)),none,none] H1:=by
   intro x y hx hy hxy
   refine⟨pd,ys,rfl,s1.seq (SqL.of hDL),λp1 U1 m1=>⟨by decide,λp2 U2 m2=>⟨by decide,λp3 U3 m3=>?_⟩⟩⟩
   have m1a:=m1.at_
   rw[xm (by omega)] at m1a
   exact mid U3 p1 p3 t t [.ref p2] [.move x y] _ (s1.trans (m1.same.trans (m2.same.trans m3.same))) (by omega) (m3.same _ _ (m2.same _ _ m1a)) m3.at_ (.cons ⟨p2,rfl,SqT.of (m3.same _ _ m2.at_)⟩ .nil) (λe he=>by rw[List.mem_singleton.mp he];exact⟨⟨⟨hx.1,by omega⟩,⟨hy.1,by omega⟩⟩,⟨hx.2,hy.2⟩,⟨⟨⟨hx.1,by omega⟩,⟨hy.1,by omega⟩⟩,λz=>by omega⟩,λz=>(by cases z)⟩) (by simp) (Nat.le_refl _) (by omega) (by simp only[List.length_cons,List.length_nil];omega) out
  have pan60:0<=z / 4096 % n/\z / 4096 % n<30:=⟨hpan.1,by omega⟩
  refine xN (λ_=>ins _ _ pan60 hpl (.inl hpan.2)) (λ_=>jN (s1.seq (SqL.of hDL)) ?_)
  dsimp only[QT,dp1]
  by_cases htl:t=ys.length
  ·refine kW (by simp[eqD,htl]) ?_
   exact ins _ _ pan60 hpl (.inl hpan.2)
  refine vq (by simp[eqD];omega) ?_
  have htd:t<b.ds.length:=by omega
  obtain⟨yv,hyv⟩:∃ yv,ys[t]?=some yv:=⟨_,List.getElem?_eq_getElem (by omega)⟩
  obtain⟨d,hd,hD⟩:=hDA.get hyv
  have e1:((t:Int)+1)=((t+1:Nat):Int):=by omega
  have e2:((t:Int)+2)=((t+2:Nat):Int):=by omega
  have three:if decide (z / 20000 % 6=3)=true then rLen K [V.ref pd] G1 λy H'=>asI y λj=>if decide (↑t+1<j)=true then
     Zl K (V.ref pd) none (some ↑t) H' λx H1=>q0c K (V.ref pd) (V.int (↑t+1)) H1 λx_1 H1=>q0c K (V.ref pd) (V.int ↑t) H1 λx_2 H1=>2<=sizeLine/\∀ (p:Addr) (H2:Hp),New H1 p (HO.lst [x_1,x_2]) H2->Qi x (V.ref p) H2 λx H1=>Zl K (V.ref pd) (some (↑t+2)) none H1 λy H2=>Qi x y H2 λx H1=>
      tT { nx:=λx H'=>Q V.non H',rt:=Q } [some (V.ref sc),some (V.int k),some (V.ref pb),some (V.int n),some (V.int z),some (V.int ↑i),some x,some en,some (V.int ↑t),some (V.int pl),some (V.int (z / 4096 % n)),some (V.int (z / 20000 % 6)),none,none] H1
     else tE { nx:=tT { nx:=λx H'=>Q V.non H',rt:=Q },rt:=Q } [some (V.ref sc),some (V.int k),some (V.ref pb),some (V.int n),some (V.int z),some (V.int ↑i),some (V.ref pd),some en,some (V.int ↑t),some (V.int pl),some (V.int (z / 4096 % n)),some (V.int (z / 20000 % 6)),none,none] H'
    else tE { nx:=tT { nx:=λx H'=>Q V.non H',rt:=Q },rt:=Q } [some (V.ref sc),some (V.int k),some (V.ref pb),some (V.int n),some (V.int z),some (V.int ↑i),some (V.ref pd),some en,some (V.int ↑t),some (V.int pl),some (V.int (z / 4096 % n)),some (V.int (z / 20000 % 6)),none,none] G1:=by
   refine xN (λ_=>jN (s1.seq (SqL.of hDL)) (show(if decide ((t:Int)+1<(ys.length:Nat))=true then _ else _) from xN (λc=>?_) (λc=>kE t _ _ G1 htd s1))) (λ_=>kE t _ _ G1 htd s1)
   have c:(t:Int)+1<ys.length:=c
   refine⟨pd,ys,rfl,s1.seq (SqL.of hDL),λp1 U1 m1=>?_⟩
   have sU:=s1.trans m1.same
   obtain⟨yw,hyw⟩:∃ yw,ys[t+1]?=some yw:=⟨_,List.getElem?_eq_getElem (by omega)⟩
   obtain⟨d2,hd2,hD2⟩:=hDA.get hyw
   rw[e1,e2]
   refine qR (sU.seq (SqL.of hDL)) (vh (by omega) (by simpa using hyw)) (qR (sU.seq (SqL.of hDL)) (vh (by omega) (by simpa using hyv)) ⟨by decide,λp2 U2 m2=>?_⟩)
   have m1a:=m1.at_
   rw[xm (by omega)] at m1a
   have sU2:=sU.trans m2.same
   refine mid U2 p1 p2 t (t+2) [yw,yv] [d2,d] _ sU2 (by omega) (m2.same _ _ m1a) m2.at_ (.cons (hD2.same sU2) (.cons (hD.same sU2) .nil)) (λe he=>?_) (by simp) (by omega) (by omega) (by simp only[List.length_cons,List.length_nil];omega) out
   rcases List.mem_cons.mp he with rfl|he
   ·exact gb2 _ (List.mem_of_getElem? hd2)
   ·rw[List.mem_singleton.mp he]
    exact gb2 _ (List.mem_of_getElem? hd)
  refine xN (λ_=>ins _ _ hpl pan60 (.inr hpan.2)) (λ_=>xN (λ_=>qR (s1.seq (SqL.of hDL)) (vh (by omega) (by simpa using hyv)) ?_) (λ_=>three))
  obtain⟨py,rfl,hSd⟩:=hD.same s1
  obtain⟨kd,hk0⟩:∃ kd:String,d.vs[0]?=some (.str (Str.ofString kd)):=by cases d <;> exact⟨_,rfl⟩
  refine qi hSd (vh (by omega) (by simpa using hk0)) ?_
  dsimp only[vW,dp1]
  refine xN (λ_=>⟨pd,ys,rfl,s1.seq (SqL.of hDL),λp1 U1 m1=>⟨pd,ys,rfl,(s1.trans m1.same).seq (SqL.of hDL),λp2 U2 m2=>⟨p1,p2,_,_,rfl,rfl,m2.same _ _ m1.at_,m2.at_,?_,λp3 U3 m3=>?_⟩⟩⟩) (λ_=>three)
  ·rw[e1,vt (by omega),xm (by omega),List.length_take,List.length_drop]
   exact Nat.le_trans (by omega:_<=4000) (by decide)
  ·have at3:=m3.at_
   rw[e1,vt (by omega),xm (by omega)] at at3
   have sf:=s1.trans (m1.same.trans (m2.same.trans m3.same))
   have hD3:=hDA.imp λ_ _ z=>z.same sf
   refine out p3 U3 _ _ sf at3 ((hD3.take t).append (hD3.drop (t+1))) (by rw[List.length_append,List.length_take,List.length_drop];omega) λe he=>?_
   rcases List.mem_append.mp he with he|he
   ·exact gb2 e (List.mem_of_mem_take he)
   ·exact gb2 e (List.mem_of_mem_drop he)
def Wc (K:PySem.W.Frag):Sp:=λvs H Q _=>∃ v e pn,∃ m:Nat,vs=[v,.int m]/\J0 K H v e/\okE pn m e/\1<=m/\∀ t e' H',qq H H'->H' t=some (.tup (En.vs e'))->okE pn m e'->Q (.ref t) H'
theorem Qs (T:Tx K w mg a):jA P w K mg base CX0 1 a._law_other a.fd__law_other ["_law_end_here","_law_many"] (Wc K):=by
 refine T.F__law_other.fn.okQ Qc (λvs H Q E h=>?_) (λcdv A outer s H vs Q E hr h=>?_)
 ·obtain⟨v,e,pn,m,rfl,_⟩:=h
  rfl
 ·obtain⟨v,e,pn,m,rfl,⟨p,rfl,hS⟩,ok,hm,q⟩:=h
  refine⟨_,(qf (zf (qm jq (qz qu (pv 0) qa (λ_ _=>rfl)) qD (qC _)) (qh (qN (qH (q5 qD (q5 (qw z4 (qw zD (qz qu (pv 0) qa (λ_ _=>rfl)) qa) (pv 1)) qd))))) qI)
   (qf (zf (qm jq (qz qu (pv 0) qa (λ_ _=>rfl)) qD (qC _)) (qh (qN (qH (q5 qD (q5 (qz qu (pv 0) qa (λ_ _=>rfl)) (q5 (qz qu (pv 0) qa (λ_ _=>rfl)) (q5 (qz qu (pv 0) qa (λ_ _=>rfl)) qd))))))) qI)
   (qh (qN (qH (q5 qD (q5 qa qd))))))),?_⟩
  cases e with
  |go t=>
   repeat (first|refine qi hS rfl ?_|walk_at "rd")
   exact⟨by omega,by decide,λp1 H1 n1=>q p1 (.go _) H1 n1.same n1.at_ ⟨Int.emod_nonneg _ (by omega),Int.emod_lt_of_pos _ (by omega)⟩⟩
  |fin=>
   repeat (first|refine qi hS rfl ?_|walk_at "rd")
   exact⟨by decide,λp1 H1 n1=>q p1 (.go 0) H1 n1.same n1.at_ ⟨Int.le_refl _,by omega⟩⟩
  |iff a t u=>
   repeat (first|refine qi hS rfl ?_|walk_at "rd")
   exact⟨by decide,λp1 H1 n1=>q p1 (.iff _ _ _) H1 n1.same n1.at_ ⟨ok.1,ok.2.2,ok.2.1⟩⟩
def Ki (K:PySem.W.Frag):Sp:=λvs H Q _=>∃ v r,vs=[v]/\jp K H v r/\r.isMove=false/\∀ t H',qq H H'->SqT K H' t (r.rd.map V.int)->Q (.ref t) H'
theorem Q9 (T:Tx K w mg a):jA P w K mg base CX0 1 a._law_reads a.fd__law_reads ["_law_deed_here"] (Ki K):=by
 refine T.F__law_reads.fn.okQ Q5 (λvs H Q E h=>?_) (λcdv A outer s H vs Q E hr h=>?_)
 ·obtain⟨v,r,rfl,_⟩:=h
  rfl
 ·obtain⟨v,r,rfl,⟨p,rfl,hS⟩,hm,q⟩:=h
  have hu:=yF hr
  refine⟨_,(qh (qN (vA hu (vX (jQ qD (qY vg (pv 0) (zk qa) zv) (jQ qD (qY vg (pv 0) (zk qa) zv) (jQ qD (qY vg (pv 0) (zk qa) (zk qa)) vP))) rfl rfl (by simp) (by simp)) (qz qu (pv 0) qa (λ_ _=>rfl)) (qH qd) ⟨rfl,rfl,rfl,rfl⟩))),?_⟩
  try walk_at "rd"
  intro d kd
  have s1:qq H (upd H d (.dK [])):=qq.new kd
  refine⟨p,_,rfl,s1.seqT hS,λp1 H2 s2 h1=>⟨p,_,rfl,(s1.trans s2).seqT hS,λp2 H3 s3 h2=>⟨p,_,rfl,((s1.trans s2).trans s3).seqT hS,λp3 H4 s4 h3=>?_⟩⟩⟩
  have hd:H4 d=some (.dK []):=s4 _ _ (s3 _ _ (s2 _ _ qg))
  refine⟨hd,[(.inr "op",.ref p1),(.inr "tell",.ref p2),(.inr "if",.ref p3)],rfl,by show 3<=15;decide,.inl ⟨_,.inl qg⟩,?_⟩
  have u5:UpD d H4 (upd H4 d (.dK (xv [] [(.inr "op",.ref p1),(.inr "tell",.ref p2),(.inr "if",.ref p3)]))):=UpD.upd
  have e5:upd H4 d (.dK (xv [] [(.inr "op",.ref p1),(.inr "tell",.ref p2),(.inr "if",.ref p3)])) d=some (.dK [(.inr "op",.ref p1),(.inr "tell",.ref p2),(.inr "if",.ref p3)]):=qg
  generalize upd H4 d (.dK (xv [] [(.inr "op",.ref p1),(.inr "tell",.ref p2),(.inr "if",.ref p3)]))=H5 at u5 e5 ⊢
  have s04:=((s1.trans s2).trans s3).trans s4
  have s05:qq H H5:=u5.same s04 kd
  have get:∀ (t:String) (H6:Hp),qq H5 H6->Q1 H6 d (.str t) (jG [(.inr "op",V.ref p1),(.inr "tell",.ref p2),(.inr "if",.ref p3)] (Sum.inr (t:Str):Key)):=λt H6 s6=>.inl ⟨_,Sum.inr (t:Str),.inl (s6 _ _ e5),rfl,rfl⟩
  have h1':=u5.seqT hd (s4.seqT (s3.seqT h1))
  have h2':=u5.seqT hd (s4.seqT h2)
  have h3':=u5.seqT hd h3
  cases r with
  |dd c=>
   cases c with
   |set v k=>exact qi (s05.seqT hS) rfl ⟨by decide,λp6 H6 n6=>⟨_,get "set" H6 n6.same,q p6 H6 (s05.trans n6.same) (SqT.of n6.at_)⟩⟩
   |input v k=>exact qi (s05.seqT hS) rfl ⟨by decide,λp6 H6 n6=>⟨_,get "input" H6 n6.same,q p6 H6 (s05.trans n6.same) (SqT.of n6.at_)⟩⟩
   |op w v x y=>exact qi (s05.seqT hS) rfl ⟨by decide,λp6 H6 n6=>⟨_,get "op" H6 n6.same,q p1 H6 (s05.trans n6.same) (n6.same.seqT h1')⟩⟩
   |tell x=>exact qi (s05.seqT hS) rfl ⟨by decide,λp6 H6 n6=>⟨_,get "tell" H6 n6.same,q p2 H6 (s05.trans n6.same) (n6.same.seqT h2')⟩⟩
   |move x y=>cases hm
  |ee e=>
   cases e with
   |go n=>exact qi (s05.seqT hS) rfl ⟨by decide,λp6 H6 n6=>⟨_,get "go" H6 n6.same,q p6 H6 (s05.trans n6.same) (SqT.of n6.at_)⟩⟩
   |iff x n m=>exact qi (s05.seqT hS) rfl ⟨by decide,λp6 H6 n6=>⟨_,get "if" H6 n6.same,q p3 H6 (s05.trans n6.same) (n6.same.seqT h3')⟩⟩
   |fin=>exact qi (s05.seqT hS) rfl ⟨by decide,λp6 H6 n6=>⟨_,get "end" H6 n6.same,q p6 H6 (s05.trans n6.same) (SqT.of n6.at_)⟩⟩
def QX (K:PySem.W.Frag)(H:Hp)(v:V)(r:Row):Prop:=∃ p,v=.ref p/\SqT K H p r.bareVs
theorem QX.same (h:QX K H v r)(s:qq H H'):QX K H' v r:=let ⟨p,e,q⟩:=h;⟨p,e,s.seqT q⟩
theorem UpD.tupL {d:Addr}(u:UpD d H H')(hd:H d=some (.lst ys))(h:QX K H v r):QX K H' v r:=let ⟨p,e,q⟩:=h;⟨p,e,u.seqTL hd q⟩
def Zg (K:PySem.W.Frag)(H:Hp)(v:V)(rs:List Row):Prop:=∃ p ys,v=.ref p/\H p=some (.lst ys)/\z5 (QX K H) ys rs
theorem Zg.same {r:List Row}(h:Zg K H v r)(s:qq H H'):Zg K H' v r:=let ⟨p,ys,e,q,a⟩:=h;⟨p,ys,e,s _ _ q,a.imp λ_ _ z=>z.same s⟩
def VY (rs:List Row):PyData:=.list (rs.map λr=>.tuple (r.bareVs.map X1))
def xi (bs:List Blk):PyData:=.list (bs.map λb=>VY b.bare.rows)
def JX (rs:List Row):List Row:=rs.filter λr=>!r.isMove
theorem ZN {rs:List Row}(h:rs[i]?=some r):JX (rs.take (i+1))=JX (rs.take i)++(if r.isMove=true then[] else[r]):=by
 unfold JX
 rw[List.take_succ,h,List.filter_append]
 cases e:r.isMove <;> simp[e]
theorem Qt {en:V}(hA:z5 (j0 K H) xs b.ds)(hE:J0 K H en b.en):z5 (jp K H) (xs++[en]) b.rows:=by
 unfold Blk.rows
 refine z5.append ⟨by rw[hA.1,List.length_map],λi x r hx hr=>?_⟩ (.cons (jp.ee hE) .nil)
 rw[List.getElem?_map] at hr
 obtain⟨d,hd,rfl⟩:=Option.map_eq_some_iff.mp hr
 exact jp.dd (hA.2 i x d hx hd)
def XZ (K:PySem.W.Frag):Sp:=λvs H Q _=>∃ v bs,vs=[v]/\jZ K H v bs/\bs.length<1000/\(∀ b∈bs,b.ds.length<1000)/\∀ v' H',qq H H'->Dp K H' v' (xi bs)->Q v' H'
theorem QS (T:Tx K w mg a):jA P w K mg base CX0 1 a._law_shape a.fd__law_shape ["_law_blocks"] (XZ K):=by
 refine T.F__law_shape.fn.okQ js (λvs H Q E h=>?_) (λcdv A outer s H vs Q E hr h=>?_)
 ·obtain⟨v,bs,rfl,_⟩:=h
  rfl
 ·obtain⟨v,bs,rfl,⟨l,bxs,rfl,hl,hA⟩,nb,lb,Qn⟩:=h
  refine⟨_,(qf (qy (i:=1) js.nd rfl (Or.inl rfl) (qO qd))
   (qf (zU PassesOwn.never rfl (z7 (pv 0)) (x9 rfl (qL (qr (i:=2) js.nd rfl (Or.inl rfl)) (qL (qr (i:=3) js.nd rfl (Or.inl rfl)) jn)))
    (qf (qy (i:=4) js.nd rfl (Or.inl rfl) (qO qd))
   (qf (zU PassesOwn.never rfl (z7 (qw zm (pv 2) (qO (q5 (pv 3) qd)))) (qr (i:=5) js.nd rfl (Or.inl rfl))
    (qh (zf (qm jq (qz qu (pv 5) qa (λ_ _=>rfl)) qD (qC _)) (qh (qQ (xr PySem.F.plainAttrs_list PySem.F.slot_list_append PySem.F.type_list_append zG (pv 4) (q5 (qY vg (pv 5) zv (zk qa)) qd)))) (qh (zf (qm y3 (qz qu (pv 5) qa (λ_ _=>rfl)) (qH (q5 qD (q5 qD qd))) rfl) (qh (qQ (xr PySem.F.plainAttrs_list PySem.F.slot_list_append PySem.F.type_list_append zG (pv 4) (q5 (qH (q5 (qz qu (pv 5) qa (λ_ _=>rfl)) (q5 (qz qu (pv 5) qa (λ_ _=>rfl)) qd))) qd)))) (qh (zf (qm jq (qz qu (pv 5) qa (λ_ _=>rfl)) qD (qC _)) (qh (qQ (xr PySem.F.plainAttrs_list PySem.F.slot_list_append PySem.F.type_list_append zG (pv 4) (q5 (qH (q5 (qz qu (pv 5) qa (λ_ _=>rfl)) (q5 (qz qu (pv 5) qa (λ_ _=>rfl)) (q5 (qz qu (pv 5) qa (λ_ _=>rfl)) qd)))) qd)))) (qh (zf (qm yA (qz qu (pv 5) qa (λ_ _=>rfl)) qD (qC _)) (qh (qQ (xr PySem.F.plainAttrs_list PySem.F.slot_list_append PySem.F.type_list_append zG (pv 4) (q5 (jI (qm jq (qz qu (pv 5) qa (λ_ _=>rfl)) qD (qC _)) (qY vg (pv 5) zv (zk qa)) (pv 5)) qd)))) qI)))))))))
   (qh (qQ (xr PySem.F.plainAttrs_list PySem.F.slot_list_append PySem.F.type_list_append zG (pv 1) (q5 (pv 4) qd)))))))
   (qh (qN (pv 1))))),?_⟩
  try walk_at "rd"
  refine⟨by decide,λpf H1 n1=>?_⟩
  try walk_at "rd"
  have hl1:=n1.same _ _ hl
  have npf:l≠pf:=qj hl n1.fr
  have hA1:z5 (wg K H1) bxs bs:=hA.imp λ_ _ z=>z.same n1.same
  refine⟨⟨_,SqL.of hl1⟩,zz bxs (λi σ H'=>(∃ a b c d,σ=[some (.ref l),some (.ref pf),a,b,c,d])/\UpD pf H1 H'/\∃ fs,H' pf=some (.lst fs)/\z5 (Zg K (hide H' pf)) fs ((bs.take i).map λb=>b.bare.rows)) ⟨⟨_,_,_,_,rfl⟩,UpD.refl,[],n1.at_,.nil⟩ (λi σ H' _ h=>SqL.of (h.2.1 _ _ npf hl1)) ?_ ?_⟩
  ·rintro i x σ H2 hi ⟨⟨va,vb,vc,vd,rfl⟩,u2,fs,hf2,hF2⟩
   obtain⟨b,hb,hB⟩:=hA1.get hi
   have li:=(List.getElem?_eq_some_iff.mp hb).1
   have lds:=lb b (List.mem_of_getElem? hb)
   have s02:qq H H2:=u2.same n1.same n1.fr
   have hB2:wg K H2 x b:=((hA.2 i x b hi hb)).same s02
   obtain⟨p,dl,en,rfl,hT,⟨pd,xs,rfl,hD,hAd⟩,hE⟩:=hB2
   try walk_at "rd"
   refine⟨p,_,rfl,hT,rfl,_,_,rfl,_,_,rfl,rfl,by decide,λpr H3 n3=>?_⟩
   try walk_at "rd"
   refine⟨by decide,λp1 H4 n4=>?_⟩
   refine⟨pd,p1,xs,_,rfl,rfl,(n3.same.trans n4.same) _ _ hD,n4.at_,?_,λpl H5 n5=>?_⟩
   ·rw[hAd.1]
    exact Nat.le_trans (show b.ds.length+1<=1000 by omega) (by decide)
   try walk_at "rd"
   have s25:=(n3.same.trans n4.same).trans n5.same
   have hR5:z5 (jp K H5) (xs++[en]) b.rows:=(Qt hAd hE).imp λ_ _ z=>z.same s25
   have hpr5:H5 pr=some (.lst []):=n5.same _ _ (n4.same _ _ n3.at_)
   have npl:pl≠pr:=(qj (n4.same _ _ n3.at_) n5.fr).symm
   have npp:pf≠pr:=qj hf2 n3.fr
   refine⟨⟨_,SqL.of n5.at_⟩,zz (xs++[en]) (λj σ H'=>(∃ d,σ=[some (.ref l),some (.ref pf),some (.ref pd),some en,some (.ref pr),d])/\UpD pr H5 H'/\∃ ys,H' pr=some (.lst ys)/\ys.length<=j/\z5 (QX K H') ys (JX (b.rows.take j))) ⟨⟨_,rfl⟩,UpD.refl,[],hpr5,Nat.le_refl _,.nil⟩ (λj σ H' _ h=>SqL.of (h.2.1 _ _ npl n5.at_)) ?_ ?_⟩
   ·rintro j z σ H6 hj ⟨⟨vd,rfl⟩,u6,ys,hy6,hyl,hY6⟩
    obtain⟨r,hr2,hRx⟩:=hR5.get hj
    have lj:j<1002:=by
     have:=(List.getElem?_eq_some_iff.mp hr2).1
     have e2:b.rows.length=b.ds.length+1:=by unfold Blk.rows;simp
     omega
    have lenx:ys.length<sizeLine:=Nat.lt_of_le_of_lt hyl (Nat.lt_trans lj (by decide))
    obtain⟨pz,rfl,hS⟩:=u6.rowL hpr5 hRx
    have fin:r.isMove=false->∀ p7 H7,qq H6 H7->SqT K H7 p7 r.bareVs->(UpD pr H5 (upd H7 pr (.lst (ys++[.ref p7])))/\∃ ys',upd H7 pr (.lst (ys++[.ref p7])) pr=some (.lst ys')/\ys'.length<=j+1/\z5 (QX K (upd H7 pr (.lst (ys++[.ref p7])))) ys' (JX (b.rows.take (j+1)))):=λhm p7 H7 s7 h7=>by
     have uu:UpD pr H7 (upd H7 pr (.lst (ys++[.ref p7]))):=UpD.upd
     have hy7:=s7 _ _ hy6
     refine⟨(u6.trans (UpD.of s7)).trans uu,_,qg,by rw[List.length_append];exact Nat.succ_le_succ hyl,?_⟩
     rw[ZN hr2,if_neg (by rw[hm];exact Bool.false_ne_true)]
     exact((hY6.imp λ_ _ z=>z.same s7).snoc ⟨p7,rfl,h7⟩).imp λ_ _ z=>uu.tupL hy7 z
    have ty:∀ H7,qq H6 H7->tyV K "list" (.ref pr) H7:=λH7 s7=>.inl ⟨rfl,_,SqL.of (s7 _ _ hy6)⟩
    clear hRx
    cases r with
    |dd c=>
     cases c with
     |set v k=>
      repeat (first|refine qi hS rfl ?_|walk_at "rd")
      refine⟨by decide,λpq H7 n7=>⟨pq,_,rfl,.inr (SqT.of n7.at_),rfl,rfl,?_⟩⟩
      dsimp only[jH]
      refine kW (by decide +kernel) ?_
      have s7:=n7.same
      have hS7:=s7.seqT hS
      clear hS
      refine⟨ty _ s7,?_⟩
      repeat (first|refine qi hS7 rfl ?_|walk_at "rd")
      refine⟨by decide,λp8 H8 n8=>?_⟩
      exact⟨pr,ys,_,rfl,rfl,(s7.trans n8.same) _ _ hy6,lenx,⟨_,rfl⟩,fin rfl p8 H8 (s7.trans n8.same) (SqT.of n8.at_)⟩
     |input v k=>
      repeat (first|refine qi hS rfl ?_|walk_at "rd")
      refine⟨by decide,λpq H7 n7=>⟨pq,_,rfl,.inr (SqT.of n7.at_),rfl,rfl,?_⟩⟩
      dsimp only[jH]
      refine kW (by decide +kernel) ?_
      have s7:=n7.same
      have hS7:=s7.seqT hS
      clear hS
      refine⟨ty _ s7,?_⟩
      repeat (first|refine qi hS7 rfl ?_|walk_at "rd")
      refine⟨by decide,λp8 H8 n8=>?_⟩
      exact⟨pr,ys,_,rfl,rfl,(s7.trans n8.same) _ _ hy6,lenx,⟨_,rfl⟩,fin rfl p8 H8 (s7.trans n8.same) (SqT.of n8.at_)⟩
     |op w v x y=>
      repeat (first|refine qi hS rfl ?_|walk_at "rd")
      exact⟨ty _ (λ_ _ e=>e),pz,_,rfl,hS,λp8 H8 s8 h8=>⟨pr,ys,_,rfl,rfl,s8 _ _ hy6,lenx,⟨_,rfl⟩,fin rfl p8 H8 s8 h8⟩⟩
     |tell x=>
      repeat (first|refine qi hS rfl ?_|walk_at "rd")
      refine⟨by decide,λpq H7 n7=>⟨pq,_,rfl,.inr (SqT.of n7.at_),rfl,rfl,?_⟩⟩
      dsimp only[jH]
      refine vq (by decide +kernel) ?_
      have s7:=n7.same
      have hS7:=s7.seqT hS
      clear hS
      repeat (first|refine qi hS7 rfl ?_|walk_at "rd")
      refine⟨ty _ s7,?_⟩
      repeat (first|refine qi hS7 rfl ?_|walk_at "rd")
      exact⟨pz,_,rfl,hS7,λp8 H8 s8 h8=>⟨pr,ys,_,rfl,rfl,(s7.trans s8) _ _ hy6,lenx,⟨_,rfl⟩,fin rfl p8 H8 (s7.trans s8) h8⟩⟩
     |move x y=>
      repeat (first|refine qi hS rfl ?_|walk_at "rd")
      refine⟨by decide,λpq H7 n7=>⟨pq,_,rfl,.inr (SqT.of n7.at_),rfl,rfl,?_⟩⟩
      dsimp only[jH]
      refine vq (by decide +kernel) ?_
      have s7:=n7.same
      have hS7:=s7.seqT hS
      clear hS
      repeat (first|refine qi hS7 rfl ?_|walk_at "rd")
      refine⟨⟨_,rfl⟩,u6.trans (UpD.of s7),ys,s7 _ _ hy6,Nat.le_succ_of_le hyl,?_⟩
      rw[ZN hr2,if_pos (show(Row.dd (zQ.move x y)).isMove=true from rfl),List.append_nil]
      exact hY6.imp λ_ _ z=>z.same s7
    |ee e=>
     cases e with
     |go n=>
      repeat (first|refine qi hS rfl ?_|walk_at "rd")
      refine⟨by decide,λpq H7 n7=>⟨pq,_,rfl,.inr (SqT.of n7.at_),rfl,rfl,?_⟩⟩
      dsimp only[jH]
      refine vq (by decide +kernel) ?_
      have s7:=n7.same
      have hS7:=s7.seqT hS
      clear hS
      repeat (first|refine qi hS7 rfl ?_|walk_at "rd")
      refine⟨ty _ s7,?_⟩
      repeat (first|refine qi hS7 rfl ?_|walk_at "rd")
      exact⟨pr,ys,_,rfl,rfl,s7 _ _ hy6,lenx,⟨_,rfl⟩,fin rfl pz _ s7 hS7⟩
     |iff x n m=>
      repeat (first|refine qi hS rfl ?_|walk_at "rd")
      refine⟨by decide,λpq H7 n7=>⟨pq,_,rfl,.inr (SqT.of n7.at_),rfl,rfl,?_⟩⟩
      dsimp only[jH]
      refine vq (by decide +kernel) ?_
      have s7:=n7.same
      have hS7:=s7.seqT hS
      clear hS
      repeat (first|refine qi hS7 rfl ?_|walk_at "rd")
      refine⟨ty _ s7,?_⟩
      repeat (first|refine qi hS7 rfl ?_|walk_at "rd")
      refine⟨by decide,λp8 H8 n8=>?_⟩
      exact⟨pr,ys,_,rfl,rfl,(s7.trans n8.same) _ _ hy6,lenx,⟨_,rfl⟩,fin rfl p8 H8 (s7.trans n8.same) (SqT.of n8.at_)⟩
     |fin=>
      repeat (first|refine qi hS rfl ?_|walk_at "rd")
      refine⟨by decide,λpq H7 n7=>⟨pq,_,rfl,.inr (SqT.of n7.at_),rfl,rfl,?_⟩⟩
      dsimp only[jH]
      refine vq (by decide +kernel) ?_
      have s7:=n7.same
      have hS7:=s7.seqT hS
      clear hS
      repeat (first|refine qi hS7 rfl ?_|walk_at "rd")
      refine⟨ty _ s7,?_⟩
      repeat (first|refine qi hS7 rfl ?_|walk_at "rd")
      exact⟨pr,ys,_,rfl,rfl,s7 _ _ hy6,lenx,⟨_,rfl⟩,fin rfl pz _ s7 hS7⟩
   ·rintro σ H6 ⟨⟨vd,rfl⟩,u6,ys,hy6,hyl,hY6⟩
    rw[hR5.1,List.take_length] at hY6
    have hf6:H6 pf=some (.lst fs):=u6 _ _ npp (s25 _ _ hf2)
    try walk_at "rd"
    refine⟨.inl ⟨rfl,_,SqL.of hf6⟩,pf,fs,.ref pr,rfl,rfl,hf6,?_,⟨_,_,_,_,rfl,rfl,rfl,rfl⟩,?_,_,qg,?_⟩
    ·rw[hF2.1,List.length_map,List.length_take]
     exact Nat.lt_of_le_of_lt (Nat.min_le_left _ _) (Nat.lt_trans (by omega:i<1000) (by decide))
    ·exact(show UpD pf H1 H6 from λc o nc e=>have e2:=u2 c o nc e;u6 c o (qj e2 n3.fr) (s25 _ _ e2)).trans UpD.upd
    ·rw[x6,List.take_succ,hb,List.map_append]
     have hh:qq (hide H2 pf) (hide H6 pf):=λc o e=>by
      have nc:c≠pf:=λz=>by rw[z] at e;unfold hide at e;rw[if_pos rfl] at e;cases e
      rw[zb nc] at e ⊢
      have e2:=s25 _ _ e
      exact u6 _ _ (qj e n3.fr) e2
     refine(hF2.imp λ_ _ z=>z.same hh).append (.cons ⟨pr,ys,rfl,by rw[zb npp.symm];exact hy6,?_⟩ .nil)
     have eb:b.bare.rows=JX b.rows:=ky b
     show z5 _ ys b.bare.rows
     rw[eb]
     exact hY6.imp λ_ _ z=>UpD.hide.tupL hf6 z
  ·rintro σ H2 ⟨⟨va,vb,vc,vd,rfl⟩,u2,fs,hf2,hF2⟩
   try walk_at "rd"
   rw[hA1.1,List.take_length] at hF2
   refine Qn _ H2 (u2.same n1.same n1.fr) (.lst (SqL.of hf2) ?_)
   have hF3:z5 (λv (b:Blk)=>Zg K H2 v b.bare.rows) fs bs:=⟨by rw[hF2.1,List.length_map],λi x b hx hb=>(hF2.2 i x _ hx (by rw[List.getElem?_map,hb];rfl)).same zp⟩
   refine kN (K:=K) (H:=H2) (f:=λb:Blk=>VY b.bare.rows) (λv b ⟨q,ys,e,hq,hY⟩=>?_) hF3
   rw[e]
   exact .lst (SqL.of hq) (kN (K:=K) (H:=H2) (f:=λr:Row=>PyData.tuple (r.bareVs.map X1)) (λv r ⟨q,e,hq⟩=>by rw[e];exact .tup hq (Q2 (xX r))) hY)
theorem w6 (bs:List Blk):Shp 3 (xi bs):=.list λd hd=>by
 obtain⟨b,hb,rfl⟩:=List.mem_map.mp hd
 refine .list λe he=>?_
 obtain⟨r,hr,rfl⟩:=List.mem_map.mp he
 exact .tuple (shVs (xX r))
theorem yf {as:List Blk}:PyData.eqv (xi as) (xi bs)=true ↔ as.map (λb=>b.bare.shape)=bs.map λb=>b.bare.shape:=by
 have e:∀ bs:List Blk,xi bs=.list ((bs.map λb=>b.bare.shape).map λyss:List (List V)=>.list (yss.map λys=>.tuple (ys.map X1))):=λbs=>by
  unfold xi VY Blk.shape
  rw[List.map_map]
  refine congrArg PyData.list (List.map_congr_left λb _=>?_)
  show _=PyData.list (List.map _ (List.map _ _))
  rw[List.map_map]
  rfl
 refine⟨λh=>?_,λh=>by rw[e as,h,<- e bs];exact(w6 bs).refl⟩
 rw[e as,e bs] at h
 simp only[PyData.eqv] at h
 refine jP (λx hx y hy e=>?_) h
 obtain⟨b,hb,rfl⟩:=List.mem_map.mp hx
 obtain⟨c,hc,rfl⟩:=List.mem_map.mp hy
 simp only[PyData.eqv] at e
 refine jP (λx hx y hy e=>?_) e
 obtain⟨r,hr,rfl⟩:=List.mem_map.mp hx
 obtain⟨r',hr',rfl⟩:=List.mem_map.mp hy
 simp only[PyData.eqv] at e
 exact jP (λx hx y hy e=>X2 (List.all_eq_true.mp (xX r) x hx) (List.all_eq_true.mp (xX r') y hy) e) e
end
abbrev NP:=Int×Int
structure kr (ps:List NP)(h:HSto):Prop where
 nd:(ps.map (·.2)).Nodup
 mem:∀ n p,(n,p)∈ps ↔ h p=some n
 dom:∀ x∈ps,0<=x.2/\x.2<60
theorem kr.nil:kr [] (λ_=>none):=⟨List.nodup_nil,λn p=>⟨λh=>(by cases h),λh=>(by cases h)⟩,λx h=>by cases h⟩
theorem kr.len (r:kr ps h):ps.length<=60:=by
 have:=vm (m:=(List.range 60).map λi:Nat=>(i:Int)) r.nd λa ha=>by
  obtain⟨x,hx,rfl⟩:=List.mem_map.mp ha
  obtain⟨h0,h1⟩:=r.dom x hx
  exact List.mem_map.mpr ⟨x.2.toNat,List.mem_range.mpr (by omega),Int.toNat_of_nonneg h0⟩
 simpa using this
theorem Yl {q:Int}(nd:(ps.map (·.2)).Nodup):(ps.filter λa=>decide (a.2=q)).length<=1:=by
 have h1:((ps.filter λa=>decide (a.2=q)).map (·.2)).Nodup:=List.Nodup.sublist (List.Sublist.map _ List.filter_sublist) nd
 have:=vm (m:=[q]) h1 λa ha=>by
  obtain⟨x,hx,rfl⟩:=List.mem_map.mp ha
  rw[of_decide_eq_true (List.mem_filter.mp hx).2]
  exact List.mem_singleton.mpr rfl
 simpa using this
def YZ (p q:Int)(ps:List NP):List NP:=(ps.filter λa=>!decide (a.2=p))++(ps.filter λa=>decide (a.2=q)).map λa=>(a.1,p)
def YQ (n p:Int)(ps:List NP):List NP:=(ps.filter λa=>!decide (a.1=n) && !decide (a.2=p))++[(n,p)]
theorem kr.move {p q:Int}(r:kr ps h)(h0:0<=p)(h1:p<60):kr (YZ p q ps) (jB p q h):=by
 refine⟨?_,λn x=>?_,λx hx=>?_⟩
 ·unfold YZ
  rw[List.map_append,List.nodup_append]
  refine⟨List.Nodup.sublist (List.Sublist.map _ List.filter_sublist) r.nd,?_,λa ha b hb e=>?_⟩
  ·have:=Yl (q:=q) r.nd
   rw[List.map_map]
   generalize(ps.filter λa=>decide (a.2=q))=z at this
   match z with
   |[]=>exact List.nodup_nil
   |[x]=>simp
   |x::y::z=>simp at this
  ·obtain⟨x,hx,rfl⟩:=List.mem_map.mp ha
   obtain⟨y,hy,rfl⟩:=List.mem_map.mp hb
   obtain⟨z,hz,rfl⟩:=List.mem_map.mp hy
   have:=(List.mem_filter.mp hx).2
   simp only[Bool.not_eq_true',decide_eq_false_iff_not] at this
   exact this e
 ·unfold YZ jB
  rw[List.mem_append,List.mem_filter,List.mem_map]
  by_cases e:x=p
  ·subst e
   rw[if_pos rfl]
   refine⟨λz=>?_,λz=>.inr ⟨(n,q),List.mem_filter.mpr ⟨(r.mem n q).mpr z,by simp⟩,rfl⟩⟩
   rcases z with⟨_,z⟩|⟨⟨a,b⟩,ha,e⟩
   ·simp at z
   ·obtain⟨h2,h3⟩:=List.mem_filter.mp ha
    have h3:=of_decide_eq_true h3
    cases e
    dsimp only at h3
    subst h3
    exact(r.mem _ _).mp h2
  ·rw[if_neg e]
   refine⟨λz=>?_,λz=>.inl ⟨(r.mem n x).mpr z,by simpa using e⟩⟩
   rcases z with⟨z,_⟩|⟨a,_,e2⟩
   ·exact(r.mem n x).mp z
   ·cases e2;exact absurd rfl e
 ·unfold YZ at hx
  rcases List.mem_append.mp hx with z|z
  ·exact r.dom x (List.mem_filter.mp z).1
  ·obtain⟨a,_,rfl⟩:=List.mem_map.mp z
   exact⟨h0,h1⟩
theorem kr.give {p:Int}(r:kr ps h)(h0:0<=p)(h1:p<60):kr (YQ n p ps) (jo n p h):=by
 refine⟨?_,λm x=>?_,λx hx=>?_⟩
 ·unfold YQ
  rw[List.map_append,List.nodup_append]
  refine⟨List.Nodup.sublist (List.Sublist.map _ List.filter_sublist) r.nd,by simp,λa ha b hb e=>?_⟩
  obtain⟨x,hx,rfl⟩:=List.mem_map.mp ha
  have hb:=List.mem_singleton.mp hb
  subst hb
  have:=(List.mem_filter.mp hx).2
  simp only[Bool.and_eq_true,Bool.not_eq_true',decide_eq_false_iff_not] at this
  exact this.2 e
 ·unfold YQ jo
  rw[List.mem_append,List.mem_filter,List.mem_singleton]
  by_cases e:x=p
  ·subst e
   rw[if_pos rfl]
   refine⟨λz=>?_,λz=>.inr (by cases z;rfl)⟩
   rcases z with⟨_,z⟩|z
   ·simp at z
   ·cases z;rfl
  ·rw[if_neg e]
   by_cases e2:h x=some n
   ·rw[if_pos e2]
    refine⟨λz=>?_,λz=>by cases z⟩
    rcases z with⟨z,z2⟩|z
    ·have:=(r.mem m x).mp z
     rw[e2] at this
     cases this
     simp at z2
    ·cases z;exact absurd rfl e
   ·rw[if_neg e2]
    refine⟨λz=>?_,λz=>.inl ⟨(r.mem m x).mpr z,?_⟩⟩
    ·rcases z with⟨z,_⟩|z
     ·exact(r.mem m x).mp z
     ·cases z;exact absurd rfl e
    ·simp only[Bool.and_eq_true,Bool.not_eq_true',decide_eq_false_iff_not]
     exact⟨λz3=>e2 (by rw[z,z3]),e⟩
 ·unfold YQ at hx
  rcases List.mem_append.mp hx with z|z
  ·exact r.dom x (List.mem_filter.mp z).1
  ·rw[List.mem_singleton.mp z]
   exact⟨h0,h1⟩
theorem xc {xs:List RP}{y:RP}:∀ {h:HSto},qU (xs++[y]) h=(qU xs h && zF y (zS xs h)):=by
 induction xs with
 |nil=>intro h;show(zF y h && true)=(true && zF y h);simp
 |cons x r ih=>
  intro h
  show(zF x h && qU (r++[y]) (jt x h))=((zF x h && qU r (jt x h)) && zF y (zS r (jt x h)))
  rw[ih,Bool.and_assoc]
theorem zu {xs:List RP}{y:RP}:zS (xs++[y]) h=jt y (zS xs h):=by
 unfold zS
 rw[List.foldl_append]
 rfl
section
variable {P:Program}{w:World}{K:PySem.W.Frag}{mg:Str->Option Value}{base:Heap}
def xD (K:PySem.W.Frag)(H:Hp)(v:V)(a:NP):Prop:=∃ q,v=.ref q/\SqT K H q [.int a.1,.int a.2]
theorem xD.same {a:NP}(h:xD K H v a)(s:qq H H'):xD K H' v a:=let ⟨p,e,q⟩:=h;⟨p,e,s.seqT q⟩
theorem UpD.prL {d:Addr}{a:NP}(u:UpD d H H')(hd:H d=some (.lst ys))(h:xD K H v a):xD K H' v a:=let ⟨p,e,q⟩:=h;⟨p,e,u.seqTL hd q⟩
theorem VG {l:List NP}{hs:List V}(h:z5 (λ(y:V) (a:NP)=>y=.int a.1) hs l):hs=(l.map (·.1)).map V.int:=by
 refine List.ext_getElem? λj=>?_
 cases ej:hs[j]? with
 |none=>
  have:l.length<=j:=by rw[<-h.1];simpa using ej
  rw[List.getElem?_eq_none (by simpa using this)]
 |some y=>
  obtain⟨a,ha,rfl⟩:=h.get ej
  rw[List.getElem?_map,List.getElem?_map,ha]
  rfl
theorem Wp {Rr:V->NP->Prop}{f:NP->Bool}{tif:TT}{te:TE}{xM:L2.St}(hl:H l=some (.lst xs))(hA:z5 (xD K H) xs ps)(hn:ps.length<100000)(kp:H p=none)
  (ht:∀ x a H' Qb,qq H H'->xD K H x a->Qb (f a) H'->tif (some x::xM) H' Qb) (he:∀ x a H' Qv,qq H H'->xD K H x a->(∀ y,Rr y a->Qv y H')->te (some x::xM) H' Qv)
  (k:∀ H' ys,qq H H'->H' p=some (.lst ys)->z5 Rr ys (ps.filter f)->Q (.ref p) H'):vH (Itl K l) (xH 0) tif te p (u::xM) H Q:=by
 refine jO xs (λi σ H'=>(∃ u,σ=u::xM)/\qq H H'/\∃ ys,H' p=some (.lst ys)/\ys.length<=i/\z5 Rr ys ((ps.take i).filter f)) ⟨⟨_,rfl⟩,qq.new kp,[],qg,Nat.le_refl _,.nil⟩ (λi σ H' _ h=>SqL.of (h.2.1 _ _ hl)) ?_ ?_
 ·rintro i x σ H1 hi ⟨⟨u,rfl⟩,s1,ys,hy,hyl,hY⟩
  obtain⟨a,ha,hP⟩:=hA.get hi
  have li:=(List.getElem?_eq_some_iff.mp ha).1
  refine ht x a H1 _ s1 hP ?_
  have e1:(ps.take (i+1)).filter f=(ps.take i).filter f++(if f a=true then[a] else[]):=by
   rw[List.take_succ,ha,List.filter_append]
   cases e:f a <;> simp[e]
  cases e:f a with
  |true=>
   refine kW rfl (he x a H1 _ s1 hP λy hr=>⟨ys,hy,Nat.lt_of_le_of_lt hyl (Nat.lt_trans (Nat.lt_trans li hn) (by decide)),⟨_,rfl⟩,jv s1 kp,_,qg,by rw[List.length_append];exact Nat.succ_le_succ hyl,?_⟩)
   rw[e1,if_pos e]
   exact hY.snoc hr
  |false=>
   refine vq rfl ⟨⟨_,rfl⟩,s1,ys,hy,Nat.le_succ_of_le hyl,?_⟩
   rw[e1,if_neg (by rw[e];exact Bool.false_ne_true),List.append_nil]
   exact hY
 ·rintro σ H1 ⟨_,s1,ys,hy,_,hY⟩
  rw[hA.1,List.take_length] at hY
  exact k H1 ys s1 hy hY
theorem pairJ {pc:Addr}{ns:List Int}{vs:List V}{j pl:Int}(hl:H l=some (.lst (ns.map V.int)))(hn:ns.length<100000)(kp:H p=none)(hc:SqT K H pc vs)(hj:atI vs j=some (.int pl))
  (k:∀ H' ys,qq H H'->H' p=some (.lst ys)->z5 (xD K H') ys (ns.map λn=>(n,pl))->Q (.ref p) H'):
  vH (Itl K l) (xH 0) Z9 (VF (yE (vG 0) (yE (tOp (yK K) (vG 1) (tC (.int j))) WI))) p [u,some (.ref pc)] H Q:=by
 refine jO (ns.map V.int) (λi σ H'=>(∃ u,σ=[u,some (.ref pc)])/\qq H H'/\∃ ys,H' p=some (.lst ys)/\z5 (xD K (hide H' p)) ys ((ns.take i).map λn=>(n,pl))) ⟨⟨_,rfl⟩,qq.new kp,[],qg,.nil⟩ (λi σ H' _ h=>SqL.of (h.2.1 _ _ hl)) ?_ ?_
 ·rintro i x σ H1 hi ⟨⟨u,rfl⟩,s1,ys,hy,hY⟩
  rw[List.getElem?_map] at hi
  obtain⟨n,hn1,rfl⟩:=Option.map_eq_some_iff.mp hi
  have li:=(List.getElem?_eq_some_iff.mp hn1).1
  try walk_at "rd"
  refine qi (s1.seqT hc) hj ⟨by decide,λt H2 n2=>?_⟩
  have nt:t≠p:=(qj hy n2.fr).symm
  refine⟨ys,n2.same _ _ hy,?_,⟨_,rfl⟩,jv (s1.trans n2.same) kp,_,qg,?_⟩
  ·rw[hY.1,List.length_map,List.length_take]
   exact Nat.lt_of_le_of_lt (Nat.min_le_left _ _) (Nat.lt_trans (Nat.lt_trans li hn) (by decide))
  ·rw[x6,List.take_succ,hn1,List.map_append]
   exact(hY.imp λ_ _ z=>z.same (ja n2.same)).append (.cons ⟨t,rfl,SqT.of (by rw[zb nt];exact n2.at_)⟩ .nil)
 ·rintro σ H1 ⟨_,s1,ys,hy,hY⟩
  rw[List.length_map,List.take_length] at hY
  exact k H1 ys s1 hy (hY.imp λ_ _ z=>z.same zp)
def prD (a:NP):PyData:=.tuple [.int a.1,.int a.2]
theorem xD.dp {a:NP}(h:xD K H v a):Dp K H v (prD a):=by
 obtain⟨q,rfl,hS⟩:=h
 exact .tup hS (.cons (.int _) (.cons (.int _) .nil))
theorem YD {a b:NP}:PyData.eqv (prD a) (prD b)=decide (a=b):=by
 obtain⟨a1,a2⟩:=a
 obtain⟨b1,b2⟩:=b
 unfold prD
 simp only[PyData.eqv,PyData.eqvAll,Prod.mk.injEq,Bool.and_true,Bool.decide_and]
 rfl
theorem yP (a:NP):SeqAt.shaped (prD a)=true:=by
 obtain⟨a1,a2⟩:=a
 rfl
theorem inPr {a:NP}(hx:xD K H x a)(hl:H l=some (.lst xs))(hA:z5 (xD K H) xs ps)(q:Q (.bl (decide (a∈ps))) H):XM K x (.ref l) H Q:=by
 refine⟨l,xs,prD a,ps.map prD,rfl,SqL.of hl,hx.dp,kN (λv b z=>z.dp) hA,yP a,λe he=>?_,?_⟩
 ·obtain⟨b,_,rfl⟩:=List.mem_map.mp he
  exact yP b
 ·have:((ps.map prD).any λe=>PyData.eqv e (prD a))=decide (a∈ps):=by
   rw[List.any_map]
   have e:((λe=>PyData.eqv e (prD a)) ∘ prD)=λb=>decide (b=a):=funext λb=>YD
   rw[e]
   by_cases h:a∈ps
   ·rw[decide_eq_true h,List.any_eq_true]
    exact⟨a,h,decide_eq_true rfl⟩
   ·rw[decide_eq_false h,List.any_eq_false]
    intro b hb z
    rw[of_decide_eq_true z] at hb
    exact h hb
  rw[this]
  exact q
theorem inJ {lS:Addr}{zs:List V}{as:List NP}(hl:H l=some (.lst zs))(hZ:z5 (xD K H) zs as)(hS:H lS=some (.lst xs))(hX:z5 (xD K H) xs ps)(hn:as.length<1000)(kp:H p=none)
  (k:∀ H',qq H H'->H' p=some (.lst ((as.map λa=>decide (a∈ps)).map V.bl))->Q (.ref p) H'):vH (Itl K l) (xH 0) Z9 (tOp (XM K) (vG 0) (vG 1)) p [u,some (.ref lS)] H Q:=by
 refine jO zs (λi σ H'=>(∃ u,σ=[u,some (.ref lS)])/\qq H H'/\H' p=some (.lst (((as.take i).map λa=>decide (a∈ps)).map V.bl))) ⟨⟨_,rfl⟩,qq.new kp,qg⟩ (λi σ H' _ h=>SqL.of (h.2.1 _ _ hl)) ?_ ?_
 ·rintro i x σ H1 hi ⟨⟨u,rfl⟩,s1,hy⟩
  obtain⟨a,ha,hP⟩:=hZ.get hi
  have li:=(List.getElem?_eq_some_iff.mp ha).1
  try walk_at "rd"
  refine inPr (hP.same s1) (s1 _ _ hS) (hX.imp λ_ _ z=>z.same s1) ⟨_,hy,?_,⟨_,rfl⟩,jv s1 kp,?_⟩
  ·rw[List.length_map,List.length_map,List.length_take]
   exact Nat.lt_of_le_of_lt (Nat.min_le_left _ _) (Nat.lt_trans (by omega:i<1000) (by decide))
  ·rw[qg,List.take_succ,ha,List.map_append,List.map_append]
   rfl
 ·rintro σ H1 ⟨_,s1,hy⟩
  rw[hZ.1,List.take_length] at hy
  exact k H1 s1 hy
theorem Ya {pr pc:Addr}{vr vc:List V}{j pl:Int}(hl:H l=some (.lst xs))(hA:z5 (xD K H) xs ps)(hn:ps.length<100000)(kp:H p=none)(hr:SqT K H pr vr)(hc:SqT K H pc vc)(hjr:atI vr j=some (.int n))(hjc:atI vc j=some (.int pl))
  (k:∀ H' ys,qq H H'->H' p=some (.lst ys)->z5 (xD K H) ys (ps.filter λa=>!decide (a.1=n) && !decide (a.2=pl))->Q (.ref p) H'):
  vH (Itl K l) (xH 0) (q0a (J3 (tOp rNe (tOp (yK K) (vG 0) (tC (.int 0))) (tOp (yK K) (vG 1) (vG 2)))) (J3 (tOp rNe (tOp (yK K) (vG 0) (tC (.int 1))) (tOp (yK K) (vG 3) (vG 2))))) (vG 0) p [u,some (.ref pr),some (.int j),some (.ref pc)] H Q:=by
 refine Wp (f:=λa=>!decide (a.1=n) && !decide (a.2=pl)) (Rr:=xD K H) hl hA hn kp ?_ (λx a H' Qv s hx qv=>qv x hx) k
 rintro x a H' Qb s ⟨qx,rfl,hx⟩ qb
 try walk_at "rd"
 refine qi (s.seqT hx) rfl (qi (s.seqT hr) hjr ?_)
 try walk_at "rd"
 by_cases e:a.1=n
 ·rw[decide_eq_true e] at qb
  exact vq (show(!eqD (.int a.1) (.int n))=false from by show(!decide (a.1=n))=false;rw[decide_eq_true e];rfl) qb
 ·rw[decide_eq_false e] at qb
  refine kW (show(!eqD (.int a.1) (.int n))=true from by show(!decide (a.1=n))=true;rw[decide_eq_false e];rfl) ?_
  refine qi (s.seqT hx) rfl (qi (s.seqT hc) hjc ?_)
  try walk_at "rd"
  exact qb
theorem W1 {S:Addr}{as bs:List Int}(z:ZL K H0 H S (as.map V.int) (bs.map V.int) (min (as.map V.int).length (bs.map V.int).length)):∃ zs,H S=some (.lst zs)/\z5 (xD K H) zs (List.zip as bs):=by
 obtain⟨ps,hS,hl,hp⟩:=z.at_
 refine⟨_,hS,?_,λi x a hx ha=>?_⟩
 ·rw[List.length_map,hl,List.length_zip,List.length_map,List.length_map]
 ·rw[List.getElem?_map] at hx
  obtain⟨q,hq,rfl⟩:=Option.map_eq_some_iff.mp hx
  obtain⟨_,x,y,h1,h2,h3⟩:=hp i q hq
  obtain⟨e1,e2⟩:=List.getElem?_zip_eq_some.mp ha
  rw[List.getElem?_map,e1] at h1
  rw[List.getElem?_map,e2] at h2
  cases h1;cases h2
  exact⟨q,rfl,SqT.of h3⟩
end
def Row.kd:Row->String
 |.dd (.set _ _)=>"set"
 |.dd (.input _ _)=>"input"
 |.dd (.op _ _ _ _)=>"op"
 |.dd (.tell _)=>"tell"
 |.dd (.move _ _)=>"move"
 |.ee (.go _)=>"go"
 |.ee (.iff _ _ _)=>"if"
 |.ee .fin=>"end"
theorem vs_kd (r:Row):atI r.vs 0=some (.str r.kd):=by
 cases r with
 |dd d=>cases d <;> rfl
 |ee e=>cases e <;> rfl
theorem YU (h:r.isMove=false):¬ r.kd="move":=by
 cases r with
 |dd d=>cases d <;> first|(simp only[Row.kd];decide)|cases h
 |ee e=>cases e <;> (simp only[Row.kd];decide)
theorem KS {as:List NP}(r:kr ps h):(as.all λa=>decide (a∈ps))=as.all λa=>decide (h a.2=some a.1):=by
 have e:(λa:NP=>decide (a∈ps))=λa=>decide (h a.2=some a.1):=funext λa=>decide_eq_decide.mpr (r.mem a.1 a.2)
 rw[e]
theorem JY {v k:Int}(h:r.bareVs=(Row.dd (.set v k)).bareVs):∃ v',r=.dd (.set v' k):=by
 cases r with
 |dd d=>cases d <;> simp[Row.bareVs,jT] at h ⊢ <;> exact h
 |ee e=>cases e <;> simp[Row.bareVs,jT] at h
theorem Q0 {v k:Int}(h:r.bareVs=(Row.dd (.input v k)).bareVs):∃ v',r=.dd (.input v' k):=by
 cases r with
 |dd d=>cases d <;> simp[Row.bareVs,jT] at h ⊢ <;> exact h
 |ee e=>cases e <;> simp[Row.bareVs,jT] at h
theorem K5 {w:Wd}{v x y:Int}(h:r.bareVs=(Row.dd (.op w v x y)).bareVs):∃ w' v' x' y',r=.dd (.op w' v' x' y'):=by
 cases r with
 |dd d=>cases d <;> simp[Row.bareVs,jT] at h ⊢
 |ee e=>cases e <;> simp[Row.bareVs,jT] at h
theorem Qu {c:Row}(h:r.bareVs=c.bareVs)(hc:c.gv=[])(rm:r.isMove=false):r.gv=[]:=by
 cases r with
 |ee e=>rfl
 |dd d=>
  cases d with
  |tell x=>rfl
  |move x y=>cases rm
  |set v k=>
   obtain⟨v',rfl⟩:=JY h.symm
   cases hc
  |input v k=>
   obtain⟨v',rfl⟩:=Q0 h.symm
   cases hc
  |op w v x y=>
   obtain⟨w',v',x',y',rfl⟩:=K5 h.symm
   cases hc
theorem xL {ps:List Int}:zX [] ps h=h:=by cases ps <;> rfl
theorem WY:inV (.str "set") [.str "op",.str "set",.str "input"]=true:=by decide +kernel
theorem Va:inV (.str "input") [.str "op",.str "set",.str "input"]=true:=by decide +kernel
theorem in3_op:inV (.str "op") [.str "op",.str "set",.str "input"]=true:=by decide +kernel
theorem Wh:inV (.str "tell") [.str "op",.str "set",.str "input"]=false:=by decide +kernel
theorem in3_go:inV (.str "go") [.str "op",.str "set",.str "input"]=false:=by decide +kernel
theorem in3_if:inV (.str "if") [.str "op",.str "set",.str "input"]=false:=by decide +kernel
theorem Y4:inV (.str "end") [.str "op",.str "set",.str "input"]=false:=by decide +kernel
section
variable {P:Program}{w:World}{K:PySem.W.Frag}{mg:Str->Option Value}{base:Heap}
def like (x:RP):Prop:=∀ r,x.1=some r->r.bareVs=x.2.bareVs
def WK (K:PySem.W.Frag)(H:Hp)(v:V)(rs:List Row):Prop:=∃ l xs,v=.ref l/\H l=some (.lst xs)/\z5 (jp K H) xs rs
def YL (K:PySem.W.Frag):Sp:=λvs H Q _=>∃ l0 xs0 vd vc ps h rs cs,vs=[.ref l0,vd,vc]/\H l0=some (.lst xs0)/\z5 (xD K H) xs0 ps/\kr ps h/\WK K H vd rs/\WK K H vc cs/\rs.length<1000/\cs.length<1000/\y6 cs<=rs.length/\(∀ x∈sbs rs cs,KA x/\like x) /\
 ∀ t l xs ps' H',qq H H'->H' t=some (.tup [.ref l,.bl (qU (sbs rs cs) h)])->H l=none->H' l=some (.lst xs)->z5 (xD K H') xs ps'->kr ps' (zS (sbs rs cs) h)->Q (.ref t) H'
theorem Zd (T:Tx K w mg a):jA P w K mg base CX0 2 a._law_walk a.fd__law_walk ["_law_sure","_law_deeds","_law_code"] (YL K):=by
 refine T.F__law_walk.fn.okQ za (λvs H Q E h=>?_) (λcdv A outer s H vs Q E hr h=>?_)
 ·obtain⟨l0,xs0,vd,vc,ps,h,rs,cs,rfl,_⟩:=h
  rfl
 ·obtain⟨l0,xs0,vd,vc,ps0,h,rs,cs,rfl,hl0,hP0,R0,⟨ld,dxs,rfl,hld,hDA⟩,⟨lc,cxs,rfl,hlc,hCA⟩,nr,nc,hle,hok,Qn⟩:=h
  have hu65:=V8 hr
  have G__law_reads:=Q9 (P:=P) (w:=w) (base:=base) T
  refine⟨_,(qf (qy (i:=0) za.nd rfl (Or.inr rfl) (jx w9 (by rfl) T.list PyProof.Rows.boot_list (q5 (pv 0) qd)))
   (qf (qy (i:=3) za.nd rfl (Or.inl rfl) (jx w9 (by rfl) T.list PyProof.Rows.boot_list (q5 (pv 1) qd)))
   (qf (qy (i:=4) za.nd rfl (Or.inl rfl) kI)
   (qf (zU PassesOwn.never rfl (z7 (pv 2)) (qr (i:=5) za.nd rfl (Or.inr rfl))
    (qh (zf (qm jq (qz qu (pv 5) qa (λ_ _=>rfl)) qD (qC _)) (qf (jM (i:=6) za.nd rfl (Or.inl rfl) (N:=["_law_one","_law_deed_here"]) (osc:=(q8 z6)) (on:=["_law_sure","_law_deeds","_law_code","_law_rest","_law_good","_law_deed_here","_law_held","_law_own","_law_pairs","_law_spot"]) (cap:=[none,some 5]) ⟨rfl,rfl,by decide +kernel⟩ rfl (z7 (pv 0)) (λ_ _ _ _=>(qr (i:=0) (show List.Nodup (["_law_one","_law_deed_here"]:List Str) by decide +kernel) rfl (Or.inl rfl))) (λ_ _ _ _=>(xq (qm jq (qz (r:=yK K) qu (pv 0) qa (λ_ _=>rfl)) (qz (r:=yK K) qu (pv 1) qa (λ_ _=>rfl)) (qC _)))) (λ_ _ _ _=>(qz (r:=yK K) qu (pv 0) qa (λ_ _=>rfl))))
   (qh (qy (i:=0) za.nd rfl (Or.inr rfl) (qw zm (zT (N:=["_law_one","_law_deed_here"]) (osc:=(q8 z6)) (on:=["_law_sure","_law_deeds","_law_code","_law_rest","_law_good","_law_deed_here","_law_held","_law_own","_law_pairs","_law_spot"]) (cap:=[none,some 5]) ⟨rfl,rfl,by decide +kernel⟩ rfl (z7 (pv 0)) (λ_ _ _ _=>(qr (i:=0) (show List.Nodup (["_law_one","_law_deed_here"]:List Str) by decide +kernel) rfl (Or.inl rfl))) (λ_ _ _ _=>(xq (qm yA (qz (r:=yK K) qu (pv 0) qa (λ_ _=>rfl)) (qz (r:=yK K) qu (pv 1) qa (λ_ _=>rfl)) (qC _)))) (λ_ _ _ _=>(pv 0))) (zT (N:=["_law_name","_law_deed_here"]) (osc:=(q8 z6)) (on:=["_law_sure","_law_deeds","_law_code","_law_rest","_law_good","_law_deed_here","_law_held","_law_own","_law_pairs","_law_spot"]) (cap:=[none,some 5]) ⟨rfl,rfl,by decide +kernel⟩ rfl (z7 (pv 6)) (λ_ _ _ _=>(qr (i:=0) (show List.Nodup (["_law_name","_law_deed_here"]:List Str) by decide +kernel) rfl (Or.inl rfl))) (λ_ _ _ _=>jf) (λ_ _ _ _=>(qH (q5 (pv 0) (q5 (qz (r:=yK K) qu (pv 1) qa (λ_ _=>rfl)) qd))))))))) (qf (qy (i:=7) za.nd rfl (Or.inr rfl) (xr PySem.F.plainAttrs_list PySem.F.slot_list_pop PySem.F.type_list_pop JP (pv 3) (q5 qa qd)))
   (qf (qy (i:=8) za.nd rfl (Or.inl rfl) (vz rfl rfl T.zip rfl T.list (q5 (qo G__law_reads (hr.mono (by decide)) rfl T.F__law_reads.mg T.F__law_reads.fn.kp T.F__law_reads.b .nil qX (q5 (pv 7) qd)) (q5 (qo G__law_reads (hr.mono (by decide)) rfl T.F__law_reads.mg T.F__law_reads.fn.kp T.F__law_reads.b .nil qX (q5 (pv 5) qd)) qd))))
   (qf (qy (i:=4) za.nd rfl (Or.inl rfl) (QZ (pv 4) (ZJ (qP (Q6 rfl) (by rfl) T.all PyProof.Rows.boot_all (q5 (zT (N:=["_law_pair","_law_sure"]) (osc:=(q8 z6)) (on:=["_law_sure","_law_deeds","_law_code","_law_rest","_law_good","_law_deed_here","_law_held","_law_own","_law_pairs","_law_spot"]) (cap:=[none,some 0]) ⟨rfl,rfl,by decide +kernel⟩ rfl (z7 (pv 8)) (λ_ _ _ _=>(qr (i:=0) (show List.Nodup (["_law_pair","_law_sure"]:List Str) by decide +kernel) rfl (Or.inl rfl))) (λ_ _ _ _=>jf) (λ_ _ _ _=>(xY (r:=XM K) (Kz hu65) (pv 0) (pv 1) rfl))) qd)))))
   (qh (zf (qm y3 (qz qu (pv 5) qa (λ_ _=>rfl)) (qH (q5 qD (q5 qD (q5 qD qd)))) rfl) (qf (qy (i:=9) za.nd rfl (Or.inr rfl) (jI (qm jq (qz qu (pv 5) qa (λ_ _=>rfl)) qD (qC _)) qa qa))
   (qh (qy (i:=0) za.nd rfl (Or.inr rfl) (qw zm (zT (N:=["_law_one","_law_own","_law_spot","_law_deed_here"]) (osc:=(q8 z6)) (on:=["_law_sure","_law_deeds","_law_code","_law_rest","_law_good","_law_deed_here","_law_held","_law_own","_law_pairs","_law_spot"]) (cap:=[none,some 7,some 9,some 5]) ⟨rfl,rfl,by decide +kernel⟩ rfl (z7 (pv 0)) (λ_ _ _ _=>(qr (i:=0) (show List.Nodup (["_law_one","_law_own","_law_spot","_law_deed_here"]:List Str) by decide +kernel) rfl (Or.inl rfl))) (λ_ _ _ _=>(xq (PW.pt (vO (qm yA (qz (r:=yK K) qu (pv 0) qa (λ_ _=>rfl)) (qz (r:=yK K) qu (pv 1) (pv 2) (λ_ _=>rfl)) (qC _)) (xt (qm yA (qz (r:=yK K) qu (pv 0) qa (λ_ _=>rfl)) (qz (r:=yK K) qu (pv 3) (pv 2) (λ_ _=>rfl)) (qC _))))))) (λ_ _ _ _=>(pv 0))) (qO (q5 (qH (q5 (qz qu (pv 7) (pv 9) (λ_ _=>rfl)) (q5 (qz qu (pv 5) (pv 9) (λ_ _=>rfl)) qd))) qd)))))) qI))))))))
   (qh (qN (qH (q5 (pv 0) (q5 (pv 4) qd))))))))),?_⟩
  try walk_at "rd"
  refine⟨l0,xs0,rfl,.inl (SqL.of hl0),λl1 H1 n1=>?_⟩
  try walk_at "rd"
  refine⟨ld,dxs,rfl,.inl (SqL.of (n1.same _ _ hld)),λlr H2 n2=>?_⟩
  try walk_at "rd"
  have s02:=n1.same.trans n2.same
  have hlc2:=s02 _ _ hlc
  have klr:H lr=none:=n1.same.free n2.fr
  have nlc:lc≠lr:=qj (n1.same _ _ hlc) n2.fr
  have hDA2:z5 (jp K H2) dxs rs:=hDA.imp λ_ _ z=>z.same s02
  have hCA2:z5 (jp K H2) cxs cs:=hCA.imp λ_ _ z=>z.same s02
  refine⟨⟨_,SqL.of hlc2⟩,zz cxs (λi σ H'=>∃ n done J2 lS xs ps,(∃ a b c d e,σ=[some (.ref lS),some (.ref ld),some (.ref lc),some (.ref lr),some (.bl J2),a,b,c,d,e])/\UpD lr H2 H'/\H' lr=some (.lst (dxs.drop n))/\lS≠lr/\H lS=none/\H' lS=some (.lst xs)/\z5 (xD K H') xs ps/\kr ps (zS done h)/\J2=qU done h/\done++sbs (rs.drop n) (cs.drop i)=sbs rs cs/\n+y6 (cs.drop i)<=rs.length)
   ⟨0,[],true,l1,xs0,ps0,⟨_,_,_,_,_,rfl⟩,UpD.refl,n2.at_,qj n1.at_ n2.fr,n1.fr,n2.same _ _ n1.at_,hP0.imp λ_ _ z=>z.same s02,R0,rfl,rfl,by simpa using hle⟩ (λi σ H' _ z=>by obtain⟨n,done,J2,lS,xs,ps,_,u,_⟩:=z;exact SqL.of (u _ _ nlc hlc2)) ?_ ?_⟩
  ·rintro i x σ H3 hi ⟨n,done,J2,lS,xs,ps,⟨va,vb,vc,vd,ve,rfl⟩,u3,hlr3,nS,kS0,hS3,hP3,R3,hg,hE,hN⟩
   obtain⟨c,hc,hRx⟩:=hCA2.get hi
   have hRx3:=u3.rowL n2.at_ hRx
   rw[xw hc] at hE hN
   have lps:=R3.len
   obtain⟨pc,rfl,hC3⟩:=hRx3
   clear hRx
   cases hm:c.isMove with
   |true=>
    obtain⟨p,q,rfl⟩:=xb hm
    rw[wK hm] at hE
    rw[vD,if_pos hm,Nat.zero_add] at hN
    repeat (first|refine qi hC3 rfl ?_|walk_at "rd")
    have okp:0<=p/\p<60:=(hok (none,.dd (.move p q)) (by rw[<-hE];simp)).1
    refine⟨⟨_,SqL.of hS3⟩,λph kh=>Wp (f:=λa=>decide (a.2=q)) (Rr:=λy a=>y=.int a.1) hS3 hP3 (by omega) kh ?_ ?_ λH4 hs s4 hh4 hHs=>?_⟩
    ·rintro x a H' Qb s ⟨qx,rfl,hx⟩ qb
     try walk_at "rd"
     refine qi (s.seqT hx) rfl (qi (s.seqT hC3) rfl ?_)
     try walk_at "rd"
     exact qb
    ·rintro x a H' Qv s ⟨qx,rfl,hx⟩ qv
     try walk_at "rd"
     exact qi (s.seqT hx) rfl (qv _ rfl)
    try walk_at "rd"
    refine⟨⟨_,SqL.of (s4 _ _ hS3)⟩,λp5 k5=>Wp (f:=λa=>!decide (a.2=p)) (Rr:=xD K H4) (s4 _ _ hS3) (hP3.imp λ_ _ z=>z.same s4) (by omega) k5 ?_ ?_ λH5 xs5 s5 h5 hX5=>?_⟩
    ·rintro x a H' Qb s ⟨qx,rfl,hx⟩ qb
     try walk_at "rd"
     refine qi (s.seqT hx) rfl (qi ((s4.trans s).seqT hC3) rfl ?_)
     try walk_at "rd"
     exact qb
    ·rintro x a H' Qv s hx qv
     exact qv x hx
    have eh:=VG hHs
    rw[eh] at hh4
    try walk_at "rd"
    have s35:=s4.trans s5
    have lns:=List.length_filter_le (λa:NP=>decide (a.2=q)) ps
    have lns2:=List.length_filter_le (λa:NP=>!decide (a.2=p)) ps
    refine⟨⟨_,SqL.of (s5 _ _ hh4)⟩,λp6 k6=>pairJ (s5 _ _ hh4) (by rw[List.length_map];omega) k6 (s35.seqT hC3) rfl λH6 ys s6 h6 hY6=>?_⟩
    refine⟨p5,p6,xs5,ys,rfl,rfl,s6 _ _ h5,h6,?_,λlN H7 n7=>?_⟩
    ·rw[hX5.1,hY6.1,List.length_map,List.length_map]
     exact Nat.le_trans (show _<=200 by omega) (by decide)
    have s37:=(s35.trans s6).trans n7.same
    refine⟨n,done++[(none,.dd (.move p q))],J2,lN,xs5++ys,YZ p q ps,⟨_,_,_,_,_,rfl,rfl,rfl,rfl,rfl,rfl,rfl⟩,u3.trans (UpD.of s37),s37 _ _ hlr3,(qj ((s35.trans s6) _ _ hlr3) n7.fr).symm,((u3.same s02 klr).trans (s35.trans s6)).free n7.fr,n7.at_,?_,?_,?_,by rw[List.append_assoc];exact hE,hN⟩
    ·unfold YZ
     refine(hX5.imp λ_ _ z=>z.same ((s5.trans s6).trans n7.same)).append ?_
     rw[List.map_map] at hY6
     exact hY6.imp λ_ _ z=>z.same n7.same
    ·rw[zu]
     exact R3.move okp.1 okp.2
    ·rw[xc,<- hg]
     exact(Bool.and_true _).symm
   |false=>
    rw[vD,if_neg (by rw[hm];exact Bool.false_ne_true)] at hN
    have lt:n<rs.length:=by omega
    obtain⟨vr,hvr,hRr⟩:=hDA2.get' (List.getElem?_eq_getElem lt)
    have lt2:n<dxs.length:=by rw[hDA2.1];exact lt
    generalize er:rs[n]=r at hRr
    rw[xw (List.getElem?_eq_getElem lt),wL hm,er] at hE
    have hRr3:=u3.rowL n2.at_ hRr
    obtain⟨okx,lk⟩:=hok (some r,c) (by rw[<-hE];simp)
    have lk:=lk r rfl
    rw[xw hvr] at hlr3
    obtain⟨r',e',rm,okp,hTN,hRH⟩:=okx.bare hm
    cases e'
    try walk_at "rd"
    refine qi hC3 (vs_kd c) ?_
    try walk_at "rd"
    refine vq (decide_eq_false (YU hm)) ?_
    refine⟨.inl ⟨rfl,_,SqL.of hlr3⟩,lr,_,0,0,vr,rfl,rfl,hlr3,by decide,by decide,by simp[seqIndex?],rfl,?_⟩
    have u4:UpD lr H3 (upd H3 lr (.lst ((vr::dxs.drop (n+1)).eraseIdx 0))):=UpD.upd
    have e4:upd H3 lr (.lst ((vr::dxs.drop (n+1)).eraseIdx 0)) lr=some (.lst (dxs.drop (n+1))):=qg
    generalize upd H3 lr (.lst ((vr::dxs.drop (n+1)).eraseIdx 0))=H4 at u4 e4 ⊢
    have hRr4:=u4.rowL hlr3 hRr3
    have hC4:=u4.seqTL hlr3 hC3
    refine⟨vr,r,rfl,hRr4,rm,λta H5 s5 hta=>?_⟩
    try walk_at "rd"
    refine⟨_,c,rfl,⟨pc,rfl,s5.seqT hC4⟩,hm,λtb H6 s6 htb=>?_⟩
    try walk_at "rd"
    have lrd:r.rd.length<=2:=by
     cases r with
     |dd d=>cases d <;> simp[Row.rd,zQ.rd]
     |ee e=>cases e <;> simp[Row.rd,En.rd]
    refine⟨ta,tb,_,_,⟨rfl,rfl⟩,s6.seqT hta,htb,by rw[List.length_map];omega,λS H7 kS Z=>?_⟩
    have s7:qq H6 H7:=λb o e=>Z.same b o (qj e kS) e
    obtain⟨zs,hz7,hZ7⟩:=W1 Z
    have s47:=(s5.trans s6).trans s7
    have hS7:=s47 _ _ (u4 _ _ nS hS3)
    have hP7:z5 (xD K H7) xs ps:=hP3.imp λ_ _ z=>(u4.prL hlr3 z).same s47
    have hlr7:=s47 _ _ e4
    have u7:UpD lr H2 H7:=(u3.trans u4).trans (UpD.of s47)
    have hC7:=s47.seqT hC4
    obtain⟨pr,rfl,hR7⟩:=hRr4.same s47
    have hgT:J2=true->(((List.zip r.rd c.rd).map λa=>decide (a∈ps)).all id)=qU (done++[(some r,c)]) h:=λe=>by
     rw[xc,<- hg,e,hRH,List.all_map]
     exact KS R3
    have hgF:J2=false->false=qU (done++[(some r,c)]) h:=λe=>by
     rw[xc,<- hg,e];rfl
    have hE':(done++[(some r,c)])++sbs (rs.drop (n+1)) (cs.drop (i+1))=sbs rs cs:=by rw[List.append_assoc];exact hE
    have hN':n+1+y6 (cs.drop (i+1))<=rs.length:=by omega
    clear hRr hRr3 hRr4 u4 e4 s5 s6 s7 Z kS htb hta hC4 hC3 hS3 hP3 hlr3 u3
    rcases Bool.eq_false_or_eq_true J2 with eg|eg
    all_goals first
     |(refine kW eg ?_;refine⟨⟨_,SqL.of hz7⟩,λp8 k8=>inJ hz7 hZ7 hS7 hP7 (by rw[List.length_zip];omega) k8 λH8 s8 h8=>⟨p8,_,rfl,SqL.of h8,?_⟩⟩;have hgg:=hgT eg;clear h8 k8)
     |(refine vq (by rw[eg]) ?_;obtain⟨H8,eH⟩:∃ H8,H8=H7:=⟨_,rfl⟩;have s8:qq H7 H8:=(by rw[eH];exact λ_ _ e=>e);rw[<-eH];have hgg:=hgF eg;clear eH)
    all_goals refine qi (s8.seqT hC7) (vs_kd c) ⟨by decide,λpq H9 n9=>⟨pq,_,rfl,.inr (SqT.of n9.at_),rfl,rfl,?_⟩⟩
    all_goals dsimp only[jH]
    all_goals have s9:=s8.trans n9.same
    all_goals cases c with
    |dd d=>
     cases d with
     |set v k=>
      obtain⟨v',rfl⟩:=JY lk
      refine kW WY (qi (s9.seqT hC7) rfl ?_)
      try walk_at "rd"
      have okv:=okp v (List.mem_singleton.mpr rfl)
      refine⟨⟨_,SqL.of (s9 _ _ hS7)⟩,λpa ka=>Ya (s9 _ _ hS7) (hP7.imp λ_ _ z=>z.same s9) (by omega) ka (s9.seqT hR7) (s9.seqT hC7) rfl rfl λHa ys sa ha hYa=>?_⟩
      have s7a:=s9.trans sa
      refine qi (s7a.seqT hR7) rfl (qi (s7a.seqT hC7) rfl ⟨by decide,λpt Hb nb=>⟨by decide,λpu Hc nc=>?_⟩⟩)
      have sac:=nb.same.trans nc.same
      refine⟨pa,pu,ys,_,rfl,rfl,sac _ _ ha,nc.at_,?_,λlN Hd nd=>?_⟩
      ·have:=List.length_filter_le (λa:NP=>!decide (a.1=v') && !decide (a.2=v)) ps
       rw[hYa.1]
       exact Nat.le_trans (show _+1<=200 by omega) (by decide)
      have s7c:=s7a.trans sac
      have s7d:=s7c.trans nd.same
      refine⟨n+1,_,_,lN,_,YQ v' v ps,⟨_,_,_,_,_,rfl,rfl,rfl,rfl,rfl,rfl,rfl⟩,u7.trans (UpD.of s7d),s7d _ _ hlr7,(qj (s7c _ _ hlr7) nd.fr).symm,((u7.same s02 klr).trans s7c).free nd.fr,nd.at_,?_,?_,hgg,hE',hN'⟩
      ·exact(hYa.imp λ_ _ z=>z.same ((sa.trans sac).trans nd.same)).append (.cons ⟨pt,rfl,SqT.of (nd.same _ _ (nc.same _ _ nb.at_))⟩ .nil)
      ·rw[zu,hTN]
       exact R3.give okv.1 okv.2
     |input v k=>
      obtain⟨v',rfl⟩:=Q0 lk
      refine kW Va (qi (s9.seqT hC7) rfl ?_)
      try walk_at "rd"
      have okv:=okp v (List.mem_singleton.mpr rfl)
      refine⟨⟨_,SqL.of (s9 _ _ hS7)⟩,λpa ka=>Ya (s9 _ _ hS7) (hP7.imp λ_ _ z=>z.same s9) (by omega) ka (s9.seqT hR7) (s9.seqT hC7) rfl rfl λHa ys sa ha hYa=>?_⟩
      have s7a:=s9.trans sa
      refine qi (s7a.seqT hR7) rfl (qi (s7a.seqT hC7) rfl ⟨by decide,λpt Hb nb=>⟨by decide,λpu Hc nc=>?_⟩⟩)
      have sac:=nb.same.trans nc.same
      refine⟨pa,pu,ys,_,rfl,rfl,sac _ _ ha,nc.at_,?_,λlN Hd nd=>?_⟩
      ·have:=List.length_filter_le (λa:NP=>!decide (a.1=v') && !decide (a.2=v)) ps
       rw[hYa.1]
       exact Nat.le_trans (show _+1<=200 by omega) (by decide)
      have s7c:=s7a.trans sac
      have s7d:=s7c.trans nd.same
      refine⟨n+1,_,_,lN,_,YQ v' v ps,⟨_,_,_,_,_,rfl,rfl,rfl,rfl,rfl,rfl,rfl⟩,u7.trans (UpD.of s7d),s7d _ _ hlr7,(qj (s7c _ _ hlr7) nd.fr).symm,((u7.same s02 klr).trans s7c).free nd.fr,nd.at_,?_,?_,hgg,hE',hN'⟩
      ·exact(hYa.imp λ_ _ z=>z.same ((sa.trans sac).trans nd.same)).append (.cons ⟨pt,rfl,SqT.of (nd.same _ _ (nc.same _ _ nb.at_))⟩ .nil)
      ·rw[zu,hTN]
       exact R3.give okv.1 okv.2
     |op w v x y=>
      obtain⟨w',v',x',y',rfl⟩:=K5 lk
      refine kW in3_op (qi (s9.seqT hC7) rfl ?_)
      try walk_at "rd"
      have okv:=okp v (List.mem_singleton.mpr rfl)
      refine⟨⟨_,SqL.of (s9 _ _ hS7)⟩,λpa ka=>Ya (s9 _ _ hS7) (hP7.imp λ_ _ z=>z.same s9) (by omega) ka (s9.seqT hR7) (s9.seqT hC7) rfl rfl λHa ys sa ha hYa=>?_⟩
      have s7a:=s9.trans sa
      refine qi (s7a.seqT hR7) rfl (qi (s7a.seqT hC7) rfl ⟨by decide,λpt Hb nb=>⟨by decide,λpu Hc nc=>?_⟩⟩)
      have sac:=nb.same.trans nc.same
      refine⟨pa,pu,ys,_,rfl,rfl,sac _ _ ha,nc.at_,?_,λlN Hd nd=>?_⟩
      ·have:=List.length_filter_le (λa:NP=>!decide (a.1=v') && !decide (a.2=v)) ps
       rw[hYa.1]
       exact Nat.le_trans (show _+1<=200 by omega) (by decide)
      have s7c:=s7a.trans sac
      have s7d:=s7c.trans nd.same
      refine⟨n+1,_,_,lN,_,YQ v' v ps,⟨_,_,_,_,_,rfl,rfl,rfl,rfl,rfl,rfl,rfl⟩,u7.trans (UpD.of s7d),s7d _ _ hlr7,(qj (s7c _ _ hlr7) nd.fr).symm,((u7.same s02 klr).trans s7c).free nd.fr,nd.at_,?_,?_,hgg,hE',hN'⟩
      ·exact(hYa.imp λ_ _ z=>z.same ((sa.trans sac).trans nd.same)).append (.cons ⟨pt,rfl,SqT.of (nd.same _ _ (nc.same _ _ nb.at_))⟩ .nil)
      ·rw[zu,hTN]
       exact R3.give okv.1 okv.2
     |tell x=>
      refine vq Wh ?_
      refine⟨n+1,_,_,lS,xs,ps,⟨_,_,_,_,_,rfl,rfl,rfl,rfl,rfl,rfl,rfl⟩,u7.trans (UpD.of s9),s9 _ _ hlr7,nS,kS0,s9 _ _ hS7,hP7.imp λ_ _ z=>z.same s9,?_,hgg,hE',hN'⟩
      rw[zu,hTN,Qu lk rfl rm,xL]
      exact R3
     |move x y=>cases hm
    |ee e=>
     cases e with
     |go t=>
      refine vq in3_go ?_
      refine⟨n+1,_,_,lS,xs,ps,⟨_,_,_,_,_,rfl,rfl,rfl,rfl,rfl,rfl,rfl⟩,u7.trans (UpD.of s9),s9 _ _ hlr7,nS,kS0,s9 _ _ hS7,hP7.imp λ_ _ z=>z.same s9,?_,hgg,hE',hN'⟩
      rw[zu,hTN,Qu lk rfl rm,xL]
      exact R3
     |iff x t u=>
      refine vq in3_if ?_
      refine⟨n+1,_,_,lS,xs,ps,⟨_,_,_,_,_,rfl,rfl,rfl,rfl,rfl,rfl,rfl⟩,u7.trans (UpD.of s9),s9 _ _ hlr7,nS,kS0,s9 _ _ hS7,hP7.imp λ_ _ z=>z.same s9,?_,hgg,hE',hN'⟩
      rw[zu,hTN,Qu lk rfl rm,xL]
      exact R3
     |fin=>
      refine vq Y4 ?_
      refine⟨n+1,_,_,lS,xs,ps,⟨_,_,_,_,_,rfl,rfl,rfl,rfl,rfl,rfl,rfl⟩,u7.trans (UpD.of s9),s9 _ _ hlr7,nS,kS0,s9 _ _ hS7,hP7.imp λ_ _ z=>z.same s9,?_,hgg,hE',hN'⟩
      rw[zu,hTN,Qu lk rfl rm,xL]
      exact R3
  ·rintro σ H3 ⟨n,done,J2,lS,xs,ps,⟨va,vb,vc,vd,ve,rfl⟩,u3,hlr3,nS,kS0,hS3,hP3,R3,hg,hE,hN⟩
   rw[hCA2.1,List.drop_length] at hE
   have e0:sbs (rs.drop n) []=[]:=by cases rs.drop n <;> rfl
   rw[e0,List.append_nil] at hE
   subst hE hg
   try walk_at "rd"
   refine⟨by decide,λt H4 n4=>?_⟩
   exact Qn t lS xs ps H4 ((u3.same s02 klr).trans n4.same) n4.at_ kS0 (n4.same _ _ hS3) (hP3.imp λ_ _ z=>z.same n4.same) R3
end
def inR (h:HSto):Prop:=∀ p n,h p=some n->(0<=n/\n<24)/\(0<=p/\p<30)
def okR:RP->Prop
 |(_,.dd (.move p _))=>0<=p/\p<30
 |(some r,c)=>(∀ n∈r.gv,0<=n/\n<24)/\∀ p∈c.gv,0<=p/\p<30
 |(none,_)=>True
theorem vY:∀ {ns ps:List Int} {h:HSto},(∀ n∈ns,0<=n/\n<24)->(∀ p∈ps,0<=p/\p<30)->inR h->inR (zX ns ps h)
 |[],_,_,_,_,r=>by unfold zX;exact r
 |_::_,[],_,_,_,r=>by unfold zX;exact r
 |n::ns,p::ps,h,hn,hp,r=>by
  unfold zX
  refine vY (λx hx=>hn x (by simp[hx])) (λx hx=>hp x (by simp[hx])) λx m e=>?_
  unfold jo at e
  split at e
  ·rename_i c
   cases e
   rw[c]
   exact⟨hn n (by simp),hp p (by simp)⟩
  ·split at e
   ·cases e
   ·exact r x m e
theorem ZA {x:RP}(ok:okR x)(r:inR h):inR (jt x h):=by
 obtain⟨o,c⟩:=x
 have mv:∀ p q,0<=p/\p<30->inR (jB p q h):=λp q hp y m e=>by
  unfold jB at e
  split at e
  ·rename_i c
   rw[c]
   exact⟨(r q m e).1,hp⟩
  ·exact r y m e
 cases o with
 |none=>
  cases c with
  |dd d=>cases d <;> first|exact mv _ _ ok|exact r
  |ee e=>exact r
 |some r0=>
  cases c with
  |dd d=>cases d <;> first|exact mv _ _ ok|exact vY ok.1 ok.2 r
  |ee e=>exact vY ok.1 ok.2 r
theorem Jr {ps:List RP}:∀ {h:HSto},(∀ x∈ps,okR x)->inR h->inR (zS ps h):=by
 induction ps with
 |nil=>intro h _ r;exact r
 |cons x l ih=>
  intro h ok r
  exact ih (λy hy=>ok y (by simp[hy])) (ZA (ok x (by simp)) r)
def evR (n:Nat):List NP:=(List.range 30).map λp:Nat=>((n:Int),(p:Int))
def evN (k:Nat):List NP:=(List.range k).flatMap evR
theorem QJ (k:Nat):evN (k+1)=evN k++evR k:=by
 unfold evN
 rw[List.range_succ,List.flatMap_append]
 simp
theorem Jm {n:Nat}{a:NP}:a∈evR n ↔ a.1=n/\(0<=a.2/\a.2<30):=by
 obtain⟨x,y⟩:=a
 unfold evR
 rw[List.mem_map]
 refine⟨λ⟨p,hp,e⟩=>?_,λ⟨h1,h2,h3⟩=>⟨y.toNat,List.mem_range.mpr (by dsimp only at h3;omega),?_⟩⟩
 ·cases e
  have:=List.mem_range.mp hp
  exact⟨rfl,by show(0:Int)<=(p:Int);omega,by show(p:Int)<30;omega⟩
 ·dsimp only at h1 h2
  rw[Int.toNat_of_nonneg h2,h1]
theorem XX {a:NP}:a∈evN k ↔ (0<=a.1/\a.1<k)/\(0<=a.2/\a.2<30):=by
 unfold evN
 rw[List.mem_flatMap]
 refine⟨λ⟨n,hn,h⟩=>?_,λ⟨⟨h1,h2⟩,h3⟩=>⟨a.1.toNat,List.mem_range.mpr (by omega),Jm.mpr ⟨(Int.toNat_of_nonneg h1).symm,h3⟩⟩⟩
 have:=List.mem_range.mp hn
 obtain⟨e,h⟩:=Jm.mp h
 exact⟨⟨by omega,by omega⟩,h⟩
theorem Zz:∀ k:Nat,(evN k).Nodup
 |0=>List.nodup_nil
 |k+1=>by
  rw[QJ,List.nodup_append]
  refine⟨Zz k,?_,λa ha b hb e=>?_⟩
  ·unfold evR
   unfold List.Nodup
   rw[List.pairwise_map]
   refine(List.nodup_range (n:=30)).imp λ{a b} h e=>h ?_
   have e2:(a:Int)=(b:Int):=congrArg Prod.snd e
   omega
  ·have h1:=(XX.mp ha).1.2
   have h2:=(Jm.mp hb).1
   rw[e] at h1
   omega
theorem J5:∀ k:Nat,(evN k).length=30*k
 |0=>rfl
 |k+1=>by
  rw[QJ,List.length_append,J5 k]
  unfold evR
  rw[List.length_map,List.length_range]
  omega
theorem kr.every (r:kr ps e)(i:inR e):kr ((evN 24).filter λa=>decide (a∈ps)) e:=by
 refine⟨?_,λn p=>?_,λx hx=>r.dom x (of_decide_eq_true (List.mem_filter.mp hx).2)⟩
 ·unfold List.Nodup
  rw[List.pairwise_map]
  refine List.Pairwise.imp_of_mem (λ{a b} ha hb h e2=>h ?_) (List.Nodup.sublist List.filter_sublist (Zz 24))
  have h1:=(r.mem a.1 a.2).mp (of_decide_eq_true (List.mem_filter.mp ha).2)
  have h2:=(r.mem b.1 b.2).mp (of_decide_eq_true (List.mem_filter.mp hb).2)
  rw[e2,h2] at h1
  cases a;cases b
  dsimp only at e2 h1
  rw[e2,Option.some.inj h1]
 ·rw[List.mem_filter]
  refine⟨λz=>(r.mem n p).mp (of_decide_eq_true z.2),λz=>⟨XX.mpr ?_,decide_eq_true ((r.mem n p).mpr z)⟩⟩
  obtain⟨h1,h2⟩:=i p n z
  exact⟨⟨h1.1,by have:=h1.2;omega⟩,h2⟩
theorem kr.both {qs:List NP}(q:kr qs g)(r:kr ps e):kr (qs.filter λa=>decide (a∈ps)) (xx g e):=by
 refine⟨List.Nodup.sublist (List.Sublist.map _ List.filter_sublist) q.nd,λn p=>?_,λx hx=>q.dom x (List.mem_filter.mp hx).1⟩
 rw[List.mem_filter,q.mem,decide_eq_true_iff,r.mem]
 unfold xx
 refine⟨λ⟨h1,h2⟩=>by rw[h1,h2,if_pos rfl],λz=>?_⟩
 split at z
 ·rename_i c
  exact⟨z,by rw[<-c];exact z⟩
 ·cases z
theorem kr.less {qs:List NP}(q:kr qs g)(r:kr ps e):(qs.filter λa=>decide (a∈ps)).length<qs.length ↔ ¬ xx g e=g:=by
 have le:=List.length_filter_le (λa:NP=>decide (a∈ps)) qs
 refine⟨λh z=>?_,λh=>?_⟩
 ·have:qs.filter (λa=>decide (a∈ps))=qs:=List.filter_eq_self.mpr λa ha=>by
   have:=(q.mem a.1 a.2).mp ha
   rw[<-z] at this
   exact decide_eq_true ((r.mem a.1 a.2).mpr (xG _ _ this))
  rw[this] at h
  omega
 ·rcases Nat.lt_or_ge (qs.filter λa=>decide (a∈ps)).length qs.length with h1|h1
  ·exact h1
  ·exfalso
   have e1:qs.filter (λa=>decide (a∈ps))=qs:=List.filter_sublist.eq_of_length (Nat.le_antisymm le h1)
   refine h (leH.anti xB λp n z=>?_)
   have hm:=(q.mem n p).mpr z
   rw[<-e1] at hm
   have:=(r.mem n p).mp (of_decide_eq_true (List.mem_filter.mp hm).2)
   unfold xx
   rw[z,this,if_pos rfl]
theorem Wu (h:inR g):inR (xx g e):=λp n z=>h p n (xB _ _ z)
theorem WL.pop0 {N:Int}{ws:Int->List Int}{E:Int->HSto->HSto}{todo:List Int}(W:WL N ws E B (n::todo) (λ_=>False)):WL N ws E B todo (λm=>m=n):=by
 refine⟨W.z,W.dom,λm h e=>?_,λm hm=>W.td m (List.mem_cons_of_mem _ hm),W.best⟩
 rcases W.cl m h e with c|c|c
 ·rcases List.mem_cons.mp c with c|c
  ·exact .inr (.inl c)
  ·exact .inl c
 ·cases c
 ·exact .inr (.inr c)
theorem Q7:∀ {cs rs:List Row},rs.map Row.bareVs=(JX cs).map Row.bareVs->∀ x∈sbs rs cs,like x
 |[],rs,_,x,h=>by cases rs <;> cases h
 |c::cs,rs,e,x,h=>by
  cases hm:c.isMove with
  |true=>
   rw[wK hm] at h
   have e2:JX (c::cs)=JX cs:=by unfold JX;rw[List.filter_cons,hm];rfl
   rw[e2] at e
   rcases List.mem_cons.mp h with z|h
   ·subst z;intro r hr;cases hr
   ·exact Q7 e x h
  |false=>
   have e2:JX (c::cs)=c::JX cs:=by unfold JX;rw[List.filter_cons,hm];rfl
   rw[e2] at e
   cases rs with
   |nil=>cases e
   |cons r rs=>
    rw[wL hm] at h
    simp only[List.map_cons,List.cons.injEq] at e
    rcases List.mem_cons.mp h with z|h
    ·subst z;intro r' hr;cases hr;exact e.1
    ·exact Q7 e.2 x h
def lowM:zQ->Prop
 |.move p q=>p<30/\q<30
 |_=>True
theorem gv_ok (h:okD n d)(hm:d.isMove=false):∀ p∈d.gv,0<=p/\p<n:=λp hp=>by
 cases d with
 |set v k=>have:=List.mem_singleton.mp hp;subst this;exact h
 |input v k=>have:=List.mem_singleton.mp hp;subst this;exact h.1
 |op w v x y=>have:=List.mem_singleton.mp hp;subst this;exact h.2.1
 |tell x=>cases hp
 |move x y=>cases hm
theorem WG {m:Nat}(h:∀ d∈b.ds,d.isMove=false->okD n d)(hr:r∈b.rows)(hm:r.isMove=false):∀ p∈r.gv,0<=p/\p<n:=by
 cases r with
 |ee e=>intro p hp;cases hp
 |dd d=>
  unfold Blk.rows at hr
  rcases List.mem_append.mp hr with z|z
  ·obtain⟨d',hd,e⟩:=List.mem_map.mp z
   cases e
   exact gv_ok (h d hd hm) hm
  ·cases List.mem_singleton.mp z
theorem Vh {cs:List Blk}(hp:okP bs)(hn:jX n)(hc:v3 n cs)(low:∀ b∈cs,∀ d∈b.ds,lowM d):∀ ps∈zc bs cs,∀ x∈ps,okR x:=λps hps x hx=>by
 have okx:=Q8 hp hn hc ps hps x hx
 obtain⟨i,hi,e⟩:=List.mem_iff_getElem.mp hps
 unfold zc at hi e
 rw[List.getElem_zipWith] at e
 rw[List.length_zipWith] at hi
 have hb:bs[i]'(by omega)∈bs:=List.getElem_mem _
 have hcb:cs[i]'(by omega)∈cs:=List.getElem_mem _
 subst e
 obtain⟨o,c⟩:=x
 rcases Qr hx with⟨h1,h2,h3⟩|⟨h1,h2,r,h3,h4⟩
 ·obtain⟨p,q,rfl⟩:=xb h2
  dsimp only at h3 h1
  subst h1
  have:zQ.move p q∈(cs[i]'(by omega)).ds:=by
   unfold Blk.rows at h3
   rcases List.mem_append.mp h3 with z|z
   ·obtain⟨d,hd,e⟩:=List.mem_map.mp z
    cases e
    exact hd
   ·cases List.mem_singleton.mp z
  exact⟨okx.1,(low _ hcb _ this).1⟩
 ·dsimp only at h4 h1 h2
  subst h4
  have g1:∀ n∈r.gv,0<=n/\n<24:=WG (m:=0) (λd hd _=>((hp.2 _ hb).1 d hd).2) h3 (xJ hp hb r h3)
  have g2:∀ p∈c.gv,0<=p/\p<30:=λp hpp=>by
   have:=WG (m:=0) (n:=n) (λd hd hm=>((hc.2.2 _ (List.mem_map.mpr ⟨_,hcb,rfl⟩)).1 d (List.mem_filter.mpr ⟨hd,by rw[hm];rfl⟩)).2) h2 h1 p hpp
   have h16:=hn.2
   omega
  cases c with
  |ee e=>exact⟨g1,g2⟩
  |dd d=>cases d <;> first|exact⟨g1,g2⟩|cases h1
section
variable {P:Program}{w:World}{K:PySem.W.Frag}{mg:Str->Option Value}{base:Heap}
structure SB (K:PySem.W.Frag)(td:Addr)(H0 H:Hp)(kvs:List (Key×V))(B:Bg):Prop where
 non:∀ k:Int,B k=none->jG kvs (Sum.inl k:Key)=none
 val:∀ (k:Int) h,B k=some h->inR h/\∃ l xs ps,jG kvs (Sum.inl k:Key)=some (.ref l)/\H l=some (.lst xs)/\z5 (xD K H) xs ps/\kr ps h/\H0 l=none/\l≠td
 key:∀ p∈kvs,∃ k:Int,p.1=Sum.inl k/\0<=k/\k<60
 nd:(kvs.map (·.1)).Nodup
def Up2 (pb td:Addr)(H H':Hp):Prop:=∀ b o,b≠pb->b≠td->H b=some o->H' b=some o
theorem Up2.of (s:qq H H'):Up2 pb td H H':=λb o _ _ e=>s b o e
theorem Up2.pr {a:NP}(u:Up2 pb td H H')(hp:H pb=some (.dK kvs))(ht:H td=some (.lst ys))(h:xD K H v a):xD K H' v a:=by
 obtain⟨q,e,h⟩:=h
 refine⟨q,e,?_⟩
 rcases h with(h|⟨o,h⟩)|h
 ·exact .inl (.inl (u q _ (λe=>by rw[e,hp] at h;cases h) (λe=>by rw[e,ht] at h;cases h) h))
 ·exact .inl (.inr ⟨o,u q _ (λe=>by rw[e,hp] at h;cases h) (λe=>by rw[e,ht] at h;cases h) h⟩)
 ·exact .inr h
theorem SB.mono {k':List (Key×V)}{t':List V}(b:SB K td H0 H kvs B)(hp:H pb=some (.dK k'))(ht:H td=some (.lst t'))(u:Up2 pb td H H'):SB K td H0 H' kvs B:=by
 refine⟨b.non,λk h e=>?_,b.key,b.nd⟩
 obtain⟨h0,l,xs,ps,h1,h2,h3,h4,h5,h6⟩:=b.val k h e
 exact⟨h0,l,xs,ps,h1,u _ _ (λe=>by rw[e,hp] at h2;cases h2) h6 h2,h3.imp λ_ _ z=>u.pr hp ht z,h4,h5,h6⟩
theorem SB.put {t:Int}(b:SB K td H0 H kvs B)(t0:0<=t)(t1:t<60)(i:inR h)(hl:H l=some (.lst xs))(hA:z5 (xD K H) xs ps)(r:kr ps h)(kl:H0 l=none)(nl:l≠td):
  SB K td H0 H (xT kvs (Sum.inl t) (.ref l)) (Qo B t h):=by
 refine⟨λk e=>?_,λk g e=>?_,λp hp=>?_,?_⟩
 ·by_cases c:k=t
  ·subst c;rw[xf] at e;cases e
  ·rw[jm c] at e
   rw[xk,if_neg λz=>c (Sum.inl.inj z)]
   exact b.non k e
 ·by_cases c:k=t
  ·subst c
   rw[xf] at e
   cases e
   exact⟨i,l,xs,ps,by rw[xk,if_pos rfl],hl,hA,r,kl,nl⟩
  ·rw[jm c] at e
   obtain⟨h0,l',xs',ps',h1,h2⟩:=b.val k g e
   exact⟨h0,l',xs',ps',by rw[xk,if_neg λz=>c (Sum.inl.inj z)];exact h1,h2⟩
 ·rcases vw hp with h|h
  ·exact b.key p h
  ·subst h;exact⟨t,rfl,t0,t1⟩
 ·cases e:jG kvs (Sum.inl t:Key) with
  |none=>exact QQ _ b.nd e
  |some u=>rw[jS e];exact b.nd
theorem SB.len (b:SB K td H0 H kvs B):kvs.length<=60:=by
 have bk:BK H0 H kvs (λ_=>none)->kvs.length<=60:=BK.len
 have:=vm (m:=(List.range 60).map λi:Nat=>(Sum.inl (i:Int):Key)) b.nd λa ha=>by
  obtain⟨p,hp,rfl⟩:=List.mem_map.mp ha
  obtain⟨k,hk,h0,h1⟩:=b.key p hp
  exact List.mem_map.mpr ⟨k.toNat,List.mem_range.mpr (by omega),by rw[hk,Int.toNat_of_nonneg h0]⟩
 simpa using this
theorem evJ (kp:H p=none)(k:∀ H' ys,qq H H'->H' p=some (.lst ys)->z5 (xD K H') ys (evR i)->Q (.ref p) H'):
  vH (Itr 0 (Int.toNat 30)) (xH 0) Z9 (VF (yE (vG 1) (yE (vG 0) WI))) p [u,some (.int (0+(i:Nat)))] H Q:=by
 have ee:(0:Int)+(i:Nat)=(i:Nat):=Int.zero_add _
 refine xF (λj σ H'=>(∃ u,σ=[u,some (.int (0+(i:Nat)))])/\qq H H'/\∃ ys,H' p=some (.lst ys)/\z5 (xD K (hide H' p)) ys ((List.range j).map λp:Nat=>((i:Int),(p:Int)))) ⟨⟨_,rfl⟩,qq.new kp,[],qg,.nil⟩ ?_ ?_
 ·rintro j σ H1 hj ⟨⟨u,rfl⟩,s1,ys,hy,hY⟩
  try walk_at "rd"
  refine⟨by decide,λt H2 n2=>?_⟩
  have nt:t≠p:=(qj hy n2.fr).symm
  refine⟨ys,n2.same _ _ hy,?_,⟨_,rfl⟩,jv (s1.trans n2.same) kp,_,qg,?_⟩
  ·rw[hY.1,List.length_map,List.length_range]
   exact Nat.lt_trans hj (by decide)
  ·rw[x6,List.range_succ,List.map_append]
   refine(hY.imp λ_ _ z=>z.same (ja n2.same)).append (.cons ⟨t,rfl,SqT.of ?_⟩ .nil)
   rw[zb nt,n2.at_,ee,Int.zero_add]
 ·rintro σ H1 ⟨_,s1,ys,hy,hY⟩
  exact k H1 ys s1 hy (hY.imp λ_ _ z=>z.same zp)
theorem sureJ {lS:Addr}{xS:List V}{psS:List NP}(hl:H l=some (.lst xs))(hA:z5 (xD K H) xs ps)(hn:ps.length<100000)(hS:H lS=some (.lst xS))(hX:z5 (xD K H) xS psS)(kp:H p=none)
  (k:∀ H' ys,qq H H'->H' p=some (.lst ys)->z5 (xD K H) ys (ps.filter λa=>decide (a∈psS))->Q (.ref p) H'):vH (Itl K l) (xH 0) (J3 (tOp (XM K) (vG 0) (vG 1))) (vG 0) p [u,some (.ref lS)] H Q:=by
 refine Wp (f:=λa=>decide (a∈psS)) (Rr:=xD K H) hl hA hn kp ?_ (λx a H' Qv s hx qv=>qv x hx) k
 intro x a H' Qb s hx qb
 try walk_at "rd"
 exact inPr (hx.same s) (s _ _ hS) (hX.imp λ_ _ z=>z.same s) qb
def sp_due (K:PySem.W.Frag):Sp:=λvs H Q _=>∃ v c n bs cs,vs=[v,c]/\jZ K H v bs/\jZ K H c cs/\okP bs/\jX n/\v3 n cs/\(∀ b∈cs,∀ d∈b.ds,lowM d)/\∀ H' r,qq H H'->(r=true ↔ Looks bs cs)->Q (.bl r) H'
theorem Jo (T:Tx K w mg a):jA P w K mg base CX0 4 a._law_due a.fd__law_due ["_law_blocks","_law_code"] (sp_due K):=by
 refine T.F__law_due.fn.okQ zg (λvs H Q E h=>?_) (λcdv A outer s H vs Q E hr h=>?_)
 ·obtain⟨v,c,n,bs,cs,rfl,_⟩:=h
  rfl
 ·obtain⟨v,c,n,bs,cs,rfl,hPv,hPc,okb,okn,okc,low,Qn⟩:=h
  have hu:=yF hr
  have hu65:=V8 hr
  have G__law_shape:=QS (P:=P) (w:=w) (base:=base) T
  have G__law_walk:=Zd (P:=P) (w:=w) (base:=base) T
  have nm:bs.map (λb=>b.bare.shape)=bs.map Blk.shape:=List.map_congr_left λb hb=>by
   have:b.bare.rows=b.rows:=by
    rw[ky]
    exact List.filter_eq_self.mpr λr hr=>by rw[xJ okb hb r hr];rfl
   unfold Blk.shape
   rw[this]
  refine⟨_,(qf (zf (qm (Yo hr.units) (qo G__law_shape (hr.mono (by decide)) rfl T.F__law_shape.mg T.F__law_shape.fn.kp T.F__law_shape.b .nil qX (q5 (pv 0) qd)) (qo G__law_shape (hr.mono (by decide)) rfl T.F__law_shape.mg T.F__law_shape.fn.kp T.F__law_shape.b .nil qX (q5 (pv 1) qd)) (qC _)) (qh (qN kI)) qI)
   (qf (qy (i:=2) zg.nd rfl (Or.inl rfl) (qO qd))
   (qf (zU PassesOwn.never rfl (jw rfl T.range (q5 qa qd)) (qr (i:=3) zg.nd rfl (Or.inr rfl))
    (qh (qQ (xr PySem.F.plainAttrs_list PySem.F.slot_list_extend PySem.F.type_list_extend XW (pv 2) (q5 (zT (N:=["_law_place","_law_name"]) (osc:=(q8 zZ)) (on:=["_law_blocks","_law_code","_law_every","_law_name","_law_states","_law_left","_law_at","_law_sure","_law_good","_law_end_here","_law_goals","_law_way","_law_old","_law_new"]) (cap:=[none,some 3]) ⟨rfl,rfl,by decide +kernel⟩ rfl (jw rfl T.range (q5 qa qd)) (λ_ _ _ _=>(qr (i:=0) (show List.Nodup (["_law_place","_law_name"]:List Str) by decide +kernel) rfl (Or.inl rfl))) (λ_ _ _ _=>jf) (λ_ _ _ _=>(qH (q5 (pv 1) (q5 (pv 0) qd))))) qd)))))
   (qf (qy (i:=4) zg.nd rfl (Or.inl rfl) (vX (jQ qa (qO qd) vP) rfl rfl (by simp) (by simp)))
   (qf (qy (i:=5) zg.nd rfl (Or.inl rfl) (qO (q5 qa qd)))
   (qf (kF PassesOwn.never (vo (pv 5) (λ_=>rfl))
    (qf (qy (i:=6) zg.nd rfl (Or.inl rfl) (xr PySem.F.plainAttrs_list PySem.F.slot_list_pop PySem.F.type_list_pop JP (pv 5) (q5 qa qd)))
   (qf (kz (qo G__law_walk (hr.mono (by decide)) rfl T.F__law_walk.mg T.F__law_walk.fn.kp T.F__law_walk.b .nil qX (q5 (v5 hu (pv 4) (pv 6) (λ_ _=>rfl)) (q5 (qw zm (qz qu (qz qZ (pv 0) (pv 6) (λ_ _=>rfl)) qa (λ_ _=>rfl)) (qO (q5 (qz qu (qz qZ (pv 0) (pv 6) (λ_ _=>rfl)) qa (λ_ _=>rfl)) qd))) (q5 (qw zm (qz qu (qz qZ (pv 1) (pv 6) (λ_ _=>rfl)) qa (λ_ _=>rfl)) (qO (q5 (qz qu (qz qZ (pv 1) (pv 6) (λ_ _=>rfl)) qa (λ_ _=>rfl)) qd))) qd)))) (x9 rfl (qL (qr (i:=7) zg.nd rfl (Or.inr rfl)) (qL (qr (i:=8) zg.nd rfl (Or.inl rfl)) jn))))
   (qf (zf (yR (vJ (pv 8) (λ_=>rfl))) (qh (qN kI)) qI)
   (qf (qy (i:=9) zg.nd rfl (Or.inl rfl) (qz qu (qz qZ (pv 0) (pv 6) (λ_ _=>rfl)) qa (λ_ _=>rfl)))
   (qf (qy (i:=10) zg.nd rfl (Or.inl rfl) (vA hu (vX (jQ qD (qY vg (pv 9) (zk qa) zv) (jQ qD (qY vg (pv 9) (zk qa) zv) vP)) rfl rfl (by simp) (by simp)) (qz qu (pv 9) qa (λ_ _=>rfl)) (qH qd) ⟨rfl,rfl,rfl,rfl⟩))
   (qh (zU PassesOwn.never rfl (ww (pv 10)) (qr (i:=11) zg.nd rfl (Or.inl rfl))
    (qf (qy (i:=12) zg.nd rfl (Or.inl rfl) (vA hu (pv 4) (pv 11) (pv 2) ⟨rfl,rfl,rfl,rfl⟩))
   (qf (jM (i:=13) zg.nd rfl (Or.inl rfl) (N:=["_law_one","_law_sure"]) (osc:=(q8 zZ)) (on:=["_law_blocks","_law_code","_law_every","_law_name","_law_states","_law_left","_law_at","_law_sure","_law_good","_law_end_here","_law_goals","_law_way","_law_old","_law_new"]) (cap:=[none,some 7]) ⟨rfl,rfl,by decide +kernel⟩ rfl (z7 (pv 12)) (λ_ _ _ _=>(qr (i:=0) (show List.Nodup (["_law_one","_law_sure"]:List Str) by decide +kernel) rfl (Or.inl rfl))) (λ_ _ _ _=>(xq (qm (r:=XM K) (Kz hu65) (pv 0) (pv 1) rfl))) (λ_ _ _ _=>(pv 0)))
   (qh (zf (PW.pt (wj (Ze (kG hu (pv 11) (pv 4))) (xz (qm yn (qP ze (by rfl) T.len PySem.boot_len (q5 (pv 13) qd)) (qP ze (by rfl) T.len PySem.boot_len (q5 (pv 12) qd)) (qC _))))) (qf (v6 hu (pv 4) (pv 11) (pv 13) rfl)
   (qh (qQ (xr PySem.F.plainAttrs_list PySem.F.slot_list_append PySem.F.type_list_append zG (pv 5) (q5 (pv 11) qd))))) qI))))))))))))
   (qh (qN kI)))))))),?_⟩
  try walk_at "rd"
  refine⟨v,bs,rfl,hPv,by have:=okb.1.2.1;omega,λb hb=>by have:=okb.1.2.2 b hb;omega,λv1 H1 s1 hD1=>?_⟩
  try walk_at "rd"
  refine⟨c,cs,rfl,hPc.same s1,by have:=okc.1.2.1;omega,λb hb=>by have:=okc.1.2.2 b hb;omega,λv2 H2 s2 hD2=>?_⟩
  try walk_at "rd"
  refine⟨_,_,VE s2 hD1,hD2,(w6 bs).sh (by decide),(w6 cs).sh (by decide),?_⟩
  dsimp only[jH]
  have s02:=s1.trans s2
  cases esh:PyData.eqv (xi bs) (xi cs) with
  |false=>
   refine kW rfl (Qn H2 false s02 ⟨λz=>(by cases z),λz=>?_⟩)
   have:=yf.mpr (show bs.map (λb=>b.bare.shape)=cs.map λb=>b.bare.shape by rw[nm,z.1,List.map_map];rfl)
   rw[this] at esh
   cases esh
  |true=>
   refine vq rfl ?_
   have hsh:bs.map Blk.shape=(cs.map Blk.bare).map Blk.shape:=by
    rw[<-nm,yf.mp esh,List.map_map];rfl
   try walk_at "rd"
   refine⟨by decide,λpe H3 n3=>?_⟩
   try walk_at "rd"
   refine⟨by decide,by decide,kY (λi σ H'=>(∃ u,σ=[some v,some c,some (.ref pe),u,none,none,none,none,none,none,none,none,none,none])/\UpD pe H3 H'/\∃ xs,H' pe=some (.lst xs)/\z5 (xD K H') xs (evN i)) ⟨⟨_,rfl⟩,UpD.refl,[],n3.at_,.nil⟩ ?_ ?_⟩
   ·rintro i σ H4 hi ⟨⟨u,rfl⟩,u4,xs,hx4,hX4⟩
    try walk_at "rd"
    refine⟨.inl ⟨rfl,_,SqL.of hx4⟩,by decide,by decide,λp5 k5=>evJ (K:=K) k5 λH5 ys s5 h5 hY5=>?_⟩
    have hi24:i<24:=hi
    refine⟨pe,p5,xs,ys,rfl,rfl,s5 _ _ hx4,h5,?_,⟨_,rfl⟩,(u4.trans (UpD.of s5)).trans UpD.upd,_,qg,?_⟩
    ·rw[hX4.1,hY5.1,J5]
     unfold evR
     rw[List.length_map,List.length_range]
     exact Nat.le_trans (show _<=1000 by omega) (by decide)
    ·rw[QJ]
     have uu:UpD pe H5 (upd H5 pe (.lst (xs++ys))):=UpD.upd
     exact((hX4.imp λ_ _ z=>z.same s5).append hY5).imp λ_ _ z=>uu.prL (s5 _ _ hx4) z
   ·rintro σ Hv ⟨⟨u,rfl⟩,u4,exs,hxe,hXe⟩
    have s0v:qq H Hv:=s02.trans (u4.same n3.same n3.fr)
    have hXe:z5 (xD K Hv) exs (evN 24):=hXe
    have hPv:=hPv.same s0v
    have hPc:=hPc.same s0v
    try walk_at "rd"
    refine λpb kpb=>⟨by decide,λd0 Ha na=>⟨na.same _ _ qg,[(Sum.inl 0,.ref d0)],rfl,(show 1<=15 by decide),by decide,λtd Hb nb=>?_⟩⟩
    have em:xv [] [((Sum.inl 0:Key),V.ref d0)]=[(Sum.inl 0,.ref d0)]:=rfl
    rw[em] at nb
    obtain⟨lb,bxs,rfl,hlb,hBA⟩:=hPv
    obtain⟨lc,cxs,rfl,hlc,hCA⟩:=hPc
    have npd:pb≠d0:=qj qg na.fr
    have sa:qq Hv Ha:=(qq.new kpb).trans na.same
    have sa':qq Hv (upd Ha pb (.dK [(Sum.inl 0,.ref d0)])):=jv sa kpb
    have sb:qq Hv Hb:=sa'.trans nb.same
    have hpbb:Hb pb=some (.dK [(Sum.inl 0,.ref d0)]):=nb.same _ _ qg
    have hd0a:upd Ha pb (.dK [(Sum.inl 0,.ref d0)]) d0=some (.lst []):=by rw[qp npd.symm];exact na.at_
    have hd0b:Hb d0=some (.lst []):=nb.same _ _ hd0a
    have kd0:Hv d0=none:=(qq.new kpb).free na.fr
    have ktd:Hv td=none:=sa'.free nb.fr
    have nd0:d0≠td:=qj hd0a nb.fr
    have hlen:cs.length=bs.length:=by have:=congrArg List.length hsh;simpa using this.symm
    have n0:0<bs.length:=by have:=okb.1.1;omega
    have n12:bs.length<=12:=okb.1.2.1
    have okw:∀ b∈bs,∀ t∈b.en.ways,0<=t/\t<bs.length:=λb hb=>JM (okb.2 b hb).2
    have okp:=Q8 okb okn okc
    have hpl:(zc bs cs).length=bs.length:=by unfold zc;rw[List.length_zipWith,hlen,Nat.min_self]
    have okr:∀ ps∈zc bs cs,∀ x∈ps,okR x:=Vh okb okn okc low
    have sb0:SB K td Hv Hb [(Sum.inl 0,.ref d0)] (λx=>if x=0 then some (λ_=>none) else none):=
     SB.put (kvs:=[]) (B:=λ_=>none) ⟨λ_ _=>rfl,λk h e=>(by cases e),λp h=>(by cases h),List.nodup_nil⟩ (Int.le_refl 0) (by decide) (λp n z=>by cases z) hd0b .nil kr.nil kd0 nd0
    refine⟨λm σ H'=>∃ B todo kvs,(∃ u3 u6 u7 u8 u9 u10 u11 u12 u13,σ=[some (.ref lb),some (.ref lc),some (.ref pe),u3,some (.ref pb),some (.ref td),u6,u7,u8,u9,u10,u11,u12,u13])/\qq Hv H'/\H' pb=some (.dK kvs)/\SB K td Hv H' kvs B/\H' td=some (.lst (todo.map V.int))/\WL bs.length (Js bs) (EOf (zc bs cs)) B todo (λ_=>False)/\(∀ m h,B m=some h->m∈todo\/qU ((zc bs cs).getD m.toNat []) h=true)/\2*wt bs.length B+todo.length=m/\m<=2000,
     ⟨_,_,[0],_,⟨_,_,_,_,_,_,_,_,_,rfl⟩,sb,hpbb,sb0,nb.at_,WL.init (by omega),λm h e=>.inl ?_,rfl,?_⟩,?_⟩
    ·split at e
     ·rename_i c;subst c;exact List.mem_singleton.mpr rfl
     ·cases e
    ·have:=YE (λx=>if x=0 then some (λ_=>none) else none) bs.length
     simp only[List.length_cons,List.length_nil]
     omega
    ·rintro m σ H1' ⟨B,todo,kvs,⟨u3,u6,u7,u8,u9,u10,u11,u12,u13,rfl⟩,s1',hpb,sbB,htd,wl,gd,hm,hm2⟩
     try walk_at "rd"
     refine⟨!todo.isEmpty,.inl ⟨_,SqL.of htd,by cases todo <;> rfl⟩,?_⟩
     cases todo with
     |nil=>
      refine vq rfl ?_
      try walk_at "rd"
      refine Qn H1' true (s0v.trans s1') ⟨λ_=>⟨hsh,B,⟨wl.flow,wl.dom,wl.best⟩,λn h e=>?_⟩,λ_=>rfl⟩
      rcases gd n h e with z|z
      ·cases z
      ·exact z
     |cons jj xM=>
      refine kW rfl ?_
      refine⟨λσ' H'=>∃ m',m'<m/\_,λ_ _ z=>z,?_⟩
      try walk_at "rd"
      obtain⟨h,hBn⟩:=wl.td jj (by simp)
      obtain⟨n0',nN⟩:=wl.dom jj h hBn
      obtain⟨j,rfl⟩:=Int.eq_ofNat_of_zero_le n0'
      have jl:j<bs.length:=by omega
      refine⟨.inl ⟨rfl,_,SqL.of htd⟩,td,_,0,0,.int j,rfl,rfl,htd,by decide,by decide,by simp[seqIndex?],rfl,?_⟩
      have npt:pb≠td:=xZ hpb htd (by intro z;cases z)
      have u2:Up2 pb td H1' (upd H1' td (.lst (((j:Int)::xM).map V.int |>.eraseIdx 0))):=λb o _ nb e=>by rw[qp nb];exact e
      have sbB':=sbB.mono hpb htd u2
      have s2':qq Hv (upd H1' td (.lst (((j:Int)::xM).map V.int |>.eraseIdx 0))):=jv s1' ktd
      have hpb2:upd H1' td (.lst (((j:Int)::xM).map V.int |>.eraseIdx 0)) pb=some (.dK kvs):=by rw[qp npt];exact hpb
      have htd2:upd H1' td (.lst (((j:Int)::xM).map V.int |>.eraseIdx 0)) td=some (.lst (xM.map V.int)):=qg
      generalize upd H1' td (.lst (((j:Int)::xM).map V.int |>.eraseIdx 0))=H2' at sbB' s2' hpb2 htd2 ⊢
      have bj:bs[j]?=some bs[j]:=List.getElem?_eq_getElem jl
      have jlc:j<cs.length:=by omega
      have cj:cs[j]?=some cs[j]:=List.getElem?_eq_getElem jlc
      obtain⟨vb,hvb,hB⟩:=hBA.get' bj
      obtain⟨vc,hvc,hC⟩:=hCA.get' cj
      have lbd:=okb.1.2.2 bs[j] (List.getElem_mem _)
      have lcd:=okc.1.2.2 cs[j] (List.getElem_mem _)
      generalize eb:bs[j]=b at hB lbd
      generalize ec:cs[j]=cb at hC lcd
      rw[eb] at bj
      rw[ec] at cj
      obtain⟨qb,dlb,enb,rfl,hTb,⟨pdb,dxb,rfl,hDb,hAb⟩,hEb⟩:=hB
      obtain⟨qc,dlc,enc,rfl,hTc,⟨pdc,dxc,rfl,hDc,hAc⟩,hEc⟩:=hC
      obtain⟨inh,l,xs,ps,hvl,hl,hA,R,kl,nl⟩:=sbB'.val _ h hBn
      have ePs:(zc bs cs)[j]?=some (sbs b.rows cb.rows):=by unfold zc;rw[List.getElem?_zipWith,bj,cj]
      have eG:(zc bs cs).getD (j:Int).toNat []=sbs b.rows cb.rows:=by rw[Int.toNat_natCast,List.getD_eq_getElem?_getD,ePs];rfl
      have eE:∀ g,EOf (zc bs cs) (j:Int) g=zS (sbs b.rows cb.rows) g:=λg=>by unfold EOf;rw[eG]
      have eW:Js bs (j:Int)=b.en.ways:=by unfold Js;rw[Int.toNat_natCast,List.getD_eq_getElem?_getD,bj];rfl
      have shj:b.rows.map Row.bareVs=(JX cb.rows).map Row.bareVs:=by
       have e:(bs.map Blk.shape)[j]?=((cs.map Blk.bare).map Blk.shape)[j]?:=by rw[hsh]
       rw[List.getElem?_map,List.getElem?_map,List.getElem?_map,bj,cj] at e
       have e2:b.shape=cb.bare.shape:=Option.some.inj e
       unfold Blk.shape at e2
       rw[e2,ky]
       rfl
      have erb:b.rows.length=b.ds.length+1:=by unfold Blk.rows;simp
      have erc:cb.rows.length=cb.ds.length+1:=by unfold Blk.rows;simp
      show ∃ v,Q1 H2' pb (.int j) (some v)/\_
      refine⟨.ref l,.inl ⟨kvs,Sum.inl (j:Int),.inl hpb2,rfl,hvl.symm⟩,qR (SqL.of (s2' _ _ hlb)) (xE hvb) (qi (s2'.seqT hTb) rfl (qR (SqL.of (s2' _ _ hlb)) (xE hvb) (qi (s2'.seqT hTb) rfl ⟨by decide,λp3 H3' n3'=>?_⟩)))⟩
      refine⟨pdb,p3,dxb,[enb],rfl,rfl,(s2'.trans n3'.same) _ _ hDb,n3'.at_,by rw[hAb.1];exact Nat.le_trans (show _+1<=1000 by omega) (by decide),λp4 H4' n4'=>?_⟩
      have s4':=(s2'.trans n3'.same).trans n4'.same
      refine qR (SqL.of (s4' _ _ hlc)) (xE hvc) (qi (s4'.seqT hTc) rfl (qR (SqL.of (s4' _ _ hlc)) (xE hvc) (qi (s4'.seqT hTc) rfl ⟨by decide,λp5 H5' n5'=>?_⟩)))
      refine⟨pdc,p5,dxc,[enc],rfl,rfl,(s4'.trans n5'.same) _ _ hDc,n5'.at_,by rw[hAc.1];exact Nat.le_trans (show _+1<=1000 by omega) (by decide),λp6 H6' n6'=>?_⟩
      have s26:=((n3'.same.trans n4'.same).trans n5'.same).trans n6'.same
      have s6':=s2'.trans s26
      refine⟨l,xs,_,_,ps,h,b.rows,cb.rows,rfl,s26 _ _ hl,hA.imp λ_ _ z=>z.same s26,R,⟨p4,_,rfl,n6'.same _ _ (n5'.same _ _ n4'.at_),(Qt hAb hEb).imp λ_ _ z=>z.same s6'⟩,⟨p6,_,rfl,n6'.at_,(Qt hAc hEc).imp λ_ _ z=>z.same s6'⟩,by omega,by omega,Nat.le_of_eq (wW hsh bj cj),λx hx=>⟨okp _ (List.mem_of_getElem? ePs) x hx,Q7 shj x hx⟩,λt lS xS psS H7 s7 ht kS6 hlS hXS RS=>?_⟩
      refine⟨t,_,rfl,SqT.of ht,rfl,_,_,rfl,_,_,rfl,rfl,?_⟩
      have s27:=s26.trans s7
      have s07:=s6'.trans s7
      try walk_at "rd"
      cases eg:qU (sbs b.rows cb.rows) h with
      |false=>
       refine kW rfl (Qn H7 false (s0v.trans s07) ⟨λz=>(by cases z),λz=>?_⟩)
       obtain⟨_,B',best',z⟩:=z
       obtain⟨f,hf,hle⟩:=wl.best B' best'.flow _ h hBn
       have:=kK hle (z _ f hf)
       rw[eG,eg] at this
       cases this
      |true=>
       refine vq rfl ?_
       have kS2:H2' lS=none:=s26.free kS6
       have nSt:lS≠td:=(qj htd2 kS2).symm
       obtain⟨qe,rfl,hSe⟩:=hEb
       refine qR (SqL.of (s07 _ _ hlb)) (xE hvb) (qi (s07.seqT hTb) rfl λd kd=>?_)
       have s8:qq H7 (upd H7 d (.dK [])):=qq.new kd
       refine⟨qe,_,rfl,(s07.trans s8).seqT hSe,λp1 Hc sc h1=>⟨qe,_,rfl,((s07.trans s8).trans sc).seqT hSe,λp2 Hd sd h2=>?_⟩⟩
       have hd:Hd d=some (.dK []):=sd _ _ (sc _ _ qg)
       refine⟨hd,[(.inr "go",.ref p1),(.inr "if",.ref p2)],rfl,(show 2<=15 by decide),.inl ⟨_,.inl qg⟩,?_⟩
       have u5:UpD d Hd (upd Hd d (.dK (xv [] [(.inr "go",.ref p1),(.inr "if",.ref p2)]))):=UpD.upd
       have e5:upd Hd d (.dK (xv [] [(.inr "go",.ref p1),(.inr "if",.ref p2)])) d=some (.dK [(.inr "go",.ref p1),(.inr "if",.ref p2)]):=qg
       generalize upd Hd d (.dK (xv [] [(.inr "go",.ref p1),(.inr "if",.ref p2)]))=He at u5 e5 ⊢
       have s7e:qq H7 He:=u5.same ((s8.trans sc).trans sd) kd
       have get:∀ (t:String) (H6:Hp),qq He H6->Q1 H6 d (.str t) (jG [(.inr "go",V.ref p1),(.inr "if",.ref p2)] (Sum.inr (t:Str):Key)):=λt H6 s6=>.inl ⟨_,Sum.inr (t:Str),.inl (s6 _ _ e5),rfl,rfl⟩
       have h1':=u5.seqT hd (sd.seqT h1)
       have h2':=u5.seqT hd h2
       have hSe':=(s07.trans s7e).seqT hSe
       obtain⟨e,he⟩:∃ e,e=b.en:=⟨_,rfl⟩
       rw[<-he] at h1' h2' hSe'
       have gd':∀ m h,B m=some h->m∈xM\/qU ((zc bs cs).getD m.toNat []) h=true:=λm g e=>by
        rcases gd m g e with z|z
        ·rcases List.mem_cons.mp z with z|z
         ·subst z
          rw[hBn] at e
          cases e
          exact .inr (by rw[eG];exact eg)
         ·exact .inl z
        ·exact .inr z
       have hm':2*wt bs.length B+xM.length<m:=by rw[<-hm];simp only[List.length_cons];omega
       have wl':=wl.pop0
       have hbest:∀ F,Flow (Js bs) (EOf (zc bs cs)) F->∃ f,F (j:Int)=some f/\leH f h:=λF hF=>wl.best F hF _ _ hBn
       have inE:inR (EOf (zc bs cs) (j:Int) h):=by rw[eE];exact Jr (λx hx=>okr _ (List.mem_of_getElem? ePs) x hx) inh
       have RE:kr psS (EOf (zc bs cs) (j:Int) h):=by rw[eE];exact RS
       have mono:∀ n a b,leH a b->leH (EOf (zc bs cs) n a) (EOf (zc bs cs) n b):=λn a b z=>wr z
       cases e
       all_goals first
        |(refine qi hSe' rfl ⟨by decide,λp6 H9 n6=>⟨_,get "go" H9 n6.same,?_⟩⟩;have hw:SqT K H9 p1 (b.en.ways.map V.int):=(by rw[<-he];exact n6.same.seqT h1');have s79:=s7e.trans n6.same;clear n6 get h1 h1';generalize p1=tw at hw ⊢)
        |(refine qi hSe' rfl ⟨by decide,λp6 H9 n6=>⟨_,get "if" H9 n6.same,?_⟩⟩;have hw:SqT K H9 p2 (b.en.ways.map V.int):=(by rw[<-he];exact n6.same.seqT h2');have s79:=s7e.trans n6.same;clear n6 get h2 h2';generalize p2=tw at hw ⊢)
        |(refine qi hSe' rfl ⟨by decide,λp6 H9 n6=>⟨_,get "end" H9 n6.same,?_⟩⟩;have hw:SqT K H9 p6 (b.en.ways.map V.int):=(by rw[<-he];exact SqT.of n6.at_);have s79:=s7e.trans n6.same;clear n6 get;generalize p6=tw at hw ⊢)
       all_goals (
        change asR (V.ref tw) _
        dsimp only[QF]
        have s29:=s27.trans s79
        have sv9:=s07.trans s79
        refine⟨⟨_,hw⟩,JK (b.en.ways.map V.int) (λi σ H'=>∃ B' todo' kvs',(∃ u3 u9 u10 u11 u12 u13,σ=[some (.ref lb),some (.ref lc),some (.ref pe),u3,some (.ref pb),some (.ref td),some (.int j),some (.ref lS),some (.bl true),u9,u10,u11,u12,u13])/\qq Hv H'/\H' pb=some (.dK kvs')/\SB K td Hv H' kvs' B'/\H' td=some (.lst (todo'.map V.int))/\SqT K H' tw (b.en.ways.map V.int)/\(H' lS=some (.lst xS)/\z5 (xD K H') xS psS) /\
          WL bs.length (Js bs) (EOf (zc bs cs)) B' todo' (λx=>x=(j:Int))/\2*wt bs.length B'+todo'.length<m/\((j:Int)∈todo'\/(B' j=some h/\Cl B' (b.en.ways.take i) (EOf (zc bs cs) j h)))/\(∀ m h,B' m=some h->m∈todo'\/qU ((zc bs cs).getD m.toNat []) h=true))
         ⟨B,xM,kvs,⟨_,_,_,_,_,_,rfl⟩,sv9,s29 _ _ hpb2,sbB'.mono hpb2 htd2 (Up2.of s29),s29 _ _ htd2,hw,⟨s79 _ _ hlS,hXS.imp λ_ _ z=>z.same s79⟩,wl',hm',.inr ⟨hBn,λt ht=>by cases ht⟩,gd'⟩ (λi σ H' _ z=>by obtain⟨_,_,_,_,_,_,_,_,z,_⟩:=z;exact z) ?_ ?_⟩
        ·rintro i x σ H10 hi ⟨B',todo',kvs',⟨u3',u9',u10',u11',u12',u13',rfl⟩,s10,hpb10,sb10,htd10,hw10,⟨hlS10,hXS10⟩,wl10,hm10,hcl,gd10⟩
         rw[List.getElem?_map] at hi
         obtain⟨t,ht,rfl⟩:=Option.map_eq_some_iff.mp hi
         have htm:=List.mem_of_getElem? ht
         obtain⟨t0,t1⟩:=okw _ (List.mem_of_getElem? bj) t htm
         try walk_at "rd"
         refine⟨.inl ⟨kvs',.inl hpb10⟩,_,.inl ⟨kvs',Sum.inl t,.inl hpb10,rfl,rfl⟩,?_⟩
         have lt':todo'.length<sizeLine:=Nat.lt_of_le_of_lt (by omega:todo'.length<=2000) (by decide)
         have lenk:kvs'.length<sizeLine:=Nat.lt_of_le_of_lt sb10.len (by decide)
         have Fin:∀ (H8:Hp) (dn:Addr) (ys:List V) (qs:List NP),qq H10 H8->H8 dn=some (.lst ys)->z5 (xD K H8) ys qs->kr qs (Qx (B' t) (EOf (zc bs cs) j h))->inR (Qx (B' t) (EOf (zc bs cs) j h))->H10 dn=none->wtO (some (Qx (B' t) (EOf (zc bs cs) j h)))<wtO (B' t) ->
           ∃ H4,Xa H8 pb (.int t) (.ref dn) H4/\H4 td=some (.lst (todo'.map V.int))/\∀ H9,H9=upd H4 td (.lst (todo'.map V.int++[.int t]))->qq Hv H9/\H9 pb=some (.dK (xT kvs' (Sum.inl t) (.ref dn)))/\SB K td Hv H9 (xT kvs' (Sum.inl t) (.ref dn)) (Qo B' t (Qx (B' t) (EOf (zc bs cs) j h))) /\
            H9 td=some (.lst ((todo'++[t]).map V.int))/\SqT K H9 tw (b.en.ways.map V.int)/\(H9 lS=some (.lst xS)/\z5 (xD K H9) xS psS)/\WL bs.length (Js bs) (EOf (zc bs cs)) (Qo B' t (Qx (B' t) (EOf (zc bs cs) j h))) (todo'++[t]) (λx=>x=(j:Int)) /\
            2*wt bs.length (Qo B' t (Qx (B' t) (EOf (zc bs cs) j h)))+(todo'++[t]).length<m/\((j:Int)∈todo'++[t]\/(Qo B' t (Qx (B' t) (EOf (zc bs cs) j h)) j=some h/\Cl (Qo B' t (Qx (B' t) (EOf (zc bs cs) j h))) (b.en.ways.take (i+1)) (EOf (zc bs cs) j h))) /\
            (∀ m h',Qo B' t (Qx (B' t) (EOf (zc bs cs) j h)) m=some h'->m∈todo'++[t]\/qU ((zc bs cs).getD m.toNat []) h'=true):=λH8 dn ys qs s8 hdn hY Rq inq kdn hlt=>by
          have htd4:upd H8 pb (.dK (xT kvs' (Sum.inl t) (.ref dn))) td=some (.lst (todo'.map V.int)):=by rw[qp npt.symm];exact s8 _ _ htd10
          refine⟨_,Xa.k (k:=Sum.inl t) (s8 _ _ hpb10) lenk,htd4,?_⟩
          rintro H9 rfl
          have up:Up2 pb td H8 (upd (upd H8 pb (.dK (xT kvs' (Sum.inl t) (.ref dn)))) td (.lst (todo'.map V.int++[.int t]))):=λc o c1 c2 e=>by rw[qp c2,qp c1];exact e
          have hpb8:=s8 _ _ hpb10
          have htd8:=s8 _ _ htd10
          have hwt:=VM t0 t1 hlt
          have ndt:dn≠td:=(qj htd10 kdn).symm
          have sb8:=(sb10.mono hpb10 htd10 (Up2.of s8)).put t0 (by omega) inq hdn hY Rq (s10.free kdn) ndt
          refine⟨jv (jv (s10.trans s8) kpb) ktd,by rw[qp npt];exact qg,sb8.mono hpb8 htd8 up,by rw[qg,List.map_append];rfl,?_,⟨up _ _ (xZ (s8 _ _ hlS10) hpb8 (by intro z;cases z)) nSt (s8 _ _ hlS10),hXS10.imp λ_ _ z=>up.pr hpb8 htd8 (z.same s8)⟩,wl10.put mono hbest (by rw[eW];exact htm) t0 t1,by rw[List.length_append];simp only[List.length_cons,List.length_nil];omega,?_,λm h' e=>?_⟩
          ·rcases s8.seqT hw10 with(z|⟨o,z⟩)|z
           ·exact .inl (.inl (up _ _ (λe=>by rw[e,hpb8] at z;cases z) (λe=>by rw[e,htd8] at z;cases z) z))
           ·exact .inl (.inr ⟨o,up _ _ (λe=>by rw[e,hpb8] at z;cases z) (λe=>by rw[e,htd8] at z;cases z) z⟩)
           ·exact .inr z
          ·by_cases c:(j:Int)=t
           ·exact .inl (by rw[c];simp)
           ·rcases hcl with z|⟨z1,z2⟩
            ·exact .inl (List.mem_append_left _ z)
            ·refine .inr ⟨by rw[jm c];exact z1,λu hu=>?_⟩
             by_cases cu:u=t
             ·subst cu
              exact⟨_,xf,Vl⟩
             ·rw[jm cu]
              rw[List.take_succ,ht] at hu
              rcases List.mem_append.mp hu with hu|hu
              ·exact z2 u hu
              ·exact absurd (by simpa using hu) cu
          ·by_cases c:m=t
           ·subst c;exact .inl (by simp)
           ·rw[jm c] at e
            rcases gd10 m h' e with z|z
            ·exact .inl (List.mem_append_left _ z)
            ·exact .inr z
         cases hBt:B' t with
         |none=>
          rw[sb10.non t hBt]
          change asR (V.ref pe) _
          dsimp only[QF]
          refine⟨⟨_,SqL.of (s10 _ _ hxe)⟩,λpn kn=>sureJ (s10 _ _ hxe) (hXe.imp λ_ _ z=>z.same s10) (by rw[J5];decide) hlS10 hXS10 kn λH11 ys s11 h11 hY11=>?_⟩
          refine⟨none,.inl ⟨kvs',Sum.inl t,.inl (s11 _ _ hpb10),rfl,(sb10.non t hBt).symm⟩,kW rfl ?_⟩
          obtain⟨H12,hp,htd12,F⟩:=Fin H11 pn ys _ s11 h11 (hY11.imp λ_ _ z=>z.same s11) (by rw[hBt];exact RE.every inE) (by rw[hBt];exact inE) kn (by rw[hBt];exact Nat.lt_succ_of_le (Jc _))
          exact⟨H12,hp,.inl ⟨rfl,_,SqL.of htd12⟩,td,_,.int t,rfl,rfl,htd12,by rw[List.length_map];exact lt',_,_,_,⟨_,_,_,_,_,_,rfl,rfl,rfl,rfl,rfl,rfl⟩,F _ rfl⟩
         |some g=>
          obtain⟨ing,lo,xo,po,hvo,hlo,hXo,Ro,ko,no⟩:=sb10.val t g hBt
          rw[hvo]
          change asR (V.ref lo) _
          dsimp only[QF]
          refine⟨⟨_,SqL.of hlo⟩,λpn kn=>sureJ hlo hXo (by have:=Ro.len;omega) hlS10 hXS10 kn λH11 ys s11 h11 hY11=>?_⟩
          refine⟨some (.ref lo),.inl ⟨kvs',Sum.inl t,.inl (s11 _ _ hpb10),rfl,hvo.symm⟩,vq rfl ?_⟩
          refine jN (SqL.of h11) (jN (SqL.of (s11 _ _ hlo)) ?_)
          rw[hY11.1,hXo.1]
          have iff:=Ro.less RE
          try walk_at "rd"
          refine xN (λc=>?_) (λc=>?_)
          ·have c:(po.filter λa=>decide (a∈psS)).length<po.length:=by omega
           have ne:=iff.mp c
           obtain⟨H12,hp,htd12,F⟩:=Fin H11 pn ys _ s11 h11 (hY11.imp λ_ _ z=>z.same s11) (by rw[hBt];exact Ro.both RE) (by rw[hBt];exact Wu ing) kn (by rw[hBt];exact Ka xB ne λp n z=>⟨(ing p n z).2.1,by have:=(ing p n z).2.2;omega⟩)
           exact⟨H12,hp,.inl ⟨rfl,_,SqL.of htd12⟩,td,_,.int t,rfl,rfl,htd12,by rw[List.length_map];exact lt',_,_,_,⟨_,_,_,_,_,_,rfl,rfl,rfl,rfl,rfl,rfl⟩,F _ rfl⟩
          ·have em2:xx g (EOf (zc bs cs) j h)=g:=Classical.byContradiction λz=>c (by have:=iff.mpr z;omega)
           refine⟨B',todo',kvs',⟨_,_,_,_,_,_,rfl,rfl,rfl,rfl,rfl,rfl⟩,s10.trans s11,s11 _ _ hpb10,sb10.mono hpb10 htd10 (Up2.of s11),s11 _ _ htd10,s11.seqT hw10,⟨s11 _ _ hlS10,hXS10.imp λ_ _ z=>z.same s11⟩,wl10,hm10,?_,gd10⟩
           rcases hcl with z|⟨z1,z2⟩
           ·exact .inl z
           ·refine .inr ⟨z1,λu hu=>?_⟩
            rw[List.take_succ,ht] at hu
            rcases List.mem_append.mp hu with hu|hu
            ·exact z2 u hu
            ·have:u=t:=by simpa using hu
             subst this
             exact⟨g,hBt,by rw[<-em2];exact xG⟩
        ·rintro σ H10 ⟨B',todo',kvs',⟨u3',u9',u10',u11',u12',u13',rfl⟩,s10,hpb10,sb10,htd10,hw10,⟨hlS10,hXS10⟩,wl10,hm10,hcl,gd10⟩
         rw[List.length_map,List.take_length] at hcl
         exact⟨_,hm10,B',todo',kvs',⟨_,_,_,_,_,_,_,_,_,rfl⟩,s10,hpb10,sb10,htd10,wl10.done (h:=h) (by rw[eW];exact hcl),gd10,rfl,by omega⟩)
def WZ (K:PySem.W.Frag):Sp:=λvs H Q _=>∃ v c n bs cs,vs=[v,c,.int n]/\jZ K H v bs/\jZ K H c cs/\(¬ okP bs->∀ H',qq H H'->Q (.str "program") H')/\(okP bs->¬ jX n->∀ H',qq H H'->Q (.str "pans") H')/\(okP bs->jX n->¬ v3 n cs->∀ H',qq H H'->Q (.str "program") H') /\
 (okP bs->jX n->v3 n cs->∀ H' r,qq H H'->(r=true ↔ Looks bs cs)->Q (.bl r) H')
theorem Zv (T:Tx K w mg a):jA P w K mg base CX0 7 a._law_told a.fd__law_told ["_law_blocks","_law_code","_law_pans"] (WZ K):=by
 refine T.F__law_told.fn.okQ jU (λvs H Q E h=>?_) (λcdv A outer s H vs Q E hr h=>?_)
 ·obtain⟨v,c,n,bs,cs,rfl,_⟩:=h
  rfl
 ·obtain⟨v,c,n,bs,cs,rfl,hB,hC,q1,q2,q3,q4⟩:=h
  have G_passes:=Kt (P:=P) (base:=base) T
  obtain⟨tR,hR,kR⟩:∃ tR,PSs (xO CX0 P w K mg base ["_law_blocks","_law_code","_law_pans","_law_kept","_law_found","e","_law_kinds"] "_law_told" (q8 zx) a._law_told cdv A outer s H E).nox ((qk zx).drop 3) tR /\
    (∀ H' r,Q (.bl r) H'->tR { nx:=λ_ H'=>Q .non H',rt:=Q } [some v,some c,some (.int n),some .non,some (.bl r),none,none] H') /\
    (∀ H' ea,H' ea=some (.ext (wI ea a.BadProgram))->(∀ H2,qq H' H2->Q (.str "program") H2)->tR { nx:=λ_ H'=>Q .non H',rt:=Q } [some v,some c,some (.int n),some (.ref ea),some .non,none,none] H') /\
    (∀ H' ea,H' ea=some (.ext (wI ea a.BadPans))->(∀ H2,qq H' H2->Q (.str "pans") H2)->tR { nx:=λ_ H'=>Q .non H',rt:=Q } [some v,some c,some (.int n),some (.ref ea),some .non,none,none] H'):=by
   refine⟨_,(qf (zf (qm Wx (pv 3) kH (qC _)) (qh (qN (jI (vo (qP wM (by rfl) T.isinstance PyProof.Rows.boot_isinstance (q5 (pv 4) (q5 (Qm (v:=.ty "bool") rfl T.bool PyProof.Rows.boot_bool rfl) qd))) (λ_=>rfl)) (pv 4) qD))) qI)
   (qf (qy (i:=6) jU.nd rfl (Or.inl rfl) (qO (q5 (qP wM (by rfl) T.isinstance PyProof.Rows.boot_isinstance (q5 (pv 3) (q5 (jE (v:=.ref a.BadProgram) rfl T.BadProgram rfl) qd))) (q5 (qP wM (by rfl) T.isinstance PyProof.Rows.boot_isinstance (q5 (pv 3) (q5 (jE (v:=.ref a.BadPans) rfl T.BadPans rfl) qd))) (q5 (qP wM (by rfl) T.isinstance PyProof.Rows.boot_isinstance (q5 (pv 3) (q5 (jE (v:=.ref a.Stuck) rfl T.Stuck rfl) qd))) qd)))))
   (qh (qN (jI (qm jq (xr PySem.F.plainAttrs_list PySem.F.slot_list_count PySem.F.type_list_count KW (pv 6) (q5 kI qd)) qa (qC _)) (qz qZ (qO (q5 qD (q5 qD (q5 qD qd)))) (xr PySem.F.plainAttrs_list PySem.F.slot_list_index PySem.F.type_list_index KY (pv 6) (q5 kI qd)) (λ_ _=>rfl)) qD))))),?_,?_,?_⟩
   ·intro H' r q
    try walk_at "rd"
    refine⟨_,_,_,_,rfl,.inl (.bl _),.inl ⟨_,rfl,T.iBoolB⟩,?_⟩
    try walk_at "rd"
    exact⟨true,rfl,kW rfl q⟩
   ·intro H' ea hx q
    try walk_at "rd"
    have is:∀ H',H' ea=some (.ext (wI ea a.BadProgram))->YS K H' (.ref ea) (.ref a.BadProgram):=λH' hx=>.inr ⟨ea,a.BadProgram,rfl,rfl,hx,T.eBad⟩
    refine⟨_,_,_,_,rfl,is _ hx,.inl ⟨_,rfl,T.iBad1⟩,⟨_,_,_,_,rfl,is _ hx,.inl ⟨_,rfl,T.iBad2⟩,⟨_,_,_,_,rfl,is _ hx,.inl ⟨_,rfl,T.iBad3⟩,by decide,λp1 H1 n1=>?_⟩⟩⟩
    refine⟨.inl ⟨rfl,_,SqL.of n1.at_⟩,p1,_,_,rfl,rfl,n1.at_,rfl,rfl,?_⟩
    dsimp only[QT,dp1]
    refine kW rfl ⟨by decide,λp2 H2 n2=>?_⟩
    have h2:=n2.same _ _ n1.at_
    refine⟨.inl ⟨rfl,_,SqL.of h2⟩,p1,_,_,0,_,rfl,rfl,h2,rfl,rfl,rfl,rfl,λm ym lt _=>absurd lt (Nat.not_lt_zero _),?_⟩
    exact qR (SqL.of n2.at_) rfl (q H2 (n1.same.trans n2.same))
   ·intro H' ea hx q
    try walk_at "rd"
    have is:∀ H',H' ea=some (.ext (wI ea a.BadPans))->YS K H' (.ref ea) (.ref a.BadPans):=λH' hx=>.inr ⟨ea,a.BadPans,rfl,rfl,hx,T.ePans⟩
    refine⟨_,_,_,_,rfl,is _ hx,.inl ⟨_,rfl,T.iPan1⟩,⟨_,_,_,_,rfl,is _ hx,.inl ⟨_,rfl,T.iPan2⟩,⟨_,_,_,_,rfl,is _ hx,.inl ⟨_,rfl,T.iPan3⟩,by decide,λp1 H1 n1=>?_⟩⟩⟩
    refine⟨.inl ⟨rfl,_,SqL.of n1.at_⟩,p1,_,_,rfl,rfl,n1.at_,rfl,rfl,?_⟩
    dsimp only[QT,dp1]
    refine kW rfl ⟨by decide,λp2 H2 n2=>?_⟩
    have h2:=n2.same _ _ n1.at_
    refine⟨.inl ⟨rfl,_,SqL.of h2⟩,p1,_,_,1,_,rfl,rfl,h2,rfl,rfl,rfl,rfl,λm ym lt e=>?_,?_⟩
    ·obtain rfl:m=0:=by omega
     cases e
     rfl
    exact qR (SqL.of n2.at_) rfl (q H2 (n1.same.trans n2.same))
  refine⟨_,(qf (qy (i:=3) jU.nd rfl (Or.inl rfl) kH)
   (qf (qy (i:=4) jU.nd rfl (Or.inl rfl) kH)
   (qf (vB rfl rfl rfl G_passes (hr.mono (by decide)) rfl T.F_passes.mg T.F_passes.fn.kp T.F_passes.b (q5 (pv 0) (q5 (pv 1) (q5 (pv 2) qd))) jU.nd (i:=4) rfl (Or.inl rfl) (j:=5) rfl rfl (k:=3) rfl (Or.inl rfl) rfl T.PressError)
   hR))),?_⟩
  try walk_at "rd"
  unfold tTry
  try walk_at "rd"
  refine⟨v,c,n,bs,cs,rfl,hB,hC,λh1 H1 s1=>⟨_,rfl,T.exBad,λea ke=>?_⟩,λh1 h2 H1 s1=>⟨_,rfl,T.exPans,λea ke=>?_⟩,λh1 h2 h3 H1 s1=>⟨_,rfl,T.exBad,λea ke=>?_⟩,λh1 h2 h3 H1 r s1 hr1=>?_⟩
  ·exact kR.2.1 _ ea qg λH2 s2=>q1 h1 H2 ((s1.trans (qq.new ke)).trans s2)
  ·exact kR.2.2 _ ea qg λH2 s2=>q2 h1 h2 H2 ((s1.trans (qq.new ke)).trans s2)
  ·exact kR.2.1 _ ea qg λH2 s2=>q3 h1 h2 h3 H2 ((s1.trans (qq.new ke)).trans s2)
  ·exact kR.1 H1 r (q4 h1 h2 h3 H1 r s1 hr1)
end
theorem J2.okP (g:J2 bs):okP bs:=
 ⟨⟨g.l0,by have:=g.l1;omega,λb hb=>by have:=(g.ds b hb).1;omega⟩,λb hb=>⟨λd hd=>⟨((g.ds b hb).2.1 d hd).1.1,JJ (by decide) ((g.ds b hb).2.1 d hd).1.2⟩,JQ (by decide) (g.ds b hb).2.2⟩⟩
theorem Yr {m':Nat}{e:En}(h:okE n m e)(l:m<=m'):okE n m' e:=by
 cases e with
 |go t=>exact⟨h.1,by have:=h.2;omega⟩
 |iff a t u=>exact⟨h.1,⟨h.2.1.1,by have:=h.2.1.2;omega⟩,⟨h.2.2.1,by have:=h.2.2.2;omega⟩⟩
 |fin=>trivial
structure kg (n:Int)(a m:Nat)(cs:List Blk):Prop where
 l0:1<=cs.length
 l1:cs.length<=a
 ds:∀ b∈cs,b.ds.length<=m/\(∀ d∈b.ds,xV n d)/\okE n cs.length b.en
theorem Xw.gX {cs:List Blk}(h:Xw n m cs)(hk:m<=k):kg n 4 k cs:=⟨h.l0,h.l1,λb hb=>⟨Nat.le_trans (h.ds b hb).1 hk,(h.ds b hb).2⟩⟩
theorem kg.mono {a a' m':Nat}{cs:List Blk}(h:kg n a m cs)(ha:a<=a')(hm:m<=m'):kg n a' m' cs:=⟨h.l0,Nat.le_trans h.l1 ha,λb hb=>⟨Nat.le_trans (h.ds b hb).1 hm,(h.ds b hb).2⟩⟩
theorem kg.ok {a:Nat}{cs:List Blk}(h:kg n a m cs)(ha:a<=12)(hm:m<=400):v3 n cs:=by
 refine⟨⟨h.l0,by have:=h.l1;omega,λb hb=>by have:=(h.ds b hb).1;omega⟩,λb hb d hd=>((h.ds b hb).2.1 d hd).2.2.1,λb hb=>?_⟩
 obtain⟨b0,hb0,rfl⟩:=List.mem_map.mp hb
 rw[List.length_map]
 refine⟨λd hd=>?_,(h.ds b0 hb0).2.2⟩
 obtain⟨h1,h2⟩:=List.mem_filter.mp hd
 have hmv:d.isMove=false:=by simpa using h2
 exact⟨hmv,((h.ds b0 hb0).2.1 d h1).2.2.2 hmv⟩
theorem kg.low {a:Nat}{cs:List Blk}(h:kg n a m cs):∀ b∈cs,∀ d∈b.ds,lowM d:=λb hb d hd=>by
 have:=((h.ds b hb).2.1 d hd).2.1
 cases d with
 |move p q=>exact this
 |_=>trivial
theorem kg.more {a:Nat}{cs:List Blk}(h:kg n a m cs):kg n (a+1) m (cs++[⟨[],.fin⟩]):=by
 refine⟨by simp,by have:=h.l1;simp;omega,λb hb=>?_⟩
 rcases List.mem_append.mp hb with hb|hb
 ·exact⟨(h.ds b hb).1,(h.ds b hb).2.1,Yr (h.ds b hb).2.2 (by simp)⟩
 ·rw[List.mem_singleton.mp hb]
  exact⟨Nat.zero_le _,λd hd=>(by cases hd),trivial⟩
theorem kg.put {a:Nat}{cs:List Blk}(h:kg n a m cs)(hm:m<=k)(hb:b.ds.length<=k/\(∀ d∈b.ds,xV n d)/\okE n cs.length b.en)(i:Nat):kg n a k (cs.set i b):=by
 refine⟨by rw[List.length_set];exact h.l0,by rw[List.length_set];exact h.l1,λc hc=>?_⟩
 rw[List.length_set]
 rcases List.mem_or_eq_of_mem_set hc with hc|rfl
 ·exact⟨Nat.le_trans (h.ds c hc).1 hm,(h.ds c hc).2⟩
 ·exact hb
theorem Vr (h:bs.length<=4):¬ okP (bs++[⟨[],.go 99⟩]):=λz=>by
 have:=(z.2 ⟨[],.go 99⟩ (by simp)).2.2
 simp at this
 omega
theorem KR {cs:List Blk}(h:n<=20):¬ v3 n (cs++[⟨[.move 20 21],.fin⟩]):=λz=>by
 exact(z.2.1 ⟨[.move 20 21],.fin⟩ (by simp) (.move 20 21) (by simp)).2 ⟨h,by omega⟩
theorem z5.set {β:Type}{R:α->β->Prop}{xs:List α}{ys:List β}{x:α}{y:β}(h:z5 R xs ys)(r:R x y)(i:Nat):z5 R (xs.set i x) (ys.set i y):=by
 refine⟨by rw[List.length_set,List.length_set,h.1],λj a b ha hb=>?_⟩
 by_cases e:i=j
 ·subst e
  have l1:i<xs.length:=by have:=(List.getElem?_eq_some_iff.mp ha).1;rwa [List.length_set] at this
  have l2:i<ys.length:=by rw[<-h.1];exact l1
  rw[List.getElem?_set_self l1] at ha
  rw[List.getElem?_set_self l2] at hb
  cases ha;cases hb
  exact r
 ·rw[List.getElem?_set_ne e] at ha hb
  exact h.2 j a b ha hb
theorem JD (h:xs[xs.length-1]?=some x):atI xs (-1)=some x:=by
 have lt:=(List.getElem?_eq_some_iff.mp h).1
 unfold atI ixN
 rw[if_neg (by decide),if_pos (by omega)]
 show xs[(-1+(xs.length:Int)).toNat]?=some x
 rw[show(-1+(xs.length:Int)).toNat=xs.length-1 by omega]
 exact h
section
variable {P:Program}{w:World}{K:PySem.W.Frag}{mg:Str->Option Value}{base:Heap}
theorem xU.put {cs:List Blk}(h0:H0 l=none)(hA:z5 (wg K (hide G l)) xs cs)(hB:wg K (hide G l) (.ref t) b)(i:Nat):xU K H0 (upd G l (.lst (xs.set i (.ref t)))) (.ref l) (cs.set i b):=⟨l,_,rfl,h0,qg,by rw[x6];exact hA.set hB i⟩
theorem Kd (hp:H p=some (.lst (xs++[.ref t])))(hA:z5 (wg K H) xs bs)(hB:wg K H (.ref t) b):jZ K H (.ref p) (bs++[b]):=⟨p,_,rfl,hp,hA.append (.cons hB .nil)⟩
theorem We (k:H0 p=none)(hp:H p=some (.lst (xs++[.ref t])))(hA:z5 (wg K (hide H p)) xs bs)(hB:wg K (hide H p) (.ref t) b):xU K H0 H (.ref p) (bs++[b]):=⟨p,_,rfl,k,hp,hA.append (.cons hB .nil)⟩
theorem Vx {o':HO}(m:New H p o G)(h:H l=some o'):p≠l:=λe=>by
 rw[<-e,m.fr] at h
 cases h
theorem ix0 {n:Nat}(h:0<n):ixN n 0=some 0:=by
 unfold ixN
 rw[if_pos (by decide),if_pos (by omega)]
 rfl
def StL (K:PySem.W.Frag)(sc:Addr)(a m:Nat)(σ:L2.St)(H:Hp):Prop:=∃ Hb vb bs n vc cs u,∃ wy:Int,σ=[some (.ref sc),some vb,some (.int n),some vc,u,some (.int wy)]/\jZ K Hb vb bs/\qq Hb H/\xU K Hb H vc cs/\J2 bs/\kg n a m cs/\2<=n/\n<=5
def JL (K:PySem.W.Frag):Sp:=λvs H Q _=>∃ s,∃ ns:List Int,vs=[.ref s]/\SqL K H s (ns.map V.int)/\∀ H',Q (.bl true) H'
theorem ok_law (T:Tx K w mg a):jA P w K mg base CX0 10 a.law a.fd_law ["_law_script"] (JL K):=by
 refine T.F_law.fn.okQ wx (λvs H Q E h=>?_) (λcdv A outer s H vs Q E hr h=>?_)
 ·obtain⟨s,ns,rfl,_⟩:=h
  rfl
 ·obtain⟨sc,ns,rfl,hS,q⟩:=h
  have hu:=yF hr
  have G__law_mix:=xa (P:=P) (w:=w) (base:=base) T
  have G__law_program:=yc (P:=P) (w:=w) (base:=base) T
  have G__law_homes:=QK (P:=P) (w:=w) (base:=base) T
  have G__law_changed:=yi (P:=P) (w:=w) (base:=base) T
  have G__law_other:=Qs (P:=P) (w:=w) (base:=base) T
  have G__law_told:=Zv (P:=P) (w:=w) (base:=base) T
  have G__law_due:=Jo (P:=P) (w:=w) (base:=base) T
  obtain⟨tx9,h9,k9⟩:∃ tx,PSs (xO CX0 P w K mg base ["_law_script","_law_blocks","_law_pans","_law_code","_law_k","_law_way"] "law" (q8 xI) a.law cdv A outer s H E).nox ((qk xI).drop 9) tx /\
    ∀ σ H',StL K sc 5 100 σ H'->tx { nx:=λ_ H'=>Q .non H',rt:=Q } σ H':=by
   refine⟨_,(qf (zf (PW.pt (wj (qm yA (qo G__law_told (hr.mono (by decide)) rfl T.F__law_told.mg T.F__law_told.fn.kp T.F__law_told.b .nil qX (q5 (pv 1) (q5 (pv 3) (q5 qa qd)))) qD (qC _)) (xz (qm yA (qo G__law_told (hr.mono (by decide)) rfl T.F__law_told.mg T.F__law_told.fn.kp T.F__law_told.b .nil qX (q5 (qw zm (pv 1) (qO (q5 (qH (q5 (qO qd) (q5 (qH (q5 qD (q5 qa qd))) qd))) qd))) (q5 (pv 3) (q5 qa qd)))) qD (qC _))))) (qh (qN kI)) qI)
   (qf (zf (qm yA (qo G__law_told (hr.mono (by decide)) rfl T.F__law_told.mg T.F__law_told.fn.kp T.F__law_told.b .nil qX (q5 (pv 1) (q5 (qw zm (pv 3) (qO (q5 (qH (q5 (qO (q5 (qH (q5 qD (q5 qa (q5 qa qd)))) qd)) (q5 (qH (q5 qD qd)) qd))) qd))) (q5 (pv 2) qd)))) qD (qC _)) (qh (qN kI)) qI)
   (qh (qN (xY jq (qo G__law_told (hr.mono (by decide)) rfl T.F__law_told.mg T.F__law_told.fn.kp T.F__law_told.b .nil qX (q5 (pv 1) (q5 (pv 3) (q5 (pv 2) qd)))) (qo G__law_due (hr.mono (by decide)) rfl T.F__law_due.mg T.F__law_due.fn.kp T.F__law_due.b .nil qX (q5 (pv 1) (q5 (pv 3) qd))) (qC _)))))),?_⟩
   rintro σ H1 ⟨Hb,vb,bs,n,vc,cs,u,wy,rfl,hB0,s1,hF,hg,hgc,n2,n5⟩
   have hB:=hB0.same s1
   have hC:=hF.pN
   obtain⟨lb,bxs,rfl,hlb,hBA⟩:=id hB
   obtain⟨lc,cxs,rfl,hlc,hCA⟩:=id hC
   have okc:=hgc.ok (by decide) (by decide)
   have b4:=hg.l1
   have c5:=hgc.l1
   have hn:jX n:=⟨by omega,by omega⟩
   try walk_at "rd"
   refine⟨_,_,1,bs,cs,rfl,hB,hC,λz=>absurd hg.okP z,λ_ _ H2 s2=>?_,λ_ z=>absurd z (by unfold jX;omega),λ_ z=>absurd z (by unfold jX;omega)⟩
   dsimp only[vW,JA,cond_true]
   refine vq (by simp) ⟨by decide,λa1 G1 m1=>⟨by decide,λa2 G2 m2=>⟨by decide,λa3 G3 m3=>⟨by decide,λa4 G4 m4=>?_⟩⟩⟩⟩
   have t1:=m2.same.trans (m3.same.trans m4.same)
   have t4:=s2.trans (m1.same.trans t1)
   refine⟨lb,a4,bxs,_,rfl,rfl,t4 _ _ hlb,m4.at_,?_,λp5 G5 m5=>?_⟩
   ·rw[hBA.1]
    exact Nat.le_trans (by simp only[List.length_cons,List.length_nil];omega:_<=10) (by decide)
   have t5:=t4.trans m5.same
   have hB5:jZ K G5 (.ref p5) (bs++[⟨[],.go 99⟩]):=Kd m5.at_ (hBA.imp λ_ _ z=>z.same t5) ⟨a3,_,_,rfl,SqT.of (m5.same _ _ (m4.same _ _ m3.at_)),⟨a1,[],rfl,m5.same _ _ (t1 _ _ m1.at_),.nil⟩,⟨a2,rfl,SqT.of (m5.same _ _ (m4.same _ _ (m3.same _ _ m2.at_)))⟩⟩
   refine⟨_,_,1,_,cs,rfl,hB5,hC.same t5,λ_ H3 s3=>?_,λz=>absurd z (Vr hg.l1),λz=>absurd z (Vr hg.l1),λz=>absurd z (Vr hg.l1)⟩
   have t6:=t5.trans s3
   dsimp only[vW,JA,cond_true]
   refine vq (by simp) ⟨by decide,λb1 U1 e1=>⟨by decide,λb2 U2 e2=>⟨by decide,λb3 U3 e3=>⟨by decide,λb4 U4 e4=>⟨by decide,λb5 U5 e5=>?_⟩⟩⟩⟩⟩
   have u2:=e3.same.trans (e4.same.trans e5.same)
   have u0:=t6.trans (e1.same.trans (e2.same.trans u2))
   refine⟨lc,b5,cxs,_,rfl,rfl,u0 _ _ hlc,e5.at_,?_,λp6 U6 e6=>?_⟩
   ·rw[hCA.1]
    exact Nat.le_trans (by simp only[List.length_cons,List.length_nil];omega:_<=10) (by decide)
   have u6:=u0.trans e6.same
   have hC6:jZ K U6 (.ref p6) (cs++[⟨[.move 20 21],.fin⟩]):=Kd e6.at_ (hCA.imp λ_ _ z=>z.same u6) ⟨b4,_,_,rfl,SqT.of (e6.same _ _ (e5.same _ _ e4.at_)),⟨b2,[.ref b1],rfl,e6.same _ _ (u2 _ _ e2.at_),.cons ⟨b1,rfl,SqT.of (e6.same _ _ (u2 _ _ (e2.same _ _ e1.at_)))⟩ .nil⟩,⟨b3,rfl,SqT.of (e6.same _ _ (e5.same _ _ (e4.same _ _ e3.at_)))⟩⟩
   refine⟨_,_,n,bs,_,rfl,hB.same u6,hC6,λz=>absurd hg.okP z,λ_ z=>absurd hn z,λ_ _ _ H4 s4=>?_,λ_ _ z=>absurd z (KR (by omega))⟩
   have u7:=u6.trans s4
   dsimp only[vW,JA,cond_true]
   refine vq (by simp) ⟨_,_,n,bs,cs,rfl,hB.same u7,hC.same u7,λz=>absurd hg.okP z,λ_ z=>absurd hn z,λ_ _ z=>absurd okc z,λ_ _ _ H5 r s5 hr5=>?_⟩
   have u8:=u7.trans s5
   refine⟨_,_,n,bs,cs,rfl,hB.same u8,hC.same u8,hg.okP,hn,okc,hgc.low,λH6 r2 s6 hr6=>?_⟩
   have e:r=r2:=Bool.eq_iff_iff.mpr (hr5.trans hr6.symm)
   subst e
   dsimp only[Kj,WF,cond_true]
   rw[decide_eq_true rfl]
   exact q _
  obtain⟨tx8,h8,k8⟩:∃ tx,PSs (xO CX0 P w K mg base ["_law_script","_law_blocks","_law_pans","_law_code","_law_k","_law_way"] "law" (q8 xI) a.law cdv A outer s H E).nox ((qk xI).drop 8) tx /\
    ∀ σ H',StL K sc 5 100 σ H'->tx { nx:=λ_ H'=>Q .non H',rt:=Q } σ H':=by
   refine⟨_,(qf (zf (qm y3 (pv 5) (qH (q5 qa (q5 qa qd))) rfl) (qh (kz (qH (q5 (qz qu (qz qZ (pv 3) qa (λ_ _=>rfl)) qa (λ_ _=>rfl)) (q5 (qo G__law_other (hr.mono (by decide)) rfl T.F__law_other.mg T.F__law_other.fn.kp T.F__law_other.b .nil qX (q5 (qz qu (qz qZ (pv 3) qa (λ_ _=>rfl)) qa (λ_ _=>rfl)) (q5 (qP ze (by rfl) T.len PySem.boot_len (q5 (pv 3) qd)) qd))) qd))) (y7 (pv 3) qa wJ))) qI)
   h9),?_⟩
   rintro σ H1 ⟨Hb,vb,bs,n,vc,cs,u,wy,rfl,hB0,s1,hF,hg,hgc,n2,n5⟩
   try walk_at "rd"
   refine⟨by decide,λa0 G0 m0=>⟨a0,_,rfl,.inr (SqT.of m0.at_),rfl,rfl,?_⟩⟩
   dsimp only[jH]
   refine xN (λc=>?_) (λc=>k9 _ _ ⟨Hb,vb,bs,n,vc,cs,u,wy,rfl,hB0,s1.trans m0.same,hF.same m0.same,hg,hgc,n2,n5⟩)
   obtain⟨lc,cxs,rfl,fr,hlc,hA⟩:=hF.same m0.same
   have hl0:=hgc.l0
   have xl:=hA.1
   obtain⟨b,hb⟩:∃ b,cs[0]?=some b:=⟨_,List.getElem?_eq_getElem (by omega)⟩
   obtain⟨v0,hv0,⟨qb,dl,en,rfl,hBT,hD,hE⟩⟩:=hA.get' hb
   obtain⟨gb1,gb2,gb3⟩:=hgc.ds b (List.mem_of_getElem? hb)
   have hL:=SqL.of (K:=K) hlc
   have hB:=zp.seqT hBT
   refine qR hL (vh (by decide) hv0) (qi hB rfl (qR hL (vh (by decide) hv0) (qi hB rfl (jN hL ⟨_,b.en,n,cs.length,by rw[xl],hE.same zp,gb3,hl0,λt e' G1 st ht ok'=>⟨by decide,λa2 G2 m2=>?_⟩⟩))))
   have t2:=st.trans m2.same
   unfold Yn
   try walk_at "rd"
   refine⟨lc,cxs,0,0,rfl,rfl,t2 _ _ hlc,ix0 (by omega),?_⟩
   have hT:=ja (p:=lc) t2
   exact k9 _ _ ⟨Hb,vb,bs,n,_,_,u,wy,rfl,hB0,jv ((s1.trans m0.same).trans t2) fr,xU.put (b:=⟨b.ds,e'⟩) fr (hA.imp λ_ _ z=>z.same hT) ⟨a2,_,_,rfl,SqT.of (by rw[zb (Vx m2 (st _ _ hlc))];exact m2.at_),hD.same hT,⟨t,rfl,SqT.of (by rw[zb (xZ (m2.same _ _ ht) (t2 _ _ hlc) (by intro z;cases z))];exact m2.same _ _ ht)⟩⟩ _,hg,hgc.put (b:=⟨b.ds,e'⟩) (Nat.le_refl _) ⟨gb1,gb2,ok'⟩ _,n2,n5⟩
  obtain⟨tx7,h7,k7⟩:∃ tx,PSs (xO CX0 P w K mg base ["_law_script","_law_blocks","_law_pans","_law_code","_law_k","_law_way"] "law" (q8 xI) a.law cdv A outer s H E).nox ((qk xI).drop 7) tx /\
    ∀ σ H',StL K sc 5 100 σ H'->tx { nx:=λ_ H'=>Q .non H',rt:=Q } σ H':=by
   refine⟨_,(qf (zf (qm jq (pv 5) qa (qC _)) (qh (kz (qH (q5 (qz qu (qz qZ (pv 3) qa (λ_ _=>rfl)) qa (λ_ _=>rfl)) (q5 (qH (q5 qD qd)) qd))) (y7 (pv 3) qa wJ))) qI)
   h8),?_⟩
   rintro σ H1 ⟨Hb,vb,bs,n,vc,cs,u,wy,rfl,hB0,s1,hF,hg,hgc,n2,n5⟩
   try walk_at "rd"
   refine xN (λc=>?_) (λc=>k8 _ _ ⟨Hb,vb,bs,n,vc,cs,u,wy,rfl,hB0,s1,hF,hg,hgc,n2,n5⟩)
   obtain⟨lc,cxs,rfl,fr,hlc,hA⟩:=hF
   have hl0:=hgc.l0
   have xl:=hA.1
   obtain⟨b,hb⟩:∃ b,cs[0]?=some b:=⟨_,List.getElem?_eq_getElem (by omega)⟩
   obtain⟨v0,hv0,⟨qb,dl,en,rfl,hBT,hD,hE⟩⟩:=hA.get' hb
   obtain⟨gb1,gb2,gb3⟩:=hgc.ds b (List.mem_of_getElem? hb)
   refine qR (SqL.of hlc) (vh (by decide) hv0) (qi (zp.seqT hBT) rfl ⟨by decide,λa1 G1 m1=>⟨by decide,λa2 G2 m2=>?_⟩⟩)
   have t2:=m1.same.trans m2.same
   unfold Yn
   try walk_at "rd"
   refine⟨lc,cxs,0,0,rfl,rfl,t2 _ _ hlc,ix0 (by omega),?_⟩
   have hT:=ja (p:=lc) t2
   exact k8 _ _ ⟨Hb,vb,bs,n,_,_,u,wy,rfl,hB0,jv (s1.trans t2) fr,xU.put (b:=⟨b.ds,.fin⟩) fr (hA.imp λ_ _ z=>z.same hT) ⟨a2,_,_,rfl,SqT.of (by rw[zb (Vx m2 (m1.same _ _ hlc))];exact m2.at_),hD.same hT,⟨a1,rfl,SqT.of (by rw[zb (Vx m1 hlc)];exact m2.same _ _ m1.at_)⟩⟩ _,hg,hgc.put (b:=⟨b.ds,.fin⟩) (Nat.le_refl _) ⟨gb1,gb2,trivial⟩ _,n2,n5⟩
  obtain⟨tx6,h6,k6⟩:∃ tx,PSs (xO CX0 P w K mg base ["_law_script","_law_blocks","_law_pans","_law_code","_law_k","_law_way"] "law" (q8 xI) a.law cdv A outer s H E).nox ((qk xI).drop 6) tx /\
    ∀ σ H',StL K sc 5 99 σ H'->tx { nx:=λ_ H'=>Q .non H',rt:=Q } σ H':=by
   refine⟨_,(qf (zf (qm jq (pv 5) qa (qC _)) (qh (kz (qH (q5 (qw zm (qz qu (qz qZ (pv 3) (Jq JH qa) (λ_ _=>rfl)) qa (λ_ _=>rfl)) (qO (q5 (qH (q5 qD (q5 qa qd))) qd))) (q5 (qz qu (qz qZ (pv 3) (Jq JH qa) (λ_ _=>rfl)) qa (λ_ _=>rfl)) qd))) (y7 (pv 3) (Jq JH qa) wJ))) qI)
   h7),?_⟩
   rintro σ H1 ⟨Hb,vb,bs,n,vc,cs,u,wy,rfl,hB0,s1,hF,hg,hgc,n2,n5⟩
   try walk_at "rd"
   refine xN (λc=>?_) (λc=>k7 _ _ ⟨Hb,vb,bs,n,vc,cs,u,wy,rfl,hB0,s1,hF,hg,hgc.mono (Nat.le_refl _) (by decide),n2,n5⟩)
   obtain⟨lc,cxs,rfl,fr,hlc,hA⟩:=hF
   have hl0:=hgc.l0
   have xl:=hA.1
   obtain⟨b,hb⟩:∃ b,cs[cxs.length-1]?=some b:=⟨_,List.getElem?_eq_getElem (by omega)⟩
   obtain⟨v0,hv0,⟨qb,dl,en,rfl,hBT,⟨pd,ys,rfl,hDL,hDA⟩,hE⟩⟩:=hA.get' hb
   obtain⟨gb1,gb2,gb3⟩:=hgc.ds b (List.mem_of_getElem? hb)
   have at1:atI cxs (-1)=some (.ref qb):=JD hv0
   have yl:=hDA.1
   refine qR (SqL.of hlc) at1 (qi (zp.seqT hBT) rfl ⟨by decide,λa1 G1 m1=>⟨by decide,λa2 G2 m2=>?_⟩⟩)
   have t2:=m1.same.trans m2.same
   refine⟨pd,a2,ys,_,rfl,rfl,t2 _ _ (zp _ _ hDL),m2.at_,?_,λa3 G3 m3=>?_⟩
   ·rw[yl]
    exact Nat.le_trans (by simp only[List.length_cons,List.length_nil];omega:_<=1000) (by decide)
   have t3:=t2.trans m3.same
   refine qR (SqL.of (t3 _ _ hlc)) at1 (qi (t3.seqT (zp.seqT hBT)) rfl ⟨by decide,λa4 G4 m4=>?_⟩)
   have t4:=t3.trans m4.same
   unfold Yn
   try walk_at "rd"
   refine⟨lc,cxs,-1,cxs.length-1,rfl,rfl,t4 _ _ hlc,?_,?_⟩
   ·unfold ixN
    rw[if_neg (by decide),if_pos (by omega)]
    congr 1
    omega
   have ne:∀ {G G':Hp} {p:Addr} {o:HO},qq H1 G->New G p o G'->p≠lc:=λsG m e=>by
    have:=sG _ _ hlc
    rw[<-e,m.fr] at this
    cases this
   have hT:=ja (p:=lc) t4
   exact k7 _ _ ⟨Hb,vb,bs,n,_,_,u,wy,rfl,hB0,jv (s1.trans t4) fr,xU.put (b:=⟨b.ds++[.tell 0],b.en⟩) fr (hA.imp λ_ _ z=>z.same hT) ⟨a4,_,_,rfl,SqT.of (by rw[zb (ne t3 m4)];exact m4.at_),⟨a3,_,rfl,(by rw[zb (ne t2 m3)];exact m4.same _ _ m3.at_),(hDA.imp λ_ _ z=>z.same hT).append (.cons ⟨a1,rfl,SqT.of (by rw[zb (ne (qq.refl _) m1)];exact m4.same _ _ (m3.same _ _ (m2.same _ _ m1.at_)))⟩ .nil)⟩,hE.same hT⟩ _,hg,
    hgc.put (k:=100) (b:=⟨b.ds++[.tell 0],b.en⟩) (by decide) ⟨by rw[List.length_append];simp only[List.length_cons,List.length_nil];omega,λd hd=>(List.mem_append.mp hd).elim (gb2 d) λz=>by rw[List.mem_singleton.mp z];exact⟨⟨by decide,by decide⟩,trivial,trivial,λ_=>⟨by decide,by omega⟩⟩,gb3⟩ _,n2,n5⟩
  obtain⟨tx5,h5,k5⟩:∃ tx,PSs (xO CX0 P w K mg base ["_law_script","_law_blocks","_law_pans","_law_code","_law_k","_law_way"] "law" (q8 xI) a.law cdv A outer s H E).nox ((qk xI).drop 5) tx /\
    ∀ σ H',StL K sc 4 99 σ H'->tx { nx:=λ_ H'=>Q .non H',rt:=Q } σ H':=by
   refine⟨_,(qf (zf (qm jq (pv 5) qa (qC _)) (qh (qy (i:=3) wx.nd rfl (Or.inl rfl) (qw zm (pv 3) (qO (q5 (qH (q5 (qO qd) (q5 (qH (q5 qD qd)) qd))) qd))))) qI)
   h6),?_⟩
   rintro σ H1 ⟨Hb,vb,bs,n,vc,cs,u,wy,rfl,hB0,s1,hF,hg,hgc,n2,n5⟩
   try walk_at "rd"
   refine xN (λc=>?_) (λc=>k6 _ _ ⟨Hb,vb,bs,n,vc,cs,u,wy,rfl,hB0,s1,hF,hg,hgc.mono (by decide) (Nat.le_refl _),n2,n5⟩)
   obtain⟨lc,cxs,rfl,fr,hlc,hA⟩:=hF
   refine⟨by decide,λa1 G1 m1=>⟨by decide,λa2 G2 m2=>⟨by decide,λa3 G3 m3=>⟨by decide,λa4 G4 m4=>?_⟩⟩⟩⟩
   have t1:=m2.same.trans (m3.same.trans m4.same)
   have t4:qq H1 G4:=m1.same.trans t1
   refine⟨lc,a4,cxs,_,rfl,rfl,t4 _ _ hlc,m4.at_,?_,λp5 G5 m5=>?_⟩
   ·rw[hA.1]
    have:=hgc.l1
    exact Nat.le_trans (by simp only[List.length_cons,List.length_nil];omega:_<=10) (by decide)
   have th:qq G4 (hide G5 p5):=Zy m5.same m5.fr
   exact k6 _ _ ⟨Hb,vb,bs,n,_,cs++[⟨[],.fin⟩],u,wy,rfl,hB0,s1.trans (t4.trans m5.same),We (b:=⟨[],.fin⟩) ((s1.trans t4).free m5.fr) m5.at_ (hA.imp λ_ _ z=>(z.same zp).same (t4.trans th)) ⟨a3,_,_,rfl,SqT.of (th _ _ (m4.same _ _ m3.at_)),⟨a1,[],rfl,th _ _ (t1 _ _ m1.at_),.nil⟩,⟨a2,rfl,SqT.of (th _ _ (m4.same _ _ (m3.same _ _ m2.at_)))⟩⟩,hg,hgc.more,n2,n5⟩
  refine⟨_,(qf (qy (i:=1) wx.nd rfl (Or.inl rfl) (qo G__law_program (hr.mono (by decide)) rfl T.F__law_program.mg T.F__law_program.fn.kp T.F__law_program.b .nil qX (q5 (pv 0) qd)))
   (qf (qy (i:=2) wx.nd rfl (Or.inl rfl) (qw zD qa (qw z4 (qo G__law_mix (hr.mono (by decide)) rfl T.F__law_mix.mg T.F__law_mix.fn.kp T.F__law_mix.b .nil qX (q5 (pv 0) (q5 qa qd))) qa)))
   (qf (qy (i:=3) wx.nd rfl (Or.inl rfl) (qo G__law_homes (hr.mono (by decide)) rfl T.F__law_homes.mg T.F__law_homes.fn.kp T.F__law_homes.b .nil qX (q5 (pv 1) (q5 (pv 2) qd))))
   (qf (zU PassesOwn.never rfl (jw rfl T.range (q5 (qw z4 (qo G__law_mix (hr.mono (by decide)) rfl T.F__law_mix.mg T.F__law_mix.fn.kp T.F__law_mix.b .nil qX (q5 (pv 0) (q5 qa qd))) qa) qd)) (qr (i:=4) wx.nd rfl (Or.inl rfl))
    (qh (qy (i:=3) wx.nd rfl (Or.inl rfl) (qo G__law_changed (hr.mono (by decide)) rfl T.F__law_changed.mg T.F__law_changed.fn.kp T.F__law_changed.b .nil qX (q5 (pv 0) (q5 (qw zD qa (pv 4)) (q5 (pv 3) (q5 (pv 2) qd))))))))
   (qf (qy (i:=5) wx.nd rfl (Or.inl rfl) (qw z4 (qo G__law_mix (hr.mono (by decide)) rfl T.F__law_mix.mg T.F__law_mix.fn.kp T.F__law_mix.b .nil qX (q5 (pv 0) (q5 qa qd))) qa))
   h5))))),?_⟩
  try walk_at "rd"
  refine⟨_,ns,rfl,hS,λvb H1 bs s1 hN hg=>?_⟩
  obtain⟨p,xs,rfl,hfr,hx,hA⟩:=hN
  have hB1:jZ K H1 (.ref p) bs:=⟨p,xs,rfl,hx,hA.imp λ_ _ z=>z.same zp⟩
  refine⟨_,ns,_,rfl,s1.seq hS,?_⟩
  try walk_at "rd"
  refine⟨_,_,bs,rfl,hB1,hg,by omega,by omega,λvc H2 cs s2 hC2 hgc=>?_⟩
  have s12:=s1.trans s2
  refine⟨_,ns,_,rfl,s12.seq hS,?_⟩
  try walk_at "rd"
  refine⟨by omega,by omega,kY (λi σ H'=>∃ v' cs' u,σ=[some (.ref sc),some (.ref p),some (.int (2+mix ns 55 % 4)),some v',u,none]/\xU K H1 H' v' cs'/\Xw (2+mix ns 55 % 4) (60+i) cs'/\qq H1 H') ⟨vc,cs,_,rfl,hC2,hgc,s2⟩ ?_ ?_⟩
  ·rintro i σ H4 hi ⟨v',cs',u,rfl,hP',hg',s4⟩
   have hi4:i<4:=by omega
   try walk_at "rd"
   refine⟨_,_,v',_,60+i,cs',ns,rfl,(s1.trans s4).seq hS,hP'.pN,hg',by omega,by omega,by omega,λv2 H5 cs2 s5 hP2 hg2=>?_⟩
   try walk_at "rd"
   exact⟨_,_,_,⟨rfl,rfl⟩,hP2.low s4,hg2,s4.trans s5⟩
  ·rintro σ H4 ⟨v',cs',u,rfl,hP',hg',s4⟩
   try walk_at "rd"
   refine⟨_,ns,_,rfl,(s1.trans s4).seq hS,?_⟩
   try walk_at "rd"
   exact k5 _ _ ⟨H1,_,bs,_,v',cs',u,_,rfl,hB1,s4,hP',hg,hg'.gX (by omega),by omega,by omega⟩
end
theorem lenS {n:Nat}{l:List α}(h:l.length=n+1):∃ a m,l=a::m/\m.length=n:=by
 cases l with
 |nil=>cases h
 |cons a m=>exact⟨a,m,rfl,Nat.succ.inj h⟩
theorem len0 {l:List α}(h:l.length=0):l=[]:=List.eq_nil_of_length_eq_zero h
theorem ZZ {l:List α}(h:l.length=1):∃ a0,l=[a0]:=by
 obtain⟨a,m,rfl,g⟩:=lenS h
 obtain rfl:=len0 g
 exact⟨_,rfl⟩
theorem ZY {l:List α}(h:l.length=2):∃ a0 a1,l=[a0,a1]:=by
 obtain⟨a,m,rfl,g⟩:=lenS h
 obtain⟨_,rfl⟩:=ZZ g
 exact⟨_,_,rfl⟩
theorem XT {l:List α}(h:l.length=3):∃ a0 a1 a2,l=[a0,a1,a2]:=by
 obtain⟨a,m,rfl,g⟩:=lenS h
 obtain⟨_,_,rfl⟩:=ZY g
 exact⟨_,_,_,rfl⟩
theorem len4 {l:List α}(h:l.length=4):∃ a0 a1 a2 a3,l=[a0,a1,a2,a3]:=by
 obtain⟨a,m,rfl,g⟩:=lenS h
 obtain⟨_,_,_,rfl⟩:=XT g
 exact⟨_,_,_,_,rfl⟩
theorem mkTx {w:World}{h:Heap}{mg:Str->Option Value}(X:K.In h)(G:h.Ns mainGlobals mg)
  {C_PressError:Addr}
  {C_BadProgram:Addr}
  {C_BadPans:Addr}
  {C_Stuck:Addr}
  {f_is_move:Addr} {od_is_move an_is_move:Option Addr} {sl_is_move:Array (Option Value)} {oc_is_move kV_is_move dc_is_move pm_is_move cd_is_move ct_is_move:Value}
  {f_rows_of:Addr} {od_rows_of an_rows_of:Option Addr} {sl_rows_of:Array (Option Value)} {oc_rows_of kV_rows_of dc_rows_of pm_rows_of cd_rows_of ct_rows_of:Value}
  {f_given_in:Addr} {od_given_in an_given_in:Option Addr} {sl_given_in:Array (Option Value)} {oc_given_in kV_given_in dc_given_in pm_given_in cd_given_in ct_given_in:Value}
  {f_read_in:Addr} {od_read_in an_read_in:Option Addr} {sl_read_in:Array (Option Value)} {oc_read_in kV_read_in dc_read_in pm_read_in cd_read_in ct_read_in:Value}
  {f_without_names:Addr} {od_without_names an_without_names:Option Addr} {sl_without_names:Array (Option Value)} {oc_without_names kV_without_names dc_without_names pm_without_names cd_without_names ct_without_names:Value}
  {f_ways_on:Addr} {od_ways_on an_ways_on:Option Addr} {sl_ways_on:Array (Option Value)} {oc_ways_on kV_ways_on dc_ways_on pm_ways_on cd_ways_on ct_ways_on:Value}
  {f_check_sizes:Addr} {od_check_sizes an_check_sizes:Option Addr} {sl_check_sizes:Array (Option Value)} {oc_check_sizes kV_check_sizes dc_check_sizes pm_check_sizes cd_check_sizes ct_check_sizes:Value}
  {f_check_rows:Addr} {od_check_rows an_check_rows:Option Addr} {sl_check_rows:Array (Option Value)} {oc_check_rows kV_check_rows dc_check_rows pm_check_rows cd_check_rows ct_check_rows:Value}
  {f_check_deed:Addr} {od_check_deed an_check_deed:Option Addr} {sl_check_deed:Array (Option Value)} {oc_check_deed kV_check_deed dc_check_deed pm_check_deed cd_check_deed ct_check_deed:Value}
  {f_check_end:Addr} {od_check_end an_check_end:Option Addr} {sl_check_end:Array (Option Value)} {oc_check_end kV_check_end dc_check_end pm_check_end cd_check_end ct_check_end:Value}
  {f_check_names:Addr} {od_check_names an_check_names:Option Addr} {sl_check_names:Array (Option Value)} {oc_check_names kV_check_names dc_check_names pm_check_names cd_check_names ct_check_names:Value}
  {f_check_pans:Addr} {od_check_pans an_check_pans:Option Addr} {sl_check_pans:Array (Option Value)} {oc_check_pans kV_check_pans dc_check_pans pm_check_pans cd_check_pans ct_check_pans:Value}
  {f_check_code:Addr} {od_check_code an_check_code:Option Addr} {sl_check_code:Array (Option Value)} {oc_check_code kV_check_code dc_check_code pm_check_code cd_check_code ct_check_code:Value}
  {f_check_move:Addr} {od_check_move an_check_move:Option Addr} {sl_check_move:Array (Option Value)} {oc_check_move kV_check_move dc_check_move pm_check_move cd_check_move ct_check_move:Value}
  {f_moves_in:Addr} {od_moves_in an_moves_in:Option Addr} {sl_moves_in:Array (Option Value)} {oc_moves_in kV_moves_in dc_moves_in pm_moves_in cd_moves_in ct_moves_in:Value}
  {f_without_moves:Addr} {od_without_moves an_without_moves:Option Addr} {sl_without_moves:Array (Option Value)} {oc_without_moves kV_without_moves dc_without_moves pm_without_moves cd_without_moves ct_without_moves:Value}
  {f_check_program:Addr} {od_check_program an_check_program:Option Addr} {sl_check_program:Array (Option Value)} {oc_check_program kV_check_program dc_check_program pm_check_program cd_check_program ct_check_program:Value}
  {f_passes:Addr} {od_passes an_passes:Option Addr} {sl_passes:Array (Option Value)} {oc_passes kV_passes dc_passes pm_passes cd_passes ct_passes:Value}
  {f_has_shape:Addr} {od_has_shape an_has_shape:Option Addr} {sl_has_shape:Array (Option Value)} {oc_has_shape kV_has_shape dc_has_shape pm_has_shape cd_has_shape ct_has_shape:Value}
  {f_shape_of:Addr} {od_shape_of an_shape_of:Option Addr} {sl_shape_of:Array (Option Value)} {oc_shape_of kV_shape_of dc_shape_of pm_shape_of cd_shape_of ct_shape_of:Value}
  {f_reads_what_is_held:Addr} {od_reads_what_is_held an_reads_what_is_held:Option Addr} {sl_reads_what_is_held:Array (Option Value)} {oc_reads_what_is_held kV_reads_what_is_held dc_reads_what_is_held pm_reads_what_is_held cd_reads_what_is_held ct_reads_what_is_held:Value}
  {f_side_by_side:Addr} {od_side_by_side an_side_by_side:Option Addr} {sl_side_by_side:Array (Option Value)} {oc_side_by_side kV_side_by_side dc_side_by_side pm_side_by_side cd_side_by_side ct_side_by_side:Value}
  {f_held_at_beginnings:Addr} {od_held_at_beginnings an_held_at_beginnings:Option Addr} {sl_held_at_beginnings:Array (Option Value)} {oc_held_at_beginnings kV_held_at_beginnings dc_held_at_beginnings pm_held_at_beginnings cd_held_at_beginnings ct_held_at_beginnings:Value}
  {f_held_in_both:Addr} {od_held_in_both an_held_in_both:Option Addr} {sl_held_in_both:Array (Option Value)} {oc_held_in_both kV_held_in_both dc_held_in_both pm_held_in_both cd_held_in_both ct_held_in_both:Value}
  {f_held_at_end:Addr} {od_held_at_end an_held_at_end:Option Addr} {sl_held_at_end:Array (Option Value)} {oc_held_at_end kV_held_at_end dc_held_at_end pm_held_at_end cd_held_at_end ct_held_at_end:Value}
  {f_reads_of_block_are_held:Addr} {od_reads_of_block_are_held an_reads_of_block_are_held:Option Addr} {sl_reads_of_block_are_held:Array (Option Value)} {oc_reads_of_block_are_held kV_reads_of_block_are_held dc_reads_of_block_are_held pm_reads_of_block_are_held cd_reads_of_block_are_held ct_reads_of_block_are_held:Value}
  {f_reads_are_held:Addr} {od_reads_are_held an_reads_are_held:Option Addr} {sl_reads_are_held:Array (Option Value)} {oc_reads_are_held kV_reads_are_held dc_reads_are_held pm_reads_are_held cd_reads_are_held ct_reads_are_held:Value}
  {f_take_note:Addr} {od_take_note an_take_note:Option Addr} {sl_take_note:Array (Option Value)} {oc_take_note kV_take_note dc_take_note pm_take_note cd_take_note ct_take_note:Value}
  {f_note_move:Addr} {od_note_move an_note_move:Option Addr} {sl_note_move:Array (Option Value)} {oc_note_move kV_note_move dc_note_move pm_note_move cd_note_move ct_note_move:Value}
  {f_note_given:Addr} {od_note_given an_note_given:Option Addr} {sl_note_given:Array (Option Value)} {oc_note_given kV_note_given dc_note_given pm_note_given cd_note_given ct_note_given:Value}
  {f__law_cell:Addr} {od__law_cell an__law_cell:Option Addr} {sl__law_cell:Array (Option Value)} {oc__law_cell kV__law_cell dc__law_cell pm__law_cell cd__law_cell ct__law_cell:Value}
  {f__law_mix:Addr} {od__law_mix an__law_mix:Option Addr} {sl__law_mix:Array (Option Value)} {oc__law_mix kV__law_mix dc__law_mix pm__law_mix cd__law_mix ct__law_mix:Value}
  {f__law_deed:Addr} {od__law_deed an__law_deed:Option Addr} {sl__law_deed:Array (Option Value)} {oc__law_deed kV__law_deed dc__law_deed pm__law_deed cd__law_deed ct__law_deed:Value}
  {f__law_end:Addr} {od__law_end an__law_end:Option Addr} {sl__law_end:Array (Option Value)} {oc__law_end kV__law_end dc__law_end pm__law_end cd__law_end ct__law_end:Value}
  {f__law_program:Addr} {od__law_program an__law_program:Option Addr} {sl__law_program:Array (Option Value)} {oc__law_program kV__law_program dc__law_program pm__law_program cd__law_program ct__law_program:Value}
  {f__law_homes:Addr} {od__law_homes an__law_homes:Option Addr} {sl__law_homes:Array (Option Value)} {oc__law_homes kV__law_homes dc__law_homes pm__law_homes cd__law_homes ct__law_homes:Value}
  {f__law_changed:Addr} {od__law_changed an__law_changed:Option Addr} {sl__law_changed:Array (Option Value)} {oc__law_changed kV__law_changed dc__law_changed pm__law_changed cd__law_changed ct__law_changed:Value}
  {f__law_shape:Addr} {od__law_shape an__law_shape:Option Addr} {sl__law_shape:Array (Option Value)} {oc__law_shape kV__law_shape dc__law_shape pm__law_shape cd__law_shape ct__law_shape:Value}
  {f__law_reads:Addr} {od__law_reads an__law_reads:Option Addr} {sl__law_reads:Array (Option Value)} {oc__law_reads kV__law_reads dc__law_reads pm__law_reads cd__law_reads ct__law_reads:Value}
  {f__law_walk:Addr} {od__law_walk an__law_walk:Option Addr} {sl__law_walk:Array (Option Value)} {oc__law_walk kV__law_walk dc__law_walk pm__law_walk cd__law_walk ct__law_walk:Value}
  {f__law_due:Addr} {od__law_due an__law_due:Option Addr} {sl__law_due:Array (Option Value)} {oc__law_due kV__law_due dc__law_due pm__law_due cd__law_due ct__law_due:Value}
  {f__law_told:Addr} {od__law_told an__law_told:Option Addr} {sl__law_told:Array (Option Value)} {oc__law_told kV__law_told dc__law_told pm__law_told cd__law_told ct__law_told:Value}
  {f__law_other:Addr} {od__law_other an__law_other:Option Addr} {sl__law_other:Array (Option Value)} {oc__law_other kV__law_other dc__law_other pm__law_other cd__law_other ct__law_other:Value}
  {f_law:Addr} {od_law an_law:Option Addr} {sl_law:Array (Option Value)} {oc_law kV_law dc_law pm_law cd_law ct_law:Value}
  {t_MOST_BLOCKS:Nat}
  {t_FEWEST_PANS:Nat}
  {t_MOST_PANS:Nat}
  {t_MOST_DEEDS_codes:Nat}
  {t_PLACES:Nat}
  {t_MOST_DEEDS_programs:Nat}
  {t_NAMES:Nat}
  {q_WORDS:Addr}
  {y_WORDS_2:Nat}
  {y_WORDS_1:Nat}
  {y_WORDS_0:Nat}
  {w_WORDS:Option Addr} {m_WORDS:Nat} {o_WORDS:Array (Option Value)}
  {q_DEED_SIZES:Addr} {e_DEED_SIZES:Array DictEntry} {n_DEED_SIZES:Nat}
  {q_END_SIZES:Addr} {e_END_SIZES:Array DictEntry} {n_END_SIZES:Nat}
  {q_GIVEN_SPOTS:Addr} {e_GIVEN_SPOTS:Array DictEntry} {n_GIVEN_SPOTS:Nat}
  {q_READ_SPOTS:Addr} {e_READ_SPOTS:Array DictEntry} {n_READ_SPOTS:Nat}
  {q_BLOCK_SPOTS:Addr} {e_BLOCK_SPOTS:Array DictEntry} {n_BLOCK_SPOTS:Nat}
  {u_DEED_SIZES_set:Nat}
  {u_DEED_SIZES_input:Nat}
  {u_DEED_SIZES_op:Nat}
  {u_DEED_SIZES_tell:Nat}
  {u_END_SIZES_go:Nat}
  {u_END_SIZES_if:Nat}
  {u_END_SIZES_end:Nat}
  {q_gs_set:Addr}
  {y_gs_set_0:Nat}
  {w_gs_set:Option Addr} {m_gs_set:Nat} {o_gs_set:Array (Option Value)}
  {q_gs_input:Addr}
  {y_gs_input_0:Nat}
  {w_gs_input:Option Addr} {m_gs_input:Nat} {o_gs_input:Array (Option Value)}
  {q_gs_op:Addr}
  {y_gs_op_0:Nat}
  {w_gs_op:Option Addr} {m_gs_op:Nat} {o_gs_op:Array (Option Value)}
  {q_gs_tell:Addr}
  {w_gs_tell:Option Addr} {m_gs_tell:Nat} {o_gs_tell:Array (Option Value)}
  {q_gs_go:Addr}
  {w_gs_go:Option Addr} {m_gs_go:Nat} {o_gs_go:Array (Option Value)}
  {q_gs_if:Addr}
  {w_gs_if:Option Addr} {m_gs_if:Nat} {o_gs_if:Array (Option Value)}
  {q_gs_end:Addr}
  {w_gs_end:Option Addr} {m_gs_end:Nat} {o_gs_end:Array (Option Value)}
  {q_rs_set:Addr}
  {w_rs_set:Option Addr} {m_rs_set:Nat} {o_rs_set:Array (Option Value)}
  {q_rs_input:Addr}
  {w_rs_input:Option Addr} {m_rs_input:Nat} {o_rs_input:Array (Option Value)}
  {q_rs_op:Addr}
  {y_rs_op_1:Nat}
  {y_rs_op_0:Nat}
  {w_rs_op:Option Addr} {m_rs_op:Nat} {o_rs_op:Array (Option Value)}
  {q_rs_tell:Addr}
  {y_rs_tell_0:Nat}
  {w_rs_tell:Option Addr} {m_rs_tell:Nat} {o_rs_tell:Array (Option Value)}
  {q_rs_go:Addr}
  {w_rs_go:Option Addr} {m_rs_go:Nat} {o_rs_go:Array (Option Value)}
  {q_rs_if:Addr}
  {y_rs_if_0:Nat}
  {w_rs_if:Option Addr} {m_rs_if:Nat} {o_rs_if:Array (Option Value)}
  {q_rs_end:Addr}
  {w_rs_end:Option Addr} {m_rs_end:Nat} {o_rs_end:Array (Option Value)}
  {q_bs_go:Addr}
  {y_bs_go_0:Nat}
  {w_bs_go:Option Addr} {m_bs_go:Nat} {o_bs_go:Array (Option Value)}
  {q_bs_if:Addr}
  {y_bs_if_1:Nat}
  {y_bs_if_0:Nat}
  {w_bs_if:Option Addr} {m_bs_if:Nat} {o_bs_if:Array (Option Value)}
  {q_bs_end:Addr}
  {w_bs_end:Option Addr} {m_bs_end:Nat} {o_bs_end:Array (Option Value)}
  {cx_BadProgram:ClassData}
  {cx_BadPans:ClassData}
  {cx_Stuck:ClassData}
  (g_PressError:PySem.W.nsIn K mainGlobals "PressError"=some (some (.ref C_PressError)))
  (g_BadProgram:PySem.W.nsIn K mainGlobals "BadProgram"=some (some (.ref C_BadProgram)))
  (g_BadPans:PySem.W.nsIn K mainGlobals "BadPans"=some (some (.ref C_BadPans)))
  (g_Stuck:PySem.W.nsIn K mainGlobals "Stuck"=some (some (.ref C_Stuck)))
  (a_is_move:PySem.W.nsIn K mainGlobals "is_move"=some (some (.ref f_is_move)))
  (l_is_move:K.lookup f_is_move=some ⟨oc_is_move,od_is_move,.func (PySem.W.fnOf "is_move" "is_move" (ql jJ) (qk jJ) (q8 jJ) .none kV_is_move dc_is_move pm_is_move an_is_move cd_is_move ct_is_move),sl_is_move⟩)
  (c_is_move:PySem.W.codeIn K cd_is_move "is_move"=true)
  (k_is_move:PySem.W.keepIn K (.ref f_is_move)=true)
  (a_rows_of:PySem.W.nsIn K mainGlobals "rows_of"=some (some (.ref f_rows_of)))
  (l_rows_of:K.lookup f_rows_of=some ⟨oc_rows_of,od_rows_of,.func (PySem.W.fnOf "rows_of" "rows_of" (ql jL) (qk jL) (q8 jL) .none kV_rows_of dc_rows_of pm_rows_of an_rows_of cd_rows_of ct_rows_of),sl_rows_of⟩)
  (c_rows_of:PySem.W.codeIn K cd_rows_of "rows_of"=true)
  (k_rows_of:PySem.W.keepIn K (.ref f_rows_of)=true)
  (a_given_in:PySem.W.nsIn K mainGlobals "given_in"=some (some (.ref f_given_in)))
  (l_given_in:K.lookup f_given_in=some ⟨oc_given_in,od_given_in,.func (PySem.W.fnOf "given_in" "given_in" (ql je) (qk je) (q8 je) .none kV_given_in dc_given_in pm_given_in an_given_in cd_given_in ct_given_in),sl_given_in⟩)
  (c_given_in:PySem.W.codeIn K cd_given_in "given_in"=true)
  (k_given_in:PySem.W.keepIn K (.ref f_given_in)=true)
  (a_read_in:PySem.W.nsIn K mainGlobals "read_in"=some (some (.ref f_read_in)))
  (l_read_in:K.lookup f_read_in=some ⟨oc_read_in,od_read_in,.func (PySem.W.fnOf "read_in" "read_in" (ql jy) (qk jy) (q8 jy) .none kV_read_in dc_read_in pm_read_in an_read_in cd_read_in ct_read_in),sl_read_in⟩)
  (c_read_in:PySem.W.codeIn K cd_read_in "read_in"=true)
  (k_read_in:PySem.W.keepIn K (.ref f_read_in)=true)
  (a_without_names:PySem.W.nsIn K mainGlobals "without_names"=some (some (.ref f_without_names)))
  (l_without_names:K.lookup f_without_names=some ⟨oc_without_names,od_without_names,.func (PySem.W.fnOf "without_names" "without_names" (ql qV) (qk qV) (q8 qV) .none kV_without_names dc_without_names pm_without_names an_without_names cd_without_names ct_without_names),sl_without_names⟩)
  (c_without_names:PySem.W.codeIn K cd_without_names "without_names"=true)
  (k_without_names:PySem.W.keepIn K (.ref f_without_names)=true)
  (a_ways_on:PySem.W.nsIn K mainGlobals "ways_on"=some (some (.ref f_ways_on)))
  (l_ways_on:K.lookup f_ways_on=some ⟨oc_ways_on,od_ways_on,.func (PySem.W.fnOf "ways_on" "ways_on" (ql jz) (qk jz) (q8 jz) .none kV_ways_on dc_ways_on pm_ways_on an_ways_on cd_ways_on ct_ways_on),sl_ways_on⟩)
  (c_ways_on:PySem.W.codeIn K cd_ways_on "ways_on"=true)
  (k_ways_on:PySem.W.keepIn K (.ref f_ways_on)=true)
  (a_check_sizes:PySem.W.nsIn K mainGlobals "check_sizes"=some (some (.ref f_check_sizes)))
  (l_check_sizes:K.lookup f_check_sizes=some ⟨oc_check_sizes,od_check_sizes,.func (PySem.W.fnOf "check_sizes" "check_sizes" (ql zq) (qk zq) (q8 zq) .none kV_check_sizes dc_check_sizes pm_check_sizes an_check_sizes cd_check_sizes ct_check_sizes),sl_check_sizes⟩)
  (c_check_sizes:PySem.W.codeIn K cd_check_sizes "check_sizes"=true)
  (k_check_sizes:PySem.W.keepIn K (.ref f_check_sizes)=true)
  (a_check_rows:PySem.W.nsIn K mainGlobals "check_rows"=some (some (.ref f_check_rows)))
  (l_check_rows:K.lookup f_check_rows=some ⟨oc_check_rows,od_check_rows,.func (PySem.W.fnOf "check_rows" "check_rows" (ql zM) (qk zM) (q8 zM) .none kV_check_rows dc_check_rows pm_check_rows an_check_rows cd_check_rows ct_check_rows),sl_check_rows⟩)
  (c_check_rows:PySem.W.codeIn K cd_check_rows "check_rows"=true)
  (k_check_rows:PySem.W.keepIn K (.ref f_check_rows)=true)
  (a_check_deed:PySem.W.nsIn K mainGlobals "check_deed"=some (some (.ref f_check_deed)))
  (l_check_deed:K.lookup f_check_deed=some ⟨oc_check_deed,od_check_deed,.func (PySem.W.fnOf "check_deed" "check_deed" (ql zJ) (qk zJ) (q8 zJ) .none kV_check_deed dc_check_deed pm_check_deed an_check_deed cd_check_deed ct_check_deed),sl_check_deed⟩)
  (c_check_deed:PySem.W.codeIn K cd_check_deed "check_deed"=true)
  (k_check_deed:PySem.W.keepIn K (.ref f_check_deed)=true)
  (a_check_end:PySem.W.nsIn K mainGlobals "check_end"=some (some (.ref f_check_end)))
  (l_check_end:K.lookup f_check_end=some ⟨oc_check_end,od_check_end,.func (PySem.W.fnOf "check_end" "check_end" (ql j3) (qk j3) (q8 j3) .none kV_check_end dc_check_end pm_check_end an_check_end cd_check_end ct_check_end),sl_check_end⟩)
  (c_check_end:PySem.W.codeIn K cd_check_end "check_end"=true)
  (k_check_end:PySem.W.keepIn K (.ref f_check_end)=true)
  (a_check_names:PySem.W.nsIn K mainGlobals "check_names"=some (some (.ref f_check_names)))
  (l_check_names:K.lookup f_check_names=some ⟨oc_check_names,od_check_names,.func (PySem.W.fnOf "check_names" "check_names" (ql zr) (qk zr) (q8 zr) .none kV_check_names dc_check_names pm_check_names an_check_names cd_check_names ct_check_names),sl_check_names⟩)
  (c_check_names:PySem.W.codeIn K cd_check_names "check_names"=true)
  (k_check_names:PySem.W.keepIn K (.ref f_check_names)=true)
  (a_check_pans:PySem.W.nsIn K mainGlobals "check_pans"=some (some (.ref f_check_pans)))
  (l_check_pans:K.lookup f_check_pans=some ⟨oc_check_pans,od_check_pans,.func (PySem.W.fnOf "check_pans" "check_pans" (ql zE) (qk zE) (q8 zE) .none kV_check_pans dc_check_pans pm_check_pans an_check_pans cd_check_pans ct_check_pans),sl_check_pans⟩)
  (c_check_pans:PySem.W.codeIn K cd_check_pans "check_pans"=true)
  (k_check_pans:PySem.W.keepIn K (.ref f_check_pans)=true)
  (a_check_code:PySem.W.nsIn K mainGlobals "check_code"=some (some (.ref f_check_code)))
  (l_check_code:K.lookup f_check_code=some ⟨oc_check_code,od_check_code,.func (PySem.W.fnOf "check_code" "check_code" (ql zO) (qk zO) (q8 zO) .none kV_check_code dc_check_code pm_check_code an_check_code cd_check_code ct_check_code),sl_check_code⟩)
  (c_check_code:PySem.W.codeIn K cd_check_code "check_code"=true)
  (k_check_code:PySem.W.keepIn K (.ref f_check_code)=true)
  (a_check_move:PySem.W.nsIn K mainGlobals "check_move"=some (some (.ref f_check_move)))
  (l_check_move:K.lookup f_check_move=some ⟨oc_check_move,od_check_move,.func (PySem.W.fnOf "check_move" "check_move" (ql zI) (qk zI) (q8 zI) .none kV_check_move dc_check_move pm_check_move an_check_move cd_check_move ct_check_move),sl_check_move⟩)
  (c_check_move:PySem.W.codeIn K cd_check_move "check_move"=true)
  (k_check_move:PySem.W.keepIn K (.ref f_check_move)=true)
  (a_moves_in:PySem.W.nsIn K mainGlobals "moves_in"=some (some (.ref f_moves_in)))
  (l_moves_in:K.lookup f_moves_in=some ⟨oc_moves_in,od_moves_in,.func (PySem.W.fnOf "moves_in" "moves_in" (ql jc) (qk jc) (q8 jc) .none kV_moves_in dc_moves_in pm_moves_in an_moves_in cd_moves_in ct_moves_in),sl_moves_in⟩)
  (c_moves_in:PySem.W.codeIn K cd_moves_in "moves_in"=true)
  (k_moves_in:PySem.W.keepIn K (.ref f_moves_in)=true)
  (a_without_moves:PySem.W.nsIn K mainGlobals "without_moves"=some (some (.ref f_without_moves)))
  (l_without_moves:K.lookup f_without_moves=some ⟨oc_without_moves,od_without_moves,.func (PySem.W.fnOf "without_moves" "without_moves" (ql qW) (qk qW) (q8 qW) .none kV_without_moves dc_without_moves pm_without_moves an_without_moves cd_without_moves ct_without_moves),sl_without_moves⟩)
  (c_without_moves:PySem.W.codeIn K cd_without_moves "without_moves"=true)
  (k_without_moves:PySem.W.keepIn K (.ref f_without_moves)=true)
  (a_check_program:PySem.W.nsIn K mainGlobals "check_program"=some (some (.ref f_check_program)))
  (l_check_program:K.lookup f_check_program=some ⟨oc_check_program,od_check_program,.func (PySem.W.fnOf "check_program" "check_program" (ql z8) (qk z8) (q8 z8) .none kV_check_program dc_check_program pm_check_program an_check_program cd_check_program ct_check_program),sl_check_program⟩)
  (c_check_program:PySem.W.codeIn K cd_check_program "check_program"=true)
  (k_check_program:PySem.W.keepIn K (.ref f_check_program)=true)
  (a_passes:PySem.W.nsIn K mainGlobals "passes"=some (some (.ref f_passes)))
  (l_passes:K.lookup f_passes=some ⟨oc_passes,od_passes,.func (PySem.W.fnOf "passes" "passes" (ql x3) (qk x3) (q8 x3) .none kV_passes dc_passes pm_passes an_passes cd_passes ct_passes),sl_passes⟩)
  (c_passes:PySem.W.codeIn K cd_passes "passes"=true)
  (k_passes:PySem.W.keepIn K (.ref f_passes)=true)
  (a_has_shape:PySem.W.nsIn K mainGlobals "has_shape"=some (some (.ref f_has_shape)))
  (l_has_shape:K.lookup f_has_shape=some ⟨oc_has_shape,od_has_shape,.func (PySem.W.fnOf "has_shape" "has_shape" (ql zy) (qk zy) (q8 zy) .none kV_has_shape dc_has_shape pm_has_shape an_has_shape cd_has_shape ct_has_shape),sl_has_shape⟩)
  (c_has_shape:PySem.W.codeIn K cd_has_shape "has_shape"=true)
  (k_has_shape:PySem.W.keepIn K (.ref f_has_shape)=true)
  (a_shape_of:PySem.W.nsIn K mainGlobals "shape_of"=some (some (.ref f_shape_of)))
  (l_shape_of:K.lookup f_shape_of=some ⟨oc_shape_of,od_shape_of,.func (PySem.W.fnOf "shape_of" "shape_of" (ql jd) (qk jd) (q8 jd) .none kV_shape_of dc_shape_of pm_shape_of an_shape_of cd_shape_of ct_shape_of),sl_shape_of⟩)
  (c_shape_of:PySem.W.codeIn K cd_shape_of "shape_of"=true)
  (k_shape_of:PySem.W.keepIn K (.ref f_shape_of)=true)
  (a_reads_what_is_held:PySem.W.nsIn K mainGlobals "reads_what_is_held"=some (some (.ref f_reads_what_is_held)))
  (l_reads_what_is_held:K.lookup f_reads_what_is_held=some ⟨oc_reads_what_is_held,od_reads_what_is_held,.func (PySem.W.fnOf "reads_what_is_held" "reads_what_is_held" (ql qG) (qk qG) (q8 qG) .none kV_reads_what_is_held dc_reads_what_is_held pm_reads_what_is_held an_reads_what_is_held cd_reads_what_is_held ct_reads_what_is_held),sl_reads_what_is_held⟩)
  (c_reads_what_is_held:PySem.W.codeIn K cd_reads_what_is_held "reads_what_is_held"=true)
  (k_reads_what_is_held:PySem.W.keepIn K (.ref f_reads_what_is_held)=true)
  (a_side_by_side:PySem.W.nsIn K mainGlobals "side_by_side"=some (some (.ref f_side_by_side)))
  (l_side_by_side:K.lookup f_side_by_side=some ⟨oc_side_by_side,od_side_by_side,.func (PySem.W.fnOf "side_by_side" "side_by_side" (ql zh) (qk zh) (q8 zh) .none kV_side_by_side dc_side_by_side pm_side_by_side an_side_by_side cd_side_by_side ct_side_by_side),sl_side_by_side⟩)
  (c_side_by_side:PySem.W.codeIn K cd_side_by_side "side_by_side"=true)
  (k_side_by_side:PySem.W.keepIn K (.ref f_side_by_side)=true)
  (a_held_at_beginnings:PySem.W.nsIn K mainGlobals "held_at_beginnings"=some (some (.ref f_held_at_beginnings)))
  (l_held_at_beginnings:K.lookup f_held_at_beginnings=some ⟨oc_held_at_beginnings,od_held_at_beginnings,.func (PySem.W.fnOf "held_at_beginnings" "held_at_beginnings" (ql qJ) (qk qJ) (q8 qJ) .none kV_held_at_beginnings dc_held_at_beginnings pm_held_at_beginnings an_held_at_beginnings cd_held_at_beginnings ct_held_at_beginnings),sl_held_at_beginnings⟩)
  (c_held_at_beginnings:PySem.W.codeIn K cd_held_at_beginnings "held_at_beginnings"=true)
  (k_held_at_beginnings:PySem.W.keepIn K (.ref f_held_at_beginnings)=true)
  (a_held_in_both:PySem.W.nsIn K mainGlobals "held_in_both"=some (some (.ref f_held_in_both)))
  (l_held_in_both:K.lookup f_held_in_both=some ⟨oc_held_in_both,od_held_in_both,.func (PySem.W.fnOf "held_in_both" "held_in_both" (ql zi) (qk zi) (q8 zi) .none kV_held_in_both dc_held_in_both pm_held_in_both an_held_in_both cd_held_in_both ct_held_in_both),sl_held_in_both⟩)
  (c_held_in_both:PySem.W.codeIn K cd_held_in_both "held_in_both"=true)
  (k_held_in_both:PySem.W.keepIn K (.ref f_held_in_both)=true)
  (a_held_at_end:PySem.W.nsIn K mainGlobals "held_at_end"=some (some (.ref f_held_at_end)))
  (l_held_at_end:K.lookup f_held_at_end=some ⟨oc_held_at_end,od_held_at_end,.func (PySem.W.fnOf "held_at_end" "held_at_end" (ql zt) (qk zt) (q8 zt) .none kV_held_at_end dc_held_at_end pm_held_at_end an_held_at_end cd_held_at_end ct_held_at_end),sl_held_at_end⟩)
  (c_held_at_end:PySem.W.codeIn K cd_held_at_end "held_at_end"=true)
  (k_held_at_end:PySem.W.keepIn K (.ref f_held_at_end)=true)
  (a_reads_of_block_are_held:PySem.W.nsIn K mainGlobals "reads_of_block_are_held"=some (some (.ref f_reads_of_block_are_held)))
  (l_reads_of_block_are_held:K.lookup f_reads_of_block_are_held=some ⟨oc_reads_of_block_are_held,od_reads_of_block_are_held,.func (PySem.W.fnOf "reads_of_block_are_held" "reads_of_block_are_held" (ql qA) (qk qA) (q8 qA) .none kV_reads_of_block_are_held dc_reads_of_block_are_held pm_reads_of_block_are_held an_reads_of_block_are_held cd_reads_of_block_are_held ct_reads_of_block_are_held),sl_reads_of_block_are_held⟩)
  (c_reads_of_block_are_held:PySem.W.codeIn K cd_reads_of_block_are_held "reads_of_block_are_held"=true)
  (k_reads_of_block_are_held:PySem.W.keepIn K (.ref f_reads_of_block_are_held)=true)
  (a_reads_are_held:PySem.W.nsIn K mainGlobals "reads_are_held"=some (some (.ref f_reads_are_held)))
  (l_reads_are_held:K.lookup f_reads_are_held=some ⟨oc_reads_are_held,od_reads_are_held,.func (PySem.W.fnOf "reads_are_held" "reads_are_held" (ql qT) (qk qT) (q8 qT) .none kV_reads_are_held dc_reads_are_held pm_reads_are_held an_reads_are_held cd_reads_are_held ct_reads_are_held),sl_reads_are_held⟩)
  (c_reads_are_held:PySem.W.codeIn K cd_reads_are_held "reads_are_held"=true)
  (k_reads_are_held:PySem.W.keepIn K (.ref f_reads_are_held)=true)
  (a_take_note:PySem.W.nsIn K mainGlobals "take_note"=some (some (.ref f_take_note)))
  (l_take_note:K.lookup f_take_note=some ⟨oc_take_note,od_take_note,.func (PySem.W.fnOf "take_note" "take_note" (ql j1) (qk j1) (q8 j1) .none kV_take_note dc_take_note pm_take_note an_take_note cd_take_note ct_take_note),sl_take_note⟩)
  (c_take_note:PySem.W.codeIn K cd_take_note "take_note"=true)
  (k_take_note:PySem.W.keepIn K (.ref f_take_note)=true)
  (a_note_move:PySem.W.nsIn K mainGlobals "note_move"=some (some (.ref f_note_move)))
  (l_note_move:K.lookup f_note_move=some ⟨oc_note_move,od_note_move,.func (PySem.W.fnOf "note_move" "note_move" (ql j7) (qk j7) (q8 j7) .none kV_note_move dc_note_move pm_note_move an_note_move cd_note_move ct_note_move),sl_note_move⟩)
  (c_note_move:PySem.W.codeIn K cd_note_move "note_move"=true)
  (k_note_move:PySem.W.keepIn K (.ref f_note_move)=true)
  (a_note_given:PySem.W.nsIn K mainGlobals "note_given"=some (some (.ref f_note_given)))
  (l_note_given:K.lookup f_note_given=some ⟨oc_note_given,od_note_given,.func (PySem.W.fnOf "note_given" "note_given" (ql zC) (qk zC) (q8 zC) .none kV_note_given dc_note_given pm_note_given an_note_given cd_note_given ct_note_given),sl_note_given⟩)
  (c_note_given:PySem.W.codeIn K cd_note_given "note_given"=true)
  (k_note_given:PySem.W.keepIn K (.ref f_note_given)=true)
  (a__law_cell:PySem.W.nsIn K mainGlobals "_law_cell"=some (some (.ref f__law_cell)))
  (l__law_cell:K.lookup f__law_cell=some ⟨oc__law_cell,od__law_cell,.func (PySem.W.fnOf "_law_cell" "_law_cell" (ql j6) (qk j6) (q8 j6) .none kV__law_cell dc__law_cell pm__law_cell an__law_cell cd__law_cell ct__law_cell),sl__law_cell⟩)
  (c__law_cell:PySem.W.codeIn K cd__law_cell "_law_cell"=true)
  (k__law_cell:PySem.W.keepIn K (.ref f__law_cell)=true)
  (a__law_mix:PySem.W.nsIn K mainGlobals "_law_mix"=some (some (.ref f__law_mix)))
  (l__law_mix:K.lookup f__law_mix=some ⟨oc__law_mix,od__law_mix,.func (PySem.W.fnOf "_law_mix" "_law_mix" (ql ju) (qk ju) (q8 ju) .none kV__law_mix dc__law_mix pm__law_mix an__law_mix cd__law_mix ct__law_mix),sl__law_mix⟩)
  (c__law_mix:PySem.W.codeIn K cd__law_mix "_law_mix"=true)
  (k__law_mix:PySem.W.keepIn K (.ref f__law_mix)=true)
  (a__law_deed:PySem.W.nsIn K mainGlobals "_law_deed"=some (some (.ref f__law_deed)))
  (l__law_deed:K.lookup f__law_deed=some ⟨oc__law_deed,od__law_deed,.func (PySem.W.fnOf "_law_deed" "_law_deed" (ql j8) (qk j8) (q8 j8) .none kV__law_deed dc__law_deed pm__law_deed an__law_deed cd__law_deed ct__law_deed),sl__law_deed⟩)
  (c__law_deed:PySem.W.codeIn K cd__law_deed "_law_deed"=true)
  (k__law_deed:PySem.W.keepIn K (.ref f__law_deed)=true)
  (a__law_end:PySem.W.nsIn K mainGlobals "_law_end"=some (some (.ref f__law_end)))
  (l__law_end:K.lookup f__law_end=some ⟨oc__law_end,od__law_end,.func (PySem.W.fnOf "_law_end" "_law_end" (ql jr) (qk jr) (q8 jr) .none kV__law_end dc__law_end pm__law_end an__law_end cd__law_end ct__law_end),sl__law_end⟩)
  (c__law_end:PySem.W.codeIn K cd__law_end "_law_end"=true)
  (k__law_end:PySem.W.keepIn K (.ref f__law_end)=true)
  (a__law_program:PySem.W.nsIn K mainGlobals "_law_program"=some (some (.ref f__law_program)))
  (l__law_program:K.lookup f__law_program=some ⟨oc__law_program,od__law_program,.func (PySem.W.fnOf "_law_program" "_law_program" (ql qS) (qk qS) (q8 qS) .none kV__law_program dc__law_program pm__law_program an__law_program cd__law_program ct__law_program),sl__law_program⟩)
  (c__law_program:PySem.W.codeIn K cd__law_program "_law_program"=true)
  (k__law_program:PySem.W.keepIn K (.ref f__law_program)=true)
  (a__law_homes:PySem.W.nsIn K mainGlobals "_law_homes"=some (some (.ref f__law_homes)))
  (l__law_homes:K.lookup f__law_homes=some ⟨oc__law_homes,od__law_homes,.func (PySem.W.fnOf "_law_homes" "_law_homes" (ql zK) (qk zK) (q8 zK) .none kV__law_homes dc__law_homes pm__law_homes an__law_homes cd__law_homes ct__law_homes),sl__law_homes⟩)
  (c__law_homes:PySem.W.codeIn K cd__law_homes "_law_homes"=true)
  (k__law_homes:PySem.W.keepIn K (.ref f__law_homes)=true)
  (a__law_changed:PySem.W.nsIn K mainGlobals "_law_changed"=some (some (.ref f__law_changed)))
  (l__law_changed:K.lookup f__law_changed=some ⟨oc__law_changed,od__law_changed,.func (PySem.W.fnOf "_law_changed" "_law_changed" (ql qM) (qk qM) (q8 qM) .none kV__law_changed dc__law_changed pm__law_changed an__law_changed cd__law_changed ct__law_changed),sl__law_changed⟩)
  (c__law_changed:PySem.W.codeIn K cd__law_changed "_law_changed"=true)
  (k__law_changed:PySem.W.keepIn K (.ref f__law_changed)=true)
  (a__law_shape:PySem.W.nsIn K mainGlobals "_law_shape"=some (some (.ref f__law_shape)))
  (l__law_shape:K.lookup f__law_shape=some ⟨oc__law_shape,od__law_shape,.func (PySem.W.fnOf "_law_shape" "_law_shape" (ql zN) (qk zN) (q8 zN) .none kV__law_shape dc__law_shape pm__law_shape an__law_shape cd__law_shape ct__law_shape),sl__law_shape⟩)
  (c__law_shape:PySem.W.codeIn K cd__law_shape "_law_shape"=true)
  (k__law_shape:PySem.W.keepIn K (.ref f__law_shape)=true)
  (a__law_reads:PySem.W.nsIn K mainGlobals "_law_reads"=some (some (.ref f__law_reads)))
  (l__law_reads:K.lookup f__law_reads=some ⟨oc__law_reads,od__law_reads,.func (PySem.W.fnOf "_law_reads" "_law_reads" (ql zL) (qk zL) (q8 zL) .none kV__law_reads dc__law_reads pm__law_reads an__law_reads cd__law_reads ct__law_reads),sl__law_reads⟩)
  (c__law_reads:PySem.W.codeIn K cd__law_reads "_law_reads"=true)
  (k__law_reads:PySem.W.keepIn K (.ref f__law_reads)=true)
  (a__law_walk:PySem.W.nsIn K mainGlobals "_law_walk"=some (some (.ref f__law_walk)))
  (l__law_walk:K.lookup f__law_walk=some ⟨oc__law_walk,od__law_walk,.func (PySem.W.fnOf "_law_walk" "_law_walk" (ql z6) (qk z6) (q8 z6) .none kV__law_walk dc__law_walk pm__law_walk an__law_walk cd__law_walk ct__law_walk),sl__law_walk⟩)
  (c__law_walk:PySem.W.codeIn K cd__law_walk "_law_walk"=true)
  (k__law_walk:PySem.W.keepIn K (.ref f__law_walk)=true)
  (a__law_due:PySem.W.nsIn K mainGlobals "_law_due"=some (some (.ref f__law_due)))
  (l__law_due:K.lookup f__law_due=some ⟨oc__law_due,od__law_due,.func (PySem.W.fnOf "_law_due" "_law_due" (ql zZ) (qk zZ) (q8 zZ) .none kV__law_due dc__law_due pm__law_due an__law_due cd__law_due ct__law_due),sl__law_due⟩)
  (c__law_due:PySem.W.codeIn K cd__law_due "_law_due"=true)
  (k__law_due:PySem.W.keepIn K (.ref f__law_due)=true)
  (a__law_told:PySem.W.nsIn K mainGlobals "_law_told"=some (some (.ref f__law_told)))
  (l__law_told:K.lookup f__law_told=some ⟨oc__law_told,od__law_told,.func (PySem.W.fnOf "_law_told" "_law_told" (ql zx) (qk zx) (q8 zx) .none kV__law_told dc__law_told pm__law_told an__law_told cd__law_told ct__law_told),sl__law_told⟩)
  (c__law_told:PySem.W.codeIn K cd__law_told "_law_told"=true)
  (k__law_told:PySem.W.keepIn K (.ref f__law_told)=true)
  (a__law_other:PySem.W.nsIn K mainGlobals "_law_other"=some (some (.ref f__law_other)))
  (l__law_other:K.lookup f__law_other=some ⟨oc__law_other,od__law_other,.func (PySem.W.fnOf "_law_other" "_law_other" (ql zB) (qk zB) (q8 zB) .none kV__law_other dc__law_other pm__law_other an__law_other cd__law_other ct__law_other),sl__law_other⟩)
  (c__law_other:PySem.W.codeIn K cd__law_other "_law_other"=true)
  (k__law_other:PySem.W.keepIn K (.ref f__law_other)=true)
  (a_law:PySem.W.nsIn K mainGlobals "law"=some (some (.ref f_law)))
  (l_law:K.lookup f_law=some ⟨oc_law,od_law,.func (PySem.W.fnOf "law" "law" (ql xI) (qk xI) (q8 xI) .none kV_law dc_law pm_law an_law cd_law ct_law),sl_law⟩)
  (c_law:PySem.W.codeIn K cd_law "law"=true)
  (k_law:PySem.W.keepIn K (.ref f_law)=true)
  (g_MOST_BLOCKS:PySem.W.nsIn K mainGlobals "MOST_BLOCKS"=some (some (.int 12 t_MOST_BLOCKS)))
  (g_FEWEST_PANS:PySem.W.nsIn K mainGlobals "FEWEST_PANS"=some (some (.int 2 t_FEWEST_PANS)))
  (g_MOST_PANS:PySem.W.nsIn K mainGlobals "MOST_PANS"=some (some (.int 16 t_MOST_PANS)))
  (g_MOST_DEEDS_codes:PySem.W.nsIn K mainGlobals "MOST_DEEDS_codes"=some (some (.int 400 t_MOST_DEEDS_codes)))
  (g_PLACES:PySem.W.nsIn K mainGlobals "PLACES"=some (some (.int 60 t_PLACES)))
  (g_MOST_DEEDS_programs:PySem.W.nsIn K mainGlobals "MOST_DEEDS_programs"=some (some (.int 30 t_MOST_DEEDS_programs)))
  (g_NAMES:PySem.W.nsIn K mainGlobals "NAMES"=some (some (.int 24 t_NAMES)))
  (g_WORDS:PySem.W.nsIn K mainGlobals "WORDS"=some (some (.ref q_WORDS)))
  (tl_WORDS:K.lookup q_WORDS=some ⟨.type "tuple",w_WORDS,.seq #[.str "plus" y_WORDS_0,.str "minus" y_WORDS_1,.str "times" y_WORDS_2] m_WORDS,o_WORDS⟩)
  (g_DEED_SIZES:PySem.W.nsIn K mainGlobals "DEED_SIZES"=some (some (.ref q_DEED_SIZES)))
  (dl_DEED_SIZES:K.lookup q_DEED_SIZES=some ⟨.type "dict",none,.dict e_DEED_SIZES n_DEED_SIZES,#[]⟩)
  (dk_DEED_SIZES:PySem.W.KeysLit w.params e_DEED_SIZES.toList)
  (ds_DEED_SIZES:(q_DEED_SIZES == sysModules)=false)
  (g_END_SIZES:PySem.W.nsIn K mainGlobals "END_SIZES"=some (some (.ref q_END_SIZES)))
  (dl_END_SIZES:K.lookup q_END_SIZES=some ⟨.type "dict",none,.dict e_END_SIZES n_END_SIZES,#[]⟩)
  (dk_END_SIZES:PySem.W.KeysLit w.params e_END_SIZES.toList)
  (ds_END_SIZES:(q_END_SIZES == sysModules)=false)
  (g_GIVEN_SPOTS:PySem.W.nsIn K mainGlobals "GIVEN_SPOTS"=some (some (.ref q_GIVEN_SPOTS)))
  (dl_GIVEN_SPOTS:K.lookup q_GIVEN_SPOTS=some ⟨.type "dict",none,.dict e_GIVEN_SPOTS n_GIVEN_SPOTS,#[]⟩)
  (dk_GIVEN_SPOTS:PySem.W.KeysLit w.params e_GIVEN_SPOTS.toList)
  (ds_GIVEN_SPOTS:(q_GIVEN_SPOTS == sysModules)=false)
  (g_READ_SPOTS:PySem.W.nsIn K mainGlobals "READ_SPOTS"=some (some (.ref q_READ_SPOTS)))
  (dl_READ_SPOTS:K.lookup q_READ_SPOTS=some ⟨.type "dict",none,.dict e_READ_SPOTS n_READ_SPOTS,#[]⟩)
  (dk_READ_SPOTS:PySem.W.KeysLit w.params e_READ_SPOTS.toList)
  (ds_READ_SPOTS:(q_READ_SPOTS == sysModules)=false)
  (g_BLOCK_SPOTS:PySem.W.nsIn K mainGlobals "BLOCK_SPOTS"=some (some (.ref q_BLOCK_SPOTS)))
  (dl_BLOCK_SPOTS:K.lookup q_BLOCK_SPOTS=some ⟨.type "dict",none,.dict e_BLOCK_SPOTS n_BLOCK_SPOTS,#[]⟩)
  (dk_BLOCK_SPOTS:PySem.W.KeysLit w.params e_BLOCK_SPOTS.toList)
  (ds_BLOCK_SPOTS:(q_BLOCK_SPOTS == sysModules)=false)
  (v_DEED_SIZES_set:PySem.W.nsIn K q_DEED_SIZES "set"=some (some (.int 3 u_DEED_SIZES_set)))
  (v_DEED_SIZES_input:PySem.W.nsIn K q_DEED_SIZES "input"=some (some (.int 3 u_DEED_SIZES_input)))
  (v_DEED_SIZES_op:PySem.W.nsIn K q_DEED_SIZES "op"=some (some (.int 5 u_DEED_SIZES_op)))
  (v_DEED_SIZES_tell:PySem.W.nsIn K q_DEED_SIZES "tell"=some (some (.int 2 u_DEED_SIZES_tell)))
  (v_END_SIZES_go:PySem.W.nsIn K q_END_SIZES "go"=some (some (.int 2 u_END_SIZES_go)))
  (v_END_SIZES_if:PySem.W.nsIn K q_END_SIZES "if"=some (some (.int 4 u_END_SIZES_if)))
  (v_END_SIZES_end:PySem.W.nsIn K q_END_SIZES "end"=some (some (.int 1 u_END_SIZES_end)))
  (v_ds_move:PySem.W.nsIn K q_DEED_SIZES "move"=some none)
  (v_gs_set:PySem.W.nsIn K q_GIVEN_SPOTS "set"=some (some (.ref q_gs_set)))
  (tl_gs_set:K.lookup q_gs_set=some ⟨.type "tuple",w_gs_set,.seq #[.int 1 y_gs_set_0] m_gs_set,o_gs_set⟩)
  (v_gs_input:PySem.W.nsIn K q_GIVEN_SPOTS "input"=some (some (.ref q_gs_input)))
  (tl_gs_input:K.lookup q_gs_input=some ⟨.type "tuple",w_gs_input,.seq #[.int 1 y_gs_input_0] m_gs_input,o_gs_input⟩)
  (v_gs_op:PySem.W.nsIn K q_GIVEN_SPOTS "op"=some (some (.ref q_gs_op)))
  (tl_gs_op:K.lookup q_gs_op=some ⟨.type "tuple",w_gs_op,.seq #[.int 2 y_gs_op_0] m_gs_op,o_gs_op⟩)
  (v_gs_tell:PySem.W.nsIn K q_GIVEN_SPOTS "tell"=some (some (.ref q_gs_tell)))
  (tl_gs_tell:K.lookup q_gs_tell=some ⟨.type "tuple",w_gs_tell,.seq #[] m_gs_tell,o_gs_tell⟩)
  (v_gs_go:PySem.W.nsIn K q_GIVEN_SPOTS "go"=some (some (.ref q_gs_go)))
  (tl_gs_go:K.lookup q_gs_go=some ⟨.type "tuple",w_gs_go,.seq #[] m_gs_go,o_gs_go⟩)
  (v_gs_if:PySem.W.nsIn K q_GIVEN_SPOTS "if"=some (some (.ref q_gs_if)))
  (tl_gs_if:K.lookup q_gs_if=some ⟨.type "tuple",w_gs_if,.seq #[] m_gs_if,o_gs_if⟩)
  (v_gs_end:PySem.W.nsIn K q_GIVEN_SPOTS "end"=some (some (.ref q_gs_end)))
  (tl_gs_end:K.lookup q_gs_end=some ⟨.type "tuple",w_gs_end,.seq #[] m_gs_end,o_gs_end⟩)
  (v_rs_set:PySem.W.nsIn K q_READ_SPOTS "set"=some (some (.ref q_rs_set)))
  (tl_rs_set:K.lookup q_rs_set=some ⟨.type "tuple",w_rs_set,.seq #[] m_rs_set,o_rs_set⟩)
  (v_rs_input:PySem.W.nsIn K q_READ_SPOTS "input"=some (some (.ref q_rs_input)))
  (tl_rs_input:K.lookup q_rs_input=some ⟨.type "tuple",w_rs_input,.seq #[] m_rs_input,o_rs_input⟩)
  (v_rs_op:PySem.W.nsIn K q_READ_SPOTS "op"=some (some (.ref q_rs_op)))
  (tl_rs_op:K.lookup q_rs_op=some ⟨.type "tuple",w_rs_op,.seq #[.int 3 y_rs_op_0,.int 4 y_rs_op_1] m_rs_op,o_rs_op⟩)
  (v_rs_tell:PySem.W.nsIn K q_READ_SPOTS "tell"=some (some (.ref q_rs_tell)))
  (tl_rs_tell:K.lookup q_rs_tell=some ⟨.type "tuple",w_rs_tell,.seq #[.int 1 y_rs_tell_0] m_rs_tell,o_rs_tell⟩)
  (v_rs_go:PySem.W.nsIn K q_READ_SPOTS "go"=some (some (.ref q_rs_go)))
  (tl_rs_go:K.lookup q_rs_go=some ⟨.type "tuple",w_rs_go,.seq #[] m_rs_go,o_rs_go⟩)
  (v_rs_if:PySem.W.nsIn K q_READ_SPOTS "if"=some (some (.ref q_rs_if)))
  (tl_rs_if:K.lookup q_rs_if=some ⟨.type "tuple",w_rs_if,.seq #[.int 1 y_rs_if_0] m_rs_if,o_rs_if⟩)
  (v_rs_end:PySem.W.nsIn K q_READ_SPOTS "end"=some (some (.ref q_rs_end)))
  (tl_rs_end:K.lookup q_rs_end=some ⟨.type "tuple",w_rs_end,.seq #[] m_rs_end,o_rs_end⟩)
  (v_bs_go:PySem.W.nsIn K q_BLOCK_SPOTS "go"=some (some (.ref q_bs_go)))
  (tl_bs_go:K.lookup q_bs_go=some ⟨.type "tuple",w_bs_go,.seq #[.int 1 y_bs_go_0] m_bs_go,o_bs_go⟩)
  (v_bs_if:PySem.W.nsIn K q_BLOCK_SPOTS "if"=some (some (.ref q_bs_if)))
  (tl_bs_if:K.lookup q_bs_if=some ⟨.type "tuple",w_bs_if,.seq #[.int 2 y_bs_if_0,.int 3 y_bs_if_1] m_bs_if,o_bs_if⟩)
  (v_bs_end:PySem.W.nsIn K q_BLOCK_SPOTS "end"=some (some (.ref q_bs_end)))
  (tl_bs_end:K.lookup q_bs_end=some ⟨.type "tuple",w_bs_end,.seq #[] m_bs_end,o_bs_end⟩)
  (xc_BadProgram:PySem.W.excIn K C_BadProgram [.type "ValueError",.type "Exception",.type "BaseException",.type "object"] "ValueError.__new__"=true)
  (xc_BadPans:PySem.W.excIn K C_BadPans [.type "ValueError",.type "Exception",.type "BaseException",.type "object"] "ValueError.__new__"=true)
  (xc_Stuck:PySem.W.excIn K C_Stuck [.type "ValueError",.type "Exception",.type "BaseException",.type "object"] "ValueError.__new__"=true)
  (ga_BadProgram:PySem.W.findIn K (.ref C_BadProgram) "__getattribute__"=some (some (.builtin "BaseException.__getattribute__")))
  (gn_BadProgram:PySem.W.findIn K (.ref C_BadProgram) "__getattr__"=some none)
  (cl_BadProgram:PySem.W.findIn K (.ref C_BadProgram) "__class__"=some (some (.builtin "object.__class__")))
  (sb_BadProgram:PySem.W.subIn K (.ref C_BadProgram) (.type "BaseException")=some true)
  (mo_BadProgram:PySem.W.mroIn K C_BadProgram (.type "object")=some true)
  (ic_BadProgram:PySem.W.clsIn K C_BadProgram=some cx_BadProgram)
  (hn_BadProgram:PySem.W.specialIn K (.builtin "object.__class__") "__get__"=some (some (.builtin "getset_descriptor.__get__")))
  (tk_BadProgram:PySem.W.takesIn K (.builtin "object.__class__")=some true)
  (ga_BadPans:PySem.W.findIn K (.ref C_BadPans) "__getattribute__"=some (some (.builtin "BaseException.__getattribute__")))
  (gn_BadPans:PySem.W.findIn K (.ref C_BadPans) "__getattr__"=some none)
  (cl_BadPans:PySem.W.findIn K (.ref C_BadPans) "__class__"=some (some (.builtin "object.__class__")))
  (sb_BadPans:PySem.W.subIn K (.ref C_BadPans) (.type "BaseException")=some true)
  (mo_BadPans:PySem.W.mroIn K C_BadPans (.type "object")=some true)
  (ic_BadPans:PySem.W.clsIn K C_BadPans=some cx_BadPans)
  (hn_BadPans:PySem.W.specialIn K (.builtin "object.__class__") "__get__"=some (some (.builtin "getset_descriptor.__get__")))
  (tk_BadPans:PySem.W.takesIn K (.builtin "object.__class__")=some true)
  (ga_Stuck:PySem.W.findIn K (.ref C_Stuck) "__getattribute__"=some (some (.builtin "BaseException.__getattribute__")))
  (gn_Stuck:PySem.W.findIn K (.ref C_Stuck) "__getattr__"=some none)
  (cl_Stuck:PySem.W.findIn K (.ref C_Stuck) "__class__"=some (some (.builtin "object.__class__")))
  (sb_Stuck:PySem.W.subIn K (.ref C_Stuck) (.type "BaseException")=some true)
  (mo_Stuck:PySem.W.mroIn K C_Stuck (.type "object")=some true)
  (ic_Stuck:PySem.W.clsIn K C_Stuck=some cx_Stuck)
  (hn_Stuck:PySem.W.specialIn K (.builtin "object.__class__") "__get__"=some (some (.builtin "getset_descriptor.__get__")))
  (tk_Stuck:PySem.W.takesIn K (.builtin "object.__class__")=some true)
  (r_exBad:PySem.W.exmOne K (.ref C_BadProgram) (.ref C_PressError)=some true)
  (r_exPans:PySem.W.exmOne K (.ref C_BadPans) (.ref C_PressError)=some true)
  (r_exStuck:PySem.W.exmOne K (.ref C_Stuck) (.ref C_PressError)=some true)
  (r_iInt:PySem.W.kitOne K (.type "int") (.type "int")=some true)
  (r_iIntB:PySem.W.kitOne K (.type "int") (.type "bool")=some false)
  (r_iBoolB:PySem.W.kitOne K (.type "bool") (.type "bool")=some true)
  (r_iBad1:PySem.W.kitOne K (.ref C_BadProgram) (.ref C_BadProgram)=some true)
  (r_iBad2:PySem.W.kitOne K (.ref C_BadProgram) (.ref C_BadPans)=some false)
  (r_iBad3:PySem.W.kitOne K (.ref C_BadProgram) (.ref C_Stuck)=some false)
  (r_iPan1:PySem.W.kitOne K (.ref C_BadPans) (.ref C_BadProgram)=some false)
  (r_iPan2:PySem.W.kitOne K (.ref C_BadPans) (.ref C_BadPans)=some true)
  (r_iPan3:PySem.W.kitOne K (.ref C_BadPans) (.ref C_Stuck)=some false)
  (z_len:PySem.W.nsIn K mainGlobals "len"=some none)
  (z_range:PySem.W.nsIn K mainGlobals "range"=some none)
  (z_enumerate:PySem.W.nsIn K mainGlobals "enumerate"=some none)
  (z_isinstance:PySem.W.nsIn K mainGlobals "isinstance"=some none)
  (z_int:PySem.W.nsIn K mainGlobals "int"=some none)
  (z_list:PySem.W.nsIn K mainGlobals "list"=some none)
  (z_dict:PySem.W.nsIn K mainGlobals "dict"=some none)
  (z_tuple:PySem.W.nsIn K mainGlobals "tuple"=some none)
  (z_bool:PySem.W.nsIn K mainGlobals "bool"=some none)
  (z_all:PySem.W.nsIn K mainGlobals "all"=some none)
  (z_zip:PySem.W.nsIn K mainGlobals "zip"=some none):
  ∃ a:Ad,Tx K w mg a:=by
 refine⟨{PressError:=C_PressError,BadProgram:=C_BadProgram,BadPans:=C_BadPans,Stuck:=C_Stuck,is_move:=f_is_move,fd_is_move:=(PySem.W.fnOf "is_move" "is_move" (ql jJ) (qk jJ) (q8 jJ) .none kV_is_move dc_is_move pm_is_move an_is_move cd_is_move ct_is_move),rows_of:=f_rows_of,fd_rows_of:=(PySem.W.fnOf "rows_of" "rows_of" (ql jL) (qk jL) (q8 jL) .none kV_rows_of dc_rows_of pm_rows_of an_rows_of cd_rows_of ct_rows_of),given_in:=f_given_in,fd_given_in:=(PySem.W.fnOf "given_in" "given_in" (ql je) (qk je) (q8 je) .none kV_given_in dc_given_in pm_given_in an_given_in cd_given_in ct_given_in),read_in:=f_read_in,fd_read_in:=(PySem.W.fnOf "read_in" "read_in" (ql jy) (qk jy) (q8 jy) .none kV_read_in dc_read_in pm_read_in an_read_in cd_read_in ct_read_in),without_names:=f_without_names,fd_without_names:=(PySem.W.fnOf "without_names" "without_names" (ql qV) (qk qV) (q8 qV) .none kV_without_names dc_without_names pm_without_names an_without_names cd_without_names ct_without_names),ways_on:=f_ways_on,fd_ways_on:=(PySem.W.fnOf "ways_on" "ways_on" (ql jz) (qk jz) (q8 jz) .none kV_ways_on dc_ways_on pm_ways_on an_ways_on cd_ways_on ct_ways_on),check_sizes:=f_check_sizes,fd_check_sizes:=(PySem.W.fnOf "check_sizes" "check_sizes" (ql zq) (qk zq) (q8 zq) .none kV_check_sizes dc_check_sizes pm_check_sizes an_check_sizes cd_check_sizes ct_check_sizes),check_rows:=f_check_rows,fd_check_rows:=(PySem.W.fnOf "check_rows" "check_rows" (ql zM) (qk zM) (q8 zM) .none kV_check_rows dc_check_rows pm_check_rows an_check_rows cd_check_rows ct_check_rows),check_deed:=f_check_deed,fd_check_deed:=(PySem.W.fnOf "check_deed" "check_deed" (ql zJ) (qk zJ) (q8 zJ) .none kV_check_deed dc_check_deed pm_check_deed an_check_deed cd_check_deed ct_check_deed),check_end:=f_check_end,fd_check_end:=(PySem.W.fnOf "check_end" "check_end" (ql j3) (qk j3) (q8 j3) .none kV_check_end dc_check_end pm_check_end an_check_end cd_check_end ct_check_end),check_names:=f_check_names,fd_check_names:=(PySem.W.fnOf "check_names" "check_names" (ql zr) (qk zr) (q8 zr) .none kV_check_names dc_check_names pm_check_names an_check_names cd_check_names ct_check_names),check_pans:=f_check_pans,fd_check_pans:=(PySem.W.fnOf "check_pans" "check_pans" (ql zE) (qk zE) (q8 zE) .none kV_check_pans dc_check_pans pm_check_pans an_check_pans cd_check_pans ct_check_pans),check_code:=f_check_code,fd_check_code:=(PySem.W.fnOf "check_code" "check_code" (ql zO) (qk zO) (q8 zO) .none kV_check_code dc_check_code pm_check_code an_check_code cd_check_code ct_check_code),check_move:=f_check_move,fd_check_move:=(PySem.W.fnOf "check_move" "check_move" (ql zI) (qk zI) (q8 zI) .none kV_check_move dc_check_move pm_check_move an_check_move cd_check_move ct_check_move),moves_in:=f_moves_in,fd_moves_in:=(PySem.W.fnOf "moves_in" "moves_in" (ql jc) (qk jc) (q8 jc) .none kV_moves_in dc_moves_in pm_moves_in an_moves_in cd_moves_in ct_moves_in),without_moves:=f_without_moves,fd_without_moves:=(PySem.W.fnOf "without_moves" "without_moves" (ql qW) (qk qW) (q8 qW) .none kV_without_moves dc_without_moves pm_without_moves an_without_moves cd_without_moves ct_without_moves),check_program:=f_check_program,fd_check_program:=(PySem.W.fnOf "check_program" "check_program" (ql z8) (qk z8) (q8 z8) .none kV_check_program dc_check_program pm_check_program an_check_program cd_check_program ct_check_program),passes:=f_passes,fd_passes:=(PySem.W.fnOf "passes" "passes" (ql x3) (qk x3) (q8 x3) .none kV_passes dc_passes pm_passes an_passes cd_passes ct_passes),has_shape:=f_has_shape,fd_has_shape:=(PySem.W.fnOf "has_shape" "has_shape" (ql zy) (qk zy) (q8 zy) .none kV_has_shape dc_has_shape pm_has_shape an_has_shape cd_has_shape ct_has_shape),shape_of:=f_shape_of,fd_shape_of:=(PySem.W.fnOf "shape_of" "shape_of" (ql jd) (qk jd) (q8 jd) .none kV_shape_of dc_shape_of pm_shape_of an_shape_of cd_shape_of ct_shape_of),reads_what_is_held:=f_reads_what_is_held,fd_reads_what_is_held:=(PySem.W.fnOf "reads_what_is_held" "reads_what_is_held" (ql qG) (qk qG) (q8 qG) .none kV_reads_what_is_held dc_reads_what_is_held pm_reads_what_is_held an_reads_what_is_held cd_reads_what_is_held ct_reads_what_is_held),side_by_side:=f_side_by_side,fd_side_by_side:=(PySem.W.fnOf "side_by_side" "side_by_side" (ql zh) (qk zh) (q8 zh) .none kV_side_by_side dc_side_by_side pm_side_by_side an_side_by_side cd_side_by_side ct_side_by_side),held_at_beginnings:=f_held_at_beginnings,fd_held_at_beginnings:=(PySem.W.fnOf "held_at_beginnings" "held_at_beginnings" (ql qJ) (qk qJ) (q8 qJ) .none kV_held_at_beginnings dc_held_at_beginnings pm_held_at_beginnings an_held_at_beginnings cd_held_at_beginnings ct_held_at_beginnings),held_in_both:=f_held_in_both,fd_held_in_both:=(PySem.W.fnOf "held_in_both" "held_in_both" (ql zi) (qk zi) (q8 zi) .none kV_held_in_both dc_held_in_both pm_held_in_both an_held_in_both cd_held_in_both ct_held_in_both),held_at_end:=f_held_at_end,fd_held_at_end:=(PySem.W.fnOf "held_at_end" "held_at_end" (ql zt) (qk zt) (q8 zt) .none kV_held_at_end dc_held_at_end pm_held_at_end an_held_at_end cd_held_at_end ct_held_at_end),reads_of_block_are_held:=f_reads_of_block_are_held,fd_reads_of_block_are_held:=(PySem.W.fnOf "reads_of_block_are_held" "reads_of_block_are_held" (ql qA) (qk qA) (q8 qA) .none kV_reads_of_block_are_held dc_reads_of_block_are_held pm_reads_of_block_are_held an_reads_of_block_are_held cd_reads_of_block_are_held ct_reads_of_block_are_held),reads_are_held:=f_reads_are_held,fd_reads_are_held:=(PySem.W.fnOf "reads_are_held" "reads_are_held" (ql qT) (qk qT) (q8 qT) .none kV_reads_are_held dc_reads_are_held pm_reads_are_held an_reads_are_held cd_reads_are_held ct_reads_are_held),take_note:=f_take_note,fd_take_note:=(PySem.W.fnOf "take_note" "take_note" (ql j1) (qk j1) (q8 j1) .none kV_take_note dc_take_note pm_take_note an_take_note cd_take_note ct_take_note),note_move:=f_note_move,fd_note_move:=(PySem.W.fnOf "note_move" "note_move" (ql j7) (qk j7) (q8 j7) .none kV_note_move dc_note_move pm_note_move an_note_move cd_note_move ct_note_move),note_given:=f_note_given,fd_note_given:=(PySem.W.fnOf "note_given" "note_given" (ql zC) (qk zC) (q8 zC) .none kV_note_given dc_note_given pm_note_given an_note_given cd_note_given ct_note_given),_law_cell:=f__law_cell,fd__law_cell:=(PySem.W.fnOf "_law_cell" "_law_cell" (ql j6) (qk j6) (q8 j6) .none kV__law_cell dc__law_cell pm__law_cell an__law_cell cd__law_cell ct__law_cell),_law_mix:=f__law_mix,fd__law_mix:=(PySem.W.fnOf "_law_mix" "_law_mix" (ql ju) (qk ju) (q8 ju) .none kV__law_mix dc__law_mix pm__law_mix an__law_mix cd__law_mix ct__law_mix),_law_deed:=f__law_deed,fd__law_deed:=(PySem.W.fnOf "_law_deed" "_law_deed" (ql j8) (qk j8) (q8 j8) .none kV__law_deed dc__law_deed pm__law_deed an__law_deed cd__law_deed ct__law_deed),_law_end:=f__law_end,fd__law_end:=(PySem.W.fnOf "_law_end" "_law_end" (ql jr) (qk jr) (q8 jr) .none kV__law_end dc__law_end pm__law_end an__law_end cd__law_end ct__law_end),_law_program:=f__law_program,fd__law_program:=(PySem.W.fnOf "_law_program" "_law_program" (ql qS) (qk qS) (q8 qS) .none kV__law_program dc__law_program pm__law_program an__law_program cd__law_program ct__law_program),_law_homes:=f__law_homes,fd__law_homes:=(PySem.W.fnOf "_law_homes" "_law_homes" (ql zK) (qk zK) (q8 zK) .none kV__law_homes dc__law_homes pm__law_homes an__law_homes cd__law_homes ct__law_homes),_law_changed:=f__law_changed,fd__law_changed:=(PySem.W.fnOf "_law_changed" "_law_changed" (ql qM) (qk qM) (q8 qM) .none kV__law_changed dc__law_changed pm__law_changed an__law_changed cd__law_changed ct__law_changed),_law_shape:=f__law_shape,fd__law_shape:=(PySem.W.fnOf "_law_shape" "_law_shape" (ql zN) (qk zN) (q8 zN) .none kV__law_shape dc__law_shape pm__law_shape an__law_shape cd__law_shape ct__law_shape),_law_reads:=f__law_reads,fd__law_reads:=(PySem.W.fnOf "_law_reads" "_law_reads" (ql zL) (qk zL) (q8 zL) .none kV__law_reads dc__law_reads pm__law_reads an__law_reads cd__law_reads ct__law_reads),_law_walk:=f__law_walk,fd__law_walk:=(PySem.W.fnOf "_law_walk" "_law_walk" (ql z6) (qk z6) (q8 z6) .none kV__law_walk dc__law_walk pm__law_walk an__law_walk cd__law_walk ct__law_walk),_law_due:=f__law_due,fd__law_due:=(PySem.W.fnOf "_law_due" "_law_due" (ql zZ) (qk zZ) (q8 zZ) .none kV__law_due dc__law_due pm__law_due an__law_due cd__law_due ct__law_due),_law_told:=f__law_told,fd__law_told:=(PySem.W.fnOf "_law_told" "_law_told" (ql zx) (qk zx) (q8 zx) .none kV__law_told dc__law_told pm__law_told an__law_told cd__law_told ct__law_told),_law_other:=f__law_other,fd__law_other:=(PySem.W.fnOf "_law_other" "_law_other" (ql zB) (qk zB) (q8 zB) .none kV__law_other dc__law_other pm__law_other an__law_other cd__law_other ct__law_other),law:=f_law,fd_law:=(PySem.W.fnOf "law" "law" (ql xI) (qk xI) (q8 xI) .none kV_law dc_law pm_law an_law cd_law ct_law),WORDS:=q_WORDS,DEED_SIZES:=q_DEED_SIZES,END_SIZES:=q_END_SIZES,GIVEN_SPOTS:=q_GIVEN_SPOTS,READ_SPOTS:=q_READ_SPOTS,BLOCK_SPOTS:=q_BLOCK_SPOTS,gs_set:=q_gs_set,gs_input:=q_gs_input,gs_op:=q_gs_op,gs_tell:=q_gs_tell,gs_go:=q_gs_go,gs_if:=q_gs_if,gs_end:=q_gs_end,rs_set:=q_rs_set,rs_input:=q_rs_input,rs_op:=q_rs_op,rs_tell:=q_rs_tell,rs_go:=q_rs_go,rs_if:=q_rs_if,rs_end:=q_rs_end,bs_go:=q_bs_go,bs_if:=q_bs_if,bs_end:=q_bs_end},?_⟩
 exact{
  PressError:=(PySem.W.mg_of X G g_PressError),
  BadProgram:=(PySem.W.mg_of X G g_BadProgram),
  BadPans:=(PySem.W.mg_of X G g_BadPans),
  Stuck:=(PySem.W.mg_of X G g_Stuck),
  F_is_move:=(⟨qt l_is_move c_is_move k_is_move,PySem.W.mg_of X G a_is_move,(qt (st:=jJ) l_is_move c_is_move k_is_move).binds (ps:=["deed"]) (λ_ _ _ _ _ _ us hl=>by obtain⟨_,rfl⟩:=ZZ hl;rfl)⟩),
  F_rows_of:=(⟨qt l_rows_of c_rows_of k_rows_of,PySem.W.mg_of X G a_rows_of,(qt (st:=jL) l_rows_of c_rows_of k_rows_of).binds (ps:=["block"]) (λ_ _ _ _ _ _ us hl=>by obtain⟨_,rfl⟩:=ZZ hl;rfl)⟩),
  F_given_in:=(⟨qt l_given_in c_given_in k_given_in,PySem.W.mg_of X G a_given_in,(qt (st:=je) l_given_in c_given_in k_given_in).binds (ps:=["row"]) (λ_ _ _ _ _ _ us hl=>by obtain⟨_,rfl⟩:=ZZ hl;rfl)⟩),
  F_read_in:=(⟨qt l_read_in c_read_in k_read_in,PySem.W.mg_of X G a_read_in,(qt (st:=jy) l_read_in c_read_in k_read_in).binds (ps:=["row"]) (λ_ _ _ _ _ _ us hl=>by obtain⟨_,rfl⟩:=ZZ hl;rfl)⟩),
  F_without_names:=(⟨qt l_without_names c_without_names k_without_names,PySem.W.mg_of X G a_without_names,(qt (st:=qV) l_without_names c_without_names k_without_names).binds (ps:=["row"]) (λ_ _ _ _ _ _ us hl=>by obtain⟨_,rfl⟩:=ZZ hl;rfl)⟩),
  F_ways_on:=(⟨qt l_ways_on c_ways_on k_ways_on,PySem.W.mg_of X G a_ways_on,(qt (st:=jz) l_ways_on c_ways_on k_ways_on).binds (ps:=["end"]) (λ_ _ _ _ _ _ us hl=>by obtain⟨_,rfl⟩:=ZZ hl;rfl)⟩),
  F_check_sizes:=(⟨qt l_check_sizes c_check_sizes k_check_sizes,PySem.W.mg_of X G a_check_sizes,(qt (st:=zq) l_check_sizes c_check_sizes k_check_sizes).binds (ps:=["blocks","most_deeds"]) (λ_ _ _ _ _ _ us hl=>by obtain⟨_,_,rfl⟩:=ZY hl;rfl)⟩),
  F_check_rows:=(⟨qt l_check_rows c_check_rows k_check_rows,PySem.W.mg_of X G a_check_rows,(qt (st:=zM) l_check_rows c_check_rows k_check_rows).binds (ps:=["blocks","names"]) (λ_ _ _ _ _ _ us hl=>by obtain⟨_,_,rfl⟩:=ZY hl;rfl)⟩),
  F_check_deed:=(⟨qt l_check_deed c_check_deed k_check_deed,PySem.W.mg_of X G a_check_deed,(qt (st:=zJ) l_check_deed c_check_deed k_check_deed).binds (ps:=["deed","names","number"]) (λ_ _ _ _ _ _ us hl=>by obtain⟨_,_,_,rfl⟩:=XT hl;rfl)⟩),
  F_check_end:=(⟨qt l_check_end c_check_end k_check_end,PySem.W.mg_of X G a_check_end,(qt (st:=j3) l_check_end c_check_end k_check_end).binds (ps:=["end","names","block_count","number"]) (λ_ _ _ _ _ _ us hl=>by obtain⟨_,_,_,_,rfl⟩:=len4 hl;rfl)⟩),
  F_check_names:=(⟨qt l_check_names c_check_names k_check_names,PySem.W.mg_of X G a_check_names,(qt (st:=zr) l_check_names c_check_names k_check_names).binds (ps:=["row","names","number"]) (λ_ _ _ _ _ _ us hl=>by obtain⟨_,_,_,rfl⟩:=XT hl;rfl)⟩),
  F_check_pans:=(⟨qt l_check_pans c_check_pans k_check_pans,PySem.W.mg_of X G a_check_pans,(qt (st:=zE) l_check_pans c_check_pans k_check_pans).binds (ps:=["pans"]) (λ_ _ _ _ _ _ us hl=>by obtain⟨_,rfl⟩:=ZZ hl;rfl)⟩),
  F_check_code:=(⟨qt l_check_code c_check_code k_check_code,PySem.W.mg_of X G a_check_code,(qt (st:=zO) l_check_code c_check_code k_check_code).binds (ps:=["code","pans"]) (λ_ _ _ _ _ _ us hl=>by obtain⟨_,_,rfl⟩:=ZY hl;rfl)⟩),
  F_check_move:=(⟨qt l_check_move c_check_move k_check_move,PySem.W.mg_of X G a_check_move,(qt (st:=zI) l_check_move c_check_move k_check_move).binds (ps:=["move","pans","number"]) (λ_ _ _ _ _ _ us hl=>by obtain⟨_,_,_,rfl⟩:=XT hl;rfl)⟩),
  F_moves_in:=(⟨qt l_moves_in c_moves_in k_moves_in,PySem.W.mg_of X G a_moves_in,(qt (st:=jc) l_moves_in c_moves_in k_moves_in).binds (ps:=["block"]) (λ_ _ _ _ _ _ us hl=>by obtain⟨_,rfl⟩:=ZZ hl;rfl)⟩),
  F_without_moves:=(⟨qt l_without_moves c_without_moves k_without_moves,PySem.W.mg_of X G a_without_moves,(qt (st:=qW) l_without_moves c_without_moves k_without_moves).binds (ps:=["code"]) (λ_ _ _ _ _ _ us hl=>by obtain⟨_,rfl⟩:=ZZ hl;rfl)⟩),
  F_check_program:=(⟨qt l_check_program c_check_program k_check_program,PySem.W.mg_of X G a_check_program,(qt (st:=z8) l_check_program c_check_program k_check_program).binds (ps:=["blocks"]) (λ_ _ _ _ _ _ us hl=>by obtain⟨_,rfl⟩:=ZZ hl;rfl)⟩),
  F_passes:=(⟨qt l_passes c_passes k_passes,PySem.W.mg_of X G a_passes,(qt (st:=x3) l_passes c_passes k_passes).binds (ps:=["blocks","code","pans"]) (λ_ _ _ _ _ _ us hl=>by obtain⟨_,_,_,rfl⟩:=XT hl;rfl)⟩),
  F_has_shape:=(⟨qt l_has_shape c_has_shape k_has_shape,PySem.W.mg_of X G a_has_shape,(qt (st:=zy) l_has_shape c_has_shape k_has_shape).binds (ps:=["blocks","code"]) (λ_ _ _ _ _ _ us hl=>by obtain⟨_,_,rfl⟩:=ZY hl;rfl)⟩),
  F_shape_of:=(⟨qt l_shape_of c_shape_of k_shape_of,PySem.W.mg_of X G a_shape_of,(qt (st:=jd) l_shape_of c_shape_of k_shape_of).binds (ps:=["block"]) (λ_ _ _ _ _ _ us hl=>by obtain⟨_,rfl⟩:=ZZ hl;rfl)⟩),
  F_reads_what_is_held:=(⟨qt l_reads_what_is_held c_reads_what_is_held k_reads_what_is_held,PySem.W.mg_of X G a_reads_what_is_held,(qt (st:=qG) l_reads_what_is_held c_reads_what_is_held k_reads_what_is_held).binds (ps:=["blocks","code"]) (λ_ _ _ _ _ _ us hl=>by obtain⟨_,_,rfl⟩:=ZY hl;rfl)⟩),
  F_side_by_side:=(⟨qt l_side_by_side c_side_by_side k_side_by_side,PySem.W.mg_of X G a_side_by_side,(qt (st:=zh) l_side_by_side c_side_by_side k_side_by_side).binds (ps:=["block","code_block"]) (λ_ _ _ _ _ _ us hl=>by obtain⟨_,_,rfl⟩:=ZY hl;rfl)⟩),
  F_held_at_beginnings:=(⟨qt l_held_at_beginnings c_held_at_beginnings k_held_at_beginnings,PySem.W.mg_of X G a_held_at_beginnings,(qt (st:=qJ) l_held_at_beginnings c_held_at_beginnings k_held_at_beginnings).binds (ps:=["blocks","pairs"]) (λ_ _ _ _ _ _ us hl=>by obtain⟨_,_,rfl⟩:=ZY hl;rfl)⟩),
  F_held_in_both:=(⟨qt l_held_in_both c_held_in_both k_held_in_both,PySem.W.mg_of X G a_held_in_both,(qt (st:=zi) l_held_in_both c_held_in_both k_held_in_both).binds (ps:=["first","second"]) (λ_ _ _ _ _ _ us hl=>by obtain⟨_,_,rfl⟩:=ZY hl;rfl)⟩),
  F_held_at_end:=(⟨qt l_held_at_end c_held_at_end k_held_at_end,PySem.W.mg_of X G a_held_at_end,(qt (st:=zt) l_held_at_end c_held_at_end k_held_at_end).binds (ps:=["pairs","beginning"]) (λ_ _ _ _ _ _ us hl=>by obtain⟨_,_,rfl⟩:=ZY hl;rfl)⟩),
  F_reads_of_block_are_held:=(⟨qt l_reads_of_block_are_held c_reads_of_block_are_held k_reads_of_block_are_held,PySem.W.mg_of X G a_reads_of_block_are_held,(qt (st:=qA) l_reads_of_block_are_held c_reads_of_block_are_held k_reads_of_block_are_held).binds (ps:=["pairs","beginning"]) (λ_ _ _ _ _ _ us hl=>by obtain⟨_,_,rfl⟩:=ZY hl;rfl)⟩),
  F_reads_are_held:=(⟨qt l_reads_are_held c_reads_are_held k_reads_are_held,PySem.W.mg_of X G a_reads_are_held,(qt (st:=qT) l_reads_are_held c_reads_are_held k_reads_are_held).binds (ps:=["row","code_row","held"]) (λ_ _ _ _ _ _ us hl=>by obtain⟨_,_,_,rfl⟩:=XT hl;rfl)⟩),
  F_take_note:=(⟨qt l_take_note c_take_note k_take_note,PySem.W.mg_of X G a_take_note,(qt (st:=j1) l_take_note c_take_note k_take_note).binds (ps:=["row","code_row","held"]) (λ_ _ _ _ _ _ us hl=>by obtain⟨_,_,_,rfl⟩:=XT hl;rfl)⟩),
  F_note_move:=(⟨qt l_note_move c_note_move k_note_move,PySem.W.mg_of X G a_note_move,(qt (st:=j7) l_note_move c_note_move k_note_move).binds (ps:=["place","source","held"]) (λ_ _ _ _ _ _ us hl=>by obtain⟨_,_,_,rfl⟩:=XT hl;rfl)⟩),
  F_note_given:=(⟨qt l_note_given c_note_given k_note_given,PySem.W.mg_of X G a_note_given,(qt (st:=zC) l_note_given c_note_given k_note_given).binds (ps:=["name","place","held"]) (λ_ _ _ _ _ _ us hl=>by obtain⟨_,_,_,rfl⟩:=XT hl;rfl)⟩),
  F__law_cell:=(⟨qt l__law_cell c__law_cell k__law_cell,PySem.W.mg_of X G a__law_cell,(qt (st:=j6) l__law_cell c__law_cell k__law_cell).binds (ps:=["_law_script","_law_k"]) (λ_ _ _ _ _ _ us hl=>by obtain⟨_,_,rfl⟩:=ZY hl;rfl)⟩),
  F__law_mix:=(⟨qt l__law_mix c__law_mix k__law_mix,PySem.W.mg_of X G a__law_mix,(qt (st:=ju) l__law_mix c__law_mix k__law_mix).binds (ps:=["_law_script","_law_k"]) (λ_ _ _ _ _ _ us hl=>by obtain⟨_,_,rfl⟩:=ZY hl;rfl)⟩),
  F__law_deed:=(⟨qt l__law_deed c__law_deed k__law_deed,PySem.W.mg_of X G a__law_deed,(qt (st:=j8) l__law_deed c__law_deed k__law_deed).binds (ps:=["_law_script","_law_k","_law_names"]) (λ_ _ _ _ _ _ us hl=>by obtain⟨_,_,_,rfl⟩:=XT hl;rfl)⟩),
  F__law_end:=(⟨qt l__law_end c__law_end k__law_end,PySem.W.mg_of X G a__law_end,(qt (st:=jr) l__law_end c__law_end k__law_end).binds (ps:=["_law_script","_law_k","_law_blocks","_law_names"]) (λ_ _ _ _ _ _ us hl=>by obtain⟨_,_,_,_,rfl⟩:=len4 hl;rfl)⟩),
  F__law_program:=(⟨qt l__law_program c__law_program k__law_program,PySem.W.mg_of X G a__law_program,(qt (st:=qS) l__law_program c__law_program k__law_program).binds (ps:=["_law_script"]) (λ_ _ _ _ _ _ us hl=>by obtain⟨_,rfl⟩:=ZZ hl;rfl)⟩),
  F__law_homes:=(⟨qt l__law_homes c__law_homes k__law_homes,PySem.W.mg_of X G a__law_homes,(qt (st:=zK) l__law_homes c__law_homes k__law_homes).binds (ps:=["_law_blocks","_law_pans"]) (λ_ _ _ _ _ _ us hl=>by obtain⟨_,_,rfl⟩:=ZY hl;rfl)⟩),
  F__law_changed:=(⟨qt l__law_changed c__law_changed k__law_changed,PySem.W.mg_of X G a__law_changed,(qt (st:=qM) l__law_changed c__law_changed k__law_changed).binds (ps:=["_law_script","_law_k","_law_code","_law_pans"]) (λ_ _ _ _ _ _ us hl=>by obtain⟨_,_,_,_,rfl⟩:=len4 hl;rfl)⟩),
  F__law_shape:=(⟨qt l__law_shape c__law_shape k__law_shape,PySem.W.mg_of X G a__law_shape,(qt (st:=zN) l__law_shape c__law_shape k__law_shape).binds (ps:=["_law_blocks"]) (λ_ _ _ _ _ _ us hl=>by obtain⟨_,rfl⟩:=ZZ hl;rfl)⟩),
  F__law_reads:=(⟨qt l__law_reads c__law_reads k__law_reads,PySem.W.mg_of X G a__law_reads,(qt (st:=zL) l__law_reads c__law_reads k__law_reads).binds (ps:=["_law_deed_here"]) (λ_ _ _ _ _ _ us hl=>by obtain⟨_,rfl⟩:=ZZ hl;rfl)⟩),
  F__law_walk:=(⟨qt l__law_walk c__law_walk k__law_walk,PySem.W.mg_of X G a__law_walk,(qt (st:=z6) l__law_walk c__law_walk k__law_walk).binds (ps:=["_law_sure","_law_deeds","_law_code"]) (λ_ _ _ _ _ _ us hl=>by obtain⟨_,_,_,rfl⟩:=XT hl;rfl)⟩),
  F__law_due:=(⟨qt l__law_due c__law_due k__law_due,PySem.W.mg_of X G a__law_due,(qt (st:=zZ) l__law_due c__law_due k__law_due).binds (ps:=["_law_blocks","_law_code"]) (λ_ _ _ _ _ _ us hl=>by obtain⟨_,_,rfl⟩:=ZY hl;rfl)⟩),
  F__law_told:=(⟨qt l__law_told c__law_told k__law_told,PySem.W.mg_of X G a__law_told,(qt (st:=zx) l__law_told c__law_told k__law_told).binds (ps:=["_law_blocks","_law_code","_law_pans"]) (λ_ _ _ _ _ _ us hl=>by obtain⟨_,_,_,rfl⟩:=XT hl;rfl)⟩),
  F__law_other:=(⟨qt l__law_other c__law_other k__law_other,PySem.W.mg_of X G a__law_other,(qt (st:=zB) l__law_other c__law_other k__law_other).binds (ps:=["_law_end_here","_law_many"]) (λ_ _ _ _ _ _ us hl=>by obtain⟨_,_,rfl⟩:=ZY hl;rfl)⟩),
  F_law:=(⟨qt l_law c_law k_law,PySem.W.mg_of X G a_law,(qt (st:=xI) l_law c_law k_law).binds (ps:=["_law_script"]) (λ_ _ _ _ _ _ us hl=>by obtain⟨_,rfl⟩:=ZZ hl;rfl)⟩),
  MOST_BLOCKS:=(⟨_,PySem.W.mg_of X G g_MOST_BLOCKS⟩),
  FEWEST_PANS:=(⟨_,PySem.W.mg_of X G g_FEWEST_PANS⟩),
  MOST_PANS:=(⟨_,PySem.W.mg_of X G g_MOST_PANS⟩),
  MOST_DEEDS_codes:=(⟨_,PySem.W.mg_of X G g_MOST_DEEDS_codes⟩),
  PLACES:=(⟨_,PySem.W.mg_of X G g_PLACES⟩),
  MOST_DEEDS_programs:=(⟨_,PySem.W.mg_of X G g_MOST_DEEDS_programs⟩),
  NAMES:=(⟨_,PySem.W.mg_of X G g_NAMES⟩),
  WORDS:=(PySem.W.mg_of X G g_WORDS),
  wordsT:=(λ_=>.inr ⟨_,_,_,tl_WORDS,rfl,rfl,(show 3<=sizeLine by decide),(.cons ⟨_,rfl⟩ (.cons ⟨_,rfl⟩ (.cons ⟨_,rfl⟩ .nil)))⟩),
  DEED_SIZES:=(PySem.W.mg_of X G g_DEED_SIZES),
  kd_DEED_SIZES:=(⟨⟨_,_,dl_DEED_SIZES,dk_DEED_SIZES⟩,ds_DEED_SIZES⟩),
  END_SIZES:=(PySem.W.mg_of X G g_END_SIZES),
  kd_END_SIZES:=(⟨⟨_,_,dl_END_SIZES,dk_END_SIZES⟩,ds_END_SIZES⟩),
  GIVEN_SPOTS:=(PySem.W.mg_of X G g_GIVEN_SPOTS),
  kd_GIVEN_SPOTS:=(⟨⟨_,_,dl_GIVEN_SPOTS,dk_GIVEN_SPOTS⟩,ds_GIVEN_SPOTS⟩),
  READ_SPOTS:=(PySem.W.mg_of X G g_READ_SPOTS),
  kd_READ_SPOTS:=(⟨⟨_,_,dl_READ_SPOTS,dk_READ_SPOTS⟩,ds_READ_SPOTS⟩),
  BLOCK_SPOTS:=(PySem.W.mg_of X G g_BLOCK_SPOTS),
  kd_BLOCK_SPOTS:=(⟨⟨_,_,dl_BLOCK_SPOTS,dk_BLOCK_SPOTS⟩,ds_BLOCK_SPOTS⟩),
  DEED_SIZES_set:=(⟨_,v_DEED_SIZES_set,⟨_,rfl⟩⟩),
  DEED_SIZES_input:=(⟨_,v_DEED_SIZES_input,⟨_,rfl⟩⟩),
  DEED_SIZES_op:=(⟨_,v_DEED_SIZES_op,⟨_,rfl⟩⟩),
  DEED_SIZES_tell:=(⟨_,v_DEED_SIZES_tell,⟨_,rfl⟩⟩),
  END_SIZES_go:=(⟨_,v_END_SIZES_go,⟨_,rfl⟩⟩),
  END_SIZES_if:=(⟨_,v_END_SIZES_if,⟨_,rfl⟩⟩),
  END_SIZES_end:=(⟨_,v_END_SIZES_end,⟨_,rfl⟩⟩),
  ds_move:=(⟨_,v_ds_move,by first|exact trivial|constructor⟩),
  GIVEN_SPOTS_set:=(⟨_,v_gs_set,rfl⟩),
  gs_set:=(λ_=>.inr ⟨_,_,_,tl_gs_set,rfl,rfl,(show 1<=sizeLine by decide),(.cons ⟨_,rfl⟩ .nil)⟩),
  GIVEN_SPOTS_input:=(⟨_,v_gs_input,rfl⟩),
  gs_input:=(λ_=>.inr ⟨_,_,_,tl_gs_input,rfl,rfl,(show 1<=sizeLine by decide),(.cons ⟨_,rfl⟩ .nil)⟩),
  GIVEN_SPOTS_op:=(⟨_,v_gs_op,rfl⟩),
  gs_op:=(λ_=>.inr ⟨_,_,_,tl_gs_op,rfl,rfl,(show 1<=sizeLine by decide),(.cons ⟨_,rfl⟩ .nil)⟩),
  GIVEN_SPOTS_tell:=(⟨_,v_gs_tell,rfl⟩),
  gs_tell:=(λ_=>.inr ⟨_,_,_,tl_gs_tell,rfl,rfl,(show 0<=sizeLine by decide),.nil⟩),
  GIVEN_SPOTS_go:=(⟨_,v_gs_go,rfl⟩),
  gs_go:=(λ_=>.inr ⟨_,_,_,tl_gs_go,rfl,rfl,(show 0<=sizeLine by decide),.nil⟩),
  GIVEN_SPOTS_if:=(⟨_,v_gs_if,rfl⟩),
  gs_if:=(λ_=>.inr ⟨_,_,_,tl_gs_if,rfl,rfl,(show 0<=sizeLine by decide),.nil⟩),
  GIVEN_SPOTS_end:=(⟨_,v_gs_end,rfl⟩),
  gs_end:=(λ_=>.inr ⟨_,_,_,tl_gs_end,rfl,rfl,(show 0<=sizeLine by decide),.nil⟩),
  READ_SPOTS_set:=(⟨_,v_rs_set,rfl⟩),
  rs_set:=(λ_=>.inr ⟨_,_,_,tl_rs_set,rfl,rfl,(show 0<=sizeLine by decide),.nil⟩),
  READ_SPOTS_input:=(⟨_,v_rs_input,rfl⟩),
  rs_input:=(λ_=>.inr ⟨_,_,_,tl_rs_input,rfl,rfl,(show 0<=sizeLine by decide),.nil⟩),
  READ_SPOTS_op:=(⟨_,v_rs_op,rfl⟩),
  rs_op:=(λ_=>.inr ⟨_,_,_,tl_rs_op,rfl,rfl,(show 2<=sizeLine by decide),(.cons ⟨_,rfl⟩ (.cons ⟨_,rfl⟩ .nil))⟩),
  READ_SPOTS_tell:=(⟨_,v_rs_tell,rfl⟩),
  rs_tell:=(λ_=>.inr ⟨_,_,_,tl_rs_tell,rfl,rfl,(show 1<=sizeLine by decide),(.cons ⟨_,rfl⟩ .nil)⟩),
  READ_SPOTS_go:=(⟨_,v_rs_go,rfl⟩),
  rs_go:=(λ_=>.inr ⟨_,_,_,tl_rs_go,rfl,rfl,(show 0<=sizeLine by decide),.nil⟩),
  READ_SPOTS_if:=(⟨_,v_rs_if,rfl⟩),
  rs_if:=(λ_=>.inr ⟨_,_,_,tl_rs_if,rfl,rfl,(show 1<=sizeLine by decide),(.cons ⟨_,rfl⟩ .nil)⟩),
  READ_SPOTS_end:=(⟨_,v_rs_end,rfl⟩),
  rs_end:=(λ_=>.inr ⟨_,_,_,tl_rs_end,rfl,rfl,(show 0<=sizeLine by decide),.nil⟩),
  BLOCK_SPOTS_go:=(⟨_,v_bs_go,rfl⟩),
  bs_go:=(λ_=>.inr ⟨_,_,_,tl_bs_go,rfl,rfl,(show 1<=sizeLine by decide),(.cons ⟨_,rfl⟩ .nil)⟩),
  BLOCK_SPOTS_if:=(⟨_,v_bs_if,rfl⟩),
  bs_if:=(λ_=>.inr ⟨_,_,_,tl_bs_if,rfl,rfl,(show 2<=sizeLine by decide),(.cons ⟨_,rfl⟩ (.cons ⟨_,rfl⟩ .nil))⟩),
  BLOCK_SPOTS_end:=(⟨_,v_bs_end,rfl⟩),
  bs_end:=(λ_=>.inr ⟨_,_,_,tl_bs_end,rfl,rfl,(show 0<=sizeLine by decide),.nil⟩),
  xBad:=(⟨PySem.W.mg_of X G g_BadProgram,xc_BadProgram⟩),
  xPans:=(⟨PySem.W.mg_of X G g_BadPans,xc_BadPans⟩),
  xStuck:=(⟨PySem.W.mg_of X G g_Stuck,xc_Stuck⟩),
  eBad:=(⟨ga_BadProgram,gn_BadProgram,cl_BadProgram,sb_BadProgram,mo_BadProgram,(by rw[ic_BadProgram];rfl),hn_BadProgram,tk_BadProgram⟩),
  ePans:=(⟨ga_BadPans,gn_BadPans,cl_BadPans,sb_BadPans,mo_BadPans,(by rw[ic_BadPans];rfl),hn_BadPans,tk_BadPans⟩),
  eStuck:=(⟨ga_Stuck,gn_Stuck,cl_Stuck,sb_Stuck,mo_Stuck,(by rw[ic_Stuck];rfl),hn_Stuck,tk_Stuck⟩),
  exBad:=(r_exBad),
  exPans:=(r_exPans),
  exStuck:=(r_exStuck),
  iInt:=(r_iInt),
  iIntB:=(r_iIntB),
  iBoolB:=(r_iBoolB),
  iBad1:=(r_iBad1),
  iBad2:=(r_iBad2),
  iBad3:=(r_iBad3),
  iPan1:=(r_iPan1),
  iPan2:=(r_iPan2),
  iPan3:=(r_iPan3),
  len:=(PySem.W.mg_none_of X G z_len),
  range:=(PySem.W.mg_none_of X G z_range),
  enumerate:=(PySem.W.mg_none_of X G z_enumerate),
  isinstance:=(PySem.W.mg_none_of X G z_isinstance),
  int:=(PySem.W.mg_none_of X G z_int),
  list:=(PySem.W.mg_none_of X G z_list),
  dict:=(PySem.W.mg_none_of X G z_dict),
  tuple:=(PySem.W.mg_none_of X G z_tuple),
  bool:=(PySem.W.mg_none_of X G z_bool),
  all:=(PySem.W.mg_none_of X G z_all),
  zip:=(PySem.W.mg_none_of X G z_zip)}
end Rp
open PySem PySem.W PyProof.Rows
theorem PySem.W.Fast.te3094701115853657799:True:=trivial
theorem PySem.W.Fast.tw8607624783606900997:True:=trivial
theorem PySem.W.Fast.tw1647960591809683682:True:=trivial
theorem PySem.W.Fast.tw5870192631088166519:True:=trivial
theorem PySem.W.Fast.tw4492377883706903213:True:=trivial
theorem PySem.W.Fast.tw11487128817927173152:True:=trivial
theorem PySem.W.Fast.tw15519299588005465827:True:=trivial
theorem PySem.W.Fast.tw4466625985826531108:True:=trivial
theorem PySem.W.Fast.tw15312518971154124908:True:=trivial
theorem PySem.W.Fast.tw12956783021364901838:True:=trivial
theorem PySem.W.Fast.tw1448420854770441400:True:=trivial
theorem PySem.W.Fast.tw17543716706274323528:True:=trivial
theorem PySem.W.Fast.tw1833547357909804662:True:=trivial
theorem PySem.W.Fast.tw8667492640987031791:True:=trivial
theorem PySem.W.Fast.tw4901958682385802004:True:=trivial
theorem PySem.W.Fast.tw8454840944936950519:True:=trivial
theorem PySem.W.Fast.tw14712817762504950641:True:=trivial
theorem PySem.W.Fast.tw7942853410682446962:True:=trivial
theorem PySem.W.Fast.tw3992908553847606798:True:=trivial
theorem PySem.W.Fast.tw11930311979851757478:True:=trivial
theorem PySem.W.Fast.tw11069628954808310989:True:=trivial
theorem PySem.W.Fast.tw16607927582987124570:True:=trivial
theorem PySem.W.Fast.tw6784790241324674965:True:=trivial
theorem PySem.W.Fast.tw12487779173672901959:True:=trivial
theorem PySem.W.Fast.tw12514039047250868702:True:=trivial
theorem PySem.W.Fast.tw11887224372650548316:True:=trivial
theorem PySem.W.Fast.tw17338234738716814015:True:=trivial
theorem PySem.W.Fast.tw16591865221530654137:True:=trivial
theorem PySem.W.Fast.tw12661032092557703082:True:=trivial
theorem PySem.W.Fast.tw1998032249293215463:True:=trivial
theorem PySem.W.Fast.tw16745343075639119971:True:=trivial
theorem PySem.W.Fast.tw4799189423077775474:True:=trivial
theorem PySem.W.Fast.tw12941643214049860704:True:=trivial
theorem PySem.W.Fast.tw12079628635447562283:True:=trivial
theorem PySem.W.Fast.tw15508019666092448443:True:=trivial
theorem PySem.W.Fast.tw15155859288707382567:True:=trivial
theorem PySem.W.Fast.tw14650769484350525481:True:=trivial
theorem PySem.W.Fast.tw15137687247720179910:True:=trivial
theorem PySem.W.Fast.tw11118301316682269745:True:=trivial
theorem PySem.W.Fast.tw11849525312028181438:True:=trivial
theorem PySem.W.Fast.tw16131593051203169754:True:=trivial
theorem PySem.W.Fast.tw7750522813701495628:True:=trivial
theorem PySem.W.Fast.tw10299302589577801163:True:=trivial
theorem PySem.W.Fast.tw10069975712529536831:True:=trivial
theorem PySem.W.Fast.tw2680141511932349947:True:=trivial
theorem PySem.W.Fast.tw17925384258215065573:True:=trivial
theorem PySem.W.Fast.tw13323373534744806615:True:=trivial
theorem PySem.W.Fast.tw5388663596951873645:True:=trivial
theorem PySem.W.Fast.tw2625098255110226060:True:=trivial
theorem PySem.W.Fast.tw9508736203920968164:True:=trivial
theorem PySem.W.Fast.tw2335157872551914648:True:=trivial
theorem PySem.W.Fast.tw274189353798237994:True:=trivial
theorem PySem.W.Fast.tw15431134087688302020:True:=trivial
theorem PySem.W.Fast.tw6999941293234460784:True:=trivial
theorem PySem.W.Fast.tw10752687858943698738:True:=trivial
theorem PySem.W.Fast.tw4475145619620083286:True:=trivial
theorem PySem.W.Fast.tw8426798971799828003:True:=trivial
theorem PySem.W.Fast.tw7090585071989052306:True:=trivial
theorem PySem.W.Fast.tw5310652868755799522:True:=trivial
theorem PySem.W.Fast.tw3808584094389355786:True:=trivial
theorem PySem.W.Fast.tw11320351676317602388:True:=trivial
theorem PySem.W.Fast.tw6664951462986138201:True:=trivial
theorem PySem.W.Fast.tw5353813085845620550:True:=trivial
theorem PySem.W.Fast.tw12018387782679925087:True:=trivial
theorem PySem.W.Fast.tw6585068141940680455:True:=trivial
theorem PySem.W.Fast.tw14722794537435163219:True:=trivial
theorem PySem.W.Fast.tw13478877428745155630:True:=trivial
theorem PySem.W.Fast.tw217222266210458990:True:=trivial
theorem PySem.W.Fast.tw11519117686961666697:True:=trivial
theorem PySem.W.Fast.tw4211700434839312001:True:=trivial
set_option maxRecDepth 100000 in
set_option maxHeartbeats 0 in
open_top head for PySem.Challenge.rw_regpress_k11_looker
namespace Rp
open PySem L2
theorem all {l:PySem.W.OpenLaw}{w:World}{K:PySem.W.Frag}{mg:Str->Option Value}{fa:Addr}(hT:∃ a,Tx K w mg a)(hfa:mg "law"=some (.ref fa)):
  ∃ fd:FuncData,(∀ (s:Shared) (v:Value),BindsTo s fd ⟨[v],[]⟩ [("_law_script",v)])/\∀ base:Heap,K.In base->base.Ns mainGlobals mg->jA l.prog w K mg base CX0 10 fa fd ["_law_script"] (JL K):=by
 obtain⟨a,T⟩:=hT
 have e:=hfa.symm.trans T.F_law.mg
 cases e
 refine⟨a.fd_law,λs v=>?_,λbase _ _=>ok_law T⟩
 obtain⟨oc,od,kV,doc,pm,an,cdv,ct,osl,e,_,_⟩:=T.F_law.fn.ex
 rw[e]
 exact .of_eq rfl
theorem walk {l:PySem.W.OpenLaw}{q:Program}{loose:List Str}{XP:(Str->Option Value)->Heap->Prop}{YP:World->Heap->Prop}{d:DefRec}{K:Params->PySem.W.Frag}(hn:l.most=some 63)(hdf:d.params.defaults=[])
  (hY:∀ (w:World) (h:Heap),YP w h->(K w.params).In h)
  (F:∀ (w:World) (mg:Str->Option Value) (fa:Addr) (h:Heap),(K w.params).In h->h.Ns mainGlobals mg->mg d.name=some (.ref fa) ->
   ∃ fd:FuncData,(∀ (s:Shared) (u:Value),BindsTo s fd ⟨[u],[]⟩ [("_law_script",u)])/\∀ base:Heap,(K w.params).In base->base.Ns mainGlobals mg->jA l.prog w (K w.params) mg base CX0 10 fa fd ["_law_script"] (JL (K w.params))):
  PySem.W.WalkO q loose XP YP l.row.toRowW d [] (λf vs=>PySem.call f vs):=
 L2.Yi (n:=63) (k:=10) (x:="_law_script") (CX:=λ_=>CX0) (sp:=λw=>JL (K w.params)) hn (by decide) hdf ⟨rfl,by decide,by decide⟩ hY F (λ_ _ a ns hl _ hS=>⟨a,ns,rfl,hS,λ_=>rfl⟩) λ_ _ _ _ _ z=>z
end Rp
open PySem PySem.W PyProof.Rows
set_option maxRecDepth 100000 in
set_option maxHeartbeats 0 in
theorem PySem.Challenge.cw_regpress_k11_looker_holds : PySem.Challenge.rw_regpress_k11_looker.Holds :=
 head (by
 k_fill
 refine Rp.walk (l:=PySem.Challenge.rw_regpress_k11_looker) rfl rfl (λw h Y=>PySem.W.kIn_of Y) ?F
 case F=>
  intro w mg fa h KX G hmg
  refine Rp.all ?T hmg
  case T=>
   refine' Rp.mkTx KX G ?g_PressError ?g_BadProgram ?g_BadPans ?g_Stuck ?a_is_move ?l_is_move ?c_is_move ?k_is_move ?a_rows_of ?l_rows_of ?c_rows_of ?k_rows_of ?a_given_in ?l_given_in ?c_given_in ?k_given_in ?a_read_in ?l_read_in ?c_read_in ?k_read_in ?a_without_names ?l_without_names ?c_without_names ?k_without_names ?a_ways_on ?l_ways_on ?c_ways_on ?k_ways_on ?a_check_sizes ?l_check_sizes ?c_check_sizes ?k_check_sizes ?a_check_rows ?l_check_rows ?c_check_rows ?k_check_rows ?a_check_deed ?l_check_deed ?c_check_deed ?k_check_deed ?a_check_end ?l_check_end ?c_check_end ?k_check_end ?a_check_names ?l_check_names ?c_check_names ?k_check_names ?a_check_pans ?l_check_pans ?c_check_pans ?k_check_pans ?a_check_code ?l_check_code ?c_check_code ?k_check_code ?a_check_move ?l_check_move ?c_check_move ?k_check_move ?a_moves_in ?l_moves_in ?c_moves_in ?k_moves_in ?a_without_moves ?l_without_moves ?c_without_moves ?k_without_moves ?a_check_program ?l_check_program ?c_check_program ?k_check_program ?a_passes ?l_passes ?c_passes ?k_passes ?a_has_shape ?l_has_shape ?c_has_shape ?k_has_shape ?a_shape_of ?l_shape_of ?c_shape_of ?k_shape_of ?a_reads_what_is_held ?l_reads_what_is_held ?c_reads_what_is_held ?k_reads_what_is_held ?a_side_by_side ?l_side_by_side ?c_side_by_side ?k_side_by_side ?a_held_at_beginnings ?l_held_at_beginnings ?c_held_at_beginnings ?k_held_at_beginnings ?a_held_in_both ?l_held_in_both ?c_held_in_both ?k_held_in_both ?a_held_at_end ?l_held_at_end ?c_held_at_end ?k_held_at_end ?a_reads_of_block_are_held ?l_reads_of_block_are_held ?c_reads_of_block_are_held ?k_reads_of_block_are_held ?a_reads_are_held ?l_reads_are_held ?c_reads_are_held ?k_reads_are_held ?a_take_note ?l_take_note ?c_take_note ?k_take_note ?a_note_move ?l_note_move ?c_note_move ?k_note_move ?a_note_given ?l_note_given ?c_note_given ?k_note_given ?a__law_cell ?l__law_cell ?c__law_cell ?k__law_cell ?a__law_mix ?l__law_mix ?c__law_mix ?k__law_mix ?a__law_deed ?l__law_deed ?c__law_deed ?k__law_deed ?a__law_end ?l__law_end ?c__law_end ?k__law_end ?a__law_program ?l__law_program ?c__law_program ?k__law_program ?a__law_homes ?l__law_homes ?c__law_homes ?k__law_homes ?a__law_changed ?l__law_changed ?c__law_changed ?k__law_changed ?a__law_shape ?l__law_shape ?c__law_shape ?k__law_shape ?a__law_reads ?l__law_reads ?c__law_reads ?k__law_reads ?a__law_walk ?l__law_walk ?c__law_walk ?k__law_walk ?a__law_due ?l__law_due ?c__law_due ?k__law_due ?a__law_told ?l__law_told ?c__law_told ?k__law_told ?a__law_other ?l__law_other ?c__law_other ?k__law_other ?a_law ?l_law ?c_law ?k_law ?g_MOST_BLOCKS ?g_FEWEST_PANS ?g_MOST_PANS ?g_MOST_DEEDS_codes ?g_PLACES ?g_MOST_DEEDS_programs ?g_NAMES ?g_WORDS ?tl_WORDS ?g_DEED_SIZES ?dl_DEED_SIZES ?dk_DEED_SIZES ?ds_DEED_SIZES ?g_END_SIZES ?dl_END_SIZES ?dk_END_SIZES ?ds_END_SIZES ?g_GIVEN_SPOTS ?dl_GIVEN_SPOTS ?dk_GIVEN_SPOTS ?ds_GIVEN_SPOTS ?g_READ_SPOTS ?dl_READ_SPOTS ?dk_READ_SPOTS ?ds_READ_SPOTS ?g_BLOCK_SPOTS ?dl_BLOCK_SPOTS ?dk_BLOCK_SPOTS ?ds_BLOCK_SPOTS ?v_DEED_SIZES_set ?v_DEED_SIZES_input ?v_DEED_SIZES_op ?v_DEED_SIZES_tell ?v_END_SIZES_go ?v_END_SIZES_if ?v_END_SIZES_end ?v_ds_move ?v_gs_set ?tl_gs_set ?v_gs_input ?tl_gs_input ?v_gs_op ?tl_gs_op ?v_gs_tell ?tl_gs_tell ?v_gs_go ?tl_gs_go ?v_gs_if ?tl_gs_if ?v_gs_end ?tl_gs_end ?v_rs_set ?tl_rs_set ?v_rs_input ?tl_rs_input ?v_rs_op ?tl_rs_op ?v_rs_tell ?tl_rs_tell ?v_rs_go ?tl_rs_go ?v_rs_if ?tl_rs_if ?v_rs_end ?tl_rs_end ?v_bs_go ?tl_bs_go ?v_bs_if ?tl_bs_if ?v_bs_end ?tl_bs_end ?xc_BadProgram ?xc_BadPans ?xc_Stuck ?ga_BadProgram ?gn_BadProgram ?cl_BadProgram ?sb_BadProgram ?mo_BadProgram ?ic_BadProgram ?hn_BadProgram ?tk_BadProgram ?ga_BadPans ?gn_BadPans ?cl_BadPans ?sb_BadPans ?mo_BadPans ?ic_BadPans ?hn_BadPans ?tk_BadPans ?ga_Stuck ?gn_Stuck ?cl_Stuck ?sb_Stuck ?mo_Stuck ?ic_Stuck ?hn_Stuck ?tk_Stuck ?r_exBad ?r_exPans ?r_exStuck ?r_iInt ?r_iIntB ?r_iBoolB ?r_iBad1 ?r_iBad2 ?r_iBad3 ?r_iPan1 ?r_iPan2 ?r_iPan3 ?z_len ?z_range ?z_enumerate ?z_isinstance ?z_int ?z_list ?z_dict ?z_tuple ?z_bool ?z_all ?z_zip
   (case g_PressError=>k_is)
   (case g_BadProgram=>k_is)
   (case g_BadPans=>k_is)
   (case g_Stuck=>k_is)
   (case a_is_move=>k_is)
   (case l_is_move=>k_is)
   (case c_is_move=>k_is)
   (case k_is_move=>k_is)
   (case a_rows_of=>k_is)
   (case l_rows_of=>k_is)
   (case c_rows_of=>k_is)
   (case k_rows_of=>k_is)
   (case a_given_in=>k_is)
   (case l_given_in=>k_is)
   (case c_given_in=>k_is)
   (case k_given_in=>k_is)
   (case a_read_in=>k_is)
   (case l_read_in=>k_is)
   (case c_read_in=>k_is)
   (case k_read_in=>k_is)
   (case a_without_names=>k_is)
   (case l_without_names=>k_is)
   (case c_without_names=>k_is)
   (case k_without_names=>k_is)
   (case a_ways_on=>k_is)
   (case l_ways_on=>k_is)
   (case c_ways_on=>k_is)
   (case k_ways_on=>k_is)
   (case a_check_sizes=>k_is)
   (case l_check_sizes=>k_is)
   (case c_check_sizes=>k_is)
   (case k_check_sizes=>k_is)
   (case a_check_rows=>k_is)
   (case l_check_rows=>k_is)
   (case c_check_rows=>k_is)
   (case k_check_rows=>k_is)
   (case a_check_deed=>k_is)
   (case l_check_deed=>k_is)
   (case c_check_deed=>k_is)
   (case k_check_deed=>k_is)
   (case a_check_end=>k_is)
   (case l_check_end=>k_is)
   (case c_check_end=>k_is)
   (case k_check_end=>k_is)
   (case a_check_names=>k_is)
   (case l_check_names=>k_is)
   (case c_check_names=>k_is)
   (case k_check_names=>k_is)
   (case a_check_pans=>k_is)
   (case l_check_pans=>k_is)
   (case c_check_pans=>k_is)
   (case k_check_pans=>k_is)
   (case a_check_code=>k_is)
   (case l_check_code=>k_is)
   (case c_check_code=>k_is)
   (case k_check_code=>k_is)
   (case a_check_move=>k_is)
   (case l_check_move=>k_is)
   (case c_check_move=>k_is)
   (case k_check_move=>k_is)
   (case a_moves_in=>k_is)
   (case l_moves_in=>k_is)
   (case c_moves_in=>k_is)
   (case k_moves_in=>k_is)
   (case a_without_moves=>k_is)
   (case l_without_moves=>k_is)
   (case c_without_moves=>k_is)
   (case k_without_moves=>k_is)
   (case a_check_program=>k_is)
   (case l_check_program=>k_is)
   (case c_check_program=>k_is)
   (case k_check_program=>k_is)
   (case a_passes=>k_is)
   (case l_passes=>k_is)
   (case c_passes=>k_is)
   (case k_passes=>k_is)
   (case a_has_shape=>k_is)
   (case l_has_shape=>k_is)
   (case c_has_shape=>k_is)
   (case k_has_shape=>k_is)
   (case a_shape_of=>k_is)
   (case l_shape_of=>k_is)
   (case c_shape_of=>k_is)
   (case k_shape_of=>k_is)
   (case a_reads_what_is_held=>k_is)
   (case l_reads_what_is_held=>k_is)
   (case c_reads_what_is_held=>k_is)
   (case k_reads_what_is_held=>k_is)
   (case a_side_by_side=>k_is)
   (case l_side_by_side=>k_is)
   (case c_side_by_side=>k_is)
   (case k_side_by_side=>k_is)
   (case a_held_at_beginnings=>k_is)
   (case l_held_at_beginnings=>k_is)
   (case c_held_at_beginnings=>k_is)
   (case k_held_at_beginnings=>k_is)
   (case a_held_in_both=>k_is)
   (case l_held_in_both=>k_is)
   (case c_held_in_both=>k_is)
   (case k_held_in_both=>k_is)
   (case a_held_at_end=>k_is)
   (case l_held_at_end=>k_is)
   (case c_held_at_end=>k_is)
   (case k_held_at_end=>k_is)
   (case a_reads_of_block_are_held=>k_is)
   (case l_reads_of_block_are_held=>k_is)
   (case c_reads_of_block_are_held=>k_is)
   (case k_reads_of_block_are_held=>k_is)
   (case a_reads_are_held=>k_is)
   (case l_reads_are_held=>k_is)
   (case c_reads_are_held=>k_is)
   (case k_reads_are_held=>k_is)
   (case a_take_note=>k_is)
   (case l_take_note=>k_is)
   (case c_take_note=>k_is)
   (case k_take_note=>k_is)
   (case a_note_move=>k_is)
   (case l_note_move=>k_is)
   (case c_note_move=>k_is)
   (case k_note_move=>k_is)
   (case a_note_given=>k_is)
   (case l_note_given=>k_is)
   (case c_note_given=>k_is)
   (case k_note_given=>k_is)
   (case a__law_cell=>k_is)
   (case l__law_cell=>k_is)
   (case c__law_cell=>k_is)
   (case k__law_cell=>k_is)
   (case a__law_mix=>k_is)
   (case l__law_mix=>k_is)
   (case c__law_mix=>k_is)
   (case k__law_mix=>k_is)
   (case a__law_deed=>k_is)
   (case l__law_deed=>k_is)
   (case c__law_deed=>k_is)
   (case k__law_deed=>k_is)
   (case a__law_end=>k_is)
   (case l__law_end=>k_is)
   (case c__law_end=>k_is)
   (case k__law_end=>k_is)
   (case a__law_program=>k_is)
   (case l__law_program=>k_is)
   (case c__law_program=>k_is)
   (case k__law_program=>k_is)
   (case a__law_homes=>k_is)
   (case l__law_homes=>k_is)
   (case c__law_homes=>k_is)
   (case k__law_homes=>k_is)
   (case a__law_changed=>k_is)
   (case l__law_changed=>k_is)
   (case c__law_changed=>k_is)
   (case k__law_changed=>k_is)
   (case a__law_shape=>k_is)
   (case l__law_shape=>k_is)
   (case c__law_shape=>k_is)
   (case k__law_shape=>k_is)
   (case a__law_reads=>k_is)
   (case l__law_reads=>k_is)
   (case c__law_reads=>k_is)
   (case k__law_reads=>k_is)
   (case a__law_walk=>k_is)
   (case l__law_walk=>k_is)
   (case c__law_walk=>k_is)
   (case k__law_walk=>k_is)
   (case a__law_due=>k_is)
   (case l__law_due=>k_is)
   (case c__law_due=>k_is)
   (case k__law_due=>k_is)
   (case a__law_told=>k_is)
   (case l__law_told=>k_is)
   (case c__law_told=>k_is)
   (case k__law_told=>k_is)
   (case a__law_other=>k_is)
   (case l__law_other=>k_is)
   (case c__law_other=>k_is)
   (case k__law_other=>k_is)
   (case a_law=>k_is)
   (case l_law=>k_is)
   (case c_law=>k_is)
   (case k_law=>k_is)
   (case g_MOST_BLOCKS=>k_is)
   (case g_FEWEST_PANS=>k_is)
   (case g_MOST_PANS=>k_is)
   (case g_MOST_DEEDS_codes=>k_is)
   (case g_PLACES=>k_is)
   (case g_MOST_DEEDS_programs=>k_is)
   (case g_NAMES=>k_is)
   (case g_WORDS=>k_is)
   (case tl_WORDS=>k_is)
   (case g_DEED_SIZES=>k_is)
   (case dl_DEED_SIZES=>k_is)
   (case dk_DEED_SIZES=>k_keys)
   (case ds_DEED_SIZES=>decide)
   (case g_END_SIZES=>k_is)
   (case dl_END_SIZES=>k_is)
   (case dk_END_SIZES=>k_keys)
   (case ds_END_SIZES=>decide)
   (case g_GIVEN_SPOTS=>k_is)
   (case dl_GIVEN_SPOTS=>k_is)
   (case dk_GIVEN_SPOTS=>k_keys)
   (case ds_GIVEN_SPOTS=>decide)
   (case g_READ_SPOTS=>k_is)
   (case dl_READ_SPOTS=>k_is)
   (case dk_READ_SPOTS=>k_keys)
   (case ds_READ_SPOTS=>decide)
   (case g_BLOCK_SPOTS=>k_is)
   (case dl_BLOCK_SPOTS=>k_is)
   (case dk_BLOCK_SPOTS=>k_keys)
   (case ds_BLOCK_SPOTS=>decide)
   (case v_DEED_SIZES_set=>k_is)
   (case v_DEED_SIZES_input=>k_is)
   (case v_DEED_SIZES_op=>k_is)
   (case v_DEED_SIZES_tell=>k_is)
   (case v_END_SIZES_go=>k_is)
   (case v_END_SIZES_if=>k_is)
   (case v_END_SIZES_end=>k_is)
   (case v_ds_move=>k_is)
   (case v_gs_set=>k_is)
   (case tl_gs_set=>k_is)
   (case v_gs_input=>k_is)
   (case tl_gs_input=>k_is)
   (case v_gs_op=>k_is)
   (case tl_gs_op=>k_is)
   (case v_gs_tell=>k_is)
   (case tl_gs_tell=>k_is)
   (case v_gs_go=>k_is)
   (case tl_gs_go=>k_is)
   (case v_gs_if=>k_is)
   (case tl_gs_if=>k_is)
   (case v_gs_end=>k_is)
   (case tl_gs_end=>k_is)
   (case v_rs_set=>k_is)
   (case tl_rs_set=>k_is)
   (case v_rs_input=>k_is)
   (case tl_rs_input=>k_is)
   (case v_rs_op=>k_is)
   (case tl_rs_op=>k_is)
   (case v_rs_tell=>k_is)
   (case tl_rs_tell=>k_is)
   (case v_rs_go=>k_is)
   (case tl_rs_go=>k_is)
   (case v_rs_if=>k_is)
   (case tl_rs_if=>k_is)
   (case v_rs_end=>k_is)
   (case tl_rs_end=>k_is)
   (case v_bs_go=>k_is)
   (case tl_bs_go=>k_is)
   (case v_bs_if=>k_is)
   (case tl_bs_if=>k_is)
   (case v_bs_end=>k_is)
   (case tl_bs_end=>k_is)
   (case xc_BadProgram=>k_exc)
   (case xc_BadPans=>k_exc)
   (case xc_Stuck=>k_exc)
   (case ga_BadProgram=>k_is)
   (case gn_BadProgram=>k_is)
   (case cl_BadProgram=>k_is)
   (case sb_BadProgram=>k_is)
   (case mo_BadProgram=>k_is)
   (case ic_BadProgram=>k_is)
   (case hn_BadProgram=>k_is)
   (case tk_BadProgram=>k_is)
   (case ga_BadPans=>k_is)
   (case gn_BadPans=>k_is)
   (case cl_BadPans=>k_is)
   (case sb_BadPans=>k_is)
   (case mo_BadPans=>k_is)
   (case ic_BadPans=>k_is)
   (case hn_BadPans=>k_is)
   (case tk_BadPans=>k_is)
   (case ga_Stuck=>k_is)
   (case gn_Stuck=>k_is)
   (case cl_Stuck=>k_is)
   (case sb_Stuck=>k_is)
   (case mo_Stuck=>k_is)
   (case ic_Stuck=>k_is)
   (case hn_Stuck=>k_is)
   (case tk_Stuck=>k_is)
   (case r_exBad=>kts_exm)
   (case r_exPans=>kts_exm)
   (case r_exStuck=>kts_exm)
   (case r_iInt=>kit_is)
   (case r_iIntB=>kit_is)
   (case r_iBoolB=>kit_is)
   (case r_iBad1=>kit_is)
   (case r_iBad2=>kit_is)
   (case r_iBad3=>kit_is)
   (case r_iPan1=>kit_is)
   (case r_iPan2=>kit_is)
   (case r_iPan3=>kit_is)
   (case z_len=>k_is)
   (case z_range=>k_is)
   (case z_enumerate=>k_is)
   (case z_isinstance=>k_is)
   (case z_int=>k_is)
   (case z_list=>k_is)
   (case z_dict=>k_is)
   (case z_tuple=>k_is)
   (case z_bool=>k_is)
   (case z_all=>k_is)
   (case z_zip=>k_is))
