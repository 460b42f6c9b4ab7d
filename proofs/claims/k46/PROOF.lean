import PyProof.Rows.All
import Wide.All
import OpenK.AllK
import Wide.FinOn
import Lean
import PyProof.EqAt
import PyProof.EqKinds
import PyProof.TupleCall
import PySem.Challenge.RW_outweave_k46_whole_even_by_prices
set_option Elab.async false
set_option linter.all false
set_option maxRecDepth 100000
set_option maxHeartbeats 4000000
section
open PySem PyProof.Rows
abbrev za:=@wpAny_bind
abbrev zb:=@wpAny_pure
abbrev zc:=@Nat.le_refl
abbrev zd:=@List.map_cons
abbrev ze:=@List.length_map
abbrev zf:=@Heap.lt_size
abbrev zg:=@decide_eq_false
abbrev zh:=@decide_eq_true
abbrev zj:=@Bool.false_ne_true
abbrev zk:=@Heap.get?_push_of_some
abbrev zl:=@List.getElem?_eq_some_iff
abbrev zm:=@List.mem_singleton
abbrev zn:=@List.mem_cons
abbrev zo:=@List.getElem?_eq_getElem
abbrev zp:=@Bool.and_eq_true
abbrev zq:=@List.getElem?_set_ne
abbrev zr:=@List.size_toArray
abbrev zt:=@List.getElem?_cons_zero
abbrev zu:=@Nat.ne_of_lt
abbrev zv:=@List.mem_cons_self
abbrev zw:=@List.getElem?_cons_succ
abbrev zx:=@List.length_cons
abbrev zy:=@List.mem_cons_of_mem
abbrev zz:=@Heap.get?_push_size
abbrev zA:=@List.getElem?_map
abbrev zB:=@Option.some.inj
abbrev zC:=@List.map_nil
abbrev zD:=@List.getElem?_append_left
abbrev zE:=@List.mem_map
abbrev zF:=@List.length_append
abbrev zG:=@Nat.lt_of_lt_of_le
abbrev zH:=@Nat.le_trans
abbrev zI:=@List.mem_of_getElem?
abbrev zJ:=@List.mem_append
abbrev zK:=@List.nil_append
abbrev zL:=@wpAny_mono
abbrev zM:=@wpAny_holding
abbrev zN:=@List.set_cons_zero
abbrev zO:=@List.getElem?_append_right
abbrev zP:=@Nat.lt_irrefl
abbrev zQ:=@List.getElem?_set_self
abbrev zR:=@List.map_map
abbrev zS:=@Int.emod_nonneg
abbrev zT:=@List.set_cons_succ
abbrev zU:=@List.mem_append_right
abbrev zV:=@List.length_nil
abbrev zW:=@Int.emod_lt_of_pos
abbrev zX:=@List.append_nil
abbrev zY:=@List.map_append
abbrev zZ:=@Nat.lt_succ_self
abbrev ja:=@wpAny_rule
abbrev jb:=@wpAny_updateSeq
abbrev jc:=@List.getD_eq_getElem?_getD
abbrev jd:=@Nat.lt_succ_of_lt
abbrev je:=@codeAny_builtin
abbrev jf:=@Heap.get?_update_other
abbrev jg:=@List.length_singleton
abbrev jh:=@wpAny_letGo
abbrev ji:=@List.length_set
abbrev jj:=@of_decide_eq_true
abbrev jk:=@List.append_assoc
abbrev jl:=@List.map_congr_left
abbrev jm:=@Nat.zero_add
abbrev jn:=@Nat.le_add_right
abbrev jo:=@List.all_eq_true
abbrev jp:=@List.getElem_mem
abbrev jq:=@List.nodup_append
end
namespace PySem.W.Fast
abbrev tw940749252337744782:=()
abbrev tw17332415563143598208:=()
abbrev tw4040893587358813732:=()
abbrev tw1678332288447308298:=()
abbrev tw2674662313954049285:=()
abbrev tw7345022574768108956:=()
abbrev tw1458382226881505067:=()
abbrev tw17052811273615621250:=()
abbrev tw17954271423121544261:=()
abbrev tw5614356194345432570:=()
abbrev tw7311942792742602226:=()
abbrev tw7537031033999711813:=()
abbrev tw1583904256405188656:=()
abbrev tw10083983805799848316:=()
abbrev tw14710652845960505558:=()
abbrev tw1049388960640699168:=()
abbrev tw15451846055667525631:=()
abbrev tw17146498383462087017:=()
abbrev tw5953539937606186424:=()
abbrev tw3289369752981474570:=()
end PySem.W.Fast
namespace L2
open PySem PySem.Spec PyProof.Rows
abbrev Key:=Sum Int Str
def o8:Key->Value->Bool
 | .inl k,v=>Value.isInt k v
 | .inr x,v=>Value.isStrOf x v
def Od(w:World):Key->Int
 | .inl k=>hashInt k
 | .inr x=>hashStr w x
theorem j6:∀{k:Key}{v:Value},o8 k v=true->(∃i t,k=Sum.inl i/\v=Value.int i t)\/(∃x t,k=Sum.inr x/\v=Value.str x t)
 | .inl i,v,h=>by
  obtain⟨t,e⟩:=Value.isInt_shape (k:=i) (v:=v) h;exact .inl ⟨i,t,rfl,e⟩
 | .inr x,v,h=>by
  obtain⟨t,e⟩:=Value.isStrOf_shape (x:=x) (v:=v) h;exact .inr ⟨x,t,rfl,e⟩
theorem Oe(i:Int)(t:Tok):o8 (.inl i) (.int i t)=true:=by simp[o8,Value.isInt]
theorem Og(x:Str)(t:Tok):o8 (.inr x) (.str x t)=true:=by simp[o8,Value.isStrOf]
theorem Oh(a b:Int):decide ((Sum.inl a:Key)=Sum.inl b)=(a == b):=by
 by_cases e:a=b
 ·subst e;simp
 ·have h:¬(Sum.inl a:Key)=Sum.inl b:=λq=>e (Sum.inl.inj q)
  rw[zg h];exact(beq_eq_false_iff_ne.mpr e).symm
theorem Oi(a b:Str):decide ((Sum.inr a:Key)=Sum.inr b)=decide (a=b):=by
 by_cases e:a=b
 ·subst e;simp
 ·have h:¬(Sum.inr a:Key)=Sum.inr b:=λq=>e (Sum.inr.inj q)
  rw[zg h,zg e]
theorem Oj(a:Int)(b:Str):decide ((Sum.inl a:Key)=Sum.inr b)=false:=zg (λq=>nomatch q)
theorem Ol(a:Str)(b:Int):decide ((Sum.inr a:Key)=Sum.inl b)=false:=zg (λq=>nomatch q)
def fK(prog:Program)(w:World):PySem.KeyKind prog w Key where
 is:=o8
 hash:=Od w
 inj:=λv a b ha hb=>by
  rcases j6 ha with⟨i,t,rfl,rfl⟩ | ⟨x,t,rfl,rfl⟩
  ·rcases j6 hb with⟨j,u,rfl,e⟩ | ⟨y,u,rfl,e⟩
   ·injection e with e1 _;rw[e1]
   ·exact nomatch e
  ·rcases j6 hb with⟨j,u,rfl,e⟩ | ⟨y,u,rfl,e⟩
   ·exact nomatch e
   ·injection e with e1 _;rw[e1]
 byValue:=λk v h=>by
  rcases j6 h with⟨i,t,rfl,rfl⟩ | ⟨x,t,rfl,rfl⟩<;>rfl
 pyHash:=λhv h=>by
  rcases j6 hv with⟨i,t,rfl,rfl⟩ | ⟨x,t,rfl,rfl⟩
  ·exact wpAny_pyHash_int h
  ·exact wpAny_pyHash_str h
 eqBool:=λhu hv h=>by
  rcases j6 hu with⟨i,t,rfl,rfl⟩ | ⟨x,t,rfl,rfl⟩
  ·rcases j6 hv with⟨j,u,rfl,rfl⟩ | ⟨y,u,rfl,rfl⟩
   ·rw[Oh] at h;exact wpAny_eqBool_int h
   ·rw[Oj] at h;exact SeqAt.EqAt.int_str i t y u _ _ _ _ h
  ·rcases j6 hv with⟨j,u,rfl,rfl⟩ | ⟨y,u,rfl,rfl⟩
   ·rw[Ol] at h;exact SeqAt.EqAt.str_int x t j u _ _ _ _ h
   ·rw[Oi] at h;exact wpAny_eqBool_str h
 «strs»:=λk x t v h=>by
  rcases j6 h with⟨i,u,rfl,e⟩ | ⟨y,u,rfl,e⟩
  ·exact nomatch e
  ·injection e with e1 _
   subst e1
   cases v<;>rfl
theorem Om(prog:Program)(w:World)(i:Int)(t:Tok):(fK prog w).is (.inl i) (.int i t)=true:=Oe i t
theorem Oo(prog:Program)(w:World)(x:Str)(t:Tok):(fK prog w).is (.inr x) (.str x t)=true:=Og x t
inductive V where
 | non | bl (b:Bool) | int (i:Int) | str (x:Str) | byt (b:Array UInt8) | flt (b:UInt64) | ref (a:Addr) | ty (n:String)
 deriving DecidableEq
def RelV:V->Value->Prop
 | .non,u=>u=Value.none
 | .bl b,u=>u=Value.bool b
 | .int i,u=>∃t,u=Value.int i t
 | .str x,u=>∃t,u=Value.str x t
 | .byt b,u=>∃t,u=Value.bytes b t
 | .flt b,u=>∃t,u=Value.float b t
 | .ref a,u=>u=Value.ref a
 | .ty n,u=>u=Value.type n
abbrev aR:List V->List Value->Prop:=Paired RelV
theorem aR.length{xs:List V}{us:List Value}(r:aR xs us):xs.length=us.length:=Paired.length r
theorem aR.get:∀{xs:List V}{us:List Value}{i:Nat}{x:V},aR xs us->xs[i]?=some x->∃u,us[i]?=some u/\RelV x u
 | _,_,_,_,.nil,e=>by simp at e
 | _,_,0,_,.cons r _,e=>by simp at e;subst e;exact⟨_,rfl,r⟩
 | _,_,i+1,x,.cons _ t,e=>by
  obtain⟨u,h1,h2⟩:=aR.get (i:=i) (x:=x) t (by simpa using e);exact⟨u,by simpa using h1,h2⟩
theorem aR.set{x:V}{u:Value}(r:RelV x u):∀{xs:List V}{us:List Value} (i:Nat),aR xs us->aR (xs.set i x) (us.set i u)
 | _,_,_,.nil=>.nil
 | _,_,0,.cons _ t=>.cons r t
 | _,_,i+1,.cons q t=>.cons q (aR.set r i t)
theorem aR.append:∀{xs ys:List V}{us ws:List Value},aR xs us->aR ys ws->aR (xs++ys) (us++ws)
 | _,_,_,_,.nil,s=>s
 | _,_,_,_,.cons r t,s=>.cons r (aR.append t s)
theorem aR.take:∀{xs:List V}{us:List Value} (n:Nat),aR xs us->aR (xs.take n) (us.take n)
 | _,_,0,_=>.nil
 | _,_,_+1,.nil=>.nil
 | _,_,n+1,.cons r t=>.cons r (aR.take n t)
theorem aR.drop:∀{xs:List V}{us:List Value} (n:Nat),aR xs us->aR (xs.drop n) (us.drop n)
 | _,_,0,r=>r
 | _,_,_+1,.nil=>.nil
 | _,_,n+1,.cons _ t=>aR.drop n t
theorem aR.none_of:∀{xs:List V}{us:List Value}{i:Nat},aR xs us->xs[i]?=none->us[i]?=none:=λ{xs us i} r e=>by
 have h1:=r.length;have h2:xs.length<=i:=List.getElem?_eq_none_iff.mp e;exact List.getElem?_eq_none_iff.mpr (by omega)
def fj:Option V->Option Value->Prop
 |some v,some u=>RelV v u
 |none,none=>True
 | _,_=>False
def KV{κ:Type}:List (κ×V)->List (κ×Value)->Prop:=Paired λ(p:κ×V) (q:κ×Value)=>p.1=q.1/\RelV p.2 q.2
def kV:Key->V
 | .inl i=>.int i
 | .inr x=>.str x
inductive HO where
  | lst (xs:List V)
  | tup (xs:List V)
  | dK (kvs:List (Key×V)) | dT (kvs:List (List Key×V))
  | set (S:Int->Bool) (n:Nat)
  | ins (C dx:Addr) (fs:List (Str×V))
  | own (x:Addr)
  | xd (fs:List (Str×V))
  | met (f x:Addr)
  | rng (lo hi:Int)
  | frz (o:Obj) (u:HO)
  | tbl (ps:Array Value)
  | ext (φ:Heap->Prop)
abbrev Hp:=Addr->Option HO
def upd(H:Hp)(a:Addr)(o:HO):Hp:=λb=>if b=a then some o else H b
theorem cA{H:Hp}{a:Addr}{o:HO}:upd H a o a=some o:=by unfold upd;rw[if_pos rfl]
theorem aP{H:Hp}{a b:Addr}{o:HO}(h:b≠a):upd H a o b=H b:=by unfold upd;rw[if_neg h]
theorem ne_of{H:Hp}{a b:Addr}{o u:HO}(h:H a=some o)(h':H b=some u)(d:o≠u):a≠b:=by
 intro e;subst e;rw[h] at h';exact d (zB h')
theorem cT{H:Hp}{a b:Addr}{o:HO}(h:H a=some o)(h':H b=none):a≠b:=by
 intro e;subst e;rw[h] at h';cases h'
section
variable (P:Program)(w:World)
def cN(H:Hp)(h:Heap)(a:Addr):HO->Prop
 | .lst xs=>xs.length<=sizeLine/\∃(its:List Value) (n:Nat),aR xs its/\h.get? a=some {cls:=.type "list",data:=.seq its.toArray n}
 | .tup xs=>xs.length<=sizeLine/\∃its:List Value,aR xs its/\IsTup h a its.toArray
 | .dK kvs=>kvs.length<=sizeLine/\(a == sysModules)=false/\∃vs,KV kvs vs/\h.DictOf (fK P w) a vs
 | .dT kvs=>kvs.length<=sizeLine/\(a == sysModules)=false/\∃xs:List (List Key×Addr×Value),
   Paired (λ(p:List Key×V) (q:List Key×Addr×Value)=>p.1=q.1/\H q.2.1=some (.tup (p.1.map kV))/\RelV p.2 q.2.2) kvs xs /\
   ∃o es ep,h.get? a=some o/\o.ExactDict/\o.data=.dict es ep/\es.toList=xs.map (entryOfKey (tupleKind (fK P w)))/\(xs.map (·.1)).Nodup
 | .set S n=>h.SetOf (intKind P w) a S n
 | .ins C dx fs=>H dx=some (.own a)/\fs.length<=1000/\dx≠a/\h.get? a=some (PySem.W.instObj C dx) /\
   ∃mA,h.Ns1 dx mA/\(∀f,fj (fs.lookup f) (mA f))/\PySem.Within mA (fs.map (·.1))
 | .own _=>∃o,h.get? a=some o
 | .xd fs=>∃mA,h.Ns1 a mA/\∀f,fj (fs.lookup f) (mA f)
 | .rng lo hi=>∃t u v,h.get? a=some {cls:=.type "range",data:=.fields #[.int lo t,.int hi u,.int 1 v]}
 | .frz o u=>h.get? a=some o/\cN H h a u
 | .tbl ps=>h.get? a=some {cls:=.none,data:=.fields ps}
 | .met f x=>h.get? a=some (PySem.W.methodObj (.ref f) (.ref x))
 | .ext φ=>φ h/\(∃o,h.get? a=some o)/\∀h1 h2:Heap,φ h1->(∀o,h1.get? a=some o->h2.get? a=some o)->φ h2
def HOk(H:Hp)(h:Heap):Prop:=∀a o,H a=some o->cN P w H h a o
end
section
variable {P:Program}{w:World}{H H':Hp}{h h':Heap}{a:Addr}{o:HO}
theorem cN.lt(x:cN P w H h a o):a<h.objs.size:=by
 cases o with
 |lst xs=>obtain⟨_,_,_,_,e⟩:=x;exact zf e
 |tup xs=>obtain⟨_,_,_,p⟩:=x;exact p.lt
 |dK kvs=>obtain⟨_,_,_,_,o,_,_,e,_⟩:=x;exact zf e
 |dT kvs=>obtain⟨_,_,_,_,o,_,_,e,_⟩:=x;exact zf e
 |set S n=>obtain⟨o,_,_,_,e,_⟩:=x;exact zf e
 |ins C dx fs=>obtain⟨_,_,_,e,_⟩:=x;exact zf e
 |own y=>obtain⟨_,e⟩:=x;exact zf e
 |xd fs=>obtain⟨_,⟨_,_,_,e,_⟩,_⟩:=x;exact zf e
 |rng lo hi=>obtain⟨_,_,_,e⟩:=x;exact zf e
 |frz ob u=>obtain⟨e,_⟩:=x;exact zf e
 |tbl ps=>exact zf (show h.get? a=some _ from x)
 |met f y=>exact zf (show h.get? a=some _ from x)
 |ext φ=>obtain⟨_,⟨_,e⟩,_⟩:=x;exact zf e
theorem Paired.mapP{α β:Type}{F G:α->β->Prop}:∀{l₁:List α}{l₂:List β},Paired F l₁ l₂->(∀a b,F a b->G a b)->Paired G l₁ l₂
 | _,_,.nil,_=>.nil
 | _,_,.cons r t,f=>.cons (f _ _ r) (Paired.mapP t f)
theorem cN.stay(x:cN P w H h a o)(k:∀b u,(b=a\/H b=some (.own a))->h.get? b=some u->h'.get? b=some u)
  (ho:∀b,H b=some (.own a)->H' b=some (.own a)) (ht:∀b xs,H b=some (.tup xs)->H' b=some (.tup xs)):cN P w H' h' a o:=by
 induction o with
 |lst xs=>obtain⟨z,its,n,r,e⟩:=x;exact⟨z,its,n,r,k _ _ (.inl rfl) e⟩
 |tup xs=>obtain⟨z,its,r,ob,e,c⟩:=x;exact⟨z,its,r,ob,k _ _ (.inl rfl) e,c⟩
 |dK kvs=>obtain⟨z,y,vs,r,ob,es,ep,e,c⟩:=x;exact⟨z,y,vs,r,ob,es,ep,k _ _ (.inl rfl) e,c⟩
 |dT kvs =>
  obtain⟨z,y,xs,r,ob,es,ep,e,c⟩:=x;exact⟨z,y,xs,Paired.mapP r λp q z=>⟨z.1,ht _ _ z.2.1,z.2.2⟩,ob,es,ep,k _ _ (.inl rfl) e,c⟩
 |set S n=>obtain⟨ob,es,ep,t,e,c⟩:=x;exact⟨ob,es,ep,t,k _ _ (.inl rfl) e,c⟩
 |ins C dx fs =>
  obtain⟨d,z,ne,e,mA,⟨od,es,ep,e2,c⟩,r⟩:=x;exact⟨ho _ d,z,ne,k _ _ (.inl rfl) e,mA,⟨od,es,ep,k _ _ (.inr d) e2,c⟩,r⟩
 |own y=>obtain⟨ob,e⟩:=x;exact⟨ob,k _ _ (.inl rfl) e⟩
 |xd fs=>obtain⟨mA,⟨od,es,ep,e,c⟩,r⟩:=x;exact⟨mA,⟨od,es,ep,k _ _ (.inl rfl) e,c⟩,r⟩
 |rng lo hi=>obtain⟨t,u,v,e⟩:=x;exact⟨t,u,v,k _ _ (.inl rfl) e⟩
 |frz ob u ih=>obtain⟨e,q⟩:=x;exact⟨k _ _ (.inl rfl) e,ih q⟩
 |tbl ps =>
  have e:h.get? a=some {cls:=.none,data:=.fields ps}:=x;show h'.get? a=some {cls:=.none,data:=.fields ps};exact k a _ (.inl rfl) e
 |met f y =>
  have e:h.get? a=some (PySem.W.methodObj (.ref f) (.ref y)):=x;show h'.get? a=some (PySem.W.methodObj (.ref f) (.ref y));exact k a _ (.inl rfl) e
 |ext φ=>obtain⟨p,⟨o,e⟩,st⟩:=x;exact⟨st _ _ p λo q=>k _ _ (.inl rfl) q,⟨o,k _ _ (.inl rfl) e⟩,st⟩
theorem HOk.lt(x:HOk P w H h)(e:H a=some o):a<h.objs.size:=(x a o e).lt
theorem HOk.fresh(x:HOk P w H h)(e:h.objs.size<=a):H a=none:=by
 cases q:H a with
 |none=>rfl
 |some u=>exact absurd (zG (x.lt q) e) (zP _)
theorem HOk.kept(x:HOk P w H h)(k:∀b u,h.get? b=some u->h'.get? b=some u):HOk P w H h':=λa o e =>
 (x a o e).stay (λb u _ q=>k b u q) (λ_ q=>q) λ_ _ q=>q
theorem HOk.laid(x:HOk P w H h)(k:∀b u,h.get? b=some u->h'.get? b=some u)(hp:h.objs.size<=a)(new:cN P w (upd H a o) h' a o):HOk P w (upd H a o) h':=λb u e=>by
 have hn:=x.fresh hp
 by_cases hb:b=a
 ·subst hb;rw[cA] at e;cases e;exact new
 ·rw[aP hb] at e
  exact(x b u e).stay (λc v _ q=>k c v q) (λc q=>by rw[aP (cT q hn)];exact q) λc xs q=>by rw[aP (cT q hn)];exact q
end
def Rd(H:Hp)(a:Addr)(u:HO):Prop:=H a=some u\/∃o,H a=some (.frz o u)
theorem Rd.of{H:Hp}{a:Addr}{u:HO}(h:H a=some u):Rd H a u:=.inl h
theorem Rd.ok{P:Program}{w:World}{H:Hp}{h:Heap}{a:Addr}{u:HO}(r:Rd H a u)(x:HOk P w H h):cN P w H h a u:=by
 rcases r with r | ⟨o,r⟩
 ·exact x a u r
 ·obtain⟨_,q⟩:=x a _ r;exact q
def Mut:Option HO->Prop
 |some (.lst _)=>True
 |some (.dK _)=>True
 |some (.dT _)=>True
 |some (.set _ _)=>True
 |some (.ins _ _ _)=>True
 |some (.ext _)=>True
 | _=>False
section
variable {P:Program}{w:World}{H:Hp}{h h':Heap}{x e:Addr}{o':HO}
theorem HOk.write(ok:HOk P w H h)(mu:Mut (H x))(he:e=x\/H e=some (.own x))(k:∀b u,b≠e->h.get? b=some u->h'.get? b=some u)(heo:∃u,h'.get? e=some u)
  (new:cN P w (upd H x o') h' x o'):HOk P w (upd H x o') h':=λb u q=>by
 have nown:∀c y,H c=some (.own y)->c≠x:=λc y r z=>by subst z;rw[r] at mu;exact mu
 have ntup:∀c xs,H c=some (.tup xs)->c≠x:=λc xs r z=>by subst z;rw[r] at mu;exact mu
 by_cases hb:b=x
 ·subst hb;rw[cA] at q;cases q;exact new
 ·rw[aP hb] at q
  by_cases hbe:b=e
  ·have q':H b=some (.own x):=by
    rcases he with z | z
    ·exact absurd (hbe.trans z) hb
    ·rw[hbe];exact z
   rw[q] at q';cases q';obtain⟨v,hv⟩:=heo;exact⟨v,by rw[hbe];exact hv⟩
  ·refine(ok b u q).stay (λc v hc r=>k c v ?_ r) (λc r=>by rw[aP (nown c b r)];exact r) λc xs r=>by rw[aP (ntup c xs r)];exact r
   rcases hc with rfl | hc
   ·exact hbe
   ·rintro rfl
    rcases he with z | z
    ·exact nown c b hc z
    ·rw[hc] at z;cases z;exact hb rfl
end
structure Un(fs ex:List Addr)(H H':Hp)(h h':Heap):Prop where
 keep:∀b o,h.get? b=some o->H b=none->b∉fs->b∉ex->h'.get? b=some o
 slot:∀b o,h.get? b=some o->H b=none->b∈fs->b∉ex->∃sl,h'.get? b=some {o with slots:=sl}
 free:∀b o,h.get? b=some o->H b=none->b∉ex->H' b=none
 there:∀b o,h.get? b=some o->b∉ex->∃o',h'.get? b=some o'
 tups:∀b xs,H b=some (.tup xs)->H' b=some (.tup xs)
 frzs:∀b o u,H b=some (.frz o u)->H' b=some (.frz o u)
 tbls:∀b ps,H b=some (.tbl ps)->∃more,H' b=some (.tbl (ps++more))
section
variable {fs fs' ex ex':List Addr}{H H1 H2:Hp}{h h1 h2 h':Heap}{a x e:Addr}{o:HO}
theorem Un.any(u:Un fs ex H H1 h h1){b:Addr}{ob:Obj}(q:h.get? b=some ob)(n:H b=none)(hx:b∉ex):∃sl,h1.get? b=some {ob with slots:=sl}:=by
 by_cases hb:b∈fs
 ·exact u.slot b ob q n hb hx
 ·exact⟨ob.slots,u.keep b ob q n hb hx⟩
theorem Un.trans(a:Un fs ex H H1 h h1)(b:Un fs ex H1 H2 h1 h2):Un fs ex H H2 h h2 where
 keep:=λc ob q n hc hx=>b.keep c ob (a.keep c ob q n hc hx) (a.free c ob q n hx) hc hx
 slot:=λc ob q n hc hx=>by
  obtain⟨sl,e1⟩:=a.slot c ob q n hc hx;obtain⟨sl',e2⟩:=b.slot c _ e1 (a.free c ob q n hx) hc hx;exact⟨sl',e2⟩
 free:=λc ob q n hx=>by
  obtain⟨o',e1⟩:=a.there c ob q hx;exact b.free c o' e1 (a.free c ob q n hx) hx
 there:=λc ob q hx=>by
  obtain⟨o',e1⟩:=a.there c ob q hx;exact b.there c o' e1 hx
 tups:=λc xs q=>b.tups c xs (a.tups c xs q)
 frzs:=λc ob xs q=>b.frzs c ob xs (a.frzs c ob xs q)
 tbls:=λc ps q=>by
  obtain⟨m1,e1⟩:=a.tbls c ps q;obtain⟨m2,e2⟩:=b.tbls c _ e1;exact⟨m1++m2,by rw[e2,Array.append_assoc]⟩
theorem Un.kept(k:∀b u,h.get? b=some u->h'.get? b=some u):Un fs ex H H h h' :=
 ⟨λb ob q _ _ _=>k b ob q,λb ob q _ _ _=>⟨ob.slots,k b ob q⟩,λ_ _ _ n _=>n,λb ob q _=>⟨ob,k b ob q⟩,λ_ _ q=>q,λ_ _ _ q=>q,λ_ ps q=>⟨#[],by rw[q];simp⟩⟩
theorem Un.refl:Un fs ex H H h h:=Un.kept λ_ _ q=>q
theorem Un.laid(k:∀b u,h.get? b=some u->h'.get? b=some u)(hp:h.objs.size<=a)(hn:H a=none):Un fs ex H (upd H a o) h h' where
 keep:=λb u q _ _ _=>k b u q
 slot:=λb u q _ _ _=>⟨u.slots,k b u q⟩
 free:=λb u q n _=>by rw[aP (zu (zG (zf q) hp))];exact n
 there:=λb u q _=>⟨u,k b u q⟩
 tups:=λb xs q=>by rw[aP (cT q hn)];exact q
 frzs:=λb u xs q=>by rw[aP (cT q hn)];exact q
 tbls:=λb ps q=>⟨#[],by rw[aP (cT q hn),q];simp⟩
theorem Un.write(mu:Mut (H x))(he:e=x\/H e=some (.own x))(k:∀b u,b≠e->h.get? b=some u->h'.get? b=some u)(heo:∃u,h'.get? e=some u):Un fs ex H (upd H x o) h h':=by
 have hx:∀b,H b=none->b≠x:=λb n z=>by subst z;rw[n] at mu;exact mu
 have hb:∀b,H b=none->b≠e:=λb n z=>by
  subst z
  rcases he with r | r
  ·exact hx b n r
  ·rw[n] at r;cases r
 have hm:∀b u,H b=some u->¬Mut (some u)->b≠x:=λb u q nm z=>by subst z;rw[q] at mu;exact nm mu
 refine⟨λb u q n _ _=>k b u (hb b n) q,λb u q n _ _=>⟨u.slots,k b u (hb b n) q⟩,λb u q n _=>by rw[aP (hx b n)];exact n,λb u q _=>?_,
  λb xs q=>by rw[aP (hm b _ q λz=>z)];exact q,λb u xs q=>by rw[aP (hm b _ q λz=>z)];exact q,λb ps q=>⟨#[],by rw[aP (hm b _ q λz=>z),q];simp⟩⟩
 by_cases hbe:b=e
 ·subst hbe;exact heo
 ·exact⟨u,k b u hbe q⟩
theorem Un.mono(u:Un fs ex H H1 h h1)(hs:∀b∈fs,b∈fs')(hx:∀b∈ex,b∈ex'):Un fs' ex' H H1 h h1 :=
 ⟨λb ob q n hb he=>u.keep b ob q n (λz=>hb (hs b z)) λz=>he (hx b z),λ_ _ q n _ he=>u.any q n λz=>he (hx _ z),λb ob q n he=>u.free b ob q n λz=>he (hx b z),λb ob q he=>u.there b ob q λz=>he (hx b z),u.tups,u.frzs,u.tbls⟩
end
def trk(h:Heap)(H:Hp):List Addr:=(List.range h.objs.size).filter λa=>(H a).isSome
def gn(h:Heap)(H:Hp):Heap:=PySem.W.hideAll h (trk h H)
theorem Ep(h:Heap)(H:Hp):(gn h H).objs.size=h.objs.size:=PySem.W.hideAll_size _ _
theorem Er{h:Heap}{H:Hp}{b:Addr}{o:Obj}(e:h.get? b=some o)(n:H b=none):(gn h H).get? b=some o :=
 PySem.W.hideAll_get _ e λhm=>by
  have q:(H b).isSome=true:=(List.mem_filter.mp hm).2;rw[n] at q;simp at q
theorem Es{h:Heap}{H:Hp}{b:Addr}{o:Obj}(e:(gn h H).get? b=some o):h.get? b=some o/\H b=none:=by
 have e':h.get? b=some o:=PySem.W.of_hideAll (trk h H) e;refine⟨e',?_⟩
 cases q:H b with
 |none=>rfl
 |some x =>
  have hm:b∈trk h H:=List.mem_filter.mpr ⟨List.mem_range.mpr (zf e'),by simp[q]⟩;have z:(gn h H).get? b=none:=PySem.W.hideAll_none (trk h H) hm;rw[z] at e;cases e
def Oq(g h:Heap)(L:Addr):List (Addr×Obj):=(List.range h.objs.size).filterMap λa=>if a=L\/(g.get? a).isSome=true then none else(h.get? a).map λo=>(a,o)
def rest(g h:Heap)(L d:Addr):List (Addr×Obj):=(Oq g h L).filter λp=>decide (p.1≠d)
structure Mod(K:PySem.W.Frag)(mg:Str->Option Value)(base:Heap):Prop where
 kin:K.In base
 glob:base.Ns mainGlobals mg
 blt:∃mb,base.Ns builtinsNs mb/\∀x:Str,x≠"__name__"->mb x=bootBuiltins x
 nolimit:base.NoLimit
structure Cx where
 prog:Program
 w:World
 K:PySem.W.Frag
 mg:Str->Option Value
 base:Heap
 A:Around
 N:List Str
 s₀:Shared
 H₀:Hp
 env:Env
 outer:List Env
 stack:List Env
 ex:List Addr
 fn:Str->Bool
 calm:Bool
 pn:List (Addr×Obj)
 xe:Value->Shared->Prop
def frs(l:List Env):List Addr:=l.filterMap (·.frame)
abbrev Cx.fs(X:Cx):List Addr:=frs X.outer
def Vis(sc:Scope)(x:Str):Prop:=sc.names.lookup x=some .local\/sc.names.lookup x=some .cell\/sc.names.lookup x=some .free
def Loc(sc:Scope)(x:Str):Prop:=sc.names.lookup x=some .local\/sc.names.lookup x=some .cell
def Look(env:Env)(h:Heap)(m:Str->Option Value)(x:Str)(u:Value):Prop :=
 (env.kindOf x=some .local/\m x=some u)\/((env.kindOf x=some .cell\/env.kindOf x=some .free)/\∃c,env.cells.lookup x=some c/\h.IsCell c (some u))
structure Cx.Ok(X:Cx):Prop where
 mod:Mod X.K X.mg X.base
 kind:X.env.scope.kind=.function
 glob:X.env.globals=mainGlobals
 blt:X.env.builtins=builtinsNs
 above:X.s₀.heap.objs.size<=X.env.locals
 inj:∀x y c,X.env.cells.lookup x=some c->X.env.cells.lookup y=some c->x=y
 has:∀x,(X.env.kindOf x=some .cell\/X.env.kindOf x=some .free)->∃c,X.env.cells.lookup x=some c
 cab:∀x c,X.fn x=true->X.env.cells.lookup x=some c->X.s₀.heap.objs.size<=c
 hd:X.calm=true->X.A.handled=none
 frames:X.A.frames=some X.stack
 stk:X.stack=X.outer\/(X.stack=X.env::X.outer/\X.env.frame=some X.env.locals)
 exf:∀b∈X.ex,b≠X.env.locals/\∀x c,X.env.cells.lookup x=some c->c≠b
 bs:∀b o,X.base.get? b=some o->X.s₀.heap.get? b=some o/\X.H₀ b=none
 bsz:X.base.objs.size<=X.s₀.heap.objs.size
 noex:∀b o,X.base.get? b=some o->b∉X.ex
 exfs:∀b∈X.ex,b∉X.fs
 funs:X.s₀.heap.FunFrames X.base X.outer
 frf:∀b∈X.fs,X.H₀ b=none
structure Inv(X:Cx)(pins:List (Addr×Obj))(σ:List (Option V))(H:Hp)(s:Shared):Prop where
 ok:X.Ok
 os:s.os=X.s₀.os
 bare:AllBare s.gens
 base:Un X.fs X.ex X.H₀ H X.s₀.heap s.heap
 loc:∃m,s.heap.Ns X.env.locals m/\∀(i:Nat) (x:Str) (v:V),X.N[i]?=some x->σ[i]?=some (some v)->Vis X.env.scope x->∃u,RelV v u/\Look X.env s.heap m x u
 cell:∀x c,X.env.cells.lookup x=some c->∃v,s.heap.IsCell c v
 free:H X.env.locals=none
 freeC:∀x c,X.env.cells.lookup x=some c->H c=none
 pin:∀p∈X.pn++pins,s.heap.get? p.1=some p.2/\H p.1=none/\p.1≠X.env.locals/\p.1∉X.fs/\∀v,p.2.data≠.cell v
 hok:HOk X.prog X.w H s.heap
 len:σ.length=X.N.length
section
variable {X:Cx}{pins:List (Addr×Obj)}{σ:List (Option V)}{H H':Hp}{s:Shared}{h':Heap}
theorem Cx.Ok.nofr(ok:X.Ok){b:Addr}{o:Obj}(e:X.base.get? b=some o):b∉X.fs:=λhb=>by
 have:=(ok.funs.mem hb).1
 rw[e] at this;cases this
theorem Inv.bs(I:Inv X pins σ H s):∀b o,X.base.get? b=some o->s.heap.get? b=some o/\H b=none:=λb o e =>
 ⟨I.base.keep b o (I.ok.bs b o e).1 (I.ok.bs b o e).2 (I.ok.nofr e) (I.ok.noex b o e),I.base.free b o (I.ok.bs b o e).1 (I.ok.bs b o e).2 (I.ok.noex b o e)⟩
theorem Inv.bk(I:Inv X pins σ H s):∀b o,X.base.get? b=some o->s.heap.get? b=some o:=λb o e=>(I.bs b o e).1
theorem Inv.mod(I:Inv X pins σ H s):Mod X.K X.mg X.base:=I.ok.mod
theorem Inv.kIn(I:Inv X pins σ H s):X.K.In s.heap:=I.ok.mod.kin.keeps I.bk
theorem Inv.nolimit(I:Inv X pins σ H s):s.heap.NoLimit:=I.ok.mod.nolimit.keeps I.bk
theorem Inv.fr(I:Inv X pins σ H s):∃m,Fr X.base X.env.locals s.heap m :=
 let ⟨m,hn,_⟩:=I.loc
 ⟨m,hn,I.bk,zH I.ok.bsz I.ok.above⟩
theorem Inv.lt(I:Inv X pins σ H s):X.env.locals<s.heap.objs.size:=let ⟨_,hn,_⟩:=I.loc;hn.lt
theorem Inv.sz(I:Inv X pins σ H s):X.s₀.heap.objs.size<=s.heap.objs.size:=zH I.ok.above (Nat.le_of_lt I.lt)
theorem Inv.nofs(I:Inv X pins σ H s){a:Addr}(h:s.heap.objs.size<=a):a∉X.fs:=λhb=>by
 obtain⟨_,o,ho,_⟩:=I.ok.funs.mem hb;exact absurd (zG (zf ho) (zH I.sz h)) (zP _)
theorem Inv.cne(I:Inv X pins σ H s):∀x c,X.env.cells.lookup x=some c->c≠X.env.locals:=λx c e z=>by
 obtain⟨v,o,ho,hd⟩:=I.cell x c e;obtain⟨m,⟨o',es,ep,ho',hd',_⟩,_⟩:=I.loc;rw[z,ho'] at ho;cases ho;rw[hd'] at hd;cases hd
theorem Inv.funs(I:Inv X pins σ H s):s.heap.FunFrames X.base X.outer:=by
 have all:∀(l:List Env),(∀b∈frs l,b∈X.fs)->X.s₀.heap.FunFrames X.base l->s.heap.FunFrames X.base l:=by
  intro l
  induction l with
  |nil=>intro _ _;trivial
  |cons env r ih =>
   intro hs hl;obtain⟨hk,⟨L,o,hf,hn,ho,hd⟩,hr⟩:=hl;have hL:L∈X.fs:=hs L (by unfold frs;rw[List.filterMap_cons,hf];exact zv)
   obtain⟨sl,e⟩:=I.base.slot L o ho (I.ok.frf L hL) hL λz=>I.ok.exfs L z hL
   exact⟨hk,⟨L,_,hf,hn,e,hd⟩,ih (λb hb=>hs b (by unfold frs;rw[List.filterMap_cons,hf];exact zy _ hb)) hr⟩
 exact all X.outer (λ_ hb=>hb) I.ok.funs
theorem Inv.stack(I:Inv X pins σ H s):s.heap.FunFrames X.base X.stack:=by
 rcases I.ok.stk with e | ⟨e,hf⟩
 ·rw[e];exact I.funs
 ·rw[e];obtain⟨m,hn,_⟩:=I.loc;refine .cons (by rw[I.ok.kind];decide) hf hn ?_ I.funs;exact Heap.get?_none_of_le (zH I.ok.bsz I.ok.above)
theorem Inv.stkSub(I:Inv X pins σ H s):∀b∈frs X.stack,b∈X.env.locals::X.fs:=λb hb=>by
 rcases I.ok.stk with e | ⟨e,hf⟩
 ·rw[e] at hb;exact zy _ hb
 ·rw[e] at hb;unfold frs at hb;rw[List.filterMap_cons,hf] at hb;exact hb
theorem Inv.stkFree(I:Inv X pins σ H s):∀b∈frs X.stack,H b=none:=λb hb=>by
 rcases zn.mp (I.stkSub b hb) with e | hb
 ·rw[e];exact I.free
 ·obtain⟨_,o,ho,_⟩:=I.ok.funs.mem hb
  exact I.base.free b o ho (I.ok.frf b hb) λz=>I.ok.exfs b z hb
theorem Inv.step{g':Array GenState}{t':Nat}{d':Drawn}{ch:List Addr}(I:Inv X pins σ H s)
  (hch:∀b∈ch,(b∈X.ex\/X.s₀.heap.objs.size<=b)/\b≠X.env.locals/\(∀x c,X.env.cells.lookup x=some c->c≠b)/\∀p∈X.pn++pins,p.1≠b)
  (keep:∀b o,b≠X.env.locals->b∉X.fs->b∉ch->s.heap.get? b=some o->H b=none->h'.get? b=some o)
  (slot:∀b o,b≠X.env.locals->b∈X.fs->b∉ch->s.heap.get? b=some o->H b=none->∃sl,h'.get? b=some {o with slots:=sl}) (free:∀b o,b∉ch->s.heap.get? b=some o->H b=none->H' b=none)
  (there:∀b o,b∉ch->s.heap.get? b=some o->∃o',h'.get? b=some o')
  (tups:∀b xs,H b=some (.tup xs)->H' b=some (.tup xs)) (frzs:∀b o u,H b=some (.frz o u)->H' b=some (.frz o u)) (tbls:∀b ps,H b=some (.tbl ps)->∃more,H' b=some (.tbl (ps++more)))
  (ns:∀m,s.heap.Ns X.env.locals m->h'.Ns X.env.locals m) (hok:HOk X.prog X.w H' h') (hg:AllBare g'):
  Inv X pins σ H' {s with heap:=h',gens:=g',drawn:=d',toks:=t'}:=by
 have neL:∀b o,X.s₀.heap.get? b=some o->b≠X.env.locals:=λb o e=>zu (zG (zf e) I.ok.above)
 have neC:∀b o,X.s₀.heap.get? b=some o->b∉X.ex->b∉ch:=λb o e hx hb=>by
  rcases(hch b hb).1 with z | z
  ·exact hx z
  ·exact absurd (zG (zf e) z) (zP _)
 have cellK:∀x c,X.env.cells.lookup x=some c->∀v,s.heap.IsCell c v->h'.IsCell c v:=λx c e v ⟨o,ho,hd⟩=>by
  have nch:c∉ch:=λz=>(hch c z).2.2.1 x c e rfl
  by_cases hc:c∈X.fs
  ·obtain⟨sl,q⟩:=slot c o (I.cne x c e) hc nch ho (I.freeC x c e);exact⟨_,q,hd⟩
  ·exact⟨o,keep c o (I.cne x c e) hc nch ho (I.freeC x c e),hd⟩
 refine⟨I.ok,I.os,hg,⟨λb o e n hb hx=>?_,λb o e n hb hx=>?_,λb o e n hx=>?_,λb o e hx=>?_,λb xs e=>tups b xs (I.base.tups b xs e),λb o xs e=>frzs b o xs (I.base.frzs b o xs e),λb ps e=>?_⟩,?_,λx c e=>?_,?_,λx c e=>?_,λp hp=>?_,hok,I.len⟩
 ·exact keep b o (neL b o e) hb (neC b o e hx) (I.base.keep b o e n hb hx) (I.base.free b o e n hx)
 ·obtain⟨sl,e1⟩:=I.base.slot b o e n hb hx;obtain⟨sl',e2⟩:=slot b _ (neL b o e) hb (neC b o e hx) e1 (I.base.free b o e n hx);exact⟨sl',e2⟩
 ·obtain⟨o',e1⟩:=I.base.there b o e hx;exact free b o' (neC b o e hx) e1 (I.base.free b o e n hx)
 ·obtain⟨o',e1⟩:=I.base.there b o e hx;exact there b o' (neC b o e hx) e1
 ·obtain⟨m1,e1⟩:=I.base.tbls b ps e;obtain⟨m2,e2⟩:=tbls b _ e1;exact⟨m1++m2,by rw[e2,Array.append_assoc]⟩
 ·obtain⟨m,hn,hl⟩:=I.loc;refine⟨m,ns m hn,λi x v e1 e2 e3=>?_⟩;obtain⟨u,r,l⟩:=hl i x v e1 e2 e3;refine⟨u,r,?_⟩
  rcases l with l | ⟨k,c,e,z⟩
  ·exact .inl l
  ·exact .inr ⟨k,c,e,cellK x c e _ z⟩
 ·obtain⟨v,z⟩:=I.cell x c e;exact⟨v,cellK x c e v z⟩
 ·obtain⟨m,⟨o,_,_,ho,_⟩,_⟩:=I.loc;exact free _ o (λz=>(hch _ z).2.1 rfl) ho I.free
 ·obtain⟨v,o,ho,hd⟩:=I.cell x c e;exact free c o (λz=>(hch c z).2.2.1 x c e rfl) ho (I.freeC x c e)
 ·obtain⟨e,n,ne,nf,d⟩:=I.pin p hp
  have nch:p.1∉ch:=λz=>(hch p.1 z).2.2.2 p hp rfl
  exact⟨keep p.1 p.2 ne nf nch e n,free p.1 p.2 nch e n,ne,nf,d⟩
theorem Inv.un{t':Nat}(I:Inv X pins σ H s)(u:Un X.fs [] H H' s.heap h')(hok:HOk X.prog X.w H' h'):Inv X pins σ H' {s with heap:=h',toks:=t'}:=by
 obtain⟨m,⟨o,es,ep,ho,r⟩,_⟩:=id I.loc;obtain⟨sl,hL⟩:=u.any ho I.free (by simp)
 exact I.step (g':=s.gens) (d':=s.drawn) (ch:=[]) (λ_ z=>nomatch z) (λb o _ hb _ e n=>u.keep b o e n hb (by simp)) (λb o _ hb _ e n=>u.slot b o e n hb (by simp)) (λb o _ e n=>u.free b o e n (by simp)) (λb o _ e=>u.there b o e (by simp)) u.tups u.frzs u.tbls (λm' hm=>by
  obtain⟨o',es',ep',ho',r'⟩:=hm;rw[ho] at ho';cases ho'
  exact⟨_,es',ep',hL,r'⟩) hok I.bare
theorem Inv.call{g':Array GenState}{t':Nat}{d':Drawn}{ch:List Addr}(I:Inv X pins σ H s)(u:Un (frs X.stack) ch H H' s.heap h')(hok:HOk X.prog X.w H' h')(hg:AllBare g')
  (hch:∀b∈ch,(b∈X.ex\/X.s₀.heap.objs.size<=b)/\b≠X.env.locals/\(∀x c,X.env.cells.lookup x=some c->c≠b)/\∀p∈X.pn++pins,p.1≠b):
  Inv X pins σ H' {s with heap:=h',gens:=g',drawn:=d',toks:=t'}:=by
 obtain⟨m,⟨o,es,ep,ho,r⟩,_⟩:=id I.loc
 obtain⟨sl,hL⟩:=u.any ho I.free λz=>(hch _ z).2.1 rfl
 exact I.step (ch:=ch) hch (λb o hL hb hc e n=>u.keep b o e n (λz=>(zn.mp (I.stkSub b z)).elim hL hb) hc) (λb o _ _ hc e n=>u.any e n hc) (λb o hc e n=>u.free b o e n hc) (λb o hc e=>u.there b o e hc) u.tups u.frzs u.tbls (λm' hm=>by
  obtain⟨o',es',ep',ho',r'⟩:=hm;rw[ho] at ho';cases ho'
  exact⟨_,es',ep',hL,r'⟩) hok hg
theorem Inv.turned{t':Nat}{it:Addr}(I:Inv X pins σ H s)(k:∀b o,b≠it->s.heap.get? b=some o->h'.get? b=some o)(hn:H it=none)(hL:it≠X.env.locals)
  (h1:it∈X.ex\/X.s₀.heap.objs.size<=it) (h2:∀x c,X.env.cells.lookup x=some c->c≠it) (h3:∀p∈X.pn++pins,p.1≠it):Inv X pins σ H {s with heap:=h',toks:=t'}:=by
 have nit:∀b u,H b=some u->b≠it:=λb u e z=>by rw[z,hn] at e;cases e
 refine I.step (g':=s.gens) (d':=s.drawn) (ch:=[it]) (λb hb=>?_) (λb o _ _ hc e _=>k b o (λz=>hc (by simp[z])) e) (λb o _ _ hc e _=>⟨o.slots,k b o (λz=>hc (by simp[z])) e⟩) (λ_ _ _ _ n=>n)
  (λb o hc e=>⟨o,k b o (λz=>hc (by simp[z])) e⟩) (λ_ _ e=>e) (λ_ _ _ e=>e) (λb ps e=>⟨#[],by rw[e];simp⟩) (λm hm=>?_) (λb u e=>?_) I.bare
 ·have e:b=it:=by simpa using hb
  subst e;exact⟨h1,hL,h2,h3⟩
 ·obtain⟨o,es,ep,ho,r⟩:=hm;exact⟨o,es,ep,k _ o (Ne.symm hL) ho,r⟩
 ·refine(I.hok b u e).stay (λc v hc q=>k c v ?_ q) (λ_ q=>q) λ_ _ q=>q
  rcases hc with z | z
  ·rw[z];exact nit b u e
  ·exact nit c _ z
theorem Inv.tok(I:Inv X pins σ H s)(t:Nat):Inv X pins σ H {s with toks:=t}:=I.un (h':=s.heap) (t':=t) Un.refl I.hok
theorem Inv.kept{t':Nat}(I:Inv X pins σ H s)(k:∀b u,s.heap.get? b=some u->h'.get? b=some u):Inv X pins σ H {s with heap:=h',toks:=t'}:=I.un (Un.kept k) (I.hok.kept k)
theorem Inv.laid{a:Addr}{o:HO}{t':Nat}(I:Inv X pins σ H s)(k:∀b u,s.heap.get? b=some u->h'.get? b=some u)(hp:s.heap.objs.size<=a)(new:cN X.prog X.w (upd H a o) h' a o):
  Inv X pins σ (upd H a o) {s with heap:=h',toks:=t'}:=I.un (Un.laid k hp (I.hok.fresh hp)) (I.hok.laid k hp new)
theorem Inv.write{x e:Addr}{o:HO}{t':Nat}(I:Inv X pins σ H s)(mu:Mut (H x))(he:e=x\/H e=some (.own x))(k:∀b u,b≠e->s.heap.get? b=some u->h'.get? b=some u)(heo:∃u,h'.get? e=some u)
  (new:cN X.prog X.w (upd H x o) h' x o):Inv X pins σ (upd H x o) {s with heap:=h',toks:=t'}:=I.un (Un.write mu he k heo) (I.hok.write mu he k heo new)
theorem Inv.pins_of{pins':List (Addr×Obj)}(I:Inv X pins σ H s)(h:∀p∈pins',s.heap.get? p.1=some p.2/\H p.1=none/\p.1≠X.env.locals/\p.1∉X.fs/\∀v,p.2.data≠.cell v):Inv X pins' σ H s :=
 ⟨I.ok,I.os,I.bare,I.base,I.loc,I.cell,I.free,I.freeC,λp hp=>(zJ.mp hp).elim (λz=>I.pin p (List.mem_append_left _ z)) (h p),I.hok,I.len⟩
theorem Et{N:List Str}(hN:N.Nodup){i j:Nat}{x:Str}(a:N[i]?=some x)(b:N[j]?=some x):i=j:=by
 obtain⟨h1,e1⟩:=zl.mp a;obtain⟨h2,e2⟩:=zl.mp b;exact(List.getElem_inj hN).mp (e1.trans e2.symm)
theorem Ot{M:Model}{A:Around}{E:Value->Shared->Prop}{i:Nat}{x:Str}{v:V}{u:Value}{Q:Unit->Shared->Prop}(I:Inv X pins σ H s)(hN:X.N.Nodup)(hi:X.N[i]?=some x)(hx:Loc X.env.scope x)(r:RelV v u)
  (h:∀s',Inv X pins (σ.set i (some v)) H s'->(∃a,Heap.SameBut a s.heap s'.heap/\(a=X.env.locals\/X.env.cells.lookup x=some a))->Q () s') (hf:X.fn x=true\/X.env.scope.names.lookup x=some .local:=by first | exact .inl rfl | exact .inr rfl | assumption):wpAny M A (storeName X.env x u) Q E s:=by
 obtain⟨m,hn,hl⟩:=id I.loc
 have hcls:(X.env.scope.kind == .class || (X.env.scope.kind == .module&&X.env.locals != X.env.globals))=false:=by rw[I.ok.kind];rfl
 have hiσ:i<σ.length:=by rw[I.len];exact(zl.mp hi).1
 have cne:=I.cne
 have tracked:∀{a:Addr}{h':Heap},(∃o,s.heap.get? a=some o/\H a=none)->Heap.SameBut a s.heap h'->HOk X.prog X.w H h':=λ{a h'} ha hs b ob e=>by
  obtain⟨_,_,hfree⟩:=ha
  refine(I.hok b ob e).stay (λc w' hc q=>(hs.2 c ?_).trans q) (λ_ q=>q) λ_ _ q=>q
  rintro rfl
  rcases hc with rfl | hc
  ·rw[hfree] at e;cases e
  ·rw[hfree] at hc;cases hc
 rcases hx with hk | hk
 ·refine wpAny_storeName_local hk hn (λh' hn' hs=>?_) hcls;obtain⟨oL,_,_,hoL,_⟩:=id hn;refine h _ ⟨I.ok,I.os,I.bare,⟨λb o e n hb hx=>?_,λb o e n hb hx=>?_,I.base.free,λb o e hx=>?_,I.base.tups,I.base.frzs,I.base.tbls⟩,⟨_,hn',λj y v' e1 e2 e3=>?_⟩,λy c e=>?_,I.free,I.freeC,λp hp=>?_,tracked ⟨oL,hoL,I.free⟩ hs,by simpa using I.len⟩ ⟨_,hs,.inl rfl⟩
  ·exact(hs.2 b (zu (zG (zf e) I.ok.above))).trans (I.base.keep b o e n hb hx)
  ·obtain⟨sl,e1⟩:=I.base.slot b o e n hb hx;exact⟨sl,(hs.2 b (zu (zG (zf e) I.ok.above))).trans e1⟩
  ·obtain⟨o',e1⟩:=I.base.there b o e hx;exact⟨o',(hs.2 b (zu (zG (zf e) I.ok.above))).trans e1⟩
  ·by_cases hj:j=i
   ·subst hj;rw[hi] at e1;cases e1;rw[zQ hiσ] at e2;cases e2;exact⟨u,r,.inl ⟨hk,by simp⟩⟩
   ·rw[zq (Ne.symm hj)] at e2;obtain⟨u',r',q⟩:=hl j y v' e1 e2 e3;refine⟨u',r',?_⟩
    rcases q with⟨k,e⟩ | ⟨k,c,e,z⟩
    ·refine .inl ⟨k,?_⟩
     have:y≠x:=λe=>hj (Et hN e1 (e ▸ hi))
     simp[this,e]
    ·exact .inr ⟨k,c,e,z.sameBut hs (cne y c e)⟩
  ·obtain⟨w',z⟩:=I.cell y c e;exact⟨w',z.sameBut hs (cne y c e)⟩
  ·obtain⟨e,n,ne,nf,d⟩:=I.pin p hp;exact⟨(hs.2 p.1 ne).trans e,n,ne,nf,d⟩
 ·have hfn:X.fn x=true:=by
   rcases hf with z | z
   ·exact z
   ·rw[z] at hk;cases hk
  obtain⟨c,hc⟩:=I.ok.has x (.inl hk);obtain⟨w',z⟩:=I.cell x c hc;refine wpAny_storeName_cell I.ok.kind hk hc z (λh' hc' hs=>?_);obtain⟨oc,hoc,hocd⟩:=id z;refine h {s with heap:=h'} ⟨I.ok,I.os,I.bare,⟨λb o e n hb hx=>?_,λb o e n hb hx=>?_,I.base.free,λb o e hx=>?_,I.base.tups,I.base.frzs,I.base.tbls⟩,⟨m,hn.sameBut hs (Ne.symm (cne x c hc)),λj y v' e1 e2 e3=>?_⟩,λy c' e=>?_,I.free,I.freeC,λp hp=>?_,tracked ⟨oc,hoc,I.freeC x c hc⟩ hs,by simpa using I.len⟩ ⟨c,hs,.inr hc⟩
  ·exact(hs.2 b (zu (zG (zf e) (I.ok.cab x c hfn hc)))).trans (I.base.keep b o e n hb hx)
  ·obtain⟨sl,e1⟩:=I.base.slot b o e n hb hx;exact⟨sl,(hs.2 b (zu (zG (zf e) (I.ok.cab x c hfn hc)))).trans e1⟩
  ·obtain⟨o',e1⟩:=I.base.there b o e hx;exact⟨o',(hs.2 b (zu (zG (zf e) (I.ok.cab x c hfn hc)))).trans e1⟩
  ·by_cases hj:j=i
   ·subst hj;rw[hi] at e1;cases e1;rw[zQ hiσ] at e2;cases e2;exact⟨u,r,.inr ⟨.inl hk,c,hc,hc'⟩⟩
   ·rw[zq (Ne.symm hj)] at e2;obtain⟨u',r',q⟩:=hl j y v' e1 e2 e3;refine⟨u',r',?_⟩
    rcases q with q | ⟨k,c',e,z'⟩
    ·exact .inl q
    ·refine .inr ⟨k,c',e,z'.sameBut hs ?_⟩;rintro rfl;exact hj (Et hN e1 (I.ok.inj _ _ _ e hc ▸ hi))
  ·by_cases hcc:c'=c
   ·subst hcc;exact⟨_,hc'⟩
   ·obtain⟨w2,z2⟩:=I.cell y c' e;exact⟨w2,z2.sameBut hs hcc⟩
  ·obtain⟨e,n,ne,nf,d⟩:=I.pin p hp;refine⟨(hs.2 p.1 ?_).trans e,n,ne,nf,d⟩;intro q;rw[q,hoc] at e;have q':oc=p.2:=zB e;exact d w' (by rw[<-q'];exact hocd)
theorem wH{M:Model}{A:Around}{E:Value->Shared->Prop}{i:Nat}{x:Str}{v:V}{u:Value}{Q:Unit->Shared->Prop}(I:Inv X pins σ H s)(hN:X.N.Nodup)(hi:X.N[i]?=some x)(hx:Loc X.env.scope x)(r:RelV v u)
  (h:∀s',Inv X pins (σ.set i (some v)) H s'->Q () s') (hf:X.fn x=true\/X.env.scope.names.lookup x=some .local:=by first | exact .inl rfl | exact .inr rfl | assumption):wpAny M A (storeName X.env x u) Q E s :=
 Ot I hN hi hx r (λs' I' _=>h s' I') hf
theorem Inv.call'{s':Shared}{ch:List Addr}(I:Inv X pins σ H s)(ho:s'.os=s.os)(u:Un (frs X.stack) ch H H' s.heap s'.heap)(hok:HOk X.prog X.w H' s'.heap)(hg:AllBare s'.gens)
  (hch:∀b∈ch,(b∈X.ex\/X.s₀.heap.objs.size<=b)/\b≠X.env.locals/\(∀x c,X.env.cells.lookup x=some c->c≠b)/\∀p∈X.pn++pins,p.1≠b):Inv X pins σ H' s':=by
 obtain⟨h',g',d',t',o'⟩:=s';have e:o'=s.os:=ho;subst e;exact I.call (g':=g') (t':=t') (d':=d') u hok hg hch
end
abbrev XK:=Value->Option Addr->Hp->Prop
abbrev St:=List (Option V)
abbrev VK:=V->Hp->Prop
abbrev TE:=St->Hp->VK->Prop
abbrev TT:=St->Hp->(Bool->Hp->Prop)->Prop
abbrev TA:=St->Hp->(List V->Hp->Prop)->Prop
structure Ends where
 nx:St->Hp->Prop
 rt:VK
 bk:St->Hp->Prop:=λ_ _=>False
 ct:St->Hp->Prop:=λ_ _=>False
abbrev TS:=Ends->St->Hp->Prop
def EP(X:Cx)(pins:List (Addr×Obj))(σ:St)(Q:VK)(u:Value)(s':Shared):Prop:=∃v H',Inv X pins σ H' s'/\RelV v u/\Q v H'
def TP(X:Cx)(pins:List (Addr×Obj))(σ:St)(Q:Bool->Hp->Prop)(b:Bool)(s':Shared):Prop:=∃H',Inv X pins σ H' s'/\Q b H'
def AP(X:Cx)(pins:List (Addr×Obj))(σ:St)(Q:List V->Hp->Prop)(us:List Value)(s':Shared):Prop:=∃vs H',Inv X pins σ H' s'/\aR vs us/\Q vs H'
def SP(X:Cx)(pins:List (Addr×Obj))(D:Ends)(f:Flow)(s':Shared):Prop :=
 match f with
 | .next=>∃σ' H',Inv X pins σ' H' s'/\D.nx σ' H'
 | .brk=>∃σ' H',Inv X pins σ' H' s'/\D.bk σ' H'
 | .cont=>∃σ' H',Inv X pins σ' H' s'/\D.ct σ' H'
 | .ret u=>∃v σ' H',Inv X pins σ' H' s'/\RelV v u/\D.rt v H'
def PE(X:Cx)(e:Expr)(t:TE):Prop :=
 ∀(pins:List (Addr×Obj)) (s:Shared) (σ:St) (H:Hp) (Q:VK),Inv X pins σ H s->t σ H Q->wpAny (model X.prog X.w) X.A (eval e X.env) (EP X pins σ Q) X.xe s
def PT(X:Cx)(e:Expr)(t:TT):Prop :=
 ∀(pins:List (Addr×Obj)) (s:Shared) (σ:St) (H:Hp) (Q:Bool->Hp->Prop),Inv X pins σ H s->t σ H Q->wpAny (model X.prog X.w) X.A (isTrue e X.env (eval e X.env)) (TP X pins σ Q) X.xe s
def PW(X:Cx)(e:Expr)(t:TT):Prop :=
 ∀(whole:Sem Value) (pins:List (Addr×Obj)) (s:Shared) (σ:St) (H:Hp) (Q:Bool->Hp->Prop),Inv X pins σ H s->t σ H Q->wpAny (model X.prog X.w) X.A (isTrue e X.env whole) (TP X pins σ Q) X.xe s
theorem PW.pt{X:Cx}{e:Expr}{t:TT}(h:PW X e t):PT X e t:=h _
def PA(X:Cx)(es:List Expr)(t:TA):Prop :=
 ∀(pos:Pos) (pins:List (Addr×Obj)) (s:Shared) (σ:St) (H:Hp) (Q:List V->Hp->Prop),Inv X pins σ H s->t σ H Q->wpAny (model X.prog X.w) X.A (spliced (backTo pos (starEach es X.env))) (AP X pins σ Q) X.xe s
def PS(X:Cx)(st:Stmt)(t:TS):Prop :=
 ∀(pins:List (Addr×Obj)) (s:Shared) (σ:St) (H:Hp) (D:Ends),Inv X pins σ H s->t D σ H->wpAny (model X.prog X.w) X.A (exec st X.env) (SP X pins D) X.xe s
def PSs(X:Cx)(st:List Stmt)(t:TS):Prop :=
 ∀(pins:List (Addr×Obj)) (s:Shared) (σ:St) (H:Hp) (D:Ends),Inv X pins σ H s->t D σ H->wpAny (model X.prog X.w) X.A (execs st X.env) (SP X pins D) X.xe s
theorem thn{α:Type}{t:Sem α}{Q Q':α->Shared->Prop}{M:Model}{A:Around}{E:Value->Shared->Prop}{s:Shared}(h:wpAny M A t Q E s)(hQ:∀a s,Q a s->Q' a s):wpAny M A t Q' E s:=zL h hQ λ_ _ x=>x
section
variable {X:Cx}
def Ou(i:Nat):TE:=λσ H Q=>∃v,σ[i]?=some (some v)/\Q v H
def tC(v:V):TE:=λ_ H Q=>Q v H
theorem qJ{i:Nat}{x:Str}{pos:Pos}(hN:X.N[i]?=some x)(hv:Vis X.env.scope x)(hd:(x == ("__debug__":Str))=false:=by decide)(hcd:(x == ("__classdict__":Str))=false:=by decide):PE X (.Name x pos) (Ou i):=by
 intro pins s σ H Q I h;obtain⟨v,e,h⟩:=h;obtain⟨m,hn,hl⟩:=I.loc;obtain⟨u,r,l⟩:=hl i x v hN e hv;have fin:EP X pins σ Q u s:=⟨v,H,I,r,h⟩
 rcases l with⟨hk,hm⟩ | ⟨hk,c,hc,hcell⟩
 ·exact wpAny_Name (wpAny_loadName_local I.ok.kind hk hn hm fin) hd
 ·rcases hk with hk | hk
  ·exact wpAny_Name (wpAny_loadName_cell I.ok.kind hk hc hcell fin) hd
  ·exact wpAny_Name (wpAny_loadName_free I.ok.kind hk hc hcell fin hcd) hd
theorem Ov{i j pos}:PE X (.Constant (.int i) j pos) (tC (.int i)):=λ_ _ _ H _ I h=>wpAny_Constant_int ⟨.int i,H,I.tok _,⟨_,rfl⟩,h⟩
theorem Ox{b j pos}:PE X (.Constant (.bool b) j pos) (tC (.bl b)):=λ_ _ _ H _ I h=>Constant_bool ⟨.bl b,H,I,rfl,h⟩
theorem Oz{j pos}:PE X (.Constant .none j pos) (tC .non):=λ_ _ _ H _ I h=>Constant_none ⟨.non,H,I,rfl,h⟩
theorem Eu{x j pos}:PE X (.Constant (.str x) j pos) (tC (.str x)):=λ_ _ _ H _ I h=>Calls.Constant_str ⟨.str x,H,I.tok _,⟨_,rfl⟩,h⟩
def Gl(X:Cx)(x:Str):Prop:=X.env.kindOf x=some .globalImplicit
theorem wI{E:Value->Shared->Prop}{pins:List (Addr×Obj)}{s:Shared}{σ:St}{H:Hp}{x:Str}{u:Value}{pos:Pos}{Q:Value->Shared->Prop}(I:Inv X pins σ H s)(hg:Gl X x)(hm:X.mg x=some u)(h:Q u s)
  (hd:(x == ("__debug__":Str))=false:=by decide):wpAny (model X.prog X.w) X.A (eval (.Name x pos) X.env) Q E s :=
 Calls.Name_function_global I.ok.kind hg (Calls.loadGlobal_global (by rw[I.ok.glob];exact I.mod.glob.keeps I.bk) hm h) hd
theorem jG{E:Value->Shared->Prop}{pins:List (Addr×Obj)}{s:Shared}{σ:St}{H:Hp}{x:Str}{u:Value}{pos:Pos}{Q:Value->Shared->Prop}(I:Inv X pins σ H s)(hg:Gl X x)(hm:X.mg x=none)(hv:bootBuiltins x=some u)(h:Q u s)
  (hn:x≠"__name__":=by decide) (hd:(x == ("__debug__":Str))=false:=by decide):wpAny (model X.prog X.w) X.A (eval (.Name x pos) X.env) Q E s:=by
 obtain⟨mb,h1,h2⟩:=I.mod.blt;exact Calls.Name_function_global I.ok.kind hg (Calls.loadGlobal_builtin (by rw[I.ok.glob];exact I.mod.glob.keeps I.bk) hm (by rw[I.ok.blt];exact h1.keeps I.bk) ((h2 x hn).trans hv) h) hd
theorem OD{x:Str}{v:V}{u:Value}{pos:Pos}(hg:Gl X x)(hm:X.mg x=some u)(r:RelV v u)(hd:(x == ("__debug__":Str))=false:=by decide):PE X (.Name x pos) (tC v):=
 λ_ _ _ H _ I h=>wI I hg hm ⟨v,H,I,r,h⟩ hd
theorem Ew{x:Str}{v:V}{u:Value}{pos:Pos}(hg:Gl X x)(hm:X.mg x=none)(hv:bootBuiltins x=some u)(r:RelV v u)(hn:x≠"__name__":=by decide)(hd:(x == ("__debug__":Str))=false:=by decide):PE X (.Name x pos) (tC v):=
 λ_ _ _ H _ I h=>jG I hg hm hv ⟨v,H,I,r,h⟩ hn hd
variable {a b:Expr}{ta tb:TE}{pos:Pos}
def PC(X:Cx)(op:CmpOp)(a b:Expr)(t:TE):Prop :=
 ∀(pins:List (Addr×Obj)) (s:Shared) (σ:St) (H:Hp) (Q:VK),Inv X pins σ H s->t σ H Q ->
  wpAny (model X.prog X.w) X.A (eval a X.env) (λv s₁=>wpAny (model X.prog X.w) X.A (eval b X.env) (λu s₂=>wpAny (model X.prog X.w) X.A (compareOp op v u) (EP X pins σ Q) X.xe s₂) X.xe s₁) X.xe s
theorem OJ(b:Expr){op:CmpOp}(h:op≠.In)(h2:op≠.NotIn):behindInMarks op b=false:=by
 have e1:(op == CmpOp.In)=false:=by cases op<;>first | rfl | exact absurd rfl h
 have e2:(op == CmpOp.NotIn)=false:=by cases op<;>first | rfl | exact absurd rfl h2
 cases b<;>simp[behindInMarks,e1,e2]
def Ex(ta:TE):TE:=λσ H Q=>ta σ H λx H1=>Q (.bl (decide (x=.non))) H1
def Ey(ta:TE):TE:=λσ H Q=>ta σ H λx H1=>Q (.bl (!decide (x=.non))) H1
theorem RelV.none_iff{x:V}{v:Value}(r:RelV x v):(v == Value.none)=decide (x=.non):=by
 cases x with
 |non=>cases r;rfl
 |bl _=>cases r;rfl
 |int _=>obtain⟨t,rfl⟩:=r;rfl
 |str _=>obtain⟨t,rfl⟩:=r;rfl
 |byt _=>obtain⟨t,rfl⟩:=r;rfl
 |flt _=>obtain⟨t,rfl⟩:=r;rfl
 |ref _=>cases r;rfl
 |ty _=>cases r;rfl
theorem O7{j pos'}(ha:PE X a ta):PC X .Is a (.Constant .none j pos') (Ex ta):=by
 intro pins s σ H Q I h
 refine thn (ha pins s σ H _ I h) λv s1 ⟨x,H1,I1,r1,q1⟩=>?_
 exact Constant_none (is_none_gen ⟨.bl _,H1,I1,by rw[r1.none_iff];rfl,q1⟩)
theorem O8{j pos'}(ha:PE X a ta):PC X .IsNot a (.Constant .none j pos') (Ey ta):=by
 intro pins s σ H Q I h
 refine thn (ha pins s σ H _ I h) λv s1 ⟨x,H1,I1,r1,q1⟩=>?_
 exact Constant_none (isnot_none_gen ⟨.bl _,H1,I1,by rw[r1.none_iff];rfl,q1⟩)
def tB(t:TE):TT:=λσ H Q=>t σ H λx H1=>∃c,x=.bl c/\Q c H1
theorem Ez{op:CmpOp}{t:TE}(h:PC X op a b t)(h1:behindInMarks op b=false:=by first | exact OJ _ (by decide) (by decide) | rfl):PT X (.Compare a [op] [b] pos) (tB t):=by
 intro pins s σ H Q I hw;refine wpAny_isTrue_Compare1 (thn (h pins s σ H _ I hw) λv s1 h1=>thn h1 λu s2 h2=>thn h2 λc s3 ⟨x,H1,I1,r1,q1⟩=>?_) h1;obtain⟨d,rfl,q⟩:=q1;cases r1;exact wpAny_truthy_bool ⟨H1,I1,q⟩
variable {tA tB':TT}{rest:List Expr}
def EY(t u:TT):TT:=λσ H Q=>t σ H λc H1=>if c=true then u σ H1 Q else Q false H1
def tOr(t u:TT):TT:=λσ H Q=>t σ H λc H1=>if c=true then Q true H1 else u σ H1 Q
def O9(t:TT):TT:=λσ H Q=>t σ H λc H1=>Q (!c) H1
theorem Pa(ha:PT X a tA):PW X (.BoolOp .And [a] pos) tA:=by
 intro wh pins s σ H Q I h;refine isTrue_and (thn (ha pins s σ H Q I h) λc s1 e=>?_)
 cases c with
 |true=>exact isTrue_and_nil e
 |false=>exact e
theorem Pb(ha:PT X a tA):PW X (.BoolOp .Or [a] pos) tA:=by
 intro wh pins s σ H Q I h;refine isTrue_or (thn (ha pins s σ H Q I h) λc s1 e=>?_)
 cases c with
 |false=>exact isTrue_or_nil e
 |true=>exact e
theorem Pg(ha:PT X a tA)(hb:PW X (.BoolOp .And (b::rest) pos) tB'):PW X (.BoolOp .And (a::b::rest) pos) (EY tA tB'):=by
 intro wh pins s σ H Q I h;refine isTrue_and (thn (ha pins s σ H _ I h) λc s1 ⟨H1,I1,q1⟩=>?_)
 cases c with
 |true=>exact hb wh pins s1 σ H1 Q I1 q1
 |false=>exact⟨H1,I1,q1⟩
theorem Ph(ha:PT X a tA)(hb:PW X (.BoolOp .Or (b::rest) pos) tB'):PW X (.BoolOp .Or (a::b::rest) pos) (tOr tA tB'):=by
 intro wh pins s σ H Q I h;refine isTrue_or (thn (ha pins s σ H _ I h) λc s1 ⟨H1,I1,q1⟩=>?_)
 cases c with
 |true=>exact⟨H1,I1,q1⟩
 |false=>exact hb wh pins s1 σ H1 Q I1 q1
theorem Pj(ha:PT X a tA):PT X (.UnaryOp .Not a pos) (O9 tA):=by
 intro pins s σ H Q I h;exact isTrue_not (ha pins s σ H (λc H1=>Q (!c) H1) I h)
def Pk(ta tb:TE):TE:=λσ H Q=>ta σ H λx H1=>∃c,x=.bl c/\if c=true then tb σ H1 Q else Q (.bl false) H1
def Pn(ta:TE):TE:=λσ H Q=>ta σ H λx H1=>∃c,x=.bl c/\Q (.bl (!c)) H1
theorem Pq{op}{t:TE}(h:PE X a t):PE X (.BoolOp op [a] pos) t:=λpins s σ H Q I hw=>BoolOp_one (h pins s σ H Q I hw)
theorem Pu(ha:PE X a ta)(hb:PE X (.BoolOp .And (b::rest) pos) tb):PE X (.BoolOp .And (a::b::rest) pos) (Pk ta tb):=by
 intro pins s σ H Q I h;refine BoolOp_and (thn (ha pins s σ H _ I h) λv s1 ⟨x,H1,I1,r1,q1⟩=>?_);obtain⟨c,rfl,q1⟩:=q1;cases r1;refine wpAny_truthy_bool ?_
 cases c with
 |true=>exact hb pins s1 σ H1 Q I1 q1
 |false=>exact⟨.bl false,H1,I1,rfl,q1⟩
theorem Px(ha:PE X a ta):PE X (.UnaryOp .Not a pos) (Pn ta):=by
 intro pins s σ H Q I h;refine UnaryOp_ (thn (ha pins s σ H _ I h) λv s1 ⟨x,H1,I1,r1,q1⟩=>?_);obtain⟨c,rfl,q1⟩:=q1;cases r1;exact not_of (wpAny_truthy_bool ⟨.bl (!c),H1,I1,rfl,q1⟩)
def tIf(t:TT)(ta tb:TE):TE:=λσ H Q=>t σ H λc H1=>if c=true then ta σ H1 Q else tb σ H1 Q
theorem Py{c:Expr}(hc:PT X c tA)(ha:PE X a ta)(hb:PE X b tb):PE X (.IfExp c a b pos) (tIf tA ta tb):=by
 intro pins s σ H Q I h;refine wpAny_IfExp (thn (hc pins s σ H _ I h) λd s1 ⟨H1,I1,q1⟩=>?_)
 cases d with
 |true=>exact ha pins s1 σ H1 Q I1 q1
 |false=>exact hb pins s1 σ H1 Q I1 q1
end
def SqL(K:PySem.W.Frag)(H:Hp)(a:Addr)(xs:List V):Prop :=
 Rd H a (.lst xs) \/
  ∃(o:Obj) (its:Array Value) (n:Nat),K.lookup a=some o/\o.cls=.type "list"/\o.dict=none/\o.data=.seq its n/\its.size<=sizeLine/\aR xs its.toList
def SqT(K:PySem.W.Frag)(H:Hp)(a:Addr)(xs:List V):Prop :=
 Rd H a (.tup xs) \/
  ∃(o:Obj) (its:Array Value) (n:Nat),K.lookup a=some o/\o.cls=.type "tuple"/\o.data=.seq its n/\its.size<=sizeLine/\aR xs its.toList
def Pz:Value->Option V
 | .none=>some .non
 | .bool b=>some (.bl b)
 | .int i _=>some (.int i)
 | .str x _=>some (.str x)
 | .bytes b _=>some (.byt b)
 | .float b _=>some (.flt b)
 | .ref a=>some (.ref a)
 | .type n=>some (.ty n)
 | _=>none
theorem RelV.abs{x:V}{u:Value}(r:RelV x u):Pz u=some x:=by
 cases x with
 |non=>cases r;rfl
 |bl _=>cases r;rfl
 |int _=>obtain⟨t,rfl⟩:=r;rfl
 |str _=>obtain⟨t,rfl⟩:=r;rfl
 |byt _=>obtain⟨t,rfl⟩:=r;rfl
 |flt _=>obtain⟨t,rfl⟩:=r;rfl
 |ref _=>cases r;rfl
 |ty _=>cases r;rfl
theorem RelV.inj{x y:V}{u:Value}(r:RelV x u)(q:RelV y u):x=y:=zB (r.abs.symm.trans q.abs)
theorem aR.inj:∀{xs ys:List V}{us:List Value},aR xs us->aR ys us->xs=ys
 | _,_,_,.nil,.nil=>rfl
 | _,_,_,.cons r t,.cons r' t'=>by rw[r.inj r',aR.inj t t']
section
variable {X:Cx}{pins:List (Addr×Obj)}{σ:St}{H:Hp}{s:Shared}{a:Addr}{xs ys:List V}
theorem SqL.of{K:PySem.W.Frag}(h:H a=some (.lst xs)):SqL K H a xs:=.inl (.inl h)
theorem SqT.of{K:PySem.W.Frag}(h:H a=some (.tup xs)):SqT K H a xs:=.inl (.inl h)
theorem Inv.list(I:Inv X pins σ H s)(h:SqL X.K H a xs):∃its:List Value,aR xs its/\PlainL s.heap a its.toArray/\xs.length<=sizeLine:=by
 rcases h with h | ⟨o,its,n,hk,hc,hd,hs,hz,r⟩
 ·obtain⟨z,its,n,r,e⟩:=h.ok I.hok;exact⟨its,r,⟨_,n,e,rfl,rfl,rfl⟩,z⟩
 ·refine⟨its.toList,r,⟨o,n,I.kIn a o hk,hc,hd,by simpa using hs⟩,?_⟩;have e:=r.length;simp only[Array.length_toList] at e;omega
theorem Inv.tuple(I:Inv X pins σ H s)(h:SqT X.K H a xs):∃its:List Value,aR xs its/\IsTup s.heap a its.toArray/\xs.length<=sizeLine:=by
 rcases h with h | ⟨o,its,n,hk,hc,hs,hz,r⟩
 ·obtain⟨z,its,r,p⟩:=h.ok I.hok;exact⟨its,r,p,z⟩
 ·refine⟨its.toList,r,⟨o,I.kIn a o hk,hc,n,by simpa using hs⟩,?_⟩;have e:=r.length;simp only[Array.length_toList] at e;omega
theorem Inv.list_inj(I:Inv X pins σ H s)(h:SqL X.K H a xs)(h':SqL X.K H a ys):xs=ys:=by
 obtain⟨its,r,⟨o,n,e,_,_,d⟩,_⟩:=I.list h;obtain⟨its',r',⟨o',n',e',_,_,d'⟩,_⟩:=I.list h';rw[e] at e';cases e';rw[d] at d'
 injection d' with d1 _
 have:its=its':=by simpa using congrArg Array.toList d1
 subst this;exact r.inj r'
theorem Inv.tuple_inj(I:Inv X pins σ H s)(h:SqT X.K H a xs)(h':SqT X.K H a ys):xs=ys:=by
 obtain⟨its,r,⟨o,e,_,n,d⟩,_⟩:=I.tuple h;obtain⟨its',r',⟨o',e',_,n',d'⟩,_⟩:=I.tuple h';rw[e] at e';cases e';rw[d] at d'
 injection d' with d1 _
 have:its=its':=by simpa using congrArg Array.toList d1
 subst this;exact r.inj r'
end
abbrev Cx.wish(X:Cx)(E:Value->Shared->Prop):Cx:={X with xe:=E}
abbrev Cx.nox(X:Cx):Cx:=X.wish λ_ _=>False
theorem Cx.Ok.wish{X:Cx}(ok:X.Ok)(E:Value->Shared->Prop):(X.wish E).Ok :=
 ⟨ok.mod,ok.kind,ok.glob,ok.blt,ok.above,ok.inj,ok.has,ok.cab,ok.hd,ok.frames,ok.stk,ok.exf,ok.bs,ok.bsz,ok.noex,ok.exfs,ok.funs,ok.frf⟩
theorem Cx.Ok.unwish{X:Cx}{E:Value->Shared->Prop}(ok:(X.wish E).Ok):X.Ok :=
 ⟨ok.mod,ok.kind,ok.glob,ok.blt,ok.above,ok.inj,ok.has,ok.cab,ok.hd,ok.frames,ok.stk,ok.exf,ok.bs,ok.bsz,ok.noex,ok.exfs,ok.funs,ok.frf⟩
section
variable {X:Cx}{pins:List (Addr×Obj)}{σ:St}{H:Hp}{s:Shared}{E:Value->Shared->Prop}
theorem Inv.wish(I:Inv X pins σ H s)(E:Value->Shared->Prop):Inv (X.wish E) pins σ H s:=⟨I.ok.wish E,I.os,I.bare,I.base,I.loc,I.cell,I.free,I.freeC,I.pin,I.hok,I.len⟩
theorem Inv.unwish(I:Inv (X.wish E) pins σ H s):Inv X pins σ H s:=⟨I.ok.unwish,I.os,I.bare,I.base,I.loc,I.cell,I.free,I.freeC,I.pin,I.hok,I.len⟩
theorem SP.unwish{D:Ends}{f:Flow}{s':Shared}(h:SP (X.wish E) pins D f s'):SP X pins D f s':=by
 cases f with
 |next=>obtain⟨σ',H',I,q⟩:=h;exact⟨σ',H',I.unwish,q⟩
 |brk=>obtain⟨σ',H',I,q⟩:=h;exact⟨σ',H',I.unwish,q⟩
 |cont=>obtain⟨σ',H',I,q⟩:=h;exact⟨σ',H',I.unwish,q⟩
 |ret u=>obtain⟨v,σ',H',I,r,q⟩:=h;exact⟨v,σ',H',I.unwish,r,q⟩
theorem PE.nox{e:Expr}{t:TE}(h:PE X.nox e t):PE X e t:=λpins s σ H Q I hw =>
 zL (h pins s σ H Q (I.wish _) hw) (λ_ _ ⟨v,H',I',r,q⟩=>⟨v,H',I'.unwish,r,q⟩) λ_ _ z=>False.elim z
theorem PT.nox{e:Expr}{t:TT}(h:PT X.nox e t):PT X e t:=λpins s σ H Q I hw =>
 zL (h pins s σ H Q (I.wish _) hw) (λ_ _ ⟨H',I',q⟩=>⟨H',I'.unwish,q⟩) λ_ _ z=>False.elim z
theorem PSs.nox{st:List Stmt}{t:TS}(h:PSs X.nox st t):PSs X st t:=λpins s σ H D I hw =>
 zL (h pins s σ H D (I.wish _) hw) (λ_ _ q=>q.unwish) λ_ _ z=>False.elim z
end
section
variable {X:Cx}{st:Stmt}{rest:List Stmt}{t u:TS}{e:Expr}{te:TE}{pos:Pos}
def PB:TS:=λD σ H=>D.nx σ H
def PJ(t u:TS):TS:=λD σ H=>t {D with nx:=u D} σ H
theorem PK:PSs X [] PB:=λ_ _ σ H _ I h=>wpAny_execs_nil ⟨σ,H,I,h⟩
theorem PL(h1:PS X st t)(h2:PSs X rest u):PSs X (st::rest) (PJ t u):=by
 intro pins s σ H D I h;refine wpAny_execs_cons (thn (h1 pins s σ H {D with nx:=u D} I h) λf s1 q=>?_)
 cases f with
 |next =>
  obtain⟨σ',H',I',q⟩:=q;exact h2 pins s1 σ' H' D I' q
 |ret v=>exact q
 |brk=>exact q
 |cont=>exact q
theorem PN(h1:PS X st t):PSs X [st] t:=by
 intro pins s σ H D I h;refine wpAny_execs_cons (thn (h1 pins s σ H D I h) λf s1 q=>?_)
 cases f with
 |next=>exact wpAny_execs_nil q
 |ret v=>exact q
 |brk=>exact q
 |cont=>exact q
def PP:TS:=λD σ H=>D.bk σ H
theorem PQ:PS X (.Break pos) PP:=λ_ _ σ H _ I h=>wpAny_Break ⟨σ,H,I,h⟩
theorem Inv.quiet{pins:List (Addr×Obj)}{σ:St}{H:Hp}{s:Shared}(I:Inv X pins σ H s):interactive X.env=false:=by simp[interactive,I.ok.kind]
def PX(te:TE):TS:=λD σ H=>te σ H λ_ H1=>D.nx σ H1
theorem Fb(he:PE X e te)(hs:swapsWith e none pos.line X.env=pure false:=by rfl):PS X (.Expr e pos) (PX te):=by
 intro pins s σ H D I h;exact wpAny_Expr_any (thn (he pins s σ H _ I h) λv s1 ⟨x,H1,I1,r1,q1⟩=>⟨σ,H1,I1,q1⟩) I.quiet hs
def P0(te:TE):TS:=λD σ H=>te σ H D.rt
theorem Fd(he:PE X e te):PS X (.Return (some e) pos) (P0 te):=by
 intro pins s σ H D I h;exact wpAny_Return_some (thn (he pins s σ H _ I h) λv s1 ⟨x,H1,I1,r1,q1⟩=>⟨x,σ,H1,I1,r1,q1⟩)
def Qa(c:TT)(t u:TS):TS:=λD σ H=>c σ H λb H1=>if b=true then t D σ H1 else u D σ H1
theorem Qc{c:Expr}{a b:List Stmt}{tc:TT}(hc:PT X c tc)(ha:PSs X a t)(hb:PSs X b u):PS X (.If c a b pos) (Qa tc t u):=by
 intro pins s σ H D I h;refine wpAny_If (thn (hc pins s σ H _ I h) λd s1 ⟨H1,I1,q1⟩=>?_)
 cases d with
 |true=>exact ha pins s1 σ H1 D I1 q1
 |false=>exact hb pins s1 σ H1 D I1 q1
def Qd:TS:=λ_ _ _=>False
theorem Qe:PS X st Qd:=λ_ _ _ _ _ _ h=>h.elim
end
abbrev TG:=V->St->Hp->(St->Hp->Prop)->Prop
abbrev TGs:=List V->St->Hp->(St->Hp->Prop)->Prop
def PG(X:Cx)(target:Expr)(t:TG):Prop :=
 ∀(pins:List (Addr×Obj)) (s:Shared) (σ:St) (H:Hp) (v:V) (u:Value) (Q:St->Hp->Prop),Inv X pins σ H s->RelV v u->t v σ H Q ->
  wpAny (model X.prog X.w) X.A (assign target X.env u) (λ_ s'=>∃σ' H',Inv X pins σ' H' s'/\Q σ' H') X.xe s
def PGs(X:Cx)(ts:List Expr)(t:TGs):Prop :=
 ∀(pins:List (Addr×Obj)) (s:Shared) (σ:St) (H:Hp) (vs:List V) (us:List Value) (Q:St->Hp->Prop),Inv X pins σ H s->aR vs us->t vs σ H Q ->
  wpAny (model X.prog X.w) X.A (assignInOrder ((assignEach ts X.env).map (·.2)) us) (λ_ s'=>∃σ' H',Inv X pins σ' H' s'/\Q σ' H') X.xe s
section
variable {X:Cx}{pos:Pos}
def qK(i:Nat):TG:=λv σ H Q=>Q (σ.set i (some v)) H
theorem Qf{i:Nat}{x:Str}(hN:X.N.Nodup)(hi:X.N[i]?=some x)(hx:Loc X.env.scope x)(hf:X.fn x=true\/X.env.scope.names.lookup x=some .local:=by first | exact .inl rfl | exact .inr rfl | assumption):PG X (.Name x pos) (qK i):=by
 intro pins s σ H v u Q I r h;exact wpAny_assign_Name (wH I hN hi hx r (λs' I'=>⟨_,H,I',h⟩) hf)
def Qg:TGs:=λvs σ H Q=>vs=[]/\Q σ H
def Qh(t:TG)(u:TGs):TGs:=λvs σ H Q=>∃v r,vs=v::r/\t v σ H λσ' H'=>u r σ' H' Q
theorem Qi:PGs X [] Qg:=by
 intro pins s σ H vs us Q I r h;obtain⟨e,h⟩:=h;subst e;cases r;exact assignInOrder_nil ⟨σ,H,I,h⟩
theorem Qj{e:Expr}{es:List Expr}{t:TG}{u:TGs}(h1:PG X e t)(h2:PGs X es u)
  (hs:(assignEach (e::es) X.env).map (·.2)=assign e X.env::(assignEach es X.env).map (·.2):=by rfl):PGs X (e::es) (Qh t u):=by
 intro pins s σ H vs us Q I r h;obtain⟨v,vr,e1,h⟩:=h;subst e1
 cases r with
 |cons r rr =>
  rw[hs];refine assignInOrder_cons (thn (h1 pins s σ H _ _ _ I r h) λ_ s1 ⟨σ1,H1,I1,q1⟩=>?_);exact h2 pins s1 σ1 H1 _ _ Q I1 rr q1
def Qk(K:PySem.W.Frag)(n:Nat)(t:TGs):TG:=λv σ H Q=>∃a xs,v=.ref a/\SqT K H a xs/\xs.length=n/\t xs σ H Q
theorem Ql{es:List Expr}{k:Nat}{t:TGs}{n:Nat}(hc:X.calm=true)(h:PGs X es t)
  (hn:(assignEach es X.env).length=n:=by rfl) (hst:(assignEach es X.env).findIdx? (·.1)=none:=by rfl):PG X (.Tuple es k pos) (Qk X.K n t):=by
 intro pins s σ H v u Q I r hw;obtain⟨a,xs,e1,hq,hl,hw⟩:=hw;subst e1;cases r;obtain⟨its,rv,ht,hz⟩:=I.tuple hq
 refine assign_Tuple_tuple (I.ok.hd hc) ht (by simp[hn,<-hl,rv.length]) hst λh' hx=>?_
 have I1:Inv X pins σ H {s with heap:=h'}:=I.kept (t':=s.toks) λb o e=>hx b o (zu (zf e)) e
 exact h pins _ σ H xs _ Q I1 (by simpa using rv) hw
def tV(te:TE)(g:TG):TS:=λD σ H=>te σ H λx H1=>g x σ H1 D.nx
theorem Fe{i:Nat}{x:Str}{e:Expr}{te:TE}{pos':Pos}(hN:X.N.Nodup)(hi:X.N[i]?=some x)(hx:Loc X.env.scope x)(he:PE X e te)(hs:swapsWith e (some (.Name x pos')) pos.line X.env=pure false:=by rfl)(hf:X.fn x=true\/X.env.scope.names.lookup x=some .local:=by first | exact .inl rfl | exact .inr rfl | assumption):
  PS X (.Assign [.Name x pos'] e pos) (tV te (qK i)):=by
 intro pins s σ H D I h;refine wpAny_Assign_Name (thn (he pins s σ H _ I h) λv s1 ⟨y,H1,I1,r1,q1⟩=>?_) hs;exact wH I1 hN hi hx r1 (λs2 I2=>⟨_,H1,I2,q1⟩) hf
end
section
variable {X:Cx}{pos:Pos}
def Ff(c:TT)(tb:TS):TS:=λD σ H=>∃W:Nat->St->Hp->Prop,(∃m,W m σ H)/\∀m σ H,W m σ H ->
 c σ H λb H1=>if b=true then ∃N:St->Hp->Prop,(∀σ' H',N σ' H'->∃m',m'<m/\W m' σ' H')/\tb {D with nx:=N,ct:=N,bk:=D.nx} σ H1 else D.nx σ H1
theorem Qm{c:Expr}{body:List Stmt}{tc:TT}{tb:TS}(hp:PassesOwn (model X.prog X.w) X.A X.env X.xe)(hc:PT X c tc)(hb:PSs X body tb):PS X (.While c body [] pos) (Ff tc tb):=by
 intro pins s σ H D I h;obtain⟨W,⟨m0,w0⟩,turn⟩:=h;refine wpAny_While (codeAny_whileLoop (λn s'=>∃σ' H',Inv X pins σ' H' s'/\W n σ' H') ?_ m0 ⟨σ,H,I,w0⟩);rintro n s1 ⟨σ1,H1,I1,w1⟩;refine wpAny_passesOwn hp (thn (hc pins s1 σ1 H1 _ I1 (turn n σ1 H1 w1)) λb s2 ⟨H2,I2,q2⟩=>?_)
 cases b with
 |true =>
  obtain⟨N,hN,q2⟩:=q2;rw[if_pos rfl];refine wpAny_passesOwn hp (thn (hb pins s2 σ1 H2 _ I2 q2) λf s3 q3=>?_)
  cases f with
  |next =>
   obtain⟨σ3,H3,I3,n3⟩:=q3;obtain⟨m',hm,w3⟩:=hN σ3 H3 n3;exact⟨m',hm,σ3,H3,I3,w3⟩
  |cont =>
   obtain⟨σ3,H3,I3,n3⟩:=q3;obtain⟨m',hm,w3⟩:=hN σ3 H3 n3;exact⟨m',hm,σ3,H3,I3,w3⟩
  |brk=>exact q3
  |ret v=>exact q3
 |false =>
  rw[if_neg zj];exact wpAny_execs_nil ⟨σ1,H2,I2,q2⟩
end
structure It where
 go:Nat->Hp->Prop
 yld:Nat->Hp->V->Hp->Prop
 stop:Nat->Hp->Prop
def iw(X:Cx)(pins:List (Addr×Obj))(H:Hp)(b:Addr):Prop :=
 H b=none/\b≠X.env.locals/\b∉X.fs/\(b∈X.ex\/X.s₀.heap.objs.size<=b)/\(∀x c,X.env.cells.lookup x=some c->c≠b)/\∀p∈X.pn++pins,p.1≠b
theorem Inv.fpOk{X:Cx}{pins:List (Addr×Obj)}{σ:St}{H H':Hp}{s:Shared}{b:Addr}(I:Inv X pins σ H s)(hb:s.heap.objs.size<=b)(hn:H' b=none):iw X pins H' b:=by
 refine⟨hn,Nat.ne_of_gt (zG I.lt hb),I.nofs hb,.inr (zH I.sz hb),λx c e z=>?_,λp hp z=>?_⟩
 ·obtain⟨v,q⟩:=I.cell x c e;exact absurd (zG q.lt (by rw[z];exact hb)) (zP _)
 ·exact absurd (zG (zf (I.pin p hp).1) (by rw[z];exact hb)) (zP _)
structure Turn(P:Program)(w:World)(K:PySem.W.Frag)(tg:Expr)(J:It)(fp:List Addr)(it:Addr)(tn:Nat->Heap->Prop):Prop where
 mem:it∈fp
 obj:∀i h,tn i h->∀b∈fp,∃o,h.get? b=some o/\∀v,o.data≠.cell v
 keep:∀i h h',tn i h->(∀b∈fp,∀o,h.get? b=some o->h'.get? b=some o)->tn i h'
 item:∀(X:Cx),X.prog=P->X.w=w->X.K=K->X.calm=true->∀(i:Nat) (pins:List (Addr×Obj)) (s:Shared) (σ:St) (H:Hp) (E:Value->Shared->Prop),Inv X pins σ H s->(∀b∈fp,iw X pins H b)->tn i s.heap->J.go i H ->
  wpAny (model P w) X.A (pyNext (.ref it)) (λr s1=>∃u,r=some u /\
   wpAny (model P w) X.A (letOwnedTupleGo tg (.ref it) u) (λ_ s2=>∃x H',Inv X pins σ H' s2/\RelV x u/\J.yld i H x H'/\tn (i+1) s2.heap/\∀b∈fp,H' b=none) E s1) E s
 done:∀(X:Cx),X.prog=P->X.w=w->X.K=K->X.calm=true->∀(i:Nat) (pins:List (Addr×Obj)) (s:Shared) (σ:St) (H:Hp) (E:Value->Shared->Prop),Inv X pins σ H s->(∀b∈fp,iw X pins H b)->tn i s.heap->J.stop i H ->
  wpAny (model P w) X.A (pyNext (.ref it)) (λr s1=>r=none/\Inv X pins σ H s1) E s
 self:∀(A:Around) (i:Nat) (s:Shared) (Q:Value->Shared->Prop) (E:Value->Shared->Prop),tn i s.heap->Q (.ref it) s->wpAny (model P w) A (pyIter (.ref it)) Q E s
abbrev TI:=St->Hp->(It->Hp->Prop)->Prop
def PIE(X:Cx)(pins:List (Addr×Obj))(σ:St)(tg:Expr)(R:It->Hp->Prop)(itv:Value)(s2:Shared):Prop :=
 ∃(it:Addr) (fp:List Addr) (tn:Nat->Heap->Prop) (J:It) (H':Hp),itv=.ref it/\Inv X pins σ H' s2/\Turn X.prog X.w X.K tg J fp it tn/\tn 0 s2.heap/\(∀b∈fp,iw X pins H' b)/\R J H'
def PI(X:Cx)(tg iter:Expr)(wi:TI):Prop :=
 ∀(pins:List (Addr×Obj)) (s:Shared) (σ:St) (H:Hp) (R:It->Hp->Prop),Inv X pins σ H s->wi σ H R ->
  wpAny (model X.prog X.w) X.A (eval iter X.env) (λv s1=>wpAny (model X.prog X.w) X.A (pyIter v) (PIE X pins σ tg R) X.xe s1) X.xe s
theorem mW{M:Model}{A:Around}{E:Value->Shared->Prop}{s:Shared}{tg:Expr}{it:Addr}{u:Value}{o:Obj}{n:String}{vs:Array Value}{Q:Unit->Shared->Prop}(ho:s.heap.get? it=some o)(hc:o.cls=.type n)(hd:o.data=.fields vs)
  (hn:["enumerate","zip","dict_itemiterator","dict_reverseitemiterator","odict_iterator","itertools.zip_longest","itertools.pairwise"].contains n=false) (hQ:Q () s):wpAny M A (letOwnedTupleGo tg (.ref it) u) Q E s:=by
 unfold letOwnedTupleGo
 cases tg<;>first
  | exact zb hQ
  | (cases u<;>first
    | exact zb hQ
    | (refine za (wpAny_load ho ?_)
       rw[hc,hd];show wpAny M A (if(["enumerate","zip","dict_itemiterator","dict_reverseitemiterator","odict_iterator","itertools.zip_longest","itertools.pairwise"].contains n&&vs[0]? == some (rawInt _))=true then _ else _) Q E s;rw[if_neg (by intro h;rw[hn,Bool.false_and] at h;cases h)]
       exact zb hQ))
def Itl(K:PySem.W.Frag)(a:Addr):It :=
 ⟨λi H=>∃xs x,SqL K H a xs/\xs[i]?=some x,λi H x H'=>H'=H/\∀xs,SqL K H a xs->xs[i]?=some x,λi H=>∃xs,SqL K H a xs/\xs.length<=i⟩
def Itt(K:PySem.W.Frag)(a:Addr):It :=
 ⟨λi H=>∃xs x,SqT K H a xs/\xs[i]?=some x,λi H x H'=>H'=H/\∀xs,SqT K H a xs->xs[i]?=some x,λi H=>∃xs,SqT K H a xs/\xs.length<=i⟩
def Itr(lo:Int)(n:Nat):It:=⟨λi _=>i<n,λi H x H'=>H'=H/\x=.int (lo+i),λi _=>n<=i⟩
theorem Qn{P:Program}{w:World}{K:PySem.W.Frag}{tg:Expr}(a it:Addr):Turn P w K tg (Itl K a) [it] it (λi h=>h.IsListIter it a i) where
 mem:=by simp
 obj:=λi h st b hb=>by
  have e:b=it:=by simpa using hb
  subst e;obtain⟨o,e,c,d⟩:=st;exact⟨o,e,λv z=>by rw[d] at z;cases z⟩
 keep:=λi h h' st k=>st.at λo e=>k it (by simp) o e
 item:=by
  intro X hP hw hK hc i pins s σ H E I hf st hg;subst hP hw hK;obtain⟨xs,x,hq,hx⟩:=hg;obtain⟨its,rv,p,hz⟩:=I.list hq;obtain⟨u,hu,ru⟩:=rv.get hx;obtain⟨f0,f1,f2,f3,f4,f5⟩:=hf it (by simp)
  refine wpAny_pyNext_list_item st p.isList (x:=u) (by simpa using hu) λh' st' sb=>?_
  have I1:Inv X pins σ H {s with heap:=h'}:=I.turned (t':=s.toks) (λb o hb e=>(sb.2 b hb).trans e) f0 f1 f3 f4 f5;obtain⟨o,e,c,d⟩:=id st';exact⟨u,rfl,mW (s:={s with heap:=h'}) e c d (by decide) ⟨x,H,I1,ru,⟨rfl,λys hy=>by rw[I.list_inj hy hq];exact hx⟩,st',λb hb=>(hf b hb).1⟩⟩
 done:=by
  intro X hP hw hK hc i pins s σ H E I hf st hg;subst hP hw hK;obtain⟨xs,hq,hx⟩:=hg;obtain⟨its,rv,p,hz⟩:=I.list hq;obtain⟨f0,f1,f2,f3,f4,f5⟩:=hf it (by simp);have hl:=rv.length
  exact wpAny_pyNext_list_end (I.ok.hd hc) st p.isList (by simp;omega) λh' eb=>⟨rfl,I.turned (t':=s.toks) (λb o hb e=>eb b o hb e) f0 f1 f3 f4 f5⟩
 self:=λ_ _ _ _ _ st h=>wpAny_pyIter_listiter st h
theorem Qo{P:Program}{w:World}{K:PySem.W.Frag}{tg:Expr}(a it:Addr):Turn P w K tg (Itt K a) [it] it (λi h=>h.IsTupleIter it a i) where
 mem:=by simp
 obj:=λi h st b hb=>by
  have e:b=it:=by simpa using hb
  subst e;obtain⟨o,e,c,d⟩:=st;exact⟨o,e,λv z=>by rw[d] at z;cases z⟩
 keep:=λi h h' st k=>st.at λo e=>k it (by simp) o e
 item:=by
  intro X hP hw hK hc i pins s σ H E I hf st hg;subst hP hw hK;obtain⟨xs,x,hq,hx⟩:=hg;obtain⟨its,rv,p,hz⟩:=I.tuple hq;obtain⟨u,hu,ru⟩:=rv.get hx;obtain⟨f0,f1,f2,f3,f4,f5⟩:=hf it (by simp)
  refine wpAny_pyNext_tuple_item st (show s.heap.IsTuple a its.toArray from p) (x:=u) (by simpa using hu) λh' st' sb=>?_
  have I1:Inv X pins σ H {s with heap:=h'}:=I.turned (t':=s.toks) (λb o hb e=>(sb.2 b hb).trans e) f0 f1 f3 f4 f5;obtain⟨o,e,c,d⟩:=id st';exact⟨u,rfl,mW (s:={s with heap:=h'}) e c d (by decide) ⟨x,H,I1,ru,⟨rfl,λys hy=>by rw[I.tuple_inj hy hq];exact hx⟩,st',λb hb=>(hf b hb).1⟩⟩
 done:=by
  intro X hP hw hK hc i pins s σ H E I hf st hg;subst hP hw hK;obtain⟨xs,hq,hx⟩:=hg;obtain⟨its,rv,p,hz⟩:=I.tuple hq;obtain⟨f0,f1,f2,f3,f4,f5⟩:=hf it (by simp);have hl:=rv.length
  exact wpAny_pyNext_tuple_end (I.ok.hd hc) st (show s.heap.IsTuple a its.toArray from p) (by simp;omega) λh' eb=>⟨rfl,I.turned (t':=s.toks) (λb o hb e=>eb b o hb e) f0 f1 f3 f4 f5⟩
 self:=λ_ _ _ _ _ st h=>wpAny_pyIter_tupleiter st h
theorem Qp{P:Program}{w:World}{K:PySem.W.Frag}{tg:Expr}(it:Addr)(lo:Int)(n:Nat):Turn P w K tg (Itr lo n) [it] it (λi h=>IsRangeIter h it (lo+(i:Nat) * 1) ((n:Int) - (i:Nat)) 1) where
 mem:=by simp
 obj:=λi h st b hb=>by
  have e:b=it:=by simpa using hb
  subst e
  exact⟨_,st,λv z=>by
   have z':Data.fields _=Data.cell v:=z
   cases z'⟩
 keep:=λi h h' st k=>k it (by simp) _ st
 item:=by
  intro X hP hw hK hc i pins s σ H E I hf st hg;subst hP hw hK;obtain⟨f0,f1,f2,f3,f4,f5⟩:=hf it (by simp);have W:=Walks.range (prog:=X.prog) (w:=X.w) (I.ok.hd hc) it lo 1 n
  refine W.item i s _ _ hg st λv h' tk hv st' kk=>?_
  obtain⟨t,rfl⟩:=hv;have I1:Inv X pins σ H {s with heap:=h',toks:=tk}:=I.turned (λb o hb e=>kk b o (by simpa using hb) e) f0 f1 f3 f4 f5;refine⟨_,rfl,mW (s:={s with heap:=h',toks:=tk}) (n:="range_iterator") st' rfl rfl (by decide) ⟨.int (lo+i),H,I1,⟨t,?_⟩,⟨rfl,rfl⟩,st',λb hb=>(hf b hb).1⟩⟩;rw[Int.mul_one]
 done:=by
  intro X hP hw hK hc i pins s σ H E I hf st hg;subst hP hw hK;obtain⟨f0,f1,f2,f3,f4,f5⟩:=hf it (by simp)
  exact wpAny_pyNext_range_end (I.ok.hd hc) st (by have:n<=i:=hg;omega) λh' eb=>⟨rfl,I.turned (t':=s.toks) (λb o hb e=>eb b o hb e) f0 f1 f3 f4 f5⟩
 self:=λ_ _ _ _ _ st h=>wpAny_pyIter_rangeiter st h
section
variable {X:Cx}{tg:Expr}
def Qq(K:PySem.W.Frag)(tl:TE):TI:=λσ H R=>tl σ H λx H1=>∃a,x=.ref a/\(∃xs,SqL K H1 a xs)/\R (Itl K a) H1
def Qs(K:PySem.W.Frag)(tl:TE):TI:=λσ H R=>tl σ H λx H1=>∃a,x=.ref a/\(∃xs,SqT K H1 a xs)/\R (Itt K a) H1
theorem Fg{l:Expr}{tl:TE}(hl:PE X l tl):PI X tg l (Qq X.K tl):=by
 intro pins s σ H R I h
 refine thn (hl pins s σ H _ I h) λv s1 ⟨x,H1,I1,r1,q1⟩=>?_
 obtain⟨a,e,⟨xs,hq⟩,q⟩:=q1;subst e;cases r1;obtain⟨its,rv,p,hz⟩:=I1.list hq;refine wpAny_pyIter_list p.isList ?_;refine⟨s1.heap.objs.size,[s1.heap.objs.size],_,_,H1,rfl,I1.kept (t':=s1.toks) λb o e=>zk _ e,Qn a _,⟨_,zz _ rfl,rfl,rfl⟩,λb hb=>?_,q⟩
 have e:b=s1.heap.objs.size:=by simpa using hb
 subst e;exact I1.fpOk (zc _) (I1.hok.fresh (zc _))
theorem Qt{l:Expr}{tl:TE}(hl:PE X l tl):PI X tg l (Qs X.K tl):=by
 intro pins s σ H R I h
 refine thn (hl pins s σ H _ I h) λv s1 ⟨x,H1,I1,r1,q1⟩=>?_
 obtain⟨a,e,⟨xs,hq⟩,q⟩:=q1;subst e;cases r1;obtain⟨its,rv,p,hz⟩:=I1.tuple hq;refine wpAny_pyIter_tuple (show s1.heap.IsTuple a its.toArray from p) ?_;refine⟨s1.heap.objs.size,[s1.heap.objs.size],_,_,H1,rfl,I1.kept (t':=s1.toks) λb o e=>zk _ e,Qo a _,⟨_,zz _ rfl,rfl,rfl⟩,λb hb=>?_,q⟩
 have e:b=s1.heap.objs.size:=by simpa using hb
 subst e;exact I1.fpOk (zc _) (I1.hok.fresh (zc _))
theorem Fi{pins:List (Addr×Obj)}{σ:St}{H:Hp}{s:Shared}{R:It->Hp->Prop}{E:Value->Shared->Prop}{lo hi:Int}{t u v:Tok}{tk:Nat}(I:Inv X pins σ H s)(h1:-(2 ^ 62)<=lo)(h2:lo<2 ^ 62)(h3:-(2 ^ 62)<=hi)(h4:hi<2 ^ 62)
  (q:R (Itr lo (hi - lo).toNat) H):wpAny (model X.prog X.w) X.A (pyIter (.ref s.heap.objs.size)) (PIE X pins σ tg R) E {s with heap:=s.heap.push {cls:=.type "range",data:=.fields #[.int lo t,.int hi u,.int 1 v]},toks:=tk}:=by
 refine wpAny_pyIter_range (IsRange.new ..) (small_one h1 h2 h3 h4) ?_
 have I1:Inv X pins σ H {s with heap:=s.heap.push {cls:=.type "range",data:=.fields #[.int lo t,.int hi u,.int 1 v]},toks:=tk}:=I.kept λb o e=>zk _ e
 refine⟨(s.heap.push {cls:=.type "range",data:=.fields #[.int lo t,.int hi u,.int 1 v]}).objs.size,[(s.heap.push {cls:=.type "range",data:=.fields #[.int lo t,.int hi u,.int 1 v]}).objs.size],_,_,H,rfl,
  I1.kept (t':=tk) λb o e=>zk _ e,Qp _ lo (hi - lo).toNat,?_,λb hb=>?_,q⟩
 ·have e1:lo+((0:Nat):Int) * 1=lo:=by simp
  have e2:(((hi - lo).toNat:Nat):Int) - ((0:Nat):Int)=Builtin.Range.rangeSize lo hi 1:=by rw[rangeSize_one];split<;>omega
  show IsRangeIter _ _ (lo+((0:Nat):Int) * 1) ((((hi - lo).toNat:Nat):Int) - ((0:Nat):Int)) 1;rw[e1,e2];exact zz _ rfl
 ·have e:b=(s.heap.push {cls:=.type "range",data:=.fields #[.int lo t,.int hi u,.int 1 v]}).objs.size:=by simpa using hb
  subst e;exact I1.fpOk (zc _) (I1.hok.fresh (zc _))
def Qu(ta:TA):TI:=λσ H R=>ta σ H λvs H1=>∃j:Int,vs=[.int j]/\-(2 ^ 62)<=j/\j<2 ^ 62/\R (Itr 0 j.toNat) H1
def Qv(ta:TA):TI:=λσ H R=>ta σ H λvs H1=>∃i j:Int,vs=[.int i,.int j]/\(-(2 ^ 62)<=i/\i<2 ^ 62/\-(2 ^ 62)<=j/\j<2 ^ 62)/\R (Itr i (j - i).toNat) H1
theorem Qw{a:Expr}{ta:TA}{p pos:Pos}(hg:Gl X "range")(hm:X.mg "range" = none)(ha:PA X [a] ta)(hs:starEach [a] X.env=[(false,eval a X.env)]:=by rfl):PI X tg (.Call (.Name "range" p) [a] [] pos) (Qu ta):=by
 intro pins s σ H R I h;refine Call_ (jG I hg hm boot_range (PyProof.Rows.callWith_type1 (thn (ha pos pins s σ H _ I h) λus s1 ⟨vs,H1,I1,r1,q1⟩=>?_) hs rfl));obtain⟨j,e,q1,q2,q⟩:=q1;subst e
 cases r1 with
 |cons r rr =>
  cases rr;obtain⟨t,rfl⟩:=r;exact call_range_1 (Fi I1 (by omega) (by omega) q1 q2 (by simpa using q))
theorem Qx{a b:Expr}{ta:TA}{p pos:Pos}(hg:Gl X "range")(hm:X.mg "range" = none)(ha:PA X [a,b] ta)(hs:starEach [a,b] X.env=[(false,eval a X.env),(false,eval b X.env)]:=by rfl)(hs2:starEach [b] X.env=[(false,eval b X.env)]:=by rfl):
  PI X tg (.Call (.Name "range" p) [a,b] [] pos) (Qv ta):=by
 intro pins s σ H R I h;refine Call_ (jG I hg hm boot_range (PyProof.Rows.callWith_type1 (thn (ha pos pins s σ H _ I h) λus s1 ⟨vs,H1,I1,r1,q1⟩=>?_) (by rw[hs,hs2]) (by rw[hs2];rfl)));obtain⟨i,j,e,⟨q1,q2,q3,q4⟩,q⟩:=q1;subst e
 cases r1 with
 |cons r rr =>
  cases rr with
  |cons r' rr =>
   cases rr;obtain⟨t,rfl⟩:=r;obtain⟨t',rfl⟩:=r';exact call_range_2 (Fi I1 q1 q2 q3 q4 q)
def Fj(wi:TI)(g:TG)(tb:TS):TS:=λD σ H=>wi σ H λJ H1=>∃W:Nat->Nat->St->Hp->Prop,(∃m,W 0 m σ H1)/\∀i m σ H,W i m σ H ->
 (J.stop i H/\D.nx σ H)\/(J.go i H/\∃N:St->Hp->Prop,(∀σ' H',N σ' H'->∃m',m'<m/\W (i+1) m' σ' H')/\∀x H',J.yld i H x H'->g x σ H' λσ2 H2=>tb {D with nx:=N,ct:=N,bk:=D.nx} σ2 H2)
def qL(fp:List Addr)(h:Heap):List (Addr×Obj):=fp.filterMap λb=>(h.get? b).map λo=>(b,o)
theorem tW{fp:List Addr}{h:Heap}{b:Addr}{o:Obj}(hb:b∈fp)(e:h.get? b=some o):(b,o)∈qL fp h:=List.mem_filterMap.mpr ⟨b,hb,by rw[e];rfl⟩
theorem Qy{fp:List Addr}{h:Heap}{p:Addr×Obj}(hp:p∈qL fp h):p.1∈fp/\h.get? p.1=some p.2:=by
 obtain⟨b,hb,e⟩:=List.mem_filterMap.mp hp
 cases q:h.get? b with
 |none=>rw[q] at e;cases e
 |some o =>
  rw[q] at e;have e':(b,o)=p:=zB e;subst e';exact⟨hb,q⟩
theorem Inv.pinned{pins:List (Addr×Obj)}{σ:St}{H:Hp}{s:Shared}{fp:List Addr}(I:Inv X pins σ H s)(hf:∀b∈fp,iw X pins H b)(ho:∀b∈fp,∃o,s.heap.get? b=some o/\∀v,o.data≠.cell v):Inv X (pins++qL fp s.heap) σ H s :=
 I.pins_of λp hp=>(zJ.mp hp).elim (λz=>I.pin p (zU _ z)) λz=>by
  obtain⟨hb,e⟩:=Qy z;obtain⟨f0,f1,f2,_⟩:=hf p.1 hb;obtain⟨o,e',d⟩:=ho p.1 hb;rw[e] at e';cases e';exact⟨e,f0,f1,f2,d⟩
theorem Inv.unpinned{pins pl:List (Addr×Obj)}{σ:St}{H:Hp}{s:Shared}(I:Inv X (pins++pl) σ H s):Inv X pins σ H s:=I.pins_of λp hp=>I.pin p (zU _ (List.mem_append_left _ hp))
theorem Qz{iter:Expr}{body:List Stmt}{wi:TI}{g:TG}{tb:TS}{pos:Pos}(hp:PassesOwn (model X.prog X.w) X.A X.env X.xe)(hc:X.calm=true)(hi:PI X tg iter wi)(hg:PG X tg g)(hb:PSs X body tb)
  (hs:∀x,foldedSetIterable iter X.env x=pure x:=by intro _;rfl):PS X (.For tg iter body [] pos) (Fj wi g tb):=by
 intro pins s σ H D I h;refine wpAny_For (thn (hi pins s σ H _ I h) λv s1 h1=>thn h1 λitv s2 h2=>?_) hs;obtain⟨it,fp,tn,J,H2,e,I2,T,st2,f2,W,⟨m0,w0⟩,turn⟩:=h2;subst e
 have stat:∀{H':Hp},(∀b∈fp,H' b=none)->∀b∈fp,iw X pins H' b:=λhn b hb=>⟨hn b hb,(f2 b hb).2⟩
 refine codeAny_forLoop_any (λn s'=>∃i σ' H',Inv X pins σ' H' s'/\tn i s'.heap/\(∀b∈fp,H' b=none)/\W i n σ' H') ?_ m0 ⟨0,σ,H2,I2,st2,λb hb=>(f2 b hb).1,w0⟩;rintro n s3 ⟨i,σ3,H3,I3,st3,fr3,w3⟩
 rcases turn i n σ3 H3 w3 with⟨stop,qn⟩ | ⟨go,N,hN,step⟩
 ·refine wpAny_passesOwn hp (thn (T.done X rfl rfl rfl hc i pins s3 σ3 H3 X.xe I3 (stat fr3) st3 stop) λr s4 ⟨hr,I4⟩=>?_);subst hr;exact wpAny_execs_nil ⟨σ3,H3,I4,qn⟩
 ·refine wpAny_passesOwn hp (thn (T.item X rfl rfl rfl hc i pins s3 σ3 H3 X.xe I3 (stat fr3) st3 go) λr s4 ⟨u,hr,h4⟩=>?_);subst hr;refine wpAny_passesOwn hp (thn h4 λ_ s5 ⟨x,H5,I5,r5,y5,st5,fr5⟩=>?_);have I5':=I5.pinned (stat fr5) (T.obj _ _ st5);refine wpAny_passesOwn hp (thn (hg _ s5 σ3 H5 x u _ I5' r5 (step x H5 y5)) λ_ s6 ⟨σ6,H6,I6,q6⟩=>?_);refine wpAny_passesOwn hp (thn (hb _ s6 σ6 H6 _ I6 q6) λf s7 q7=>?_)
  have again:∀{σ7:St}{H7:Hp},Inv X (pins++qL fp s5.heap) σ7 H7 s7->N σ7 H7->∃m,m<n/\∃i σ' H',Inv X pins σ' H' s7/\tn i s7.heap/\(∀b∈fp,H' b=none)/\W i m σ' H':=λ{σ7 H7} I7 n7=>by
   obtain⟨m',hm,w7⟩:=hN σ7 H7 n7;refine⟨m',hm,i+1,σ7,H7,I7.unpinned,T.keep _ _ _ st5 λb hb o e=>(I7.pin (b,o) (zU _ (zU _ (tW hb e)))).1,λb hb=>?_,w7⟩;obtain⟨o,e,d⟩:=T.obj _ _ st5 b hb;exact(I7.pin (b,o) (zU _ (zU _ (tW hb e)))).2.1
  cases f with
  |next=>obtain⟨σ7,H7,I7,n7⟩:=q7;exact again I7 n7
  |cont=>obtain⟨σ7,H7,I7,n7⟩:=q7;exact again I7 n7
  |brk=>obtain⟨σ7,H7,I7,q7⟩:=q7;exact⟨σ7,H7,I7.unpinned,q7⟩
  |ret v=>obtain⟨x7,σ7,H7,I7,r7,q7⟩:=q7;exact⟨x7,σ7,H7,I7.unpinned,r7,q7⟩
end
abbrev R2:=V->V->Hp->VK->Prop
def OpR(X:Cx)(f:Value->Value->Sem Value)(r:R2):Prop :=
 ∀(pins:List (Addr×Obj)) (s:Shared) (σ:St) (H:Hp) (x y:V) (v u:Value) (Q:VK),Inv X pins σ H s->RelV x v->RelV y u->r x y H Q ->
  wpAny (model X.prog X.w) X.A (f v u) (EP X pins σ Q) X.xe s
def UnR(X:Cx)(f:Value->Sem Value)(r:V->Hp->VK->Prop):Prop :=
 ∀(pins:List (Addr×Obj)) (s:Shared) (σ:St) (H:Hp) (x:V) (v:Value) (Q:VK),Inv X pins σ H s->RelV x v->r x H Q ->
  wpAny (model X.prog X.w) X.A (f v) (EP X pins σ Q) X.xe s
def gQ(X:Cx)(f:Value)(r:List V->Hp->VK->Prop):Prop :=
 ∀(pins:List (Addr×Obj)) (s:Shared) (σ:St) (H:Hp) (xs:List V) (us:List Value) (Q:VK),Inv X pins σ H s->aR xs us->r xs H Q ->
  wpAny (model X.prog X.w) X.A (call f us) (EP X pins σ Q) X.xe s
def QB(X:Cx)(r:V->Hp->(Bool->Hp->Prop)->Prop):Prop :=
 ∀(pins:List (Addr×Obj)) (s:Shared) (σ:St) (H:Hp) (x:V) (v:Value) (Q:Bool->Hp->Prop),Inv X pins σ H s->RelV x v->r x H Q ->
  wpAny (model X.prog X.w) X.A (truthy v) (TP X pins σ Q) X.xe s
def tOp(r:R2)(ta tb:TE):TE:=λσ H Q=>ta σ H λx H1=>tb σ H1 λy H2=>r x y H2 Q
def tUn(r:V->Hp->VK->Prop)(ta:TE):TE:=λσ H Q=>ta σ H λx H1=>r x H1 Q
def rI(C:Int->Int->Prop)(g:Int->Int->V):R2:=λx y H Q=>∃i j,x=.int i/\y=.int j/\C i j/\Q (g i j) H
def rI0(g:Int->Int->V):R2:=λx y H Q=>∃i j,x=.int i/\y=.int j/\Q (g i j) H
def rU(g:Int->V):V->Hp->VK->Prop:=λx H Q=>∃i,x=.int i/\Q (g i) H
section
variable {X:Cx}{a b c:Expr}{ta tb tc:TE}{pos:Pos}
theorem wJ(ha:PE X a ta)(hb:PE X b tb){pins:List (Addr×Obj)}{s:Shared}{σ:St}{H:Hp}{R:V->V->Hp->Prop}(I:Inv X pins σ H s)
  (h:ta σ H λx H1=>tb σ H1 λy H2=>R x y H2) {Q:Value->Shared->Prop}{f:Value->Value->Sem Value}
  (hf:∀v u s2 x y H2,Inv X pins σ H2 s2->RelV x v->RelV y u->R x y H2->wpAny (model X.prog X.w) X.A (f v u) Q X.xe s2):
  wpAny (model X.prog X.w) X.A (eval a X.env) (λv s₁=>wpAny (model X.prog X.w) X.A (eval b X.env) (λu s₂=>wpAny (model X.prog X.w) X.A (f v u) Q X.xe s₂) X.xe s₁) X.xe s:=by
 refine thn (ha pins s σ H _ I h) λv s1 ⟨x,H1,I1,r1,q1⟩=>?_
 refine thn (hb pins s1 σ H1 _ I1 q1) λu s2 ⟨y,H2,I2,r2,q2⟩=>?_
 exact hf v u s2 x y H2 I2 r1 r2 q2
theorem QC{op:Operator}{r:R2}(ho:OpR X (binaryOp op) r)(ha:PE X a ta)(hb:PE X b tb):PE X (.BinOp a op b pos) (tOp r ta tb):=by
 intro pins s σ H Q I h;exact wpAny_BinOp (wJ ha hb I h λv u s2 x y H2 I2 rx ry q=>ho pins s2 σ H2 x y v u Q I2 rx ry q)
theorem QD{op:UnaryOp}{r:V->Hp->VK->Prop}(ho:UnR X (unaryOp op) r)(ha:PE X a ta):PE X (.UnaryOp op a pos) (tUn r ta):=by
 intro pins s σ H Q I h;exact UnaryOp_ (thn (ha pins s σ H _ I h) λv s1 ⟨x,H1,I1,r1,q1⟩=>ho pins s1 σ H1 x v Q I1 r1 q1)
theorem opI{f:Value->Value->Sem Value}{C:Int->Int->Prop}{g:Int->Int->Int}
  (rule:∀(i j:Int) (t u:Tok) (s:Shared) (Q:Value->Shared->Prop) (E:Value->Shared->Prop),C i j->Q (.int (g i j) s.toks) {s with toks:=s.toks+1}->wpAny (model X.prog X.w) X.A (f (.int i t) (.int j u)) Q E s):
  OpR X f (rI C λi j=>.int (g i j)):=by
 intro pins s σ H x y v u Q I rx ry h;obtain⟨i,j,rfl,rfl,hc,q⟩:=h;obtain⟨t,rfl⟩:=rx;obtain⟨t',rfl⟩:=ry;exact rule i j t t' s _ _ hc ⟨.int (g i j),H,I.tok _,⟨_,rfl⟩,q⟩
theorem Fo{f:Value->Value->Sem Value}{g:Int->Int->Int}
  (rule:∀(i j:Int) (t u:Tok) (s:Shared) (Q:Value->Shared->Prop) (E:Value->Shared->Prop),Q (.int (g i j) s.toks) {s with toks:=s.toks+1}->wpAny (model X.prog X.w) X.A (f (.int i t) (.int j u)) Q E s):
  OpR X f (rI0 λi j=>.int (g i j)):=by
 intro pins s σ H x y v u Q I rx ry h;obtain⟨i,j,rfl,rfl,q⟩:=h;obtain⟨t,rfl⟩:=rx;obtain⟨t',rfl⟩:=ry;exact rule i j t t' s _ _ ⟨.int (g i j),H,I.tok _,⟨_,rfl⟩,q⟩
theorem wK{f:Value->Value->Sem Value}{g:Int->Int->Bool}
  (rule:∀(i j:Int) (t u:Tok) (s:Shared) (Q:Value->Shared->Prop) (E:Value->Shared->Prop),Q (.bool (g i j)) s->wpAny (model X.prog X.w) X.A (f (.int i t) (.int j u)) Q E s):
  OpR X f (rI0 λi j=>.bl (g i j)):=by
 intro pins s σ H x y v u Q I rx ry h;obtain⟨i,j,rfl,rfl,q⟩:=h;obtain⟨t,rfl⟩:=rx;obtain⟨t',rfl⟩:=ry;exact rule i j t t' s _ _ ⟨.bl (g i j),H,I,rfl,q⟩
def QF(i j:Int):Prop:=0<j/\j<1073741824
def QG(i j:Int):Prop:=0<=j/\j<=1000000/\i.natAbs<2 ^ 64
def wL(i j:Int):Prop:=(-(2 ^ 64)<i/\i<2 ^ 64)\/(-(2 ^ 64)<j/\j<2 ^ 64)
theorem wL.ok{i j:Int}(h:wL i j):IntMulOk i j:=by
 rcases h with⟨h1,h2⟩ | ⟨h1,h2⟩
 ·exact .of_left (intBits_le_64 h1 h2)
 ·exact .of_right (intBits_le_64 h1 h2)
theorem QH:OpR X (binaryOp .Add) (rI0 λi j=>.int (i+j)):=Fo λ_ _ _ _ _ _ _ q=>add_int q
theorem QJ:OpR X (binaryOp .Sub) (rI0 λi j=>.int (i - j)):=Fo λ_ _ _ _ _ _ _ q=>sub_int q
theorem QK:OpR X (binaryOp .Mult) (rI wL λi j=>.int (i * j)):=opI λ_ _ _ _ _ _ _ hc q=>mul_int q hc.ok
theorem QL:OpR X (binaryOp .FloorDiv) (rI QF λi j=>.int (i / j)):=opI λi j _ _ _ _ _ hc q=>by
 have h1:(0:Int)<j:=hc.1;have h2:j<1073741824:=hc.2;exact floordiv_int (by omega) (by rw[Int.fdiv_eq_ediv_of_nonneg i (by omega)];exact q) (.inl (PyProof.noPylong_small (by omega)))
theorem QM:OpR X (binaryOp .Mod) (rI (λ_ j=>0<j) λi j=>.int (i % j)):=opI λi j _ _ _ _ _ hc q=>by
 have h1:(0:Int)<j:=hc;exact mod_int' (by omega) (by rw[Int.fmod_eq_emod_of_nonneg i (by omega)];exact q)
theorem QQ:OpR X (binaryOp .Pow) (rI QG λi j=>.int (i ^ j.toNat)):=opI λ_ _ _ _ _ _ _ hc q=>pow_int_small hc.1 hc.2.1 hc.2.2 q
theorem unI{f:Value->Sem Value}{g:Int->Int}
  (rule:∀(i:Int) (t:Tok) (s:Shared) (Q:Value->Shared->Prop) (E:Value->Shared->Prop),Q (.int (g i) s.toks) {s with toks:=s.toks+1}->wpAny (model X.prog X.w) X.A (f (.int i t)) Q E s):
  UnR X f (rU λi=>.int (g i)):=by
 intro pins s σ H x v Q I rx h;obtain⟨i,rfl,q⟩:=h;obtain⟨t,rfl⟩:=rx;exact rule i t s _ _ ⟨.int (g i),H,I.tok _,⟨_,rfl⟩,q⟩
theorem QR:UnR X (unaryOp .USub) (rU λi=>.int (-i)):=unI λ_ _ _ _ _ q=>neg_int q
theorem QS:OpR X (binaryOp .Add) (λx y H Q=>∃i k,x=.int i/\y=.bl k/\Q (.int (i+b2i k)) H):=by
 intro pins s σ H x y v u Q I rx ry h;obtain⟨i,k,rfl,rfl,q⟩:=h;obtain⟨t,rfl⟩:=rx;cases ry;exact add_int_bool ⟨.int (i+b2i k),H,I.tok _,⟨_,rfl⟩,q⟩
end
def Fp:V->V->Bool
 | .non,.non=>true | .non,.int _=>true | .int _,.non=>true | .non,.bl _=>true | .bl _,.non=>true | .non,.str _=>true | .str _,.non=>true
 | .int _,.int _=>true | .bl _,.bl _=>true | .str _,.str _=>true | .byt _,.byt _=>true
 | .int _,.str _=>true | .str _,.int _=>true | .bl _,.str _=>true | .str _,.bl _=>true
 | _,_=>false
def rEq:R2:=λx y H Q=>Fp x y=true/\Q (.bl (decide (x=y))) H
def rNe:R2:=λx y H Q=>Fp x y=true/\Q (.bl (!decide (x=y))) H
theorem Fq{i j:Int}:decide (V.int i=V.int j)=(i == j):=by
 rw[Bool.eq_iff_iff];simp
theorem Ft{i j:Bool}:decide (V.bl i=V.bl j)=(i == j):=by
 rw[Bool.eq_iff_iff];simp
theorem Fv{i j:Str}:decide (V.str i=V.str j)=(i == j):=by
 rw[Bool.eq_iff_iff];simp
theorem Fw{i j:Array UInt8}:decide (V.byt i=V.byt j)=(i.toList == j.toList):=by
 rw[Bool.eq_iff_iff];cases i;cases j;simp
section
variable {X:Cx}{a b c:Expr}{ta tb tc:TE}{pos:Pos}
theorem cU{pins:List (Addr×Obj)}{σ:St}{H:Hp}{s:Shared}{Q:VK}{k k':Bool}(I:Inv X pins σ H s)(q:Q (.bl k) H)(e:k=k'):EP X pins σ Q (.bool k') s:=by
 subst e;exact⟨.bl k,H,I,rfl,q⟩
theorem wM:OpR X (compareOp .Eq) rEq:=by
 intro pins s σ H x y v u Q I rx ry h;obtain⟨hs,q⟩:=h
 cases x with
 |non =>
  cases rx
  cases y with
  |non=>cases ry;exact PySem.EqNone.eq_none_none (cU I q (by simp))
  |bl j=>cases ry;exact PySem.EqNone.eq_none_bool (cU I q (by simp))
  |int j=>obtain⟨t',rfl⟩:=ry;exact PySem.EqNone.eq_none_int (cU I q (by simp))
  |str j=>obtain⟨t',rfl⟩:=ry;exact PySem.EqNone.eq_none_str (cU I q (by simp))
  | _=>exact absurd (show false=true from hs) zj
 |bl i =>
  cases rx
  cases y with
  |non=>cases ry;exact PySem.EqNone.eq_bool_none (cU I q (by simp))
  |bl j=>cases ry;exact eq_bool (cU I q Ft)
  |str j=>obtain⟨t',rfl⟩:=ry;exact PySem.EqMixed.eq_bool_str (cU I q (by simp))
  | _=>exact absurd (show false=true from hs) zj
 |int i =>
  obtain⟨t,rfl⟩:=rx
  cases y with
  |non=>cases ry;exact PySem.EqNone.eq_int_none (cU I q (by simp))
  |int j=>obtain⟨t',rfl⟩:=ry;exact eq_int (cU I q Fq)
  |str j=>obtain⟨t',rfl⟩:=ry;exact PySem.EqMixed.eq_int_str (cU I q (by simp))
  | _=>exact absurd (show false=true from hs) zj
 |str i =>
  obtain⟨t,rfl⟩:=rx
  cases y with
  |non=>cases ry;exact PySem.EqNone.eq_str_none (cU I q (by simp))
  |bl j=>cases ry;exact PySem.EqMixed.eq_str_bool (cU I q (by simp))
  |int j=>obtain⟨t',rfl⟩:=ry;exact PySem.EqMixed.eq_str_int (cU I q (by simp))
  |str j=>obtain⟨t',rfl⟩:=ry;exact eq_str (cU I q Fv)
  | _=>exact absurd (show false=true from hs) zj
 |byt i =>
  obtain⟨t,rfl⟩:=rx
  cases y with
  |byt j=>obtain⟨t',rfl⟩:=ry;exact PySem.W.eq_bytes (cU I q Fw)
  | _=>exact absurd (show false=true from hs) zj
 | _=>cases y<;>exact absurd (show false=true from hs) zj
theorem wN:OpR X (compareOp .NotEq) rNe:=by
 intro pins s σ H x y v u Q I rx ry h;obtain⟨hs,q⟩:=h
 cases x with
 |non =>
  cases rx
  cases y with
  |non=>cases ry;exact PySem.EqNone.ne_none_none (cU I q (by simp))
  |bl j=>cases ry;exact PySem.EqNone.ne_none_bool (cU I q (by simp))
  |int j=>obtain⟨t',rfl⟩:=ry;exact PySem.EqNone.ne_none_int (cU I q (by simp))
  |str j=>obtain⟨t',rfl⟩:=ry;exact PySem.EqNone.ne_none_str (cU I q (by simp))
  | _=>exact absurd (show false=true from hs) zj
 |bl i =>
  cases rx
  cases y with
  |non=>cases ry;exact PySem.EqNone.ne_bool_none (cU I q (by simp))
  |bl j=>cases ry;exact ne_bool (cU I q (congrArg not Ft))
  |str j=>obtain⟨t',rfl⟩:=ry;exact PySem.EqMixed.ne_bool_str (cU I q (by simp))
  | _=>exact absurd (show false=true from hs) zj
 |int i =>
  obtain⟨t,rfl⟩:=rx
  cases y with
  |non=>cases ry;exact PySem.EqNone.ne_int_none (cU I q (by simp))
  |int j=>obtain⟨t',rfl⟩:=ry;exact ne_int (cU I q (congrArg not Fq))
  |str j=>obtain⟨t',rfl⟩:=ry;exact PySem.EqMixed.ne_int_str (cU I q (by simp))
  | _=>exact absurd (show false=true from hs) zj
 |str i =>
  obtain⟨t,rfl⟩:=rx
  cases y with
  |non=>cases ry;exact PySem.EqNone.ne_str_none (cU I q (by simp))
  |bl j=>cases ry;exact PySem.EqMixed.ne_str_bool (cU I q (by simp))
  |int j=>obtain⟨t',rfl⟩:=ry;exact PySem.EqMixed.ne_str_int (cU I q (by simp))
  |str j=>obtain⟨t',rfl⟩:=ry;exact ne_str (cU I q (congrArg not Fv))
  | _=>exact absurd (show false=true from hs) zj
 |byt i =>
  obtain⟨t,rfl⟩:=rx
  cases y with
  |byt j=>obtain⟨t',rfl⟩:=ry;exact PySem.W.ne_bytes (cU I q (congrArg not Fw))
  | _=>exact absurd (show false=true from hs) zj
 | _=>cases y<;>exact absurd (show false=true from hs) zj
theorem QT:OpR X (compareOp .Lt) (rI0 λi j=>.bl (decide (i<j))):=wK λ_ _ _ _ _ _ _ q=>lt_int q
theorem QV:OpR X (compareOp .LtE) (rI0 λi j=>.bl (decide (i<=j))):=wK λ_ _ _ _ _ _ _ q=>le_int q
theorem QW:OpR X (compareOp .Gt) (rI0 λi j=>.bl (decide (j<i))):=wK λ_ _ _ _ _ _ _ q=>gt_int q
theorem QX:OpR X (compareOp .In) (λx y H Q=>∃i j,x=.str i/\y=.str j/\Q (.bl (!(Builtin.Str.occurrences j i 0 j.length 1).isEmpty)) H):=by
 intro pins s σ H x y v u Q I rx ry h;obtain⟨i,j,rfl,rfl,q⟩:=h;obtain⟨t,rfl⟩:=rx;obtain⟨t',rfl⟩:=ry;exact in_str (cU I q rfl)
theorem QZ:OpR X (compareOp .NotIn) (λx y H Q=>∃i j,x=.str i/\y=.str j/\Q (.bl (!(!(Builtin.Str.occurrences j i 0 j.length 1).isEmpty))) H):=by
 intro pins s σ H x y v u Q I rx ry h;obtain⟨i,j,rfl,rfl,q⟩:=h;obtain⟨t,rfl⟩:=rx;obtain⟨t',rfl⟩:=ry;exact notIn_str (cU I q rfl)
theorem bC(b:Expr){op:CmpOp}(h:op≠.In:=by decide)(h2:op≠.NotIn:=by decide):behindInMarks op b=false:=by
 have e1:(op == CmpOp.In)=false:=by cases op<;>first | rfl | exact absurd rfl h
 have e2:(op == CmpOp.NotIn)=false:=by cases op<;>first | rfl | exact absurd rfl h2
 cases b<;>simp[behindInMarks,e1,e2]
theorem Q0{op:CmpOp}{r:R2}(ho:OpR X (compareOp op) r)(ha:PE X a ta)(hb:PE X b tb)(hm:behindInMarks op b=false):PE X (.Compare a [op] [b] pos) (tOp r ta tb):=by
 intro pins s σ H Q I h;exact wpAny_Compare1 (wJ ha hb I h λv u s2 x y H2 I2 rx ry q=>ho pins s2 σ H2 x y v u Q I2 rx ry q) hm
def tX(t:TE):TT:=λσ H Q=>t σ H λx H'=>∃k,x=.bl k/\Q k H'
theorem Q3{op:CmpOp}{r:R2}(ho:OpR X (compareOp op) r)(ha:PE X a ta)(hb:PE X b tb)(hm:behindInMarks op b=false):PT X (.Compare a [op] [b] pos) (tX (tOp r ta tb)):=by
 intro pins s σ H Q I h
 refine wpAny_isTrue_Compare1 (thn (ha pins s σ H _ I h) λv s1 ⟨x,H1,I1,r1,q1⟩=>thn (hb pins s1 σ H1 _ I1 q1) λu s2 ⟨y,H2,I2,r2,q2⟩ =>
  thn (ho pins s2 σ H2 x y v u _ I2 r1 r2 q2) λc s3 ⟨z,H3,I3,r3,k,e,q3⟩=>?_) hm
 subst e;cases r3;exact wpAny_truthy_bool ⟨H3,I3,q3⟩
def wO(r r':R2)(ta tb tc:TE):TE:=λσ H Q=>ta σ H λx H1=>tb σ H1 λy H2=>r x y H2 λz H3=>∃k,z=.bl k /\
 (if k=true then tc σ H3 λw' H4=>r' y w' H4 Q else Q (.bl false) H3)
theorem Q4{op op':CmpOp}{r r':R2}(ho:OpR X (compareOp op) r)(ho':OpR X (compareOp op') r')(ha:PE X a ta)(hb:PE X b tb)(hc:PE X c tc)
  (hm:lastMarks [op,op'] [b,c]=false:=by with_unfolding_all rfl):PE X (.Compare a [op,op'] [b,c] pos) (wO r r' ta tb tc):=by
 intro pins s σ H Q I h
 refine Compare_chain (thn (ha pins s σ H _ I h) λv s1 ⟨x,H1,I1,r1,q1⟩=>chain_link (thn (hb pins s1 σ H1 _ I1 q1) λu s2 ⟨y,H2,I2,r2,q2⟩ =>
  thn (ho pins s2 σ H2 x y v u _ I2 r1 r2 q2) λd s3 ⟨z,H3,I3,r3,k,e,q3⟩=>?_)) hm
 subst e;cases r3;refine wpAny_truthy_bool ?_
 cases k with
 |false=>exact ite_ff ⟨.bl false,H3,I3,rfl,q3⟩
 |true=>exact ite_tt (chain_last (thn (hc pins s3 σ H3 _ I3 q3) λw' s4 ⟨z',H4,I4,r4,q4⟩=>ho' pins s4 σ H4 y z' u w' Q I4 r2 r4 q4))
theorem Q5{op op':CmpOp}{r r':R2}(ho:OpR X (compareOp op) r)(ho':OpR X (compareOp op') r')(ha:PE X a ta)(hb:PE X b tb)(hc:PE X c tc)
  (hm:lastMarks [op,op'] [b,c]=false:=by with_unfolding_all rfl):PT X (.Compare a [op,op'] [b,c] pos) (tX (wO r r' ta tb tc)):=by
 intro pins s σ H Q I h
 refine isTrue_chain (thn (ha pins s σ H _ I h) λv s1 ⟨x,H1,I1,r1,q1⟩=>test_link (thn (hb pins s1 σ H1 _ I1 q1) λu s2 ⟨y,H2,I2,r2,q2⟩ =>
  thn (ho pins s2 σ H2 x y v u _ I2 r1 r2 q2) λd s3 ⟨z,H3,I3,r3,k,e,q3⟩=>?_)) hm
 subst e;cases r3;refine wpAny_truthy_bool ?_
 cases k with
 |false =>
  obtain⟨k',e',q'⟩:=q3;cases e';exact ite_ff ⟨H3,I3,q'⟩
 |true =>
  refine ite_tt (test_last (thn (hc pins s3 σ H3 _ I3 q3) λw' s4 ⟨z',H4,I4,r4,q4⟩=>thn (ho' pins s4 σ H4 y z' u w' _ I4 r2 r4 q4) λd' s5 ⟨z2,H5,I5,r5,k2,e2,q5⟩=>?_));subst e2;cases r5;exact wpAny_truthy_bool ⟨H5,I5,q5⟩
def wQ(K:PySem.W.Frag)(x:V)(H:Hp)(k:Bool):Prop :=
 match x with
 | .non=>k=false
 | .bl b=>k=b
 | .int i=>k=(i != 0)
 | .str y=>y.length<=sizeLine/\k=((y.length:Int) != 0)
 | .byt y=>y.size<=sizeLine/\k=((y.size:Int) != 0)
 | .ref p=>(∃xs,SqL K H p xs/\k = !xs.isEmpty)\/(∃xs,SqT K H p xs/\k = !xs.isEmpty)\/∃kvs,H p=some (.dK kvs)/\k = !kvs.isEmpty
 | _=>False
theorem Q6{κ:Type}{kvs:List (κ×V)}{vs:List (κ×Value)}(r:KV kvs vs):(!vs.isEmpty) = !kvs.isEmpty:=by
 cases r<;>rfl
theorem Fx{xs:List V}{its:List Value}(r:aR xs its):(!its.toArray.isEmpty) = !xs.isEmpty:=by
 cases r<;>simp
theorem qM:(sizeLine:Nat)<2 ^ 63:=by rw[sizeLine_eq];decide
theorem Q7:QB X (λx H Q=>∃k,wQ X.K x H k/\Q k H):=by
 intro pins s σ H x v Q I rx h;obtain⟨k,e,q⟩:=h;have hl:=qM;have hs:sizeLine=16777216:=sizeLine_eq
 cases x with
 |non =>
  cases rx;have e':k=false:=e;subst e';exact truthy_none ⟨H,I,q⟩
 |bl b =>
  cases rx;have e':k=b:=e;subst e';exact wpAny_truthy_bool ⟨H,I,q⟩
 |int i =>
  obtain⟨t,rfl⟩:=rx;have e':k=(i != 0):=e;subst e';exact PySem.P.truthy_int ⟨H,I,q⟩
 |str y =>
  obtain⟨t,rfl⟩:=rx;obtain⟨hy,e'⟩:y.length<=sizeLine/\k=((y.length:Int) != 0):=e;subst e';exact PySem.P.truthy_str (by omega) ⟨H,I.tok _,q⟩
 |byt y =>
  obtain⟨t,rfl⟩:=rx;obtain⟨hy,e'⟩:y.size<=sizeLine/\k=((y.size:Int) != 0):=e;subst e';exact PySem.W.truthy_bytes (by omega) ⟨H,I.tok _,q⟩
 |ref p =>
  cases rx;have e':(∃xs,SqL X.K H p xs/\k = !xs.isEmpty)\/(∃xs,SqT X.K H p xs/\k = !xs.isEmpty)\/∃kvs,H p=some (.dK kvs)/\k = !kvs.isEmpty:=e
  rcases e' with⟨xs,hx,e'⟩ | ⟨xs,hx,e'⟩ | ⟨kvs,hx,e'⟩
  ·subst e';obtain⟨its,r,pl,hz⟩:=I.list hx;have hlen:=r.length;exact wpAny_truthy_list pl.isList (by simp only[zr];omega) ⟨H,I.tok _,by rw[Fx r];exact q⟩
  ·subst e';obtain⟨its,r,pl,hz⟩:=I.tuple hx;have hlen:=r.length;exact truthy_tuple pl (by simp only[zr];omega) ⟨H,I.tok _,by rw[Fx r];exact q⟩
  ·subst e';obtain⟨hz,hS,vs,r,m⟩:kvs.length<=sizeLine/\(p == sysModules)=false/\∃vs,KV kvs vs/\s.heap.DictOf (fK X.prog X.w) p vs:=I.hok p _ hx;have hlen:kvs.length=vs.length:=Paired.length r;exact wpAny_truthy_dict hS m (by omega) ⟨H,I.tok _,by rw[Q6 r];exact q⟩
 | _=>exact(show False from e).elim
theorem Q8(ha:PE X a ta)(he:∀whole,isTrue a X.env whole=(do let v <-whole;standAt a.pos;holding [v] (truthy v))):
  PT X a (λσ H Q=>ta σ H λx H'=>∃k,wQ X.K x H' k/\Q k H'):=by
 intro pins s σ H Q I h;exact isTrue_plain (thn (ha pins s σ H _ I h) λv s1 ⟨x,H1,I1,r1,q1⟩=>Q7 pins s1 σ H1 x v Q I1 r1 q1) (he _)
theorem Q9:OpR X (binaryOp .Add) (λx y H Q=>∃i j,x=.str i/\y=.str j/\i.length+j.length<=sizeLine/\Q (.str (i++j)) H):=by
 intro pins s σ H x y v u Q I rx ry h;obtain⟨i,j,rfl,rfl,hz,q⟩:=h;obtain⟨t,rfl⟩:=rx;obtain⟨t',rfl⟩:=ry;exact add_str (λt' tk=>⟨.str (i++j),H,I.tok _,⟨_,rfl⟩,q⟩) hz
theorem vals1{x:V}{us:List Value}(r:aR [x] us):∃u,us=[u]/\RelV x u:=by
 cases r with
 |cons r1 r2=>cases r2;exact⟨_,rfl,r1⟩
theorem vals2{x y:V}{us:List Value}(r:aR [x,y] us):∃u w',us=[u,w']/\RelV x u/\RelV y w':=by
 cases r with
 |cons r1 r2 =>
  cases r2 with
  |cons r3 r4=>cases r4;exact⟨_,_,rfl,r1,r3⟩
theorem Ra(hc:X.calm=true):gQ X (.builtin "max") (λxs H Q=>∃i j,xs=[.int i,.int j]/\Q (.int (if j>i then j else i)) H):=by
 intro pins s σ H xs us Q I r h;obtain⟨i,j,rfl,q⟩:=h;obtain⟨u,w',rfl,⟨t,rfl⟩,⟨t',rfl⟩⟩:=vals2 r
 refine max_two_ints (I.ok.hd hc) λh' tk k=>⟨_,H,I.kept k,?_,q⟩
 by_cases hj:j>i
 ·rw[if_pos hj,if_pos hj];exact⟨_,rfl⟩
 ·rw[if_neg hj,if_neg hj];exact⟨_,rfl⟩
theorem Rb(hc:X.calm=true):gQ X (.builtin "min") (λxs H Q=>∃i j,xs=[.int i,.int j]/\Q (.int (if j<i then j else i)) H):=by
 intro pins s σ H xs us Q I r h;obtain⟨i,j,rfl,q⟩:=h;obtain⟨u,w',rfl,⟨t,rfl⟩,⟨t',rfl⟩⟩:=vals2 r
 refine min_two_ints (I.ok.hd hc) λh' tk k=>⟨_,H,I.kept k,?_,q⟩
 by_cases hj:j<i
 ·rw[if_pos hj,if_pos hj];exact⟨_,rfl⟩
 ·rw[if_neg hj,if_neg hj];exact⟨_,rfl⟩
theorem Fy:gQ X (.type "int") (λxs H Q=>(∃i,xs=[.int i]/\Q (.int i) H)\/∃k,xs=[.bl k]/\Q (.int (if k then 1 else 0)) H):=by
 intro pins s σ H xs us Q I r h
 rcases h with⟨i,rfl,q⟩ | ⟨k,rfl,q⟩
 ·obtain⟨u,rfl,t,rfl⟩:=vals1 r;exact call_int_int ⟨.int i,H,I,⟨_,rfl⟩,q⟩
 ·obtain⟨u,rfl,r1⟩:=vals1 r;cases r1;exact call_int_bool ⟨.int (if k then 1 else 0),H,I.tok _,⟨_,rfl⟩,q⟩
theorem Rc:gQ X (.type "str") (λxs H Q=>∃i,xs=[.int i]/\i.natAbs.log2<1920/\Q (.str (toString i)) H):=by
 intro pins s σ H xs us Q I r h;obtain⟨i,rfl,hz,q⟩:=h;obtain⟨u,rfl,t,rfl⟩:=vals1 r;exact PySem.P.str_of_int hz ⟨.str _,H,I.tok _,⟨_,rfl⟩,q⟩
def Rf(K:PySem.W.Frag)(x:V)(H:Hp)(n:Nat):Prop :=
 match x with
 | .str y=>y.length<=sizeLine/\n=y.length
 | .byt y=>y.size<=sizeLine/\n=y.size
 | .ref p=>(∃xs,SqL K H p xs/\n=xs.length)\/∃xs,SqT K H p xs/\n=xs.length
 | _=>False
theorem call_len:gQ X (.builtin "len") (λxs H Q=>∃x n,xs=[x]/\Rf X.K x H n/\Q (.int n) H):=by
 intro pins s σ H xs us Q I r h;obtain⟨x,n,rfl,e,q⟩:=h;obtain⟨u,rfl,rx⟩:=vals1 r;have hl:=qM;have hs:sizeLine=16777216:=sizeLine_eq
 cases x with
 |str y =>
  obtain⟨t,rfl⟩:=rx;obtain⟨hy,e'⟩:y.length<=sizeLine/\n=y.length:=e;subst e';exact len_str (by omega) ⟨.int _,H,I.tok _,⟨_,rfl⟩,q⟩
 |byt y =>
  obtain⟨t,rfl⟩:=rx;obtain⟨hy,e'⟩:y.size<=sizeLine/\n=y.size:=e;subst e';exact PySem.W.len_bytes (by omega) ⟨.int _,H,I.tok _,⟨_,rfl⟩,q⟩
 |ref p =>
  cases rx;have e':(∃xs,SqL X.K H p xs/\n=xs.length)\/∃xs,SqT X.K H p xs/\n=xs.length:=e
  rcases e' with⟨xs,hx,e'⟩ | ⟨xs,hx,e'⟩
  ·subst e';obtain⟨its,r',pl,hz⟩:=I.list hx;have hlen:=r'.length;exact Calls.call_len_list pl.isList (by simp only[zr];omega) ⟨.int xs.length,H,I.tok _,⟨_,by simp only[zr];rw[hlen]⟩,q⟩
  ·subst e';obtain⟨its,r',pl,hz⟩:=I.tuple hx;have hlen:=r'.length;exact len_tuple pl (by simp only[zr];omega) ⟨.int xs.length,H,I.tok _,⟨_,by simp only[zr];rw[hlen]⟩,q⟩
 | _=>exact(show False from e).elim
end
structure mX(h:Heap)(x dx C:Addr)(mA:Str->Option Value):Prop where
 obj:h.get? x=some (PySem.W.instObj C dx)
 ns:h.Ns1 dx mA
 ne:dx≠x
theorem Rg{h:Heap}{dx:Addr}{mA:Str->Option Value}(n:h.Ns1 dx mA):∃od,h.get? dx=some od/\∀name,PySem.W.lookIn name od=some (mA name):=by
 obtain⟨o,es,ep,ho,hd,hk,_,hm⟩:=n;refine⟨o,ho,λname=>?_⟩;have e:=hm name;unfold nsFind findBy at e;rw[<-Array.find?_toList] at e;unfold PySem.W.lookIn;rw[hd];dsimp only
 split
 ·rename_i y q;rw[q] at e;exact congrArg some e
 ·rename_i q;rw[q] at e
  have a:es.toList.any (·.refKey)=false:=by
   rw[List.any_eq_false];intro y hy;obtain⟨z,t,hkey⟩:=hk y (Array.mem_toList_iff.mp hy);simp[DictEntry.refKey,hkey]
  have a':¬es.toList.any (·.refKey)=true:=by rw[a];exact zj
  rw[if_neg a'];exact congrArg some e
theorem mX.look{h:Heap}{x dx C:Addr}{mA:Str->Option Value}(I:mX h x dx C mA):∃od,PySem.W.InstAt h x (PySem.W.instObj C dx) C (some od)/\∀name,PySem.W.lookIn name od=some (mA name):=
 let ⟨od,ho,hl⟩:=Rg I.ns
 ⟨od,⟨I.obj,rfl,rfl,ho⟩,hl⟩
section
variable {prog:Program}{w:World}{A:Around}{E:Value->Shared->Prop}{s:Shared}{K:PySem.W.Frag}{x dx C f:Addr}{mA:Str->Option Value}{name:Str}{v:Value}
theorem Rh{expr:Bool}{Q:Value->Shared->Prop}(X:K.In s.heap)(I:mX s.heap x dx C mA)(hg:PySem.W.plainGet K C name=true)(hh:PySem.W.hasDictIn K C=true)
  (ha:PySem.W.findIn K (.ref C) name=some none) (hv:mA name=some v) (hv':PySem.W.handedIn v=true) (h:Q v {s with toks:=s.toks+1}):
  wpAny (model prog w) A (getAttr (.ref x) name expr) Q E s:=by
 obtain⟨od,J,hl⟩:=I.look;exact PySem.W.get_value X J (PySem.W.plainGet_of hg).1 (PySem.W.findObj_own hh ha rfl (by rw[hl,hv])) hv' h
theorem Ri{pl:Sem Bool}{Q:Value×List Value->Shared->Prop}(X:K.In s.heap)(I:mX s.heap x dx C mA)(hg:PySem.W.plainGet K C name=true)
  (hf:PySem.W.findIn K (.ref C) name=some (some (.ref f))) (ht:PySem.W.isFn K (.ref f)=true) (hv:mA name=none) (h:Q (.ref f,[.ref x]) s):
  wpAny (model prog w) A (getMethod (.ref x) name pl) Q E s:=by
 obtain⟨od,J,hl⟩:=I.look;exact PySem.W.method_fn X J (PySem.W.plainGet_of hg).1 (PySem.W.plainGet_of hg).2 hf (beq_iff_eq.mp ht) (by show(PySem.W.lookIn name od).map (·.isSome)=some false;rw[hl,hv];rfl) h
theorem Rj{ns:List Str}{Q:Unit->Shared->Prop}(X:K.In s.heap)(I:mX s.heap x dx C mA)
  (hs:PySem.W.findIn K (.ref C) "__setattr__" = some (some (.builtin "object.__setattr__"))) (hp:PySem.W.plainOver K C=true) (ht:PySem.W.takerIn K C name=some none) (hh:PySem.W.hasDictIn K C=true)
  (hw:PySem.Within mA ns) (hsz:ns.length<=sizeLine)
  (h:∀h',mX h' x dx C (λy=>if y=name then some v else mA y)->Heap.SameBut dx s.heap h'->Q () {s with heap:=h',toks:=s.toks+2}):
  wpAny (model prog w) A (setAttr (.ref x) name v) Q E s:=by
 obtain⟨od,J,hl⟩:=I.look;refine PySem.W.set_plain X J hs (PySem.W.osa_open (s:={s with toks:=s.toks+1}) (r:=none) X J hp ht λb=>?_);obtain⟨cd,hc,hd'⟩:=PySem.W.any_some hh;have hx:s.heap.get? x=some ⟨.ref C,some dx,.plain,#[]⟩:=I.obj;refine za (zb (za (za (wpAny_loadPart hx (za (PySem.W.Looks.here (s:={s with toks:=s.toks+1}) (PySem.W.looks_clsIn X hc) ?_))))));rw[hd'];refine zb (a:=some dx) (za (zb (za ?_)))
 refine wpAny_nsSet1 (s:={s with toks:=s.toks+1}) I.ns λh' hn2 hs2=>?_
 obtain⟨oD,esD,epD,hoD,hdD,hcD⟩:=hn2.count (PySem.Within.cons name v hw);refine za (wpAny_lookBehind hoD (by rw[hdD];exact pastItsLine_dict (zH hcD (by rw[zx];omega))) ?_);exact zb (h _ ⟨(hs2.2 _ (Ne.symm I.ne)).trans I.obj,hn2,I.ne⟩ hs2)
theorem Rk{R:Result->Shared->Prop}{vs:List Value}{kw:List (Str×Value)}(X:K.In s.heap)(hm:PySem.W.makesIn K C=true)
  (hi:PySem.W.findIn K (.ref C) "__init__" = some (some (.ref f))) (hf:PySem.W.typeIn K (.ref f)=some (.type "function"))
  (h:codeAny (model prog w) (A.under (.builtin "type.__call__" ⟨.ref C::vs,kw⟩)) (.call (.ref f) ⟨.ref (s.heap.objs.size+1)::vs,kw⟩) (PySem.W.InitBack (s.heap.objs.size+1) R)
   {s with heap:=(s.heap.push PySem.W.emptyDict).push (PySem.W.instObj C s.heap.objs.size)}):
  codeAny (model prog w) A (.call (.ref C) ⟨vs,kw⟩) R s:=by
 obtain⟨hh,g,d,t,os⟩:=s;exact PySem.W.make_core (PySem.W.makes_of X hm) (PySem.W.looks_findIn X hi) (λself=>PySem.W.bind_fn X self hf) (.inl rfl) h
end
def eQ(f:Str)(v:V):List (Str×V)->List (Str×V)
 | []=>[(f,v)]
 | (g,x)::r=>if g=f then(g,v)::r else(g,x)::eQ f v r
theorem Fz(f g:Str)(v:V):∀fs:List (Str×V),(eQ f v fs).lookup g=if g=f then some v else fs.lookup g
 | []=>by
  show List.lookup g [(f,v)]=_
  by_cases h:g=f
  ·have hb:(g == f)=true:=beq_iff_eq.mpr h;simp only[List.lookup,hb,if_pos h]
  ·have hb:(g == f)=false:=beq_eq_false_iff_ne.mpr h;simp only[List.lookup,hb,if_neg h]
 | (k,x)::r=>by
  have ih:=Fz f g v r;rw[show eQ f v ((k,x)::r)=(if k=f then(k,v)::r else(k,x)::eQ f v r) from rfl]
  by_cases hk:k=f
  ·rw[if_pos hk]
   by_cases h:g=k
   ·have hb:(g == k)=true:=beq_iff_eq.mpr h;simp only[List.lookup,hb,if_pos (h.trans hk)]
   ·have hb:(g == k)=false:=beq_eq_false_iff_ne.mpr h;simp only[List.lookup,hb,if_neg (λe:g=f=>h (e.trans hk.symm))]
  ·rw[if_neg hk]
   by_cases h:g=k
   ·have hb:(g == k)=true:=beq_iff_eq.mpr h;simp only[List.lookup,hb,if_neg (λe:g=f=>hk (h.symm.trans e))]
   ·have hb:(g == k)=false:=beq_eq_false_iff_ne.mpr h;simp only[List.lookup,hb];exact ih
theorem wR(f:Str)(v:V):∀fs:List (Str×V),f∈(eQ f v fs).map (·.1)/\∀g,g∈fs.map (·.1)->g∈(eQ f v fs).map (·.1)
 | []=>⟨by simp[eQ],λg h=>by simp at h⟩
 | (k,x)::r=>by
  obtain⟨i1,i2⟩:=wR f v r;rw[show eQ f v ((k,x)::r)=(if k=f then(k,v)::r else(k,x)::eQ f v r) from rfl]
  by_cases hk:k=f
  ·rw[if_pos hk];subst hk;exact⟨by simp,λg h=>by simpa using h⟩
  ·rw[if_neg hk];refine⟨?_,λg h=>?_⟩
   ·rw[zd];exact zy _ i1
   ·rw[zd] at h ⊢
    rcases zn.mp h with e | e
    ·exact zn.mpr (.inl e)
    ·exact zy _ (i2 g e)
theorem FJ(f:Str)(v:V):∀fs:List (Str×V),(eQ f v fs).length<=fs.length+1
 | []=>by simp[eQ]
 | (k,x)::r=>by
  have ih:=FJ f v r;rw[show eQ f v ((k,x)::r)=(if k=f then(k,v)::r else(k,x)::eQ f v r) from rfl]
  by_cases hk:k=f
  ·rw[if_pos hk,zx,zx];omega
  ·rw[if_neg hk,zx,zx];omega
theorem fj.some_of{v:V}{o:Option Value}(r:fj (some v) o):∃u,o=some u/\RelV v u:=by
 cases o with
 |none=>exact(show False from r).elim
 |some u=>exact⟨u,rfl,r⟩
theorem fj.none_of{o:Option Value}(r:fj none o):o=none:=by
 cases o with
 |none=>rfl
 |some u=>exact(show False from r).elim
theorem Rm{v:V}{u:Value}(r:RelV v u):PySem.W.handedIn u=true:=by
 cases v with
 |non=>cases(show u=Value.none from r);rfl
 |bl b=>cases(show u=Value.bool b from r);rfl
 |int i=>obtain⟨t,e⟩:=(show ∃t,u=Value.int i t from r);cases e;rfl
 |str x=>obtain⟨t,e⟩:=(show ∃t,u=Value.str x t from r);cases e;rfl
 |byt b=>obtain⟨t,e⟩:=(show ∃t,u=Value.bytes b t from r);cases e;rfl
 |flt b=>obtain⟨t,e⟩:=(show ∃t,u=Value.float b t from r);cases e;rfl
 |ref a=>cases(show u=Value.ref a from r);rfl
 |ty n=>cases(show u=Value.type n from r);rfl
section
variable {P:Program}{w:World}{H H':Hp}{h h':Heap}{a C dx:Addr}{fs fs':List (Str×V)}
theorem tY(hok:HOk P w H h)(e:H a=some (.ins C dx fs)):∃mA,mX h a dx C mA/\(∀f,fj (fs.lookup f) (mA f))/\PySem.Within mA (fs.map (·.1))/\fs.length<=1000/\H dx=some (.own a):=by
 obtain⟨d,z,ne,ob,mA,n,r,q⟩:=(show cN P w H h a (.ins C dx fs) from hok a _ e);exact⟨mA,⟨ob,n,ne⟩,r,q,z,d⟩
end
structure Cls(K:PySem.W.Frag)(C:Addr):Prop where
 pg:PySem.W.plainGet K C Str.empty=true
 hd:PySem.W.hasDictIn K C=true
 po:PySem.W.plainOver K C=true
 sa:PySem.W.findIn K (.ref C) "__setattr__" = some (some (.builtin "object.__setattr__"))
theorem Cls.get{K:PySem.W.Frag}{C:Addr}(c:Cls K C)(f:Str):PySem.W.plainGet K C f=true:=c.pg
def mY(K:PySem.W.Frag)(C:Addr)(f:Str):Prop:=PySem.W.findIn K (.ref C) f=some none
theorem mY.taker{K:PySem.W.Frag}{C:Addr}{f:Str}(n:mY K C f):PySem.W.takerIn K C f=some none:=by
 unfold PySem.W.takerIn;rw[show PySem.W.findIn K (.ref C) f=some none from n];rfl
structure Con(K:PySem.W.Frag)(C:Addr)(f:Str)(v:V)(u:Value):Prop where
 at_:PySem.W.findIn K (.ref C) f=some (some u)
 rel:RelV v u
 get:PySem.W.specialIn K u "__get__" = some none
 cp:PySem.W.copiedNames.contains f=false
structure qN(K:PySem.W.Frag)(C:Addr)(m:Str)(f:Addr):Prop where
 at_:PySem.W.findIn K (.ref C) m=some (some (.ref f))
 fn:PySem.W.isFn K (.ref f)=true
 kp:PySem.W.keepIn K (.ref f)=true
section
variable {X:Cx}{pins:List (Addr×Obj)}{σ:St}{H:Hp}{s:Shared}{a C dx:Addr}{fs:List (Str×V)}{f:Str}{v:V}{A:Around}{E:Value->Shared->Prop}
theorem Rn{b:Bool}{Q:Value->Shared->Prop}(I:Inv X pins σ H s)(e:H a=some (.ins C dx fs))(c:Cls X.K C)(n:mY X.K C f)(l:fs.lookup f=some v)
  (h:∀u s',Inv X pins σ H s'->RelV v u->Q u s'):wpAny (model X.prog X.w) A (getAttr (.ref a) f b) Q E s:=by
 obtain⟨mA,O,r,_,_,_⟩:=tY I.hok e;obtain⟨u,hu,ru⟩:=fj.some_of (v:=v) (o:=mA f) (by rw[<-l];exact r f);exact Rh I.kIn O (c.get f) c.hd n hu (Rm ru) (h u _ (I.tok _) ru)
theorem FN{m:Str}{g:Addr}{pl:Sem Bool}{Q:Value×List Value->Shared->Prop}(I:Inv X pins σ H s)(e:H a=some (.ins C dx fs))(c:Cls X.K C)(k:qN X.K C m g)(l:fs.lookup m=none)
  (h:Q (.ref g,[.ref a]) s):wpAny (model X.prog X.w) A (getMethod (.ref a) m pl) Q E s:=by
 obtain⟨mA,O,r,_,_,_⟩:=tY I.hok e;have hn:mA m=none:=fj.none_of (by rw[<-l];exact r m);exact Ri I.kIn O (c.get m) k.at_ k.fn hn h
theorem Ro{y:V}{u:Value}{Q:Unit->Shared->Prop}(I:Inv X pins σ H s)(e:H a=some (.ins C dx fs))(c:Cls X.K C)(n:mY X.K C f)(hl:fs.length<1000)(ry:RelV y u)
  (h:∀s',Inv X pins σ (upd H a (.ins C dx (eQ f y fs))) s'->Q () s'):wpAny (model X.prog X.w) A (setAttr (.ref a) f u) Q E s:=by
 obtain⟨mA,O,r,wi,_,ho⟩:=tY I.hok e
 have hz:(fs.map (·.1)).length<=sizeLine:=by rw[ze,sizeLine_eq];omega
 refine Rj I.kIn O c.sa c.po n.taker c.hd wi hz λh' O' sb=>h _ ?_
 have hd:∃o,h'.get? dx=some o:=let ⟨o,_,_,e',_⟩:=O'.ns;⟨o,e'⟩;refine I.write (x:=a) (e:=dx) (by rw[e];exact True.intro) (.inr ho) (λb q hb z=>(sb.2 b hb).trans z) hd ?_;refine⟨by rw[aP O.ne];exact ho,?_,O.ne,O'.obj,_,O'.ns,λg=>?_,λg hg=>?_⟩
 ·have:=FJ f y fs;omega
 ·show fj ((eQ f y fs).lookup g) (if g=f then some u else mA g);rw[Fz]
  by_cases q:g=f
  ·rw[if_pos q,if_pos q];exact ry
  ·rw[if_neg q,if_neg q];exact r g
 ·by_cases q:g=f
  ·rw[q];exact(wR f y fs).1
  ·refine(wR f y fs).2 g (wi g λz=>hg ?_);show(if g=f then some u else mA g)=none;rw[if_neg q];exact z
theorem Inv.made(I:Inv X pins σ H s):Inv X pins σ (upd (upd H s.heap.objs.size (.own (s.heap.objs.size+1))) (s.heap.objs.size+1) (.ins C s.heap.objs.size []))
  {s with heap:=(s.heap.push PySem.W.emptyDict).push (PySem.W.instObj C s.heap.objs.size)}:=by
 have e1:(s.heap.push PySem.W.emptyDict).get? s.heap.objs.size=some PySem.W.emptyDict:=zz s.heap rfl
 have e2:((s.heap.push PySem.W.emptyDict).push (PySem.W.instObj C s.heap.objs.size)).get? (s.heap.objs.size+1)=some (PySem.W.instObj C s.heap.objs.size):=by
  have:=zz (s.heap.push PySem.W.emptyDict) (o:=PySem.W.instObj C s.heap.objs.size) rfl
  rwa [Heap.size_push] at this
 have e3:(s.heap.push PySem.W.emptyDict).Ns s.heap.objs.size (λ_=>none):=⟨PySem.W.emptyDict,#[],_,e1,rfl,(λe he=>absurd he (by simp)),λ_=>rfl⟩;have I1:=I.laid (a:=s.heap.objs.size) (o:=.own (s.heap.objs.size+1)) (h':=s.heap.push PySem.W.emptyDict) (t':=s.toks) (λb u q=>zk _ q) (zc _) ⟨_,e1⟩;refine I1.laid (a:=s.heap.objs.size+1) (o:=.ins C s.heap.objs.size []) (t':=s.toks) (λb u q=>zk _ q) (Nat.le_of_eq (Heap.size_push _ _)) ?_;have ne:s.heap.objs.size≠s.heap.objs.size+1:=zu (zZ _);refine⟨by rw[aP ne,cA],Nat.zero_le _,ne,e2,λ_=>none,(Heap.Ns1.of_empty e3).at λo q=>zk _ q,λ_=>True.intro,λy hy=>absurd rfl hy⟩
theorem Rq{prog:Program}{w:World}{env:Env}{e:Expr}{f:Str}{pos:Pos}{s:Shared}{Q:Value->Shared->Prop}(hb:attributeBase e f env (eval e env)=eval e env)
  (h:wpAny (model prog w) A (eval e env) (λo s₁=>wpAny (model prog w) A (getAttr o f true) Q E s₁) E s):wpAny (model prog w) A (eval (.Attribute e f pos) env) Q E s :=
 Attribute_any_ h (by rw[arm_eval_Attribute,hb])
end
def Rr(K:PySem.W.Frag)(ta:TE)(f:Str):TE:=λσ H Q=>ta σ H λx H1=>∃a C dx fs v,x=.ref a/\H1 a=some (.ins C dx fs)/\Cls K C/\mY K C f/\fs.lookup f=some v/\Q v H1
def Rt(K:PySem.W.Frag)(ta tv:TE)(f:Str):TS:=λD σ H=>tv σ H λy H1=>ta σ H1 λx H2=>∃a C dx fs,x=.ref a/\H2 a=some (.ins C dx fs)/\Cls K C/\mY K C f/\fs.length<1000 /\
 D.nx σ (upd H2 a (.ins C dx (eQ f y fs)))
section
variable {X:Cx}{o e value:Expr}{f:Str}{pos pos' tpos:Pos}{ta tv:TE}
theorem Ru(he:PE X e ta)(hb:attributeBase e f X.env (eval e X.env)=eval e X.env):PE X (.Attribute e f pos) (Rr X.K ta f):=by
 intro pins s σ H Q I h;refine Rq hb (thn (he pins s σ H _ I h) λu s1 ⟨x,H1,I1,rx,a,C,dx,fs,v,ex,ea,c,n,l,q⟩=>?_);subst ex;obtain rfl:u=Value.ref a:=rx
 exact Rn I1 ea c n l λu' s2 I2 ru=>⟨v,H1,I2,ru,q⟩
theorem Rv(ha:PE X o ta)(hv:PE X value tv)(hs:swapsWith value (some (.Attribute o f pos')) pos.line X.env=pure false):PS X (.Assign [.Attribute o f pos'] value pos) (Rt X.K ta tv f):=by
 intro pins s σ H D I h;refine plainObj_wpAny_Assign_Attribute (thn (hv pins s σ H _ I h) λu s1 ⟨y,H1,I1,ry,q⟩=>thn (ha pins s1 σ H1 _ I1 q) λov s2 ⟨x,H2,I2,rx,a,C,dx,fs,ex,ea,c,n,l,q2⟩=>?_) hs;subst ex;obtain rfl:ov=Value.ref a:=rx
 exact Ro I2 ea c n l ry λs3 I3=>⟨σ,_,I3,q2⟩
end
section
variable {X:Cx}{pins:List (Addr×Obj)}{σ:St}{H:Hp}{s:Shared}{A:Around}{E:Value->Shared->Prop}{Q:Value->Shared->Prop}{c:Value}{b:Bool}
inductive iy (K:PySem.W.Frag) (H:Hp):V->Value->Prop where
 | non:iy K H .non (.type "NoneType")
 | bl (x:Bool):iy K H (.bl x) (.type "bool")
 | int (i:Int):iy K H (.int i) (.type "int")
 | str (x:Str):iy K H (.str x) (.type "str")
 | flt (x:UInt64):iy K H (.flt x) (.type "float")
 | lst {a:Addr}{xs:List V} (e:H a=some (.lst xs)):iy K H (.ref a) (.type "list")
 | frz {a:Addr}{o:Obj}{xs:List V} (e:H a=some (.frz o (.lst xs))):iy K H (.ref a) (.type "list")
 | tup {a:Addr}{xs:List V} (e:H a=some (.tup xs)):iy K H (.ref a) (.type "tuple")
 | dK {a:Addr}{kvs:List (Key×V)} (e:H a=some (.dK kvs)):iy K H (.ref a) (.type "dict")
 | dT {a:Addr}{kvs:List (List Key×V)} (e:H a=some (.dT kvs)):iy K H (.ref a) (.type "dict")
 | ins {a C dx:Addr}{fs:List (Str×V)} (e:H a=some (.ins C dx fs)) (cl:Cls K C) (ha:PySem.W.findIn K (.ref C) "__class__" = some (some (.builtin "object.__class__")))
   (hn:PySem.W.specialIn K (.builtin "object.__class__") "__get__" = some (some (.builtin "getset_descriptor.__get__"))) (htk:PySem.W.takesIn K (.builtin "object.__class__")=some true)
   (hm:PySem.W.mroIn K C (.type "object")=some true):iy K H (.ref a) (.ref C)
theorem qO{x:V}{u t:Value}(I:Inv X pins σ H s)(rx:RelV x u)(ty:iy X.K H x t)(e:PySem.W.kitOne X.K t c=some b)(h:∀tk,Q (.bool b) {s with toks:=tk}):
  wpAny (model X.prog X.w) A (call (.builtin "isinstance") [u,c]) Q E s:=by
 cases ty with
 |non=>cases(show u=Value.none from rx);exact PySem.W.kia_one PySem.W.kitx_none I.kIn True.intro e (λz=>nomatch z) h
 |bl y=>cases(show u=Value.bool y from rx);exact PySem.W.kia_one PySem.W.kitx_bool I.kIn True.intro e (λz=>nomatch z) h
 |int i=>obtain⟨t,q⟩:=(show ∃t,u=Value.int i t from rx);cases q;exact PySem.W.kia_one PySem.W.kitx_int I.kIn True.intro e (λz=>nomatch z) h
 |str y=>obtain⟨t,q⟩:=(show ∃t,u=Value.str y t from rx);cases q;exact PySem.W.kia_one PySem.W.kitx_str I.kIn True.intro e (λz=>nomatch z) h
 |flt y=>obtain⟨t,q⟩:=(show ∃t,u=Value.float y t from rx);cases q;exact PySem.W.kia_one PySem.W.kitx_float I.kIn True.intro e (λz=>nomatch z) h
 | @lst a xs ea =>
  cases(show u=Value.ref a from rx);obtain⟨_,_,n,_,h1⟩:=(show cN X.prog X.w H s.heap a (.lst xs) from I.hok a _ ea);exact PySem.W.kia_one PySem.W.kitx_list I.kIn ⟨_,h1,rfl⟩ e (λz=>nomatch z) h
 | @frz a ob xs ea =>
  cases(show u=Value.ref a from rx);obtain⟨_,_,_,n,_,h1⟩:=(show cN X.prog X.w H s.heap a (.frz ob (.lst xs)) from I.hok a _ ea);exact PySem.W.kia_one PySem.W.kitx_list I.kIn ⟨_,h1,rfl⟩ e (λz=>nomatch z) h
 | @tup a xs ea =>
  cases(show u=Value.ref a from rx);obtain⟨_,_,_,p⟩:=(show cN X.prog X.w H s.heap a (.tup xs) from I.hok a _ ea);obtain⟨o,h1,h2,_⟩:=p;exact PySem.W.kia_one PySem.W.kitx_tuple I.kIn ⟨o,h1,h2⟩ e (λz=>nomatch z) h
 | @dK a kvs ea =>
  cases(show u=Value.ref a from rx);obtain⟨_,_,vs,_,p⟩:=(show cN X.prog X.w H s.heap a (.dK kvs) from I.hok a _ ea);obtain⟨o,es,ep,h1,h2,_⟩:=p;exact PySem.W.kia_one PySem.W.kitx_dict I.kIn ⟨o,h1,h2.1⟩ e (λz=>nomatch z) h
 | @dT a kvs ea =>
  cases(show u=Value.ref a from rx);obtain⟨_,_,xs,_,o,es,ep,h1,h2,_⟩:=(show cN X.prog X.w H s.heap a (.dT kvs) from I.hok a _ ea);exact PySem.W.kia_one PySem.W.kitx_dict I.kIn ⟨o,h1,h2.1⟩ e (λz=>nomatch z) h
 | @ins a C dx fs ea cl ha hn htk hm =>
  cases(show u=Value.ref a from rx);obtain⟨mA,O,_⟩:=tY I.hok ea;obtain⟨od,J,_⟩:=O.look;exact PySem.W.kia_one (PySem.W.kitx_own (cl.get _) cl.hd ha hn htk hm) I.kIn J e (λz=>nomatch z) h
end
structure bD(k:Nat)(A:Around):Prop where
 hd:A.handled=none
 dp:A.depth+3 * k+5<recursionLimit
 un:A.units+16 * k+200<cLine
theorem bD.mono{j k:Nat}{A:Around}(r:bD k A)(h:j<=k):bD j A:=⟨r.hd,by have:=r.dp;omega,by have:=r.un;omega⟩
theorem bD.deeper{k:Nat}{A:Around}(r:bD (k+1) A)(env:Env):bD k (A.deeper env):=
 ⟨r.hd,by have:=r.dp;show A.depth+1+3 * k+5<_;omega,by have:=r.un;show A.units+3+16 * k+200<_;omega⟩
theorem bD.in1{k:Nat}{A:Around}(r:bD (k+1) A):bD k A.in1 :=
 ⟨r.hd,by have:=r.dp;show A.depth+3 * k+5<_;omega,by have:=r.un;show A.units+1+16 * k+200<_;omega⟩
theorem Rw{A:Around}{C:Addr}{us:List Value}{kw:List (Str×Value)}:(A.under (.builtin "type.__call__" ⟨.ref C::us,kw⟩)).depth=A.depth+1:=by
 first | rfl | simp[Around.under,Code.weight,Code.isCreation,Code.isGuard,Code.isCaller,Code.frames,Code.isFrame,guardIds]
theorem Rx{A:Around}{C:Addr}{us:List Value}{kw:List (Str×Value)}:(A.under (.builtin "type.__call__" ⟨.ref C::us,kw⟩)).units=A.units+1:=by
 first | rfl | simp[Around.under,Code.cUnits,Code.frames,Code.isFrame]
theorem bD.make{k:Nat}{A:Around}(r:bD (k+1) A)(C:Addr)(us:List Value)(kw:List (Str×Value)):bD k (A.under (.builtin "type.__call__" ⟨.ref C::us,kw⟩)):=
 ⟨r.hd,by have:=r.dp;rw[Rw];omega,by have:=r.un;rw[Rx];omega⟩
theorem bD.depth{k:Nat}{A:Around}(r:bD k A):A.depth<recursionLimit:=by have:=r.dp;omega
theorem bD.units{k:Nat}{A:Around}(r:bD k A):A.units+64<cLine:=by have:=r.un;omega
def FP:TA:=λ_ H Q=>Q [] H
def Ry(ta:TE)(tr:TA):TA:=λσ H Q=>ta σ H λx H1=>tr σ H1 λxs H2=>Q (x::xs) H2
section
variable {X:Cx}{e:Expr}{es:List Expr}{te:TE}{t:TA}{pos:Pos}
theorem mZ:PA X [] FP:=λ_ _ _ _ H Q I h=>Calls.spliced_nil ⟨[],H,I,.nil,h⟩
theorem j7(ha:PE X e te)(hr:PA X es t)(hs:starEach (e::es) X.env=(false,eval e X.env)::starEach es X.env:=by rfl):PA X (e::es) (Ry te t):=by
 intro pos pins s σ H Q I h;rw[hs];show wpAny _ _ (spliced ((false,eval e X.env)::backTo pos (starEach es X.env))) _ _ s;refine Calls.spliced_cons (thn (ha pins s σ H _ I h) λu s1 ⟨x,H1,I1,r1,q1⟩=>?_)
 exact thn (hr pos pins s1 σ H1 _ I1 q1) λus s2 ⟨xs,H2,I2,r2,q2⟩=>⟨x::xs,H2,I2,.cons r1 r2,q2⟩
def Rz(t:TA):TE:=λσ H Q=>t σ H λxs H1=>xs.length<=sizeLine/\∀p,H1 p=none->Q (.ref p) (upd H1 p (.tup xs))
def RB(t:TA):TE:=λσ H Q=>t σ H λxs H1=>xs.length<=sizeLine/\∀p,H1 p=none->Q (.ref p) (upd H1 p (.lst xs))
theorem RC{x1}(h:PA X es t):PE X (.Tuple es x1 pos) (Rz t):=by
 intro pins s σ H Q I hq;refine wpAny_Tuple_spliced (thn (h pos pins s σ H _ I hq) λus s1 ⟨xs,H1,I1,r,z,q⟩=>⟨by rw[<-r.length];exact z,?_⟩);have hf:H1 s1.heap.objs.size=none:=I1.hok.fresh (zc _);refine⟨.ref s1.heap.objs.size,upd H1 s1.heap.objs.size (.tup xs),I1.laid (t':=s1.toks) (λb u e=>zk _ e) (zc _) ?_,rfl,q _ hf⟩;exact⟨z,us,r,⟨_,zz _ rfl,rfl,_,rfl⟩⟩
theorem RD(h:PA X es t):PE X (.List es pos) (RB t):=by
 intro pins s σ H Q I hq;refine wpAny_List_spliced (thn (h pos pins s σ H _ I hq) λus s1 ⟨xs,H1,I1,r,z,q⟩=>⟨by rw[<-r.length];exact z,?_⟩);have hf:H1 s1.heap.objs.size=none:=I1.hok.fresh (zc _);refine⟨.ref s1.heap.objs.size,upd H1 s1.heap.objs.size (.lst xs),I1.laid (t':=s1.toks) (λb u e=>zk _ e) (zc _) ?_,rfl,q _ hf⟩;exact⟨z,us,0,r,zz _ rfl⟩
end
abbrev Sp:=List V->Hp->VK->XK->Prop
abbrev CXT:=List Env->Hp->Shared->XK->Value->Shared->Prop
structure iR(P:Program)(w:World)(K:PySem.W.Frag)(mg:Str->Option Value)(base:Heap)(A:Around)(outer:List Env)(s:Shared)(H:Hp):Prop where
 frames:A.frames=some outer
 mod:Mod K mg base
 bs:∀b o,base.get? b=some o->s.heap.get? b=some o/\H b=none
 bsz:base.objs.size<=s.heap.objs.size
 funs:s.heap.FunFrames base outer
 frf:∀b∈frs outer,H b=none
 hok:HOk P w H s.heap
 bare:AllBare s.gens
def CE(outer:List Env)(P:Program)(w:World)(H:Hp)(s:Shared)(Q:VK)(u:Value)(s':Shared):Prop :=
 ∃v H',s'.os=s.os/\AllBare s'.gens/\Un (frs outer) [] H H' s.heap s'.heap/\HOk P w H' s'.heap/\RelV v u/\Q v H'
def CR(CX:CXT)(outer:List Env)(P:Program)(w:World)(H:Hp)(s:Shared)(Q:VK)(E:XK)(r:Result)(s':Shared):Prop :=
 match r with
 | .ok (.ret u)=>CE outer P w H s Q u s'
 | .ok _=>False
 | .error e=>CX outer H s E e s'
structure dH(P:Program)(w:World)(K:PySem.W.Frag)(mg:Str->Option Value)(base:Heap)(CX:CXT)(k:Nat)(f:Addr)(fd:FuncData)(ps:List Str)(sp:Sp):Prop where
 len:∀vs H Q E,sp vs H Q E->vs.length=ps.length
 run:∀(A:Around) (outer:List Env) (s:Shared) (H:Hp) (args:Args) (us:List Value) (vs:List V) (Q:VK) (E:XK),bD k A->iR P w K mg base A outer s H->BindsTo s fd args (ps.zip us)->aR vs us->sp vs H Q E ->
  codeAny (model P w) A (.call (.ref f) args) (CR CX outer P w H s Q E) s
theorem dH.mono{P:Program}{w:World}{K:PySem.W.Frag}{mg:Str->Option Value}{base:Heap}{CX:CXT}{j k:Nat}{f:Addr}{fd:FuncData}{ps:List Str}{sp:Sp}(F:dH P w K mg base CX j f fd ps sp)(h:j<=k):
  dH P w K mg base CX k f fd ps sp:=⟨F.len,λA outer s H args us vs Q E hr=>F.run A outer s H args us vs Q E (hr.mono h)⟩
theorem dH.imp{P:Program}{w:World}{K:PySem.W.Frag}{mg:Str->Option Value}{base:Heap}{CX:CXT}{k:Nat}{f:Addr}{fd:FuncData}{ps:List Str}{sp sp':Sp}(F:dH P w K mg base CX k f fd ps sp)
  (h:∀vs H Q E,sp' vs H Q E->sp vs H Q E):dH P w K mg base CX k f fd ps sp' :=
 ⟨λvs H Q E q=>F.len vs H Q E (h _ _ _ _ q),λA outer s H args us vs Q E hr he hb hv hs=>F.run A outer s H args us vs Q E hr he hb hv (h _ _ _ _ hs)⟩
theorem iR.make{P:Program}{w:World}{K:PySem.W.Frag}{mg:Str->Option Value}{base:Heap}{A:Around}{outer:List Env}{s:Shared}{H:Hp}(e:iR P w K mg base A outer s H)(C:Addr)(us:List Value)(kw:List (Str×Value)):
  iR P w K mg base (A.under (.builtin "type.__call__" ⟨.ref C::us,kw⟩)) outer s H:=⟨by first | exact e.frames | (simpa [Around.under,Code.envs,Code.isFrame,pushEnvs] using e.frames),e.mod,e.bs,e.bsz,e.funs,e.frf,e.hok,e.bare⟩
theorem iR.in1{P:Program}{w:World}{K:PySem.W.Frag}{mg:Str->Option Value}{base:Heap}{A:Around}{outer:List Env}{s:Shared}{H:Hp}(e:iR P w K mg base A outer s H):
  iR P w K mg base A.in1 outer s H:=⟨e.frames,e.mod,e.bs,e.bsz,e.funs,e.frf,e.hok,e.bare⟩
section
variable {X:Cx}{pins:List (Addr×Obj)}{σ:St}{H:Hp}{s s':Shared}
theorem Inv.env0(I:Inv X pins σ H s):iR X.prog X.w X.K X.mg X.base X.A X.stack s H :=
 ⟨I.ok.frames,I.ok.mod,I.bs,zH I.ok.bsz I.sz,I.stack,I.stkFree,I.hok,I.bare⟩
theorem Inv.after{Q:VK}{u:Value}(I:Inv X pins σ H s)(h:CE X.stack X.prog X.w H s Q u s'):EP X pins σ Q u s':=by
 obtain⟨v,H',os,bare,un,hok,r,q⟩:=h;obtain⟨hh,g,d,t,os'⟩:=s';obtain rfl:os'=s.os:=os;exact⟨v,H',I.call (h':=hh) (g':=g) (d':=d) (t':=t) (ch:=[]) un hok bare (λb z=>absurd z (by simp)),r,q⟩
end
def wU(sp:Sp)(dvs:List V)(E:XK)(t:TA):TE:=λσ H Q=>t σ H λvs H1=>sp (vs++dvs) H1 Q E
def wV(C:Addr)(m:Str)(sp:Sp)(dvs:List V)(E:XK)(ta:TE)(t:TA):TE:=λσ H Q=>ta σ H λx H1=>∃a dx fs,x=.ref a/\H1 a=some (.ins C dx fs)/\fs.lookup m=none /\
 t σ H1 λvs H2=>sp (x::(vs++dvs)) H2 Q E
def FQ(C:Addr)(sp:Sp)(dvs:List V)(E:XK)(t:TA):TE:=λσ H Q=>t σ H λvs H1=>∀x dx,H1 x=none->H1 dx=none->dx≠x ->
 sp (.ref x::(vs++dvs)) (upd (upd H1 dx (.own x)) x (.ins C dx [])) (λv H2=>v=.non/\Q (.ref x) H2) E
def Binds(K:PySem.W.Frag)(fd:FuncData)(ps:List Str)(ds:List Value):Prop :=
 ∀(s:Shared) (us:List Value),K.In s.heap->(us++ds).length=ps.length->BindsTo s fd ⟨us,[]⟩ (ps.zip (us++ds))
theorem Binds.all{K:PySem.W.Frag}{fd:FuncData}{ps:List Str}(h:∀us:List Value,us.length=ps.length->bindArgs fd ⟨us,[]⟩=pure (ps.zip us)):Binds K fd ps []:=λs us _ hl=>by
 rw[zX] at hl ⊢;exact .of_eq (h us hl)
def m6(CX:CXT)(X:Cx)(E:XK):Prop:=∀(pins:List (Addr×Obj)) (σ:St) (H:Hp) (s:Shared) (e:Value) (s':Shared),Inv X pins σ H s->CX X.stack H s E e s'->X.xe e s'
section
variable {X:Cx}{CX:CXT}{k:Nat}{f C:Addr}{fd:FuncData}{ps:List Str}{sp:Sp}{dvs:List V}{ds:List Value}{E:XK}{x m:Str}{p pos apos:Pos}{e o:Expr}{es:List Expr}{ta:TE}{t:TA}
theorem wW{pins:List (Addr×Obj)}{σ:St}{H:Hp}{s:Shared}{Q:VK}{us:List Value}{vs:List V}(F:dH X.prog X.w X.K X.mg X.base CX k f fd ps sp)(hr:bD k X.A)(hb:Binds X.K fd ps ds)(hd:aR dvs ds)(hx:m6 CX X E)
  (I:Inv X pins σ H s) (r:aR vs us) (h:sp (vs++dvs) H Q E):wpAny (model X.prog X.w) X.A (call (.ref f) us) (EP X pins σ Q) X.xe s:=by
 have r2:aR (vs++dvs) (us++ds):=r.append hd
 have hl:(us++ds).length=ps.length:=by rw[<-r2.length];exact F.len _ _ _ _ h
 refine wpAny_call (codeAny_mono (F.run X.A X.stack s H ⟨us,[]⟩ (us++ds) (vs++dvs) Q E hr I.env0 (hb s us I.kIn hl) r2 h) λr s' hq=>?_)
 cases r with
 |error e=>exact hx pins σ H s e s' I hq
 |ok fl =>
  cases fl with
  |ret u=>exact I.after hq
  |next=>exact False.elim hq
  |brk=>exact False.elim hq
  |cont=>exact False.elim hq
theorem RG(F:dH X.prog X.w X.K X.mg X.base CX k f fd ps sp)(hr:bD k X.A)(hg:Gl X x)(hm:X.mg x=some (.ref f))(hk:PySem.W.keepIn X.K (.ref f)=true)(hb:Binds X.K fd ps ds)(hd:aR dvs ds)(hx:m6 CX X E)
  (ha:PA X (e::es) t) (hdb:(x == ("__debug__":Str))=false:=by decide) (he:starEach (e::es) X.env=(false,eval e X.env)::starEach es X.env:=by rfl) (hpl:(backTo pos (starEach es X.env)).any (·.1)=false:=by rfl):
  PE X (.Call (.Name x p) (e::es) [] pos) (wU sp dvs E t):=by
 intro pins s σ H Q I h;refine wpAny_Call_Name_kw (wI I hg hm ?_ hdb);refine PySem.W.callWith_K (h₀:=X.base) I.ok.mod.kin hk (thn (ha pos pins s σ H _ I h) λus s1 ⟨vs,H1,I1,r,q⟩=>⟨I1.kIn,?_⟩) he hpl;exact wW F hr hb hd hx I1 r q
theorem RJ{pl:Sem Bool}(he:PE X o ta)(c:Cls X.K C)(hm:qN X.K C m f)(F:dH X.prog X.w X.K X.mg X.base CX k f fd ps sp)(hr:bD k X.A)(hb:Binds X.K fd ps ds)(hd:aR dvs ds)(hx:m6 CX X E)(ha:PA X (e::es) t)
  (hst:starEach (e::es) X.env=(false,eval e X.env)::starEach es X.env:=by rfl) (hpl:(backTo pos (starEach es X.env)).any (·.1)=false:=by rfl)
  (ht:eval (.Call (.Attribute o m apos) (e::es) [] pos) X.env=(do
   let ov <-eval o X.env
   standAt apos.atName
   let (f,first) <-holding [ov] (getMethod ov m pl)
   callWith pos f first (backTo pos (starEach (e::es) X.env)) (backToKw pos (keywordEach [] X.env))):=by rfl):
  PE X (.Call (.Attribute o m apos) (e::es) [] pos) (wV C m sp dvs E ta t):=by
 intro pins s σ H Q I h;refine PySem.W.methodCall_KW (pl:=pl) (thn (he pins s σ H _ I h) λu s1 ⟨x,H1,I1,rx,a,dx,fs,ex,ea,l,q⟩=>?_) ht;subst ex;obtain rfl:u=Value.ref a:=rx;refine FN I1 ea c hm l ?_;refine PySem.W.callWith_K (first:=[.ref a]) (h₀:=X.base) I.ok.mod.kin hm.kp (thn (ha pos pins s1 σ H1 _ I1 q) λus s2 ⟨vs,H2,I2,r,q2⟩=>⟨I2.kIn,?_⟩) hst hpl;exact wW (us:=.ref a::us) (vs:=.ref a::vs) F hr hb hd hx I2 (.cons rfl r) q2
theorem RK{pl:Sem Bool}(he:PE X o ta)(c:Cls X.K C)(hm:qN X.K C m f)(F:dH X.prog X.w X.K X.mg X.base CX k f fd ps sp)(hr:bD k X.A)(hb:Binds X.K fd ps ds)(hd:aR dvs ds)(hx:m6 CX X E)
  (ht:eval (.Call (.Attribute o m apos) [] [] pos) X.env=(do
   let ov <-eval o X.env
   standAt apos.atName
   let (f,first) <-holding [ov] (getMethod ov m pl)
   callWith pos f first (backTo pos (starEach [] X.env)) (backToKw pos (keywordEach [] X.env))):=by rfl):
  PE X (.Call (.Attribute o m apos) [] [] pos) (wV C m sp dvs E ta FP):=by
 intro pins s σ H Q I h;refine PySem.W.methodCall_KW (pl:=pl) (thn (he pins s σ H _ I h) λu s1 ⟨x,H1,I1,rx,a,dx,fs,ex,ea,l,q⟩=>?_) ht;subst ex;obtain rfl:u=Value.ref a:=rx;refine FN I1 ea c hm l ?_;exact PySem.W.callWith_K0 (first:=[.ref a]) I1.kIn hm.kp (wW (us:=[.ref a]) (vs:=[.ref a]) F hr hb hd hx I1 (.cons rfl .nil) q)
structure Mk(K:PySem.W.Frag)(C f:Addr):Prop where
 makes:PySem.W.makesIn K C=true
 init:PySem.W.findIn K (.ref C) "__init__" = some (some (.ref f))
 fn:PySem.W.isFn K (.ref f)=true
 kp:PySem.W.keepIn K (.ref C)=true
theorem RL{pins:List (Addr×Obj)}{σ:St}{H:Hp}{s:Shared}{Q:VK}{us:List Value}{vs:List V}(M:Mk X.K C f)(F:dH X.prog X.w X.K X.mg X.base CX k f fd ps sp)(hr:bD (k+1) X.A)(hb:Binds X.K fd ps ds)(hd:aR dvs ds)
  (hx:m6 CX X E) (I:Inv X pins σ H s) (r:aR vs us)
  (h:∀x dx,H x=none->H dx=none->dx≠x->sp (.ref x::(vs++dvs)) (upd (upd H dx (.own x)) x (.ins C dx [])) (λv H2=>v=.non/\Q (.ref x) H2) E):
  wpAny (model X.prog X.w) X.A (call (.ref C) us) (EP X pins σ Q) X.xe s:=by
 have hq:=h (s.heap.objs.size+1) s.heap.objs.size (I.hok.fresh (Nat.le_succ _)) (I.hok.fresh (zc _)) (zu (zZ _));have I2:=Inv.made (C:=C) I;have r2:aR (V.ref (s.heap.objs.size+1)::(vs++dvs)) (Value.ref (s.heap.objs.size+1)::(us++ds)):=.cons rfl (r.append hd)
 have hl:(Value.ref (s.heap.objs.size+1)::us++ds).length=ps.length:=by
  have e:=r2.length;rw[F.len _ _ _ _ hq] at e;exact e.symm
 refine wpAny_call (Rk (f:=f) I.kIn M.makes M.init (beq_iff_eq.mp M.fn) (codeAny_mono (F.run _ X.stack _ _ ⟨Value.ref (s.heap.objs.size+1)::us,[]⟩ (Value.ref (s.heap.objs.size+1)::(us++ds)) _ _ E (hr.make C us [])
  (I2.env0.make C us []) (hb _ (Value.ref (s.heap.objs.size+1)::us) I2.kIn hl) r2 hq) λr s' hq'=>?_))
 cases r with
 |error e=>exact hx pins σ _ _ e s' I2 hq'
 |ok fl =>
  cases fl with
  |ret u =>
   obtain⟨v,H',I3,rv,ev,q3⟩:=I2.after hq';subst ev;exact⟨rv,⟨V.ref (s.heap.objs.size+1),H',I3,rfl,q3⟩⟩
  |next=>exact False.elim hq'
  |brk=>exact False.elim hq'
  |cont=>exact False.elim hq'
theorem RM(M:Mk X.K C f)(F:dH X.prog X.w X.K X.mg X.base CX k f fd ps sp)(hr:bD (k+1) X.A)(hg:Gl X x)(hm:X.mg x=some (.ref C))(hb:Binds X.K fd ps ds)(hd:aR dvs ds)(hx:m6 CX X E)
  (ha:PA X (e::es) t) (hdb:(x == ("__debug__":Str))=false:=by decide) (he:starEach (e::es) X.env=(false,eval e X.env)::starEach es X.env:=by rfl) (hpl:(backTo pos (starEach es X.env)).any (·.1)=false:=by rfl):
  PE X (.Call (.Name x p) (e::es) [] pos) (FQ C sp dvs E t):=by
 intro pins s σ H Q I h;refine wpAny_Call_Name_kw (wI I hg hm ?_ hdb);refine PySem.W.callWith_K (h₀:=X.base) I.ok.mod.kin M.kp (thn (ha pos pins s σ H _ I h) λus s1 ⟨vs,H1,I1,r,q⟩=>⟨I1.kIn,?_⟩) he hpl;exact RL M F hr hb hd hx I1 r q
end
section
variable {X:Cx}{CX:CXT}{k:Nat}{f C:Addr}{fd:FuncData}{ps ks:List Str}{sp:Sp}{E:XK}{x m:Str}{p pos apos kpos:Pos}{e o:Expr}{es:List Expr}{kws:List Keyword}{te ta:TE}{t tk:TA}{nm:Option Str}
structure QzO(K:PySem.W.Frag)(fd:FuncData)(ps ks:List Str)(g:List Value->List Value->List Value)(gV:List V->List V->List V):Prop where
 to:∀(s:Shared) (us ws:List Value),K.In s.heap->(g us ws).length=ps.length->BindsTo s fd ⟨us,ks.zip ws⟩ (ps.zip (g us ws))
 rel:∀{vs:List V}{us:List Value}{zs:List V}{ws:List Value},aR vs us->aR zs ws->aR (gV vs zs) (g us ws)
variable {g:List Value->List Value->List Value}{gV:List V->List V->List V}
end
structure bK(N P:List Str)(sc:Scope):Prop where
 kind:sc.kind=.function
 co:sc.isCoroutine=false
 gen:sc.isGenerator=false
 nd:N.Nodup
 pre:N.take P.length=P
 par:∀x∈P,sc.names.lookup x=some .local\/sc.names.lookup x=some .cell
 nofree:∀y∈sc.names,y.2≠.free
theorem FT{kindOf:Str->Option NameKind}{x:Str}:∀{binds:List (Str×Value)}{m:Str->Option Value},(∀v,(x,v)∉binds)->bindL kindOf binds m x=m x
 | [],_,_=>rfl
 | (n,v)::r,m,h=>by
  unfold bindL;rw[FT λw hw=>h w (zy _ hw)]
  split
  ·have:x≠n:=by rintro rfl;exact h v zv
   simp[this]
  ·rfl
theorem FW{kindOf:Str->Option NameKind}{x:Str}:∀{binds:List (Str×Value)}{m:Str->Option Value},(∀v,(x,v)∉binds)->bindC kindOf binds m x=m x
 | [],_,_=>rfl
 | (n,v)::r,m,h=>by
  unfold bindC;rw[FW λw hw=>h w (zy _ hw)]
  split
  ·rfl
  ·have:x≠n:=by rintro rfl;exact h v zv
   simp[this]
theorem FZ{kindOf:Str->Option NameKind}{x:Str}{v:Value}:∀{P:List Str}{vs:List Value}{i:Nat}{m:Str->Option Value},P.Nodup->P[i]?=some x->vs[i]?=some v->kindOf x=some .local ->
  bindL kindOf (P.zip vs) m x=some v
 | [],_,_,_,_,h,_,_=>by simp at h
 | _::_,[],_,_,_,_,h,_=>by simp at h
 |p::P,w::vs,0,m,nd,h1,h2,hk=>by
  simp at h1 h2;subst h1;subst h2
  show bindL kindOf ((p,w)::P.zip vs) m p=_;unfold bindL;rw[FT λv hv=>(List.nodup_cons.mp nd).1 (List.of_mem_zip hv).1,if_pos hk];simp
 |p::P,w::vs,i+1,m,nd,h1,h2,hk=>by
  show bindL kindOf ((p,w)::P.zip vs) m x=_;unfold bindL;exact FZ (i:=i) (List.nodup_cons.mp nd).2 (by simpa using h1) (by simpa using h2) hk
theorem Ga{kindOf:Str->Option NameKind}{x:Str}{v:Value}:∀{P:List Str}{vs:List Value}{i:Nat}{m:Str->Option Value},P.Nodup->P[i]?=some x->vs[i]?=some v->kindOf x≠some .local ->
  bindC kindOf (P.zip vs) m x=some v
 | [],_,_,_,_,h,_,_=>by simp at h
 | _::_,[],_,_,_,_,h,_=>by simp at h
 |p::P,w::vs,0,m,nd,h1,h2,hk=>by
  simp at h1 h2;subst h1;subst h2
  show bindC kindOf ((p,w)::P.zip vs) m p=_;unfold bindC;rw[FW λv hv=>(List.nodup_cons.mp nd).1 (List.of_mem_zip hv).1,if_neg hk];simp
 |p::P,w::vs,i+1,m,nd,h1,h2,hk=>by
  show bindC kindOf ((p,w)::P.zip vs) m x=_;unfold bindC;exact Ga (i:=i) (List.nodup_cons.mp nd).2 (by simpa using h1) (by simpa using h2) hk
def start(N:List Str)(vs:List V):St:=vs.map some++List.replicate (N.length - vs.length) none
def iT(CX:CXT)(P:Program)(w:World)(K:PySem.W.Frag)(mg:Str->Option Value)(base:Heap)(N:List Str)(qual:Str)(scope:Scope)(f:Addr)(cd:Value)(A:Around)(outer:List Env)(s:Shared)(H:Hp)(E:XK):Cx where
 prog:=P
 w:=w
 K:=K
 mg:=mg
 base:=base
 A:=A.deeper (envOfC qual scope s.heap.objs.size f cd)
 N:=N
 s₀:=s
 H₀:=H
 env:=envOfC qual scope s.heap.objs.size f cd
 outer:=outer
 stack:=envOfC qual scope s.heap.objs.size f cd::outer
 ex:=[]
 calm:=true
 fn:=λ_=>true
 pn:=[]
 xe:=λe s'=>wpAny (model P w) (A.deeper (envOfC qual scope s.heap.objs.size f cd)) (leaving (envOfC qual scope s.heap.objs.size f cd) e) (λ_ s''=>CX outer H s E e s'') (λe' s''=>CX outer H s E e' s'') s'
theorem Gb{sc:Scope}{n:Nat}{x:Str}(h:sc.names.lookup x=some .cell):∃c,(cellsFrom n sc.names []).lookup x=some c:=by
 have q:=PySem.W.cellsFrom_some sc.names n [] (.inl h);exact Option.isSome_iff_exists.mp q
theorem RN{CX:CXT}{P:Program}{w:World}{K:PySem.W.Frag}{mg:Str->Option Value}{base:Heap}{N ps:List Str}{qual:Str}{scope:Scope}{f:Addr}{cd:Value}{A:Around}{outer:List Env}{s s1:Shared}{H:Hp}{E:XK}{us:List Value}{vs:List V}
  (S:bK N ps scope) (hd:A.handled=none) (e0:iR P w K mg base A outer s H) (hl:vs.length=ps.length) (r:aR vs us)
  (x:InCallC s s.heap.objs.size (bindL (envOfC qual scope s.heap.objs.size f cd).kindOf (ps.zip us) λ_=>none) (cellsFrom (s.heap.objs.size+1) scope.names []) (bindC (envOfC qual scope s.heap.objs.size f cd).kindOf (ps.zip us) λ_=>none) s1):
  Inv (iT CX P w K mg base N qual scope f cd A outer s H E) [] (start N vs) H s1:=by
 have hpl:ps.length<=N.length:=by have:=congrArg List.length S.pre;rw[List.length_take] at this;omega
 obtain⟨h1,tk,rfl,hk⟩:=x.done
 have noA:∀b:Addr,b∉(iT CX P w K mg base N qual scope f cd A outer s H E).ex:=λb z=>absurd (show b∈([]:List Addr) from z) (by simp)
 refine⟨⟨e0.mod,S.kind,rfl,rfl,zc _,λy z c h1 h2=>?_,λy hy=>?_,λy c _ h=>?_,λ_=>hd,Around.frames_deeper e0.frames,.inr ⟨rfl,rfl⟩,λb z=>absurd z (noA b),e0.bs,e0.bsz,λb _ _=>noA b,λb z=>absurd z (noA b),e0.funs,e0.frf⟩,
  rfl,e0.bare,Un.kept hk,⟨_,x.toInCall.ns,λi y v h1 h2 h3=>?_⟩,λy c h=>⟨_,x.cell y c h⟩,e0.hok.fresh (zc _),λy c h=>?_,λp hp=>absurd (show p∈([]:List (Addr×Obj)) from hp) (by simp),e0.hok.kept hk,?_⟩
 ·exact name_of_addr x.apart (PySem.mem_of_lookup h1) (PySem.mem_of_lookup h2)
 ·have hy:scope.names.lookup y=some .cell\/scope.names.lookup y=some .free:=hy
  rcases hy with hy | hy
  ·exact Gb hy
  ·exact absurd rfl (S.nofree _ (PySem.mem_of_lookup hy))
 ·exact Nat.le_of_lt (x.above y c (PySem.mem_of_lookup h))
 ·have hi:i<vs.length:=by
   unfold start at h2
   by_cases hi:i<vs.length
   ·exact hi
   ·rw[zO (by simpa using hi)] at h2;rw[List.getElem?_replicate] at h2
    split at h2<;>cases h2
  have ha:vs[i]?=some v:=by
   unfold start at h2;rw[zD (by simpa using hi),zA] at h2
   cases e:vs[i]? with
   |none=>rw[e] at h2;cases h2
   |some a=>rw[e] at h2;cases h2;rfl
  obtain⟨u,hu,rv⟩:=r.get ha
  have hp:ps[i]?=some y:=by
   rw[<-S.pre,List.getElem?_take_of_lt (by omega)];exact h1
  have ndP:ps.Nodup:=by rw[<-S.pre];exact S.nd.sublist (List.take_sublist _ _)
  refine⟨u,rv,?_⟩
  rcases S.par y (zI hp) with k | k
  ·exact .inl ⟨k,FZ ndP hp hu k⟩
  ·obtain⟨c,e⟩:=Gb (n:=s.heap.objs.size+1) k;refine .inr ⟨.inl k,c,e,?_⟩;have q:=x.cell y c e;rw[Ga ndP hp hu (by show scope.names.lookup y≠_;rw[k];decide)] at q;exact q
 ·exact e0.hok.fresh (Nat.le_of_lt (x.above y c (PySem.mem_of_lookup h)))
 ·unfold start;show _=N.length;rw[zF,ze,List.length_replicate];omega
theorem RP{CX:CXT}{P:Program}{w:World}{K:PySem.W.Frag}{mg:Str->Option Value}{base:Heap}{k:Nat}{f:Addr}{name qual:Str}{params:Arguments}{body:List Stmt}{scope:Scope}{dV kV doc pm cdv ct oc:Value}{an od:Option Addr}
  {osl:Array (Option Value)}{N ps:List Str}{sp:Sp} (lk:K.lookup f=some ⟨oc,od,.func (PySem.W.fnOf name qual params body scope dV kV doc pm an cdv ct),osl⟩) (hcd:PySem.W.codeIn K cdv qual=true) (S:bK N ps scope)
  (len:∀vs H Q E,sp vs H Q E->vs.length=ps.length)
  (hbody:∀(A:Around) (outer:List Env) (s:Shared) (H:Hp) (vs:List V) (Q:VK) (E:XK),bD k (A.deeper (envOfC qual scope s.heap.objs.size f cdv))->sp vs H Q E ->
   ∃t,PSs (iT CX P w K mg base N qual scope f cdv A outer s H E) body t/\t {nx:=λ_ H'=>Q .non H',rt:=Q} (start N vs) H):
  dH P w K mg base CX (k+1) f (PySem.W.fnOf name qual params body scope dV kV doc pm an cdv ct) ps sp:=by
 refine⟨len,λA outer s H args us vs Q E hr e0 hb r hsp=>?_⟩;have hl:=len _ _ _ _ hsp
 have KX:K.In s.heap:=e0.mod.kin.keeps λb o e=>(e0.bs b o e).1
 have lim:s.heap.NoLimit:=e0.mod.nolimit.keeps λb o e=>(e0.bs b o e).1
 have hkind:∀y∈ps.zip us,scope.names.lookup y.1=some .local\/(scope.names.lookup y.1=some .cell/\((cellsFrom (s.heap.objs.size+1) scope.names []).lookup y.1).isSome=true):=λ⟨n,v⟩ hy=>by
  rcases S.par n (List.of_mem_zip hy).1 with q | q
  ·exact .inl q
  ·exact .inr ⟨q,PySem.W.cellsFrom_some _ _ _ (.inl q)⟩
 refine codeAny_call_function hr.depth (KX _ _ lk) rfl S.co S.gen rfl (PySem.W.codeRec_of KX hcd) (hb _ _ _ _ ?_)
 refine wpAny_newFunctionEnv_cells S.kind hkind λenv he s1 x=>?_
 subst he;refine⟨lim.keeps x.toInCall.keep,codeAny_func ?_⟩;obtain⟨t,ht,hq⟩:=hbody A outer s H vs Q E (hr.deeper _) hsp;have I:Inv (iT CX P w K mg base N qual scope f cdv A outer s H E) [] (start N vs) H s1:=RN S hr.hd e0 hl r x
 refine zL (ht [] s1 (start N vs) H _ I hq) (λfl s' hs=>?_) λe s' hs=>hs
 have fin:∀{σ':St}{H':Hp}{v:V}{u:Value},Inv (iT CX P w K mg base N qual scope f cdv A outer s H E) [] σ' H' s'->RelV v u->Q v H'->CE outer P w H s Q u s' :=
  λ{σ' H' v u} J rv q=>⟨v,H',J.os,J.bare,J.base,J.hok,rv,q⟩
 cases fl with
 |ret u =>
  obtain⟨v,σ',H',J,rv,q⟩:=hs;exact fin J rv q
 |next =>
  obtain⟨σ',H',J,q⟩:=hs;exact fin (v:=V.non) (u:=Value.none) J rfl q
 |brk =>
  obtain⟨_,_,_,q⟩:=hs;exact False.elim q
 |cont =>
  obtain⟨_,_,_,q⟩:=hs;exact False.elim q
section
variable {X:Cx}{x:Str}{p pos:Pos}{e:Expr}{es:List Expr}{t:TA}{id T:String}{r:List V->Hp->VK->Prop}
def tCB(r:List V->Hp->VK->Prop)(t:TA):TE:=λσ H Q=>t σ H λvs H1=>r vs H1 Q
theorem tZ(hc:gQ X (.builtin id) r)(hg:Gl X x)(hm:X.mg x=none)(hv:bootBuiltins x=some (.builtin id))(ha:PA X (e::es) t)(hn:x≠"__name__":=by decide)(hdb:(x == ("__debug__":Str))=false:=by decide)
  (he:starEach (e::es) X.env=(false,eval e X.env)::starEach es X.env:=by rfl) (hpl:(backTo pos (starEach es X.env)).any (·.1)=false:=by rfl):PE X (.Call (.Name x p) (e::es) [] pos) (tCB r t):=by
 intro pins s σ H Q I h;refine wpAny_Call_Name_kw (jG I hg hm hv ?_ hn hdb);exact PyProof.Rows.callWith_builtin1 (thn (ha pos pins s σ H _ I h) λus s1 ⟨vs,H1,I1,r1,q1⟩=>hc pins s1 σ H1 vs us Q I1 r1 q1) he hpl
theorem RQ(hc:gQ X (.type T) r)(hg:Gl X x)(hm:X.mg x=none)(hv:bootBuiltins x=some (.type T))(ha:PA X (e::es) t)(hn:x≠"__name__":=by decide)(hdb:(x == ("__debug__":Str))=false:=by decide)
  (he:starEach (e::es) X.env=(false,eval e X.env)::starEach es X.env:=by rfl) (hpl:(backTo pos (starEach es X.env)).any (·.1)=false:=by rfl):PE X (.Call (.Name x p) (e::es) [] pos) (tCB r t):=by
 intro pins s σ H Q I h;refine wpAny_Call_Name_kw (jG I hg hm hv ?_ hn hdb);exact PyProof.Rows.callWith_type1 (thn (ha pos pins s σ H _ I h) λus s1 ⟨vs,H1,I1,r1,q1⟩=>hc pins s1 σ H1 vs us Q I1 r1 q1) he hpl
end
end L2
namespace HT
open PySem PyProof.Rows
section
open PySem.SeqAt
open PySem.AutoSeq1 (wpAny_loadPart')
open PySem.MeetsSeq PySem.MeetsSeq2 PySem.MeetsSeq3
end
section
variable {prog:Program}{w:World}{A:Around}{E:Value->Shared->Prop}{s:Shared}
theorem cat_tup{t b:Addr}{vs ws:List Value}{Q:Value->Shared->Prop}(ht:IsTup s.heap t vs.toArray)(hb:IsTup s.heap b ws.toArray)(hv:vs≠[])
  (h1:ws=[]->Q (.ref t) s) (h2:ws≠[]->Q (.ref s.heap.objs.size) {s with heap:=s.heap.push {cls:=.type "tuple",data:=.seq (vs++ws).toArray}})
  (hsz:vs.length+ws.length<=sizeLine):wpAny (model prog w) A (binaryOp .Add (.ref t) (.ref b)) Q E s:=by
 obtain⟨⟨cls,dd,data,sl⟩,ho,hc,n,hd⟩:=id ht;obtain⟨⟨cls2,dd2,data2,sl2⟩,ho2,hc2,n2,hd2⟩:=id hb;simp only at hc hd hc2 hd2;subst hc hd hc2 hd2
 have e:vs.toArray++ws.toArray=(vs++ws).toArray:=by simp
 by_cases hw:ws=[]
 ·exact concat_meets ⟨_,ho,rfl⟩ ⟨_,ho2,rfl⟩ noFill_tuple_add seq_tuple_add PySem.F.slot_tuple_add PySem.F.entry_tuple_add (PySem.F.args_tuple_add_2 _ _)
   (tuple_addW1 t b vs.toArray ws.toArray n n2 dd dd2 sl sl2 (by simpa using hv) (by simp[hw])) ⟨ho,ho2,h1 hw⟩
 ·refine concat_meets ⟨_,ho,rfl⟩ ⟨_,ho2,rfl⟩ noFill_tuple_add seq_tuple_add PySem.F.slot_tuple_add PySem.F.entry_tuple_add (PySem.F.args_tuple_add_2 _ _)
   (tuple_addW2 t b vs.toArray ws.toArray n n2 dd dd2 sl sl2 (by simpa using hv) (by simpa using hw) (by rw[zr,zr];exact hsz)) ⟨ho,ho2,?_⟩
  rw[e];exact h2 hw
def sIx(n d:Nat):Option Int->Nat
 |none=>d
 |some v=>if v<0 then(v+(n:Int)).toNat else min v.toNat n
theorem sIx_nat(n d k:Nat):sIx n d (some (k:Int))=min k n:=by
 show(if(k:Int)<0 then((k:Int)+(n:Int)).toNat else min (k:Int).toNat n)=min k n;rw[if_neg (by omega),Int.toNat_natCast]
theorem sIx_le(n d:Nat)(hd:d<=n)(o:Option Int):sIx n d o<=n:=by
 cases o with
 |none=>exact hd
 |some v =>
  show(if v<0 then(v+(n:Int)).toNat else min v.toNat n)<=n
  by_cases hv:v<0
  ·rw[if_pos hv];omega
  ·rw[if_neg hv];exact Nat.min_le_right _ _
theorem Gd(v:Int)(n d:Nat):(if v<0 then max (v+(n:Int)) 0 else min v (n:Int))=((sIx n d (some v):Nat):Int):=by
 show(if v<0 then max (v+(n:Int)) 0 else min v (n:Int))=(((if v<0 then(v+(n:Int)).toNat else min v.toNat n):Nat):Int)
 by_cases hv:v<0
 ·simp only[if_pos hv];omega
 ·simp only[if_neg hv];omega
theorem RT(lo hi:Option Int)(n:Nat):Builtin.Slice.sliceAdjust lo hi 1 (n:Int)=(((sIx n 0 lo:Nat):Int),((sIx n n hi:Nat):Int)):=by
 have h1:¬((1:Int)<0):=by omega
 unfold Builtin.Slice.sliceAdjust;simp only[h1,if_false];refine Prod.ext ?_ ?_
 ·cases lo with
  |none=>rfl
  |some v=>exact Gd v n 0
 ·cases hi with
  |none=>rfl
  |some v=>exact Gd v n n
theorem RV(i j:Nat):Builtin.Slice.slicePlaces (i:Int) (j:Int) 1=j - i:=by
 unfold Builtin.Slice.slicePlaces
 have h1:(1:Int)>0:=by omega
 simp only[h1,if_true,Int.ediv_one]
 split<;>omega
theorem Ge{v:Value}{o:Option Int}{Q:Option Int->Shared->Prop}(p:IsPart v o)(h:Q o s):wpAny (model prog w) A (Builtin.Slice.slicePartIndex v) Q E s:=by
 cases p with
 |none=>exact slicePart_none h
 |int i t=>exact slicePart_int h
theorem sliceApplied_gen{sl:Addr}{vl vu:Value}{lo hi:Option Int}{n:Nat}{Q:Int×Int×Nat->Shared->Prop}(hs:s.heap.IsSliceOf sl vl vu .none)(pl:IsPart vl lo)(pu:IsPart vu hi)
  (h:Q (((sIx n 0 lo:Nat):Int),1,sIx n n hi - sIx n 0 lo) s):wpAny (model prog w) A (Builtin.Slice.sliceApplied (.ref sl) (pure (n:Int))) Q E s:=by
 obtain⟨os,hos,hcs,hds⟩:=id hs;unfold Builtin.Slice.sliceApplied Builtin.Slice.sliceFields;refine za (za (wpAny_field hos hds (x:=vl) rfl (za (wpAny_field hos hds (x:=vu) rfl (za (wpAny_field hos hds (x:=.none) rfl (zb ?_)))))));refine za (slicePart_none ?_);show wpAny _ _ (if((1:Int) == 0)=true then _ else _) _ _ s;rw[if_neg (by decide)];refine za (Ge pl (za (Ge pu (za (zb ?_)))));show wpAny _ _ (match Builtin.Slice.sliceAdjust lo hi 1 (n:Int) with | (lo,hi)=>pure (lo,(1:Int),Builtin.Slice.slicePlaces lo hi 1)) _ _ s;rw[RT lo hi n];show wpAny _ _ (pure (((sIx n 0 lo:Nat):Int),(1:Int),Builtin.Slice.slicePlaces ((sIx n 0 lo:Nat):Int) ((sIx n n hi:Nat):Int) 1)) _ _ s
 rw[RV];exact zb h
theorem RW(xs:Array Value)(i k:Nat):((List.range k).filterMap λ(m:Nat)=>xs[((i:Int)+(m:Int) * 1).toNat]?).toArray=((xs.toList.drop i).take k).toArray:=by
 have e:(λ(m:Nat)=>xs[((i:Int)+(m:Int) * 1).toNat]?)=λm=>xs[i+m]?:=by
  funext m
  have:((i:Int)+(m:Int) * 1).toNat=i+m:=by omega
  rw[this]
 rw[e]
 have:=pick_run xs i k
 rw[List.filterMap_map] at this
 have e2:((λx=>xs[x]?) ∘ λx=>i+x)=λm=>xs[i+m]?:=rfl
 rw[e2] at this;rw[this]
theorem getItem_tuple_cut{t sl:Addr}{items:Array Value}{vl vu:Value}{lo hi:Option Int}{Q:Value->Shared->Prop}(ht:IsTup s.heap t items)(hs:s.heap.IsSliceOf sl vl vu .none)(pl:IsPart vl lo)(pu:IsPart vu hi)
  (hw:¬(sIx items.size 0 lo=0/\sIx items.size items.size hi=items.size))
  (h:Q (.ref s.heap.objs.size) {s with heap:=s.heap.push {cls:=.type "tuple",data:=.seq ((items.toList.drop (sIx items.size 0 lo)).take (sIx items.size items.size hi - sIx items.size 0 lo)).toArray}})
  (hsz:items.size<=sizeLine):wpAny (model prog w) A (getItem (.ref t) (.ref sl)) Q E s:=by
 have htake:sizeOk (.seq ((items.toList.drop (sIx items.size 0 lo)).take (sIx items.size items.size hi - sIx items.size 0 lo)).toArray):=by
  show((items.toList.drop (sIx items.size 0 lo)).take (sIx items.size items.size hi - sIx items.size 0 lo)).toArray.size<=sizeLine;rw[zr,List.length_take,List.length_drop,Array.length_toList];omega
 have hj:sIx items.size items.size hi<=items.size:=sIx_le _ _ (zc _) hi;obtain⟨os,hos,hcs,hds⟩:=id hs;have hTs:s.TypeIs (.ref sl) "slice":=⟨os,hos,hcs⟩;unfold getItem
 try with_reducible refine zM ?_
 first | refine za (zb ?_) | skip
 refine za (wpAny_sequenceKey ht.typeIs (by decide) ?_)
 refine za (wpAny_callSpecial?_slot (name:=Str.ofString "__getitem__") ht.typeIs PyProof.Rows.slot_tuple_getitem
  (wpAny_call_entry PyProof.Rows.slot_tuple_getitem ht.typeIs entry_tuple_getitem ?_ (args_tuple_getitem _ _)))
 show wpAny _ _ (Builtin.Tuple.tupleItemsOf (.ref t) >>= _) _ _ s;refine za (tupleItemsOf_ ht ?_);refine za (wpAny_typeOf hTs ?_);rw[if_pos (by decide)];refine za (sliceApplied_gen hs pl pu ?_)
 have hno:¬((((sIx items.size 0 lo:Nat):Int) == 0&&(1:Int) == 1&&(sIx items.size items.size hi - sIx items.size 0 lo) == items.size)=true):=by
  intro q;rw[zp,zp] at q;have q1:((sIx items.size 0 lo:Nat):Int)=0:=eq_of_beq q.1.1;have q2:sIx items.size items.size hi - sIx items.size 0 lo=items.size:=eq_of_beq q.2;exact hw ⟨by omega,by omega⟩
 show wpAny _ _ (if(((sIx items.size 0 lo:Nat):Int) == 0&&(1:Int) == 1&&(sIx items.size items.size hi - sIx items.size 0 lo) == items.size)=true then _ else _) _ _ s;rw[if_neg hno,RW]
 first
  | exact za (m:=Builtin.Tuple.tupleExact _) (wpAny_newObj_type (zb ⟨_,rfl,zb h⟩) htake)
  | exact za (m:=Builtin.Tuple.tupleExact _) (wpAny_newObj_type (za (zb (zb ⟨_,rfl,zb h⟩))) htake)
  | exact za (za (m:=Builtin.Tuple.tupleExact _) (wpAny_newObj_type (zb (zb ⟨_,rfl,zb h⟩)) htake))
  | exact za (za (m:=Builtin.Tuple.tupleExact _) (wpAny_newObj_type (zb ⟨_,rfl,zb h⟩) htake))
end
end HT
namespace L2
open PySem PySem.Spec PyProof.Rows
abbrev TO:=St->Hp->(Option Int->Hp->Prop)->Prop
def PO(X:Cx)(e:Option Expr)(t:TO):Prop :=
 ∀(pins:List (Addr×Obj)) (s:Shared) (σ:St) (H:Hp) (Q:Option Int->Hp->Prop),Inv X pins σ H s->t σ H Q ->
  wpAny (model X.prog X.w) X.A (evalPart e X.env) (λu s'=>∃o H',Inv X pins σ H' s'/\IsPart u o/\Q o H') X.xe s
def RX(t:TE):TO:=λσ H Q=>t σ H λx H1=>∃i,x=.int i/\Q (some i) H1
section
variable {X:Cx}{e:Expr}{te:TE}{lo hi:Option Expr}{tl th:TO}{pos p2:Pos}
theorem RZ(h:PE X e te):PO X (some e) (RX te):=by
 intro pins s σ H Q I hw;rw[evalPart_some]
 refine thn (h pins s σ H _ I hw) λu s1 ⟨x,H1,I1,r1,q1⟩=>?_
 obtain⟨i,rfl,q⟩:=q1;obtain⟨t,rfl⟩:=r1;exact⟨some i,H1,I1,.int i t,q⟩
def SlR(X:Cx)(r:V->Option Int->Option Int->Hp->VK->Prop):Prop :=
 ∀(pins:List (Addr×Obj)) (s:Shared) (σ:St) (H:Hp) (x:V) (v vl vu:Value) (lo hi:Option Int) (sl:Addr) (Q:VK),Inv X pins σ H s->RelV x v->s.heap.IsSliceOf sl vl vu .none->IsPart vl lo->IsPart vu hi->r x lo hi H Q ->
  ∃T id,typeLookup (.type T) "__getitem__" = pure (some (.builtin id))/\s.TypeIs v T/\wpAny (model X.prog X.w) X.A (getItem v (.ref sl)) (EP X pins σ Q) X.xe s
def tSl(r:V->Option Int->Option Int->Hp->VK->Prop)(te:TE)(tl th:TO):TE:=λσ H Q=>te σ H λx H1=>tl σ H1 λl H2=>th σ H2 λu H3=>r x l u H3 Q
theorem R0{r:V->Option Int->Option Int->Hp->VK->Prop}(hr:SlR X r)(he:PE X e te)(hl:PO X lo tl)(hu:PO X hi th):PE X (.Subscript e (.Slice lo hi none p2) pos) (tSl r te tl th):=by
 intro pins s σ H Q I h;refine Subscript_ (thn (he pins s σ H _ I h) λv s1 ⟨x,H1,I1,r1,q1⟩=>?_);refine wpAny_Slice (thn (hl pins s1 σ H1 _ I1 q1) λvl s2 ⟨l,H2,I2,pl,q2⟩=>thn (hu pins s2 σ H2 _ I2 q2) λvu s3 ⟨u,H3,I3,pu,q3⟩=>?_);rw[evalPart_none];refine zb ?_
 have I4:Inv X pins σ H3 {s3 with heap:=s3.heap.push {cls:=.type "slice",data:=.fields #[vl,vu,.none]}}:=I3.kept (t':=s3.toks) λb ob q=>zk _ q
 obtain⟨T,id,hT,ht,hg⟩:=hr pins {s3 with heap:=s3.heap.push {cls:=.type "slice",data:=.fields #[vl,vu,.none]}} σ H3 x v vl vu l u s3.heap.objs.size Q I4 r1 (Heap.IsSliceOf.new ..) pl pu q3;show wpAny (model X.prog X.w) X.A (subscriptTail e (.Slice lo hi none p2) v (.ref s3.heap.objs.size)) (EP X pins σ Q) X.xe {s3 with heap:=s3.heap.push {cls:=.type "slice",data:=.fields #[vl,vu,.none]}};exact tail_any (ops:=[.ref s3.heap.objs.size,v]) ht hT hg (by with_unfolding_all rfl)
def j8(xs:List V)(lo hi:Option Int):List V:=(xs.drop (HT.sIx xs.length 0 lo)).take (HT.sIx xs.length xs.length hi - HT.sIx xs.length 0 lo)
theorem Gf(xs:List V)(lo hi:Option Int):(j8 xs lo hi).length<=xs.length:=by
 unfold j8;rw[List.length_take,List.length_drop];omega
def R1(K:PySem.W.Frag):V->Option Int->Option Int->Hp->VK->Prop:=λx lo hi H Q=>∃a xs,x=.ref a/\SqT K H a xs /\
 ¬(HT.sIx xs.length 0 lo=0/\HT.sIx xs.length xs.length hi=xs.length)/\∀p,H p=none->Q (.ref p) (upd H p (.tup (j8 xs lo hi)))
theorem R3:SlR X (R1 X.K):=by
 intro pins s σ H x v vl vu lo hi sl Q I rx hs pl pu h;obtain⟨a,xs,rfl,hx,hw,q⟩:=h;cases rx;obtain⟨its,r,ht,hz⟩:=I.tuple hx
 have hlen:its.toArray.size=xs.length:=by rw[zr];exact r.length.symm
 refine⟨"tuple",_,PyProof.Rows.slot_tuple_getitem.lookup,ht.typeIs,?_⟩;refine HT.getItem_tuple_cut ht hs pl pu (by rw[hlen];exact hw) ?_ (by rw[hlen];exact hz);rw[hlen];refine⟨.ref s.heap.objs.size,_,I.laid (t':=s.toks) (o:=.tup (j8 xs lo hi)) (λb ob q=>zk _ q) (zc _) ?_,rfl,q _ (I.hok.fresh (zc _))⟩;exact⟨zH (Gf xs lo hi) hz,_,(r.drop (HT.sIx xs.length 0 lo)).take (HT.sIx xs.length xs.length hi - HT.sIx xs.length 0 lo),IsTup.new _ _⟩
def R4(K:PySem.W.Frag):R2:=λx y H Q=>∃a b xs ys,x=.ref a/\y=.ref b/\SqT K H a xs/\SqT K H b ys/\xs≠[]/\xs.length+ys.length<=sizeLine /\
 (ys=[]->Q (.ref a) H)/\(ys≠[]->∀p,H p=none->Q (.ref p) (upd H p (.tup (xs++ys))))
theorem aR.nil_iff{xs:List V}{us:List Value}(r:aR xs us):us=[]↔xs=[]:=by
 cases r with
 |nil=>simp
 |cons _ _=>simp
theorem R5:OpR X (binaryOp .Add) (R4 X.K):=by
 intro pins s σ H x y v u Q I rx ry h;obtain⟨a,b,xs,ys,rfl,rfl,ha,hb,hx,hz,q1,q2⟩:=h;cases rx;cases ry;obtain⟨its,r1,p1,_⟩:=I.tuple ha;obtain⟨its2,r2,p2,_⟩:=I.tuple hb;refine HT.cat_tup p1 p2 (λz=>hx (r1.nil_iff.mp z)) (λz=>⟨.ref a,H,I,rfl,q1 (r2.nil_iff.mp z)⟩) (λz=>?_) (by rw[<-r1.length,<-r2.length];exact hz);refine⟨.ref s.heap.objs.size,_,I.laid (t':=s.toks) (o:=.tup (xs++ys)) (λb ob q=>zk _ q) (zc _) ?_,rfl,q2 (λw=>z (r2.nil_iff.mpr w)) _ (I.hok.fresh (zc _))⟩;exact⟨by rw[zF];exact hz,_,r1.append r2,IsTup.new _ _⟩
end
def ixN(n:Nat)(i:Int):Option Nat:=if 0<=i then(if i<n then some i.toNat else none) else if -(n:Int)<=i then some (i+n).toNat else none
def atI{α:Type}(xs:List α)(i:Int):Option α:=(ixN xs.length i).bind λj=>xs[j]?
theorem R6{n:Nat}{i:Int}{j:Nat}(h:ixN n i=some j):seqIndex? i n=some j/\j<n/\-(n:Int)<=i/\i<n:=by
 unfold ixN at h
 by_cases h0:0<=i
 ·rw[if_pos h0] at h
  by_cases h1:i<n
  ·rw[if_pos h1] at h;have e:i.toNat=j:=zB h;exact⟨by rw[seqIndex_of h0 h1,e],by omega,by omega,h1⟩
  ·rw[if_neg h1] at h;cases h
 ·rw[if_neg h0] at h
  by_cases h1:-(n:Int)<=i
  ·rw[if_pos h1] at h;have e:(i+n).toNat=j:=zB h;exact⟨by rw[seqIndex_neg (by omega) h1,e],by omega,h1,by omega⟩
  ·rw[if_neg h1] at h;cases h
theorem wX{α:Type}{xs:List α}{i:Int}{v:α}(h:atI xs i=some v):∃j,seqIndex? i xs.length=some j/\xs[j]?=some v/\j<xs.length/\-(xs.length:Int)<=i/\i<xs.length:=by
 unfold atI at h
 cases e:ixN xs.length i with
 |none=>rw[e] at h;cases h
 |some j =>
  rw[e] at h;obtain⟨h1,h2,h3,h4⟩:=R6 e;exact⟨j,h1,h,h2,h3,h4⟩
def t7(b:Expr):Prop:=∀o i,subscripted b false o i=operate [o,i] (getItem o i)
def IxR(X:Cx)(r:R2):Prop :=
 ∀(value slice:Expr) (pins:List (Addr×Obj)) (s:Shared) (σ:St) (H:Hp) (x y:V) (v u:Value) (Q:VK),Inv X pins σ H s->RelV x v->RelV y u->r x y H Q ->
  subscripted slice false v u=operate [v,u] (getItem v u)->wpAny (model X.prog X.w) X.A (subscriptTail value slice v u) (EP X pins σ Q) X.xe s
def MtR(X:Cx)(id:String)(r:V->List V->Hp->VK->Prop):Prop :=
 ∀(pins:List (Addr×Obj)) (s:Shared) (σ:St) (H:Hp) (x:V) (xs:List V) (v:Value) (us:List Value) (Q:VK),Inv X pins σ H s->RelV x v->aR xs us->r x xs H Q ->
  wpAny (model X.prog X.w) X.A (call (.builtin id) (v::us)) (EP X pins σ Q) X.xe s
section
variable {X:Cx}{a b:Expr}{ta tb:TE}{pos:Pos}
theorem R7{r:R2}(hr:IxR X r)(ha:PE X a ta)(hb:PE X b tb)(hs:t7 b):PE X (.Subscript a b pos) (tOp r ta tb):=by
 intro pins s σ H Q I h;exact Subscript_ (wJ ha hb I h λv u s2 x y H2 I2 rx ry q=>hr a b pins s2 σ H2 x y v u Q I2 rx ry q (hs _ _))
def R8(K:PySem.W.Frag):R2:=λx y H Q=>∃p xs i v,x=.ref p/\y=.int i/\SqL K H p xs/\atI xs i=some v/\Q v H
def R9(K:PySem.W.Frag):R2:=λx y H Q=>∃p xs i v,x=.ref p/\y=.int i/\SqT K H p xs/\atI xs i=some v/\Q v H
def Sd:R2:=λx y H Q=>∃z i c,x=.str z/\y=.int i/\z.length<=sizeLine/\atI z.cps.toList i=some c/\Q (.str ⟨#[c]⟩) H
theorem Sg:IxR X (R8 X.K):=by
 intro value slice pins s σ H x y v u Q I rx ry h hs;obtain⟨p,xs,i,z,rfl,rfl,hq,he,q⟩:=h;cases rx;obtain⟨t,rfl⟩:=ry;obtain⟨its,r,pl,hz⟩:=I.list hq;obtain⟨j,h1,h2,h3,h4,h5⟩:=wX he;obtain⟨w,ew,rw'⟩:=r.get h2;have hl:=r.length;have hn:=qM;have fin:EP X pins σ Q w s:=⟨z,H,I,rw',q⟩
 by_cases h0:0<=i
 ·have hj:i.toNat=j:=by
   rw[seqIndex_of h0 h5] at h1;exact zB h1
  exact item_listR pl.isList h0 (by omega) (by rw[hj];simpa using ew) fin hs
 ·have hj:(i+(its.toArray.size:Int)).toNat=j:=by
   rw[seqIndex_neg (by omega) h4] at h1;rw[zr,<-hl];exact zB h1
  exact subscriptTail_builtinR (x:=w) pl.isList.typeIs slot_list_getitem.lookup
   (wpAny_getItem_list_neg (Q:=λr s'=>r=w/\EP X pins σ Q r s') pl.isList (by omega) (by rw[zr]<;>omega) (by omega) (by rw[hj];simpa using ew) ⟨rfl,fin⟩) hs
theorem Sh:IxR X (R9 X.K):=by
 intro value slice pins s σ H x y v u Q I rx ry h hs;obtain⟨p,xs,i,z,rfl,rfl,hq,he,q⟩:=h;cases rx;obtain⟨t,rfl⟩:=ry;obtain⟨its,r,pl,hz⟩:=I.tuple hq;obtain⟨j,h1,h2,h3,h4,h5⟩:=wX he;obtain⟨w,ew,rw'⟩:=r.get h2;have hl:=r.length;have hn:=qM;have fin:EP X pins σ Q w s:=⟨z,H,I,rw',q⟩;exact subscriptTail_builtinR (x:=w) pl.typeIs slot_tuple_getitem.lookup
  (getItem_tuple (j:=j) (Q:=λr s'=>r=w/\EP X pins σ Q r s') pl (by omega) (by omega) (by rw[zr,<-hl];exact h1) (by simpa using ew) ⟨rfl,fin⟩) hs
theorem Sq:IxR X Sd:=by
 intro value slice pins s σ H x y v u Q I rx ry h hs;obtain⟨z,i,c,rfl,rfl,hz,he,q⟩:=h;obtain⟨t,rfl⟩:=rx;obtain⟨t',rfl⟩:=ry;obtain⟨j,h1,h2,h3,h4,h5⟩:=wX he
 have hl:z.cps.toList.length=z.length:=by simp[Str.length]
 rw[hl] at h1 h4 h5;have hn:=qM
 exact tail_any (typeIs_str s z t) slot_str_getitem.lookup (getItem_str (c:=c) (by
  have e1:decide (i < -(2 ^ 63:Int))=false:=zg (by omega);have e2:decide (i>=2 ^ 63)=false:=zg (by omega)
  rw[e1,e2,Bool.or_false]) (by rw[h1];simpa using h2) ⟨.str ⟨#[c]⟩,H,I.tok _,⟨_,rfl⟩,q⟩) hs
theorem Inv.lst{pins:List (Addr×Obj)}{σ:St}{H:Hp}{s:Shared}{p:Addr}{xs:List V}(I:Inv X pins σ H s)(h:H p=some (.lst xs)):
  ∃(its:List Value) (n:Nat),aR xs its/\s.heap.get? p=some {cls:=.type "list",data:=.seq its.toArray n}/\xs.length<=sizeLine:=by
 obtain⟨z,its,n,r,e⟩:=I.hok p _ h;exact⟨its,n,r,e,z⟩
theorem Gg(lo hi:Option Int)(n:Nat):(sliceBounds lo hi none n).1=((HT.sIx n 0 lo:Nat):Int)/\(sliceBounds lo hi none n).2.1=((HT.sIx n n hi:Nat):Int)/\(sliceBounds lo hi none n).2.2=1:=by
 refine⟨?_,?_,rfl⟩
 ·cases lo with
  |none=>simp[sliceBounds,HT.sIx]
  |some i =>
   simp only[sliceBounds,HT.sIx,Option.getD_none,show(1:Int)>0 by decide,if_true]
   by_cases h:i<0
   ·simp only[h,if_true]<;>omega
   ·simp only[h,if_false]<;>omega
 ·cases hi with
  |none=>simp[sliceBounds,HT.sIx]
  |some i =>
   simp only[sliceBounds,HT.sIx,Option.getD_none,show(1:Int)>0 by decide,if_true]
   by_cases h:i<0
   ·simp only[h,if_true]<;>omega
   ·simp only[h,if_false]<;>omega
theorem Ss(its:List Value)(lo hi:Option Int):slicePick its.toArray lo hi none=((its.drop (HT.sIx its.length 0 lo)).take (HT.sIx its.length its.length hi - HT.sIx its.length 0 lo)).toArray:=by
 obtain⟨h1,h2,h3⟩:=Gg lo hi its.toArray.size;unfold slicePick;rw[h1,h2,h3]
 simp only[sliceRange_one,pick_run,zr]<;>rfl
def Su(K:PySem.W.Frag):V->Option Int->Option Int->Hp->VK->Prop:=λx lo hi H Q=>∃a xs,x=.ref a/\SqL K H a xs/\∀p,H p=none->Q (.ref p) (upd H p (.lst (j8 xs lo hi)))
theorem Sw:SlR X (Su X.K):=by
 intro pins s σ H x v vl vu lo hi sl Q I rx hs pl pu h;obtain⟨a,xs,rfl,hx,q⟩:=h;cases rx;obtain⟨its,r,ht,hz⟩:=I.list hx;have hlen:=r.length;refine⟨"list",_,slot_list_getitem.lookup,ht.isList.typeIs,?_⟩;refine wpAny_getItem_list_slice ht.isList hs pl pu .none (by simp) ?_ (by rw[zr]<;>omega);rw[Ss,<-hlen];refine⟨.ref s.heap.objs.size,_,I.laid (t':=s.toks) (o:=.lst (j8 xs lo hi)) (λb ob q=>zk _ q) (zc _) ?_,rfl,q _ (I.hok.fresh (zc _))⟩;exact⟨zH (Gf xs lo hi) hz,_,0,(r.drop (HT.sIx xs.length 0 lo)).take (HT.sIx xs.length xs.length hi - HT.sIx xs.length 0 lo),zz _ rfl⟩
def jH:V->Bool
 | .non=>true
 | .bl _=>true
 | .int _=>true
 | .str _=>true
 | _=>false
def eqV:V->V->Bool
 | .non,.non=>true
 | .bl a,.bl b=>a == b
 | .bl a,.int b=>(if a then 1 else 0) == b
 | .int a,.bl b=>a == (if b then 1 else 0)
 | .int a,.int b=>a == b
 | .str a,.str b=>a == b
 | _,_=>false
theorem Sx{A:Around}{s:Shared}{y x:V}{u v:Value}(ry:RelV y u)(rx:RelV x v)(fy:jH y=true)(fx:jH x=true):SeqAt.EqAt A s u v (eqV y x):=by
 cases y with
 |non =>
  cases ry
  cases x with
  |non=>cases rx;exact SeqAt.EqAt.same _
  |bl b=>cases rx;exact SeqAt.EqAt.none_bool b
  |int b=>obtain⟨t,rfl⟩:=rx;exact SeqAt.EqAt.none_int b t
  |str b=>obtain⟨t,rfl⟩:=rx;exact SeqAt.EqAt.none_str b t
  | _=>exact absurd (show false=true from fx) zj
 |bl a =>
  cases ry
  cases x with
  |non=>cases rx;exact SeqAt.EqAt.bool_none a
  |bl b=>cases rx;exact SeqAt.EqAt.bool_bool a b
  |int b=>obtain⟨t,rfl⟩:=rx;exact SeqAt.EqAt.bool_int a b t
  |str b=>obtain⟨t,rfl⟩:=rx;exact SeqAt.EqAt.bool_str a b t
  | _=>exact absurd (show false=true from fx) zj
 |int a =>
  obtain⟨t',rfl⟩:=ry
  cases x with
  |non=>cases rx;exact SeqAt.EqAt.int_none a t'
  |bl b=>cases rx;exact SeqAt.EqAt.int_bool a t' b
  |int b=>obtain⟨t,rfl⟩:=rx;exact SeqAt.EqAt.int_int a t' b t
  |str b=>obtain⟨t,rfl⟩:=rx;exact SeqAt.EqAt.int_str a t' b t
  | _=>exact absurd (show false=true from fx) zj
 |str a =>
  obtain⟨t',rfl⟩:=ry
  cases x with
  |non=>cases rx;exact SeqAt.EqAt.str_none a t'
  |bl b=>cases rx;exact SeqAt.EqAt.str_bool a t' b
  |int b=>obtain⟨t,rfl⟩:=rx;exact SeqAt.EqAt.str_int a t' b t
  |str b=>obtain⟨t,rfl⟩:=rx;exact SeqAt.EqAt.str_str a t' b t
  | _=>exact absurd (show false=true from fx) zj
 | _=>exact absurd (show false=true from fy) zj
def eqU(x:V)(u:Value):Bool:=match u with
 | .none=>eqV .non x
 | .bool b=>eqV (.bl b) x
 | .int i _=>eqV (.int i) x
 | .str z _=>eqV (.str z) x
 | _=>false
theorem Gh{x y:V}{u:Value}(r:RelV y u)(f:jH y=true):eqU x u=eqV y x:=by
 cases y with
 |non=>cases r;rfl
 |bl b=>cases r;rfl
 |int i=>obtain⟨t,rfl⟩:=r;rfl
 |str z=>obtain⟨t,rfl⟩:=r;rfl
 | _=>exact absurd (show false=true from f) zj
theorem qP{x:V}:∀{xs:List V}{us:List Value},aR xs us->xs.all jH=true->us.any (eqU x)=xs.any λy=>eqV y x
 | _,_,.nil,_=>rfl
 |y::xs,u::us,.cons r t,f=>by
  rw[List.all_cons,zp] at f;rw[List.any_cons,List.any_cons,Gh r f.1,qP t f.2]
theorem qQ{A:Around}{s:Shared}{x:V}{v:Value}(rx:RelV x v)(fx:jH x=true):∀{xs:List V}{us:List Value},aR xs us->xs.all jH=true->∀u∈us,SeqAt.EqAt A s u v (eqU x u)
 | _,_,.nil,_=>λu hu=>by cases hu
 |y::xs,u::us,.cons r t,f=>λu' hu=>by
  rw[List.all_cons,zp] at f
  rcases zn.mp hu with rfl | hu
  ·rw[Gh r f.1];exact Sx r rx f.1 fx
  ·exact qQ rx fx t f.2 u' hu
def inV(x:V)(xs:List V):Bool:=xs.any λy=>eqV y x
def rIn(K:PySem.W.Frag)(neg:Bool):R2:=λx y H Q=>∃p xs,y=.ref p/\(SqL K H p xs\/SqT K H p xs)/\jH x=true/\xs.all jH=true/\Q (.bl (if neg then !inV x xs else inV x xs)) H
theorem Sy:OpR X (compareOp .In) (rIn X.K false):=by
 intro pins s σ H x y v u Q I rx ry h;obtain⟨p,xs,rfl,hq,fx,fs,q⟩:=h;cases ry
 rcases hq with hq | hq
 ·obtain⟨its,r,pl,hz⟩:=I.list hq;refine SeqAt.in_listAt (eqU x) pl.isList (λw hw=>qQ rx fx r fs w (by simpa using hw)) ⟨.bl _,H,I,rfl,?_⟩;rw[show its.toArray.any (eqU x)=its.any (eqU x) by simp,qP r fs];exact q
 ·obtain⟨its,r,pl,hz⟩:=I.tuple hq;refine SeqAt.in_tupleAt (eqU x) pl (λw hw=>qQ rx fx r fs w (by simpa using hw)) ⟨.bl _,H,I,rfl,?_⟩;rw[show its.toArray.any (eqU x)=its.any (eqU x) by simp,qP r fs];exact q
theorem SJ:OpR X (compareOp .NotIn) (rIn X.K true):=by
 intro pins s σ H x y v u Q I rx ry h;obtain⟨p,xs,rfl,hq,fx,fs,q⟩:=h;cases ry
 rcases hq with hq | hq
 ·obtain⟨its,r,pl,hz⟩:=I.list hq;refine SeqAt.notIn_listAt (eqU x) pl.isList (λw hw=>qQ rx fx r fs w (by simpa using hw)) ⟨.bl _,H,I,rfl,?_⟩;rw[show its.toArray.any (eqU x)=its.any (eqU x) by simp,qP r fs];exact q
 ·obtain⟨its,r,pl,hz⟩:=I.tuple hq;refine SeqAt.notIn_tupleAt (eqU x) pl (λw hw=>qQ rx fx r fs w (by simpa using hw)) ⟨.bl _,H,I,rfl,?_⟩;rw[show its.toArray.any (eqU x)=its.any (eqU x) by simp,qP r fs];exact q
theorem Gi:gQ X (.type "list") (λxs H Q=>∃p ys,xs=[.ref p]/\(SqL X.K H p ys\/SqT X.K H p ys)/\∀l,H l=none->Q (.ref l) (upd H l (.lst ys))):=by
 intro pins s σ H xs us Q I r h;obtain⟨p,ys,rfl,hq,q⟩:=h;obtain⟨u,rfl,rx⟩:=vals1 r;cases rx;have fin:∀(its:List Value),aR ys its->ys.length<=sizeLine->∀(h':Heap) (c':Nat),(∀b o',s.heap.get? b=some o'->h'.get? b=some o') ->
   h'.get? s.heap.objs.size=some {cls:=.type "list",dict:=none,data:=.seq its.toArray c',slots:=#[]}->EP X pins σ Q (.ref s.heap.objs.size) {s with heap:=h'}:=λits r' hz h' c' kp e =>
  ⟨.ref s.heap.objs.size,_,I.laid (t':=s.toks) kp (zc _) (show cN X.prog X.w _ h' _ (.lst ys) from⟨hz,its,c',r',e⟩),rfl,q _ (I.hok.fresh (zc _))⟩
 rcases hq with hq | hq
 ·obtain⟨its,r',pl,hz⟩:=I.list hq;have hlen:=r'.length;obtain⟨o,ho,hc,n,hd⟩:=pl.isList;exact call_list_seq p (.inl rfl) ho hc hd (λh' c' kp e=>fin its r' hz h' c' kp e) (by simp only[zr]<;>omega)
 ·obtain⟨its,r',pl,hz⟩:=I.tuple hq;have hlen:=r'.length;obtain⟨o,ho,hc,n,hd⟩:=pl;exact call_list_seq p (.inr rfl) ho hc hd (λh' c' kp e=>fin its r' hz h' c' kp e) (by simp only[zr]<;>omega)
def tyV(K:PySem.W.Frag)(T:String)(x:V)(H:Hp):Prop:=match x with
 | .str _=>T = "str"
 | .int _=>T = "int"
 | .ref p=>(T = "list"/\∃xs,SqL K H p xs)\/(T = "tuple"/\∃o,K.lookup p=some o/\o.cls=.type "tuple"/\o.dict=none) \/
   (T = "dict"/\((∃kvs,H p=some (.dK kvs))\/∃kvs,H p=some (.dT kvs)))\/(T = "set"/\∃S n,H p=some (.set S n))
 | _=>False
theorem SM{pins:List (Addr×Obj)}{σ:St}{H:Hp}{s:Shared}{T:String}{x:V}{v:Value}(I:Inv X pins σ H s)(r:RelV x v)(ty:tyV X.K T x H):
  s.TypeIs v T/\∀a,v=.ref a->∃ob,s.heap.get? a=some ob/\ob.dict=none:=by
 cases x with
 |str z =>
  obtain⟨t,rfl⟩:=r;cases(show T = "str" from ty);exact⟨typeIs_str s z t,λ_ e=>nomatch e⟩
 |int i =>
  obtain⟨t,rfl⟩:=r;cases(show T = "int" from ty);exact⟨typeIs_int s i t,λ_ e=>nomatch e⟩
 |ref p =>
  cases r
  rcases ty with⟨rfl,xs,hq⟩ | ⟨rfl,o,hk,hc,hd⟩ | ⟨rfl,hk⟩ | ⟨rfl,S,n,hk⟩
  ·obtain⟨its,_,pl,_⟩:=I.list hq;refine⟨pl.isList.typeIs,λa e=>?_⟩;cases e;obtain⟨o,n,e,c,hd,_⟩:=pl;exact⟨o,e,hd⟩
  ·refine⟨⟨o,I.kIn p o hk,hc⟩,λa e=>?_⟩;cases e;exact⟨o,I.kIn _ o hk,hd⟩
  ·have z:∃o,s.heap.get? p=some o/\o.ExactDict:=by
    rcases hk with⟨kvs,hk⟩ | ⟨kvs,hk⟩
    ·obtain⟨_,_,_,_,o,_,_,e,ex,_⟩:=I.hok p _ hk;exact⟨o,e,ex⟩
    ·obtain⟨_,_,_,_,o,_,_,e,ex,_⟩:=I.hok p _ hk;exact⟨o,e,ex⟩
   obtain⟨o,e,ex⟩:=z;refine⟨⟨o,e,ex.1⟩,λa e2=>?_⟩;cases e2;exact⟨o,e,ex.2.1⟩
  ·obtain⟨o,_,_,_,e,ex,_⟩:=I.hok p _ hk;refine⟨⟨o,e,ex.1⟩,λa e2=>?_⟩;cases e2;exact⟨o,e,ex.2.1⟩
 | _=>exact False.elim ty
def tBM(K:PySem.W.Frag)(T:String)(r:V->List V->Hp->VK->Prop)(to:TE)(t:TA):TE:=λσ H Q=>to σ H λx H1=>tyV K T x H1/\t σ H1 λxs H2=>r x xs H2 Q
variable {o e:Expr}{es:List Expr}{to:TE}{t:TA}{name:Str}{apos cpos:Pos}{T id:String}{r:V->List V->Hp->VK->Prop}
theorem Gj(pa:PlainAttrs T)(slot:Slot T name id)(hty:typeOf (.builtin id)=pure (.type "method_descriptor"))(hm:MtR X id r)(ho:PE X o to)(ha:PA X (e::es) t)
  (hbase:attributeBase o name X.env (eval o X.env)=eval o X.env:=by rfl)
  (hfew:((backTo cpos (starEach (e::es) X.env)).all (λx=>!x.1)&&(backToKw cpos (keywordEach [] X.env)).all (λx=>x.1.isSome)
   && decide ((e::es).length+([]:List Keyword).length+(if([]:List Keyword).isEmpty then 0 else 1)<30))=true:=by rfl)
  (hline:(apos.endLine == cpos.line)=true:=by rfl) (hs:starEach (e::es) X.env=(false,eval e X.env)::starEach es X.env:=by rfl) (hplain:(backTo cpos (starEach es X.env)).any (·.1)=false:=by rfl):
  PE X (.Call (.Attribute o name apos) (e::es) [] cpos) (tBM X.K T r to t):=by
 intro pins s σ H Q I h;refine wpAny_Call_method_late hbase hfew hline rfl (thn (ho pins s σ H _ I h) λv s1 ⟨x,H1,I1,r1,ty,q1⟩=>?_);obtain⟨h1,h2⟩:=SM I1 r1 ty;refine⟨T,id,pa,slot,hty,h1,h2,?_⟩;have hA:=ha cpos pins s1 σ H1 _ I1 q1;rw[hs] at hA ⊢;refine Calls.callWith_builtin (by show(false || (backTo cpos (starEach es X.env)).any (·.1))=false;rw[hplain]<;>rfl) (Calls.evalArgs_plain ?_)
 exact thn hA λus s2 ⟨vs,H2,I2,r2,q2⟩=>hm pins s2 σ H2 x vs v us Q I2 r1 r2 q2
/- xs.append(e),list.index on a module's tuple .. are MtR facts of 06m -/
end
def MtM(X:Cx)(id:String)(r:V->List V->Hp->VK->Prop):Prop :=
 ∀(pins:List (Addr×Obj)) (s:Shared) (σ:St) (H:Hp) (x:V) (xs:List V) (v:Value) (us:List Value) (Q:VK),Inv X pins σ H s->RelV x v->aR xs us->r x xs H Q ->
  wpAny (model X.prog X.w) X.A (call (.builtin id) (v::us)) (EP X pins σ Q) X.xe s
theorem aR.one:∀{x:V}{us:List Value},aR [x] us->∃u,us=[u]/\RelV x u
 | _,_,.cons r .nil=>⟨_,rfl,r⟩
theorem aR.two:∀{x y:V}{us:List Value},aR [x,y] us->∃u v,us=[u,v]/\RelV x u/\RelV y v
 | _,_,_,.cons r (.cons q .nil)=>⟨_,_,rfl,r,q⟩
theorem aR.zero:∀{us:List Value},aR [] us->us=[]
 | _,.nil=>rfl
theorem aR.reverse{xs:List V}{us:List Value}(h:aR xs us):aR xs.reverse us.reverse:=by
 induction h with
 |nil=>exact .nil
 |cons r t ih=>rw[List.reverse_cons,List.reverse_cons];exact aR.append ih (.cons r .nil)
theorem aR.rep{xs:List V}{us:List Value}(h:aR xs us):∀k:Nat,aR (List.replicate k xs).flatten (List.replicate k us).flatten
 | 0=>.nil
 |k+1=>by
  rw[List.replicate_succ,List.replicate_succ,List.flatten_cons,List.flatten_cons];exact aR.append h (aR.rep h k)
theorem foldl_rep(its:List Value):∀(k:Nat) (acc:List Value),
  List.foldl (λx1 x2=>x1++x2) acc.toArray (List.replicate k its.toArray)=(acc++(List.replicate k its).flatten).toArray
 | 0,acc=>by simp
 |k+1,acc=>by
  have e:acc.toArray++its.toArray=(acc++its).toArray:=by simp
  have e2:(acc++its)++(List.replicate k its).flatten=acc++(List.replicate (k+1) its).flatten:=by
   rw[List.replicate_succ,List.flatten_cons,jk]
  rw[<-e2,<-foldl_rep its k (acc++its),<-e,List.replicate_succ,List.foldl_cons]
section
variable {X:Cx}{pins:List (Addr×Obj)}{σ:St}{H:Hp}{s:Shared}{l b:Addr}{xs ys zs:List V}
theorem Inv.lset{its its':List Value}{n:Nat}{f:Array Value->Array Value}{t':Nat}(I:Inv X pins σ H s)(hH:H l=some (.lst xs))
  (e:s.heap.get? l=some {cls:=.type "list",data:=.seq its.toArray n}) (hf:f its.toArray=its'.toArray) (hv:aR ys its') (hz:ys.length<=sizeLine):
  Inv X pins σ (upd H l (.lst ys)) {s with heap:=s.heap.update l (Obj.mapSeq f),toks:=t'}:=by
 have q:=PySem.IsL.update e f;rw[hf] at q;refine I.write (x:=l) (e:=l) (by rw[hH];exact trivial) (.inl rfl) (λb' u hb hu=>(jf s.heap (Obj.mapSeq f) (Ne.symm hb)).trans hu) ⟨_,q⟩ ?_;exact⟨hz,its',_,hv,q⟩
theorem Inv.lnew{its:List Value}{t':Nat}(I:Inv X pins σ H s)(hv:aR ys its)(hz:ys.length<=sizeLine):
  Inv X pins σ (upd H s.heap.objs.size (.lst ys)) {s with heap:=s.heap.push {cls:=.type "list",data:=.seq its.toArray},toks:=t'}:=
 I.laid (λ_ _ q=>zk _ q) (zc _) ⟨hz,its,0,hv,zz _ rfl⟩
theorem Inv.fresh(I:Inv X pins σ H s):H s.heap.objs.size=none:=I.hok.fresh (zc _)
theorem Inv.lstM(I:Inv X pins σ H s)(hH:H l=some (.lst xs)):xs.length<=sizeLine/\∃(its:List Value) (n:Nat),aR xs its/\xs.length=its.length/\s.heap.get? l=some {cls:=.type "list",data:=.seq its.toArray n}:=by
 obtain⟨z,its,n,r,e⟩:=I.hok l _ hH;exact⟨z,its,n,r,r.length,e⟩
theorem wY{n:Nat}(h:n<=sizeLine):Builtin.List.listTooLong n=false:=by
 unfold Builtin.List.listTooLong;exact zg (by omega)
end
section
variable {X:Cx}
def SN:V->List V->Hp->VK->Prop:=λx vs H Q=>∃l xs y,x=.ref l/\vs=[y]/\H l=some (.lst xs)/\xs.length<sizeLine/\Q .non (upd H l (.lst (xs++[y])))
theorem SQ:MtM X "list.append" SN:=by
 intro pins s σ H x vs v us Q I rx rv h;obtain⟨l,xs,y,rfl,rfl,hH,hz,q⟩:=h;cases rx;obtain⟨u,rfl,ru⟩:=rv.one;obtain⟨z,its,n,r,hl,e⟩:=I.lstM hH;refine call_meets F.slot_list_append ⟨_,e,rfl⟩ F.entry_list_append (F.args_list_append_2 _ _) (PySem.list_append l its.toArray n u (by rw[zr];omega)) ⟨e,?_⟩;refine⟨.non,_,I.lset (its':=its++[u]) hH e (by simp) (r.append (.cons ru .nil)) ?_,rfl,q⟩;rw[zF,jg];omega
theorem len_rep{α:Type}(xs:List α)(k:Nat):(List.replicate k xs).flatten.length=k * xs.length:=by
 induction k with
 |zero=>simp
 |succ k ih=>rw[List.replicate_succ,List.flatten_cons,zF,ih,Nat.succ_mul,Nat.add_comm]
end
section
variable {prog:Program}{w:World}{A:Around}{E:Value->Shared->Prop}{s:Shared}
theorem SX{a c n:Nat}(hac:a<=c)(hc:c<=n):sliceBounds (some (a:Int)) (some (c:Int)) none n=((a:Int),(c:Int),1):=by
 simp only[sliceBounds,Option.getD_none]
 have h1:¬((a:Int)<0):=by omega
 have h2:¬((c:Int)<0):=by omega
 simp only[h1,h2,if_false,show(1:Int)>0 by decide,if_true];congr 1
 ·omega
 ·congr 1;omega
set_option maxRecDepth 100000 in
theorem Qu7{l b sl:Addr}{items new:Array Value}{n n2:Nat}{vl vu:Value}{a c:Nat}{Q:Unit->Shared->Prop}
  (e:s.heap.get? l=some {cls:=.type "list",data:=.seq items n}) (e2:s.heap.get? b=some {cls:=.type "list",data:=.seq new n2}) (hne:l≠b)
  (hs:s.heap.IsSliceOf sl vl vu .none) (pl:IsPart vl (some (a:Int))) (pu:IsPart vu (some (c:Int))) (hac:a<=c) (hc:c<=items.size)
  (hsz:items.size+new.size<=sizeLine) (h:Q () {s with heap:=s.heap.update l (Obj.mapSeq λxs=>xs.extract 0 a++new++xs.extract c xs.size)}):
  wpAny (model prog w) A (setItem (.ref l) (.ref sl) (.ref b)) Q E s:=by
 have hl:s.heap.IsList l items:=PySem.IsL.isList e;have hb:s.heap.IsList b new:=PySem.IsL.isList e2;obtain⟨os,hos,hcs,hds⟩:=id hs;have hTs:s.TypeIs (.ref sl) "slice":=⟨os,hos,hcs⟩;have hstep:¬((rawPart none == rawInt 0)=true):=zj
 have hsame:Builtin.List.listSameRef (.ref l) (.ref b)=false:=by
  unfold Builtin.List.listSameRef;exact beq_eq_false_iff_ne.mpr hne
 have hmax:(max (a:Int) (c:Int)).toNat=c:=by omega
 have hz':((λxs:Array Value=>xs.extract 0 a++new++xs.extract c xs.size) items).size<=sizeLine+1:=by
  simp only[Array.size_append,Array.size_extract];omega
 unfold setItem
 try with_reducible refine zM ?_
 first | refine za (zb ?_) | skip
 refine za (wpAny_sequenceKey hl.typeIs (by decide) ?_)
 refine za (wpAny_callSpecial?_slot (name:=Str.ofString "__setitem__") hl.typeIs slot_list_setitem
  (wpAny_call_entry slot_list_setitem hl.typeIs entry_list_setitem ?_ (args_list_setitem _ _ _)))
 show wpAny _ _ (Builtin.List.listSubscript? (.ref sl) >>= _) _ _ s;refine za ?_;unfold Builtin.List.listSubscript?;refine za (wpAny_specialOf hTs slice_no_index ?_);simp only[Option.isNone_none,if_true];refine zb ?_;show wpAny _ _ (typeOf (.ref sl) >>= _) _ _ s;refine za (wpAny_typeOf hTs ?_)
 first
  | rw[if_neg (by decide)]
  | refine PySem.W.KFB.if_not (by decide) ?_
 rw[listSliceParts_eq];refine za (za (wpAny_field hos hds (x:=.none) rfl (za (wpAny_listPart .none ?_))));rw[if_neg hstep];refine za (wpAny_field hos hds (x:=vl) rfl (za (wpAny_listPart pl ?_)));refine za (wpAny_field hos hds (x:=vu) rfl (za (wpAny_listPart pu (zb ?_))))
 first
  | simp only[hsame,Bool.false_eq_true,if_false]
  | refine PySem.W.KFB.if_not hsame ?_
  | (dsimp only
     rw[if_neg (by rw[hsame];exact zj)])
 refine za (m:=Builtin.List.listAllItems (.ref b) "must assign iterable to extended slice") ?_;unfold Builtin.List.listAllItems;refine za (wpAny_typeOf hb.typeIs ?_)
 first
  | refine PySem.W.KFB.if_so (by decide) ?_
  | rw[if_pos (by decide)]
  | simp only[beq_self_eq_true,Bool.true_or,if_true]
 unfold Builtin.List.listItems;refine za (wpAny_seqItems e2 rfl (zb ?_));refine za (za (wpAny_seqItems e rfl (zb ?_)));refine za (wpAny_of_eq ((sliceIndices_raw (some (a:Int)) (some (c:Int)) none items.size (by simp)).trans (congrArg (pure:Int×Int×Int->Sem (Int×Int×Int)) (SX hac hc))) ?_);show wpAny _ _ (if((1:Int) == 1)=true then _ else _) _ _ s;rw[if_pos (by decide)];refine za (ja ?_)
 first
  | simp only[wY hsz,Bool.false_eq_true,if_false]
  | refine PySem.W.KFB.if_not (wY hsz) ?_
 first | refine za (zb ?_) | skip
 show wpAny _ _ (updateSeq l (λxs=>xs.extract 0 ((a:Int)).toNat++new++xs.extract (max (a:Int) (c:Int)).toNat xs.size) >>= _) _ _ s;rw[hmax,Int.toNat_natCast];refine za (jb (hz:=zH (jn _ _) hsz) (_hz':=hz') e rfl ?_);refine za (jh ?_)
 first
  | exact za (zb (zb ⟨.none,rfl,zb h⟩))
  | exact zb ⟨.none,rfl,zb h⟩
end
section
variable {X:Cx}
end
end L2
namespace Att
open PySem PySem.W PySem.Calls PyProof.Rows
theorem S8{P:Params}{h:Heap}:∀(ns:List Int) (vs:List Value),WellAll P h vs (ns.map WData.int)->IntsAre vs ns:=by
 intro ns
 induction ns with
 |nil =>
  intro vs w;rw[zC] at w;cases w;exact .nil
 |cons n ns ih =>
  intro vs w;rw[zd] at w
  cases w with
  |cons a b =>
   cases a;exact .cons _ _ (ih _ b)
theorem S9{l:OpenLaw}{n:Nat}(hn:l.most=some n){P:Params}{h:Heap}{args:List WData}{vals:List Value}
  (hpre:l.row.toRowW.claim.pre args=true) (hwl:WellAll P h vals args):
  ∃a vs ns,vals=[Value.ref a]/\args=[WData.list (ns.map WData.int)]/\h.get? a=some {cls:=.type "list",data:=.seq vs.toArray}/\IntsAre vs ns/\ns.length<=n:=by
 have hsh:WShape.hasAll [] args [.list .int]=true:=(pre_splitW hpre).1;have hc:l.pre.holds [] {args:=args}=true:=(pre_splitW hpre).2;obtain⟨d,r,rfl,h1,h2⟩:=hasAllW_cons hsh;obtain rfl:=hasAllW_nil h2;obtain⟨xs,rfl,h3⟩:=hasW_list h1;obtain⟨ns,rfl⟩:=items_int h3
 have hlen:ns.length<=n:=by
  unfold OpenLaw.pre at hc
  have h4:(WTm.not (.lt (.lit (.int (n:Int))) (.len (.arg 0)))).holds [] {args:=[.list (ns.map .int)]}=true:=by
   have h4:=(holds_andW hc).1;rw[hn] at h4;exact h4
  have h5:=condW_of h4 (w_not (w_lt w_lit (w_len_list (w_arg rfl))));rw[ze] at h5
  refine Nat.le_of_not_lt λq=>?_
  have q':(n:Int)<((ns.length:Nat):Int):=by omega
  first
   | (rw[zh q'] at h5;exact absurd h5 (by decide))
   | (simp at h5;omega)
 cases hwl with
 |cons w1 w2 =>
  cases w2
  cases w1 with
  |list ho hall=>exact⟨_,_,ns,rfl,rfl,ho,S8 ns _ hall,hlen⟩
theorem Tc(l:OpenLaw)(args:List WData):l.row.toRowW.claim.post args (.bool true) args=true :=
 postW_of (r:=l.row.toRowW) (X:=(true == true))
  (show WShape.has [] (.bool true) .bool=true by first | rfl | decide | simp[WShape.has,WShape.arms,WShape.armsAll])
  (show(WTm.eq .res (.lit (.bool true))).value [] {args:=args,res:=some (.bool true),after:=args}=some (.bool (true == true)) from w_eq_bool (w_res rfl) w_lit) rfl
theorem attach_call{l:OpenLaw}{n:Nat}{q:Program}{loose:List Str}{XP:(Str->Option Value)->Heap->Prop}{YP:World->Heap->Prop}{d:DefRec}
  (hn:l.most=some n) (hdf:d.params.defaults=[])
  (call:∀(w:World) (s₀ s₁:Shared) (mg mb:Str->Option Value) (fa:Addr) (o:Obj) (pm cd doc:Value) (a:Addr) (vs:List Value) (ns:List Int),
   Ground q loose [] XP w s₀ mg mb s₁.heap->YP w s₁.heap ->
   s₁.heap.get? fa=some o->o.data=.func (docDef d.name d.params d.body d.scope pm cd doc)->s₁.heap.CodeRec cd d.name->mg d.name=some (.ref fa) ->
   s₁.heap.get? a=some {cls:=.type "list",data:=.seq vs.toArray}->IntsAre vs ns->ns.length<=n->s₁.gens = #[] ->
   codeAny (model l.prog w) callerA (.call (.ref fa) ⟨[.ref a],[]⟩) (λr s'=>r=.ok (.ret (.bool true))/\OldK s₁.heap s'.heap/\s'.os=s₁.os/\AllBare s'.gens) s₁):
  WalkO q loose XP YP l.row.toRowW d [] (λf vs=>PySem.call f vs):=by
 intro w s₀ s₁ mg mb G Y fa o pm cd doc dV kV ho hd hcd hD hmg hg args vals as hpre hlay hrd hwl hlo;obtain rfl:dV=.none:=Dflts.none hD hdf;obtain rfl:kV=.none:=Dflts.noKw hD;obtain⟨a,vs,ns,rfl,rfl,hobj,hints,hlen⟩:=S9 hn hpre hwl;refine enter_call (codeAny_mono (call w s₀ s₁ mg mb fa o pm cd doc a vs ns G Y ho (fd_plain hd) hcd hmg hobj hints hlen hg) λr s' hq=>?_);obtain⟨rfl,h2,h3,h4⟩:=hq;exact⟨.inl ⟨.bool true,.bool true,[],rfl,λ_=>rfl,.bool true,Tc l _,λ_=>⟨List.Pairwise.nil,λ_ hm=>(nomatch hm)⟩⟩,h2,h3,h4⟩
section
variable {prog:Program}{w:World}{A:Around}{E:Value->Shared->Prop}{s:Shared}{K:Frag}
end
end Att
namespace L2
open PySem PySem.Spec PyProof.Rows
theorem wZ:∀{vs:List Value}{ns:List Int},IntsAre vs ns->aR (ns.map V.int) vs
 | _,_,.nil=>.nil
 | _,_,.cons n t h=>.cons ⟨t,rfl⟩ (wZ h)
def nj(H:Hp):Prop:=∀b,H b=none\/∃o xs,H b=some (.frz o (.lst xs))
theorem Td{P:Program}{w:World}{K:PySem.W.Frag}{mg mb:Str->Option Value}{CX:CXT}{k:Nat}{fa a:Addr}{fd:FuncData}{x:Str}{sp:Sp}{s₁:Shared}{vs:List Value}{ns:List Int}
  (KX:K.In s₁.heap) (hns:s₁.heap.Ns mainGlobals mg) (hb:s₁.heap.Ns builtinsNs mb) (hbb:∀x:Str,x≠"__name__"->mb x=bootBuiltins x) (hlim:s₁.heap.NoLimit) (hg:s₁.gens = #[])
  (ha:s₁.heap.get? a=some {cls:=.type "list",data:=.seq vs.toArray}) (hi:IntsAre vs ns) (hl:ns.length<=sizeLine) (hr:bD k callerA)
  (F:∀base:Heap,K.In base->base.Ns mainGlobals mg->dH P w K mg base CX k fa fd [x] sp) (hbind:∀(s:Shared) (u:Value),BindsTo s fd ⟨[u],[]⟩ [(x,u)])
  (hsp:∀H:Hp,nj H->SqL K H a (ns.map V.int)->sp [.ref a] H (λv _=>v=.bl true) λ_ _ _=>False)
  (hCX:∀H e s',CX [] H s₁ (λ_ _ _=>False) e s'->False):
  codeAny (model P w) callerA (.call (.ref fa) ⟨[.ref a],[]⟩) (λr s'=>r=.ok (.ret (.bool true))/\OldK s₁.heap s'.heap/\s'.os=s₁.os/\AllBare s'.gens) s₁:=by
 have rv:=wZ hi;have lenV:=hi.length;have core:∀H:Hp,nj H->SqL K H a (ns.map V.int)->HOk P w H s₁.heap->(∀b,H b≠none->b=a)->(H a≠none->K.lookup a=none) ->
   codeAny (model P w) callerA (.call (.ref fa) ⟨[.ref a],[]⟩) (λr s'=>r=.ok (.ret (.bool true))/\OldK s₁.heap s'.heap/\s'.os=s₁.os/\AllBare s'.gens) s₁:=by
  intro H hO hS hok hA hK
  have base_of:∀{b:Addr}{o:Obj},s₁.heap.get? b=some o->H b=none->(gn s₁.heap H).get? b=some o:=λe n=>Er e n
  have noA:∀{b:Addr}{o:Obj}{es:Array DictEntry}{ep:Nat},s₁.heap.get? b=some o->o.data=.dict es ep->H b=none:=λ{b o es ep} e d=>by
   cases q:H b with
   |none=>rfl
   |some u =>
    have e':b=a:=hA b (by rw[q];simp);subst e';rw[ha] at e;cases e;have d':Data.seq vs.toArray _=Data.dict es ep:=d;cases d'
  have nsK:∀{b:Addr}{m:Str->Option Value},s₁.heap.Ns b m->(gn s₁.heap H).Ns b m:=λ{b m} ⟨o,es,ep,e,d,r⟩=>⟨o,es,ep,base_of e (noA e d),d,r⟩
  have hKb:K.In (gn s₁.heap H):=λb o e=>base_of (KX b o e) (by
   cases q:H b with
   |none=>rfl
   |some u =>
    have e':b=a:=hA b (by rw[q];simp);subst e'
    rw[hK (by rw[q];simp)] at e;cases e)
  have hM:Mod K mg (gn s₁.heap H):=⟨hKb,nsK hns,⟨mb,nsK hb,hbb⟩,let ⟨mc,h1,h2⟩:=hlim;⟨mc,nsK h1,h2⟩⟩;have e0:iR P w K mg (gn s₁.heap H) callerA [] s₁ H:=⟨rfl,hM,λb o e=>Es e,Nat.le_of_eq (Ep _ _),trivial,λb hb=>absurd (show b∈([]:List Addr) from hb) (by simp),hok,.of_eq hg⟩
  refine codeAny_mono ((F _ hKb (nsK hns)).run callerA [] s₁ H ⟨[.ref a],[]⟩ [.ref a] [.ref a] _ _ hr e0 (hbind s₁ (.ref a)) (.cons rfl .nil) (hsp H hO hS)) λr s' h=>?_
  cases r with
  |error e=>exact(hCX H e s' h).elim
  |ok fl =>
   cases fl with
   |next=>exact False.elim h
   |brk=>exact False.elim h
   |cont=>exact False.elim h
   |ret u =>
    obtain⟨v,H',os,bare,un,hok',r',q⟩:=h;have q':v=.bl true:=q;subst q';obtain rfl:u=Value.bool true:=r';refine⟨rfl,OldK.of_keep λb o e=>?_,os,bare⟩
    cases q:H b with
    |none=>exact un.keep b o e q (by intro z;exact absurd (show b∈([]:List Addr) from z) (by simp)) (by simp)
    |some u =>
     rcases hO b with z | ⟨ob,xs,z⟩
     ·rw[q] at z;cases z
     ·have z2:=un.frzs b ob _ z;obtain⟨e1,_⟩:=hok b _ z;obtain⟨e2,_⟩:=hok' b _ z2;rw[e] at e1;cases e1;exact e2
 cases hk:K.lookup a with
 |some o =>
  have e:=KX a o hk;rw[ha] at e;cases e
  refine core (λ_=>none) (λ_=>.inl rfl) (.inr ⟨_,vs.toArray,_,hk,rfl,rfl,rfl,by rw[zr,lenV];exact hl,by simpa using rv⟩) (λb u z=>by have z':(none:Option HO)=some u:=z;cases z') (λb z=>absurd rfl z) λz=>absurd rfl z
 |none =>
  refine core (λb=>if b=a then some (.frz {cls:=.type "list",data:=.seq vs.toArray} (.lst (ns.map V.int))) else none) (λb=>?_) (.inl (.inr ⟨{cls:=.type "list",data:=.seq vs.toArray},if_pos rfl⟩)) (λb u z=>?_) (λb z=>?_) λ_=>hk
  ·by_cases hb:b=a
   ·exact .inr ⟨_,_,if_pos hb⟩
   ·exact .inl (if_neg hb)
  ·by_cases hb:b=a
   ·have z':=(if_pos hb).symm.trans z;cases z';subst hb;exact⟨ha,by rw[ze];exact hl,vs,_,rv,ha⟩
   ·have z':=(if_neg hb).symm.trans z;cases z'
  ·by_cases hb:b=a
   ·exact hb
   ·exact absurd (if_neg hb) z
abbrev KOf{K:PySem.W.Frag}{h:Heap}(_:K.In h):PySem.W.Frag:=K
theorem walk_of{l:PySem.W.OpenLaw}{n k:Nat}{q:Program}{loose:List Str}{XP:(Str->Option Value)->Heap->Prop}{YP:World->Heap->Prop}{d:DefRec}{K:Params->PySem.W.Frag}{CX:World->CXT}{sp:World->Sp}{x:Str}
  (hn:l.most=some n) (hn2:n<=sizeLine) (hdf:d.params.defaults=[]) (hr:bD k callerA)
  (hY:∀(w:World) (h:Heap),YP w h->(K w.params).In h)
  (F:∀(w:World) (mg:Str->Option Value) (fa:Addr) (h:Heap),(K w.params).In h->h.Ns mainGlobals mg->mg d.name=some (.ref fa) ->
   ∃fd:FuncData,(∀(s:Shared) (u:Value),BindsTo s fd ⟨[u],[]⟩ [(x,u)]) /\
    ∀base:Heap,(K w.params).In base->base.Ns mainGlobals mg->dH l.prog w (K w.params) mg base (CX w) k fa fd [x] (sp w))
  (hsp:∀(w:World) (H:Hp) (a:Addr) (ns:List Int),ns.length<=n->nj H->SqL (K w.params) H a (ns.map V.int)->sp w [.ref a] H (λv _=>v=.bl true) λ_ _ _=>False)
  (hCX:∀(w:World) (H:Hp) (s:Shared) (e:Value) (s':Shared),CX w [] H s (λ_ _ _=>False) e s'->False):
  PySem.W.WalkO q loose XP YP l.row.toRowW d [] (λf vs=>PySem.call f vs):=by
 refine Att.attach_call hn hdf λw s₀ s₁ mg mb fa o pm cd doc a vs ns G Y ho hd hcd hmg hobj hints hlen hg=>?_
 have KX:=hY w _ Y;obtain⟨fd,hb,hF⟩:=F w mg fa _ KX G.T.g hmg
 exact Td KX G.T.g G.T.b G.T.builtins G.T.nolimit hg hobj hints (zH hlen hn2) hr hF hb (λH hO hS=>hsp w H a ns hlen hO hS) λH e s'=>hCX w H s₁ e s'
end L2
/- THE LAST THEOREM (shape;LID,My.* are yours):
   My.Adr: a structure of the addresses that your layer names (classes,functions);My.Txt K t: a structure (Prop) of the equations over K;
   My.txt_mk:{K}{implicit addresses ..} (e1:nsIn K mainGlobals "law" = some (some (.ref f))) (e2:K.lookup f=some ⟨oc,od,.func (fnOf "law" "law" params body scope dV kV doc pm an cdv ct),sl⟩) (e3:codeIn K cdv "law" = true) ..:∃t,My.Txt K t
set_option maxRecDepth 100000 in
set_option maxHeartbeats 0 in
theorem PySem.Challenge.cw_LID_holds : PySem.Challenge.rw_LID.Holds := by
 w_on;o_law;k_head;(case hw=>w_witness2)
 k_fill
 refine L2.walk_of (l:=PySem.Challenge.rw_LID) (n:=63) (k:=40) (x:="script") (CX:=λw=>..) (sp:=λ_=>My.sp_law) rfl (by decide) rfl ⟨rfl,by decide,by decide⟩ (λw h Y=>PySem.W.kIn_of Y) ?F ?S ?C
 case F =>
  intro w mg fa h KX G hmg
  have T:∃t,My.Txt (L2.KOf KX) t:=by
   dsimp only[L2.KOf]                          -- K must stand as «<heap const> w.params» for k_is
   refine' My.txt_mk ?e1 ?e2 ?e3 ..
   (case e1=>PySem.W.k_is)                    -- in the order: a name -> its address -> its object -> its parts
   (case e2=>PySem.W.k_is)
   ..
  obtain⟨t,T⟩:=T;have e0:=hmg.symm.trans (PySem.W.mg_of KX G T.law);cases e0                                       -- fa is the law's own address
  exact⟨_,λs u=>.of_eq rfl,λbase kb nb=>My.law_fn T kb nb⟩     -- if «.of_eq rfl» comes too early: refine'⟨_,?b,λbase kb nb=>My.law_fn T kb nb⟩;exact λs u=>.of_eq rfl
 case S=>exact λw H a ns hl hO hS=>..
 case C=>exact ..
(the tactic k_is has no namespace: write k_is) -/
namespace L2
open PySem PySem.Spec PyProof.Rows
def inClass(s:Stmt)(j:Nat):Stmt:=match s with
 | .ClassDef _ _ _ body _ _ _ _ _ _ _=>body.getD j (.Pass ⟨0,0,0,0⟩)
 | _=>.Pass ⟨0,0,0,0⟩
def iz(s:Stmt):Arguments:=match s with
 | .FunctionDef _ a _ _ _ _ _ _ _ _=>a
 | _=>{posonlyargs:=[],args:=[],vararg:=none,kwonlyargs:=[],kw_defaults:=[],kwarg:=none,defaults:=[]}
def fB(s:Stmt):List Stmt:=match s with
 | .FunctionDef _ _ b _ _ _ _ _ _ _=>b
 | _=>[]
def aY(s:Stmt):Scope:=match s with
 | .FunctionDef _ _ _ _ _ _ sc _ _ _=>sc
 | _=>{kind:=.function,names:=[],isGenerator:=false,isCoroutine:=false}
abbrev CX0:CXT:=λ_ _ _ _ _ _=>False
abbrev E0:XK:=λ_ _ _=>False
theorem t8{X:Cx}:m6 CX0 X E0:=λ_ _ _ _ _ _ _ h=>h.elim
structure Fun(K:PySem.W.Frag)(x qual:Str)(st:Stmt)(f:Addr)(fd:FuncData):Prop where
 ex:∃(oc:Value) (od:Option Addr) (kV doc pm:Value) (an:Option Addr) (cdv ct:Value) (osl:Array (Option Value)),
  fd=PySem.W.fnOf x qual (iz st) (fB st) (aY st) .none kV doc pm an cdv ct/\K.lookup f=some ⟨oc,od,.func fd,osl⟩/\PySem.W.codeIn K cdv qual=true
 kp:PySem.W.keepIn K (.ref f)=true
section
variable {P:Program}{w:World}{K:PySem.W.Frag}{mg:Str->Option Value}{base:Heap}
theorem Fun.ok{x qual:Str}{st:Stmt}{f:Addr}{fd:FuncData}{N ps:List Str}{k:Nat}{sp:Sp}(F:Fun K x qual st f fd)(S:bK N ps (aY st))(len:∀vs H Q E,sp vs H Q E->vs.length=ps.length)
  (hbody:∀(cdv:Value) (A:Around) (outer:List Env) (s:Shared) (H:Hp) (vs:List V) (Q:VK) (E:XK),bD k (A.deeper (envOfC qual (aY st) s.heap.objs.size f cdv))->sp vs H Q E ->
   ∃t,PSs (iT CX0 P w K mg base N qual (aY st) f cdv A outer s H E).nox (fB st) t/\t {nx:=λ_ H'=>Q .non H',rt:=Q} (start N vs) H):dH P w K mg base CX0 (k+1) f fd ps sp:=by
 obtain⟨oc,od,kV,doc,pm,an,cdv,ct,osl,rfl,lk,hcd⟩:=F.ex
 refine RP lk hcd S len λA outer s H vs Q E hr hsp=>?_
 obtain⟨t,h,q⟩:=hbody cdv A outer s H vs Q E hr hsp;exact⟨t,h.nox,q⟩
theorem Fun.binds{x qual:Str}{st:Stmt}{f:Addr}{fd:FuncData}{ps:List Str}(F:Fun K x qual st f fd)
  (h:∀(kV doc pm:Value) (an:Option Addr) (cdv ct:Value) (us:List Value),us.length=ps.length->bindArgs (PySem.W.fnOf x qual (iz st) (fB st) (aY st) .none kV doc pm an cdv ct) ⟨us,[]⟩=pure (ps.zip us)):Binds K fd ps []:=by
 obtain⟨oc,od,kV,doc,pm,an,cdv,ct,osl,rfl,lk,hcd⟩:=F.ex;exact .all (h kV doc pm an cdv ct)
theorem w5{x qual:Str}{st:Stmt}{f:Addr}{oc:Value}{od an:Option Addr}{osl:Array (Option Value)}{kV doc pm cdv ct:Value}(l:K.lookup f=some ⟨oc,od,.func (PySem.W.fnOf x qual (iz st) (fB st) (aY st) .none kV doc pm an cdv ct),osl⟩)
  (c:PySem.W.codeIn K cdv qual=true) (k:PySem.W.keepIn K (.ref f)=true):Fun K x qual st f (PySem.W.fnOf x qual (iz st) (fB st) (aY st) .none kV doc pm an cdv ct):=⟨⟨oc,od,kV,doc,pm,an,cdv,ct,osl,rfl,l,c⟩,k⟩
end
theorem uc{A:Around}{k:Nat}(hr:bD k A):A.units+1<cLine:=Nat.lt_of_le_of_lt (Nat.add_le_add_left (by decide:1<=64) _) hr.units
section
variable {X:Cx}
end
def Same(H H':Hp):Prop:=∀b o,H b=some o->H' b=some o
theorem Same.refl(H:Hp):Same H H:=λ_ _ h=>h
theorem Same.trans{H H1 H2:Hp}(a:Same H H1)(b:Same H1 H2):Same H H2:=λc o h=>b c o (a c o h)
theorem Same.free{H H':Hp}(e:Same H H'){l:Addr}(h:H' l=Option.none):H l=Option.none:=by
 cases q:H l with
 |none=>rfl
 |some o =>
  rw[e l o q] at h;cases h
theorem Same.seq{K:PySem.W.Frag}{H H':Hp}{a:Addr}{xs:List V}(e:Same H H')(h:SqL K H a xs):SqL K H' a xs:=by
 rcases h with(h | ⟨o,h⟩) | h
 ·exact .inl (.inl (e _ _ h))
 ·exact .inl (.inr ⟨o,e _ _ h⟩)
 ·exact .inr h
section
variable {κ:Type}[DecidableEq κ]
def gq(kvs:List (κ×V))(k:κ):Option V:=(kvs.find? λkv=>decide (kv.1=k)).map (·.2)
def putK(kvs:List (κ×V))(k:κ)(v:V):List (κ×V):=
 if(kvs.any λkv=>decide (kv.1=k))=true then kvs.map (λkv=>if kv.1=k then(kv.1,v) else kv) else kvs++[(k,v)]
def Gk(kvs:List (κ×V))(k:κ):List (κ×V):=kvs.filter λkv=>decide (kv.1≠k)
theorem ud{p:κ×V}{r:List (κ×V)}{k:κ}(e:p.1=k):gq (p::r) k=some p.2:=by simp[gq,List.find?_cons,e]
theorem ue{p:κ×V}{r:List (κ×V)}{k:κ}(e:¬p.1=k):gq (p::r) k=gq r k:=by simp[gq,List.find?_cons,e]
theorem Gm(k:κ):∀kvs:List (κ×V),(kvs.any λkv=>decide (kv.1=k))=(gq kvs k).isSome
 | []=>rfl
 |p::r=>by
  rw[List.any_cons]
  by_cases e:p.1=k
  ·simp only[ud e,zh e,Bool.true_or,Option.isSome_some]
  ·rw[ue e,zg e,Bool.false_or];exact Gm k r
theorem Gn(kvs:List (κ×V))(k:κ)(v:V):(putK kvs k v).length<=kvs.length+1:=by
 unfold putK
 split
 ·rw[ze];omega
 ·rw[zF,zx,zV];omega
theorem fj.isSome_eq{o:Option V}{u:Option Value}(r:fj o u):o.isSome=u.isSome:=by
 cases o with
 |none=>cases u with
  |none=>rfl
  |some _=>exact(show False from r).elim
 |some _=>cases u with
  |none=>exact(show False from r).elim
  |some _=>rfl
theorem fj.getD{o:Option V}{u:Option Value}{d:V}{d':Value}(r:fj o u)(rd:RelV d d'):RelV (o.getD d) (u.getD d'):=by
 cases o with
 |none=>cases u with
  |none=>exact rd
  |some _=>exact(show False from r).elim
 |some _=>cases u with
  |none=>exact(show False from r).elim
  |some _=>exact r
theorem KV.val{kvs:List (κ×V)}{vs:List (κ×Value)}(r:KV kvs vs)(k:κ):fj (gq kvs k) (valueAt vs k):=by
 unfold KV at r
 induction r with
 |nil=>exact True.intro
 | @cons p q ps qs h t ih =>
  obtain⟨h1,h2⟩:=h
  by_cases e:p.1=k
  ·have e':q.1=k:=h1.symm.trans e
   have b:valueAt (q::qs) k=some q.2:=by simp[valueAt,List.find?_cons,e']
   rw[ud e,b];exact h2
  ·have e':¬q.1=k:=λz=>e (h1.trans z)
   have b:valueAt (q::qs) k=valueAt qs k:=by simp[valueAt,List.find?_cons,e']
   rw[ue e,b];exact ih
theorem KV.any{kvs:List (κ×V)}{vs:List (κ×Value)}(r:KV kvs vs)(k:κ):(kvs.any λkv=>decide (kv.1=k))=vs.any λkv=>decide (kv.1=k):=by
 unfold KV at r
 induction r with
 |nil=>rfl
 |cons h t ih=>rw[List.any_cons,List.any_cons,ih,h.1]
theorem KV.repl{kvs:List (κ×V)}{vs:List (κ×Value)}(r:KV kvs vs)(k:κ){y:V}{u:Value}(ry:RelV y u):
  KV (kvs.map λkv=>if kv.1=k then(kv.1,y) else kv) (vs.map λkv=>if kv.1=k then(kv.1,u) else kv):=by
 unfold KV at r ⊢
 induction r with
 |nil=>exact .nil
 | @cons p q ps qs h t ih =>
  rw[zd,zd];refine .cons ?_ ih;obtain⟨h1,h2⟩:=h
  by_cases e:p.1=k
  ·rw[if_pos e,if_pos (h1.symm.trans e)];exact⟨h1,ry⟩
  ·rw[if_neg e,if_neg (λz=>e (h1.trans z))];exact⟨h1,h2⟩
theorem KV.put{kvs:List (κ×V)}{vs:List (κ×Value)}(r:KV kvs vs)(k:κ){y:V}{u:Value}(ry:RelV y u):KV (putK kvs k y) (stored vs k u):=by
 unfold putK stored;rw[r.any k]
 by_cases e:(vs.any λkv=>decide (kv.1=k))=true
 ·rw[if_pos e,if_pos e];exact r.repl k ry
 ·rw[if_neg e,if_neg e];exact Paired.snoc r ⟨rfl,ry⟩
theorem KV.drop{kvs:List (κ×V)}{vs:List (κ×Value)}(r:KV kvs vs)(k:κ):KV (Gk kvs k) (without vs k):=by
 unfold KV at r ⊢;unfold Gk without
 induction r with
 |nil=>exact .nil
 | @cons p q ps qs h t ih =>
  obtain⟨h1,h2⟩:=h;rw[List.filter_cons,List.filter_cons]
  by_cases e:p.1=k
  ·have a:¬decide (p.1≠k)=true:=by simp[e]
   have b:¬decide (q.1≠k)=true:=by simp[h1.symm.trans e]
   rw[if_neg a,if_neg b];exact ih
  ·have e':¬q.1=k:=λz=>e (h1.trans z)
   have a:decide (p.1≠k)=true:=by simp[e]
   have b:decide (q.1≠k)=true:=by simp[e']
   rw[if_pos a,if_pos b];exact .cons ⟨h1,h2⟩ ih
theorem KV.keys{kvs:List (κ×V)}{vs:List (κ×Value)}(r:KV kvs vs):kvs.map (·.1)=vs.map (·.1):=by
 unfold KV at r
 induction r with
 |nil=>rfl
 |cons h t ih=>rw[zd,zd,ih,h.1]
theorem KV.length{kvs:List (κ×V)}{vs:List (κ×Value)}(r:KV kvs vs):kvs.length=vs.length:=Paired.length r
end
theorem uf{P:Program}{w:World}{k:Key}{u:Value}(r:RelV (kV k) u):(fK P w).is k u=true:=by
 cases k with
 |inl i=>obtain⟨t,e⟩:=(show ∃t,u=Value.int i t from r);subst e;exact Om P w i t
 |inr x=>obtain⟨t,e⟩:=(show ∃t,u=Value.str x t from r);subst e;exact Oo P w x t
theorem Gp{P:Program}{w:World}:∀{ks:List Key}{us:List Value},aR (ks.map kV) us->ItemsAre (fK P w) ks us
 | [],_,r=>by rw[zC] at r;cases r;exact .nil
 |k::ks,_,r=>by
  rw[zd] at r
  cases r with
  |cons h t=>exact .cons (uf h) (Gp t)
abbrev KT(H:Hp):List (List Key×V)->List (List Key×Addr×Value)->Prop:=Paired λp q=>p.1=q.1/\H q.2.1=some (.tup (p.1.map kV))/\RelV p.2 q.2.2
theorem KT.val{H:Hp}{kvs:List (List Key×V)}{xs:List (List Key×Addr×Value)}(r:KT H kvs xs)(k:List Key):fj (gq kvs k) ((atKey xs k).map (·.2)):=by
 induction r with
 |nil=>exact True.intro
 | @cons p q ps qs h t ih =>
  obtain⟨h1,_,h2⟩:=h
  by_cases e:p.1=k
  ·have e':q.1=k:=h1.symm.trans e
   have b:atKey (q::qs) k=some q.2:=by simp[atKey,List.find?_cons,e']
   rw[ud e,b];exact h2
  ·have e':¬q.1=k:=λz=>e (h1.trans z)
   have b:atKey (q::qs) k=atKey qs k:=by simp[atKey,List.find?_cons,e']
   rw[ue e,b];exact ih
theorem KT.repl{H:Hp}{kvs:List (List Key×V)}{xs:List (List Key×Addr×Value)}(r:KT H kvs xs)(k:List Key){y:V}{u:Value}(ry:RelV y u):
  KT H (kvs.map λkv=>if kv.1=k then(kv.1,y) else kv) (xs.map (putAt k u)):=by
 induction r with
 |nil=>exact .nil
 | @cons p q ps qs h t ih =>
  rw[zd,zd];refine .cons ?_ ih;obtain⟨h1,h2,h3⟩:=h;unfold putAt
  by_cases e:p.1=k
  ·rw[if_pos e,if_pos (h1.symm.trans e)];exact⟨h1,h2,ry⟩
  ·rw[if_neg e,if_neg (λz=>e (h1.trans z))];exact⟨h1,h2,h3⟩
theorem KT.put{H:Hp}{kvs:List (List Key×V)}{xs:List (List Key×Addr×Value)}(r:KT H kvs xs)(k:List Key){b:Addr}{y:V}{u:Value}(hb:H b=some (.tup (k.map kV)))(ry:RelV y u):
  KT H (putK kvs k y) (storedH xs k b u):=by
 have e:(kvs.any λkv=>decide (kv.1=k))=(atKey xs k).isSome:=by
  rw[Gm,(r.val k).isSome_eq,Option.isSome_map]
 unfold putK storedH;rw[e]
 by_cases q:(atKey xs k).isSome=true
 ·rw[if_pos q,if_pos q];exact r.repl k ry
 ·rw[if_neg q,if_neg q];exact Paired.snoc r ⟨rfl,hb,ry⟩
theorem KT.keeps{H H':Hp}{kvs:List (List Key×V)}{xs:List (List Key×Addr×Value)}(r:KT H kvs xs)(ht:∀b ys,H b=some (.tup ys)->H' b=some (.tup ys)):KT H' kvs xs :=
 Paired.mapP r λ_ _ z=>⟨z.1,ht _ _ z.2.1,z.2.2⟩
section
variable {P:Program}{w:World}{H:Hp}{h:Heap}{a:Addr}
theorem Gq{u:HO}(ok:HOk P w H h)(e:Rd H a u):cN P w H h a u:=e.ok ok
theorem qR{kvs:List (Key×V)}(ok:HOk P w H h)(e:Rd H a (.dK kvs)):kvs.length<=sizeLine/\(a == sysModules)=false/\∃vs,KV kvs vs/\h.DictOf (fK P w) a vs :=
 show cN P w H h a (.dK kvs) from Gq ok e
theorem Te{kvs:List (Key×V)}(ok:HOk P w H h)(e:H a=some (.dK kvs)):kvs.length<=sizeLine/\(a == sysModules)=false/\∃vs,KV kvs vs/\h.DictOf (fK P w) a vs:=qR ok (.inl e)
theorem ug{ks:List Key}(ok:HOk P w H h)(e:H a=some (.tup (ks.map kV))):(tupleKind (fK P w)).is h ks a:=by
 obtain⟨_,its,r,o,h1,h2,n,h3⟩:=(show cN P w H h a (.tup (ks.map kV)) from ok a _ e);exact⟨o,its.toArray,n,h1,h2,h3,by simpa using Gp r⟩
theorem nu{kvs:List (List Key×V)}(ok:HOk P w H h)(e:Rd H a (.dT kvs)):kvs.length<=sizeLine/\(a == sysModules)=false /\
  ∃xs,KT H kvs xs/\h.DictOfH (tupleKind (fK P w)) a xs:=by
 obtain⟨z,y,xs,r,o,es,ep,h1,h2,h3,h4,h5⟩:=(show cN P w H h a (.dT kvs) from Gq ok e);refine⟨z,y,xs,r,o,es,ep,h1,h2,h3,h4,λx hx=>?_,h5⟩
 have all:∀{l:List (List Key×V)}{m:List (List Key×Addr×Value)},KT H l m->∀x∈m,(tupleKind (fK P w)).is h x.1 x.2.1:=by
  intro l m q
  induction q with
  |nil=>intro x hx;exact nomatch hx
  | @cons p q ps qs hq t ih =>
   intro x hx
   rcases zn.mp hx with e | hx
   ·subst e;exact ug ok (by rw[<-hq.1];exact hq.2.1)
   ·exact ih x hx
 exact all r x hx
theorem Tf{kvs:List (List Key×V)}(ok:HOk P w H h)(e:H a=some (.dT kvs)):kvs.length<=sizeLine/\(a == sysModules)=false /\
  ∃xs,KT H kvs xs/\h.DictOfH (tupleKind (fK P w)) a xs:=nu ok (.inl e)
end
def iU(H:Hp)(a:Addr)(y:V)(r:Option V):Prop :=
 (∃kvs k,Rd H a (.dK kvs)/\y=kV k/\r=gq kvs k)\/∃kvs k b,Rd H a (.dT kvs)/\y=.ref b/\H b=some (.tup (k.map kV))/\r=gq kvs k
def nA(H:Hp)(a:Addr)(y v:V)(H':Hp):Prop :=
 (∃kvs k,H a=some (.dK kvs)/\y=kV k/\kvs.length<sizeLine/\H'=upd H a (.dK (putK kvs k v))) \/
 ∃kvs k b,H a=some (.dT kvs)/\y=.ref b/\H b=some (.tup (k.map kV))/\kvs.length<sizeLine/\H'=upd H a (.dT (putK kvs k v))
theorem iU.k{H:Hp}{a:Addr}{kvs:List (Key×V)}{k:Key}(e:H a=some (.dK kvs)):iU H a (kV k) (gq kvs k):=.inl ⟨kvs,k,.inl e,rfl,rfl⟩
theorem iU.t{H:Hp}{a b:Addr}{kvs:List (List Key×V)}{k:List Key}(e:H a=some (.dT kvs))(eb:H b=some (.tup (k.map kV))):iU H a (.ref b) (gq kvs k):=.inr ⟨kvs,k,b,.inl e,rfl,eb,rfl⟩
theorem nA.k{H:Hp}{a:Addr}{kvs:List (Key×V)}{k:Key}{v:V}(e:H a=some (.dK kvs))(hl:kvs.length<sizeLine):nA H a (kV k) v (upd H a (.dK (putK kvs k v))):=.inl ⟨kvs,k,e,rfl,hl,rfl⟩
theorem nA.t{H:Hp}{a b:Addr}{kvs:List (List Key×V)}{k:List Key}{v:V}(e:H a=some (.dT kvs))(eb:H b=some (.tup (k.map kV)))(hl:kvs.length<sizeLine):
  nA H a (.ref b) v (upd H a (.dT (putK kvs k v))):=.inr ⟨kvs,k,b,e,rfl,eb,hl,rfl⟩
section
variable {X:Cx}{pins:List (Addr×Obj)}{σ:St}{H:Hp}{s:Shared}{a:Addr}{y v:V}{u r:Value}{o:Option V}{A:Around}{E:Value->Shared->Prop}
theorem Inv.big(I:Inv X pins σ H s):sysModules<s.heap.objs.size:=by
 have h:mainGlobals<s.heap.objs.size:=(I.mod.glob.keeps I.bk).lt;exact Nat.lt_trans (by decide) h
theorem Tg{Q:Value->Shared->Prop}(hu:A.units+1<cLine)(I:Inv X pins σ H s)(g:iU H a y (some v))(ry:RelV y u)(h:∀w' s',Inv X pins σ H s'->RelV v w'->Q w' s'):
  wpAny (model X.prog X.w) A (getItem (.ref a) u) Q E s:=by
 rcases g with⟨kvs,k,e,ey,l⟩ | ⟨kvs,k,b,e,ey,eb,l⟩
 ·subst ey;obtain⟨z,hd,vs,rel,dd⟩:=qR I.hok e;obtain⟨w',hw,rw'⟩:=fj.some_of (v:=v) (o:=valueAt vs k) (by rw[l];exact rel.val k);exact wpAny_getItem_of (uf ry) dd.mapOf hw (h w' _ (I.tok _) rw')
 ·subst ey;cases(show u=Value.ref b from ry);obtain⟨z,hd,xs,rel,dd⟩:=nu I.hok e;obtain⟨w',hw,rw'⟩:=fj.some_of (v:=v) (o:=(atKey xs k).map (·.2)) (by rw[l];exact rel.val k);obtain⟨p,hp,hp2⟩:=Option.map_eq_some_iff.mp hw;refine wpAny_getItem_heap (tupleKind_room_in1 hu) (ug I.hok eb) dd hp ?_;rw[hp2];exact h w' _ (I.tok _) rw'
theorem Gs{h':Heap}{t':Nat}{ob:HO}(I:Inv X pins σ H s)(mu:Mut (H a))(hs:Heap.SameBut a s.heap h')(he:∃q,h'.get? a=some q)(new:cN X.prog X.w (upd H a ob) h' a ob):
  Inv X pins σ (upd H a ob) {s with heap:=h',toks:=t'}:=
 I.write (x:=a) (e:=a) mu (.inl rfl) (λb q hb z=>(hs.2 b hb).trans z) he new
theorem Th{P:Program}{w:World}{H':Hp}{h':Heap}{kvs:List (Key×V)}{vs:List (Key×Value)}(z:kvs.length<=sizeLine)(hd:(a == sysModules)=false)(rel:KV kvs vs)(dd:h'.DictOf (fK P w) a vs):
  cN P w H' h' a (.dK kvs):=⟨z,hd,vs,rel,dd⟩
theorem Ti{H':Hp}{Q:Unit->Shared->Prop}(hu:A.units+1<cLine)(I:Inv X pins σ H s)(g:nA H a y v H')(ry:RelV y u)(rv:RelV v r)(h:∀s',Inv X pins σ H' s'->Q () s'):
  wpAny (model X.prog X.w) A (setItem (.ref a) u r) Q E s:=by
 rcases g with⟨kvs,k,e,ey,l,eH⟩ | ⟨kvs,k,b,e,ey,eb,l,eH⟩
 ·subst ey eH;obtain⟨z,hd,vs,rel,dd⟩:=Te I.hok e
  have hz:vs.length<=sizeLine:=by rw[<-rel.length];exact z
  have hl:(putK kvs k v).length<=sizeLine:=by have:=Gn kvs k v;omega
  refine wpAny_setItem_pairs (hsz:=hz) (uf ry) dd λh' dd' hs=>h _ ?_
  have he:∃q,h'.get? a=some q:=let ⟨q,_,_,hq,_⟩:=dd';⟨q,hq⟩;exact Gs I (by rw[e];exact True.intro) hs he (Th hl hd (rel.put k rv) dd')
 ·subst ey eH;cases(show u=Value.ref b from ry);obtain⟨z,hd,xs,rel,dd⟩:=Tf I.hok e
  have hz:xs.length<=sizeLine:=by rw[<-Paired.length rel];exact z
  have hl:(putK kvs k v).length<=sizeLine:=by have:=Gn kvs k v;omega
  refine wpAny_setItem_heap (hsz:=hz) (tupleKind_room_in1 hu) (ug I.hok eb) dd λh' dd' hs=>h _ ?_
  obtain⟨q,es,ep,hq,h2,h3,h4,_,h5⟩:=dd';refine Gs I (by rw[e];exact True.intro) hs ⟨q,hq⟩ ⟨hl,hd,_,(rel.put k eb rv).keeps λc ys ec=>?_,q,es,ep,hq,h2,h3,h4,h5⟩;rw[aP (ne_of ec e (λz=>nomatch z))];exact ec
end
section
variable {X:Cx}{pins:List (Addr×Obj)}{σ:St}{H:Hp}{s:Shared}{a:Addr}{kvs:List (Key×V)}{k:Key}{u:Value}{A:Around}{E:Value->Shared->Prop}
end
def Gu(i:Expr):Prop:=∀ov iv,subscripted i false ov iv=operate [ov,iv] (getItem ov iv)
theorem Tj{prog:Program}{w:World}{A:Around}{E:Value->Shared->Prop}{s:Shared}{env:Env}{value slice:Expr}{pos:Pos}{T id:String}{Q:Value->Shared->Prop}
  (hl:typeLookup (.type T) "__getitem__" = pure (some (.builtin id))) (hs:Gu slice)
  (h:wpAny (model prog w) A (eval value env) (λo s₁=>wpAny (model prog w) A (eval slice env) (λi s₂=>s₂.TypeIs o T/\wpAny (model prog w) A (getItem o i) Q E s₂) E s₁) E s):
  wpAny (model prog w) A (eval (.Subscript value slice pos) env) Q E s:=by
 refine Subscript_ (zL h (λo s₁ h₁=>zL h₁ (λi s₂ h₂=>?_) λ_ _ x=>x) λ_ _ x=>x);obtain⟨hT,h₂⟩:=h₂;unfold subscriptTail;refine za ?_;rw[getitemInPython_of_ne hT.not_modules];refine za (wpAny_specialOf hT hl ?_)
 have fin:wpAny (model prog w) A (subscripted slice false o i) (λr s₃=>wpAny (model prog w) A (letTemporaryGo value o r >>= λ_=>pure r) Q E s₃) E s₂:=by
  rw[hs o i];exact wpAny_operating (zL h₂ (λr s₃ h₃=>za (wpAny_letTemporaryGo (zb h₃))) λ_ _ x=>x)
 first
  | exact zb (za fin)
  | exact za (zb (za fin))
  | exact za fin
theorem Tn{X:Cx}{pins:List (Addr×Obj)}{σ:St}{H:Hp}{s:Shared}{a:Addr}{y:V}{o:Option V}(I:Inv X pins σ H s)(g:iU H a y o):s.TypeIs (.ref a) "dict":=by
 rcases g with⟨kvs,k,e,_,_⟩ | ⟨kvs,k,b,e,_,_,_⟩
 ·obtain⟨_,_,vs,_,dd⟩:=qR I.hok e;exact dd.typeIs
 ·obtain⟨_,_,xs,_,dd⟩:=nu I.hok e;exact dd.typeIs
def Tp(td ty:TE):TE:=λσ H Q=>td σ H λx H1=>ty σ H1 λy H2=>∃a v,x=.ref a/\iU H2 a y (some v)/\Q v H2
def Tq(td ty tv:TE):TS:=λD σ H=>tv σ H λv H1=>td σ H1 λx H2=>ty σ H2 λy H3=>∃a H4,x=.ref a/\nA H3 a y v H4/\D.nx σ H4
section
variable {X:Cx}{o i e value:Expr}{pos pos' tpos:Pos}{td ty tv:TE}
theorem Gv(hu:X.A.units+1<cLine)(ho:PE X o td)(hi:PE X i ty)(hs:Gu i):PE X (.Subscript o i pos) (Tp td ty):=by
 intro pins s σ H Q I h;refine Tj PySem.F.slot_dict_getitem.lookup hs (thn (ho pins s σ H _ I h) λu s1 ⟨x,H1,I1,rx,q1⟩=>thn (hi pins s1 σ H1 _ I1 q1) λiv s2 ⟨y,H2,I2,ry,a,v,ex,g,q2⟩=>?_);subst ex;obtain rfl:u=Value.ref a:=rx;exact⟨Tn I2 g,Tg hu I2 g ry λw' s3 I3 rw'=>⟨v,H2,I3,rw',q2⟩⟩
theorem Tt(hu:X.A.units+1<cLine)(ho:PE X o td)(hi:PE X i ty)(hv:PE X value tv)(hs:swapsWith value (some (.Subscript o i pos')) pos.line X.env=pure false):
  PS X (.Assign [.Subscript o i pos'] value pos) (Tq td ty tv):=by
 intro pins s σ H D I h;refine wpAny_Assign_Subscript (thn (hv pins s σ H _ I h) λr s1 ⟨v,H1,I1,rv,q1⟩=>thn (ho pins s1 σ H1 _ I1 q1) λu s2 ⟨x,H2,I2,rx,q2⟩=>thn (hi pins s2 σ H2 _ I2 q2) λiv s3 ⟨y,H3,I3,ry,a,H4,ex,g,q3⟩=>?_) hs;subst ex;obtain rfl:u=Value.ref a:=rx
 exact Ti hu I3 g ry rv λs4 I4=>⟨σ,H4,I4,q3⟩
end
theorem Tu{P:Program}{w:World}{H:Hp}(h:Heap)(hb:sysModules<h.objs.size):cN P w H (h.push {cls:=.type "dict",data:=.dict #[]}) h.objs.size (.dT []):=
 ⟨Nat.zero_le _,beq_eq_false_iff_ne.mpr (Ne.symm (zu hb)),[],.nil,_,#[],0,zz _ rfl,⟨rfl,rfl,rfl⟩,rfl,rfl,List.nodup_nil⟩
def Tv:TE:=λ_ H Q=>∀p,H p=none->Q (.ref p) (upd H p (.dT []))
section
variable {X:Cx}{pos:Pos}
theorem Tw:PE X (.Dict [] [] pos) Tv:=λpins s σ H Q I h =>
 wpAny_Dict_empty ⟨.ref s.heap.objs.size,_,I.laid (a:=s.heap.objs.size) (o:=.dT []) (t':=s.toks) (λ_ _ q=>zk _ q) (zc _) (Tu s.heap I.big),rfl,h _ (I.hok.fresh (zc _))⟩
end
def w6:List (TE×TE)->St->Hp->(List (V×V)->Hp->Prop)->Prop
 | [],_,H,Q=>Q [] H
 | (tk,tv)::r,σ,H,Q=>tk σ H λx H1=>tv σ H1 λy H2=>w6 r σ H2 λps H3=>Q ((x,y)::ps) H3
abbrev VV:List (V×V)->List (Value×Value)->Prop:=Paired λp q=>RelV p.1 q.1/\RelV p.2 q.2
def PPs(X:Cx)(pos:Pos)(keys:List (Option Expr))(values:List Expr)(trs:List (TE×TE)):Prop :=
 ∀(pins:List (Addr×Obj)) (s:Shared) (σ:St) (H:Hp) (Q:List (V×V)->Hp->Prop),Inv X pins σ H s->w6 trs σ H Q ->
  wpAny (model X.prog X.w) X.A (evalPairs (pairTrees keys values X.env pos)) (λvs s'=>∃ps H',Inv X pins σ H' s'/\VV ps vs/\Q ps H') X.xe s
structure M1(X:Cx)(o:Expr)(m:Str)(apos:Pos)(e:Expr)(cpos:Pos):Prop where
 base:attributeBase o m X.env (eval o X.env)=eval o X.env
 few:((backTo cpos (starEach [e] X.env)).all (λx=>!x.1)&&(backToKw cpos (keywordEach [] X.env)).all (λx=>x.1.isSome)
  && decide (([e]:List Expr).length+([]:List Keyword).length+(if([]:List Keyword).isEmpty then 0 else 1)<30))=true
 line:(apos.endLine == cpos.line)=true
 trees:backTo cpos (starEach [e] X.env)=[(false,eval e X.env)]
structure M2(X:Cx)(o:Expr)(m:Str)(apos:Pos)(e f:Expr)(cpos:Pos):Prop where
 base:attributeBase o m X.env (eval o X.env)=eval o X.env
 few:((backTo cpos (starEach [e,f] X.env)).all (λx=>!x.1)&&(backToKw cpos (keywordEach [] X.env)).all (λx=>x.1.isSome)
  && decide (([e,f]:List Expr).length+([]:List Keyword).length+(if([]:List Keyword).isEmpty then 0 else 1)<30))=true
 line:(apos.endLine == cpos.line)=true
 trees:backTo cpos (starEach [e,f] X.env)=[(false,eval e X.env),(false,eval f X.env)]
def IsD(H:Hp)(a:Addr):Prop:=(∃kvs,Rd H a (.dK kvs))\/∃kvs,Rd H a (.dT kvs)
theorem Tz{X:Cx}{pins:List (Addr×Obj)}{σ:St}{H:Hp}{s:Shared}{a:Addr}(I:Inv X pins σ H s)(d:IsD H a):
  s.TypeIs (.ref a) "dict"/\(∀b,Value.ref a=.ref b->∃ob,s.heap.get? b=some ob/\ob.dict=none)/\(a == sysModules)=false:=by
 rcases d with⟨kvs,e⟩ | ⟨kvs,e⟩
 ·obtain⟨_,hd,vs,_,dd⟩:=qR I.hok e;refine⟨dd.typeIs,λb q=>?_,hd⟩;cases q;obtain⟨ob,_,_,h1,h2,_⟩:=dd;exact⟨ob,h1,h2.2.1⟩
 ·obtain⟨_,hd,xs,_,dd⟩:=nu I.hok e;refine⟨dd.typeIs,λb q=>?_,hd⟩;cases q;obtain⟨ob,_,_,h1,h2,_⟩:=dd;exact⟨ob,h1,h2.2.1⟩
section
variable {X:Cx}{pins:List (Addr×Obj)}{σ:St}{H:Hp}{s:Shared}{a:Addr}{y d:V}{u r:Value}{o:Option V}{A:Around}{E:Value->Shared->Prop}
theorem TF{Q:Value->Shared->Prop}(hu:A.units+1<cLine)(I:Inv X pins σ H s)(g:iU H a y o)(ry:RelV y u)(h:∀w' s',Inv X pins σ H s'->RelV (o.getD .non) w'->Q w' s'):
  wpAny (model X.prog X.w) A (call (.builtin "dict.get") [.ref a,u]) Q E s:=by
 rcases g with⟨kvs,k,e,ey,l⟩ | ⟨kvs,k,b,e,ey,eb,l⟩
 ·subst ey;obtain⟨z,hd,vs,rel,dd⟩:=qR I.hok e;refine call_meetsIn PySem.F.slot_dict_get dd.typeIs PySem.F.entry_dict_get (PySem.F.args_dict_get_2 _ _) (meets_dict_get (fK X.prog X.w) a (uf ry) hd) ⟨_,dd.mapOf,h _ _ (I.tok _) ?_⟩;rw[l];exact(rel.val k).getD rfl
 ·subst ey;cases(show u=Value.ref b from ry);obtain⟨z,hd,xs,rel,dd⟩:=nu I.hok e;refine call_meetsIn PySem.F.slot_dict_get dd.typeIs PySem.F.entry_dict_get (PySem.F.args_dict_get_2 _ _) (meetsH_dict_get (tupleKind (fK X.prog X.w)) a b hd) ⟨tupleKind_room_in1 hu,k,xs,ug I.hok eb,dd,h _ _ (I.tok _) ?_⟩;rw[l];exact(rel.val k).getD rfl
end
def TJ(td ty:TE):TE:=λσ H Q=>td σ H λx H1=>∃a,x=.ref a/\IsD H1 a/\ty σ H1 λy H2=>∃o,iU H2 a y o/\Q (o.getD .non) H2
section
variable {X:Cx}{o e f:Expr}{apos cpos:Pos}{td ty tx:TE}
theorem TQ(hu:X.A.units+1<cLine)(ho:PE X o td)(he:PE X e ty)(m:M1 X o "get" apos e cpos):PE X (.Call (.Attribute o "get" apos) [e] [] cpos) (TJ td ty):=by
 intro pins s σ H Q I h;refine wpAny_Call_method m.base m.few m.line PySem.F.plainAttrs_dict PySem.F.slot_dict_get PySem.F.type_dict_get (thn (ho pins s σ H _ I h) λu s1 ⟨x,H1,I1,rx,a,ex,d,q1⟩=>?_);subst ex;obtain rfl:u=Value.ref a:=rx;obtain⟨t1,t2,_⟩:=Tz I1 d;refine⟨t1,t2,?_⟩;rw[m.trees];refine Calls.callWith_builtin rfl (Calls.evalArgs_plain (Calls.spliced_cons (thn (he pins s1 σ H1 _ I1 q1) λiv s2 ⟨y,H2,I2,ry,ov,g,q2⟩=>Calls.spliced_nil ?_)))
 exact TF hu I2 g ry λw' s3 I3 rw'=>⟨_,H2,I3,rw',q2⟩
end
section
variable {X:Cx}{pins:List (Addr×Obj)}{σ:St}{H:Hp}{s:Shared}{a:Addr}{kvs:List (Key×V)}{A:Around}{E:Value->Shared->Prop}
end
section
variable {X:Cx}{pins:List (Addr×Obj)}{σ:St}{H:Hp}{s:Shared}{a:Addr}{y:V}{u:Value}{A:Around}{E:Value->Shared->Prop}
end
section
variable {X:Cx}
end
section
variable {κ:Type}[DecidableEq κ]
end
def j9(cells:List (Str×Addr)):List (Str×NameKind)->List (Str×Addr)->List (Str×Addr)
 | [],acc=>acc
 | (n,k)::r,acc=>if k == .free then j9 cells r ((n,(cells.lookup n).getD 0)::acc) else j9 cells r acc
def lH(scope:Scope)(env:Env):List (Str×Addr):=j9 env.cells scope.names []
theorem Gw{scope:Scope}{env:Env}(hf:∀y∈scope.names,y.2=.free->∃c,env.cells.lookup y.1=some c):closureFor scope env=pure (lH scope env):=by
 simp only[closureFor,lH]
 generalize ([]:List (Str×Addr))=acc
 generalize scope.names=names at hf
 induction names generalizing acc with
 |nil=>rfl
 |cons y r ih =>
  obtain⟨n,k⟩:=y
  have hr:=λa=>ih a λz hz=>hf z (zy _ hz)
  by_cases hk:k=.free
  ·obtain⟨c,hc⟩:=hf (n,k) zv hk;have hc':env.cells.lookup n=some c:=hc;subst hk;simp only[List.forIn_cons,beq_self_eq_true,if_true,cellOf,hc',pure_bind,bind_assoc,j9,Option.getD_some];exact hr _
  ·have hb:(k == NameKind.free)=false:=by simpa using hk
   simp only[List.forIn_cons,hb,Bool.false_eq_true,if_false,pure_bind,bind_assoc,j9];exact hr _
theorem xf{cells:List (Str×Addr)}{x:Str}{c:Addr}:∀{names:List (Str×NameKind)}{acc:List (Str×Addr)},(j9 cells names acc).lookup x=some c->acc.lookup x=some c\/(∃k,(x,k)∈names/\k=.free/\(cells.lookup x).getD 0=c)
 | [],acc,h=>.inl h
 | (n,k)::r,acc,h=>by
  unfold j9 at h
  by_cases hk:k=.free
  ·subst hk;simp only[beq_self_eq_true,if_true] at h
   rcases xf h with z | ⟨k,hm,q⟩
   ·rw[List.lookup_cons] at z
    by_cases hx:x=n
    ·subst hx;simp at z;exact .inr ⟨.free,zv,rfl,z⟩
    ·have hb:(x == n)=false:=by simpa using hx
     rw[hb] at z;exact .inl z
   ·exact .inr ⟨k,zy _ hm,q⟩
  ·have hb:(k == NameKind.free)=false:=by simpa using hk
   simp only[hb,Bool.false_eq_true,if_false] at h
   rcases xf h with z | ⟨k,hm,q⟩
   ·exact .inl z
   ·exact .inr ⟨k,zy _ hm,q⟩
theorem uh{cells:List (Str×Addr)}{x:Str}:∀{names:List (Str×NameKind)}{acc:List (Str×Addr)},((∃c,acc.lookup x=some c)\/(x,NameKind.free)∈names)->∃c,(j9 cells names acc).lookup x=some c
 | [],acc,h=>by
  rcases h with h | h
  ·exact h
  ·cases h
 | (n,k)::r,acc,h=>by
  unfold j9
  by_cases hk:k=.free
  ·subst hk;simp only[beq_self_eq_true,if_true];refine uh ?_
   by_cases hx:x=n
   ·subst hx;exact .inl ⟨(cells.lookup x).getD 0,by simp[List.lookup_cons]⟩
   ·have hb:(x == n)=false:=by simpa using hx
    rcases h with⟨c,h⟩ | h
    ·exact .inl ⟨c,by rw[List.lookup_cons,hb];exact h⟩
    ·rcases zn.mp h with e | h
     ·cases e;exact absurd rfl hx
     ·exact .inr h
  ·have hb:(k == NameKind.free)=false:=by simpa using hk
   simp only[hb,Bool.false_eq_true,if_false];refine uh ?_
   rcases h with h | h
   ·exact .inl h
   ·rcases zn.mp h with e | h
    ·cases e;exact absurd rfl hk
    ·exact .inr h
def jJ(scope sc0:Scope):List (Str×NameKind):=
 scope.names.map λ(n,k)=>if(k == .free&&sc0.kind == .function&&sc0.names.lookup n == some .cell) then(n,.cell) else(n,k)
theorem Gx{scope sc0:Scope}(hc:∀y∈scope.names,y.2≠.cell){x:Str}{k:NameKind}(h:(jJ scope sc0).lookup x=some k)(hk:k=.cell\/k=.free):(x,NameKind.free)∈scope.names:=by
 have hm:=PySem.mem_of_lookup h;unfold jJ at hm;obtain⟨⟨n,k0⟩,h1,h2⟩:=zE.mp hm;dsimp only at h2
 by_cases hb:(k0 == NameKind.free&&sc0.kind == .function&&sc0.names.lookup n == some .cell)=true
 ·rw[if_pos hb] at h2
  have e:k0=.free:=by
   simp only[zp,beq_iff_eq] at hb;exact hb.1.1
  cases h2;rw[<-e];exact h1
 ·rw[if_neg hb] at h2;cases h2
  rcases hk with e | e
  ·exact absurd e (hc _ h1)
  ·rw[<-e];exact h1
def bW(N0 own:List Str)(cap:List Nat):List Str:=own++cap.map λj=>N0.getD j (Str.ofString "")
def compSt(own:List Str)(cap:List Nat)(σ:St):St:=own.map (λ_=>none)++cap.map λj=>(σ[j]?).join
def o9(sc0:Scope)(N0:List Str)(scope:Scope)(own:List Str)(cap:List Nat):Bool :=
 (scope.kind == .function)&&scope.names.all (λy=>y.2 != .cell)&&scope.names.all (λy=>y.2 != .local || scope.names.lookup y.1 == some .local) &&
 scope.names.all (λy=>y.2 != .free || sc0.names.lookup y.1 == some .cell || sc0.names.lookup y.1 == some .free) &&
 cap.all λj=>decide (j<N0.length)&&scope.names.contains (N0.getD j (Str.ofString ""),NameKind.free)&&((jJ scope sc0).lookup (N0.getD j (Str.ofString "")) == some .cell || (jJ scope sc0).lookup (N0.getD j (Str.ofString "")) == some .free)
structure kh(sc0:Scope)(N0:List Str)(scope:Scope)(own:List Str)(cap:List Nat):Prop where
 kind:scope.kind=.function
 nocell:∀y∈scope.names,y.2≠.cell
 names:∀y∈scope.names,y.2=.local->scope.names.lookup y.1=some .local
 free:∀y∈scope.names,y.2=.free->sc0.names.lookup y.1=some .cell\/sc0.names.lookup y.1=some .free
 cap:∀j∈cap,j<N0.length/\(N0.getD j (Str.ofString ""),NameKind.free)∈scope.names/\((jJ scope sc0).lookup (N0.getD j (Str.ofString ""))=some .cell\/(jJ scope sc0).lookup (N0.getD j (Str.ofString ""))=some .free)
theorem kh.of{sc0:Scope}{N0:List Str}{scope:Scope}{own:List Str}{cap:List Nat}(h:o9 sc0 N0 scope own cap=true):kh sc0 N0 scope own cap:=by
 unfold o9 at h;simp only[zp,jo,beq_iff_eq,bne_iff_ne,ne_eq,Bool.or_eq_true,decide_eq_true_eq,List.contains_iff_mem] at h;obtain⟨⟨⟨⟨h1,h2⟩,h3⟩,h4⟩,h5⟩:=h;refine⟨h1,h2,λy hy e=>?_,λy hy e=>?_,λj hj=>?_⟩
 ·rcases h3 y hy with z | z
  ·exact absurd e z
  ·exact z
 ·rcases h4 y hy with(z | z) | z
  ·exact absurd e z
  ·exact .inl z
  ·exact .inr z
 ·obtain⟨⟨a,b⟩,c⟩:=h5 j hj;exact⟨a,b,c⟩
def cX(X:Cx)(scope:Scope)(C:Addr)(N':List Str)(s:Shared)(H:Hp)(ex:List Addr):Cx where
 prog:=X.prog
 w:=X.w
 K:=X.K
 mg:=X.mg
 base:=X.base
 A:=X.A
 N:=N'
 s₀:=s
 H₀:=H
 env:=compEnvC scope (lH scope X.env) C X.env
 outer:=X.stack
 stack:=X.stack
 ex:=ex
 fn:=λ_=>false
 calm:=X.calm
 pn:=[]
 xe:=λ_ _=>False
section
variable {X:Cx}
def lJ(X:Cx)(ifs:List Expr)(t:TT):Prop :=
 ∀(pins:List (Addr×Obj)) (s:Shared) (σ:St) (H:Hp) (Q:Bool->Hp->Prop),Inv X pins σ H s->t σ H Q ->
  wpAny (model X.prog X.w) X.A (forIn ifs true λc r=>if r=true then do let ok <-isTrue c X.env (eval c X.env);pure (ForInStep.yield ok) else pure (ForInStep.yield r)) (TP X pins σ Q) X.xe s
def TV:TT:=λ_ H Q=>Q true H
theorem TX:lJ X [] TV:=λ_ _ _ H _ I h=>wpAny_tests_nil ⟨H,I,h⟩
theorem TY{c:Expr}{t:TT}(h:PT X c t):lJ X [c] t:=λpins s σ H Q I q=>wpAny_tests_one (h pins s σ H Q I q)
end
def Gy(J:It)(g:TG)(tt:TT)(te:TE)(Q:List V->Hp->Prop)(σ0:St)(H1:Hp):Prop :=
 ∃W:Nat->Nat->List V->St->Hp->Prop,(∃m,W 0 m [] σ0 H1)/\∀i m ys σ H,W i m ys σ H ->
  (J.stop i H/\Q ys H)\/(J.go i H/\ys.length<sizeLine/\∃N:List V->St->Hp->Prop,(∀ys σ' H',N ys σ' H'->∃m',m'<m/\W (i+1) m' ys σ' H')/\∀x H',J.yld i H x H'->g x σ H' λσ2 H2=>tt σ2 H2 λb H3 =>
   if b=true then te σ2 H3 λy H4=>N (ys++[y]) σ2 H4 else N ys σ2 H3)
def xg(wi:TI)(own:List Str)(cap:List Nat)(g:TG)(tt:TT)(te:TE):TE:=λσ H Q =>
 wi σ H λJ H1=>Gy J g tt te (λys H'=>ys.length<=sizeLine/\∀p,H' p=none->Q (.ref p) (upd H' p (.lst ys))) (compSt own cap σ) H1
section
variable {prog:Program}{w:World}{A:Around}{R:Result->Shared->Prop}{s:Shared}
theorem T3{elt target iter:Expr}{ifs:List Expr}{scope:Scope}{pos:Pos}{it acc:Value}{env:Env}(I:Nat->Shared->Prop)
  (turn:∀n s,I n s->wpAny (model prog w) A (pyNext it) (λr s₁=>match r with
   |none=>R (.ok .next) s₁
   |some v=>wpAny (model prog w) A (letOwnedTupleGo target it v) (λ_ s₁'=>wpAny (model prog w) A (assign target env v) (λ_ s₂ =>
     wpAny (model prog w) A (forIn ifs true λc r=>if r=true then do let ok <-isTrue c env (eval c env);pure (ForInStep.yield ok) else pure (ForInStep.yield r)) (λok s₃ =>
      if ok=true then wpAny (model prog w) A (eval elt env) (λx s₄ =>
       wpAny (model prog w) A (call (.builtin "list.append") [acc,x]) (λ_ s₅=>∃m,m<n/\I m s₅) (λ_ _=>False) s₄) (λ_ _=>False) s₃
      else ∃m,m<n/\I m s₃) (λ_ _=>False) s₂) (λ_ _=>False) s₁') (λ_ _=>False) s₁) (λ_ _=>False) s)
  (n:Nat) (h:I n s):
  codeAny (model prog w) A (.compLoop (.ListComp elt [⟨target,iter,ifs,0⟩] scope pos) 0 it acc env) R s:=by
 refine codeAny_loop rfl I (λn s hI=>?_) n h;show wpAny _ A ((compTurn (.ListComp elt [⟨target,iter,ifs,0⟩] scope pos) 0 it acc env).onRaise (λx=>do noteFrame x env;theTreesLotGoes x)) _ _ s;refine wpAny_noted ?_;rw[compTurn_list];refine za (wpAny_standAt (za (zL (turn n s hI) (λr s₁ h₁=>?_) λ_ _ h'=>h'.elim)))
 cases r with
 |none=>exact zb h₁
 |some v =>
  refine za (zL h₁ (λ_ s₁' h₁'=>?_) λ_ _ h'=>h'.elim);refine za (zL h₁' (λ_ s₂ h₂=>za (zL h₂ (λok s₃ h₃=>?_) λ_ _ h'=>h'.elim)) λ_ _ h'=>h'.elim)
  cases ok with
  |false=>exact zb ⟨rfl,h₃⟩
  |true =>
   exact za (za (zL h₃ (λx s₄ h₄=>za (zL h₄ (λ_ s₅ h₅=>zb (zb ⟨rfl,h₅⟩)) λ_ _ h'=>h'.elim)) λ_ _ h'=>h'.elim))
end
section
variable {X:Cx}{pins:List (Addr×Obj)}{σ:St}{s2:Shared}{H2:Hp}{elt tg iter:Expr}{ifs:List Expr}{scope:Scope}{pos:Pos}{g:TG}{tt:TT}{te:TE}{sc0:Scope}{N0 own:List Str}{cap:List Nat}
 {it:Addr}{fp:List Addr}{tn:Nat->Heap->Prop}{J:It}
theorem xj(I2:Inv X pins σ H2 s2)(hsc:X.env.scope=sc0)(ok:kh sc0 N0 scope own cap):∀y∈scope.names,y.2=.free->∃c,X.env.cells.lookup y.1=some c:=λy hy e=>by
 refine I2.ok.has y.1 ?_;have q:=ok.free y hy e;rw[<-hsc] at q;exact q
theorem lK(I2:Inv X pins σ H2 s2)(hsc:X.env.scope=sc0)(ok:kh sc0 N0 scope own cap){x:Str}{c:Addr}(h:(lH scope X.env).lookup x=some c):X.env.cells.lookup x=some c:=by
 rcases xf h with z | ⟨k,hm,hk,q⟩
 ·simp at z
 ·obtain⟨c',e⟩:=xj I2 hsc ok (x,k) hm hk;have e':X.env.cells.lookup x=some c':=e;rw[e'] at q;rw[e',<-q];rfl
theorem T4(I2:Inv X pins σ H2 s2)(hsc:X.env.scope=sc0)(ok:kh sc0 N0 scope own cap)(T:Turn X.prog X.w X.K tg J fp it tn)(st2:tn 0 s2.heap)(f2:∀b∈fp,iw X pins H2 b)
  (C:Addr) (hC:s2.heap.objs.size<=C):(cX X scope C (bW N0 own cap) s2 H2 fp).Ok:=by
 have lt:∀b∈fp,b<s2.heap.objs.size:=λb hb=>by
  obtain⟨o,e,_⟩:=T.obj 0 _ st2 b hb;exact zf e
 have rel:(relabel scope X.env).names=jJ scope sc0:=by rw[<-hsc];rfl
 refine⟨I2.ok.mod,ok.kind,I2.ok.glob,I2.ok.blt,hC,λx y c h1 h2=>?_,λx hx=>?_,λx c hf _=>absurd hf (by simp[cX]),I2.ok.hd,I2.ok.frames,.inl rfl,λb hb=>⟨?_,λx c h=>?_⟩,I2.bs,zH I2.ok.bsz I2.sz,
  λb o e hb=>?_,λb hb hz=>?_,I2.stack,I2.stkFree⟩
 ·exact I2.ok.inj x y c (lK I2 hsc ok h1) (lK I2 hsc ok h2)
 ·have hx':(jJ scope sc0).lookup x=some .cell\/(jJ scope sc0).lookup x=some .free:=by rw[<-rel];exact hx
  have hm:(x,NameKind.free)∈scope.names:=by
   rcases hx' with q | q
   ·exact Gx ok.nocell q (.inl rfl)
   ·exact Gx ok.nocell q (.inr rfl)
  exact uh (.inr hm)
 ·exact zu (zG (lt b hb) hC)
 ·exact(f2 b hb).2.2.2.2.1 x c (lK I2 hsc ok h)
 ·rcases(f2 b hb).2.2.2.1 with z | z
  ·exact I2.ok.noex b o e z
  ·exact absurd (zG (zf e) (zH I2.ok.bsz z)) (zP _)
 ·rcases zn.mp (I2.stkSub b hz) with z | z
  ·exact(f2 b hb).2.1 z
  ·exact(f2 b hb).2.2.1 z
theorem T5(I2:Inv X pins σ H2 s2)(hsc:X.env.scope=sc0)(hN0:X.N=N0)(ok:kh sc0 N0 scope own cap)(T:Turn X.prog X.w X.K tg J fp it tn)(st2:tn 0 s2.heap)(f2:∀b∈fp,iw X pins H2 b)
  (C:Addr) (hC:s2.heap.objs.size<=C) {h₁:Heap}{tk:Nat}{m:Str->Option Value} (old:∀b o,s2.heap.get? b=some o->h₁.get? b=some o) (hns:h₁.Ns C m):
  Inv (cX X scope C (bW N0 own cap) s2 H2 fp) [] (compSt own cap σ) H2 {s2 with heap:=h₁,toks:=tk}:=by
 have rel:(relabel scope X.env).names=jJ scope sc0:=by rw[<-hsc];rfl
 refine⟨T4 I2 hsc ok T st2 f2 C hC,rfl,I2.bare,Un.kept old,⟨m,hns,λi x v e1 e2 _=>?_⟩,λx c h=>?_,I2.hok.fresh hC,λx c h=>?_,λp hp=>absurd (show p∈([]:List (Addr×Obj)) from hp) (by simp),I2.hok.kept old,?_⟩
 ·have e1':(bW N0 own cap)[i]?=some x:=e1;unfold bW at e1';unfold compSt at e2
  by_cases hi:i<own.length
  ·rw[zD (by simpa using hi),zA] at e2
   cases q:own[i]? with
   |none=>rw[q] at e2;cases e2
   |some z=>rw[q] at e2;cases e2
  ·rw[zO (by simpa using hi),zA] at e2;rw[zO (by simpa using hi),zA] at e1';rw[ze] at e2
   cases q:cap[i - own.length]? with
   |none=>rw[q] at e2;cases e2
   |some j =>
    rw[q] at e1' e2;have ex:N0.getD j (Str.ofString "")=x:=zB e1';have ev:(σ[j]?).join=some v:=zB e2;obtain⟨hj,hm,hk⟩:=ok.cap j (zI q);rw[ex] at hm hk
    have eN:X.N[j]?=some x:=by
     rw[hN0,zo hj];rw[jc,zo hj] at ex;exact congrArg some ex
    have eσ:σ[j]?=some (some v):=by
     cases z:σ[j]? with
     |none=>rw[z] at ev;cases ev
     |some o=>rw[z] at ev;cases o with
      |none=>cases ev
      |some y=>exact congrArg some ev
    have kf:X.env.kindOf x=some .cell\/X.env.kindOf x=some .free:=by
     have z:=ok.free _ hm rfl;rw[<-hsc] at z;exact z
    obtain⟨m0,hn0,hl⟩:=I2.loc;obtain⟨u,r,l⟩:=hl j x v eN eσ (kf.elim (λz=>.inr (.inl z)) λz=>.inr (.inr z));refine⟨u,r,.inr ⟨?_,?_⟩⟩
    ·show(relabel scope X.env).names.lookup x=_\/(relabel scope X.env).names.lookup x=_;rw[rel];exact hk
    ·rcases l with⟨l,_⟩ | ⟨_,c,hc,⟨o,ho,hd⟩⟩
     ·rcases kf with z | z<;>(rw[z] at l;cases l)
     ·obtain⟨c',hc'⟩:=uh (cells:=X.env.cells) (names:=scope.names) (acc:=[]) (.inr hm);have z:=lK I2 hsc ok hc';rw[hc] at z;cases z;exact⟨c,hc',o,old _ _ ho,hd⟩
 ·obtain⟨v,o,ho,hd⟩:=I2.cell x c (lK I2 hsc ok h);exact⟨v,o,old _ _ ho,hd⟩
 ·exact I2.freeC x c (lK I2 hsc ok h)
 ·show(compSt own cap σ).length=(bW N0 own cap).length;unfold compSt bW;simp
theorem Gz{Q:List V->Hp->Prop}{RR:Value->Addr->Result->Shared->Prop}{E:Value->Shared->Prop}(hc:X.calm=true)(I2:Inv X pins σ H2 s2)(hsc:X.env.scope=sc0)(hN0:X.N=N0)(ok:kh sc0 N0 scope own cap)
  (hg:∀C s H ex,PG (cX X scope C (bW N0 own cap) s H ex) tg g) (ht:∀C s H ex,lJ (cX X scope C (bW N0 own cap) s H ex) ifs tt) (he:∀C s H ex,PE (cX X scope C (bW N0 own cap) s H ex) elt te)
  (T:Turn X.prog X.w X.K tg J fp it tn) (st2:tn 0 s2.heap) (f2:∀b∈fp,iw X pins H2 b) (hW:Gy J g tt te Q (compSt own cap σ) H2)
  (hRR:∀D C oC ys H' s',Inv X (pins++[(C,oC)]) σ (upd H' D (.lst ys)) s'->(∀h:Heap,h.get? C=some oC->∃m,h.Ns C m)->iw X pins (upd H' D (.lst ys)) C->H' D=none->Q ys H'->RR (.ref D) C (.ok .next) s')
  (hQsz:∀ys H',Q ys H'->ys.length<=sizeLine):
  wpAny (model X.prog X.w) X.A (newList []) (λacc s₃=>wpAny (model X.prog X.w) X.A (newFunctionEnv scope X.env.globals (lH scope X.env) [] X.env.qual none .none (some X.env)) (λcenv s₄ =>
   codeAny (model X.prog X.w) X.A (.compStart (.ListComp elt [⟨tg,iter,ifs,0⟩] scope pos) 0 (.ref it) acc {cenv with scope:=relabel scope X.env}) (RR acc cenv.locals) s₄) E s₃) E s2:=by
 refine wpAny_newObj_type (wpAny_newFunctionEnv ok.nocell (by intro y hy;simp at hy) (λh₁ hns₁ hsb₁=>?_) ok.kind);dsimp only at hns₁ hsb₁ ⊢
 generalize hP2:s2.heap.push {cls:=.type "list",dict:=none,data:=.seq ([]:List Value).toArray}=P2 at hns₁ hsb₁ ⊢
 have hC:P2.objs.size=s2.heap.objs.size+1:=by rw[<-hP2,Heap.size_push]
 have hDC:s2.heap.objs.size≠P2.objs.size:=by rw[hC];exact zu (zZ _)
 have hCle:s2.heap.objs.size<=P2.objs.size:=by rw[hC];exact Nat.le_succ _
 have below:∀b,b<s2.heap.objs.size->b≠P2.objs.size/\b≠s2.heap.objs.size:=λb hb=>⟨by rw[hC];exact zu (jd hb),zu hb⟩
 have ltf:∀b∈fp,b<s2.heap.objs.size:=λb hb=>by
  obtain⟨o,e,_⟩:=T.obj 0 _ st2 b hb;exact zf e
 have old:∀b o,s2.heap.get? b=some o->h₁.get? b=some o:=λb o e=>hsb₁.extBut b o (below b (zf e)).1 (zk _ (hP2 ▸ zk _ e))
 have hacc:h₁.PlainList s2.heap.objs.size #[]:=⟨_,hsb₁.extBut _ _ hDC (zk _ (hP2 ▸ zz _ rfl))⟩
 have st₁:tn 0 h₁:=T.keep _ _ _ st2 λb _ o e=>old b o e
 have hDno:∀b∈fp,s2.heap.objs.size≠b:=λb hb=>(below b (ltf b hb)).2.symm
 generalize hXe:cX X scope P2.objs.size (bW N0 own cap) s2 H2 fp=X'
 have loop:∀s₃:Shared,s₃ = {s2 with heap:=h₁,toks:=s2.toks+([]:List (Str×Value)).length} ->
   codeAny (model X.prog X.w) X.A (.compLoop (.ListComp elt [⟨tg,iter,ifs,0⟩] scope pos) 0 (.ref it) (.ref s2.heap.objs.size) (compEnvC scope (lH scope X.env) P2.objs.size X.env))
    (RR (.ref s2.heap.objs.size) P2.objs.size) s₃:=by
  rintro s₃ rfl;obtain⟨W,⟨m0,w0⟩,turn⟩:=hW;subst hXe
  have stat:∀{H':Hp}{oD:Obj},(∀b∈fp,H' b=none)->∀b∈fp,iw (cX X scope P2.objs.size (bW N0 own cap) s2 H2 fp) [(s2.heap.objs.size,oD)] H' b:=λ{H' oD} hn b hb =>
   ⟨hn b hb,(below b (ltf b hb)).1,λz=>by
    rcases zn.mp (I2.stkSub b z) with z | z
    ·exact(f2 b hb).2.1 z
    ·exact(f2 b hb).2.2.1 z,.inl hb,λx c h=>(f2 b hb).2.2.2.2.1 x c (lK I2 hsc ok h),λp hp=>by
    have e:p=(s2.heap.objs.size,oD):=by simpa [cX] using hp
    rw[e];exact hDno b hb⟩
  have notcell:∀x c,(lH scope X.env).lookup x=some c->c≠s2.heap.objs.size:=λx c h z=>by
   obtain⟨v,o,ho,hd⟩:=I2.cell x c (lK I2 hsc ok h);exact absurd (zf ho) (by rw[z];exact zP _)
  have nofs:s2.heap.objs.size∉frs X.stack:=λz=>by
   rcases zn.mp (I2.stkSub _ z) with z | z
   ·exact absurd I2.lt (by rw[z];exact zP _)
   ·exact I2.nofs (zc _) z
  have pinD:∀{σ':St}{H':Hp}{s':Shared}{its:Array Value}{k:Nat},Inv (cX X scope P2.objs.size (bW N0 own cap) s2 H2 fp) [] σ' H' s'->H' s2.heap.objs.size=none ->
    s'.heap.get? s2.heap.objs.size=some {cls:=.type "list",data:=.seq its k}->Inv (cX X scope P2.objs.size (bW N0 own cap) s2 H2 fp) [(s2.heap.objs.size,{cls:=.type "list",data:=.seq its k})] σ' H' s' :=
   λ{σ' H' s' its k} I hn hd=>I.pins_of λp hp=>by
    have e:p=(s2.heap.objs.size,{cls:=.type "list",data:=.seq its k}):=by simpa using hp
    subst e;exact⟨hd,hn,hDC,nofs,λv z=>by cases z⟩
  obtain⟨k0,hk0⟩:=hacc;refine T3 (env:=compEnvC scope (lH scope X.env) P2.objs.size X.env)
   (λn s'=>∃i ys its k σ' H',Inv (cX X scope P2.objs.size (bW N0 own cap) s2 H2 fp) [(s2.heap.objs.size,{cls:=.type "list",data:=.seq its k})] σ' H' s'/\tn i s'.heap/\(∀b∈fp,H' b=none)/\aR ys its.toList/\W i n ys σ' H') ?_ m0
   ⟨0,[],#[],k0,_,H2,pinD (T5 I2 hsc hN0 ok T st2 f2 _ hCle old hns₁) (I2.hok.fresh (zc _)) hk0,st₁,λb hb=>(f2 b hb).1,.nil,w0⟩
  rintro n s3 ⟨i,ys,its,k,σ3,H3,I3,st3,fr3,hv,w3⟩
  rcases turn i n ys σ3 H3 w3 with⟨stop,qn⟩ | ⟨go,hsz,N,hN,step⟩
  ·refine thn (T.done (cX X scope P2.objs.size (bW N0 own cap) s2 H2 fp) rfl rfl rfl hc i _ s3 σ3 H3 _ I3 (stat fr3) st3 stop) λr s4 ⟨hr,I4⟩=>?_
   subst hr;show RR _ _ (.ok .next) s4;obtain⟨hd4,hn4,_⟩:=I4.pin (s2.heap.objs.size,{cls:=.type "list",data:=.seq its k}) (by simp[cX]);dsimp only at hd4 hn4;obtain⟨m4,hns4,_⟩:=id I4.loc;have hns4':s4.heap.Ns P2.objs.size m4:=hns4;obtain⟨oC,es,ep,hoC,rC⟩:=id hns4';have cne:P2.objs.size≠s2.heap.objs.size:=hDC.symm;have freeC:H3 P2.objs.size=none:=I4.free;have hchC:iw X pins (upd H3 s2.heap.objs.size (.lst ys)) P2.objs.size:=I2.fpOk hCle (by rw[aP cne];exact freeC)
   have hlen:ys.length=its.size:=by have e:=hv.length;simpa using e
   have I5:Inv X pins σ (upd H3 s2.heap.objs.size (.lst ys)) s4:=by
    refine I2.call' (ch:=fp) I4.os ⟨I4.base.keep,I4.base.slot,λb o e n hx=>?_,I4.base.there,λb xs e=>?_,λb o u e=>?_,λb ps e=>?_⟩ (λb u e=>?_) I4.bare λb hb=>?_
    ·rw[aP (zu (zf e))];exact I4.base.free b o e n hx
    ·have q:=I4.base.tups b xs e;rw[aP (cT q hn4)];exact q
    ·have q:=I4.base.frzs b o u e;rw[aP (cT q hn4)];exact q
    ·obtain⟨more,q⟩:=I4.base.tbls b ps e;exact⟨more,by rw[aP (cT q hn4)];exact q⟩
    ·by_cases hb:b=s2.heap.objs.size
     ·subst hb;rw[cA] at e;cases e;exact⟨hQsz ys H3 qn,its.toList,k,hv,by simpa using hd4⟩
     ·rw[aP hb] at e
      exact(I4.hok b u e).stay (λ_ _ _ q=>q) (λc q=>by rw[aP (cT q hn4)];exact q) λc xs q=>by rw[aP (cT q hn4)];exact q
    ·obtain⟨_,a2,_,a4,a5,a6⟩:=f2 b hb;exact⟨a4,a2,a5,a6⟩
   refine hRR s2.heap.objs.size P2.objs.size oC ys H3 s4 (I5.pins_of λp hp=>?_) (λh e=>⟨m4,oC,es,ep,e,rC⟩) hchC hn4 qn
   rcases zJ.mp hp with z | z
   ·exact I5.pin p (zU _ z)
   ·have e:p=(P2.objs.size,oC):=by simpa using z
    subst e
    exact⟨hoC,hchC.1,hchC.2.1,hchC.2.2.1,λv z=>by
     have:=rC.1
     rw[this] at z;cases z⟩
  ·refine thn (T.item (cX X scope P2.objs.size (bW N0 own cap) s2 H2 fp) rfl rfl rfl hc i _ s3 σ3 H3 _ I3 (stat fr3) st3 go) λr s4 ⟨u,hr,h4⟩=>?_
   subst hr
   refine thn h4 λ_ s5 ⟨x,H5,I5,r5,y5,st5,fr5⟩=>?_
   have I5':=I5.pinned (stat fr5) (T.obj _ _ st5)
   refine thn (hg _ _ _ _ _ s5 σ3 H5 x u _ I5' r5 (step x H5 y5)) λ_ s6 ⟨σ6,H6,I6,q6⟩=>?_
   refine thn (ht _ _ _ _ _ s6 σ6 H6 _ I6 q6) λb s7 ⟨H7,I7,q7⟩=>?_
   have keepT:∀{σ':St}{H':Hp}{s':Shared},Inv (cX X scope P2.objs.size (bW N0 own cap) s2 H2 fp) ([(s2.heap.objs.size,{cls:=.type "list",data:=.seq its k})]++qL fp s5.heap) σ' H' s'->tn (i+1) s'.heap/\∀b∈fp,H' b=none:=λ{σ' H' s'} I'=>by
    refine⟨T.keep _ _ _ st5 λb hb o e=>(I'.pin (b,o) (zU _ (zU _ (tW hb e)))).1,λb hb=>?_⟩;obtain⟨o,e,d⟩:=T.obj _ _ st5 b hb;exact(I'.pin (b,o) (zU _ (zU _ (tW hb e)))).2.1
   cases b with
   |false =>
    rw[if_neg zj] at q7 ⊢;obtain⟨m',hm,w7⟩:=hN _ _ _ q7;obtain⟨a,b⟩:=keepT I7;exact⟨m',hm,i+1,ys,its,k,σ6,H7,I7.unpinned,a,b,hv,w7⟩
   |true =>
    rw[if_pos rfl] at q7 ⊢
    refine thn (he _ _ _ _ _ s7 σ6 H7 _ I7 q7) λv s8 ⟨y,H8,I8,r8,q8⟩=>?_
    obtain⟨m',hm,w8⟩:=hN _ _ _ q8;obtain⟨a,b⟩:=keepT I8;obtain⟨hd8,hn8,_⟩:=I8.pin (s2.heap.objs.size,{cls:=.type "list",data:=.seq its k}) (by simp[cX]);dsimp only at hd8 hn8
    have hl:its.size<=sizeLine:=by
     have e:=hv.length;simp at e;omega
    refine wpAny_list_append_plain (hsz:=hl) ⟨k,hd8⟩ λh9 hl9 hs9=>?_
    obtain⟨k9,hd9⟩:=hl9
    have I8':Inv (cX X scope P2.objs.size (bW N0 own cap) s2 H2 fp) [] σ6 H8 s8:=I8.pins_of λp hp=>absurd hp (by simp)
    have I9:Inv (cX X scope P2.objs.size (bW N0 own cap) s2 H2 fp) [] σ6 H8 {s8 with heap:=h9}:=
     I8'.turned (t':=s8.toks) (it:=s2.heap.objs.size) (λb o hb e=>hs9.extBut b o hb e) hn8 hDC (.inr (zc _)) notcell (λp hp=>absurd (show p∈([]:List (Addr×Obj)) from hp) (by simp))
    refine⟨m',hm,i+1,ys++[y],its.push v,k9,σ6,H8,pinD I9 hn8 hd9,T.keep _ _ _ a λb hb o e=>hs9.extBut b o (hDno b hb).symm e,b,?_,w8⟩;rw[Array.toList_push];exact hv.append (.cons r8 .nil)
 exact codeAny_compStart_list (loop _ rfl) (T.self _ 0 _ _ _ st₁ (loop _ rfl))
theorem T6{wi:TI}(sc0:Scope)(N0 own:List Str)(cap:List Nat)(hc:X.calm=true)(hi:PI X tg iter wi)
  (hg:∀C s H ex,PG (cX X scope C (bW N0 own cap) s H ex) tg g) (ht:∀C s H ex,lJ (cX X scope C (bW N0 own cap) s H ex) ifs tt) (he:∀C s H ex,PE (cX X scope C (bW N0 own cap) s H ex) elt te)
  (hsc:X.env.scope=sc0:=by rfl) (hN0:X.N=N0:=by rfl) (ok:o9 sc0 N0 scope own cap=true:=by decide +kernel) (hs:∀x,foldedSetIterable iter X.env x=pure x:=by intro _;rfl):
  PE X (.ListComp elt [⟨tg,iter,ifs,0⟩] scope pos) (xg wi own cap g tt te):=by
 intro pins s σ H Q I h;have ok:=kh.of ok;rw[eval_ListComp];refine wpAny_comprehension_free (use:=none) rfl hs (Gw (xj I hsc ok)) ok.kind ok.names (thn (hi pins s σ H _ I h) λxv s1 h1=>thn h1 λitv s2 h2=>?_);obtain⟨it,fp,tn,J,H2,e,I2,T,st2,f2,hW⟩:=h2;subst e
 refine Gz (RR:=λacc C=>compPost (model X.prog X.w) X.A X.xe none (EP X pins σ Q) acc C) hc I2 hsc hN0 ok hg ht he T st2 f2 hW (λD C oC ys H' s' I' hns fpC hD q=>?_) λys H' q=>q.1
 obtain⟨hC,hCn,_⟩:=I'.pin (C,oC) (by simp);obtain⟨m,hm⟩:=hns _ hC;refine⟨m,hm,λh' hs'=>⟨.ref D,upd H' D (.lst ys),?_,rfl,q.2 D hD⟩⟩;obtain⟨f0,f1,f2',f3,f4,f5⟩:=fpC;exact I'.unpinned.turned (t':=s'.toks) (it:=C) (λb o hb e=>hs'.extBut b o hb e) f0 f1 f3 f4 f5
theorem T7{wi:TI}{i:Nat}{x:Str}{pos' spos:Pos}(sc0:Scope)(N0 own:List Str)(cap:List Nat)(hN:X.N.Nodup)(hx:X.N[i]?=some x)(hl:Loc X.env.scope x)(hc:X.calm=true)(hi:PI X tg iter wi)
  (hg:∀C s H ex,PG (cX X scope C (bW N0 own cap) s H ex) tg g) (ht:∀C s H ex,lJ (cX X scope C (bW N0 own cap) s H ex) ifs tt) (he:∀C s H ex,PE (cX X scope C (bW N0 own cap) s H ex) elt te)
  (hsw:swapsWith (.ListComp elt [⟨tg,iter,ifs,0⟩] scope pos) (some (.Name x pos')) spos.line X.env=pure true:=by rfl)
  (hf:X.fn x=true\/X.env.scope.names.lookup x=some .local:=by first | exact .inl rfl | exact .inr rfl | assumption)
  (hsc:X.env.scope=sc0:=by rfl) (hN0:X.N=N0:=by rfl) (ok:o9 sc0 N0 scope own cap=true:=by decide +kernel) (hs:∀x,foldedSetIterable iter X.env x=pure x:=by intro _;rfl):
  PS X (.Assign [.Name x pos'] (.ListComp elt [⟨tg,iter,ifs,0⟩] scope pos) spos) (tV (xg wi own cap g tt te) (qK i)):=by
 intro pins s σ H D I h;have ok:=kh.of ok;rw[exec_Assign_Name_used _ _ _ _ hsw];refine za (wpAny_standAt (za ?_));show wpAny _ X.A (do let _ <-comprehension (.ListComp elt [⟨tg,iter,ifs,0⟩] scope pos) scope X.env _ (newList []) false (eval iter X.env) (some (assign (.Name x pos') X.env))) _ _ s
 refine za (zL (wpAny_comprehension_free (use:=some (assign (.Name x pos') X.env)) (Q:=λ_ s'=>SP X pins D .next s') rfl hs (Gw (xj I hsc ok)) ok.kind ok.names
  (thn (hi pins s σ H _ I h) λxv s1 h1=>thn h1 λitv s2 h2=>?_)) (λ_ s' hq=>zb (zb hq)) λ_ _ e=>e)
 obtain⟨it,fp,tn,J,H2,e,I2,T,st2,f2,hW⟩:=h2;subst e
 refine Gz (RR:=λacc C=>compPost (model X.prog X.w) X.A X.xe (some (assign (.Name x pos') X.env)) (λ_ s'=>SP X pins D .next s') acc C) hc I2 hsc hN0 ok hg ht he T st2 f2 hW (λDa C oC ys H' s' I' hns fpC hD q=>?_) λys H' q=>q.1
 show wpAny _ X.A (assign (.Name x pos') X.env (.ref Da)) _ _ _;refine wpAny_assign_Name (wH (v:=.ref Da) I' hN hx hl rfl (λs'' I''=>?_) hf);obtain⟨hC,hCn,_⟩:=I''.pin (C,oC) (by simp);obtain⟨m,hm⟩:=hns _ hC;refine⟨m,hm,λh' hs'=>⟨σ.set i (some (.ref Da)),upd H' Da (.lst ys),?_,q.2 Da hD⟩⟩;obtain⟨f0,f1,f2',f3,f4,f5⟩:=fpC;exact I''.unpinned.turned (t':=s''.toks) (it:=C) (λb o hb e=>hs'.extBut b o hb e) f0 f1 f3 f4 f5
end
def Can(P:Program)(w:World)(K:PySem.W.Frag)(mg:Str->Option Value)(base:Heap)(x:Str)(ps:List Str)(k:Nat)(sp:Sp):Prop :=
 ∃f fd,mg x=some (.ref f)/\PySem.W.keepIn K (.ref f)=true/\Binds K fd ps []/\dH P w K mg base CX0 k f fd ps sp/\∃oc od osl,K.lookup f=some ⟨oc,od,.func fd,osl⟩
def Def(K:PySem.W.Frag)(mg:Str->Option Value)(x:Str)(st:Stmt):Prop:=∃f fd,mg x=some (.ref f)/\Fun K x x st f fd
section
variable {P:Program}{w:World}{K:PySem.W.Frag}{mg:Str->Option Value}{base:Heap}
theorem Can.mono{x:Str}{ps:List Str}{j k:Nat}{sp:Sp}(c:Can P w K mg base x ps j sp)(h:j<=k):Can P w K mg base x ps k sp :=
 let ⟨f,fd,a,b,d,e,g⟩:=c;⟨f,fd,a,b,d,e.mono h,g⟩
theorem Def.can{x:Str}{st:Stmt}{N ps:List Str}{k:Nat}{sp:Sp}(D:Def K mg x st)(S:bK N ps (aY st))
  (hb:∀(kV doc pm:Value) (an:Option Addr) (cdv ct:Value) (us:List Value),us.length=ps.length->bindArgs (PySem.W.fnOf x x (iz st) (fB st) (aY st) .none kV doc pm an cdv ct) ⟨us,[]⟩=pure (ps.zip us))
  (len:∀vs H Q E,sp vs H Q E->vs.length=ps.length)
  (hbody:∀(f:Addr) (cdv:Value) (A:Around) (outer:List Env) (s:Shared) (H:Hp) (vs:List V) (Q:VK) (E:XK),bD k (A.deeper (envOfC x (aY st) s.heap.objs.size f cdv))->sp vs H Q E ->
   ∃t,PSs (iT CX0 P w K mg base N x (aY st) f cdv A outer s H E).nox (fB st) t/\t {nx:=λ_ H'=>Q .non H',rt:=Q} (start N vs) H):Can P w K mg base x ps (k+1) sp:=by
 obtain⟨f,fd,hm,F⟩:=D;obtain⟨oc,od,_,_,_,_,_,_,osl,_,lk,_⟩:=F.ex;exact⟨f,fd,hm,F.kp,F.binds hb,F.ok S len λcdv A outer s H vs Q E hr h=>hbody f cdv A outer s H vs Q E hr h,oc,od,osl,lk⟩
end
section
variable {X:Cx}{k:Nat}{x:Str}{ps:List Str}{sp:Sp}{p pos:Pos}{e:Expr}{es:List Expr}{t:TA}
theorem T8(C:Can X.prog X.w X.K X.mg X.base x ps k sp)(hr:bD k X.A)(ha:PA X (e::es) t)(hg:Gl X x:=by rfl)(hdb:(x == ("__debug__":Str))=false:=by decide)
  (he:starEach (e::es) X.env=(false,eval e X.env)::starEach es X.env:=by rfl) (hpl:(backTo pos (starEach es X.env)).any (·.1)=false:=by rfl):
  PE X (.Call (.Name x p) (e::es) [] pos) (wU sp [] E0 t):=by
 obtain⟨f,fd,hm,hk,hb,F,_⟩:=C;exact RG F hr hg hm hk hb .nil t8 ha hdb he hpl
end
theorem Same.seqT{K:PySem.W.Frag}{H H':Hp}{a:Addr}{xs:List V}(e:Same H H')(h:SqT K H a xs):SqT K H' a xs:=by
 rcases h with(h | ⟨o,h⟩) | h
 ·exact .inl (.inl (e _ _ h))
 ·exact .inl (.inr ⟨o,e _ _ h⟩)
 ·exact .inr h
theorem Same.upd{H:Hp}{a:Addr}{o:HO}(h:H a=none):Same H (upd H a o):=λb u e=>by rw[aP (cT e h)];exact e
mutual
def Rep(K:PySem.W.Frag)(H:Hp):V->PyData->Prop
 |v,.none=>v=.non
 |v,.bool b=>v=.bl b
 |v,.int i=>v=.int i
 |v,.str x=>v=.str x
 |v,.list ds=>∃a xs,v=.ref a/\SqL K H a xs/\bc K H xs ds
 |v,.tuple ds=>∃a xs,v=.ref a/\SqT K H a xs/\bc K H xs ds
 | _,.dict _=>False
def bc(K:PySem.W.Frag)(H:Hp):List V->List PyData->Prop
 |xs,[]=>xs=[]
 |xs,d::ds=>∃x r,xs=x::r/\Rep K H x d/\bc K H r ds
end
mutual
theorem Rep.mono{K:PySem.W.Frag}{H H':Hp}(e:Same H H'):∀(d:PyData) {v:V},Rep K H v d->Rep K H' v d
 | .none,v,h=>by rw[Rep] at h ⊢;exact h
 | .bool b,v,h=>by rw[Rep] at h ⊢;exact h
 | .int i,v,h=>by rw[Rep] at h ⊢;exact h
 | .str x,v,h=>by rw[Rep] at h ⊢;exact h
 | .list ds,v,h=>by
  rw[Rep] at h ⊢;obtain⟨a,xs,h1,h2,h3⟩:=h;exact⟨a,xs,h1,e.seq h2,bc.mono e ds h3⟩
 | .tuple ds,v,h=>by
  rw[Rep] at h ⊢;obtain⟨a,xs,h1,h2,h3⟩:=h;exact⟨a,xs,h1,e.seqT h2,bc.mono e ds h3⟩
 | .dict _,v,h=>by rw[Rep] at h;exact h.elim
theorem bc.mono{K:PySem.W.Frag}{H H':Hp}(e:Same H H'):∀(ds:List PyData) {xs:List V},bc K H xs ds->bc K H' xs ds
 | [],xs,h=>by rw[bc] at h ⊢;exact h
 |d::ds,xs,h=>by
  rw[bc] at h ⊢;obtain⟨x,r,h1,h2,h3⟩:=h;exact⟨x,r,h1,Rep.mono e d h2,bc.mono e ds h3⟩
end
theorem bc.nil{K:PySem.W.Frag}{H:Hp}:bc K H [] []:=by rw[bc]
theorem bc.cons{K:PySem.W.Frag}{H:Hp}{x:V}{xs:List V}{d:PyData}{ds:List PyData}(h:Rep K H x d)(hs:bc K H xs ds):bc K H (x::xs) (d::ds):=by
 rw[bc];exact⟨x,xs,rfl,h,hs⟩
theorem bc.un{K:PySem.W.Frag}{H:Hp}{xs:List V}{d:PyData}{ds:List PyData}(h:bc K H xs (d::ds)):∃x r,xs=x::r/\Rep K H x d/\bc K H r ds:=by rw[bc] at h;exact h
theorem bc.un0{K:PySem.W.Frag}{H:Hp}{xs:List V}(h:bc K H xs []):xs=[]:=by rw[bc] at h;exact h
theorem Rep.unL{K:PySem.W.Frag}{H:Hp}{v:V}{ds:List PyData}(h:Rep K H v (.list ds)):∃a xs,v=.ref a/\SqL K H a xs/\bc K H xs ds:=by rw[Rep] at h;exact h
theorem Rep.unT{K:PySem.W.Frag}{H:Hp}{v:V}{ds:List PyData}(h:Rep K H v (.tuple ds)):∃a xs,v=.ref a/\SqT K H a xs/\bc K H xs ds:=by rw[Rep] at h;exact h
theorem Rep.unS{K:PySem.W.Frag}{H:Hp}{v:V}{x:Str}(h:Rep K H v (.str x)):v=.str x:=by rw[Rep] at h;exact h
theorem Rep.unI{K:PySem.W.Frag}{H:Hp}{v:V}{x:Int}(h:Rep K H v (.int x)):v=.int x:=by rw[Rep] at h;exact h
theorem Rep.s{K:PySem.W.Frag}{H:Hp}{x:Str}:Rep K H (.str x) (.str x):=by rw[Rep]
theorem Rep.i{K:PySem.W.Frag}{H:Hp}{x:Int}:Rep K H (.int x) (.int x):=by rw[Rep]
theorem Rep.b{K:PySem.W.Frag}{H:Hp}{x:Bool}:Rep K H (.bl x) (.bool x):=by rw[Rep]
theorem bc.length{K:PySem.W.Frag}{H:Hp}:∀{ds:List PyData}{xs:List V},bc K H xs ds->xs.length=ds.length
 | [],xs,h=>by rw[bc] at h;rw[h];rfl
 |d::ds,xs,h=>by
  rw[bc] at h;obtain⟨x,r,rfl,_,h3⟩:=h;simp[bc.length h3]
theorem bc.get{K:PySem.W.Frag}{H:Hp}:∀{ds:List PyData}{xs:List V}{i:Nat}{x:V},bc K H xs ds->xs[i]?=some x->∃d,ds[i]?=some d/\Rep K H x d
 | [],xs,i,x,h,e=>by rw[bc] at h;rw[h] at e;simp at e
 |d::ds,xs,i,x,h,e=>by
  rw[bc] at h;obtain⟨y,r,rfl,h2,h3⟩:=h
  cases i with
  |zero=>simp at e;subst e;exact⟨d,rfl,h2⟩
  |succ i =>
   obtain⟨d',e',q⟩:=bc.get (i:=i) (x:=x) h3 (by simpa using e);exact⟨d',by simpa using e',q⟩
theorem bc.snoc{K:PySem.W.Frag}{H:Hp}{x:V}{d:PyData}(hx:Rep K H x d):∀{ds:List PyData}{xs:List V},bc K H xs ds->bc K H (xs++[x]) (ds++[d])
 | [],xs,h=>by rw[bc] at h;rw[h];exact bc.cons hx bc.nil
 |e::ds,xs,h=>by
  rw[bc] at h;obtain⟨y,r,rfl,h2,h3⟩:=h;exact bc.cons h2 (bc.snoc hx h3)
theorem bc.append{K:PySem.W.Frag}{H:Hp}{ys:List V}{es:List PyData}(hy:bc K H ys es):∀{ds:List PyData}{xs:List V},bc K H xs ds->bc K H (xs++ys) (ds++es)
 | [],xs,h=>by rw[bc] at h;rw[h];exact hy
 |e::ds,xs,h=>by
  rw[bc] at h;obtain⟨y,r,rfl,h2,h3⟩:=h;exact bc.cons h2 (bc.append hy h3)
theorem bc.take{K:PySem.W.Frag}{H:Hp}:∀{ds:List PyData}{xs:List V} (n:Nat),bc K H xs ds->bc K H (xs.take n) (ds.take n)
 | _,_,0,_=>by simpa using bc.nil
 | [],xs,n+1,h=>by rw[bc] at h;rw[h];simpa using bc.nil
 |d::ds,xs,n+1,h=>by
  rw[bc] at h;obtain⟨y,r,rfl,h2,h3⟩:=h;exact bc.cons h2 (bc.take n h3)
theorem bc.drop{K:PySem.W.Frag}{H:Hp}:∀{ds:List PyData}{xs:List V} (n:Nat),bc K H xs ds->bc K H (xs.drop n) (ds.drop n)
 | _,_,0,h=>by simpa using h
 | [],xs,n+1,h=>by rw[bc] at h;rw[h];simpa using bc.nil
 |d::ds,xs,n+1,h=>by
  rw[bc] at h;obtain⟨y,r,rfl,h2,h3⟩:=h;exact bc.drop n h3
section
variable {X:Cx}{pins:List (Addr×Obj)}{σ:St}{H:Hp}{s:Shared}
mutual
theorem Rep.reads(I:Inv X pins σ H s):∀(d:PyData) {v:V}{u:Value},Rep X.K H v d->RelV v u->∃as,Reads s.heap u d as
 | .none,v,u,h,r=>by rw[Rep] at h;subst h;cases(show u=.none from r);exact⟨_,.none⟩
 | .bool b,v,u,h,r=>by rw[Rep] at h;subst h;cases(show u=.bool b from r);exact⟨_,.bool b⟩
 | .int i,v,u,h,r=>by rw[Rep] at h;subst h;obtain⟨t,rfl⟩:=(show ∃t,u=.int i t from r);exact⟨_,.int i t⟩
 | .str x,v,u,h,r=>by rw[Rep] at h;subst h;obtain⟨t,rfl⟩:=(show ∃t,u=.str x t from r);exact⟨_,.str x t⟩
 | .list ds,v,u,h,r=>by
  rw[Rep] at h;obtain⟨a,xs,rfl,h2,h3⟩:=h;cases(show u=.ref a from r);obtain⟨its,rv,pl,_⟩:=I.list h2;obtain⟨as,q⟩:=bc.reads I ds h3 rv;obtain⟨o,ho,hc,n,hd⟩:=pl.isList;exact⟨_,.list ho hc hd (by simpa using q)⟩
 | .tuple ds,v,u,h,r=>by
  rw[Rep] at h;obtain⟨a,xs,rfl,h2,h3⟩:=h;cases(show u=.ref a from r);obtain⟨its,rv,pl,_⟩:=I.tuple h2;obtain⟨as,q⟩:=bc.reads I ds h3 rv;obtain⟨o,ho,hc,n,hd⟩:=pl;exact⟨_,.tuple ho hc hd (by simpa using q)⟩
 | .dict _,v,u,h,r=>by rw[Rep] at h;exact h.elim
theorem bc.reads(I:Inv X pins σ H s):∀(ds:List PyData) {xs:List V}{us:List Value},bc X.K H xs ds->aR xs us->∃as,ReadsAll s.heap us ds as
 | [],xs,us,h,r=>by rw[bc] at h;subst h;cases r;exact⟨_,.nil⟩
 |d::ds,xs,us,h,r=>by
  rw[bc] at h;obtain⟨x,rest,rfl,h2,h3⟩:=h
  cases r with
  |cons r1 r2 =>
   obtain⟨as,q⟩:=Rep.reads I d h2 r1;obtain⟨bs,q'⟩:=bc.reads I ds h3 r2;exact⟨_,.cons q q'⟩
end
end
def okD(d:PyData):Bool:=d.canLay0&&decide (d.depth<=60)
def GC(K:PySem.W.Frag)(neg:Bool):R2:=λx y H Q=>∃d e,Rep K H x d/\Rep K H y e/\okD d=true/\okD e=true/\Q (.bl (if neg then !PyData.eqv d e else PyData.eqv d e)) H
section
variable {X:Cx}
theorem T9{k:Nat}(hr:bD k X.A):OpR X (compareOp .Eq) (GC X.K false):=by
 intro pins s σ H x y v u Q I rx ry h;obtain⟨d,e,h1,h2,k1,k2,q⟩:=h;obtain⟨as,r1⟩:=Rep.reads I d h1 rx;obtain⟨bs,r2⟩:=Rep.reads I e h2 ry;unfold okD at k1 k2;simp only[zp,decide_eq_true_eq] at k1 k2;exact SeqAt.compareEq_reads r1 r2 k1.1 k2.1 (by have:=hr.units;omega) ⟨.bl _,H,I,rfl,q⟩
theorem Ua{k:Nat}(hr:bD k X.A):OpR X (compareOp .NotEq) (GC X.K true):=by
 intro pins s σ H x y v u Q I rx ry h;obtain⟨d,e,h1,h2,k1,k2,q⟩:=h;obtain⟨as,r1⟩:=Rep.reads I d h1 rx;obtain⟨bs,r2⟩:=Rep.reads I e h2 ry;unfold okD at k1 k2;simp only[zp,decide_eq_true_eq] at k1 k2;exact SeqAt.compareNe_reads r1 r2 k1.1 k2.1 (by have:=hr.units;omega) ⟨.bl _,H,I,rfl,q⟩
end
def S(l:List Nat):Str:=⟨l.toArray⟩
theorem lL(l:List Nat):(S l).cps.toList=l:=by simp[S]
theorem fL(l:List Nat):(S l).length=l.length:=by simp[S,Str.length]
theorem Ub(x:Str):S x.cps.toList=x:=by cases x;simp[S]
theorem Uc(a b:List Nat):S a++S b=S (a++b):=by
 show Str.mk _=Str.mk _;simp[S]
theorem Ud{a b:List Nat}(h:S a=S b):a=b:=by have:=congrArg (λx:Str=>x.cps.toList) h;simpa [lL] using this
section
variable {X:Cx}
theorem Ue:OpR X (compareOp .LtE) (λx y H Q=>∃i j,x=.str i/\y=.str j/\Q (.bl (!decide (j.cps.toList<i.cps.toList))) H):=by
 intro pins s σ H x y v u Q I rx ry h;obtain⟨i,j,rfl,rfl,q⟩:=h;obtain⟨t,rfl⟩:=rx;obtain⟨t',rfl⟩:=ry;exact P.le_str ⟨.bl _,H,I,rfl,q⟩
theorem Ug:OpR X (compareOp .In) (λx y H Q=>∃c l,x=.str (S [c])/\y=.str (S l)/\Q (.bl (decide (c∈l))) H):=by
 intro pins s σ H x y v u Q I rx ry h;obtain⟨c,l,rfl,rfl,q⟩:=h;refine QX pins s σ H _ _ v u Q I rx ry ⟨S [c],S l,rfl,rfl,?_⟩;have e:=PySem.StrLaws.found_one (S l) c;rw[lL] at e;show Q (.bl (!(Builtin.Str.occurrences (S l) (S [c]) 0 (S l).length 1).isEmpty)) H;rw[show S [c]=⟨#[c]⟩ from rfl,e];exact q
theorem Uh:OpR X (compareOp .NotIn) (λx y H Q=>∃c l,x=.str (S [c])/\y=.str (S l)/\Q (.bl (!decide (c∈l))) H):=by
 intro pins s σ H x y v u Q I rx ry h;obtain⟨c,l,rfl,rfl,q⟩:=h;refine QZ pins s σ H _ _ v u Q I rx ry ⟨S [c],S l,rfl,rfl,?_⟩;have e:=PySem.StrLaws.found_one (S l) c;rw[lL] at e;show Q (.bl (!(!(Builtin.Str.occurrences (S l) (S [c]) 0 (S l).length 1).isEmpty))) H;rw[show S [c]=⟨#[c]⟩ from rfl,e];exact q
def Its(l:List Nat):It:=⟨λi _=>i<l.length,λi H x H'=>H'=H/\∃c,l[i]?=some c/\x=.str (S [c]),λi _=>l.length<=i⟩
theorem Ui{P:Program}{w:World}{K:PySem.W.Frag}{tg:Expr}(l:List Nat)(it:Addr)(t:Tok):Turn P w K tg (Its l) [it] it (λi h=>h.IsStrIter it "str_ascii_iterator" (S l) t i) where
 mem:=by simp
 obj:=λi h st b hb=>by
  have e:b=it:=by simpa using hb
  subst e;obtain⟨o,e,c,d⟩:=st;exact⟨o,e,λv z=>by rw[d] at z;cases z⟩
 keep:=λi h h' st k=>let ⟨o,ho,r⟩:=st;⟨o,k it (by simp) o ho,r⟩
 item:=by
  intro X hP hw hK hc i pins s σ H E I hf st hg;subst hP hw hK;obtain⟨f0,f1,f2,f3,f4,f5⟩:=hf it (by simp);have hg':i<l.length:=hg
  refine wpAny_pyNext_ascii_item st (c:=l[i]) (by simp[S,hg']) λh' st' sb=>?_
  have I1:Inv X pins σ H {s with heap:=h',toks:=s.toks+1}:=I.turned (λb o hb e=>(sb.2 b hb).trans e) f0 f1 f3 f4 f5;obtain⟨o,e,c,d⟩:=id st';exact⟨_,rfl,mW (s:={s with heap:=h',toks:=s.toks+1}) e c d (by decide) ⟨.str (S [l[i]]),H,I1,⟨_,rfl⟩,⟨rfl,l[i],by simp[hg'],rfl⟩,st',λb hb=>(hf b hb).1⟩⟩
 done:=by
  intro X hP hw hK hc i pins s σ H E I hf st hg;subst hP hw hK;obtain⟨f0,f1,f2,f3,f4,f5⟩:=hf it (by simp);have hg':l.length<=i:=hg
  exact wpAny_pyNext_ascii_end (I.ok.hd hc) st (by simp[S,hg']) λh' eb=>⟨rfl,I.turned (t':=s.toks) (λb o hb e=>eb b o hb e) f0 f1 f3 f4 f5⟩
 self:=λ_ _ _ _ _ st h=>wpAny_pyIter_striter_ascii st h
def ascii(l:List Nat):Bool:=l.all (· < 128)
def Uj(tl:TE):TI:=λσ H R=>tl σ H λx H1=>∃l,x=.str (S l)/\ascii l=true/\R (Its l) H1
theorem Uk{tg e:Expr}{tl:TE}(hl:PE X e tl):PI X tg e (Uj tl):=by
 intro pins s σ H R I h
 refine thn (hl pins s σ H _ I h) λv s1 ⟨x,H1,I1,r1,q1⟩=>?_
 obtain⟨l,e,ha,q⟩:=q1;subst e;obtain⟨t,rfl⟩:=r1;refine wpAny_pyIter_ascii (by simpa [S,ascii] using ha) ?_;refine⟨s1.heap.objs.size,[s1.heap.objs.size],_,_,H1,rfl,I1.kept (t':=s1.toks) λb o e=>zk _ e,Ui l _ t,⟨_,zz _ rfl,rfl,rfl⟩,λb hb=>?_,q⟩
 have e:b=s1.heap.objs.size:=by simpa using hb
 subst e;exact I1.fpOk (zc _) (I1.hok.fresh (zc _))
theorem Ul(hc:X.calm=true):gQ X (.builtin "sum") (λxs H Q=>∃(a:Addr) (ns:List Int),xs=[.ref a]/\SqL X.K H a (ns.map V.int)/\(∀n∈ns,0<=n/\n<=1000000)/\ns.length<=1000000/\Q (.int ns.sum) H):=by
 intro pins s σ H xs us Q I r h;obtain⟨a,ns,rfl,ha,hb,hl0,q⟩:=h;obtain⟨u,rfl,ru⟩:=vals1 r;cases ru;obtain⟨its,rv,p,hz⟩:=I.list ha;have hne:a≠s.heap.objs.size:=zu (zf p.isList.choose_spec.1)
 have hl:its.length=ns.length:=by have:=rv.length;rw[ze] at this;exact this.symm
 have pre:∀j,j<=ns.length->preSum (λi=>ns.getD i 0) j=(ns.take j).sum/\0<=preSum (λi=>ns.getD i 0) j/\preSum (λi=>ns.getD i 0) j<=(j:Int) * 1000000:=by
  intro j
  induction j with
  |zero=>intro _;simp[preSum]
  |succ j ih =>
   intro hj;obtain⟨e,l1,l2⟩:=ih (by omega)
   have hj':j<ns.length:=by omega
   have hm:=hb ns[j] (jp hj')
   have ed:ns.getD j 0=ns[j]:=by rw[jc,zo hj'];rfl
   have es:preSum (λi=>ns.getD i 0) (j+1)=preSum (λi=>ns.getD i 0) j+ns[j]:=by
    rw[<-ed];rfl
   refine⟨?_,by omega,by omega⟩;rw[es,e,List.take_succ_eq_append_getElem hj',List.sum_append];simp
 refine call_sum_walk (wpAny_pyIter_list p.isList ?_)
 refine⟨s.heap.objs.size,_,_,its.toArray.size,_,_,λi=>ns.getD i 0,rfl,Walks.list (A:=X.A.in1) (I.ok.hd hc) s.heap.objs.size a hne its.toArray,
  ⟨⟨_,zz _ rfl,rfl,rfl⟩,p.isList.at λo e=>zk _ e⟩,λb hb'=>?_,λi v hv=>?_,λj hj=>?_,λh' tk t' hk=>?_⟩
 ·have hsz:({s with heap:=s.heap.push {cls:=.type "list_iterator",data:=.fields #[.ref a,.int 0 0]}}:Shared).heap.objs.size=s.heap.objs.size+1:=Heap.size_push ..;rw[hsz]
  have z:b=s.heap.objs.size\/b=a:=by simpa using hb'
  have ha':a<s.heap.objs.size:=zf p.isList.choose_spec.1
  rcases z with z | z
  ·rw[z];exact zZ _
  ·rw[z];exact jd ha'
 ·have hi:i<its.length:=by
   have z:=Array.getElem?_eq_some_iff.mp hv;simpa using z.1
  have hb':(ns.map V.int)[i]?=some (V.int (ns.getD i 0)):=by
   rw[zA,zo (by omega),jc,zo (by omega)];rfl
  obtain⟨u,hu,ru⟩:=rv.get hb'
  have hv':its[i]?=some v:=by simpa using hv
  rw[hv'] at hu;cases hu;exact ru
 ·rw[zr] at hj
  have hj':j<ns.length:=by omega
  have hm:=hb ns[j] (jp hj')
  have ed:ns.getD j 0=ns[j]:=by rw[jc,zo hj'];rfl
  obtain⟨_,l1,l2⟩:=pre (j+1) (by omega);unfold InLong;dsimp only;rw[ed]
  constructor<;>constructor<;>omega
 ·obtain⟨e,_,_⟩:=pre ns.length (zc _);rw[List.take_length] at e;refine⟨.int ns.sum,H,I.kept λb o e=>hk b o (λz=>?_) (zk _ e),⟨t',?_⟩,q⟩
  ·have z':b=s.heap.objs.size:=by simpa using z
   exact absurd (zf e) (by rw[z'];exact zP _)
  ·rw[zr,hl,e]
end
structure Blt(mg:Str->Option Value):Prop where
 len_:mg "len" = none
 isinstance_:mg "isinstance" = none
 all_:mg "all" = none
 sum_:mg "sum" = none
 max_:mg "max" = none
 min_:mg "min" = none
 int_:mg "int" = none
 str_:mg "str" = none
 bool_:mg "bool" = none
 list_:mg "list" = none
 tuple_:mg "tuple" = none
 dict_:mg "dict" = none
 range_:mg "range" = none
 enumerate_:mg "enumerate" = none
 zip_:mg "zip" = none
section
variable {X:Cx}
theorem GD{x:Str}{v:V}{pos:Pos}(h:∃u,X.mg x=some u/\RelV v u)(hg:Gl X x:=by rfl)(hd:(x == ("__debug__":Str))=false:=by decide):PE X (.Name x pos) (tC v):=by
 obtain⟨u,hm,r⟩:=h;exact OD hg hm r hd
end
def eU{α:Type}(l:List α)(lo hi:Option Int):List α:=(l.drop (HT.sIx l.length 0 lo)).take (HT.sIx l.length l.length hi - HT.sIx l.length 0 lo)
theorem GF(l:List Nat)(lo hi:Option Int):Txt.slice (S l) lo hi=S (eU l lo hi):=by
 obtain⟨h1,h2,h3⟩:=Gg lo hi l.length
 have e:Builtin.Str.strSliceIndices lo hi 1 (S l).length=(List.range (HT.sIx l.length l.length hi - HT.sIx l.length 0 lo)).map (HT.sIx l.length 0 lo + ·):=by
  rw[fL];show sliceRange (sliceBounds lo hi none l.length).1 (sliceBounds lo hi none l.length).2.1 (sliceBounds lo hi none l.length).2.2=_;rw[h1,h2,h3,sliceRange_one]
 unfold Txt.slice;rw[e,pick_run,lL]
 split
 ·rename_i h
  have hl:HT.sIx l.length l.length hi - HT.sIx l.length 0 lo=l.length:=by simpa [fL] using h
  have hle:HT.sIx l.length l.length hi<=l.length:=HT.sIx_le _ _ (zc _) hi;have hlo:HT.sIx l.length 0 lo<=l.length:=HT.sIx_le _ _ (Nat.zero_le _) lo
  have h0:HT.sIx l.length 0 lo=0:=by omega
  have h1:HT.sIx l.length l.length hi=l.length:=by omega
  unfold eU;rw[h0,h1];simp
 ·rfl
section
variable {X:Cx}
def Um:V->Option Int->Option Int->Hp->VK->Prop:=λx lo hi H Q=>∃l,x=.str (S l)/\l.length<=sizeLine/\Q (.str (S (eU l lo hi))) H
theorem part_of{v:Value}{o:Option Int}(p:IsPart v o):∃q:Option (Int×Tok),v=partValue q/\q.map (·.1)=o:=by
 cases p with
 |none=>exact⟨none,rfl,rfl⟩
 |int i t=>exact⟨some (i,t),rfl,rfl⟩
theorem Uo:SlR X Um:=by
 intro pins s σ H x v vl vu lo hi sl Q I rx hs pl pu h;obtain⟨l,rfl,hz,q⟩:=h;obtain⟨t,rfl⟩:=rx;obtain⟨ql,rfl,e1⟩:=part_of pl;obtain⟨qu,rfl,e2⟩:=part_of pu;refine⟨"str",_,F.slot_str_getitem.lookup,typeIs_str _ _ _,?_⟩;refine wpAny_getItem_str_slice (l:=ql) (u:=qu) (st:=none) hs rfl ?_;have key:(if((1:Int) == 1&&(Builtin.Str.strSliceIndices lo hi 1 (S l).length).length == (S l).length)=true then S l else⟨((Builtin.Str.strSliceIndices lo hi 1 (S l).length).filterMap ((S l).cps[·]?)).toArray⟩)=S (eU l lo hi):=GF l lo hi;unfold sliceMade slicePicked;rw[e1,e2];refine post_val_or_str ⟨?_,λt' k=>?_⟩
 ·show(Txt.slice (S l) lo hi).length<=_;exact zH (Txt.slice_le _ _ _) (by rw[fL];exact hz)
 ·have e3:=GF l lo hi;unfold Txt.slice at e3;show EP X pins σ Q (.str (if((1:Int) == 1&&(Builtin.Str.strSliceIndices lo hi 1 (S l).length).length == (S l).length)=true then S l else⟨((Builtin.Str.strSliceIndices lo hi 1 (S l).length).filterMap ((S l).cps[·]?)).toArray⟩) t') {s with toks:=k};rw[e3];exact⟨.str _,H,I.tok k,⟨t',rfl⟩,q⟩
end
namespace HT2
theorem getItem_tuple_whole{prog:Program}{w:World}{A:Around}{E:Value->Shared->Prop}{s:Shared}{t sl:Addr}{items:Array Value}{vl vu:Value}{lo hi:Option Int}{Q:Value->Shared->Prop}(ht:IsTup s.heap t items)(hs:s.heap.IsSliceOf sl vl vu .none)(pl:IsPart vl lo)(pu:IsPart vu hi)
  (hw:HT.sIx items.size 0 lo=0/\HT.sIx items.size items.size hi=items.size) (h:Q (.ref t) s):wpAny (model prog w) A (getItem (.ref t) (.ref sl)) Q E s:=by
 obtain⟨os,hos,hcs,hds⟩:=id hs;have hTs:s.TypeIs (.ref sl) "slice":=⟨os,hos,hcs⟩;unfold getItem
 try with_reducible refine zM ?_
 first | refine za (zb ?_) | skip
 refine za (wpAny_sequenceKey ht.typeIs (by decide) ?_)
 refine za (wpAny_callSpecial?_slot (name:=Str.ofString "__getitem__") ht.typeIs PyProof.Rows.slot_tuple_getitem
  (wpAny_call_entry PyProof.Rows.slot_tuple_getitem ht.typeIs entry_tuple_getitem ?_ (args_tuple_getitem _ _)))
 show wpAny _ _ (Builtin.Tuple.tupleItemsOf (.ref t) >>= _) _ _ s;refine za (tupleItemsOf_ ht ?_);refine za (wpAny_typeOf hTs ?_);rw[if_pos (by decide)];refine za (HT.sliceApplied_gen hs pl pu ?_)
 have hyes:(((HT.sIx items.size 0 lo:Nat):Int) == 0&&(1:Int) == 1&&(HT.sIx items.size items.size hi - HT.sIx items.size 0 lo) == items.size)=true:=by
  rw[hw.1,hw.2];simp
 show wpAny _ _ (if(((HT.sIx items.size 0 lo:Nat):Int) == 0&&(1:Int) == 1&&(HT.sIx items.size items.size hi - HT.sIx items.size 0 lo) == items.size)=true then _ else _) _ _ s;rw[if_pos hyes]
 have hex:∀{A':Around}{E':Value->Shared->Prop}{Q':Bool->Shared->Prop},Q' true s->wpAny (model prog w) A' (Builtin.Tuple.tupleIsExact (.ref t)) Q' E' s:=λ{A' E' Q'} hq=>by
  unfold Builtin.Tuple.tupleIsExact;exact za (wpAny_typeOf ht.typeIs (zb hq))
 refine za (hex ?_);rw[if_pos rfl];exact za (ja (zb ⟨_,rfl,zb h⟩))
end HT2
section
variable {X:Cx}
def Up(K:PySem.W.Frag):V->Option Int->Option Int->Hp->VK->Prop:=λx lo hi H Q=>∃a xs,x=.ref a/\SqT K H a xs /\
 ((HT.sIx xs.length 0 lo=0/\HT.sIx xs.length xs.length hi=xs.length)->Q (.ref a) H)/\(¬(HT.sIx xs.length 0 lo=0/\HT.sIx xs.length xs.length hi=xs.length)->∀p,H p=none->Q (.ref p) (upd H p (.tup (j8 xs lo hi))))
theorem Uq(K:PySem.W.Frag)(hK:X.K=K:=by rfl):SlR X (Up K):=by
 subst hK;intro pins s σ H x v vl vu lo hi sl Q I rx hs pl pu h;obtain⟨a,xs,rfl,hx,q1,q2⟩:=h
 by_cases hw:HT.sIx xs.length 0 lo=0/\HT.sIx xs.length xs.length hi=xs.length
 ·cases rx;obtain⟨its,r,ht,hz⟩:=I.tuple hx
  have hlen:its.toArray.size=xs.length:=by rw[zr];exact r.length.symm
  exact⟨"tuple",_,PyProof.Rows.slot_tuple_getitem.lookup,ht.typeIs,HT2.getItem_tuple_whole ht hs pl pu (by rw[hlen];exact hw) ⟨.ref a,H,I,rfl,q1 hw⟩⟩
 ·exact R3 pins s σ H _ v vl vu lo hi sl Q I rx hs pl pu ⟨a,xs,rfl,hx,hw,q2 hw⟩
inductive TyQ (K:PySem.W.Frag) (H:Hp):V->String->Prop where
 | non:TyQ K H .non "NoneType"
 | bl (x:Bool):TyQ K H (.bl x) "bool"
 | int (i:Int):TyQ K H (.int i) "int"
 | str (x:Str):TyQ K H (.str x) "str"
 | lst {a:Addr}{xs:List V} (e:SqL K H a xs):TyQ K H (.ref a) "list"
 | tup {a:Addr}{xs:List V} (e:SqT K H a xs):TyQ K H (.ref a) "tuple"
 | dK {a:Addr}{kvs:List (Key×V)} (e:H a=some (.dK kvs)):TyQ K H (.ref a) "dict"
def Ur(K:PySem.W.Frag):List V->Hp->VK->Prop:=λxs H Q=>∃x n t b,xs=[x,.ty n]/\TyQ K H x t/\PySem.W.kitOne K (.type t) (.type n)=some b/\Q (.bl b) H
theorem Us(K:PySem.W.Frag)(hK:X.K=K:=by rfl):gQ X (.builtin "isinstance") (Ur K):=by
 subst hK;intro pins s σ H xs us Q I r h;obtain⟨x,n,t,b,rfl,ty,e,q⟩:=h;obtain⟨u,c,rfl,r1,r2⟩:=vals2 r;cases(show c=.type n from r2)
 have fin:∀tk,EP X pins σ Q (.bool b) {s with toks:=tk}:=λtk=>⟨.bl b,H,I.tok tk,rfl,q⟩
 cases ty with
 |non=>exact qO I r1 .non e fin
 |bl y=>exact qO I r1 (.bl y) e fin
 |int i=>exact qO I r1 (.int i) e fin
 |str y=>exact qO I r1 (.str y) e fin
 | @lst a xs ea =>
  cases(show u=Value.ref a from r1);obtain⟨its,_,p,_⟩:=I.list ea;obtain⟨o,ho,hc,_⟩:=p.isList;exact PySem.W.kia_one PySem.W.kitx_list I.kIn ⟨o,ho,hc⟩ e (λz=>nomatch z) fin
 | @tup a xs ea =>
  cases(show u=Value.ref a from r1);obtain⟨its,_,p,_⟩:=I.tuple ea;obtain⟨o,ho,hc,_⟩:=p;exact PySem.W.kia_one PySem.W.kitx_tuple I.kIn ⟨o,ho,hc⟩ e (λz=>nomatch z) fin
 | @dK a kvs ea=>exact qO I r1 (.dK ea) e fin
theorem GJ(K:PySem.W.Frag)(n:String):PySem.W.kitOne K (.type n) (.type n)=some true:=by
 unfold PySem.W.kitOne;rw[if_pos (beq_self_eq_true _)]
end
theorem GK:∀{ds:List PyData},(∀d∈ds,d.canLay0=true)->PyData.canLayAll0 ds=true
 | [],_=>rfl
 |d::ds,h=>by rw[PyData.canLayAll0,h d zv,GK λx hx=>h x (zy _ hx)];rfl
theorem GP{n:Nat}:∀{ds:List PyData},(∀d∈ds,d.depth<=n)->PyData.depthAll ds<=n
 | [],_=>by rw[PyData.depthAll];exact Nat.zero_le _
 |d::ds,h=>by
  rw[PyData.depthAll];exact Nat.max_le.mpr ⟨h d zv,GP λx hx=>h x (zy _ hx)⟩
theorem Ut{n:Nat}(hn:n<60){ds:List PyData}(h:∀d∈ds,d.canLay0=true/\d.depth<=n):okD (.list ds)=true:=by
 unfold okD;rw[zp];refine⟨?_,zh ?_⟩
 ·show PyData.canLayAll0 ds=true
  exact GK λd hd=>(h d hd).1
 ·show PyData.depthAll ds+1<=60
  have:=GP λd hd=>(h d hd).2
  omega
section
variable {X:Cx}
theorem GQ:∀{ls:List (List Nat)}{us:List Value},aR (ls.map λl=>V.str (S l)) us->StrsAre us (ls.map S)
 | [],us,r=>by rw[zC] at r;cases r;exact .nil
 |l::ls,us,r=>by
  rw[zd] at r
  cases r with
  |cons r1 r2 =>
   obtain⟨t,e⟩:=r1;subst e;exact .cons _ t (GQ r2)
theorem GR:∀(ls:List (List Nat)) (a:Array Nat),(ls.map S).foldl (λacc p=>acc++(S []).cps++p.cps) a=a++ls.flatten.toArray
 | [],a=>by simp
 |l::ls,a=>by
  rw[zd,List.foldl_cons,GR ls];simp[S]
theorem Uu(ls:List (List Nat)):Txt.join (S []) (ls.map S)=S ls.flatten:=by
 show Builtin.Str.glued (S []) (ls.map S)=_;unfold Builtin.Str.glued
 cases ls with
 |nil=>rfl
 |cons l ls =>
  show Str.mk ((ls.map S).foldl (λacc p=>acc++(S []).cps++p.cps) (S l).cps)=_;rw[GR];simp[S]
def rJoin(K:PySem.W.Frag):V->List V->Hp->VK->Prop:=λx vs H Q=>∃(p:Addr) (ls:List (List Nat)),x=.str (S [])/\vs=[.ref p]/\SqL K H p (ls.map λl=>V.str (S l))/\(ls.map List.length).sum<=1000000/\Q (.str (S ls.flatten)) H
theorem Uv(K:PySem.W.Frag)(hK:X.K=K:=by rfl):MtR X "str.join" (rJoin K):=by
 subst hK;intro pins s σ H x xs v us Q I rx rs h;obtain⟨p,ls,rfl,rfl,hq,hz,q⟩:=h;obtain⟨t,rfl⟩:=rx;obtain⟨u,rfl,ru⟩:=vals1 rs;cases ru;obtain⟨its,rv,pl,_⟩:=I.list hq
 refine join_list pl.isList (ys:=ls.map S) (by simpa using GQ rv) ?_ λt' k=>⟨.str (S ls.flatten),H,I.tok k,⟨t',?_⟩,q⟩
 ·have e:((ls.map S).map (·.length)).sum=(ls.map List.length).sum:=by
   rw[zR];exact congrArg List.sum (jl λl _=>fL l)
  rw[e,fL];simp only[zV,Nat.mul_zero];omega
 ·rw[Uu]
def Uw:R2:=λx y H Q=>∃(l:List Nat) (n:Int),x=.str (S l)/\y=.int n/\-1000000<n/\n<1000000/\l.length * n.toNat<=16777216/\Q (.str (S (List.replicate n.toNat l).flatten)) H
theorem GX(l:List Nat):∀(n:Nat) (a:Array Nat),(List.replicate n (S l).cps).foldl (· ++ ·) a=a++(List.replicate n l).flatten.toArray
 | 0,a=>by simp
 |n+1,a=>by
  rw[List.replicate_succ,List.foldl_cons,GX l n,List.replicate_succ,List.flatten_cons];simp[S]
theorem Ux:OpR X (binaryOp .Mult) Uw:=by
 intro pins s σ H x y v u Q I rx ry h;obtain⟨l,n,rfl,rfl,h1,h2,h3,q⟩:=h;obtain⟨t,rfl⟩:=rx;obtain⟨t',rfl⟩:=ry;have hs:sizeLine=16777216:=sizeLine_eq
 by_cases hn:n<1
 ·have e0:n.toNat=0:=by omega
  rw[e0] at q;exact P.mul_str_none hn (by omega) ⟨.str (S []),H,I.tok _,⟨s.toks,rfl⟩,q⟩
 refine P.mul_str ?_ (λ_ _=>?_) (λ_ _=>?_) ?_
 ·rw[zg (by omega),zg (by omega)];rfl
 ·rw[fL];intro hz
  have h4:(l.length:Int) * n<=16777216:=by
   have:((l.length * n.toNat:Nat):Int)<=16777216:=by omega
   rw[Int.natCast_mul,Int.toNat_of_nonneg (by omega)] at this;exact this
  have h5:(2 ^ 63 - 1) / n<(l.length:Int):=hz;have h6:=(Int.ediv_lt_iff_lt_mul (show 0<n by omega)).mp h5;omega
 ·rw[fL];unfold Builtin.Str.tooLong;exact zg (by omega)
 ·rw[if_neg (by omega)]
  by_cases hl:(n == 1 || (S l).length == 0)=true
  ·rw[if_pos hl]
   have e:(List.replicate n.toNat l).flatten=l:=by
    rw[Bool.or_eq_true,beq_iff_eq,beq_iff_eq,fL] at hl
    rcases hl with z | z
    ·rw[z];show(List.replicate 1 l).flatten=l;simp
    ·have z':=List.eq_nil_of_length_eq_zero z;subst z';rw[List.flatten_eq_nil_iff];intro x hx;exact(List.mem_replicate.mp hx).2
   rw[e] at q;exact⟨.str (S l),H,I,⟨t,rfl⟩,q⟩
  ·rw[if_neg hl,GX];refine⟨?_,.str (S (List.replicate n.toNat l).flatten),H,I.tok _,⟨s.toks,?_⟩,q⟩
   ·show(#[]++(List.replicate n.toNat l).flatten.toArray).size<=sizeLine;simp only[Array.size_append,zr,List.length_flatten,List.map_replicate,List.sum_replicate_nat];simp;rw[Nat.mul_comm];omega
   ·congr 1;simp[S]
end
inductive D where
 | non | bl (b:Bool) | int (i:Int) | str (l:List Nat) | lst (ds:List D) | tup (ds:List D) | dic (ks vs:List D) | ob (n:Nat)
inductive Ob where
 | ins (c:Str) (fs:List (Str×D))
 | ml (ds:List D)
 | dt (kvs:List (List Key×D))
 | df (kvs:List (List Key×D))
abbrev au:=List Ob
abbrev aD:=List (Option D)
structure Xc where
 cls:Str
 fs:List (Str×D)
inductive Res (α:Type) where
 | ok (a:α) (O:au) | ex (x:Xc) (O:au) | no
inductive Fl where
 | nx (ρ:aD) (O:au) | rt (d:D) (O:au) | bk (ρ:aD) (O:au) | ct (ρ:aD) (O:au) | ex (x:Xc) (O:au) | no
abbrev M(α:Type):=aD->au->Res α
abbrev MS:=aD->au->Fl
def Res.bind{α β:Type}(r:Res α)(f:α->au->Res β):Res β:=match r with
 | .ok a O=>f a O
 | .ex x O=>.ex x O
 | .no=>.no
theorem Res.bind_ok{α β:Type}{r:Res α}{f:α->au->Res β}{b:β}{O':au}(h:r.bind f=.ok b O'):∃a O,r=.ok a O/\f a O=.ok b O':=by
 cases r with
 |ok a O=>exact⟨a,O,rfl,h⟩
 |ex x O=>cases h
 |no=>cases h
def qT:Expr->Bool
 | .Starred _ _=>false
 | _=>true
theorem dB{e:Expr}{es:List Expr}{env:Env}(h:qT e=true):starEach (e::es) env=(false,eval e env)::starEach es env:=by
 cases e<;>first | rfl | cases h
theorem fC{pos:Pos}{env:Env}:∀{es:List Expr},es.all qT=true->(backTo pos (starEach es env)).any (·.1)=false
 | [],_=>by simp[starEach,backTo]
 |e::es,h=>by
  rw[List.all_cons,zp] at h;rw[dB h.1];show(false || (backTo pos (starEach es env)).any (·.1))=false;rw[fC h.2];rfl
theorem qU{e:Expr}{env:Env}(h:qT e=true):starEach [e] env=[(false,eval e env)]:=by rw[dB h];simp[starEach]
theorem Uy{e f:Expr}{env:Env}(h:qT e=true)(h':qT f=true):starEach [e,f] env=[(false,eval e env),(false,eval f env)]:=by rw[dB h,qU h']
abbrev Frag:=PySem.W.Frag
def ph:Key->D
 | .inl i=>.int i
 | .inr x=>.str x.cps.toList
def RdK(K:Frag)(H:Hp)(a:Addr)(xs:List V):Prop:=Rd H a (.lst xs)\/∃(its:List Value) (n:Nat),K.lookup a=some {cls:=.type "list",data:=.seq its.toArray n}/\its.length<=sizeLine/\aR xs its
theorem RdK.sq{K:Frag}{H:Hp}{a:Addr}{xs:List V}(h:RdK K H a xs):SqL K H a xs:=by
 rcases h with h | ⟨its,n,h1,h2,h3⟩
 ·exact .inl h
 ·exact .inr ⟨_,its.toArray,n,h1,rfl,rfl,rfl,by simpa using h2,by simpa using h3⟩
theorem RdK.ok{X:Cx}{pins:List (Addr×Obj)}{σ:St}{H:Hp}{s:Shared}{a:Addr}{xs:List V}(h:RdK X.K H a xs)(I:Inv X pins σ H s):xs.length<=sizeLine/\∃(its:List Value) (n:Nat),aR xs its/\s.heap.get? a=some {cls:=.type "list",data:=.seq its.toArray n}:=by
 rcases h with h | ⟨its,n,h1,h2,h3⟩
 ·exact h.ok I.hok
 ·exact⟨by rw[h3.length];exact h2,its,n,h3,I.kIn a _ h1⟩
def TqT(K:Frag)(F:Hp)(a:Addr)(xs:List V):Prop :=
 F a=some (.tup xs)\/∃(o:Obj) (its:Array Value) (n:Nat),K.lookup a=some o/\o.cls=.type "tuple"/\o.data=.seq its n/\its.size<=sizeLine/\aR xs its.toList
theorem TqT.sq{K:Frag}{F:Hp}{a:Addr}{xs:List V}(h:TqT K F a xs):SqT K F a xs:=h.imp .inl id
mutual
def Rp(K:Frag)(F:Hp)(as:List Addr):V->D->Prop
 |v,.non=>v=.non
 |v,.bl b=>v=.bl b
 |v,.int i=>v=.int i
 |v,.str l=>v=.str (S l)
 |v,.lst ds=>∃a xs,v=.ref a/\RdK K F a xs/\Rps K F as xs ds
 |v,.tup ds=>∃a xs,v=.ref a/\TqT K F a xs/\Rps K F as xs ds
 |v,.dic ks vs=>∃(a:Addr) (kvs:List (Key×V)),v=.ref a/\F a=some (.dK kvs)/\ks=kvs.map (λp=>ph p.1)/\Rps K F as (kvs.map (·.2)) vs
 |v,.ob n=>∃a,v=.ref a/\as[n]?=some a
def Rps(K:Frag)(F:Hp)(as:List Addr):List V->List D->Prop
 |xs,[]=>xs=[]
 |xs,d::ds=>∃x r,xs=x::r/\Rp K F as x d/\Rps K F as r ds
end
section
variable {K:Frag}{F F':Hp}{as as':List Addr}
theorem Rd.mono{H H':Hp}{a:Addr}{u:HO}(e:Same H H')(h:Rd H a u):Rd H' a u:=by
 rcases h with h | ⟨o,h⟩
 ·exact .inl (e _ _ h)
 ·exact .inr ⟨o,e _ _ h⟩
theorem RdK.mono{H H':Hp}{a:Addr}{xs:List V}(e:Same H H')(h:RdK K H a xs):RdK K H' a xs:=h.imp (λz=>z.mono e) id
mutual
theorem Rp.mono(e:Same F F')(ea:∀(n:Nat) (a:Addr),as[n]?=some a->as'[n]?=some a):∀(d:D) {v:V},Rp K F as v d->Rp K F' as' v d
 | .non,v,h=>by rw[Rp] at h ⊢;exact h
 | .bl b,v,h=>by rw[Rp] at h ⊢;exact h
 | .int i,v,h=>by rw[Rp] at h ⊢;exact h
 | .str x,v,h=>by rw[Rp] at h ⊢;exact h
 | .lst ds,v,h=>by
  rw[Rp] at h ⊢;obtain⟨a,xs,h1,h2,h3⟩:=h;exact⟨a,xs,h1,h2.mono e,Rps.mono e ea ds h3⟩
 | .tup ds,v,h=>by
  rw[Rp] at h ⊢;obtain⟨a,xs,h1,h2,h3⟩:=h;exact⟨a,xs,h1,h2.imp (e _ _) id,Rps.mono e ea ds h3⟩
 | .dic ks vs,v,h=>by
  rw[Rp] at h ⊢;obtain⟨a,kvs,h1,h2,h3,h4⟩:=h;exact⟨a,kvs,h1,e _ _ h2,h3,Rps.mono e ea vs h4⟩
 | .ob n,v,h=>by
  rw[Rp] at h ⊢;obtain⟨a,h1,h2⟩:=h;exact⟨a,h1,ea _ _ h2⟩
theorem Rps.mono(e:Same F F')(ea:∀(n:Nat) (a:Addr),as[n]?=some a->as'[n]?=some a):∀(ds:List D) {xs:List V},Rps K F as xs ds->Rps K F' as' xs ds
 | [],xs,h=>by rw[Rps] at h ⊢;exact h
 |d::ds,xs,h=>by
  rw[Rps] at h ⊢;obtain⟨x,r,h1,h2,h3⟩:=h;exact⟨x,r,h1,Rp.mono e ea d h2,Rps.mono e ea ds h3⟩
end
theorem Rp.non:Rp K F as .non .non:=by rw[Rp]
theorem Rp.bl{b:Bool}:Rp K F as (.bl b) (.bl b):=by rw[Rp]
theorem Rp.int{i:Int}:Rp K F as (.int i) (.int i):=by rw[Rp]
theorem Rp.str{l:List Nat}:Rp K F as (.str (S l)) (.str l):=by rw[Rp]
theorem Rp.unN{v:V}(h:Rp K F as v .non):v=.non:=by rw[Rp] at h;exact h
theorem Rp.unB{v:V}{b:Bool}(h:Rp K F as v (.bl b)):v=.bl b:=by rw[Rp] at h;exact h
theorem Rp.unI{v:V}{i:Int}(h:Rp K F as v (.int i)):v=.int i:=by rw[Rp] at h;exact h
theorem Rp.unS{v:V}{l:List Nat}(h:Rp K F as v (.str l)):v=.str (S l):=by rw[Rp] at h;exact h
theorem Rp.unL{v:V}{ds:List D}(h:Rp K F as v (.lst ds)):∃a xs,v=.ref a/\RdK K F a xs/\Rps K F as xs ds:=by rw[Rp] at h;exact h
theorem Rp.unT'{v:V}{ds:List D}(h:Rp K F as v (.tup ds)):∃a xs,v=.ref a/\TqT K F a xs/\Rps K F as xs ds:=by rw[Rp] at h;exact h
theorem Rp.unT{v:V}{ds:List D}(h:Rp K F as v (.tup ds)):∃a xs,v=.ref a/\SqT K F a xs/\Rps K F as xs ds:=let ⟨a,xs,e,h1,h2⟩:=h.unT';⟨a,xs,e,h1.sq,h2⟩
theorem Rp.unO{v:V}{n:Nat}(h:Rp K F as v (.ob n)):∃a,v=.ref a/\as[n]?=some a:=by rw[Rp] at h;exact h
theorem Rp.unD{v:V}{ks vs:List D}(h:Rp K F as v (.dic ks vs)):∃(a:Addr) (kvs:List (Key×V)),v=.ref a/\F a=some (.dK kvs)/\ks=kvs.map (λp=>ph p.1)/\Rps K F as (kvs.map (·.2)) vs:=by rw[Rp] at h;exact h
theorem Rp.mkL{a:Addr}{xs:List V}{ds:List D}(h:RdK K F a xs)(hs:Rps K F as xs ds):Rp K F as (.ref a) (.lst ds):=by rw[Rp];exact⟨a,xs,rfl,h,hs⟩
theorem Rp.mkT{a:Addr}{xs:List V}{ds:List D}(h:TqT K F a xs)(hs:Rps K F as xs ds):Rp K F as (.ref a) (.tup ds):=by rw[Rp];exact⟨a,xs,rfl,h,hs⟩
theorem Rp.mkO{a:Addr}{n:Nat}(h:as[n]?=some a):Rp K F as (.ref a) (.ob n):=by rw[Rp];exact⟨a,rfl,h⟩
theorem Rps.nil:Rps K F as [] []:=by rw[Rps]
theorem Rps.cons{x:V}{xs:List V}{d:D}{ds:List D}(h:Rp K F as x d)(hs:Rps K F as xs ds):Rps K F as (x::xs) (d::ds):=by
 rw[Rps];exact⟨x,xs,rfl,h,hs⟩
theorem Rps.un{xs:List V}{d:D}{ds:List D}(h:Rps K F as xs (d::ds)):∃x r,xs=x::r/\Rp K F as x d/\Rps K F as r ds:=by rw[Rps] at h;exact h
theorem Rps.un0{xs:List V}(h:Rps K F as xs []):xs=[]:=by rw[Rps] at h;exact h
theorem Rps.length:∀{ds:List D}{xs:List V},Rps K F as xs ds->xs.length=ds.length
 | [],xs,h=>by rw[h.un0];rfl
 |d::ds,xs,h=>by
  obtain⟨x,r,rfl,_,h3⟩:=h.un;simp[Rps.length h3]
theorem Rps.get:∀{ds:List D}{xs:List V}{i:Nat}{x:V},Rps K F as xs ds->xs[i]?=some x->∃d,ds[i]?=some d/\Rp K F as x d
 | [],xs,i,x,h,e=>by rw[h.un0] at e;simp at e
 |d::ds,xs,i,x,h,e=>by
  obtain⟨y,r,rfl,h2,h3⟩:=h.un
  cases i with
  |zero=>simp at e;subst e;exact⟨d,rfl,h2⟩
  |succ i =>
   obtain⟨d',e',q⟩:=Rps.get (i:=i) (x:=x) h3 (by simpa using e);exact⟨d',by simpa using e',q⟩
theorem Rps.get':∀{ds:List D}{xs:List V}{i:Nat}{d:D},Rps K F as xs ds->ds[i]?=some d->∃x,xs[i]?=some x/\Rp K F as x d:=by
 intro ds xs i d h e;have hl:=h.length
 have hi:i<xs.length:=by rw[hl];exact(zl.mp e).1
 obtain⟨d',e',q⟩:=h.get (zo hi);rw[e] at e';cases e';exact⟨_,zo hi,q⟩
theorem Rps.append{ys:List V}{es:List D}(hy:Rps K F as ys es):∀{ds:List D}{xs:List V},Rps K F as xs ds->Rps K F as (xs++ys) (ds++es)
 | [],xs,h=>by rw[h.un0];exact hy
 |e::ds,xs,h=>by
  obtain⟨y,r,rfl,h2,h3⟩:=h.un;exact Rps.cons h2 (Rps.append hy h3)
theorem Rps.snoc{x:V}{d:D}{ds:List D}{xs:List V}(h:Rps K F as xs ds)(hx:Rp K F as x d):Rps K F as (xs++[x]) (ds++[d]):=Rps.append (Rps.cons hx Rps.nil) h
theorem Rps.take:∀{ds:List D}{xs:List V} (n:Nat),Rps K F as xs ds->Rps K F as (xs.take n) (ds.take n)
 | _,_,0,_=>by simpa using Rps.nil
 | [],xs,n+1,h=>by rw[h.un0];simpa using Rps.nil
 |d::ds,xs,n+1,h=>by
  obtain⟨y,r,rfl,h2,h3⟩:=h.un;exact Rps.cons h2 (Rps.take n h3)
theorem Rps.drop:∀{ds:List D}{xs:List V} (n:Nat),Rps K F as xs ds->Rps K F as (xs.drop n) (ds.drop n)
 | _,_,0,h=>by simpa using h
 | [],xs,n+1,h=>by rw[h.un0];simpa using Rps.nil
 |d::ds,xs,n+1,h=>by
  obtain⟨y,r,rfl,h2,h3⟩:=h.un;exact Rps.drop n h3
theorem Rps.set:∀{ds:List D}{xs:List V}{x:V}{d:D} (n:Nat),Rps K F as xs ds->Rp K F as x d->Rps K F as (xs.set n x) (ds.set n d)
 | [],xs,x,d,n,h,_=>by rw[h.un0];simpa using Rps.nil
 |e::ds,xs,x,d,0,h,hx=>by
  obtain⟨y,r,rfl,h2,h3⟩:=h.un;exact Rps.cons hx h3
 |e::ds,xs,x,d,n+1,h,hx=>by
  obtain⟨y,r,rfl,h2,h3⟩:=h.un;exact Rps.cons h2 (Rps.set n h3 hx)
theorem Rps.rep{ds:List D}{xs:List V}(h:Rps K F as xs ds):∀n:Nat,Rps K F as (List.replicate n xs).flatten (List.replicate n ds).flatten
 | 0=>by simpa using Rps.nil
 |n+1=>by
  rw[List.replicate_succ,List.replicate_succ,List.flatten_cons,List.flatten_cons];exact Rps.append (Rps.rep h n) h
end
def isD:HO->Bool
 | .ins _ _ _=>false
 | .own _=>false
 | .xd _=>false
 | _=>true
def isL:HO->Bool
 | .lst _=>true
 | .dK _=>true
 | _=>false
theorem GZ{o:HO}(h:isL o=true):isD o=true:=by
 cases o<;>first | rfl | cases h
structure Gr(H F:Hp)(as:List Addr)(H' F':Hp)(as':List Addr):Prop where
 fz:∀a o,H a=some o->a∉as->isL o=true->F' a=F a
 ff:Same F F'
 nw:∃new,as'=as++new/\∀a∈new,H a=none
 fr:∀a o,H a=some o->a∉as->isD o=true->H' a=some o
 dm:∀a,H' a=none->H a=none
 kz:∀a o u,H a=some (.frz o u)->H' a=some (.frz o u)
structure Pt where
 p:Addr->Prop
 ss:List (Nat×V×D)
instance:CoeFun Pt (λ_=>Addr->Prop):=⟨Pt.p⟩
def Pt.all(H:Hp):Pt:=⟨λa=>H a≠none,[]⟩
structure GrS(P:Pt)(H F:Hp)(as:List Addr)(H' F':Hp)(as':List Addr):Prop where
 fz:∀a o,P a->H a=some o->a∉as->isL o=true->F' a=F a
 ff:Same F F'
 nw:∃new,as'=as++new/\∀a∈new,H a=none
 fr:∀a o,P a->H a=some o->a∉as->isD o=true->H' a=some o
 dm:∀a,H' a=none->H a=none
 kz:∀a o u,H a=some (.frz o u)->H' a=some (.frz o u)
section
variable {H F H' F' H2 F2:Hp}{as as' as2:List Addr}{P:Pt}
theorem Gr.refl:Gr H F as H F as:=⟨λ_ _ _ _ _=>rfl,Same.refl F,⟨[],by simp,λ_ h=>nomatch h⟩,λ_ _ h _ _=>h,λ_ h=>h,λ_ _ _ h=>h⟩
theorem Gr.trans(a:Gr H F as H' F' as')(b:Gr H' F' as' H2 F2 as2):Gr H F as H2 F2 as2:=by
 obtain⟨n1,e1,h1⟩:=a.nw;obtain⟨n2,e2,h2⟩:=b.nw;refine⟨λc o hc hn hd=>?_,a.ff.trans b.ff,⟨n1++n2,by rw[e2,e1,jk],λc hc=>?_⟩,λc o e hn hd=>?_,λc h=>a.dm c (b.dm c h),λc o u h=>b.kz c o u (a.kz c o u h)⟩
 ·have q:=a.fr c o hc hn (GZ hd);refine(b.fz c o q ?_ hd).trans (a.fz c o hc hn hd);rw[e1];intro z
  rcases zJ.mp z with z | z
  ·exact hn z
  ·rw[h1 c z] at hc;cases hc
 ·rcases zJ.mp hc with z | z
  ·exact h1 c z
  ·exact a.dm c (h2 c z)
 ·have q:=a.fr c o e hn hd;refine b.fr c o q ?_ hd;rw[e1];intro z
  rcases zJ.mp z with z | z
  ·exact hn z
  ·rw[h1 c z] at e;cases e
theorem Gr.toS(a:Gr H F as H' F' as'):GrS P H F as H' F' as':=⟨λc o _=>a.fz c o,a.ff,a.nw,λc o _ e hn hd=>a.fr c o e hn hd,a.dm,a.kz⟩
theorem GrS.refl:GrS P H F as H F as:=Gr.refl.toS
theorem GrS.trans(a:GrS P H F as H' F' as')(b:GrS P H' F' as' H2 F2 as2):GrS P H F as H2 F2 as2:=by
 obtain⟨n1,e1,h1⟩:=a.nw;obtain⟨n2,e2,h2⟩:=b.nw;refine⟨λc o p hc hn hd=>?_,a.ff.trans b.ff,⟨n1++n2,by rw[e2,e1,jk],λc hc=>?_⟩,λc o p e hn hd=>?_,λc h=>a.dm c (b.dm c h),λc o u h=>b.kz c o u (a.kz c o u h)⟩
 ·have q:=a.fr c o p hc hn (GZ hd);refine(b.fz c o p q ?_ hd).trans (a.fz c o p hc hn hd);rw[e1];intro z
  rcases zJ.mp z with z | z
  ·exact hn z
  ·rw[h1 c z] at hc;cases hc
 ·rcases zJ.mp hc with z | z
  ·exact h1 c z
  ·exact a.dm c (h2 c z)
 ·have q:=a.fr c o p e hn hd;refine b.fr c o p q ?_ hd;rw[e1];intro z
  rcases zJ.mp z with z | z
  ·exact hn z
  ·rw[h1 c z] at e;cases e
theorem GrS.mono{P':Pt}(a:GrS P H F as H' F' as')(h:∀c,P' c->P c):GrS P' H F as H' F' as':=⟨λc o p=>a.fz c o (h c p),a.ff,a.nw,λc o p=>a.fr c o (h c p),a.dm,a.kz⟩
theorem GrS.gr(a:GrS (Pt.all H) H F as H' F' as'):Gr H F as H' F' as':=⟨λc o e=>a.fz c o (show H c≠none by rw[e];exact λz=>nomatch z) e,a.ff,a.nw,λc o e=>a.fr c o (show H c≠none by rw[e];exact λz=>nomatch z) e,a.dm,a.kz⟩
theorem Gr.at_(a:Gr H F as H' F' as'):∀(n:Nat) (c:Addr),as[n]?=some c->as'[n]?=some c:=λn c h=>by
 obtain⟨new,e,_⟩:=a.nw;rw[e,zD (zl.mp h).1];exact h
theorem GrS.at_(a:GrS P H F as H' F' as'):∀(n:Nat) (c:Addr),as[n]?=some c->as'[n]?=some c:=λn c h=>by
 obtain⟨new,e,_⟩:=a.nw;rw[e,zD (zl.mp h).1];exact h
theorem Gr.out(a:Gr H F as H' F' as'){c:Addr}(h:c∉as)(e:H c≠none):c∉as':=by
 obtain⟨new,e1,h1⟩:=a.nw;rw[e1];intro z
 rcases zJ.mp z with z | z
 ·exact h z
 ·exact e (h1 c z)
theorem GrS.out(a:GrS P H F as H' F' as'){c:Addr}(h:c∉as)(e:H c≠none):c∉as':=by
 obtain⟨new,e1,h1⟩:=a.nw;rw[e1];intro z
 rcases zJ.mp z with z | z
 ·exact h z
 ·exact e (h1 c z)
theorem Rp.gr{K:Frag}{v:V}{d:D}(h:Rp K F as v d)(a:Gr H F as H' F' as'):Rp K F' as' v d:=Rp.mono a.ff a.at_ d h
theorem Rps.gr{K:Frag}{v:List V}{d:List D}(h:Rps K F as v d)(a:Gr H F as H' F' as'):Rps K F' as' v d:=Rps.mono a.ff a.at_ d h
theorem Rp.grS{K:Frag}{v:V}{d:D}(h:Rp K F as v d)(a:GrS P H F as H' F' as'):Rp K F' as' v d:=Rp.mono a.ff a.at_ d h
theorem Rps.grS{K:Frag}{v:List V}{d:List D}(h:Rps K F as v d)(a:GrS P H F as H' F' as'):Rps K F' as' v d:=Rps.mono a.ff a.at_ d h
end
structure FsR(K:Frag)(F:Hp)(as:List Addr)(gs:List (Str×V))(fs:List (Str×D)):Prop where
 nm:gs.map (·.1)=fs.map (·.1)
 vl:Rps K F as (gs.map (·.2)) (fs.map (·.2))
def ObR(K:Frag)(mg:Str->Option Value)(H F:Hp)(as:List Addr)(a:Addr):Ob->Prop
 | .ins c fs=>∃C dx gs,mg c=some (.ref C)/\H a=some (.ins C dx gs)/\FsR K F as gs fs
 | .ml ds=>∃xs,H a=some (.lst xs)/\Rps K F as xs ds
 | .dt kvs=>∃xs:List (List Key×V),H a=some (.dT xs)/\xs.map (·.1)=kvs.map (·.1)/\Rps K F as (xs.map (·.2)) (kvs.map (·.2))
 | .df kvs=>∃(o:Obj) (xs:List (List Key×V)),H a=some (.frz o (.dT xs))/\xs.map (·.1)=kvs.map (·.1)/\Rps K F as (xs.map (·.2)) (kvs.map (·.2))
structure RlO(K:Frag)(mg:Str->Option Value)(O:au)(H F:Hp)(as:List Addr):Prop where
 fh:Same F H
 fd:∀a o,F a=some o->isD o=true
 nd:as.Nodup
 len:as.length=O.length
 fa:∀a∈as,F a=none
 ob:∀(n:Nat) (a:Addr) (o:Ob),as[n]?=some a->O[n]?=some o->ObR K mg H F as a o
inductive Md where
 | v | s | o
 deriving DecidableEq
def jK:D->Bool
 | .lst _=>false
 | _=>true
def iV(P:Pt)(K:Frag)(H F:Hp)(as:List Addr):Md->V->D->Prop
 | .v,v,d=>Rp K F as v d
 | .s,v,d=>Rp K F as v d\/∃a xs ds,v=.ref a/\d=.lst ds/\H a=some (.lst xs)/\a∉as/\P a/\Rps K F as xs ds
 | .o,v,d=>(jK d=true/\Rp K F as v d)\/∃a xs ds,v=.ref a/\d=.lst ds/\H a=some (.lst xs)/\F a=none/\a∉as/\¬P a/\Rps K F as xs ds
structure SlO(K:Frag)(md:List Md)(P:Pt)(ρ:aD)(σ:St)(H F:Hp)(as:List Addr):Prop where
 len:σ.length=md.length
 len':ρ.length=md.length
 pd:∀a,P a->H a≠none
 sl:∀(i:Nat) (m:Md) (d:D),md[i]?=some m->ρ[i]?=some (some d)->∃v,σ[i]?=some (some v)/\iV P K H F as m v d
 inj:∀(i j:Nat) (a:Addr) (ds es:List D),md[i]?=some .o->md[j]?=some .o->ρ[i]?=some (some (.lst ds))->ρ[j]?=some (some (.lst es))->σ[i]?=some (some (.ref a))->σ[j]?=some (some (.ref a))->i=j
 pin:∀x∈P.ss,md[x.1]?=some .s/\ρ[x.1]?=some (some x.2.2)/\σ[x.1]?=some (some x.2.1)
section
variable {K:Frag}{mg:Str->Option Value}{md:List Md}{P:Pt}{ρ:aD}{σ:St}{H F H' F':Hp}{as as':List Addr}{O O':au}
theorem iV.step{m:Md}{v:V}{d:D}(h:iV P K H F as m v d)(g:Gr H F as H' F' as'):iV P K H' F' as' m v d:=by
 cases m with
 |v=>exact Rp.gr (show Rp K F as v d from h) g
 |s =>
  rcases h with h | ⟨a,xs,ds,e1,e2,e3,e4,e5,e6⟩
  ·exact .inl (h.gr g)
  ·exact .inr ⟨a,xs,ds,e1,e2,g.fr _ _ e3 e4 rfl,g.out e4 (by rw[e3];exact λz=>nomatch z),e5,e6.gr g⟩
 |o =>
  rcases h with⟨h1,h⟩ | ⟨a,xs,ds,e1,e2,e3,e0,e4,e5,e6⟩
  ·exact .inl ⟨h1,h.gr g⟩
  ·have hn:H a≠none:=by rw[e3];exact λz=>nomatch z
   exact .inr ⟨a,xs,ds,e1,e2,g.fr _ _ e3 e4 rfl,by rw[g.fz a _ e3 e4 rfl];exact e0,g.out e4 hn,e5,e6.gr g⟩
theorem SlO.step(h:SlO K md P ρ σ H F as)(g:Gr H F as H' F' as'):SlO K md P ρ σ H' F' as' :=
 ⟨h.len,h.len',λa p z=>h.pd a p (g.dm a z),λi m d e1 e2=>let ⟨v,q,r⟩:=h.sl i m d e1 e2;⟨v,q,r.step g⟩,h.inj,h.pin⟩
end
def Sv(K:Frag)(H F:Hp)(as:List Addr)(v:V)(d:D):Prop :=
 Rp K F as v d\/∃a xs ds,v=.ref a/\d=.lst ds/\H a=some (.lst xs)/\a∉as/\Rps K F as xs ds
def Lk(K:Frag)(H F:Hp)(as:List Addr)(v:V)(d:D):Prop :=
 Rp K F as v d\/∃a xs ds,v=.ref a/\d=.lst ds/\H a=some (.lst xs)/\Rps K F as xs ds
def Ow(K:Frag)(N:Addr->Prop)(H F:Hp)(as:List Addr)(v:V)(d:D):Prop :=
 (jK d=true/\Rp K F as v d)\/∃a xs ds,v=.ref a/\d=.lst ds/\H a=some (.lst xs)/\F a=none/\a∉as/\N a/\Rps K F as xs ds
def bx(O:au)(d:D):D:=match d with
 | .ob n=>match O[n]? with
  |some (.ml ds)=>.lst ds
  | _=>.ob n
 |d=>d
section
variable {K:Frag}{mg:Str->Option Value}{H0 H F H' F':Hp}{as as':List Addr}{O:au}{v:V}{d:D}
theorem Sv.gr(h:Sv K H F as v d)(g:Gr H F as H' F' as'):Sv K H' F' as' v d:=by
 rcases h with h | ⟨a,xs,ds,e1,e2,e3,e4,e5⟩
 ·exact .inl (h.gr g)
 ·exact .inr ⟨a,xs,ds,e1,e2,g.fr _ _ e3 e4 rfl,g.out e4 (by rw[e3];exact λz=>nomatch z),e5.gr g⟩
theorem Sv.lk(h:Sv K H F as v d)(r:RlO K mg O H F as):Lk K H F as v (bx O d):=by
 rcases h with h | ⟨a,xs,ds,rfl,rfl,e3,e4,e5⟩
 ·cases d with
  |ob n =>
   obtain⟨a,rfl,ha⟩:=h.unO;unfold bx;dsimp only
   split
   ·rename_i ds e;obtain⟨xs,e1,e2⟩:=r.ob n a _ ha e;exact .inr ⟨a,xs,ds,rfl,rfl,e1,e2⟩
   ·exact .inl (Rp.mkO ha)
  | _=>exact .inl h
 ·exact .inr ⟨a,xs,ds,rfl,rfl,e3,e5⟩
theorem Lk.list{ds:List D}(h:Lk K H F as v (.lst ds))(fh:Same F H):∃a xs,v=.ref a/\RdK K H a xs/\Rps K F as xs ds:=by
 rcases h with h | ⟨a,xs,ds',e1,e2,e3,e4⟩
 ·obtain⟨a,xs,e,h1,h2⟩:=h.unL;exact⟨a,xs,e,h1.mono fh,h2⟩
 ·cases e2;exact⟨a,xs,e1,.inl (.inl e3),e4⟩
theorem Lk.rp(h:Lk K H F as v d)(hn:jK d=true):Rp K F as v d:=by
 rcases h with h | ⟨a,xs,ds',e1,rfl,e3,e4⟩
 ·exact h
 ·cases hn
theorem Sv.rp(h:Sv K H F as v d)(hn:jK d=true):Rp K F as v d:=by
 rcases h with h | ⟨a,xs,ds',e1,rfl,e3,e4⟩
 ·exact h
 ·cases hn
theorem Ow.sv{N:Addr->Prop}(h:Ow K N H F as v d):Sv K H F as v d:=by
 rcases h with⟨_,h⟩ | ⟨a,xs,ds,e1,e2,e3,e4,e5,e6,e7⟩
 ·exact .inl h
 ·exact .inr ⟨a,xs,ds,e1,e2,e3,e5,e7⟩
theorem Gr.lay{p:Addr}{o:HO}(hp:H p=none):Gr H F as (upd H p o) F as :=
 ⟨λ_ _ _ _ _=>rfl,Same.refl F,⟨[],by simp,λ_ h=>nomatch h⟩,λa o' e _ _=>by rw[aP (cT e hp)];exact e,λa e=>by
  by_cases h:a=p
  ·subst h;exact hp
  ·rwa [aP h] at e,λa o' u e=>by rw[aP (cT e hp)];exact e⟩
theorem ObR.keep{a:Addr}{o:Ob}(h:ObR K mg H F as a o)(hH:H' a=H a)(e:Same F F')(ea:∀(n:Nat) (a:Addr),as[n]?=some a->as'[n]?=some a):ObR K mg H' F' as' a o:=by
 cases o with
 |ins c fs =>
  obtain⟨C,dx,gs,h1,h2,h3,h4⟩:=h;exact⟨C,dx,gs,h1,by rw[hH];exact h2,h3,Rps.mono e ea _ h4⟩
 |ml ds =>
  obtain⟨xs,h1,h2⟩:=h;exact⟨xs,by rw[hH];exact h1,Rps.mono e ea _ h2⟩
 |dt kvs =>
  obtain⟨xs,h1,h2,h3⟩:=h;exact⟨xs,by rw[hH];exact h1,h2,Rps.mono e ea _ h3⟩
 |df kvs =>
  obtain⟨o,xs,h1,h2,h3⟩:=h;exact⟨o,xs,by rw[hH];exact h1,h2,Rps.mono e ea _ h3⟩
theorem RlO.at{n:Nat}{a:Addr}{o:Ob}(r:RlO K mg O H F as)(ha:as[n]?=some a)(ho:O[n]?=some o):H a≠none:=by
 have q:=r.ob n a o ha ho
 cases o with
 |ins c fs=>obtain⟨C,dx,gs,h1,h2,_⟩:=q;rw[h2];exact λz=>nomatch z
 |ml ds=>obtain⟨xs,h1,_⟩:=q;rw[h1];exact λz=>nomatch z
 |dt kvs=>obtain⟨xs,h1,_⟩:=q;rw[h1];exact λz=>nomatch z
 |df kvs=>obtain⟨o,xs,h1,_⟩:=q;rw[h1];exact λz=>nomatch z
theorem RlO.all{a:Addr}(r:RlO K mg O H F as)(ha:a∈as):H a≠none:=by
 obtain⟨n,hn,e⟩:=List.mem_iff_getElem.mp ha
 have hO:n<O.length:=by rw[<-r.len];exact hn
 exact r.at (n:=n) (by rw[zo hn,e]) (zo hO)
theorem RlO.lay{p:Addr}{o:HO}(r:RlO K mg O H F as)(hp:H p=none):RlO K mg O (upd H p o) F as:=by
 refine⟨λa u e=>?_,r.fd,r.nd,r.len,r.fa,λn a u ha hu=>(r.ob n a u ha hu).keep (aP ?_) (Same.refl F) λ_ _ h=>h⟩
 ·have q:=r.fh a u e;rw[aP (cT q hp)];exact q
 ·intro z;subst z;exact r.at ha hu hp
theorem Gr.frz{p:Addr}{o:HO}(hp:H p=none)(g:Gr H F as H' F' as')(hf:F' p=none):Gr H F as H' (upd F' p o) as' :=
 ⟨λa o' ha hn hd=>by rw[aP (λz=>by subst z;rw[hp] at ha;cases ha)];exact g.fz a o' ha hn hd,λa u e=>by
  have q:=g.ff a u e
  rw[aP (cT q hf)];exact q,g.nw,g.fr,g.dm,g.kz⟩
theorem RlO.frz{p:Addr}{o:HO}(r:RlO K mg O H F as)(hp:H p=some o)(hf:F p=none)(ha:p∉as)(hd:isD o=true):RlO K mg O H (upd F p o) as:=by
 have ff:Same F (upd F p o):=λa u e=>by rw[aP (cT e hf)];exact e
 refine⟨λa u e=>?_,λa u e=>?_,r.nd,r.len,λa h=>?_,λn a u h1 h2=>(r.ob n a u h1 h2).keep rfl ff λ_ _ h=>h⟩
 ·by_cases h:a=p
  ·subst h;rw[cA] at e;cases e;exact hp
  ·rw[aP h] at e;exact r.fh a u e
 ·by_cases h:a=p
  ·subst h;rw[cA] at e;cases e;exact hd
  ·rw[aP h] at e;exact r.fd a u e
 ·rw[aP (λz=>by subst z;exact ha h)];exact r.fa a h
end
abbrev RR:=(Addr->Prop)->Hp->Hp->List Addr->V->D->Prop
def rV(K:Frag):RR:=λ_ _ F as v d=>Rp K F as v d
def rS(K:Frag):RR:=λ_ H F as v d=>Sv K H F as v d
def rO(K:Frag):RR:=λN H F as v d=>Ow K N H F as v d
def rA(K:Frag):Md->RR
 | .v=>rV K
 | _=>rS K
def gR(R:RR):Prop:=∀(N N':Addr->Prop) (H F:Hp) (as:List Addr) (v:V) (d:D),(∀a,N a->N' a)->R N H F as v d->R N' H F as v d
theorem cj{K:Frag}:gR (rV K):=λ_ _ _ _ _ _ _ _ h=>h
theorem fG{K:Frag}:gR (rO K):=λN N' H F as v d hn h=>by
 rcases h with h | ⟨a,xs,ds,e1,e2,e3,e4,e5,e6,e7⟩
 ·exact .inl h
 ·exact .inr ⟨a,xs,ds,e1,e2,e3,e4,e5,hn a e6,e7⟩
def tM(K:Frag)(mg:Str->Option Value)(md:List Md)(P:Pt)(R:RR)(m:M D):TE:=λσ H Q =>
 ∃ρ O F as d O',RlO K mg O H F as/\SlO K md P ρ σ H F as/\m ρ O=.ok d O' /\
  ∀v H' F' as',Gr H F as H' F' as'->RlO K mg O' H' F' as'->R (λa=>H a=none) H' F' as' v d->Q v H'
def tMT(K:Frag)(mg:Str->Option Value)(md:List Md)(P:Pt)(m:M Bool):TT:=λσ H Q =>
 ∃ρ O F as b O',RlO K mg O H F as/\SlO K md P ρ σ H F as/\m ρ O=.ok b O' /\
  ∀H' F' as',Gr H F as H' F' as'->RlO K mg O' H' F' as'->Q b H'
def di(K:Frag)(H F:Hp)(as:List Addr):List Md->List V->List D->Prop
 | [],[],[]=>True
 |m::ms,v::vs,d::ds=>rA K m (λ_=>True) H F as v d/\di K H F as ms vs ds
 | _,_,_=>False
def tMA(K:Frag)(mg:Str->Option Value)(md:List Md)(P:Pt)(ms:List Md)(m:M (List D)):TA:=λσ H Q =>
 ∃ρ O F as ds O',RlO K mg O H F as/\SlO K md P ρ σ H F as/\m ρ O=.ok ds O' /\
  ∀vs H' F' as',Gr H F as H' F' as'->RlO K mg O' H' F' as'->di K H' F' as' ms vs ds->Q vs H'
def XE(X:Cx)(md:List Md)(P:Pt)(R:RR)(e:Expr)(m:M D):Prop:=PE X e (tM X.K X.mg md P R m)
def VE(X:Cx)(md:List Md)(P:Pt)(e:Expr)(m:M D):Prop:=PE X e (tM X.K X.mg md P (rV X.K) m)
def SE(X:Cx)(md:List Md)(P:Pt)(e:Expr)(m:M D):Prop:=PE X e (tM X.K X.mg md P (rS X.K) m)
def OE(X:Cx)(md:List Md)(P:Pt)(e:Expr)(m:M D):Prop:=PE X e (tM X.K X.mg md P (rO X.K) m)
def TsE(X:Cx)(md:List Md)(P:Pt)(e:Expr)(m:M Bool):Prop:=PT X e (tMT X.K X.mg md P m)
def TwE(X:Cx)(md:List Md)(P:Pt)(e:Expr)(m:M Bool):Prop:=PW X e (tMT X.K X.mg md P m)
def AE(X:Cx)(md:List Md)(P:Pt)(ms:List Md)(es:List Expr)(m:M (List D)):Prop:=PA X es (tMA X.K X.mg md P ms m)
def lM(K:Frag)(mg:Str->Option Value)(md:List Md)(P:Pt)(R:RR)(D:Ends)(H F:Hp)(as:List Addr):Fl->Prop
 | .nx ρ' O'=>∀σ' H' F' as',GrS P H F as H' F' as'->RlO K mg O' H' F' as'->SlO K md P ρ' σ' H' F' as'->D.nx σ' H'
 | .bk ρ' O'=>∀σ' H' F' as',GrS P H F as H' F' as'->RlO K mg O' H' F' as'->SlO K md P ρ' σ' H' F' as'->D.bk σ' H'
 | .ct ρ' O'=>∀σ' H' F' as',GrS P H F as H' F' as'->RlO K mg O' H' F' as'->SlO K md P ρ' σ' H' F' as'->D.ct σ' H'
 | .rt d O'=>∀v H' F' as',GrS P H F as H' F' as'->RlO K mg O' H' F' as'->R (λa=>¬P a) H' F' as' v d->D.rt v H'
 | .ex _ _=>False
 | .no=>False
def tMS(K:Frag)(mg:Str->Option Value)(md:List Md)(P:Pt)(R:RR)(m:MS):TS:=λD σ H =>
 ∃ρ O F as,RlO K mg O H F as/\SlO K md P ρ σ H F as/\lM K mg md P R D H F as (m ρ O)
def VS(X:Cx)(md:List Md)(P:Pt)(R:RR)(st:Stmt)(m:MS):Prop:=PS X st (tMS X.K X.mg md P R m)
def VSs(X:Cx)(md:List Md)(P:Pt)(R:RR)(st:List Stmt)(m:MS):Prop:=PSs X st (tMS X.K X.mg md P R m)
section
variable {X:Cx}{md:List Md}{P:Pt}{R:RR}
theorem PE.imp{e:Expr}{t t':TE}(h:PE X e t)(k:∀σ H Q,t' σ H Q->t σ H Q):PE X e t':=λpins s σ H Q I q=>h pins s σ H Q I (k σ H Q q)
theorem PT.imp{e:Expr}{t t':TT}(h:PT X e t)(k:∀σ H Q,t' σ H Q->t σ H Q):PT X e t':=λpins s σ H Q I q=>h pins s σ H Q I (k σ H Q q)
theorem PW.imp{e:Expr}{t t':TT}(h:PW X e t)(k:∀σ H Q,t' σ H Q->t σ H Q):PW X e t':=λw pins s σ H Q I q=>h w pins s σ H Q I (k σ H Q q)
theorem PA.imp{e:List Expr}{t t':TA}(h:PA X e t)(k:∀σ H Q,t' σ H Q->t σ H Q):PA X e t':=λpos pins s σ H Q I q=>h pos pins s σ H Q I (k σ H Q q)
theorem PS.imp{e:Stmt}{t t':TS}(h:PS X e t)(k:∀D σ H,t' D σ H->t D σ H):PS X e t':=λpins s σ H D I q=>h pins s σ H D I (k D σ H q)
theorem PSs.imp{e:List Stmt}{t t':TS}(h:PSs X e t)(k:∀D σ H,t' D σ H->t D σ H):PSs X e t':=λpins s σ H D I q=>h pins s σ H D I (k D σ H q)
def aa(i:Nat):M D:=λρ O=>match ρ[i]? with
 |some (some d)=>.ok d O
 | _=>.no
def mC(d:D):M D:=λ_ O=>.ok d O
def mG(m:M D):M D:=λρ O=>match m ρ O with
 | .ok d O'=>if jK d=true then .ok d O' else .no
 |r=>r
theorem um{i:Nat}{ρ:aD}{O O':au}{d:D}(h:aa i ρ O=.ok d O'):ρ[i]?=some (some d)/\O'=O:=by
 unfold aa at h;split at h
 ·rename_i d' e;cases h;exact⟨e,rfl⟩
 ·cases h
theorem Uz{m:M D}{ρ:aD}{O O':au}{d:D}(h:mG m ρ O=.ok d O'):m ρ O=.ok d O'/\jK d=true:=by
 unfold mG at h;split at h
 ·rename_i d' O1 e;split at h
  ·rename_i hn;cases h;exact⟨e,hn⟩
  ·cases h
 ·rename_i hne;exact absurd h (hne _ _)
theorem SlO.get{K:Frag}{ρ:aD}{σ:St}{H F:Hp}{as:List Addr}{i:Nat}{d:D}(s:SlO K md P ρ σ H F as)(h:ρ[i]?=some (some d)):∃m v,md[i]?=some m/\σ[i]?=some (some v)/\iV P K H F as m v d:=by
 have hi:i<md.length:=by rw[<-s.len'];exact(zl.mp h).1
 obtain⟨v,h1,h2⟩:=s.sl i md[i] d (zo hi) h;exact⟨_,v,zo hi,h1,h2⟩
theorem iV.sv{K:Frag}{H F:Hp}{as:List Addr}{m:Md}{v:V}{d:D}(h:iV P K H F as m v d):Sv K H F as v d:=by
 cases m with
 |v=>exact .inl h
 |s =>
  rcases h with h | ⟨a,xs,ds,e1,e2,e3,e4,e5,e6⟩
  ·exact .inl h
  ·exact .inr ⟨a,xs,ds,e1,e2,e3,e4,e6⟩
 |o =>
  rcases h with⟨_,h⟩ | ⟨a,xs,ds,e1,e2,e3,e0,e4,e5,e6⟩
  ·exact .inl h
  ·exact .inr ⟨a,xs,ds,e1,e2,e3,e4,e6⟩
theorem az(i:Nat){x:Str}{pos:Pos}(hN:X.N[i]?=some x:=by rfl)(hv:Vis X.env.scope x:=by first | exact Or.inl rfl | exact Or.inr (Or.inl rfl) | exact Or.inr (Or.inr rfl))
  (hd:(x == ("__debug__":Str))=false:=by decide) (hcd:(x == ("__classdict__":Str))=false:=by decide):SE X md P (.Name x pos) (aa i):=by
 refine(qJ (i:=i) hN hv hd hcd).imp λσ H Q h=>?_
 obtain⟨ρ,O,F,as,d,O',r,s,e,k⟩:=h;obtain⟨e1,rfl⟩:=um e;obtain⟨m,v,h1,h2,h3⟩:=s.get e1;exact⟨v,h2,k v H F as Gr.refl r h3.sv⟩
theorem aC(i:Nat){x:Str}{pos:Pos}(hm:md[i]?=some .v:=by rfl)(hN:X.N[i]?=some x:=by rfl)(hv:Vis X.env.scope x:=by first | exact Or.inl rfl | exact Or.inr (Or.inl rfl) | exact Or.inr (Or.inr rfl))
  (hd:(x == ("__debug__":Str))=false:=by decide) (hcd:(x == ("__classdict__":Str))=false:=by decide):VE X md P (.Name x pos) (aa i):=by
 refine(qJ (i:=i) hN hv hd hcd).imp λσ H Q h=>?_
 obtain⟨ρ,O,F,as,d,O',r,s,e,k⟩:=h;obtain⟨e1,rfl⟩:=um e;obtain⟨v,h2,h3⟩:=s.sl i .v d hm e1;exact⟨v,h2,k v H F as Gr.refl r h3⟩
theorem ao{e:Expr}{m:M D}(h:VE X md P e m):SE X md P e m:=h.imp λσ H Q q=>by
 obtain⟨ρ,O,F,as,d,O',r,s,e,k⟩:=q;exact⟨ρ,_,F,as,_,_,r,s,e,λv H' F' as' g r' hv=>k v H' F' as' g r' (.inl hv)⟩
theorem aM{e:Expr}{m:M D}(h:OE X md P e m):SE X md P e m:=h.imp λσ H Q q=>by
 obtain⟨ρ,O,F,as,d,O',r,s,e,k⟩:=q;exact⟨ρ,_,F,as,_,_,r,s,e,λv H' F' as' g r' hv=>k v H' F' as' g r' (Ow.sv hv)⟩
theorem cI{e:Expr}{m:M D}(h:SE X md P e m):VE X md P e (mG m):=h.imp λσ H Q q=>by
 obtain⟨ρ,O,F,as,d,O',r,s,e,k⟩:=q;obtain⟨e,hn⟩:=Uz e;exact⟨ρ,_,F,as,_,_,r,s,e,λv H' F' as' g r' hv=>k v H' F' as' g r' (Sv.rp hv hn)⟩
theorem bh{e:Expr}{m:M D}(h:OE X md P e m):VE X md P e m:=h.imp λσ H Q q=>by
 obtain⟨ρ,O,F,as,d,O',r,s,e,k⟩:=q;refine⟨ρ,_,F,as,_,_,r,s,e,λv H' F' as' g r' hv=>?_⟩
 rcases hv with⟨_,hv⟩ | ⟨a,xs,ds,rfl,rfl,e3,e4,e5,e6,e7⟩
 ·exact k v H' F' as' g r' hv
 ·have ff:Same F' (upd F' a (.lst xs)):=λb u q=>by rw[aP (cT q e4)];exact q
  refine k _ H' (upd F' a (.lst xs)) as' (g.frz e6 e4) (r'.frz e3 e4 e5 rfl) (Rp.mkL (.inl (.inl cA)) (Rps.mono ff (λ_ _ z=>z) _ e7))
theorem qW{e:Expr}{v:V}{d:D}(h:PE X e (tC v))(hd:∀K F as,Rp K F as v d):VE X md P e (mC d):=h.imp λσ H Q q=>by
 obtain⟨ρ,O,F,as,d,O',r,s,e,k⟩:=q;cases e;exact k v H F as Gr.refl r (hd _ _ _)
theorem aF{i:Int}{j pos}:VE X md P (.Constant (.int i) j pos) (mC (.int i)):=qW Ov λ_ _ _=>Rp.int
theorem fH{b:Bool}{j pos}:VE X md P (.Constant (.bool b) j pos) (mC (.bl b)):=qW Ox λ_ _ _=>Rp.bl
theorem xn{j pos}:VE X md P (.Constant .none j pos) (mC .non):=qW Oz λ_ _ _=>Rp.non
theorem dY{x:Str}{j pos}(l:List Nat)(hx:x=S l:=by decide +kernel):VE X md P (.Constant (.str x) j pos) (mC (.str l)):=qW Eu λ_ _ _=>by rw[hx];exact Rp.str
theorem G4{x:Str}{v:V}{d:D}{pos:Pos}(h:∃u,X.mg x=some u/\RelV v u)(hd:∀K F as,Rp K F as v d)(hg:Gl X x:=by rfl)(hdb:(x == ("__debug__":Str))=false:=by decide):VE X md P (.Name x pos) (mC d):=qW (GD h hg hdb) hd
def aq:M (List D):=λ_ O=>.ok [] O
def aj(m:M D)(r:M (List D)):M (List D):=λρ O=>(m ρ O).bind λd O1=>(r ρ O1).bind λds O2=>.ok (d::ds) O2
theorem aG:AE X md P [] [] aq:=mZ.imp λσ H Q q=>by
 obtain⟨ρ,O,F,as,d,O',r,s,e,k⟩:=q;cases e;exact k [] H F as Gr.refl r trivial
theorem rA.gr{K:Frag}{m:Md}{N:Addr->Prop}{H F H' F':Hp}{as as':List Addr}{v:V}{d:D}(h:rA K m N H F as v d)(g:Gr H F as H' F' as'):rA K m (λ_=>True) H' F' as' v d:=by
 cases m with
 |v=>exact Rp.gr (show Rp K F as v d from h) g
 |s=>exact Sv.gr (show Sv K H F as v d from h) g
 |o=>exact Sv.gr (show Sv K H F as v d from h) g
theorem di.gr{K:Frag}{H F H' F':Hp}{as as':List Addr}(g:Gr H F as H' F' as'):∀{ms:List Md}{vs:List V}{ds:List D},di K H F as ms vs ds->di K H' F' as' ms vs ds
 | [],[],[],_=>trivial
 |m::ms,v::vs,d::ds,h=>⟨rA.gr h.1 g,di.gr g h.2⟩
 | [],[],_::_,h=>h.elim
 | [],_::_,[],h=>h.elim
 | [],_::_,_::_,h=>h.elim
 | _::_,[],[],h=>h.elim
 | _::_,[],_::_,h=>h.elim
 | _::_,_::_,[],h=>h.elim
theorem G5(md0:Md){e:Expr}{es:List Expr}{m:M D}{ms:List Md}{r:M (List D)}(h:XE X md P (rA X.K md0) e m)(hr:AE X md P ms es r)
  (hs:starEach (e::es) X.env=(false,eval e X.env)::starEach es X.env:=by exact dB rfl):AE X md P (md0::ms) (e::es) (aj m r):=(j7 h hr hs).imp λσ H Q q=>by
 obtain⟨ρ,O,F,as,d,O',r0,s,e,k⟩:=q;obtain⟨d,O1,e1,e⟩:=Res.bind_ok e;obtain⟨ds',O2,e2,e⟩:=Res.bind_ok e;cases e;refine⟨ρ,_,F,as,_,_,r0,s,e1,λv H1 F1 as1 g1 r1 hv=>?_⟩;refine⟨ρ,_,F1,as1,_,_,r1,s.step g1,e2,λvs H2 F2 as2 g2 r2 hvs=>?_⟩;exact k (v::vs) H2 F2 as2 (g1.trans g2) r2 ⟨rA.gr hv g2,hvs⟩
theorem aV{e:Expr}{es:List Expr}{m:M D}{ms:List Md}{r:M (List D)}(h:VE X md P e m)(hr:AE X md P ms es r)
  (hs:starEach (e::es) X.env=(false,eval e X.env)::starEach es X.env:=by exact dB rfl):AE X md P (.v::ms) (e::es) (aj m r):=G5 .v h hr hs
theorem aB{e:Expr}{es:List Expr}{m:M D}{ms:List Md}{r:M (List D)}(h:SE X md P e m)(hr:AE X md P ms es r)
  (hs:starEach (e::es) X.env=(false,eval e X.env)::starEach es X.env:=by exact dB rfl):AE X md P (.s::ms) (e::es) (aj m r):=G5 .s h hr hs
theorem di.rps{K:Frag}{H F:Hp}{as:List Addr}:∀{n:Nat}{vs:List V}{ds:List D},di K H F as (List.replicate n .v) vs ds->Rps K F as vs ds
 | 0,[],[],_=>Rps.nil
 |n+1,v::vs,d::ds,h=>by
  rw[List.replicate_succ] at h;exact Rps.cons h.1 (di.rps h.2)
 | 0,[],_::_,h=>h.elim
 | 0,_::_,[],h=>h.elim
 | 0,_::_,_::_,h=>h.elim
 |n+1,[],[],h=>h.elim
 |n+1,[],_::_,h=>h.elim
 |n+1,_::_,[],h=>h.elim
def cg(r:M (List D)):M D:=λρ O=>(r ρ O).bind λds O1=>if ds.length<=1000000 then .ok (.lst ds) O1 else .no
def bT(r:M (List D)):M D:=λρ O=>(r ρ O).bind λds O1=>if ds.length<=1000000 then .ok (.tup ds) O1 else .no
theorem iW{n:Nat}(h:n<=1000000):n<=sizeLine:=zH h (by decide)
theorem dM{es:List Expr}{pos:Pos}{r:M (List D)}(n:Nat)(h:AE X md P (List.replicate n .v) es r):OE X md P (.List es pos) (cg r):=(RD h).imp λσ H Q q=>by
 obtain⟨ρ,O,F,as,d,O',r0,s,e,k⟩:=q;obtain⟨ds,O1,e1,e⟩:=Res.bind_ok e;split at e
 ·rename_i hz;cases e;refine⟨ρ,_,F,as,_,_,r0,s,e1,λvs H1 F1 as1 g1 r1 hv=>?_⟩;have hr:=hv.rps;refine⟨by rw[hr.length];exact iW hz,λp hp=>?_⟩
  have hF:F1 p=none:=by
   cases q:F1 p with
   |none=>rfl
   |some o=>rw[r1.fh p o q] at hp;cases hp
  refine k _ _ F1 as1 (g1.trans (Gr.lay hp)) (r1.lay hp) (.inr ⟨p,vs,ds,rfl,rfl,cA,hF,λz=>r1.all z hp,g1.dm p hp,hr⟩)
 ·cases e
theorem dC{es:List Expr}{pos:Pos}{x1}{r:M (List D)}(n:Nat)(h:AE X md P (List.replicate n .v) es r):VE X md P (.Tuple es x1 pos) (bT r):=(RC h).imp λσ H Q q=>by
 obtain⟨ρ,O,F,as,d,O',r0,s,e,k⟩:=q;obtain⟨ds,O1,e1,e⟩:=Res.bind_ok e;split at e
 ·rename_i hz;cases e;refine⟨ρ,_,F,as,_,_,r0,s,e1,λvs H1 F1 as1 g1 r1 hv=>?_⟩;have hr:=hv.rps;refine⟨by rw[hr.length];exact iW hz,λp hp=>?_⟩
  have hF:F1 p=none:=by
   cases q:F1 p with
   |none=>rfl
   |some o=>rw[r1.fh p o q] at hp;cases hp
  have ff:Same F1 (upd F1 p (.tup vs)):=λb u q=>by rw[aP (cT q hF)];exact q
  refine k _ _ (upd F1 p (.tup vs)) as1 ((g1.trans (Gr.lay hp)).frz (g1.dm p hp) hF) ((r1.lay hp).frz cA hF (λz=>r1.all z hp) rfl) (Rp.mkT (.inl cA) (Rps.mono ff (λ_ _ z=>z) _ hr))
 ·cases e
def rD(K:Frag)(mg:Str->Option Value)(g:D->D->Option D):R2:=λx y H Q=>∃O F as dx dy d,RlO K mg O H F as/\Lk K H F as x dx/\Lk K H F as y dy/\g dx dy=some d /\
 ∀v' H' F',Gr H F as H' F' as->RlO K mg O H' F' as->Ow K (λa=>H a=none) H' F' as v' d->Q v' H'
abbrev OpD(X:Cx)(f:Value->Value->Sem Value)(g:D->D->Option D):Prop:=OpR X f (rD X.K X.mg g)
def ak(g:D->D->Option D)(ma mb:M D):M D:=λρ O=>(ma ρ O).bind λx O1=>(mb ρ O1).bind λy O2=>match g (bx O2 x) (bx O2 y) with
 |some d=>.ok d O2
 |none=>.no
theorem xq{K:Frag}{mg:Str->Option Value}{g:D->D->Option D}{ma mb:M D}{σ:St}{H:Hp}{Q:VK}(h:tM K mg md P (rO K) (ak g ma mb) σ H Q):tOp (rD K mg g) (tM K mg md P (rS K) ma) (tM K mg md P (rS K) mb) σ H Q:=by
 obtain⟨ρ,O,F,as,d,O',r,sl,e,k⟩:=h;obtain⟨x,O1,e1,e⟩:=Res.bind_ok e;obtain⟨y,O2,e2,e⟩:=Res.bind_ok e;split at e
 ·rename_i d' hg;cases e;refine⟨ρ,_,F,as,_,_,r,sl,e1,λv H1 F1 as1 g1 r1 hv=>?_⟩;refine⟨ρ,_,F1,as1,_,_,r1,sl.step g1,e2,λu H2 F2 as2 g2 r2 hu=>?_⟩;refine⟨_,F2,as2,_,_,_,r2,Sv.lk (Sv.gr hv g2) r2,Sv.lk hu r2,hg,λv' H' F' g' r' hw=>?_⟩;exact k v' H' F' as2 ((g1.trans g2).trans g') r' (fG _ _ _ _ _ _ _ (λa ha=>(g1.trans g2).dm a ha) hw)
 ·cases e
theorem aW{e1 e2:Expr}{pos:Pos}{op:Operator}{g:D->D->Option D}{ma mb:M D}(ho:OpD X (binaryOp op) g)(ha:SE X md P e1 ma)(hb:SE X md P e2 mb):OE X md P (.BinOp e1 op e2 pos) (ak g ma mb):=
 (QC ho ha hb).imp λ_ _ _=>xq
theorem gw{e1 e2:Expr}{pos:Pos}{op:CmpOp}{g:D->D->Option D}{ma mb:M D}(ho:OpD X (compareOp op) g)(ha:SE X md P e1 ma)(hb:SE X md P e2 mb)(hm:behindInMarks op e2=false):OE X md P (.Compare e1 [op] [e2] pos) (ak g ma mb):=
 (Q0 ho ha hb hm).imp λ_ _ _=>xq
def aK(m:M D):M Bool:=λρ O=>(m ρ O).bind λd O1=>match d with
 | .bl b=>.ok b O1
 | _=>.no
theorem uo{K:Frag}{mg:Str->Option Value}{m:M D}{σ:St}{H:Hp}{Q:Bool->Hp->Prop}(h:tMT K mg md P (aK m) σ H Q):tX (tM K mg md P (rO K) m) σ H Q:=by
 obtain⟨ρ,O,F,as,d,O',r,sl,e,k⟩:=h;obtain⟨d,O1,e1,e⟩:=Res.bind_ok e
 cases d with
 |bl c =>
  cases e;refine⟨ρ,_,F,as,_,_,r,sl,e1,λv H1 F1 as1 g1 r1 hv=>?_⟩
  rcases hv with⟨_,hv⟩ | ⟨a,xs,ds,_,e2,_⟩
  ·exact⟨_,hv.unB,k H1 F1 as1 g1 r1⟩
  ·cases e2
 | _=>cases e
theorem bQ{e1 e2:Expr}{pos:Pos}{op:CmpOp}{g:D->D->Option D}{ma mb:M D}(ho:OpD X (compareOp op) g)(ha:SE X md P e1 ma)(hb:SE X md P e2 mb)(hm:behindInMarks op e2=false):TsE X md P (.Compare e1 [op] [e2] pos) (aK (ak g ma mb)):=
 (Q3 ho ha hb hm).imp λσ H Q h=>by
  have q:=uo h;exact xq q
def nC(g g':D->D->Option D)(ma mb mc:M D):M D:=λρ O=>(ma ρ O).bind λx O1=>(mb ρ O1).bind λy O2=>match g (bx O2 x) (bx O2 y) with
 |some (.bl true)=>(mc ρ O2).bind λz O3=>match g' (bx O3 y) (bx O3 z) with
  |some d=>.ok d O3
  |none=>.no
 |some (.bl false)=>.ok (.bl false) O2
 | _=>.no
theorem G6{K:Frag}{mg:Str->Option Value}{g g':D->D->Option D}{ma mb mc:M D}{σ:St}{H:Hp}{Q:VK}(h:tM K mg md P (rO K) (nC g g' ma mb mc) σ H Q):
  wO (rD K mg g) (rD K mg g') (tM K mg md P (rS K) ma) (tM K mg md P (rS K) mb) (tM K mg md P (rS K) mc) σ H Q:=by
 obtain⟨ρ,O,F,as,d,O',r,sl,e,k⟩:=h;obtain⟨x,O1,e1,e⟩:=Res.bind_ok e;obtain⟨y,O2,e2,e⟩:=Res.bind_ok e;refine⟨ρ,_,F,as,_,_,r,sl,e1,λv H1 F1 as1 g1 r1 hv=>?_⟩;refine⟨ρ,_,F1,as1,_,_,r1,sl.step g1,e2,λu H2 F2 as2 g2 r2 hu=>?_⟩;split at e
 ·rename_i hg;obtain⟨z,O3,e3,e⟩:=Res.bind_ok e;refine⟨_,F2,as2,_,_,_,r2,Sv.lk (Sv.gr hv g2) r2,Sv.lk hu r2,hg,λv' H' F' g' r' hw=>?_⟩
  rcases hw with⟨_,hw⟩ | ⟨a,xs,ds,_,z,_⟩
  ·refine⟨true,hw.unB,?_⟩;rw[if_pos rfl];split at e
   ·rename_i d' hg';cases e;have g3:=(g1.trans g2).trans g';refine⟨ρ,_,F',as2,_,_,r',sl.step g3,e3,λw H4 F4 as4 g4 r4 hz=>?_⟩;refine⟨_,F4,as4,_,_,_,r4,Sv.lk (Sv.gr (Sv.gr hu g') g4) r4,Sv.lk hz r4,hg',λv5 H5 F5 g5 r5 hw5=>?_⟩;exact k v5 H5 F5 as4 ((g3.trans g4).trans g5) r5 (fG _ _ _ _ _ _ _ (λa ha=>(g3.trans g4).dm a ha) hw5)
   ·cases e
  ·cases z
 ·rename_i hg;cases e;refine⟨_,F2,as2,_,_,_,r2,Sv.lk (Sv.gr hv g2) r2,Sv.lk hu r2,hg,λv' H' F' g' r' hw=>?_⟩
  rcases hw with⟨_,hw⟩ | ⟨a,xs,ds,_,z,_⟩
  ·refine⟨false,hw.unB,?_⟩;rw[if_neg zj];exact k _ H' F' as2 ((g1.trans g2).trans g') r' (.inl ⟨rfl,Rp.bl⟩)
  ·cases z
 ·cases e
theorem UG{a b c:Expr}{pos:Pos}{op op':CmpOp}{g g':D->D->Option D}{ma mb mc:M D}(ho:OpD X (compareOp op) g)(ho':OpD X (compareOp op') g')(ha:SE X md P a ma)(hb:SE X md P b mb)(hc:SE X md P c mc)
  (hm:lastMarks [op,op'] [b,c]=false:=by with_unfolding_all rfl):OE X md P (.Compare a [op,op'] [b,c] pos) (nC g g' ma mb mc):=(Q4 ho ho' ha hb hc hm).imp λ_ _ _=>G6
theorem UJ{a b c:Expr}{pos:Pos}{op op':CmpOp}{g g':D->D->Option D}{ma mb mc:M D}(ho:OpD X (compareOp op) g)(ho':OpD X (compareOp op') g')(ha:SE X md P a ma)(hb:SE X md P b mb)(hc:SE X md P c mc)
  (hm:lastMarks [op,op'] [b,c]=false:=by with_unfolding_all rfl):TsE X md P (.Compare a [op,op'] [b,c] pos) (aK (nC g g' ma mb mc)):=(Q5 ho ho' ha hb hc hm).imp λ_ _ _ h=>G6 (uo h)
def isNon:D->Bool
 | .non=>true
 | _=>false
def jL(m:M D):M D:=λρ O=>(m ρ O).bind λd O1=>.ok (.bl (isNon d)) O1
def iY(m:M D):M D:=λρ O=>(m ρ O).bind λd O1=>.ok (.bl (!isNon d)) O1
theorem Sv.isN{K:Frag}{H F:Hp}{as:List Addr}{v:V}{d:D}(h:Sv K H F as v d):decide (v=.non)=isNon d:=by
 rcases h with h | ⟨a,xs,ds,rfl,rfl,_⟩
 ·cases d with
  |non=>rw[h.unN];rfl
  |bl b=>rw[h.unB];rfl
  |int b=>rw[h.unI];rfl
  |str b=>rw[h.unS];rfl
  |lst b=>obtain⟨a,xs,rfl,_⟩:=h.unL;rfl
  |tup b=>obtain⟨a,xs,rfl,_⟩:=h.unT;rfl
  |dic k b=>obtain⟨a,xs,rfl,_⟩:=h.unD;rfl
  |ob b=>obtain⟨a,rfl,_⟩:=h.unO;rfl
 ·rfl
theorem UL{K:Frag}{mg:Str->Option Value}{m:M D}{σ:St}{H:Hp}{Q:VK}(h:tM K mg md P (rO K) (jL m) σ H Q):Ex (tM K mg md P (rS K) m) σ H Q:=by
 obtain⟨ρ,O,F,as,d,O',r,sl,e,k⟩:=h;obtain⟨x,O1,e1,e⟩:=Res.bind_ok e;cases e;refine⟨ρ,_,F,as,_,_,r,sl,e1,λv H1 F1 as1 g1 r1 hv=>?_⟩;dsimp only;rw[Sv.isN hv];exact k _ H1 F1 as1 g1 r1 (.inl ⟨rfl,Rp.bl⟩)
theorem UT{K:Frag}{mg:Str->Option Value}{m:M D}{σ:St}{H:Hp}{Q:VK}(h:tM K mg md P (rO K) (iY m) σ H Q):Ey (tM K mg md P (rS K) m) σ H Q:=by
 obtain⟨ρ,O,F,as,d,O',r,sl,e,k⟩:=h;obtain⟨x,O1,e1,e⟩:=Res.bind_ok e;cases e;refine⟨ρ,_,F,as,_,_,r,sl,e1,λv H1 F1 as1 g1 r1 hv=>?_⟩;dsimp only;rw[Sv.isN hv];exact k _ H1 F1 as1 g1 r1 (.inl ⟨rfl,Rp.bl⟩)
theorem G7{t t':TE}{σ:St}{H:Hp}{Q:Bool->Hp->Prop}(h:∀Q',t σ H Q'->t' σ H Q')(q:tX t σ H Q):tB t' σ H Q:=h _ q
theorem xu{a:Expr}{pos pos':Pos}{j}{m:M D}(h:SE X md P a m):TsE X md P (.Compare a [.Is] [.Constant .none j pos'] pos) (aK (jL m)):=(Ez (O7 h)).imp λ_ _ _ q=>G7 (λ_=>UL) (uo q)
theorem G8{a:Expr}{pos pos':Pos}{j}{m:M D}(h:SE X md P a m):TsE X md P (.Compare a [.IsNot] [.Constant .none j pos'] pos) (aK (iY m)):=(Ez (O8 h)).imp λ_ _ _ q=>G7 (λ_=>UT) (uo q)
def pq:D->Option Bool
 | .non=>some false
 | .bl b=>some b
 | .int i=>some (i != 0)
 | .str l=>if l.length<=1000000 then some (!l.isEmpty) else none
 | .lst ds=>some (!ds.isEmpty)
 | .tup ds=>some (!ds.isEmpty)
 | .dic ks _=>some (!ks.isEmpty)
 | .ob _=>none
def bI(m:M D):M Bool:=λρ O=>(m ρ O).bind λd O1=>match pq (bx O1 d) with
 |some b=>.ok b O1
 |none=>.no
theorem G9{α β:Type}{xs:List α}{ys:List β}(h:xs.length=ys.length):(!xs.isEmpty) = !ys.isEmpty:=by
 cases xs<;>cases ys<;>simp_all
theorem Lk.tru{K:Frag}{H F:Hp}{as:List Addr}{v:V}{d:D}{b:Bool}(h:Lk K H F as v d)(fh:Same F H)(e:pq d=some b):wQ K v H b:=by
 cases d with
 |non=>rw[(h.rp rfl).unN];cases e;rfl
 |bl b=>rw[(h.rp rfl).unB];cases e;rfl
 |int b=>rw[(h.rp rfl).unI];cases e;rfl
 |str l =>
  rw[(h.rp rfl).unS];simp only[pq] at e;split at e
  ·rename_i hl;cases e;refine⟨by rw[fL];exact iW hl,?_⟩;rw[fL]
   cases l with
   |nil=>rfl
   |cons c l =>
    have:((((c::l).length:Nat):Int) != 0)=true:=by
     rw[bne_iff_ne,zx];omega
    rw[this];rfl
  ·cases e
 |lst ds =>
  obtain⟨a,xs,rfl,h1,h2⟩:=h.list fh;cases e;exact .inl ⟨xs,h1.sq,(G9 h2.length).symm⟩
 |tup ds =>
  obtain⟨a,xs,rfl,h1,h2⟩:=(h.rp rfl).unT;cases e;exact .inr (.inl ⟨xs,Same.seqT fh h1,(G9 h2.length).symm⟩)
 |dic ks vs =>
  obtain⟨a,kvs,rfl,h1,rfl,h2⟩:=(h.rp rfl).unD;cases e;exact .inr (.inr ⟨kvs,fh _ _ h1,by cases kvs<;>rfl⟩)
 |ob n=>cases e
theorem d7{a:Expr}{m:M D}(h:SE X md P a m)(he:∀whole,isTrue a X.env whole=(do let v <-whole;standAt a.pos;holding [v] (truthy v)):=by intro _;rfl):TsE X md P a (bI m):=(Q8 h he).imp λσ H Q q=>by
 obtain⟨ρ,O,F,as,d,O',r,sl,e,k⟩:=q;obtain⟨d,O1,e1,e⟩:=Res.bind_ok e;split at e
 ·rename_i c hc;cases e;exact⟨ρ,_,F,as,_,_,r,sl,e1,λv H1 F1 as1 g1 r1 hv=>⟨_,Lk.tru (Sv.lk hv r1) r1.fh hc,k H1 F1 as1 g1 r1⟩⟩
 ·cases e
def dN(a b:M Bool):M Bool:=λρ O=>(a ρ O).bind λc O1=>if c=true then b ρ O1 else .ok false O1
def dO(a b:M Bool):M Bool:=λρ O=>(a ρ O).bind λc O1=>if c=true then .ok true O1 else b ρ O1
def cO(a:M Bool):M Bool:=λρ O=>(a ρ O).bind λc O1=>.ok (!c) O1
theorem UV{K:Frag}{mg:Str->Option Value}{ma mb:M Bool}{σ:St}{H:Hp}{Q:Bool->Hp->Prop}(h:tMT K mg md P (dN ma mb) σ H Q):EY (tMT K mg md P ma) (tMT K mg md P mb) σ H Q:=by
 obtain⟨ρ,O,F,as,d,O',r,sl,e,k⟩:=h;obtain⟨c,O1,e1,e⟩:=Res.bind_ok e;refine⟨ρ,_,F,as,_,_,r,sl,e1,λH1 F1 as1 g1 r1=>?_⟩
 cases c with
 |true =>
  rw[if_pos rfl] at e ⊢;exact⟨ρ,_,F1,as1,_,_,r1,sl.step g1,e,λH2 F2 as2 g2 r2=>k H2 F2 as2 (g1.trans g2) r2⟩
 |false =>
  rw[if_neg zj] at e ⊢;cases e;exact k H1 F1 as1 g1 r1
theorem UW{K:Frag}{mg:Str->Option Value}{ma mb:M Bool}{σ:St}{H:Hp}{Q:Bool->Hp->Prop}(h:tMT K mg md P (dO ma mb) σ H Q):tOr (tMT K mg md P ma) (tMT K mg md P mb) σ H Q:=by
 obtain⟨ρ,O,F,as,d,O',r,sl,e,k⟩:=h;obtain⟨c,O1,e1,e⟩:=Res.bind_ok e;refine⟨ρ,_,F,as,_,_,r,sl,e1,λH1 F1 as1 g1 r1=>?_⟩
 cases c with
 |true =>
  rw[if_pos rfl] at e ⊢;cases e;exact k H1 F1 as1 g1 r1
 |false =>
  rw[if_neg zj] at e ⊢;exact⟨ρ,_,F1,as1,_,_,r1,sl.step g1,e,λH2 F2 as2 g2 r2=>k H2 F2 as2 (g1.trans g2) r2⟩
theorem kj{a:Expr}{pos:Pos}{m:M Bool}(h:TsE X md P a m):TwE X md P (.BoolOp .And [a] pos) m:=Pa h
theorem nD{a:Expr}{pos:Pos}{m:M Bool}(h:TsE X md P a m):TwE X md P (.BoolOp .Or [a] pos) m:=Pb h
theorem km{a b:Expr}{rest:List Expr}{pos:Pos}{ma mb:M Bool}(ha:TsE X md P a ma)(hb:TwE X md P (.BoolOp .And (b::rest) pos) mb):TwE X md P (.BoolOp .And (a::b::rest) pos) (dN ma mb):=(Pg ha hb).imp λ_ _ _=>UV
theorem lN{a b:Expr}{rest:List Expr}{pos:Pos}{ma mb:M Bool}(ha:TsE X md P a ma)(hb:TwE X md P (.BoolOp .Or (b::rest) pos) mb):TwE X md P (.BoolOp .Or (a::b::rest) pos) (dO ma mb):=(Ph ha hb).imp λ_ _ _=>UW
theorem fO{e:Expr}{m:M Bool}(h:TwE X md P e m):TsE X md P e m:=PW.pt h
theorem gU{a:Expr}{pos:Pos}{m:M Bool}(h:TsE X md P a m):TsE X md P (.UnaryOp .Not a pos) (cO m):=(Pj h).imp λσ H Q q=>by
 obtain⟨ρ,O,F,as,d,O',r,sl,e,k⟩:=q;obtain⟨c,O1,e1,e⟩:=Res.bind_ok e;cases e;exact⟨ρ,_,F,as,_,_,r,sl,e1,k⟩
def d8(ma mb:M D):M D:=λρ O=>(ma ρ O).bind λd O1=>match d with
 | .bl true=>mb ρ O1
 | .bl false=>.ok (.bl false) O1
 | _=>.no
def Ha(ma mb:M D):M D:=λρ O=>(ma ρ O).bind λd O1=>match d with
 | .bl true=>.ok (.bl true) O1
 | .bl false=>mb ρ O1
 | _=>.no
def nF(ma:M D):M D:=λρ O=>(ma ρ O).bind λd O1=>match d with
 | .bl b=>.ok (.bl (!b)) O1
 | _=>.no
theorem jM{a:Expr}{pos:Pos}{op}{m:M D}(h:VE X md P a m):VE X md P (.BoolOp op [a] pos) m:=Pq h
theorem iB{a b:Expr}{rest:List Expr}{pos:Pos}{ma mb:M D}(ha:VE X md P a ma)(hb:VE X md P (.BoolOp .And (b::rest) pos) mb):VE X md P (.BoolOp .And (a::b::rest) pos) (d8 ma mb):=(Pu ha hb).imp λσ H Q q=>by
 obtain⟨ρ,O,F,as,d,O',r,sl,e,k⟩:=q;obtain⟨x,O1,e1,e⟩:=Res.bind_ok e;refine⟨ρ,_,F,as,_,_,r,sl,e1,λv H1 F1 as1 g1 r1 hv=>?_⟩
 cases x with
 |bl c =>
  refine⟨c,Rp.unB hv,?_⟩
  cases c with
  |true =>
   rw[if_pos rfl];exact⟨ρ,_,F1,as1,_,_,r1,sl.step g1,e,λv2 H2 F2 as2 g2 r2 hv2=>k v2 H2 F2 as2 (g1.trans g2) r2 hv2⟩
  |false =>
   rw[if_neg zj];cases e;exact k _ H1 F1 as1 g1 r1 Rp.bl
 | _=>cases e
theorem xx{a:Expr}{pos:Pos}{m:M D}(h:VE X md P a m):VE X md P (.UnaryOp .Not a pos) (nF m):=(Px h).imp λσ H Q q=>by
 obtain⟨ρ,O,F,as,d,O',r,sl,e,k⟩:=q;obtain⟨x,O1,e1,e⟩:=Res.bind_ok e;refine⟨ρ,_,F,as,_,_,r,sl,e1,λv H1 F1 as1 g1 r1 hv=>?_⟩
 cases x with
 |bl c =>
  cases e;exact⟨c,Rp.unB hv,k _ H1 F1 as1 g1 r1 Rp.bl⟩
 | _=>cases e
def mIf(t:M Bool)(a b:M D):M D:=λρ O=>(t ρ O).bind λc O1=>if c=true then a ρ O1 else b ρ O1
theorem U0(hR:gR R){c a b:Expr}{pos:Pos}{mc:M Bool}{ma mb:M D}(hc:TsE X md P c mc)(ha:PE X a (tM X.K X.mg md P R ma))(hb:PE X b (tM X.K X.mg md P R mb)):PE X (.IfExp c a b pos) (tM X.K X.mg md P R (mIf mc ma mb)):=(Py hc ha hb).imp λσ H Q q=>by
 obtain⟨ρ,O,F,as,d,O',r,sl,e,k⟩:=q;obtain⟨x,O1,e1,e⟩:=Res.bind_ok e;refine⟨ρ,_,F,as,_,_,r,sl,e1,λH1 F1 as1 g1 r1=>?_⟩
 cases x with
 |true =>
  rw[if_pos rfl] at e ⊢;exact⟨ρ,_,F1,as1,_,_,r1,sl.step g1,e,λv2 H2 F2 as2 g2 r2 hv2=>k v2 H2 F2 as2 (g1.trans g2) r2 (hR _ _ _ _ _ _ _ (λa ha=>g1.dm a ha) hv2)⟩
 |false =>
  rw[if_neg zj] at e ⊢;exact⟨ρ,_,F1,as1,_,_,r1,sl.step g1,e,λv2 H2 F2 as2 g2 r2 hv2=>k v2 H2 F2 as2 (g1.trans g2) r2 (hR _ _ _ _ _ _ _ (λa ha=>g1.dm a ha) hv2)⟩
theorem uq{c a b:Expr}{pos:Pos}{mc:M Bool}{ma mb:M D}(hc:TsE X md P c mc)(ha:VE X md P a ma)(hb:VE X md P b mb):VE X md P (.IfExp c a b pos) (mIf mc ma mb):=U0 cj hc ha hb
end
section
variable {K:Frag}{mg:Str->Option Value}{md:List Md}{P:Pt}{R:RR}{ρ:aD}{σ:St}{H F H' F':Hp}{as as':List Addr}{O O':au}
theorem SlO.set{i:Nat}{m:Md}{v:V}{d:D}(s:SlO K md P ρ σ H F as)(hm:md[i]?=some m)(hns:m≠.s)(hv:iV P K H F as m v d)
  (hj:∀(a:Addr) (ds:List D) (j:Nat) (es:List D),m=.o->v=.ref a->d=.lst ds->i≠j->md[j]?=some .o->ρ[j]?=some (some (.lst es))->σ[j]?≠some (some (.ref a))):SlO K md P (ρ.set i (some d)) (σ.set i (some v)) H F as:=by
 have hi:i<md.length:=(zl.mp hm).1;refine⟨by rw[ji];exact s.len,by rw[ji];exact s.len',s.pd,λj m' d' e1 e2=>?_,λj k a ds es h1 h2 h3 h4 h5 h6=>?_,λx hx=>?_⟩
 ·by_cases h:i=j
  ·subst h;rw[hm] at e1;cases e1;rw[zQ (by rw[s.len'];exact hi)] at e2;cases e2;exact⟨v,zQ (by rw[s.len];exact hi),hv⟩
  ·rw[zq h] at e2;rw[zq h];exact s.sl j m' d' e1 e2
 ·by_cases hij:i=j
  ·by_cases hik:i=k
   ·rw[<-hij,<-hik]
   ·exfalso
    subst hij;rw[hm] at h1;cases h1;rw[zQ (by rw[s.len'];exact hi)] at h3;rw[zQ (by rw[s.len];exact hi)] at h5;rw[zq hik] at h4 h6;cases h3;cases h5;exact hj a ds k es rfl rfl rfl hik h2 h4 h6
  ·by_cases hik:i=k
   ·exfalso
    subst hik;rw[hm] at h2;cases h2;rw[zQ (by rw[s.len'];exact hi)] at h4;rw[zQ (by rw[s.len];exact hi)] at h6;rw[zq hij] at h3 h5;cases h4;cases h6;exact hj a es j ds rfl rfl rfl hij h1 h3 h5
   ·rw[zq hij] at h3 h5;rw[zq hik] at h4 h6;exact s.inj j k a ds es h1 h2 h3 h4 h5 h6
 ·obtain⟨p1,p2,p3⟩:=s.pin x hx
  have hne:i≠x.1:=λz=>by
   rw[<-z,hm] at p1;exact hns (zB p1)
  exact⟨p1,by rw[zq hne];exact p2,by rw[zq hne];exact p3⟩
theorem SlO.setV{i:Nat}{v:V}{d:D}(s:SlO K md P ρ σ H F as)(hm:md[i]?=some .v)(hv:Rp K F as v d):SlO K md P (ρ.set i (some d)) (σ.set i (some v)) H F as :=
 s.set hm (by decide) hv λ_ _ _ _ z=>nomatch z
theorem SlO.setN{i:Nat}{v:V}{d:D}(s:SlO K md P ρ σ H F as)(hm:md[i]?=some .o)(hn:jK d=true)(hv:Rp K F as v d):SlO K md P (ρ.set i (some d)) (σ.set i (some v)) H F as :=
 s.set hm (by decide) (.inl ⟨hn,hv⟩) λ_ _ _ _ _ _ z=>by subst z;cases hn
theorem SlO.setO{i:Nat}{v:V}{d:D}{H0:Hp}(s:SlO K md P ρ σ H0 F as)(g:Gr H0 F as H' F' as')(hm:md[i]?=some .o)(hv:Ow K (λa=>H0 a=none) H' F' as' v d):SlO K md P (ρ.set i (some d)) (σ.set i (some v)) H' F' as':=by
 have s':=s.step g
 rcases hv with⟨hn,hv⟩ | ⟨a,xs,ds,rfl,rfl,e3,e4,e5,e6,e7⟩
 ·exact s'.setN hm hn hv
 ·refine s'.set hm (by decide) (.inr ⟨a,xs,ds,rfl,rfl,e3,e4,e5,λp=>s.pd a p e6,e7⟩) λb ds' j es _ hb hd hij hj he hs=>?_
  cases hb;obtain⟨v,h1,h2⟩:=s.sl j .o _ hj he;rw[hs] at h1;cases h1
  rcases h2 with⟨h2,_⟩ | ⟨a',xs',_,z1,_,z3,_⟩
  ·cases h2
  ·cases z1;rw[e6] at z3;cases z3
end
section
variable {X:Cx}{md:List Md}{P:Pt}{R:RR}
def bj:MS:=λρ O=>.nx ρ O
def aA(a b:MS):MS:=λρ O=>match a ρ O with
 | .nx ρ' O'=>b ρ' O'
 |r=>r
theorem bZ:VSs X md P R [] bj:=PK.imp λD σ H q=>by
 obtain⟨ρ,O,F,as,r,s,k⟩:=q;exact k σ H F as GrS.refl r s
theorem jN{K:Frag}{mg:Str->Option Value}{D:Ends}{H F H1 F1:Hp}{as as1:List Addr}(g:GrS P H F as H1 F1 as1){f:Fl}(k:lM K mg md P R D H F as f):lM K mg md P R D H1 F1 as1 f:=by
 cases f with
 |nx ρ' O'=>exact λσ' H' F' as' g'=>k σ' H' F' as' (g.trans g')
 |bk ρ' O'=>exact λσ' H' F' as' g'=>k σ' H' F' as' (g.trans g')
 |ct ρ' O'=>exact λσ' H' F' as' g'=>k σ' H' F' as' (g.trans g')
 |rt d O'=>exact λσ' H' F' as' g'=>k σ' H' F' as' (g.trans g')
 |ex _ _=>exact k
 |no=>exact k
theorem aL{st:Stmt}{rest:List Stmt}{a b:MS}(h1:VS X md P R st a)(h2:VSs X md P R rest b):VSs X md P R (st::rest) (aA a b):=(PL h1 h2).imp λD σ H q=>by
 obtain⟨ρ,O,F,as,r,s,k⟩:=q;refine⟨ρ,O,F,as,r,s,?_⟩;unfold aA at k
 cases e:a ρ O with
 |nx ρ' O' =>
  rw[e] at k;dsimp only at k
  exact λσ' H' F' as' g r' s'=>⟨ρ',O',F',as',r',s',jN g k⟩
 |bk ρ' O'=>rw[e] at k;exact k
 |ct ρ' O'=>rw[e] at k;exact k
 |rt d O'=>rw[e] at k;exact k
 |ex x O'=>rw[e] at k;exact k
 |no=>rw[e] at k;exact k
theorem aN{st:Stmt}{a:MS}(h1:VS X md P R st a):VSs X md P R [st] a:=PN h1
def pA:MS:=λρ O=>.bk ρ O
theorem Hb{pos:Pos}:VS X md P R (.Break pos) pA:=PQ.imp λD σ H q=>by
 obtain⟨ρ,O,F,as,r,s,k⟩:=q;exact k σ H F as GrS.refl r s
def lO:MS:=λ_ _=>.no
theorem Hc{st:Stmt}:VS X md P R st lO:=(Qe (X:=X) (st:=st)).imp λD σ H q=>by
 obtain⟨ρ,O,F,as,r,s,k⟩:=q;exact False.elim k
def qX(m:M D):MS:=λρ O=>match m ρ O with
 | .ok _ O'=>.nx ρ O'
 | .ex x O'=>.ex x O'
 | .no=>.no
theorem U3{e:Expr}{pos:Pos}{m:M D}(h:SE X md P e m)(hs:swapsWith e none pos.line X.env=pure false:=by rfl):VS X md P R (.Expr e pos) (qX m):=(Fb h hs).imp λD σ H q=>by
 obtain⟨ρ,O,F,as,r,s,k⟩:=q;unfold qX at k
 cases e:m ρ O with
 |ok d O' =>
  rw[e] at k;exact⟨ρ,_,F,as,_,_,r,s,e,λv H' F' as' g r' _=>k σ H' F' as' g.toS r' (s.step g)⟩
 |ex x O'=>rw[e] at k;exact False.elim k
 |no=>rw[e] at k;exact False.elim k
def aU(m:M D):MS:=λρ O=>match m ρ O with
 | .ok d O'=>.rt d O'
 | .ex x O'=>.ex x O'
 | .no=>.no
theorem Hd(hR:gR R){e:Expr}{pos:Pos}{m:M D}(h:PE X e (tM X.K X.mg md P R m)):VS X md P R (.Return (some e) pos) (aU m):=(Fd h).imp λD σ H q=>by
 obtain⟨ρ,O,F,as,r,s,k⟩:=q;unfold aU at k
 cases e:m ρ O with
 |ok d O' =>
  rw[e] at k;exact⟨ρ,_,F,as,_,_,r,s,e,λv H' F' as' g r' hv=>k v H' F' as' g.toS r' (hR _ _ _ _ _ _ _ (λa ha p=>s.pd a p ha) hv)⟩
 |ex x O'=>rw[e] at k;exact False.elim k
 |no=>rw[e] at k;exact False.elim k
theorem bJ{e:Expr}{pos:Pos}{m:M D}(h:VE X md P e m):VS X md P (rV X.K) (.Return (some e) pos) (aU m):=Hd cj h
theorem iZ{e:Expr}{pos:Pos}{m:M D}(h:OE X md P e m):VS X md P (rO X.K) (.Return (some e) pos) (aU m):=Hd fG h
theorem nG(i:Nat){x:Str}{p pos:Pos}(hm:md[i]?=some .o:=by rfl)(hN:X.N[i]?=some x:=by rfl)(hv:Vis X.env.scope x:=by first | exact Or.inl rfl | exact Or.inr (Or.inl rfl) | exact Or.inr (Or.inr rfl))
  (hd:(x == ("__debug__":Str))=false:=by decide) (hcd:(x == ("__classdict__":Str))=false:=by decide):VS X md P (rO X.K) (.Return (some (.Name x p)) pos) (aU (aa i)):=(Fd (qJ (i:=i) hN hv hd hcd)).imp λD σ H q=>by
 obtain⟨ρ,O,F,as,r,s,k⟩:=q;unfold aU at k
 cases e:aa i ρ O with
 |ok d O' =>
  rw[e] at k;obtain⟨e1,rfl⟩:=um e;obtain⟨v,h1,h2⟩:=s.sl i .o d hm e1;refine⟨v,h1,k v H F as GrS.refl r ?_⟩
  rcases h2 with h2 | ⟨a,xs,ds,e1,e2,e3,e0,e4,e5,e6⟩
  ·exact .inl h2
  ·exact .inr ⟨a,xs,ds,e1,e2,e3,e0,e4,e5,e6⟩
 |ex x O'=>rw[e] at k;exact False.elim k
 |no=>rw[e] at k;exact False.elim k
def aZ(t:M Bool)(a b:MS):MS:=λρ O=>match t ρ O with
 | .ok c O'=>if c=true then a ρ O' else b ρ O'
 | .ex x O'=>.ex x O'
 | .no=>.no
theorem bY{c:Expr}{a b:List Stmt}{pos:Pos}{t:M Bool}{ma mb:MS}(hc:TsE X md P c t)(ha:VSs X md P R a ma)(hb:VSs X md P R b mb):VS X md P R (.If c a b pos) (aZ t ma mb):=(Qc hc ha hb).imp λD σ H q=>by
 obtain⟨ρ,O,F,as,r,s,k⟩:=q;unfold aZ at k
 cases e:t ρ O with
 |ok c O' =>
  rw[e] at k;refine⟨ρ,_,F,as,_,_,r,s,e,λH1 F1 as1 g r1=>?_⟩;dsimp only at k
  cases c with
  |true =>
   rw[if_pos rfl] at k ⊢;exact⟨ρ,O',F1,as1,r1,s.step g,jN g.toS k⟩
  |false =>
   rw[if_neg zj] at k ⊢;exact⟨ρ,O',F1,as1,r1,s.step g,jN g.toS k⟩
 |ex x O'=>rw[e] at k;exact False.elim k
 |no=>rw[e] at k;exact False.elim k
def aH(i:Nat)(m:M D):MS:=λρ O=>match m ρ O with
 | .ok d O'=>.nx (ρ.set i (some d)) O'
 | .ex x O'=>.ex x O'
 | .no=>.no
theorem Hf{K:Frag}{mg:Str->Option Value}{i:Nat}{m:M D}{t:TE}(hm:md[i]?=some .v)(ht:∀σ H Q,tM K mg md P (rV K) m σ H Q->t σ H Q){D:Ends}{σ:St}{H:Hp}(q:tMS K mg md P R (aH i m) D σ H):tV t (qK i) D σ H:=by
 obtain⟨ρ,O,F,as,r,s,k⟩:=q;unfold aH at k
 cases e:m ρ O with
 |ok d O' =>
  rw[e] at k;exact ht _ _ _ ⟨ρ,_,F,as,_,_,r,s,e,λv H' F' as' g r' hv=>k _ H' F' as' g.toS r' ((s.step g).setV hm hv)⟩
 |ex x O'=>rw[e] at k;exact False.elim k
 |no=>rw[e] at k;exact False.elim k
theorem U4{K:Frag}{mg:Str->Option Value}{i:Nat}{m:M D}{t:TE}(hm:md[i]?=some .o)(ht:∀σ H Q,tM K mg md P (rO K) m σ H Q->t σ H Q){D:Ends}{σ:St}{H:Hp}(q:tMS K mg md P R (aH i m) D σ H):tV t (qK i) D σ H:=by
 obtain⟨ρ,O,F,as,r,s,k⟩:=q;unfold aH at k
 cases e:m ρ O with
 |ok d O' =>
  rw[e] at k;exact ht _ _ _ ⟨ρ,_,F,as,_,_,r,s,e,λv H' F' as' g r' hv=>k _ H' F' as' g.toS r' (s.setO g hm hv)⟩
 |ex x O'=>rw[e] at k;exact False.elim k
 |no=>rw[e] at k;exact False.elim k
theorem bu{i:Nat}{x:Str}{e:Expr}{pos pos':Pos}{m:M D}(hN:X.N.Nodup)(hi:X.N[i]?=some x)(hx:Loc X.env.scope x)(h:VE X md P e m)(hm:md[i]?=some .v:=by rfl)(hs:swapsWith e (some (.Name x pos')) pos.line X.env=pure false:=by rfl)
  (hf:X.fn x=true\/X.env.scope.names.lookup x=some .local:=by first | exact .inl rfl | exact .inr rfl | assumption):VS X md P R (.Assign [.Name x pos'] e pos) (aH i m):=(Fe (i:=i) hN hi hx h hs hf).imp λD σ H q=>Hf hm (λ_ _ _ z=>z) q
theorem jr{i:Nat}{x:Str}{e:Expr}{pos pos':Pos}{m:M D}(hN:X.N.Nodup)(hi:X.N[i]?=some x)(hx:Loc X.env.scope x)(h:OE X md P e m)(hm:md[i]?=some .o:=by rfl)(hs:swapsWith e (some (.Name x pos')) pos.line X.env=pure false:=by rfl)
  (hf:X.fn x=true\/X.env.scope.names.lookup x=some .local:=by first | exact .inl rfl | exact .inr rfl | assumption):VS X md P R (.Assign [.Name x pos'] e pos) (aH i m):=(Fe (i:=i) hN hi hx h hs hf).imp λD σ H q=>U4 hm (λ_ _ _ z=>z) q
abbrev MG:=D->aD->Option aD
def tMG(K:Frag)(mg:Str->Option Value)(md:List Md)(P:Pt)(g:MG):TG:=λv σ H Q=>∃ρ O F as d ρ',RlO K mg O H F as/\SlO K md P ρ σ H F as/\Rp K F as v d/\g d ρ=some ρ'/\∀σ',SlO K md P ρ' σ' H F as->Q σ' H
def U5(K:Frag)(mg:Str->Option Value)(md:List Md)(P:Pt)(g:List D->aD->Option aD):TGs:=λvs σ H Q=>∃ρ O F as ds ρ',RlO K mg O H F as/\SlO K md P ρ σ H F as/\Rps K F as vs ds/\g ds ρ=some ρ'/\∀σ',SlO K md P ρ' σ' H F as->Q σ' H
def VG(X:Cx)(md:List Md)(P:Pt)(tg:Expr)(g:MG):Prop:=PG X tg (tMG X.K X.mg md P g)
def VGs(X:Cx)(md:List Md)(P:Pt)(tg:List Expr)(g:List D->aD->Option aD):Prop:=PGs X tg (U5 X.K X.mg md P g)
theorem PG.imp{e:Expr}{t t':TG}(h:PG X e t)(k:∀v σ H Q,t' v σ H Q->t v σ H Q):PG X e t':=λpins s σ H v u Q I r q=>h pins s σ H v u Q I r (k v σ H Q q)
theorem PGs.imp{e:List Expr}{t t':TGs}(h:PGs X e t)(k:∀v σ H Q,t' v σ H Q->t v σ H Q):PGs X e t':=λpins s σ H v u Q I r q=>h pins s σ H v u Q I r (k v σ H Q q)
def mgN(i:Nat):MG:=λd ρ=>some (ρ.set i (some d))
theorem cY{i:Nat}{x:Str}{pos:Pos}(hN:X.N.Nodup)(hi:X.N[i]?=some x)(hx:Loc X.env.scope x)(hm:md[i]?=some .v:=by rfl)(hf:X.fn x=true\/X.env.scope.names.lookup x=some .local:=by first | exact .inl rfl | exact .inr rfl | assumption):VG X md P (.Name x pos) (mgN i):=
 (Qf (i:=i) hN hi hx hf).imp λv σ H Q q=>by
  obtain⟨ρ,O,F,as,d,ρ',r,s,hv,e,k⟩:=q;cases e;exact k _ (s.setV hm hv)
def kE:List D->aD->Option aD:=λds ρ=>match ds with
 | []=>some ρ
 | _=>none
def fJ(g:MG)(r:List D->aD->Option aD):List D->aD->Option aD:=λds ρ=>match ds with
 |d::ds=>(g d ρ).bind λρ1=>r ds ρ1
 | []=>none
theorem xA:VGs X md P [] kE:=Qi.imp λv σ H Q q=>by
 obtain⟨ρ,O,F,as,ds,ρ',r,s,hv,e,k⟩:=q
 cases ds with
 |nil=>cases e;exact⟨hv.un0,k _ s⟩
 |cons _ _=>cases e
theorem pB{e:Expr}{es:List Expr}{g:MG}{r:List D->aD->Option aD}(h1:VG X md P e g)(h2:VGs X md P es r)(hs:(assignEach (e::es) X.env).map (·.2)=assign e X.env::(assignEach es X.env).map (·.2):=by rfl):VGs X md P (e::es) (fJ g r):=
 (Qj h1 h2 hs).imp λv σ H Q q=>by
  obtain⟨ρ,O,F,as,ds,ρ',r0,s,hv,e,k⟩:=q
  cases ds with
  |nil=>cases e
  |cons d ds =>
   obtain⟨x,rs,rfl,hx,hr⟩:=hv.un;unfold fJ at e;dsimp only at e
   cases e1:g d ρ with
   |none=>rw[e1] at e;cases e
   |some ρ1 =>
    rw[e1] at e;exact⟨x,rs,rfl,ρ,O,F,as,d,ρ1,r0,s,hx,e1,λσ' s'=>⟨ρ1,O,F,as,ds,ρ',r0,s',hr,e,k⟩⟩
def jO(n:Nat)(r:List D->aD->Option aD):MG:=λd ρ=>match d with
 | .tup ds=>if ds.length=n then r ds ρ else none
 | _=>none
theorem xB{es:List Expr}{pos:Pos}{k:Nat}{r:List D->aD->Option aD}(n:Nat)(hc:X.calm=true)(h:VGs X md P es r)(hn:(assignEach es X.env).length=n:=by rfl)(hst:(assignEach es X.env).findIdx? (·.1)=none:=by rfl):VG X md P (.Tuple es k pos) (jO n r):=
 (Ql hc h hn hst).imp λv σ H Q q=>by
  obtain⟨ρ,O,F,as,d,ρ',r0,s,hv,e,k⟩:=q
  cases d with
  |tup ds =>
   obtain⟨a,xs,rfl,h1,h2⟩:=hv.unT;unfold jO at e;dsimp only at e;split at e
   ·rename_i hl;exact⟨a,xs,rfl,Same.seqT r0.fh h1,by rw[h2.length];exact hl,ρ,O,F,as,ds,ρ',r0,s,h2,e,k⟩
   ·cases e
  | _=>cases e
def U6(m:M D)(g:MG):MS:=λρ O=>match m ρ O with
 | .ok d O'=>match g d ρ with
  |some ρ'=>.nx ρ' O'
  |none=>.no
 | .ex x O'=>.ex x O'
 | .no=>.no
end
structure nH(K:Frag)(mg:Str->Option Value)(P:Pt)(J:It)(ds:List D)(H F:Hp)(as:List Addr):Prop where
 turn:∀(i:Nat) (d:D) (H2 F2:Hp) (as2:List Addr),GrS P H F as H2 F2 as2->(∃O,RlO K mg O H2 F2 as2)->ds[i]?=some d->J.go i H2/\∀x H3,J.yld i H2 x H3->∃F3,Gr H2 F2 as2 H3 F3 as2/\(∀O,RlO K mg O H2 F2 as2->RlO K mg O H3 F3 as2)/\Rp K F3 as2 x d
 stop:∀(H2 F2:Hp) (as2:List Addr),GrS P H F as H2 F2 as2->(∃O,RlO K mg O H2 F2 as2)->J.stop ds.length H2
structure Hg(K:Frag)(mg:Str->Option Value)(J:It)(ds:List D)(H F:Hp)(as:List Addr):Prop where
 turn:∀(i:Nat) (d:D) (H2 F2:Hp) (as2:List Addr),Gr H F as H2 F2 as2->(∃O,RlO K mg O H2 F2 as2)->ds[i]?=some d->J.go i H2/\∀x H3,J.yld i H2 x H3->∃F3,Gr H2 F2 as2 H3 F3 as2/\(∀O,RlO K mg O H2 F2 as2->RlO K mg O H3 F3 as2)/\Rp K F3 as2 x d
 stop:∀(H2 F2:Hp) (as2:List Addr),Gr H F as H2 F2 as2->(∃O,RlO K mg O H2 F2 as2)->J.stop ds.length H2
theorem nH.e{K:Frag}{mg:Str->Option Value}{P:Pt}{J:It}{ds:List D}{H F:Hp}{as:List Addr}(h:nH K mg P J ds H F as):Hg K mg J ds H F as:=⟨λi d H2 F2 as2 g=>h.turn i d H2 F2 as2 g.toS,λH2 F2 as2 g=>h.stop H2 F2 as2 g.toS⟩
def Hh(K:Frag)(mg:Str->Option Value)(md:List Md)(P:Pt)(m:M (List D)):TI:=λσ H Q=>∃ρ O F as ds O',RlO K mg O H F as/\SlO K md P ρ σ H F as/\m ρ O=.ok ds O' /\
 ∀J H' F' as',Gr H F as H' F' as'->RlO K mg O' H' F' as'->Hg K mg J ds H' F' as'->Q J H'
def VIc(X:Cx)(md:List Md)(P:Pt)(tg iter:Expr)(m:M (List D)):Prop:=PI X tg iter (Hh X.K X.mg md P m)
def tMI(K:Frag)(mg:Str->Option Value)(md:List Md)(P:Pt)(m:M (List D)):TI:=λσ H Q=>∃ρ O F as ds O',RlO K mg O H F as/\SlO K md P ρ σ H F as/\m ρ O=.ok ds O' /\
 ∀J H' F' as',Gr H F as H' F' as'->RlO K mg O' H' F' as'->nH K mg P J ds H' F' as'->Q J H'
def VI(X:Cx)(md:List Md)(P:Pt)(tg iter:Expr)(m:M (List D)):Prop:=PI X tg iter (tMI X.K X.mg md P m)
section
variable {X:Cx}{md:List Md}{P:Pt}{R:RR}
theorem PI.imp{tg e:Expr}{t t':TI}(h:PI X tg e t)(k:∀σ H Q,t' σ H Q->t σ H Q):PI X tg e t':=λpins s σ H Q I q=>h pins s σ H Q I (k σ H Q q)
theorem ur{tg e:Expr}{m:M (List D)}(h:VI X md P tg e m):VIc X md P tg e m:=h.imp λσ H Q q=>by
 obtain⟨ρ,O,F,as,ds,O',r,s,e,k⟩:=q;exact⟨ρ,O,F,as,ds,O',r,s,e,λJ H' F' as' g r' hJ=>k J H' F' as' g r' hJ.e⟩
def cV(g:MG)(b:MS):List D->MS
 | [],ρ,O=>.nx ρ O
 |d::ds,ρ,O=>match g d ρ with
  |none=>.no
  |some ρ1=>match b ρ1 O with
   | .nx ρ2 O2=>cV g b ds ρ2 O2
   | .ct ρ2 O2=>cV g b ds ρ2 O2
   | .bk ρ2 O2=>.nx ρ2 O2
   |r=>r
def cu(m:M (List D))(g:MG)(b:MS):MS:=λρ O=>match m ρ O with
 | .ok ds O'=>cV g b ds ρ O'
 | .ex x O'=>.ex x O'
 | .no=>.no
theorem U7{K:Frag}{mg:Str->Option Value}{m:M (List D)}{g:MG}{b:MS}{D:Ends}{σ:St}{H:Hp}(q:tMS K mg md P R (cu m g b) D σ H):Fj (tMI K mg md P m) (tMG K mg md P g) (tMS K mg md P R b) D σ H:=by
 obtain⟨ρ,O,F,as,r,s,k⟩:=q;unfold cu at k
 cases e:m ρ O with
 |ex x O'=>rw[e] at k;exact False.elim k
 |no=>rw[e] at k;exact False.elim k
 |ok ds O1 =>
  rw[e] at k;dsimp only at k;refine⟨ρ,_,F,as,_,_,r,s,e,λJ H1 F1 as1 g1 r1 hJ=>?_⟩;have k1:=jN (R:=R) g1.toS k;refine⟨λi m σ' H'=>m=ds.length - i/\i<=ds.length/\∃ρ' O' F' as',GrS P H1 F1 as1 H' F' as'/\RlO K mg O' H' F' as'/\SlO K md P ρ' σ' H' F' as'/\lM K mg md P R D H' F' as' (cV g b (ds.drop i) ρ' O'),⟨ds.length,by simp,Nat.zero_le _,ρ,O1,F1,as1,GrS.refl,r1,s.step g1,by rw[List.drop_zero];exact k1⟩,?_⟩;rintro i n σ' H' ⟨rfl,hi,ρ',O',F',as',g',r',s',k'⟩
  by_cases hlt:i<ds.length
  ·have hd:=zo hlt;obtain⟨go,yl⟩:=hJ.turn i _ H' F' as' g' ⟨O',r'⟩ hd;rw[List.drop_eq_getElem_cons hlt] at k';refine .inr ⟨go,λσ2 H2=>∃ρ2 O2 F2 as2,GrS P H1 F1 as1 H2 F2 as2/\RlO K mg O2 H2 F2 as2/\SlO K md P ρ2 σ2 H2 F2 as2/\lM K mg md P R D H2 F2 as2 (cV g b (ds.drop (i+1)) ρ2 O2),λσ2 H2 h2=>⟨ds.length - (i+1),by omega,rfl,hlt,h2⟩,λx H3 y=>?_⟩;obtain⟨F3,g3,r3,hx⟩:=yl x H3 y;have r3':=r3 O' r';unfold cV at k'
   cases eg:g ds[i] ρ' with
   |none=>rw[eg] at k';exact False.elim k'
   |some ρ1 =>
    rw[eg] at k';dsimp only at k';refine⟨ρ',O',F3,as',ds[i],ρ1,r3',s'.step g3,hx,eg,λσ4 s4=>?_⟩;refine⟨ρ1,O',F3,as',r3',s4,?_⟩;have g4:GrS P H1 F1 as1 H3 F3 as':=g'.trans g3.toS
    have keep:=λ{f}=>jN (K:=K) (mg:=mg) (md:=md) (R:=R) (D:=D) (f:=f) (g3.toS (P:=P))
    cases eb:b ρ1 O' with
    |nx ρ2 O2 =>
     rw[eb] at k'
     exact λσ2 H2 F2 as2 g2 r2 s2=>⟨ρ2,O2,F2,as2,g4.trans g2,r2,s2,jN g2 (keep k')⟩
    |ct ρ2 O2 =>
     rw[eb] at k'
     exact λσ2 H2 F2 as2 g2 r2 s2=>⟨ρ2,O2,F2,as2,g4.trans g2,r2,s2,jN g2 (keep k')⟩
    |bk ρ2 O2 =>
     rw[eb] at k'
     exact λσ2 H2 F2 as2 g2 r2 s2=>k' σ2 H2 F2 as2 (g3.toS.trans g2) r2 s2
    |rt d O2 =>
     rw[eb] at k'
     exact λv H2 F2 as2 g2 r2 s2=>k' v H2 F2 as2 (g3.toS.trans g2) r2 s2
    |ex _ _=>rw[eb] at k';exact False.elim k'
    |no=>rw[eb] at k';exact False.elim k'
  ·have hi':i=ds.length:=by omega
   subst hi';refine .inl ⟨hJ.stop H' F' as' g' ⟨O',r'⟩,?_⟩;rw[List.drop_length] at k';exact k' σ' H' F' as' GrS.refl r' s'
theorem fM{tg iter:Expr}{body:List Stmt}{pos:Pos}{m:M (List D)}{g:MG}{b:MS}(hc:X.calm=true)(hi:VI X md P tg iter m)(hg:VG X md P tg g)(hb:VSs X md P R body b)(hp:PassesOwn (model X.prog X.w) X.A X.env X.xe:=by exact PassesOwn.never)
  (hs:∀x,foldedSetIterable iter X.env x=pure x:=by intro _;rfl):VS X md P R (.For tg iter body [] pos) (cu m g b):=(Qz hp hc hi hg hb hs).imp λ_ _ _ q=>U7 q
def d9(t:M Bool)(b:MS):Nat->MS
 | 0,_,_=>.no
 |n+1,ρ,O=>match t ρ O with
  | .ok true O1=>match b ρ O1 with
   | .nx ρ2 O2=>d9 t b n ρ2 O2
   | .ct ρ2 O2=>d9 t b n ρ2 O2
   | .bk ρ2 O2=>.nx ρ2 O2
   |r=>r
  | .ok false O1=>.nx ρ O1
  | .ex x O'=>.ex x O'
  | .no=>.no
def gW(n:Nat)(t:M Bool)(b:MS):MS:=d9 t b n
theorem U8{K:Frag}{mg:Str->Option Value}{n:Nat}{t:M Bool}{b:MS}{D:Ends}{σ:St}{H:Hp}(q:tMS K mg md P R (gW n t b) D σ H):Ff (tMT K mg md P t) (tMS K mg md P R b) D σ H:=by
 refine⟨λn σ' H'=>tMS K mg md P R (d9 t b n) D σ' H',⟨n,q⟩,?_⟩;rintro m σ1 H1 ⟨ρ,O,F,as,r,s,k⟩
 cases m with
 |zero=>exact False.elim k
 |succ m =>
  unfold d9 at k
  cases e:t ρ O with
  |ex x O'=>rw[e] at k;exact False.elim k
  |no=>rw[e] at k;exact False.elim k
  |ok c O1 =>
   rw[e] at k;refine⟨ρ,_,F,as,_,_,r,s,e,λH2 F2 as2 g2 r2=>?_⟩
   cases c with
   |false =>
    rw[if_neg zj];exact k σ1 H2 F2 as2 g2.toS r2 (s.step g2)
   |true =>
    rw[if_pos rfl];refine⟨λσ' H'=>tMS K mg md P R (d9 t b m) D σ' H',λσ' H' h'=>⟨m,zZ m,h'⟩,ρ,O1,F2,as2,r2,s.step g2,?_⟩;dsimp only at k
    have keep:=λ{f}=>jN (K:=K) (mg:=mg) (md:=md) (R:=R) (D:=D) (f:=f) (g2.toS (P:=P))
    cases eb:b ρ O1 with
    |nx ρ2 O2 =>
     rw[eb] at k
     exact λσ3 H3 F3 as3 g3 r3 s3=>⟨ρ2,O2,F3,as3,r3,s3,jN g3 (keep k)⟩
    |ct ρ2 O2 =>
     rw[eb] at k
     exact λσ3 H3 F3 as3 g3 r3 s3=>⟨ρ2,O2,F3,as3,r3,s3,jN g3 (keep k)⟩
    |bk ρ2 O2 =>
     rw[eb] at k
     exact λσ3 H3 F3 as3 g3 r3 s3=>k σ3 H3 F3 as3 (g2.toS.trans g3) r3 s3
    |rt d O2 =>
     rw[eb] at k
     exact λσ3 H3 F3 as3 g3 r3 s3=>k σ3 H3 F3 as3 (g2.toS.trans g3) r3 s3
    |ex _ _=>rw[eb] at k;exact False.elim k
    |no=>rw[eb] at k;exact False.elim k
theorem pC(n:Nat){c:Expr}{body:List Stmt}{pos:Pos}{t:M Bool}{b:MS}(hc:TsE X md P c t)(hb:VSs X md P R body b)(hp:PassesOwn (model X.prog X.w) X.A X.env X.xe:=by exact PassesOwn.never):VS X md P R (.While c body [] pos) (gW n t b):=
 (Qm hp hc hb).imp λ_ _ _ q=>U8 q
def dR(g:MG)(t:M Bool)(m:M D):List D->aD->au->List D->Res (List D)
 | [],ρ,O,acc=>.ok acc O
 |d::ds,ρ,O,acc=>match g d ρ with
  |none=>.no
  |some ρ1=>match t ρ1 O with
   | .ok true O1=>match m ρ1 O1 with
    | .ok y O2=>dR g t m ds ρ1 O2 (acc++[y])
    | .ex x O'=>.ex x O'
    | .no=>.no
   | .ok false O1=>dR g t m ds ρ1 O1 acc
   | .ex x O'=>.ex x O'
   | .no=>.no
def jP(own:Nat)(cap:List Nat)(ρ:aD):aD:=List.replicate own none++cap.map λj=>(ρ[j]?).join
def dI(m:M (List D))(own:Nat)(cap:List Nat)(g:MG)(t:M Bool)(e:M D):M D:=λρ O=>(m ρ O).bind λds O1=>if ds.length<=1000000 then(dR g t e ds (jP own cap ρ) O1 []).bind λys O2=>.ok (.lst ys) O2 else .no
def dJ:M Bool:=λ_ O=>.ok true O
def cMd(own:Nat)(cap:List Nat)(md:List Md):List Md:=List.replicate own .v++cap.map λj=>match md[j]? with
 |some .v=>.v
 | _=>.s
theorem U9{K:Frag}{ρ:aD}{σ:St}{H F:Hp}{as:List Addr}{own:List Str}{cap:List Nat}(s:SlO K md P ρ σ H F as)(hcap:∀j∈cap,j<md.length):SlO K (cMd own.length cap md) (Pt.all H) (jP own.length cap ρ) (compSt own cap σ) H F as:=by
 refine⟨by simp[compSt,cMd],by simp[jP,cMd],λa h=>h,λi m d e1 e2=>?_,λi j a ds es h1=>?_,λ_ z=>nomatch z⟩
 ·unfold jP at e2;unfold cMd at e1;unfold compSt
  by_cases hi:i<own.length
  ·rw[zD (by simpa using hi),List.getElem?_replicate_of_lt hi] at e2;cases e2
  ·have hi':own.length<=i:=Nat.le_of_not_lt hi;rw[zO (by simpa using hi'),List.length_replicate,zA] at e2 e1;rw[zO (by simpa using hi'),ze,zA]
   cases q:cap[i - own.length]? with
   |none=>rw[q] at e2;cases e2
   |some j =>
    rw[q] at e1 e2;simp only[Option.map_some,Option.some.injEq] at e1 e2 ⊢
    cases q2:ρ[j]? with
    |none=>rw[q2] at e2;cases e2
    |some o =>
     rw[q2] at e2;have e2':o=some d:=e2;subst e2';obtain⟨m0,v,h1,h2,h3⟩:=s.get q2;rw[h1] at e1;refine⟨v,by rw[h2];rfl,?_⟩
     cases m0 with
     |v=>dsimp only at e1;subst e1;exact h3
     |s =>
      dsimp only at e1;subst e1
      rcases h3 with h3 | ⟨a,xs,ds,e1,e2,e3,e4,e5,e6⟩
      ·exact .inl h3
      ·exact .inr ⟨a,xs,ds,e1,e2,e3,e4,(show H a≠none by rw[e3];exact λz=>nomatch z),e6⟩
     |o =>
      dsimp only at e1;subst e1
      rcases h3 with⟨_,h3⟩ | ⟨a,xs,ds,e1,e2,e3,e0,e4,e5,e6⟩
      ·exact .inl h3
      ·exact .inr ⟨a,xs,ds,e1,e2,e3,e4,(show H a≠none by rw[e3];exact λz=>nomatch z),e6⟩
 ·exfalso
  unfold cMd at h1
  by_cases hi:i<own.length
  ·rw[zD (by simpa using hi),List.getElem?_replicate_of_lt hi] at h1;cases h1
  ·have hi':own.length<=i:=Nat.le_of_not_lt hi;rw[zO (by simpa using hi'),List.length_replicate,zA] at h1
   cases q:cap[i - own.length]? with
   |none=>rw[q] at h1;cases h1
   |some j =>
    rw[q] at h1;simp only[Option.map_some,Option.some.injEq] at h1
    split at h1<;>cases h1
end
section
variable {X:Cx}{md:List Md}{P:Pt}{R:RR}
def xM(K:Frag)(mg:Str->Option Value)(md:List Md)(R:RR)(m:M D):TE:=λσ H Q=>∃P,tM K mg md P R m σ H Q
def xMT(K:Frag)(mg:Str->Option Value)(md:List Md)(m:M Bool):TT:=λσ H Q=>∃P,tMT K mg md P m σ H Q
def xMG(K:Frag)(mg:Str->Option Value)(md:List Md)(g:MG):TG:=λv σ H Q=>∃P,tMG K mg md P g v σ H Q
theorem xm{e:Expr}{m:M D}(h:∀P,PE X e (tM X.K X.mg md P R m)):PE X e (xM X.K X.mg md R m):=λpins s σ H Q I ⟨P,q⟩=>h P pins s σ H Q I q
theorem xmg{e:Expr}{g:MG}(h:∀P,VG X md P e g):PG X e (xMG X.K X.mg md g):=λpins s σ H v u Q I r ⟨P,q⟩=>h P pins s σ H v u Q I r q
theorem xmt{e:List Expr}{m:M Bool}(h:∀P,lJ X e (tMT X.K X.mg md P m)):lJ X e (xMT X.K X.mg md m):=λpins s σ H Q I ⟨P,q⟩=>h P pins s σ H Q I q
def VIf(X:Cx)(md:List Md)(P:Pt)(e:List Expr)(m:M Bool):Prop:=lJ X e (tMT X.K X.mg md P m)
theorem lQ:VIf X md P [] dJ:=λpins s σ H Q I q=>by
 obtain⟨ρ,O,F,as,d,O',r,s,e,k⟩:=q;cases e;exact TX pins _ σ H Q I (k H F as Gr.refl r)
theorem Hi{c:Expr}{m:M Bool}(h:TsE X md P c m):VIf X md P [c] m:=TY h
theorem Hj{K:Frag}{mg:Str->Option Value}{m:M (List D)}{own:List Str}{cap:List Nat}{g:MG}{t:M Bool}{e:M D}(hcap:∀j∈cap,j<md.length){σ:St}{H:Hp}{Q:VK}(q:tM K mg md P (rO K) (dI m own.length cap g t e) σ H Q):
  xg (Hh K mg md P m) own cap (xMG K mg (cMd own.length cap md) g) (xMT K mg (cMd own.length cap md) t) (xM K mg (cMd own.length cap md) (rV K) e) σ H Q:=by
 obtain⟨ρ,O,F,as,d,OZ,r,s,eq,k⟩:=q;obtain⟨ds,O1,e1,eq⟩:=Res.bind_ok eq;split at eq
 ·rename_i hz;obtain⟨yf,O2,e2,eq⟩:=Res.bind_ok eq;cases eq;refine⟨ρ,_,F,as,_,_,r,s,e1,λJ H1 F1 as1 g1 r1 hJ=>?_⟩;have sb:=U9 (own:=own) (s.step g1) hcap
  refine⟨λi n ys σ' H'=>n=ds.length - i/\i<=ds.length/\∃ρ' O' F' as' acc,Gr H1 F1 as1 H' F' as'/\RlO K mg O' H' F' as'/\SlO K (cMd own.length cap md) (Pt.all H1) ρ' σ' H' F' as'/\Rps K F' as' ys acc/\acc.length<=i /\
   dR g t e (ds.drop i) ρ' O' acc=.ok yf OZ,⟨ds.length,by simp,Nat.zero_le _,jP own.length cap ρ,O1,F1,as1,[],Gr.refl,r1,sb,Rps.nil,zc _,by rw[List.drop_zero];exact e2⟩,?_⟩
  rintro i n ys σ' H' ⟨rfl,hi,ρ',O',F',as',acc,g',r',s',hy,hl,ec⟩
  by_cases hlt:i<ds.length
  ·obtain⟨go,yl⟩:=hJ.turn i _ H' F' as' g' ⟨O',r'⟩ (zo hlt)
   refine .inr ⟨go,?_,λys σ2 H2=>∃ρ2 O3 F2 as2 acc2,Gr H1 F1 as1 H2 F2 as2/\RlO K mg O3 H2 F2 as2/\SlO K (cMd own.length cap md) (Pt.all H1) ρ2 σ2 H2 F2 as2/\Rps K F2 as2 ys acc2/\acc2.length<=i+1 /\
    dR g t e (ds.drop (i+1)) ρ2 O3 acc2=.ok yf OZ,λys2 σ2 H2 h2=>⟨ds.length - (i+1),by omega,rfl,hlt,h2⟩,λx H3 y=>?_⟩
   ·rw[hy.length]
    have:=iW hz
    omega
   obtain⟨F3,g3,r3,hx⟩:=yl x H3 y;have r3':=r3 O' r';have g13:=g'.trans g3;rw[List.drop_eq_getElem_cons hlt] at ec;unfold dR at ec
   cases eg:g ds[i] ρ' with
   |none=>rw[eg] at ec;cases ec
   |some ρ1 =>
    rw[eg] at ec;dsimp only at ec;refine⟨_,ρ',O',F3,as',ds[i],ρ1,r3',s'.step g3,hx,eg,λσ4 s4=>?_⟩
    cases et:t ρ1 O' with
    |ex _ _=>rw[et] at ec;cases ec
    |no=>rw[et] at ec;cases ec
    |ok c O4 =>
     rw[et] at ec;refine⟨_,ρ1,O',F3,as',c,O4,r3',s4,et,λH5 F5 as5 g5 r5=>?_⟩
     cases c with
     |false =>
      rw[if_neg zj];exact⟨ρ1,O4,F5,as5,acc,g13.trans g5,r5,s4.step g5,(hy.gr g3).gr g5,by omega,ec⟩
     |true =>
      rw[if_pos rfl];dsimp only at ec
      cases em:e ρ1 O4 with
      |ex _ _=>rw[em] at ec;cases ec
      |no=>rw[em] at ec;cases ec
      |ok yd O6 =>
       rw[em] at ec;refine⟨_,ρ1,O4,F5,as5,yd,O6,r5,s4.step g5,em,λvy H7 F7 as7 g7 r7 hvy=>?_⟩;exact⟨ρ1,O6,F7,as7,acc++[yd],(g13.trans g5).trans g7,r7,(s4.step g5).step g7,(((hy.gr g3).gr g5).gr g7).snoc hvy,by rw[zF];show acc.length+1<=i+1;omega,ec⟩
  ·have hi':i=ds.length:=by omega
   subst hi';rw[List.drop_length] at ec;cases ec;refine .inl ⟨hJ.stop H' F' as' g' ⟨_,r'⟩,?_,λp hp=>?_⟩
   ·rw[hy.length];exact zH hl (iW hz)
   ·have hF:F' p=none:=by
     cases q:F' p with
     |none=>rfl
     |some o=>rw[r'.fh p o q] at hp;cases hp
    exact k _ _ F' as' ((g1.trans g').trans (Gr.lay hp)) (r'.lay hp) (.inr ⟨p,ys,yf,rfl,rfl,cA,hF,λz=>r'.all z hp,(g1.trans g').dm p hp,hy⟩)
 ·cases eq
variable {tg iter elt:Expr}{ifs:List Expr}{scope:Scope}{pos:Pos}{mi:M (List D)}{g:MG}{t:M Bool}{e:M D}
theorem nJ(sc0:Scope)(N0 own:List Str)(cap:List Nat)(hc:X.calm=true)(hi:VIc X md P tg iter mi)
  (hg:∀C s H ex P,VG (cX X scope C (bW N0 own cap) s H ex) (cMd own.length cap md) P tg g) (ht:∀C s H ex P,VIf (cX X scope C (bW N0 own cap) s H ex) (cMd own.length cap md) P ifs t)
  (he:∀C s H ex P,VE (cX X scope C (bW N0 own cap) s H ex) (cMd own.length cap md) P elt e)
  (hcap:∀j∈cap,j<md.length:=by decide) (hsc:X.env.scope=sc0:=by rfl) (hN0:X.N=N0:=by rfl) (ok:o9 sc0 N0 scope own cap=true:=by decide +kernel) (hs:∀x,foldedSetIterable iter X.env x=pure x:=by intro _;rfl):
  OE X md P (.ListComp elt [⟨tg,iter,ifs,0⟩] scope pos) (dI mi own.length cap g t e):=
 (T6 sc0 N0 own cap hc hi (λC s H ex=>xmg (hg C s H ex)) (λC s H ex=>xmt (ht C s H ex)) (λC s H ex=>xm (he C s H ex)) hsc hN0 ok hs).imp λ_ _ _ q=>Hj hcap q
theorem xC{i:Nat}{x:Str}{pos' spos:Pos}(sc0:Scope)(N0 own:List Str)(cap:List Nat)(hN:X.N.Nodup)(hx:X.N[i]?=some x)(hl:Loc X.env.scope x)(hc:X.calm=true)(hi:VIc X md P tg iter mi)
  (hg:∀C s H ex P,VG (cX X scope C (bW N0 own cap) s H ex) (cMd own.length cap md) P tg g) (ht:∀C s H ex P,VIf (cX X scope C (bW N0 own cap) s H ex) (cMd own.length cap md) P ifs t)
  (he:∀C s H ex P,VE (cX X scope C (bW N0 own cap) s H ex) (cMd own.length cap md) P elt e)
  (hm:md[i]?=some .v:=by rfl) (hcap:∀j∈cap,j<md.length:=by decide) (hsw:swapsWith (.ListComp elt [⟨tg,iter,ifs,0⟩] scope pos) (some (.Name x pos')) spos.line X.env=pure true:=by rfl)
  (hf:X.fn x=true\/X.env.scope.names.lookup x=some .local:=by first | exact .inl rfl | exact .inr rfl | assumption)
  (hsc:X.env.scope=sc0:=by rfl) (hN0:X.N=N0:=by rfl) (ok:o9 sc0 N0 scope own cap=true:=by decide +kernel) (hs:∀x,foldedSetIterable iter X.env x=pure x:=by intro _;rfl):
  VS X md P R (.Assign [.Name x pos'] (.ListComp elt [⟨tg,iter,ifs,0⟩] scope pos) spos) (aH i (dI mi own.length cap g t e)):=
 (T7 (i:=i) sc0 N0 own cap hN hx hl hc hi (λC s H ex=>xmg (hg C s H ex)) (λC s H ex=>xmt (ht C s H ex)) (λC s H ex=>xm (he C s H ex)) hsw hf hsc hN0 ok hs).imp λD σ H q =>
  Hf hm (λσ H Q z=>Hj hcap (by
   obtain⟨ρ,O,F,as,d,O',r,s,e,k⟩:=z;refine⟨ρ,_,F,as,_,_,r,s,e,λv H' F' as' g r' hv=>?_⟩
   rcases hv with⟨_,hv⟩ | ⟨a,xs,ds,rfl,rfl,e3,e4,e5,e6,e7⟩
   ·exact k v H' F' as' g r' hv
   ·have ff:Same F' (upd F' a (.lst xs)):=λb u q=>by rw[aP (cT q e4)];exact q
    exact k _ H' (upd F' a (.lst xs)) as' (g.frz e6 e4) (r'.frz e3 e4 e5 rfl) (Rp.mkL (.inl (.inl cA)) (Rps.mono ff (λ_ _ z=>z) _ e7)))) q
end
def vSp(K:Frag)(mg:Str->Option Value)(pm:List Md)(R:RR)(c:List D->au->Res D):Sp:=λvs H Q _ =>
 ∃ds O F as d O',RlO K mg O H F as/\di K H F as pm vs ds/\c ds O=.ok d O'/\∀v H' F' as',Gr H F as H' F' as'->RlO K mg O' H' F' as'->R (λa=>H a=none) H' F' as' v d->Q v H'
def bF(n:Nat)(b:MS):List D->au->Res D:=λds O=>match b (ds.map some++List.replicate (n - ds.length) none) O with
 | .rt d O'=>.ok d O'
 | .nx _ O'=>.ok .non O'
 | .ex x O'=>.ex x O'
 | _=>.no
theorem di.len{K:Frag}{H F:Hp}{as:List Addr}:∀{ms:List Md}{vs:List V}{ds:List D},di K H F as ms vs ds->vs.length=ms.length/\ds.length=ms.length
 | [],[],[],_=>⟨rfl,rfl⟩
 |m::ms,v::vs,d::ds,h=>by
  have:=di.len h.2
  simp[this.1,this.2]
 | [],[],_::_,h=>h.elim
 | [],_::_,[],h=>h.elim
 | [],_::_,_::_,h=>h.elim
 | _::_,[],[],h=>h.elim
 | _::_,[],_::_,h=>h.elim
 | _::_,_::_,[],h=>h.elim
theorem di.get{K:Frag}{H F:Hp}{as:List Addr}:∀{ms:List Md}{vs:List V}{ds:List D}{i:Nat}{m:Md}{d:D},di K H F as ms vs ds->ms[i]?=some m->ds[i]?=some d->∃v,vs[i]?=some v/\rA K m (λ_=>True) H F as v d
 |m::ms,v::vs,d::ds,0,m',d',h,e1,e2=>by
  simp at e1 e2
  subst e1 e2;exact⟨v,rfl,h.1⟩
 |m::ms,v::vs,d::ds,i+1,m',d',h,e1,e2=>by
  obtain⟨v',h1,h2⟩:=di.get (i:=i) (m:=m') (d:=d') h.2 (by simpa using e1) (by simpa using e2);exact⟨v',by simpa using h1,h2⟩
 | [],[],[],_,_,_,_,e1,_=>by simp at e1
 | [],[],_::_,_,_,_,h,_,_=>h.elim
 | [],_::_,[],_,_,_,h,_,_=>h.elim
 | [],_::_,_::_,_,_,_,h,_,_=>h.elim
 | _::_,[],[],_,_,_,h,_,_=>h.elim
 | _::_,[],_::_,_,_,_,h,_,_=>h.elim
 | _::_,_::_,[],_,_,_,h,_,_=>h.elim
theorem Hl{K:Frag}{H F:Hp}{as:List Addr}{N:List Str}{pm lm:List Md}{vs:List V}{ds:List D}(h:di K H F as pm vs ds)(hl:(pm++lm).length=N.length)(hp:∀m∈pm,m≠.o):
  SlO K (pm++lm) (Pt.all H) (ds.map some++List.replicate (N.length - ds.length) none) (start N vs) H F as:=by
 obtain⟨h1,h2⟩:=h.len;rw[zF] at hl
 have vsl:vs.length<=N.length:=by omega
 have no:∀i a,(ds.map some++List.replicate (N.length - ds.length) none)[i]?=some (some a)->i<ds.length:=λi a e=>by
  by_cases hi:i<ds.length
  ·exact hi
  ·rw[zO (by simpa using hi),List.getElem?_replicate] at e
   split at e<;>cases e
 refine⟨by unfold start;simp;omega,by simp;omega,λa z=>z,λi m d e1 e2=>?_,λi j a es fs e1 e2 e3=>?_,λ_ z=>nomatch z⟩
 ·have hi:=no i d e2;rw[zD (by simpa using hi),zA] at e2;rw[zD (by omega)] at e1
  cases q:ds[i]? with
  |none=>rw[q] at e2;cases e2
  |some d' =>
   rw[q] at e2;cases e2;obtain⟨v,h3,h4⟩:=h.get e1 q;refine⟨v,?_,?_⟩
   ·unfold start;rw[zD (by simp;omega),zA,h3];rfl
   ·cases m with
    |v=>exact h4
    |s =>
     rcases h4 with h4 | ⟨a,xs,es,z1,z2,z3,z4,z5⟩
     ·exact .inl h4
     ·exact .inr ⟨a,xs,es,z1,z2,z3,z4,(show H a≠none by rw[z3];exact λz=>nomatch z),z5⟩
    |o=>exact absurd rfl (hp .o (zI e1))
 ·have hi:=no i _ e3;rw[zD (by omega)] at e1;exact absurd rfl (hp .o (zI e1))
section
variable {Pr:Program}{w:World}{K:Frag}{mg:Str->Option Value}{base:Heap}
theorem cB{x:Str}{st:Stmt}{N ps:List Str}{k:Nat}(Df:Def K mg x st)(S:bK N ps (aY st))
  (hb:∀(kV doc pm:Value) (an:Option Addr) (cdv ct:Value) (us:List Value),us.length=ps.length->bindArgs (PySem.W.fnOf x x (iz st) (fB st) (aY st) .none kV doc pm an cdv ct) ⟨us,[]⟩=pure (ps.zip us))
  (pm lm:List Md) {R:RR}{b:MS} (hR:gR R) (hR0:∀N H F as,R N H F as .non .non) (hpl:pm.length=ps.length:=by rfl) (hl:(pm++lm).length=N.length:=by rfl) (hp:∀m∈pm,m≠.o:=by decide)
  (body:∀(f:Addr) (cdv:Value) (A:Around) (outer:List Env) (s:Shared) (H:Hp) (E:XK),bD k (A.deeper (envOfC x (aY st) s.heap.objs.size f cdv))->∀P,VSs ((iT CX0 Pr w K mg base N x (aY st) f cdv A outer s H E).nox) (pm++lm) P R (fB st) b):
  Can Pr w K mg base x ps (k+1) (vSp K mg pm R (bF N.length b)):=by
 refine Df.can (k:=k) S hb (λvs H Q E h=>?_) (λf cdv A outer s H vs Q E hr h=>?_)
 ·obtain⟨ds,O,F,as,d,O',r,a,_⟩:=h;rw[a.len.1,hpl]
 ·obtain⟨ds,O,F,as,d,O',r,a,e,q⟩:=h;refine⟨_,body f cdv A outer s H E hr (Pt.all H),?_⟩;refine⟨_,O,F,as,r,Hl a hl hp,?_⟩;unfold bF at e
  cases eb:b (ds.map some++List.replicate (N.length - ds.length) none) O with
  |rt d' O2 =>
   rw[eb] at e;cases e
   exact λv H' F' as' g r' hv=>q v H' F' as' g.gr r' (hR _ _ _ _ _ _ _ (λc hc=>Classical.not_not.mp hc) hv)
  |nx ρ O2 =>
   rw[eb] at e;cases e
   exact λσ' H' F' as' g r' _=>q _ H' F' as' g.gr r' (hR0 _ _ _ _)
  |bk _ _=>rw[eb] at e;cases e
  |ct _ _=>rw[eb] at e;cases e
  |ex _ _=>rw[eb] at e;cases e
  |no=>rw[eb] at e;cases e
end
section
variable {X:Cx}{md:List Md}{P:Pt}{R:RR}{k:Nat}{x:Str}{ps:List Str}{p pos:Pos}{e:Expr}{es:List Expr}{pm:List Md}{c:List D->au->Res D}{ma:M (List D)}
def aJ(c:List D->au->Res D)(ma:M (List D)):M D:=λρ O=>(ma ρ O).bind λds O1=>c ds O1
theorem Va{K:Frag}{mg:Str->Option Value}(hR:gR R){E:XK}{σ:St}{H:Hp}{Q:VK}(q:tM K mg md P R (aJ c ma) σ H Q):wU (vSp K mg pm R c) [] E (tMA K mg md P pm ma) σ H Q:=by
 obtain⟨ρ,O,F,as,d,O',r,s,e,k⟩:=q;obtain⟨ds,O1,e1,e⟩:=Res.bind_ok e;refine⟨ρ,_,F,as,_,_,r,s,e1,λvs H1 F1 as1 g1 r1 hv=>?_⟩;dsimp only;rw[zX];exact⟨ds,O1,F1,as1,d,O',r1,hv,e,λv H' F' as' g' r' hw=>k v H' F' as' (g1.trans g') r' (hR _ _ _ _ _ _ _ (λa ha=>g1.dm a ha) hw)⟩
theorem Hm(hR:gR R)(C:Can X.prog X.w X.K X.mg X.base x ps k (vSp X.K X.mg pm R c))(hr:bD k X.A)(ha:AE X md P pm (e::es) ma)(hg:Gl X x:=by rfl)(hdb:(x == ("__debug__":Str))=false:=by decide)
  (he:starEach (e::es) X.env=(false,eval e X.env)::starEach es X.env:=by exact dB rfl) (hpl:(backTo pos (starEach es X.env)).any (·.1)=false:=by exact fC rfl):PE X (.Call (.Name x p) (e::es) [] pos) (tM X.K X.mg md P R (aJ c ma)):=
 (T8 C hr ha hg hdb he hpl).imp λ_ _ _ q=>Va hR q
end
section
variable {K:Frag}{mg:Str->Option Value}{H F:Hp}{as:List Addr}{O:au}{Q:VK}{d:D}{p:Addr}{xs:List V}{ds:List D}
theorem cC{v:V}(r:RlO K mg O H F as)(k:∀v' H' F',Gr H F as H' F' as->RlO K mg O H' F' as->Ow K (λa=>H a=none) H' F' as v' d->Q v' H')(hn:jK d=true)(hv:Rp K F as v d):Q v H:=k v H F Gr.refl r (.inl ⟨hn,hv⟩)
theorem RlO.frF(r:RlO K mg O H F as)(hp:H p=none):F p=none:=by
 cases q:F p with
 |none=>rfl
 |some o=>rw[r.fh p o q] at hp;cases hp
theorem qY(r:RlO K mg O H F as)(k:∀v' H' F',Gr H F as H' F' as->RlO K mg O H' F' as->Ow K (λa=>H a=none) H' F' as v' (.lst ds)->Q v' H')(hp:H p=none)(hs:Rps K F as xs ds):Q (.ref p) (upd H p (.lst xs)):=
 k _ _ F (Gr.lay hp) (r.lay hp) (.inr ⟨p,xs,ds,rfl,rfl,cA,r.frF hp,λz=>r.all z hp,hp,hs⟩)
theorem Hn(r:RlO K mg O H F as)(k:∀v' H' F',Gr H F as H' F' as->RlO K mg O H' F' as->Ow K (λa=>H a=none) H' F' as v' (.tup ds)->Q v' H')(hp:H p=none)(hs:Rps K F as xs ds):Q (.ref p) (upd H p (.tup xs)):=by
 have hF:=r.frF hp
 have ff:Same F (upd F p (.tup xs)):=λb u q=>by rw[aP (cT q hF)];exact q
 exact k _ _ (upd F p (.tup xs)) ((Gr.lay hp).frz hp hF) ((r.lay hp).frz cA hF (λz=>r.all z hp) rfl) (.inl ⟨rfl,Rp.mkT (.inl cA) (Rps.mono ff (λ_ _ z=>z) _ hs)⟩)
end
section
variable {X:Cx}
def Vb(K:Frag):R2:=λx y H Q=>∃l b xs zs,x=.ref l/\y=.ref b/\RdK K H l xs/\RdK K H b zs/\xs.length+zs.length<=sizeLine/\∀p,H p=none->Q (.ref p) (upd H p (.lst (xs++zs)))
theorem Vc:OpR X (binaryOp .Add) (Vb X.K):=by
 intro pins s σ H x y v u Q I rx ry h;obtain⟨l,b,xs,zs,rfl,rfl,hH,hB,hz,q⟩:=h;cases rx;cases ry;obtain⟨z,its,n,r,e⟩:=hH.ok I;obtain⟨z2,its2,n2,r2,e2⟩:=hB.ok I;have hl:=r.length;have hl2:=r2.length;refine PySem.P.add_list e e2 ?_ (by rw[zr,zr];omega)
 have ea:its.toArray++its2.toArray=(its++its2).toArray:=by simp
 rw[ea];exact⟨.ref _,_,I.lnew (t':=s.toks) (r.append r2) (by rw[zF];omega),rfl,q _ I.fresh⟩
def Vd(K:Frag):R2:=λx y H Q=>∃l k xs,x=.ref l/\y=.int k/\RdK K H l xs/\-(2 ^ 63)<=k/\k<2 ^ 63/\xs.length * k.toNat<=sizeLine /\
 ∀p,H p=none->Q (.ref p) (upd H p (.lst (List.replicate k.toNat xs).flatten))
theorem Ve:OpR X (binaryOp .Mult) (Vd X.K):=by
 intro pins s σ H x y v u Q I rx ry h;obtain⟨l,k,xs,rfl,rfl,hH,h1,h2,hz,q⟩:=h;cases rx;obtain⟨t,rfl⟩:=ry;obtain⟨z,its,n,r,e⟩:=hH.ok I;have hl:=r.length
 have hlen:its.toArray.size * k.toNat<=sizeLine:=by rw[zr,<-hl];exact hz
 have hcap:¬its.toArray.size * k.toNat>(2 ^ 63 - 1) / 8:=by
  have:(sizeLine:Nat)<=(2 ^ 63 - 1) / 8:=by decide
  omega
 have hfit:¬(!Builtin.List.listFitsIndex k)=true:=by
  rw[fitsIndex_both h1 h2];exact zj
 have hlong:¬Builtin.List.listTooLong (its.toArray.size * k.toNat)=true:=by
  rw[wY hlen];exact zj
 have hnew:List.foldl (λx1 x2=>x1++x2) #[] (List.replicate (if its.toArray.isEmpty=true then 0 else k.toNat) its.toArray)=(List.replicate k.toNat its).flatten.toArray:=by
  have f0:∀m:Nat,List.foldl (λx1 x2=>x1++x2) #[] (List.replicate m its.toArray)=(List.replicate m its).flatten.toArray:=λm=>by
   have:=foldl_rep its m []
   rw[zK] at this;exact this
  rw[f0]
  cases its with
  |nil=>simp
  |cons a r'=>rw[if_neg (by simp)]
 refine wpAny_binaryOp_repeat_ref (T:="list") (U:="int") (by decide) ⟨_,e,rfl⟩ (λs'=>typeIs_int s' k t) noFill_list_mul F.fills_int_mul F.slot_int_rmul repeat_list F.slot_int_index.lookup
  (call_meets F.slot_int_rmul (typeIs_int s k t) F.entry_int_rmul (F.args_int_rmul_2 _ _) (int___rmul___int_list k t l its.toArray n)
   ⟨e,rfl,⟨_,e,rfl⟩,call_meets F.slot_list_mul ⟨_,e,rfl⟩ F.entry_list_mul (F.args_list_mul_2 _ _) (AutoListH.list___mul___list_int_3 l its.toArray n k t hfit hcap hlong) ⟨e,?_⟩⟩)
 rw[hnew];exact⟨.ref _,_,I.lnew (t':=s.toks) (r.rep k.toNat) (by rw[len_rep,Nat.mul_comm];exact hz),rfl,q _ I.fresh⟩
def bf:D->D->Option D
 | .int i,.int j=>some (.int (i+j))
 | .int i,.bl k=>some (.int (i+b2i k))
 | .str a,.str b=>if a.length+b.length<=1000000 then some (.str (a++b)) else none
 | .lst a,.lst b=>if a.length+b.length<=1000000 then some (.lst (a++b)) else none
 | .tup a,.tup b=>if a.length+b.length<=1000000/\a≠[] then some (.tup (a++b)) else none
 | _,_=>none
instance (a:List D):Decidable (a≠[]):=match a with
 | []=>isFalse λh=>h rfl
 | _::_=>isTrue λh=>nomatch h
theorem cP:OpD X (binaryOp .Add) bf:=by
 intro pins s σ H x y v u Q I rx ry h;obtain⟨O,F,as,dx,dy,d,r,hx,hy,e,k⟩:=h
 cases dx with
 |int i =>
  cases(hx.rp rfl).unI
  cases dy with
  |int j =>
   cases(hy.rp rfl).unI;cases e;exact QH pins s σ H _ _ v u Q I rx ry ⟨i,j,rfl,rfl,cC r k rfl Rp.int⟩
  |bl j =>
   cases(hy.rp rfl).unB;cases e;exact QS pins s σ H _ _ v u Q I rx ry ⟨i,j,rfl,rfl,cC r k rfl Rp.int⟩
  | _=>cases e
 |str a =>
  cases(hx.rp rfl).unS
  cases dy with
  |str b =>
   cases(hy.rp rfl).unS;simp only[bf] at e;split at e
   ·rename_i hz;cases e;refine Q9 pins s σ H _ _ v u Q I rx ry ⟨S a,S b,rfl,rfl,by rw[fL,fL];exact iW hz,?_⟩;rw[Uc];exact cC r k rfl Rp.str
   ·cases e
  | _=>cases e
 |lst a =>
  obtain⟨p,xs,rfl,h1,h2⟩:=hx.list r.fh
  cases dy with
  |lst b =>
   obtain⟨p',ys,rfl,h3,h4⟩:=hy.list r.fh;simp only[bf] at e;split at e
   ·rename_i hz;cases e;exact Vc pins s σ H _ _ v u Q I rx ry ⟨p,p',xs,ys,rfl,rfl,h1,h3,by rw[h2.length,h4.length];exact iW hz,λq hq=>qY r k hq (Rps.append h4 h2)⟩
   ·cases e
  | _=>cases e
 |tup a =>
  obtain⟨p,xs,rfl,h1,h2⟩:=(hx.rp rfl).unT
  cases dy with
  |tup b =>
   obtain⟨p',ys,rfl,h3,h4⟩:=(hy.rp rfl).unT;simp only[bf] at e;split at e
   ·rename_i hz;cases e
    have hxs:xs≠[]:=λz=>hz.2 (List.eq_nil_of_length_eq_zero (by rw[<-h2.length,z];rfl))
    refine R5 pins s σ H _ _ v u Q I rx ry ⟨p,p',xs,ys,rfl,rfl,Same.seqT r.fh h1,Same.seqT r.fh h3,hxs,by rw[h2.length,h4.length];exact iW hz.1,λz=>?_,λ_ q hq=>Hn r k hq (Rps.append h4 h2)⟩;have hb:b=[]:=List.eq_nil_of_length_eq_zero (by rw[<-h4.length,z];rfl);subst hb;rw[zX] at k;exact cC r k rfl (hx.rp rfl)
   ·cases e
  | _=>cases e
 | _=>cases e
def gI(C:Int->Int->Bool)(f:Int->Int->Int):D->D->Option D
 | .int i,.int j=>if C i j=true then some (.int (f i j)) else none
 | _,_=>none
theorem xD{f:Value->Value->Sem Value}{Cp:Int->Int->Prop}{g:Int->Int->Int}{C:Int->Int->Bool}(h:OpR X f (rI Cp λi j=>.int (g i j)))(hc:∀i j,C i j=true->Cp i j):OpD X f (gI C g):=by
 intro pins s σ H x y v u Q I rx ry h';obtain⟨O,F,as,dx,dy,d,r,hx,hy,e,k⟩:=h'
 cases dx with
 |int i =>
  cases(hx.rp rfl).unI
  cases dy with
  |int j =>
   cases(hy.rp rfl).unI;simp only[gI] at e;split at e
   ·rename_i hC;cases e;exact h pins s σ H _ _ v u Q I rx ry ⟨i,j,rfl,rfl,hc i j hC,cC r k rfl Rp.int⟩
   ·cases e
  | _=>cases e
 | _=>cases e
def eV:D->D->Option D:=gI (λ_ _=>true) λi j=>i - j
theorem kI:OpD X (binaryOp .Sub) eV:=by
 intro pins s σ H x y v u Q I rx ry h';obtain⟨O,F,as,dx,dy,d,r,hx,hy,e,k⟩:=h'
 cases dx with
 |int i =>
  cases(hx.rp rfl).unI
  cases dy with
  |int j =>
   cases(hy.rp rfl).unI;cases e;exact QJ pins s σ H _ _ v u Q I rx ry ⟨i,j,rfl,rfl,cC r k rfl Rp.int⟩
  | _=>cases e
 | _=>cases e
def lR(i:Int):Bool:=decide (-(2 ^ 64)<i)&&decide (i<2 ^ 64)
theorem xE{i:Int}(h:lR i=true):-(2 ^ 64)<i/\i<2 ^ 64:=by
 unfold lR at h;rw[zp,decide_eq_true_eq,decide_eq_true_eq] at h;exact h
def cW:D->D->Option D
 | .int i,.int j=>if(lR i || lR j)=true then some (.int (i * j)) else none
 | .str l,.int n=>if -1000000<n/\n<1000000/\l.length * n.toNat<=16777216 then some (.str (List.replicate n.toNat l).flatten) else none
 | .lst l,.int n=>if -1000000<n/\n<1000000/\l.length * n.toNat<=1000000 then some (.lst (List.replicate n.toNat l).flatten) else none
 | _,_=>none
theorem iC:OpD X (binaryOp .Mult) cW:=by
 intro pins s σ H x y v u Q I rx ry h;obtain⟨O,F,as,dx,dy,d,r,hx,hy,e,k⟩:=h
 cases dx with
 |int i =>
  cases(hx.rp rfl).unI
  cases dy with
  |int j =>
   cases(hy.rp rfl).unI;simp only[cW] at e;split at e
   ·rename_i hz;cases e;refine QK pins s σ H _ _ v u Q I rx ry ⟨i,j,rfl,rfl,?_,cC r k rfl Rp.int⟩;rw[Bool.or_eq_true] at hz
    rcases hz with z | z
    ·exact .inl (xE z)
    ·exact .inr (xE z)
   ·cases e
  | _=>cases e
 |str l =>
  cases(hx.rp rfl).unS
  cases dy with
  |int n =>
   cases(hy.rp rfl).unI;simp only[cW] at e;split at e
   ·rename_i hz;cases e;exact Ux pins s σ H _ _ v u Q I rx ry ⟨l,n,rfl,rfl,hz.1,hz.2.1,hz.2.2,cC r k rfl Rp.str⟩
   ·cases e
  | _=>cases e
 |lst l =>
  obtain⟨p,xs,rfl,h1,h2⟩:=hx.list r.fh
  cases dy with
  |int n =>
   cases(hy.rp rfl).unI;simp only[cW] at e;split at e
   ·rename_i hz;cases e;exact Ve pins s σ H _ _ v u Q I rx ry ⟨p,n,xs,rfl,rfl,h1,by omega,by omega,by rw[h2.length];exact iW hz.2.2,λq hq=>qY r k hq (h2.rep _)⟩
   ·cases e
  | _=>cases e
 | _=>cases e
def bU:D->D->Option D:=gI (λ_ j=>decide (0<j)) λi j=>i % j
theorem dX:OpD X (binaryOp .Mod) bU:=xD QM λ_ _ h=>jj h
def gD:D->D->Option D:=gI (λ_ j=>decide (0<j)&&decide (j<1073741824)) λi j=>i / j
theorem qZ:OpD X (binaryOp .FloorDiv) gD:=xD QL λi j h=>by
 rw[zp,decide_eq_true_eq,decide_eq_true_eq] at h;exact h
def eX:D->D->Option D:=gI (λi j=>decide (0<=j)&&(decide (j<=1000000)&&lR i)) λi j=>i ^ j.toNat
theorem nM:OpD X (binaryOp .Pow) eX:=xD QQ λi j h=>by
 rw[zp,zp,decide_eq_true_eq,decide_eq_true_eq] at h
 have:=xE h.2.2
 exact⟨h.1,h.2.1,by omega⟩
def mUn(g:D->Option D)(m:M D):M D:=λρ O=>(m ρ O).bind λd O1=>match g (bx O1 d) with
 |some y=>.ok y O1
 |none=>.no
def pD:D->Option D
 | .int i=>some (.int (-i))
 | _=>none
theorem xF{md:List Md}{P:Pt}{a:Expr}{pos:Pos}{m:M D}(h:SE X md P a m):OE X md P (.UnaryOp .USub a pos) (mUn pD m):=(QD QR h).imp λσ H Q q=>by
 obtain⟨ρ,O,F,as,d,O',r,s,e,k⟩:=q;obtain⟨x,O1,e1,e⟩:=Res.bind_ok e;refine⟨ρ,_,F,as,_,_,r,s,e1,λv H1 F1 as1 g1 r1 hv=>?_⟩
 cases ed:bx O1 x with
 |int i =>
  rw[ed] at e;cases e
  have:=Sv.lk hv r1
  rw[ed] at this;exact⟨i,(this.rp rfl).unI,k _ H1 F1 as1 g1 r1 (.inl ⟨rfl,Rp.int⟩)⟩
 | _=>rw[ed] at e;cases e
def gCI(f:Int->Int->Bool):D->D->Option D
 | .int i,.int j=>some (.bl (f i j))
 | _,_=>none
theorem Ho{f:Value->Value->Sem Value}{g:Int->Int->Bool}(h:OpR X f (rI0 λi j=>.bl (g i j))):OpD X f (gCI g):=by
 intro pins s σ H x y v u Q I rx ry h';obtain⟨O,F,as,dx,dy,d,r,hx,hy,e,k⟩:=h'
 cases dx with
 |int i =>
  cases(hx.rp rfl).unI
  cases dy with
  |int j =>
   cases(hy.rp rfl).unI;cases e;exact h pins s σ H _ _ v u Q I rx ry ⟨i,j,rfl,rfl,cC r k rfl Rp.bl⟩
  | _=>cases e
 | _=>cases e
def gLt:D->D->Option D:=gCI λi j=>decide (i<j)
def gGt:D->D->Option D:=gCI λi j=>decide (j<i)
def gGe:D->D->Option D:=gCI λi j=>decide (j<=i)
def gLe:D->D->Option D
 | .int i,.int j=>some (.bl (decide (i<=j)))
 | .str a,.str b=>some (.bl (!decide (b<a)))
 | _,_=>none
theorem pF:OpD X (compareOp .LtE) gLe:=by
 intro pins s σ H x y v u Q I rx ry h';obtain⟨O,F,as,dx,dy,d,r,hx,hy,e,k⟩:=h'
 cases dx with
 |int i =>
  cases(hx.rp rfl).unI
  cases dy with
  |int j =>
   cases(hy.rp rfl).unI;cases e;exact QV pins s σ H _ _ v u Q I rx ry ⟨i,j,rfl,rfl,cC r k rfl Rp.bl⟩
  | _=>cases e
 |str a =>
  cases(hx.rp rfl).unS
  cases dy with
  |str b =>
   cases(hy.rp rfl).unS;cases e;refine Ue pins s σ H _ _ v u Q I rx ry ⟨S a,S b,rfl,rfl,?_⟩;rw[lL,lL];exact cC r k rfl Rp.bl
  | _=>cases e
 | _=>cases e
theorem nO:OpD X (compareOp .Lt) gLt:=Ho QT
theorem jQ:OpD X (compareOp .Gt) gGt:=Ho QW
mutual
def toP:D->PyData
 | .non=>.none
 | .bl b=>.bool b
 | .int i=>.int i
 | .str l=>.str (S l)
 | .lst ds=>.list (jR ds)
 | .tup ds=>.tuple (jR ds)
 | .dic _ _=>.none
 | .ob _=>.none
def jR:List D->List PyData
 | []=>[]
 |d::ds=>toP d::jR ds
end
mutual
def gY:D->Bool
 | .lst ds=>nP ds
 | .tup ds=>nP ds
 | .dic _ _=>false
 | .ob _=>false
 | _=>true
def nP:List D->Bool
 | []=>true
 |d::ds=>gY d&&nP ds
end
section
variable {K:Frag}{F:Hp}{as:List Addr}
mutual
theorem Rp.rep:∀(d:D) {v:V},gY d=true->Rp K F as v d->Rep K F v (toP d)
 | .non,v,_,h=>by rw[toP,Rep];exact h.unN
 | .bl b,v,_,h=>by rw[toP,Rep];exact h.unB
 | .int i,v,_,h=>by rw[toP,Rep];exact h.unI
 | .str x,v,_,h=>by rw[toP,Rep];exact h.unS
 | .lst ds,v,hp,h=>by
  obtain⟨a,xs,h1,h2,h3⟩:=h.unL;rw[toP,Rep];rw[gY] at hp;exact⟨a,xs,h1,h2.sq,Rps.rep' ds hp h3⟩
 | .tup ds,v,hp,h=>by
  obtain⟨a,xs,h1,h2,h3⟩:=h.unT;rw[toP,Rep];rw[gY] at hp;exact⟨a,xs,h1,h2,Rps.rep' ds hp h3⟩
 | .dic _ _,v,hp,h=>by rw[gY] at hp;cases hp
 | .ob _,v,hp,h=>by rw[gY] at hp;cases hp
theorem Rps.rep':∀(ds:List D) {xs:List V},nP ds=true->Rps K F as xs ds->bc K F xs (jR ds)
 | [],xs,_,h=>by rw[h.un0,jR];exact bc.nil
 |d::ds,xs,hp,h=>by
  obtain⟨x,r,rfl,h2,h3⟩:=h.un;rw[nP,zp] at hp;rw[jR];exact bc.cons (Rp.rep d hp.1 h2) (Rps.rep' ds hp.2 h3)
end
theorem Lk.rep{H:Hp}{d:D}{v:V}(h:Lk K H F as v d)(fh:Same F H)(hp:gY d=true):Rep K H v (toP d):=by
 rcases h with h | ⟨a,xs,ds,rfl,rfl,h1,h2⟩
 ·exact Rep.mono fh _ (Rp.rep d hp h)
 ·rw[gY] at hp;rw[toP,Rep];exact⟨a,xs,rfl,.inl (.inl h1),bc.mono fh _ (Rps.rep' ds hp h2)⟩
end
def okE(d:D):Bool:=gY d&&okD (toP d)
def fP(a b:D):Bool:=PyData.eqv (toP a) (toP b)
def gEq:D->D->Option D
 | .int i,.int j=>some (.bl (decide (i=j)))
 | .str a,.str b=>some (.bl (decide (a=b)))
 | .bl a,.bl b=>some (.bl (decide (a=b)))
 |a,b=>if(okE a&&okE b)=true then some (.bl (fP a b)) else none
def gNe:D->D->Option D
 | .int i,.int j=>some (.bl (!decide (i=j)))
 | .str a,.str b=>some (.bl (!decide (a=b)))
 | .bl a,.bl b=>some (.bl (!decide (a=b)))
 |a,b=>if(okE a&&okE b)=true then some (.bl (!fP a b)) else none
theorem Hq(a b:List Nat):decide (V.str (S a)=V.str (S b))=decide (a=b):=by
 by_cases h:a=b
 ·subst h;simp
 ·rw[zg h,zg];intro z;exact h (Ud (V.str.inj z))
theorem Hr(a b:Int):decide (V.int a=V.int b)=decide (a=b):=by
 by_cases h:a=b
 ·subst h;simp
 ·rw[zg h,zg];intro z;exact h (V.int.inj z)
theorem Hs(a b:Bool):decide (V.bl a=V.bl b)=decide (a=b):=by
 cases a<;>cases b<;>rfl
theorem Vf{a b d:D}(h:gEq a b=some d):(∃i j,a=.int i/\b=.int j/\d=.bl (decide (i=j)))\/(∃i j,a=.str i/\b=.str j/\d=.bl (decide (i=j)))\/(∃i j,a=.bl i/\b=.bl j/\d=.bl (decide (i=j))) \/
  (okE a=true/\okE b=true/\d=.bl (fP a b)):=by
 unfold gEq at h;split at h
 ·cases h;exact .inl ⟨_,_,rfl,rfl,rfl⟩
 ·cases h;exact .inr (.inl ⟨_,_,rfl,rfl,rfl⟩)
 ·cases h;exact .inr (.inr (.inl ⟨_,_,rfl,rfl,rfl⟩))
 ·split at h
  ·rename_i hk;rw[zp] at hk;cases h;exact .inr (.inr (.inr ⟨hk.1,hk.2,rfl⟩))
  ·cases h
theorem Vg{a b d:D}(h:gNe a b=some d):(∃i j,a=.int i/\b=.int j/\d=.bl (!decide (i=j)))\/(∃i j,a=.str i/\b=.str j/\d=.bl (!decide (i=j)))\/(∃i j,a=.bl i/\b=.bl j/\d=.bl (!decide (i=j))) \/
  (okE a=true/\okE b=true/\d=.bl (!fP a b)):=by
 unfold gNe at h;split at h
 ·cases h;exact .inl ⟨_,_,rfl,rfl,rfl⟩
 ·cases h;exact .inr (.inl ⟨_,_,rfl,rfl,rfl⟩)
 ·cases h;exact .inr (.inr (.inl ⟨_,_,rfl,rfl,rfl⟩))
 ·split at h
  ·rename_i hk;rw[zp] at hk;cases h;exact .inr (.inr (.inr ⟨hk.1,hk.2,rfl⟩))
  ·cases h
theorem dw{k:Nat}(hr:bD k X.A):OpD X (compareOp .Eq) gEq:=by
 intro pins s σ H x y v u Q I rx ry h';obtain⟨O,F,as,dx,dy,d,r,hx,hy,e,k⟩:=h'
 rcases Vf e with⟨i,j,rfl,rfl,rfl⟩ | ⟨i,j,rfl,rfl,rfl⟩ | ⟨i,j,rfl,rfl,rfl⟩ | ⟨h1,h2,rfl⟩
 ·cases(hx.rp rfl).unI;cases(hy.rp rfl).unI;refine wM pins s σ H _ _ v u Q I rx ry ⟨rfl,?_⟩;rw[Hr];exact cC r k rfl Rp.bl
 ·cases(hx.rp rfl).unS;cases(hy.rp rfl).unS;refine wM pins s σ H _ _ v u Q I rx ry ⟨rfl,?_⟩;rw[Hq];exact cC r k rfl Rp.bl
 ·cases(hx.rp rfl).unB;cases(hy.rp rfl).unB;refine wM pins s σ H _ _ v u Q I rx ry ⟨rfl,?_⟩;rw[Hs];exact cC r k rfl Rp.bl
 ·unfold okE at h1 h2;rw[zp] at h1 h2;exact T9 hr pins s σ H _ _ v u Q I rx ry ⟨toP dx,toP dy,hx.rep r.fh h1.1,hy.rep r.fh h2.1,h1.2,h2.2,cC r k rfl Rp.bl⟩
theorem lU{k:Nat}(hr:bD k X.A):OpD X (compareOp .NotEq) gNe:=by
 intro pins s σ H x y v u Q I rx ry h';obtain⟨O,F,as,dx,dy,d,r,hx,hy,e,k⟩:=h'
 rcases Vg e with⟨i,j,rfl,rfl,rfl⟩ | ⟨i,j,rfl,rfl,rfl⟩ | ⟨i,j,rfl,rfl,rfl⟩ | ⟨h1,h2,rfl⟩
 ·cases(hx.rp rfl).unI;cases(hy.rp rfl).unI;refine wN pins s σ H _ _ v u Q I rx ry ⟨rfl,?_⟩;rw[Hr];exact cC r k rfl Rp.bl
 ·cases(hx.rp rfl).unS;cases(hy.rp rfl).unS;refine wN pins s σ H _ _ v u Q I rx ry ⟨rfl,?_⟩;rw[Hq];exact cC r k rfl Rp.bl
 ·cases(hx.rp rfl).unB;cases(hy.rp rfl).unB;refine wN pins s σ H _ _ v u Q I rx ry ⟨rfl,?_⟩;rw[Hs];exact cC r k rfl Rp.bl
 ·unfold okE at h1 h2;rw[zp] at h1 h2;exact Ua hr pins s σ H _ _ v u Q I rx ry ⟨toP dx,toP dy,hx.rep r.fh h1.1,hy.rep r.fh h2.1,h1.2,h2.2,cC r k rfl Rp.bl⟩
def toV:D->V
 | .bl b=>.bl b
 | .int i=>.int i
 | .str l=>.str (S l)
 | _=>.non
def iD:D->Bool
 | .non=>true
 | .bl _=>true
 | .int _=>true
 | .str _=>true
 | _=>false
def eqF(x y:D):Bool:=eqV (toV x) (toV y)
theorem Rp.flat{K:Frag}{F:Hp}{as:List Addr}{v:V}{d:D}(h:Rp K F as v d)(hf:iD d=true):v=toV d/\jH v=true:=by
 cases d with
 |non=>rw[h.unN];exact⟨rfl,rfl⟩
 |bl b=>rw[h.unB];exact⟨rfl,rfl⟩
 |int b=>rw[h.unI];exact⟨rfl,rfl⟩
 |str b=>rw[h.unS];exact⟨rfl,rfl⟩
 | _=>cases hf
theorem Rps.flat{K:Frag}{F:Hp}{as:List Addr}:∀{ds:List D}{xs:List V},Rps K F as xs ds->ds.all iD=true->xs=ds.map toV/\xs.all jH=true
 | [],xs,h,_=>by rw[h.un0];exact⟨rfl,rfl⟩
 |d::ds,xs,h,hf=>by
  obtain⟨x,r,rfl,h2,h3⟩:=h.un;rw[List.all_cons,zp] at hf;obtain⟨e1,e2⟩:=h2.flat hf.1;obtain⟨e3,e4⟩:=Rps.flat h3 hf.2;exact⟨by rw[zd,<-e1,<-e3],by rw[List.all_cons,e2,e4];rfl⟩
def gIn(neg:Bool):D->D->Option D
 | .str [c],.str l=>some (.bl (neg ^^ decide (c∈l)))
 |x,.lst ds=>if(iD x&&ds.all iD)=true then some (.bl (neg ^^ ds.any λy=>eqF y x)) else none
 |x,.tup ds=>if(iD x&&ds.all iD)=true then some (.bl (neg ^^ ds.any λy=>eqF y x)) else none
 | _,_=>none
theorem Ht{neg:Bool}{a b d:D}(h:gIn neg a b=some d):(∃c l,a=.str [c]/\b=.str l/\d=.bl (neg ^^ decide (c∈l)))\/(∃ds,(b=.lst ds\/b=.tup ds)/\iD a=true/\ds.all iD=true/\d=.bl (neg ^^ ds.any λy=>eqF y a)):=by
 unfold gIn at h;split at h
 ·cases h;exact .inl ⟨_,_,rfl,rfl,rfl⟩
 ·split at h
  ·rename_i hk;rw[zp] at hk;cases h;exact .inr ⟨_,.inl rfl,hk.1,hk.2,rfl⟩
  ·cases h
 ·split at h
  ·rename_i hk;rw[zp] at hk;cases h;exact .inr ⟨_,.inr rfl,hk.1,hk.2,rfl⟩
  ·cases h
 ·cases h
theorem Hu{x:D}{ds:List D}:inV (toV x) (ds.map toV)=ds.any λy=>eqF y x:=by
 unfold inV;rw[List.any_map];rfl
theorem Hv{K:Frag}{mg:Str->Option Value}{H F:Hp}{as:List Addr}{O:au}{v:V}{b:D}{ds:List D}(r:RlO K mg O H F as)(hy:Lk K H F as v b)(hb:b=.lst ds\/b=.tup ds):∃p xs,v=.ref p/\(SqL K H p xs\/SqT K H p xs)/\Rps K F as xs ds:=by
 rcases hb with rfl | rfl
 ·obtain⟨p,xs,e,h1,h2⟩:=hy.list r.fh;exact⟨p,xs,e,.inl h1.sq,h2⟩
 ·obtain⟨p,xs,e,h1,h2⟩:=(hy.rp rfl).unT;exact⟨p,xs,e,.inr (Same.seqT r.fh h1),h2⟩
theorem Hw{d:D}(h:iD d=true):jK d=true:=by cases d<;>first | rfl | cases h
theorem uv:OpD X (compareOp .In) (gIn false):=by
 intro pins s σ H x y v u Q I rx ry h';obtain⟨O,F,as,dx,dy,d,r,hx,hy,e,k⟩:=h'
 rcases Ht e with⟨c,l,rfl,rfl,rfl⟩ | ⟨ds,hb,h1,h2,rfl⟩
 ·cases(hx.rp rfl).unS;cases(hy.rp rfl).unS;refine Ug pins s σ H _ _ v u Q I rx ry ⟨c,l,rfl,rfl,?_⟩;rw[Bool.false_xor] at k;exact cC r k rfl Rp.bl
 ·obtain⟨p,xs,rfl,h3,h4⟩:=Hv r hy hb;obtain⟨e1,e2⟩:=(hx.rp (Hw h1)).flat h1;obtain⟨e3,e4⟩:=h4.flat h2;refine Sy pins s σ H _ _ v u Q I rx ry ⟨p,xs,rfl,h3,e2,e4,?_⟩;rw[if_neg zj,e1,e3,Hu];rw[Bool.false_xor] at k;exact cC r k rfl Rp.bl
theorem Vh:OpD X (compareOp .NotIn) (gIn true):=by
 intro pins s σ H x y v u Q I rx ry h';obtain⟨O,F,as,dx,dy,d,r,hx,hy,e,k⟩:=h'
 rcases Ht e with⟨c,l,rfl,rfl,rfl⟩ | ⟨ds,hb,h1,h2,rfl⟩
 ·cases(hx.rp rfl).unS;cases(hy.rp rfl).unS;refine Uh pins s σ H _ _ v u Q I rx ry ⟨c,l,rfl,rfl,?_⟩;rw[Bool.true_xor] at k;exact cC r k rfl Rp.bl
 ·obtain⟨p,xs,rfl,h3,h4⟩:=Hv r hy hb;obtain⟨e1,e2⟩:=(hx.rp (Hw h1)).flat h1;obtain⟨e3,e4⟩:=h4.flat h2;refine SJ pins s σ H _ _ v u Q I rx ry ⟨p,xs,rfl,h3,e2,e4,?_⟩;rw[if_pos rfl,e1,e3,Hu];rw[Bool.true_xor] at k;exact cC r k rfl Rp.bl
def gIx:D->D->Option D
 | .lst ds,.int i=>atI ds i
 | .tup ds,.int i=>atI ds i
 | .str l,.int i=>if l.length<=1000000 then(atI l i).map λc=>.str [c] else none
 | _,_=>none
theorem Rps.atI{K:Frag}{F:Hp}{as:List Addr}{xs:List V}{ds:List D}{i:Int}{d:D}(h:Rps K F as xs ds)(e:atI ds i=some d):∃v,L2.atI xs i=some v/\Rp K F as v d:=by
 unfold L2.atI at e ⊢;rw[h.length]
 cases q:ixN ds.length i with
 |none=>rw[q] at e;cases e
 |some j =>
  rw[q] at e;exact h.get' e
def rDv(K:Frag)(mg:Str->Option Value)(g:D->D->Option D):R2:=λx y H Q=>∃O F as dx dy d,RlO K mg O H F as/\Lk K H F as x dx/\Lk K H F as y dy/\g dx dy=some d/\∀v',Rp K F as v' d->Q v' H
theorem Vi:IxR X (rDv X.K X.mg gIx):=by
 intro value slice pins s σ H x y v u Q I rx ry h' hsb;obtain⟨O,F,as,dx,dy,d,r,hx,hy,e,k⟩:=h'
 cases dx with
 |lst ds =>
  obtain⟨p,xs,rfl,h1,h2⟩:=hx.list r.fh
  cases dy with
  |int i =>
   cases(hy.rp rfl).unI;obtain⟨z,e1,e2⟩:=h2.atI e;exact Sg value slice pins s σ H _ _ v u Q I rx ry ⟨p,xs,i,z,rfl,rfl,h1.sq,e1,k z e2⟩ hsb
  | _=>cases e
 |tup ds =>
  obtain⟨p,xs,rfl,h1,h2⟩:=(hx.rp rfl).unT
  cases dy with
  |int i =>
   cases(hy.rp rfl).unI;obtain⟨z,e1,e2⟩:=h2.atI e;exact Sh value slice pins s σ H _ _ v u Q I rx ry ⟨p,xs,i,z,rfl,rfl,Same.seqT r.fh h1,e1,k z e2⟩ hsb
  | _=>cases e
 |str l =>
  cases(hx.rp rfl).unS
  cases dy with
  |int i =>
   cases(hy.rp rfl).unI;simp only[gIx] at e;split at e
   ·rename_i hz
    cases q:L2.atI l i with
    |none=>rw[q] at e;cases e
    |some c =>
     rw[q] at e;cases e;exact Sq value slice pins s σ H _ _ v u Q I rx ry ⟨S l,i,c,rfl,rfl,by rw[fL];exact iW hz,by rw[lL];exact q,k _ Rp.str⟩ hsb
   ·cases e
  | _=>cases e
 | _=>cases e
theorem bG{md:List Md}{P:Pt}{a b:Expr}{pos:Pos}{ma mb:M D}(ha:SE X md P a ma)(hb:SE X md P b mb)(hs:t7 b:=by intro _ _;rfl):VE X md P (.Subscript a b pos) (ak gIx ma mb):=(R7 Vi ha hb hs).imp λσ H Q h=>by
 obtain⟨ρ,O,F,as,d,O',r,sl,e,k⟩:=h;obtain⟨x,O1,e1,e⟩:=Res.bind_ok e;obtain⟨y,O2,e2,e⟩:=Res.bind_ok e;split at e
 ·rename_i d' hg;cases e;refine⟨ρ,_,F,as,_,_,r,sl,e1,λv H1 F1 as1 g1 r1 hv=>?_⟩;refine⟨ρ,_,F1,as1,_,_,r1,sl.step g1,e2,λu H2 F2 as2 g2 r2 hu=>?_⟩;exact⟨_,F2,as2,_,_,_,r2,Sv.lk (Sv.gr hv g2) r2,Sv.lk hu r2,hg,λv' hw=>k v' H2 F2 as2 (g1.trans g2) r2 hw⟩
 ·cases e
def tMO(K:Frag)(mg:Str->Option Value)(md:List Md)(P:Pt)(m:M (Option Int)):TO:=λσ H Q =>
 ∃ρ O F as b O',RlO K mg O H F as/\SlO K md P ρ σ H F as/\m ρ O=.ok b O'/\∀H' F' as',Gr H F as H' F' as'->RlO K mg O' H' F' as'->Q b H'
def VO(X:Cx)(md:List Md)(P:Pt)(e:Option Expr)(m:M (Option Int)):Prop:=PO X e (tMO X.K X.mg md P m)
theorem PO.imp{e:Option Expr}{t t':TO}(h:PO X e t)(k:∀σ H Q,t' σ H Q->t σ H Q):PO X e t':=λpins s σ H Q I q=>h pins s σ H Q I (k σ H Q q)
def moN:M (Option Int):=λ_ O=>.ok none O
def moS(m:M D):M (Option Int):=λρ O=>(m ρ O).bind λd O1=>match d with
 | .int i=>.ok (some i) O1
 | _=>.no
theorem uw{md:List Md}{P:Pt}{e:Expr}{m:M D}(h:VE X md P e m):VO X md P (some e) (moS m):=(RZ h).imp λσ H Q q=>by
 obtain⟨ρ,O,F,as,d,O',r,s,e,k⟩:=q;obtain⟨x,O1,e1,e⟩:=Res.bind_ok e
 cases x with
 |int i =>
  cases e;exact⟨ρ,_,F,as,_,_,r,s,e1,λv H1 F1 as1 g1 r1 hv=>⟨i,Rp.unI hv,k H1 F1 as1 g1 r1⟩⟩
 | _=>cases e
def gSl(d:D)(lo hi:Option Int):Option D:=match d with
 | .lst ds=>some (.lst (eU ds lo hi))
 | .tup ds=>some (.tup (eU ds lo hi))
 | .str l=>if l.length<=16777216 then some (.str (eU l lo hi)) else none
 | _=>none
def Vj(K:Frag)(mg:Str->Option Value):V->Option Int->Option Int->Hp->VK->Prop:=λx lo hi H Q=>∃O F as dx d,RlO K mg O H F as/\Lk K H F as x dx/\gSl dx lo hi=some d /\
 ∀v' H' F',Gr H F as H' F' as->RlO K mg O H' F' as->Ow K (λa=>H a=none) H' F' as v' d->Q v' H'
theorem Rps.cut{K:Frag}{F:Hp}{as:List Addr}{xs:List V}{ds:List D}(h:Rps K F as xs ds)(lo hi:Option Int):Rps K F as (j8 xs lo hi) (eU ds lo hi):=by
 unfold j8 eU;rw[h.length];exact(h.drop _).take _
theorem Vk:SlR X (Vj X.K X.mg):=by
 intro pins s σ H x v vl vu lo hi sl Q I rx hs pl pu h;obtain⟨O,F,as,dx,d,r,hx,e,k⟩:=h
 cases dx with
 |lst ds =>
  obtain⟨p,xs,rfl,h1,h2⟩:=hx.list r.fh;cases e;exact Sw pins s σ H _ v vl vu lo hi sl Q I rx hs pl pu ⟨p,xs,rfl,h1.sq,λq hq=>qY r k hq (h2.cut lo hi)⟩
 |tup ds =>
  obtain⟨p,xs,rfl,h1,h2⟩:=(hx.rp rfl).unT;cases e;refine Uq X.K rfl pins s σ H _ v vl vu lo hi sl Q I rx hs pl pu ⟨p,xs,rfl,Same.seqT r.fh h1,λz=>?_,λ_ q hq=>Hn r k hq (h2.cut lo hi)⟩
  have:eU ds lo hi=ds:=by
   unfold eU;rw[<-h2.length,z.1,z.2,List.drop_zero,Nat.sub_zero,h2.length,List.take_length]
  rw[this] at k;exact cC r k rfl (hx.rp rfl)
 |str l =>
  cases(hx.rp rfl).unS;simp only[gSl] at e;split at e
  ·rename_i hz;cases e;exact Uo pins s σ H _ v vl vu lo hi sl Q I rx hs pl pu ⟨l,rfl,zH hz (Nat.le_of_eq sizeLine_eq.symm),cC r k rfl Rp.str⟩
  ·cases e
 | _=>cases e
def mSl(m:M D)(lo hi:M (Option Int)):M D:=λρ O=>(m ρ O).bind λd O1=>(lo ρ O1).bind λl O2=>(hi ρ O2).bind λh O3=>match gSl (bx O3 d) l h with
 |some y=>.ok y O3
 |none=>.no
end
section
variable {X:Cx}{md:List Md}{P:Pt}{R:RR}
theorem Hx{e:Expr}{lo hi:Option Expr}{p2 pos:Pos}{m:M D}{ml mh:M (Option Int)}(he:SE X md P e m)(hl:VO X md P lo ml)(hh:VO X md P hi mh):OE X md P (.Subscript e (.Slice lo hi none p2) pos) (mSl m ml mh):=(R0 Vk he hl hh).imp λσ H Q q=>by
 obtain⟨ρ,O,F,as,d,O',r,s,e,k⟩:=q;obtain⟨x,O1,e1,e⟩:=Res.bind_ok e;obtain⟨l,O2,e2,e⟩:=Res.bind_ok e;obtain⟨h,O3,e3,e⟩:=Res.bind_ok e;split at e
 ·rename_i y hg;cases e;refine⟨ρ,_,F,as,_,_,r,s,e1,λv H1 F1 as1 g1 r1 hv=>?_⟩;refine⟨ρ,_,F1,as1,_,_,r1,s.step g1,e2,λH2 F2 as2 g2 r2=>?_⟩;have g12:=g1.trans g2;refine⟨ρ,_,F2,as2,_,_,r2,s.step g12,e3,λH3 F3 as3 g3 r3=>?_⟩;have g13:=g12.trans g3;exact⟨_,F3,as3,_,_,r3,Sv.lk (Sv.gr (Sv.gr hv g2) g3) r3,hg,λv' H' F' g' r' hw=>k v' H' F' as3 (g13.trans g') r' (fG _ _ _ _ _ _ _ (λa ha=>g13.dm a ha) hw)⟩
 ·cases e
def Lks(K:Frag)(H F:Hp)(as:List Addr):List V->List D->Prop
 | [],[]=>True
 |v::vs,d::ds=>Lk K H F as v d/\Lks K H F as vs ds
 | _,_=>False
theorem di.lks{K:Frag}{mg:Str->Option Value}{O:au}{H F:Hp}{as:List Addr}(r:RlO K mg O H F as):∀{ms:List Md}{vs:List V}{ds:List D},di K H F as ms vs ds->Lks K H F as vs (ds.map (bx O))
 | [],[],[],_=>trivial
 |m::ms,v::vs,d::ds,h=>by
  refine⟨?_,di.lks r h.2⟩
  have h1:Sv K H F as v d:=by
   cases m with
   |v=>exact .inl h.1
   |s=>exact h.1
   |o=>exact h.1
  exact h1.lk r
 | [],[],_::_,h=>h.elim
 | [],_::_,[],h=>h.elim
 | [],_::_,_::_,h=>h.elim
 | _::_,[],[],h=>h.elim
 | _::_,[],_::_,h=>h.elim
 | _::_,_::_,[],h=>h.elim
def rC(K:Frag)(mg:Str->Option Value)(g:List D->Option D):List V->Hp->VK->Prop:=λvs H Q=>∃O F as ds d,RlO K mg O H F as/\Lks K H F as vs ds/\g ds=some d /\
 ∀v' H' F',Gr H F as H' F' as->RlO K mg O H' F' as->Ow K (λa=>H a=none) H' F' as v' d->Q v' H'
abbrev jT(X:Cx)(f:Value)(g:List D->Option D):Prop:=gQ X f (rC X.K X.mg g)
def aX(g:List D->Option D)(ma:M (List D)):M D:=λρ O=>(ma ρ O).bind λds O1=>match g (ds.map (bx O1)) with
 |some d=>.ok d O1
 |none=>.no
theorem ux{K:Frag}{mg:Str->Option Value}{g:List D->Option D}{ms:List Md}{ma:M (List D)}{σ:St}{H:Hp}{Q:VK}(q:tM K mg md P (rO K) (aX g ma) σ H Q):tCB (rC K mg g) (tMA K mg md P ms ma) σ H Q:=by
 obtain⟨ρ,O,F,as,d,O',r,s,e,k⟩:=q;obtain⟨ds,O1,e1,e⟩:=Res.bind_ok e;split at e
 ·rename_i y hg;cases e;refine⟨ρ,_,F,as,_,_,r,s,e1,λvs H1 F1 as1 g1 r1 hv=>?_⟩;exact⟨_,F1,as1,_,_,r1,hv.lks r1,hg,λv' H' F' g' r' hw=>k v' H' F' as1 (g1.trans g') r' (fG _ _ _ _ _ _ _ (λa ha=>g1.dm a ha) hw)⟩
 ·cases e
theorem cZ{x:Str}{p pos:Pos}{e:Expr}{es:List Expr}{id:String}{g:List D->Option D}{ms:List Md}{ma:M (List D)}(hc:jT X (.builtin id) g)(hm:X.mg x=none)(ha:AE X md P ms (e::es) ma)(hv:bootBuiltins x=some (.builtin id):=by decide +kernel)(hg:Gl X x:=by rfl)
  (hn:x≠"__name__":=by decide) (hdb:(x == ("__debug__":Str))=false:=by decide) (he:starEach (e::es) X.env=(false,eval e X.env)::starEach es X.env:=by exact dB rfl) (hpl:(backTo pos (starEach es X.env)).any (·.1)=false:=by exact fC rfl):
  OE X md P (.Call (.Name x p) (e::es) [] pos) (aX g ma):=(tZ hc hg hm hv ha hn hdb he hpl).imp λ_ _ _ q=>ux q
theorem nQ{x:Str}{p pos:Pos}{e:Expr}{es:List Expr}{T:String}{g:List D->Option D}{ms:List Md}{ma:M (List D)}(hc:jT X (.type T) g)(hm:X.mg x=none)(ha:AE X md P ms (e::es) ma)(hv:bootBuiltins x=some (.type T):=by decide +kernel)(hg:Gl X x:=by rfl)
  (hn:x≠"__name__":=by decide) (hdb:(x == ("__debug__":Str))=false:=by decide) (he:starEach (e::es) X.env=(false,eval e X.env)::starEach es X.env:=by exact dB rfl) (hpl:(backTo pos (starEach es X.env)).any (·.1)=false:=by exact fC rfl):
  OE X md P (.Call (.Name x p) (e::es) [] pos) (aX g ma):=(RQ hc hg hm hv ha hn hdb he hpl).imp λ_ _ _ q=>ux q
theorem Lks.one{K:Frag}{H F:Hp}{as:List Addr}{vs:List V}{d:D}(h:Lks K H F as vs [d]):∃v,vs=[v]/\Lk K H F as v d:=by
 cases vs with
 |nil=>exact h.elim
 |cons v vs =>
  cases vs with
  |nil=>exact⟨v,rfl,h.1⟩
  |cons u us=>exact h.2.elim
theorem Lks.two{K:Frag}{H F:Hp}{as:List Addr}{vs:List V}{d e:D}(h:Lks K H F as vs [d,e]):∃v u,vs=[v,u]/\Lk K H F as v d/\Lk K H F as u e:=by
 cases vs with
 |nil=>exact h.elim
 |cons v vs =>
  cases vs with
  |nil=>exact h.2.elim
  |cons u us =>
   cases us with
   |nil=>exact⟨v,u,rfl,h.1,h.2.1⟩
   |cons w ws=>exact h.2.2.elim
def bz:List D->Option D
 | [.str l]=>if l.length<=1000000 then some (.int l.length) else none
 | [.lst ds]=>some (.int ds.length)
 | [.tup ds]=>some (.int ds.length)
 | _=>none
theorem dD:jT X (.builtin "len") bz:=by
 intro pins s σ H xs us Q I rs h;obtain⟨O,F,as,ds,d,r,hvs,e,k⟩:=h;unfold bz at e;split at e
 ·rename_i l;obtain⟨v,rfl,hv⟩:=hvs.one;split at e
  ·rename_i hz;cases e;cases(hv.rp rfl).unS;refine call_len pins s σ H _ us Q I rs ⟨_,_,rfl,⟨by rw[fL];exact iW hz,rfl⟩,?_⟩;rw[fL];exact cC r k rfl Rp.int
  ·cases e
 ·rename_i l;obtain⟨v,rfl,hv⟩:=hvs.one;cases e;obtain⟨p,xs,rfl,h1,h2⟩:=hv.list r.fh;refine call_len pins s σ H _ us Q I rs ⟨_,_,rfl,.inl ⟨xs,h1.sq,rfl⟩,?_⟩;rw[h2.length];exact cC r k rfl Rp.int
 ·rename_i l;obtain⟨v,rfl,hv⟩:=hvs.one;cases e;obtain⟨p,xs,rfl,h1,h2⟩:=(hv.rp rfl).unT;refine call_len pins s σ H _ us Q I rs ⟨_,_,rfl,.inr ⟨xs,Same.seqT r.fh h1,rfl⟩,?_⟩;rw[h2.length];exact cC r k rfl Rp.int
 ·cases e
def q9:List D->Option D
 | [.int i,.int j]=>some (.int (if j>i then j else i))
 | _=>none
def rm:List D->Option D
 | [.int i,.int j]=>some (.int (if j<i then j else i))
 | _=>none
theorem Vl(hc:X.calm=true):jT X (.builtin "max") q9:=by
 intro pins s σ H xs us Q I rs h;obtain⟨O,F,as,ds,d,r,hvs,e,k⟩:=h;unfold q9 at e;split at e
 ·obtain⟨v,u,rfl,hv,hu⟩:=hvs.two;cases e;cases(hv.rp rfl).unI;cases(hu.rp rfl).unI;exact Ra hc pins s σ H _ us Q I rs ⟨_,_,rfl,cC r k rfl Rp.int⟩
 ·cases e
theorem Vm(hc:X.calm=true):jT X (.builtin "min") rm:=by
 intro pins s σ H xs us Q I rs h;obtain⟨O,F,as,ds,d,r,hvs,e,k⟩:=h;unfold rm at e;split at e
 ·obtain⟨v,u,rfl,hv,hu⟩:=hvs.two;cases e;cases(hv.rp rfl).unI;cases(hu.rp rfl).unI;exact Rb hc pins s σ H _ us Q I rs ⟨_,_,rfl,cC r k rfl Rp.int⟩
 ·cases e
def jt:List D->Option D
 | [.int i]=>some (.int i)
 | [.bl b]=>some (.int (if b then 1 else 0))
 | _=>none
theorem xG:jT X (.type "int") jt:=by
 intro pins s σ H xs us Q I rs h;obtain⟨O,F,as,ds,d,r,hvs,e,k⟩:=h;unfold jt at e;split at e
 ·obtain⟨v,rfl,hv⟩:=hvs.one;cases e;cases(hv.rp rfl).unI;exact Fy pins s σ H _ us Q I rs (.inl ⟨_,rfl,cC r k rfl Rp.int⟩)
 ·obtain⟨v,rfl,hv⟩:=hvs.one;cases e;cases(hv.rp rfl).unB;exact Fy pins s σ H _ us Q I rs (.inr ⟨_,rfl,cC r k rfl Rp.int⟩)
 ·cases e
def lV:List D->Option D
 | [.lst ds]=>some (.lst ds)
 | [.tup ds]=>some (.lst ds)
 | _=>none
theorem Hy:jT X (.type "list") lV:=by
 intro pins s σ H xs us Q I rs h;obtain⟨O,F,as,ds,d,r,hvs,e,k⟩:=h;unfold lV at e;split at e
 ·obtain⟨v,rfl,hv⟩:=hvs.one;cases e;obtain⟨p,xs,rfl,h1,h2⟩:=hv.list r.fh;exact Gi pins s σ H _ us Q I rs ⟨p,xs,rfl,.inl h1.sq,λl hl=>qY r k hl h2⟩
 ·obtain⟨v,rfl,hv⟩:=hvs.one;cases e;obtain⟨p,xs,rfl,h1,h2⟩:=(hv.rp rfl).unT;exact Gi pins s σ H _ us Q I rs ⟨p,xs,rfl,.inr (Same.seqT r.fh h1),λl hl=>qY r k hl h2⟩
 ·cases e
def gZ:List D->Option (List Int)
 | []=>some []
 | .int b::ds=>(gZ ds).map (b :: ·)
 | _=>none
theorem Rps.ints{K:Frag}{F:Hp}{as:List Addr}:∀{ds:List D}{xs:List V}{bs:List Int},Rps K F as xs ds->gZ ds=some bs->xs=bs.map V.int
 | [],xs,bs,h,e=>by cases e;rw[h.un0];rfl
 |d::ds,xs,bs,h,e=>by
  obtain⟨x,r,rfl,h2,h3⟩:=h.un
  cases d with
  |int b =>
   unfold gZ at e
   cases q:gZ ds with
   |none=>rw[q] at e;cases e
   |some cs =>
    rw[q] at e;cases e;rw[h2.unI,Rps.ints h3 q];rfl
  | _=>cases e
def pG:List D->Option D
 | [.lst ds]=>(gZ ds).bind λns=>if(ns.all (λn=>decide (0<=n)&&decide (n<=1000000))&&decide (ns.length<=1000000))=true then some (.int ns.sum) else none
 | _=>none
theorem Hz(hc:X.calm=true):jT X (.builtin "sum") pG:=by
 intro pins s σ H xs us Q I rs h;obtain⟨O,F,as,ds,d,r,hvs,e,k⟩:=h;unfold pG at e;split at e
 ·rename_i es;obtain⟨v,rfl,hv⟩:=hvs.one;obtain⟨p,xs,rfl,h1,h2⟩:=hv.list r.fh
  cases q:gZ es with
  |none=>rw[q] at e;cases e
  |some ns =>
   rw[q] at e;dsimp only[Option.bind_some] at e;split at e
   ·rename_i hz;rw[zp,decide_eq_true_eq,jo] at hz;cases e;refine Ul hc pins s σ H _ us Q I rs ⟨p,ns,rfl,?_,λn hn=>?_,hz.2,cC r k rfl Rp.int⟩
    ·rw[<-h2.ints q];exact h1.sq
    ·have:=hz.1 n hn
     rw[zp,decide_eq_true_eq,decide_eq_true_eq] at this;exact this
   ·cases e
 ·cases e
theorem dF:bootBuiltins "len" = some (.builtin "len"):=by decide +kernel
theorem Vn:bootBuiltins "max" = some (.builtin "max"):=by decide +kernel
theorem Vo:bootBuiltins "min" = some (.builtin "min"):=by decide +kernel
theorem HB:bootBuiltins "sum" = some (.builtin "sum"):=by decide +kernel
theorem lW:bootBuiltins "int" = some (.type "int"):=by decide +kernel
theorem uy:bootBuiltins "str" = some (.type "str"):=by decide +kernel
theorem rn:bootBuiltins "bool" = some (.type "bool"):=by decide +kernel
theorem rz:bootBuiltins "list" = some (.type "list"):=by decide +kernel
theorem HD:bootBuiltins "tuple" = some (.type "tuple"):=by decide +kernel
def tyD:D->Option String
 | .non=>some "NoneType"
 | .bl _=>some "bool"
 | .int _=>some "int"
 | .str _=>some "str"
 | .lst _=>some "list"
 | .tup _=>some "tuple"
 | .dic _ _=>some "dict"
 | .ob _=>none
def cD(t n:String):Bool:=t == n || (t == "bool" && n == "int")
def cQ(n:String)(m:M D):M D:=λρ O=>(m ρ O).bind λd O1=>match tyD (bx O1 d) with
 |some t=>.ok (.bl (cD t n)) O1
 |none=>.no
def xH:List String:=["str","int","bool","list","tuple","dict"]
theorem Vp(K:Frag):∀d t,tyD d=some t->∀n∈xH,PySem.W.kitOne K (.type t) (.type n)=some (cD t n):=by
 intro d t e n hn;simp only[xH,zn,List.not_mem_nil,or_false] at hn
 cases d<;>cases e<;>rcases hn with rfl | rfl | rfl | rfl | rfl | rfl<;>first | exact GJ K _ | kernel_rfl
theorem Lk.ty{K:Frag}{H F:Hp}{as:List Addr}{v:V}{d:D}{t:String}(h:Lk K H F as v d)(fh:Same F H)(e:tyD d=some t):TyQ K H v t:=by
 cases d with
 |non=>cases e;rw[(h.rp rfl).unN];exact .non
 |bl b=>cases e;rw[(h.rp rfl).unB];exact .bl _
 |int b=>cases e;rw[(h.rp rfl).unI];exact .int _
 |str b=>cases e;rw[(h.rp rfl).unS];exact .str _
 |lst ds=>cases e;obtain⟨p,xs,rfl,h1,h2⟩:=h.list fh;exact .lst h1.sq
 |tup ds=>cases e;obtain⟨p,xs,rfl,h1,h2⟩:=(h.rp rfl).unT;exact .tup (Same.seqT fh h1)
 |dic ks vs=>cases e;obtain⟨p,xs,rfl,h1,h2⟩:=(h.rp rfl).unD;exact .dK (fh _ _ h1)
 |ob n=>cases e
theorem fQ(n:String){T:Str}{a:Expr}{p p' pos:Pos}{m:M D}(hm:X.mg "isinstance" = none)(hT:X.mg T=none)(h:SE X md P a m)(hb:bootBuiltins T=some (.type n):=by decide +kernel)(hn:n∈xH:=by decide)(hg:Gl X "isinstance":=by rfl)(hgT:Gl X T:=by rfl)
  (hTn:T≠"__name__":=by decide) (hTd:(T == ("__debug__":Str))=false:=by decide)
  (hs1:starEach [a,.Name T p'] X.env=(false,eval a X.env)::starEach [.Name T p'] X.env:=by exact dB rfl) (hs2:starEach [.Name T p'] X.env=(false,eval (.Name T p') X.env)::starEach [] X.env:=by rfl) (hpl:(backTo pos (starEach [.Name T p'] X.env)).any (·.1)=false:=by exact fC rfl):
  OE X md P (.Call (.Name "isinstance" p) [a,.Name T p'] [] pos) (cQ n m):=
 (tZ (Us X.K) hg hm (by decide +kernel) (j7 h (j7 (Ew (v:=.ty n) hgT hT hb rfl hTn hTd) mZ hs2) hs1) (by decide) (by decide) hs1 hpl).imp λσ H Q q=>by
  obtain⟨ρ,O,F,as,d,O',r,s,e,k⟩:=q;obtain⟨x,O1,e1,e⟩:=Res.bind_ok e;split at e
  ·rename_i t ht;cases e;refine⟨ρ,_,F,as,_,_,r,s,e1,λv H1 F1 as1 g1 r1 hv=>?_⟩;exact⟨v,n,t,_,rfl,Lk.ty (Sv.lk hv r1) r1.fh ht,Vp _ _ t ht n hn,k _ H1 F1 as1 g1 r1 (.inl ⟨rfl,Rp.bl⟩)⟩
  ·cases e
def uz(m:M D):M (List D):=λρ O=>(m ρ O).bind λd O1=>match d with
 | .lst ds=>.ok ds O1
 | _=>.no
def xJ(m:M D):M (List D):=λρ O=>(m ρ O).bind λd O1=>match d with
 | .tup ds=>.ok ds O1
 | _=>.no
theorem Vq{K:Frag}{mg:Str->Option Value}{H F:Hp}{as:List Addr}{a:Addr}{xs:List V}{ds:List D}(hs:Rps K F as xs ds)(hp:∀(H2 F2:Hp) (as2:List Addr),GrS P H F as H2 F2 as2->(∃O,RlO K mg O H2 F2 as2)->RdK K H2 a xs):nH K mg P (Itl K a) ds H F as:=by
 refine⟨λi d H2 F2 as2 g r e=>?_,λH2 F2 as2 g r=>⟨xs,(hp H2 F2 as2 g r).sq,by rw[hs.length];exact zc _⟩⟩;obtain⟨x,h1,h2⟩:=hs.get' e;have q:=hp H2 F2 as2 g r;refine⟨⟨xs,x,q.sq,h1⟩,λy H3 hy=>?_⟩;obtain⟨rfl,hy⟩:=hy
 have:=hy xs q.sq
 rw[h1] at this;cases this;exact⟨F2,Gr.refl,λ_ r=>r,h2.grS g⟩
end
section
variable {X:Cx}{pins:List (Addr×Obj)}{σ:St}{H:Hp}{s:Shared}
end
section
variable {X:Cx}{elts:List Expr}{x1:Nat}{tpos:Pos}
end
def rW(K:Frag)(P:Pt):RR:=λ_ H F as v d=>Rp K F as v d\/∃a xs ds,v=.ref a/\d=.lst ds/\H a=some (.lst xs)/\a∉as/\P a/\Rps K F as xs ds
def WE(X:Cx)(md:List Md)(P:Pt)(e:Expr)(m:M D):Prop:=PE X e (tM X.K X.mg md P (rW X.K P) m)
section
variable {X:Cx}{md:List Md}{P:Pt}{R:RR}
theorem rE{e:Expr}{m:M D}(h:VE X md P e m):WE X md P e m:=h.imp λσ H Q q=>by
 obtain⟨ρ,O,F,as,d,O',r,s,e,k⟩:=q;exact⟨ρ,O,F,as,d,O',r,s,e,λv H' F' as' g r' hv=>k v H' F' as' g r' (.inl hv)⟩
theorem HF(i:Nat){x:Str}{pos:Pos}(hm:md[i]?=some .s:=by rfl)(hN:X.N[i]?=some x:=by rfl)(hv:Vis X.env.scope x:=by first | exact Or.inl rfl | exact Or.inr (Or.inl rfl) | exact Or.inr (Or.inr rfl))
  (hd:(x == ("__debug__":Str))=false:=by decide) (hcd:(x == ("__classdict__":Str))=false:=by decide):WE X md P (.Name x pos) (aa i):=by
 refine(qJ (i:=i) hN hv hd hcd).imp λσ H Q h=>?_
 obtain⟨ρ,O,F,as,d,O',r,s,e,k⟩:=h;obtain⟨e1,rfl⟩:=um e;obtain⟨v,h2,h3⟩:=s.sl i .s d hm e1;exact⟨v,h2,k v H F as Gr.refl r h3⟩
theorem HH{K:Frag}{mg:Str->Option Value}{N:Addr->Prop}{H F:Hp}{as:List Addr}{v:V}{ds:List D}(hv:rW K P N H F as v (.lst ds)):
  ∃a xs,v=.ref a/\Rps K F as xs ds/\∀(H2 F2:Hp) (as2:List Addr),GrS P H F as H2 F2 as2->(∃O,RlO K mg O H2 F2 as2)->RdK K H2 a xs:=by
 rcases hv with hv | ⟨a,xs,ds',rfl,e,e3,e4,e5,e6⟩
 ·obtain⟨a,xs,rfl,h1,h2⟩:=hv.unL;exact⟨a,xs,rfl,h2,λH2 F2 as2 g ⟨O,r⟩=>(h1.mono g.ff).mono r.fh⟩
 ·cases e;exact⟨a,xs,rfl,e6,λH2 F2 as2 g _=>.inl (.inl (g.fr _ _ e5 e3 e4 rfl))⟩
theorem Vr{tg e:Expr}{m:M D}(h:WE X md P e m):VI X md P tg e (uz m):=(Fg h).imp λσ H Q q=>by
 obtain⟨ρ,O,F,as,ds,O',r,s,e,k⟩:=q;obtain⟨d,O1,e1,e⟩:=Res.bind_ok e
 cases d with
 |lst es =>
  cases e;refine⟨ρ,_,F,as,_,_,r,s,e1,λv H1 F1 as1 g1 r1 hv=>?_⟩;obtain⟨a,xs,rfl,h1,h2⟩:=HH (mg:=X.mg) hv;exact⟨a,rfl,⟨xs,(h2 H1 F1 as1 GrS.refl ⟨_,r1⟩).sq⟩,k _ H1 F1 as1 g1 r1 (Vq h1 h2)⟩
 | _=>cases e
theorem HJ{tg e:Expr}{m:M D}(h:VE X md P e m):VI X md P tg e (xJ m):=(Qt h).imp λσ H Q q=>by
 obtain⟨ρ,O,F,as,ds,O',r,s,e,k⟩:=q;obtain⟨d,O1,e1,e⟩:=Res.bind_ok e
 cases d with
 |tup es =>
  cases e;refine⟨ρ,_,F,as,_,_,r,s,e1,λv H1 F1 as1 g1 r1 hv=>?_⟩;obtain⟨a,xs,rfl,h1,h2⟩:=Rp.unT hv
  have hp:∀(H2 F2:Hp) (as2:List Addr),GrS P H1 F1 as1 H2 F2 as2->(∃O,RlO X.K X.mg O H2 F2 as2)->SqT X.K H2 a xs:=λH2 F2 as2 g ⟨O,r⟩=>Same.seqT r.fh (Same.seqT g.ff h1)
  refine⟨a,rfl,⟨xs,hp H1 F1 as1 GrS.refl ⟨_,r1⟩⟩,k _ H1 F1 as1 g1 r1 ⟨λi d H2 F2 as2 g r e=>?_,λH2 F2 as2 g r=>⟨xs,hp H2 F2 as2 g r,by rw[h2.length];exact zc _⟩⟩⟩;obtain⟨x,h3,h4⟩:=h2.get' e;have q:=hp H2 F2 as2 g r;refine⟨⟨xs,x,q,h3⟩,λy H3 hy=>?_⟩;obtain⟨rfl,hy⟩:=hy
  have:=hy xs q
  rw[h3] at this;cases this;exact⟨F2,Gr.refl,λ_ r=>r,h4.grS g⟩
 | _=>cases e
def gG(l:List Nat):List D:=l.map λc=>.str [c]
def xK(m:M D):M (List D):=λρ O=>(m ρ O).bind λd O1=>match d with
 | .str l=>if ascii l=true then .ok (gG l) O1 else .no
 | _=>.no
theorem xN{K:Frag}{mg:Str->Option Value}{J:It}{ds:List D}{H F:Hp}{as:List Addr}(h1:∀(i:Nat) (d:D) (H2:Hp),ds[i]?=some d->J.go i H2/\∀x H3,J.yld i H2 x H3->H3=H2/\∀K F as,Rp K F as x d)(h2:∀H2,J.stop ds.length H2):nH K mg P J ds H F as :=
 ⟨λi d H2 F2 as2 _ _ e=>⟨(h1 i d H2 e).1,λx H3 y=>by
  obtain⟨rfl,hx⟩:=(h1 i d H2 e).2 x H3 y
  exact⟨F2,Gr.refl,λ_ r=>r,hx _ _ _⟩⟩,λH2 _ _ _ _=>h2 H2⟩
theorem HN{tg e:Expr}{m:M D}(h:SE X md P e m):VI X md P tg e (xK m):=(Uk h).imp λσ H Q q=>by
 obtain⟨ρ,O,F,as,ds,O',r,s,e,k⟩:=q;obtain⟨d,O1,e1,e⟩:=Res.bind_ok e
 cases d with
 |str l =>
  dsimp only at e;split at e
  ·rename_i hl;cases e;refine⟨ρ,_,F,as,_,_,r,s,e1,λv H1 F1 as1 g1 r1 hv=>?_⟩;refine⟨l,(Sv.rp hv rfl).unS,hl,k _ H1 F1 as1 g1 r1 (xN (λi d H2 e=>?_) λH2=>by simp[gG,Its])⟩;unfold gG at e;rw[zA] at e
   cases q:l[i]? with
   |none=>rw[q] at e;cases e
   |some c =>
    rw[q] at e;cases e;refine⟨(zl.mp q).1,λx H3 y=>?_⟩;obtain⟨e1,c',e2,rfl⟩:=y;rw[q] at e2;cases e2;exact⟨e1,λ_ _ _=>Rp.str⟩
  ·cases e
 | _=>cases e
def bM(lo:Int)(n:Nat):List D:=(List.range n).map λ(k:Nat)=>.int (lo+(k:Int))
def eY(m:M (List D)):M (List D):=λρ O=>(m ρ O).bind λds O1=>match ds with
 | [.int j]=>if j<=1000000000/\-1000000000<=j then .ok (bM 0 j.toNat) O1 else .no
 | _=>.no
def nR(m:M (List D)):M (List D):=λρ O=>(m ρ O).bind λds O1=>match ds with
 | [.int i,.int j]=>if(i<=1000000000/\-1000000000<=i)/\j<=1000000000/\-1000000000<=j then .ok (bM i (j - i).toNat) O1 else .no
 | _=>.no
theorem HQ{K:Frag}{mg:Str->Option Value}{lo:Int}{n:Nat}{H F:Hp}{as:List Addr}:nH K mg P (Itr lo n) (bM lo n) H F as:=xN (λi d H2 e=>by
 unfold bM at e;rw[zA] at e
 by_cases hi:i<n
 ·rw[List.getElem?_range hi] at e;cases e;refine⟨hi,λx H3 y=>?_⟩;obtain⟨e1,rfl⟩:=y;exact⟨e1,λ_ _ _=>Rp.int⟩
 ·rw[List.getElem?_eq_none (by simpa using hi)] at e
  cases e) λH2=>by simp[bM,Itr]
theorem di.one{K:Frag}{H F:Hp}{as:List Addr}{m:Md}{vs:List V}{d:D}(h:di K H F as [m] vs [d]):∃v,vs=[v]/\rA K m (λ_=>True) H F as v d:=by
 cases vs with
 |nil=>exact h.elim
 |cons v vs =>
  cases vs with
  |nil=>exact⟨v,rfl,h.1⟩
  |cons u us=>exact h.2.elim
theorem di.two{K:Frag}{H F:Hp}{as:List Addr}{m n:Md}{vs:List V}{d e:D}(h:di K H F as [m,n] vs [d,e]):∃v u,vs=[v,u]/\rA K m (λ_=>True) H F as v d/\rA K n (λ_=>True) H F as u e:=by
 cases vs with
 |nil=>exact h.elim
 |cons v vs =>
  cases vs with
  |nil=>exact h.2.elim
  |cons u us =>
   cases us with
   |nil=>exact⟨v,u,rfl,h.1,h.2.1⟩
   |cons w ws=>exact h.2.2.elim
theorem lX{tg a:Expr}{p pos:Pos}{m:M (List D)}(hm:X.mg "range" = none)(ha:AE X md P [.s] [a] m)(hg:Gl X "range":=by rfl)(hs:starEach [a] X.env=[(false,eval a X.env)]:=by exact qU rfl):VI X md P tg (.Call (.Name "range" p) [a] [] pos) (eY m):=(Qw hg hm ha hs).imp λσ H Q q=>by
 obtain⟨ρ,O,F,as,ds,O',r,s,e,k⟩:=q;obtain⟨es,O1,e1,e⟩:=Res.bind_ok e;split at e
 ·rename_i j;split at e
  ·rename_i hj;cases e;refine⟨ρ,_,F,as,_,_,r,s,e1,λvs H1 F1 as1 g1 r1 hv=>?_⟩;obtain⟨v,rfl,hv1⟩:=hv.one
   have:=(Sv.rp hv1 rfl).unI
   subst this;exact⟨j,rfl,by omega,by omega,k _ H1 F1 as1 g1 r1 HQ⟩
  ·cases e
 ·cases e
theorem HR{tg a b:Expr}{p pos:Pos}{m:M (List D)}(hm:X.mg "range" = none)(ha:AE X md P [.s,.s] [a,b] m)(hg:Gl X "range":=by rfl)(hs:starEach [a,b] X.env=[(false,eval a X.env),(false,eval b X.env)]:=by exact Uy rfl rfl)(hs2:starEach [b] X.env=[(false,eval b X.env)]:=by exact qU rfl):
  VI X md P tg (.Call (.Name "range" p) [a,b] [] pos) (nR m):=(Qx hg hm ha hs hs2).imp λσ H Q q=>by
 obtain⟨ρ,O,F,as,ds,O',r,s,e,k⟩:=q;obtain⟨es,O1,e1,e⟩:=Res.bind_ok e;split at e
 ·rename_i i j;split at e
  ·rename_i hj;cases e;refine⟨ρ,_,F,as,_,_,r,s,e1,λvs H1 F1 as1 g1 r1 hv=>?_⟩;obtain⟨v,u,rfl,hv1,hu⟩:=hv.two;have e3:=(Sv.rp hv1 rfl).unI;have e4:=(Sv.rp hu rfl).unI;subst e3 e4;exact⟨i,j,rfl,⟨by omega,by omega,by omega,by omega⟩,k _ H1 F1 as1 g1 r1 HQ⟩
  ·cases e
 ·cases e
def rG:Nat->List D->List D
 | _,[]=>[]
 |k,d::ds=>.tup [.int k,d]::rG (k+1) ds
variable {elts:List Expr}{x1:Nat}{tpos:Pos}
def jU:List D->Option (List (List Nat))
 | []=>some []
 | .str l::ds=>(jU ds).map (l :: ·)
 | _=>none
theorem Rps.strs{K:Frag}{F:Hp}{as:List Addr}:∀{ds:List D}{xs:List V}{ls:List (List Nat)},Rps K F as xs ds->jU ds=some ls->xs=ls.map λl=>V.str (S l)
 | [],xs,bs,h,e=>by cases e;rw[h.un0];rfl
 |d::ds,xs,bs,h,e=>by
  obtain⟨x,r,rfl,h2,h3⟩:=h.un
  cases d with
  |str b =>
   unfold jU at e
   cases q:jU ds with
   |none=>rw[q] at e;cases e
   |some cs =>
    rw[q] at e;cases e;rw[h2.unS,Rps.strs h3 q];rfl
  | _=>cases e
def uA(m:M D):M D:=λρ O=>(m ρ O).bind λd O1=>match bx O1 d with
 | .lst ds=>match jU ds with
  |some ls=>if(ls.map List.length).sum<=1000000 then .ok (.str ls.flatten) O1 else .no
  |none=>.no
 | _=>.no
theorem Vs{e:Expr}{j:Nat}{p apos cpos:Pos}{m:M D}(h:SE X md P e m){x:Str}(hx:x=S []:=by decide +kernel)
  (hfew:((backTo cpos (starEach [e] X.env)).all (λx=>!x.1)&&(backToKw cpos (keywordEach [] X.env)).all (λx=>x.1.isSome)&&decide ([e].length+([]:List Keyword).length+(if([]:List Keyword).isEmpty then 0 else 1)<30))=true:=by rfl)
  (hline:(apos.endLine == cpos.line)=true:=by rfl) (hs:starEach [e] X.env=(false,eval e X.env)::starEach [] X.env:=by exact dB rfl) (hbase:attributeBase (.Constant (.str x) j p) "join" X.env (eval (.Constant (.str x) j p) X.env)=eval (.Constant (.str x) j p) X.env:=by rfl) (hplain:(backTo cpos (starEach [] X.env)).any (·.1)=false:=by exact fC rfl):
  OE X md P (.Call (.Attribute (.Constant (.str x) j p) "join" apos) [e] [] cpos) (uA m):=
 (Gj PySem.F.plainAttrs_str PySem.F.slot_str_join PySem.F.type_str_join (Uv X.K) (Eu (x:=x)) (j7 h mZ hs) hbase hfew hline hs hplain).imp λσ H Q q=>by
  obtain⟨ρ,O,F,as,d,O',r,s,e,k⟩:=q;obtain⟨y,O1,e1,e⟩:=Res.bind_ok e
  cases ed:bx O1 y with
  |lst ds =>
   rw[ed] at e;dsimp only at e
   cases es:jU ds with
   |none=>rw[es] at e;cases e
   |some ls =>
    rw[es] at e;dsimp only at e;split at e
    ·rename_i hz;cases e;refine⟨rfl,ρ,_,F,as,_,_,r,s,e1,λv H1 F1 as1 g1 r1 hv=>?_⟩;have q:=Sv.lk hv r1;rw[ed] at q;obtain⟨a,xs,rfl,h1,h2⟩:=q.list r1.fh;refine⟨a,ls,by rw[hx],rfl,?_,hz,k _ H1 F1 as1 g1 r1 (.inl ⟨rfl,Rp.str⟩)⟩;rw[<-h2.strs es];exact h1.sq
    ·cases e
  | _=>rw[ed] at e;cases e
def Vt(mo m:M D):M D:=λρ O=>(mo ρ O).bind λa O1=>(m ρ O1).bind λb O2=>match a,b with
 | .str l,.str n=>.ok (.bl (decide (l.take n.length=n))) O2
 | _,_=>.no
end
section
variable {K:Frag}{mg:Str->Option Value}{md:List Md}{P:Pt}{ρ:aD}{σ:St}{H F:Hp}{as:List Addr}{O:au}{i:Nat}{a:Addr}{xs xs':List V}{ds ds':List D}
theorem SlO.own(s:SlO K md P ρ σ H F as)(hm:md[i]?=some .o)(hρ:ρ[i]?=some (some (.lst ds))):∃a xs,σ[i]?=some (some (.ref a))/\H a=some (.lst xs)/\F a=none/\a∉as/\¬P a/\Rps K F as xs ds:=by
 obtain⟨v,h1,h2⟩:=s.sl i .o _ hm hρ
 rcases h2 with⟨h2,_⟩ | ⟨a,xs,es,rfl,e2,e3,e0,e4,e5,e6⟩
 ·cases h2
 ·cases e2;exact⟨a,xs,h1,e3,e0,e4,e5,e6⟩
theorem SlO.mut(s:SlO K md P ρ σ H F as)(hm:md[i]?=some .o)(hρ:ρ[i]?=some (some (.lst ds)))(hσ:σ[i]?=some (some (.ref a)))(hF:F a=none)(ha:a∉as)(hP:¬P a)(r:Rps K F as xs' ds'):SlO K md P (ρ.set i (some (.lst ds'))) σ (upd H a (.lst xs')) F as:=by
 have hi:i<md.length:=(zl.mp hm).1;refine⟨s.len,by rw[ji];exact s.len',λc p=>?_,λj m d e1 e2=>?_,λj k c es fs h1 h2 h3 h4 h5 h6=>?_,λx hx=>?_⟩
 ·have:=s.pd c p
  unfold upd
  split
  ·exact λz=>nomatch z
  ·exact this
 ·by_cases h:i=j
  ·subst h;rw[hm] at e1;cases e1;rw[zQ (by rw[s.len'];exact hi)] at e2;cases e2;exact⟨_,hσ,.inr ⟨a,xs',ds',rfl,rfl,cA,hF,ha,hP,r⟩⟩
  ·rw[zq h] at e2;obtain⟨v,q1,q2⟩:=s.sl j m d e1 e2;refine⟨v,q1,?_⟩
   cases m with
   |v=>exact q2
   |s =>
    rcases q2 with q2 | ⟨c,ys,es,z1,z2,z3,z4,z5,z6⟩
    ·exact .inl q2
    ·exact .inr ⟨c,ys,es,z1,z2,by rw[aP (λz=>hP (by rw[<-z];exact z5))];exact z3,z4,z5,z6⟩
   |o =>
    rcases q2 with q2 | ⟨c,ys,es,z1,z2,z3,z0,z4,z5,z6⟩
    ·exact .inl q2
    ·refine .inr ⟨c,ys,es,z1,z2,?_,z0,z4,z5,z6⟩;rw[aP]
     ·exact z3
     ·intro z;subst z z1 z2;exact h (s.inj i j c ds es hm e1 hρ e2 hσ q1)
 ·have f:∀k es,(ρ.set i (some (.lst ds')))[k]?=some (some (D.lst es))->∃es',ρ[k]?=some (some (D.lst es')):=λk es q=>by
   by_cases h:i=k
   ·subst h;exact⟨ds,hρ⟩
   ·rw[zq h] at q;exact⟨es,q⟩
  obtain⟨es',q3⟩:=f j es h3;obtain⟨fs',q4⟩:=f k fs h4;exact s.inj j k c es' fs' h1 h2 q3 q4 h5 h6
 ·obtain⟨p1,p2,p3⟩:=s.pin x hx
  have hne:i≠x.1:=λz=>by rw[<-z,hm] at p1;cases p1
  exact⟨p1,by rw[zq hne];exact p2,p3⟩
theorem Vu{xs:List V}(hH:H a=some (.lst xs))(hP:¬P a){o:HO}:GrS P H F as (upd H a o) F as :=
 ⟨λ_ _ _ _ _ _=>rfl,Same.refl F,⟨[],by simp,λ_ h=>nomatch h⟩,λc u p e _ _=>by rw[aP (λz=>hP (by rw[<-z];exact p))];exact e,λc e=>by
  by_cases h:c=a
  ·subst h;rw[cA] at e;cases e
  ·rwa [aP h] at e,λc o' u e=>by rw[aP (λz=>by rw[z,hH] at e;cases e)];exact e⟩
theorem RlO.mut(r:RlO K mg O H F as)(hF:F a=none)(ha:a∉as){o:HO}:RlO K mg O (upd H a o) F as:=by
 refine⟨λc u e=>?_,r.fd,r.nd,r.len,r.fa,λn c u hc hu=>(r.ob n c u hc hu).keep (aP ?_) (Same.refl F) λ_ _ h=>h⟩
 ·rw[aP (cT e hF)];exact r.fh c u e
 ·intro z;subst z;exact ha (zI hc)
end
section
variable {X:Cx}{md:List Md}{P:Pt}{R:RR}
def dU(i:Nat)(m:M D):MS:=λρ O=>match m ρ O with
 | .ok d O'=>match ρ[i]? with
  |some (some (.lst ds))=>if ds.length<1000000 then .nx (ρ.set i (some (.lst (ds++[d])))) O' else .no
  | _=>.no
 | .ex x O'=>.ex x O'
 | .no=>.no
theorem Vv{i:Nat}{m:M D}{ρ:aD}{O:au}(K:Frag)(mg:Str->Option Value){D:Ends}{H F:Hp}{as:List Addr}(k:lM K mg md P R D H F as (dU i m ρ O)):
  ∃d O' ds,m ρ O=.ok d O'/\ρ[i]?=some (some (.lst ds))/\ds.length<1000000/\lM K mg md P R D H F as (.nx (ρ.set i (some (.lst (ds++[d])))) O'):=by
 unfold dU at k;split at k
 ·rename_i d O' e;split at k
  ·rename_i ds e2;split at k
   ·rename_i hz;exact⟨d,O',ds,e,e2,hz,k⟩
   ·exact False.elim k
  ·exact False.elim k
 ·exact False.elim k
 ·exact False.elim k
theorem kJ(i:Nat){x:Str}{p apos cpos pos:Pos}{e:Expr}{m:M D}(h:VE X md P e m)(hm:md[i]?=some .o:=by rfl)(hN:X.N[i]?=some x:=by rfl)(hv:Vis X.env.scope x:=by first | exact Or.inl rfl | exact Or.inr (Or.inl rfl) | exact Or.inr (Or.inr rfl))
  (hd:(x == ("__debug__":Str))=false:=by decide) (hcd:(x == ("__classdict__":Str))=false:=by decide)
  (hbase:attributeBase (.Name x p) "append" X.env (eval (.Name x p) X.env)=eval (.Name x p) X.env:=by rfl)
  (hfew:((backTo cpos (starEach [e] X.env)).all (λx=>!x.1)&&(backToKw cpos (keywordEach [] X.env)).all (λx=>x.1.isSome)&&decide ([e].length+([]:List Keyword).length+(if([]:List Keyword).isEmpty then 0 else 1)<30))=true:=by rfl)
  (hline:(apos.endLine == cpos.line)=true:=by rfl) (hs:starEach [e] X.env=(false,eval e X.env)::starEach [] X.env:=by exact dB rfl) (hplain:(backTo cpos (starEach [] X.env)).any (·.1)=false:=by exact fC rfl)
  (hsw:swapsWith (.Call (.Attribute (.Name x p) "append" apos) [e] [] cpos) none pos.line X.env=pure false:=by rfl):
  VS X md P R (.Expr (.Call (.Attribute (.Name x p) "append" apos) [e] [] cpos) pos) (dU i m):=
 (Fb (Gj PySem.F.plainAttrs_list PySem.F.slot_list_append PySem.F.type_list_append SQ (qJ (i:=i) hN hv hd hcd) (j7 h mZ hs) hbase hfew hline hs hplain) hsw).imp λD σ H q=>by
  obtain⟨ρ,O,F,as,r,s,k⟩:=q;obtain⟨d,O',ds,e,e2,hz,k⟩:=Vv X.K X.mg k;obtain⟨a,xs,h1,h2,h3,h4,h5,h6⟩:=s.own hm e2;refine⟨_,h1,.inl ⟨rfl,xs,.inl (.inl h2)⟩,ρ,O,F,as,d,O',r,s,e,λy H1 F1 as1 g1 r1 hy=>?_⟩;have s1:=s.step g1
  have hn:H a≠none:=by rw[h2];exact λz=>nomatch z
  have q2:=g1.fr _ _ h2 h4 rfl
  have q3:F1 a=none:=by rw[g1.fz a _ h2 h4 rfl];exact h3
  have q4:=g1.out h4 hn
  have hn1:H1 a≠none:=by rw[q2];exact λz=>nomatch z
  exact⟨a,xs,y,rfl,rfl,q2,by rw[h6.length];exact zG hz (by decide),k σ _ F1 as1 (g1.toS.trans (Vu q2 h5)) (r1.mut q3 q4) (s1.mut hm e2 h1 q3 q4 h5 ((h6.gr g1).snoc hy))⟩
def Vw(i:Nat)(m:M D):MS:=λρ O=>match m ρ O with
 | .ok d O'=>match ρ[i]?,bx O' d with
  |some (some (.lst ds)),.lst es=>if ds.length+es.length<=1000000 then .nx (ρ.set i (some (.lst (ds++es)))) O' else .no
  | _,_=>.no
 | .ex x O'=>.ex x O'
 | .no=>.no
end
def putD(f:Str)(v:D):List (Str×D)->List (Str×D)
 | []=>[(f,v)]
 | (g,x)::r=>if g=f then(g,v)::r else(g,x)::putD f v r
section
variable {K:Frag}{F:Hp}{as:List Addr}
theorem FsR.cons_inv{gs:List (Str×V)}{f:Str}{d:D}{fs:List (Str×D)}(h:FsR K F as gs ((f,d)::fs)):∃v gs',gs=(f,v)::gs'/\Rp K F as v d/\FsR K F as gs' fs:=by
 obtain⟨h1,h2⟩:=h
 cases gs with
 |nil=>cases h1
 |cons g gs' =>
  obtain⟨g1,g2⟩:=g;simp only[zd,List.cons.injEq] at h1;obtain⟨x,r,e,h3,h4⟩:=h2.un;simp only[zd,List.cons.injEq] at e;obtain⟨rfl,rfl⟩:=e;exact⟨g2,gs',by rw[h1.1],h3,⟨h1.2,h4⟩⟩
theorem FsR.nil_inv{gs:List (Str×V)}(h:FsR K F as gs []):gs=[]:=List.map_eq_nil_iff.mp h.nm
theorem FsR.get:∀{fs:List (Str×D)}{gs:List (Str×V)}{f:Str}{d:D},FsR K F as gs fs->fs.lookup f=some d->∃v,gs.lookup f=some v/\Rp K F as v d
 | [],_,_,_,_,e=>by cases e
 | (g,x)::fs,gs,f,d,h,e=>by
  obtain⟨v,gs',rfl,h1,h2⟩:=h.cons_inv;rw[List.lookup_cons] at e ⊢
  cases q:f == g with
  |true =>
   rw[q] at e;cases e;exact⟨v,rfl,h1⟩
  |false =>
   rw[q] at e;exact FsR.get h2 e
theorem FsR.no:∀{fs:List (Str×D)}{gs:List (Str×V)}{f:Str},FsR K F as gs fs->fs.lookup f=none->gs.lookup f=none
 | [],_,_,h,e=>by rw[h.nil_inv];rfl
 | (g,x)::fs,gs,f,h,e=>by
  obtain⟨v,gs',rfl,h1,h2⟩:=h.cons_inv;rw[List.lookup_cons] at e ⊢
  cases q:f == g with
  |true=>rw[q] at e;cases e
  |false =>
   rw[q] at e;exact FsR.no h2 e
theorem FsR.put{f:Str}{v:V}{d:D}(hv:Rp K F as v d):∀{fs:List (Str×D)}{gs:List (Str×V)},FsR K F as gs fs->FsR K F as (eQ f v gs) (putD f d fs)
 | [],_,h=>by
  rw[h.nil_inv];exact⟨rfl,Rps.cons hv Rps.nil⟩
 | (g,x)::fs,gs,h=>by
  obtain⟨u,gs',rfl,h1,h2⟩:=h.cons_inv;rw[eQ,putD]
  by_cases q:g=f
  ·rw[if_pos q,if_pos q];exact⟨by simp[h2.nm],Rps.cons hv h2.vl⟩
  ·rw[if_neg q,if_neg q];have ih:=FsR.put (f:=f) hv h2;exact⟨by simp[ih.nm],Rps.cons h1 ih.vl⟩
theorem FsR.length{fs:List (Str×D)}{gs:List (Str×V)}(h:FsR K F as gs fs):gs.length=fs.length:=by
 have:=congrArg List.length h.nm
 simpa using this
theorem RlO.set{mg:Str->Option Value}{O:au}{H:Hp}{n:Nat}{a:Addr}{o:Ob}{u:HO}(r:RlO K mg O H F as)(ha:as[n]?=some a)(ho:ObR K mg (upd H a u) F as a o):RlO K mg (O.set n o) (upd H a u) F as:=by
 have hF:=r.fa a (zI ha);refine⟨λc w e=>?_,r.fd,r.nd,by rw[ji];exact r.len,r.fa,λk c w hc hw=>?_⟩
 ·rw[aP (cT e hF)];exact r.fh c w e
 ·by_cases h:n=k
  ·subst h;rw[ha] at hc;cases hc;rw[zQ (by rw[<-r.len];exact(zl.mp ha).1)] at hw;cases hw;exact ho
  ·rw[zq h] at hw
   refine(r.ob k c w hc hw).keep (aP ?_) (Same.refl F) λ_ _ h=>h
   intro z;subst z;obtain⟨l1,q1⟩:=zl.mp ha;obtain⟨l2,q2⟩:=zl.mp hc;exact h ((List.getElem_inj r.nd).mp (q1.trans q2.symm))
end
def KC(K:Frag)(mg:Str->Option Value)(c f:Str):Prop:=∃C,mg c=some (.ref C)/\Cls K C/\mY K C f
section
variable {X:Cx}{md:List Md}{P:Pt}{R:RR}
def f9(cs:List Str)(f:Str)(m:M D):M D:=λρ O=>(m ρ O).bind λd O1=>match d with
 | .ob n=>match O1[n]? with
  |some (.ins c fs)=>if c∈cs then match fs.lookup f with
   |some y=>.ok y O1
   |none=>.no else .no
  | _=>.no
 | _=>.no
theorem pH{cs:List Str}{f:Str}{o:Expr}{pos:Pos}{m:M D}(hc:∀c∈cs,KC X.K X.mg c f)(h:VE X md P o m)(hb:attributeBase o f X.env (eval o X.env)=eval o X.env:=by rfl):VE X md P (.Attribute o f pos) (f9 cs f m):=(Ru h hb).imp λσ H Q q=>by
 obtain⟨ρ,O,F,as,d,O',r,s,e,k⟩:=q;obtain⟨x,O1,e1,e⟩:=Res.bind_ok e
 cases x with
 |ob n =>
  dsimp only at e;split at e
  ·rename_i c fs eo;split at e
   ·rename_i hcs;split at e
    ·rename_i y ey;cases e;refine⟨ρ,_,F,as,_,_,r,s,e1,λv H1 F1 as1 g1 r1 hv=>?_⟩;obtain⟨a,rfl,ha⟩:=Rp.unO hv;obtain⟨C,dx,gs,h1,h2,h3⟩:=r1.ob n a _ ha eo;obtain⟨C',h4,h5,h6⟩:=hc c hcs;rw[h1] at h4;cases h4;obtain⟨w,h7,h8⟩:=h3.get ey;exact⟨a,C,dx,gs,w,rfl,h2,h5,h6,h7,k w H1 F1 as1 g1 r1 h8⟩
    ·cases e
   ·cases e
  ·cases e
 | _=>cases e
def kO(cs:List Str)(f:Str)(mo mv:M D):MS:=λρ O=>match mv ρ O with
 | .ok d O1=>match mo ρ O1 with
  | .ok (.ob n) O2=>match O2[n]? with
   |some (.ins c fs)=>if c∈cs/\fs.length<900 then .nx ρ (O2.set n (.ins c (putD f d fs))) else .no
   | _=>.no
  | _=>.no
 | .ex x O'=>.ex x O'
 | .no=>.no
theorem HS{cs:List Str}{f:Str}{o value:Expr}{pos pos':Pos}{mo mv:M D}(hc:∀c∈cs,KC X.K X.mg c f)(ho:VE X md P o mo)(hv:VE X md P value mv)(hs:swapsWith value (some (.Attribute o f pos')) pos.line X.env=pure false:=by rfl):VS X md P R (.Assign [.Attribute o f pos'] value pos) (kO cs f mo mv):=(Rv ho hv hs).imp λD σ H q=>by
 obtain⟨ρ,O,F,as,r,s,k⟩:=q;unfold kO at k;split at k
 ·rename_i d O1 e1;split at k
  ·rename_i n O2 e2;split at k
   ·rename_i c fs eo;split at k
    ·rename_i hcs;refine⟨ρ,O,F,as,d,O1,r,s,e1,λy H1 F1 as1 g1 r1 hy=>?_⟩;refine⟨ρ,O1,F1,as1,.ob n,O2,r1,s.step g1,e2,λz H2 F2 as2 g2 r2 hz=>?_⟩;have g:=g1.trans g2;obtain⟨a,rfl,ha⟩:=Rp.unO hz;obtain⟨C,dx,gs,h1,h2,h3⟩:=r2.ob n a _ ha eo;obtain⟨C',h4,h5,h6⟩:=hc c hcs.1;rw[h1] at h4;cases h4;have hmem:=zI ha
     have hn:H2 a≠none:=by rw[h2];exact λz=>nomatch z
     have gg:Gr H2 F2 as2 (upd H2 a (.ins C dx (eQ f y gs))) F2 as2:=⟨λ_ _ _ _ _=>rfl,Same.refl _,⟨[],by simp,λ_ h=>nomatch h⟩,λb u e hb _=>by rw[aP (λz=>hb (by rw[z];exact hmem))];exact e,λb e=>by
      by_cases h:b=a
      ·subst h;rw[cA] at e;cases e
      ·rwa [aP h] at e,λb o' u e=>by rw[aP (λz=>by rw[z,h2] at e;cases e)];exact e⟩
     refine⟨a,C,dx,gs,rfl,h2,h5,h6,by rw[h3.length];omega,?_⟩;exact k σ _ F2 as2 (g.trans gg).toS (r2.set ha ⟨C,dx,_,h1,cA,h3.put (Rp.gr hy g2)⟩) ((s.step g).step gg)
    ·exact False.elim k
   ·exact False.elim k
  ·exact False.elim k
 ·exact False.elim k
 ·exact False.elim k
end
section
variable {Pr:Program}{w:World}{K:Frag}{mg:Str->Option Value}{base:Heap}
theorem HW{x qual:Str}{st:Stmt}{f:Addr}{fd:FuncData}{N ps:List Str}{k:Nat}(Fn:Fun K x qual st f fd)(S:bK N ps (aY st))
  (pm lm:List Md) {R:RR}{b:MS} (hR:gR R) (hR0:∀N H F as,R N H F as .non .non) (hpl:pm.length=ps.length) (hl:(pm++lm).length=N.length) (hp:∀m∈pm,m≠.o)
  (body:∀(cdv:Value) (A:Around) (outer:List Env) (s:Shared) (H:Hp) (E:XK),bD k (A.deeper (envOfC qual (aY st) s.heap.objs.size f cdv))->∀P,VSs ((iT CX0 Pr w K mg base N qual (aY st) f cdv A outer s H E).nox) (pm++lm) P R (fB st) b):
  dH Pr w K mg base CX0 (k+1) f fd ps (vSp K mg pm R (bF N.length b)):=by
 refine Fn.ok S (λvs H Q E h=>?_) (λcdv A outer s H vs Q E hr h=>?_)
 ·obtain⟨ds,O,F,as,d,O',r,a,_⟩:=h;rw[a.len.1,hpl]
 ·obtain⟨ds,O,F,as,d,O',r,a,e,q⟩:=h;refine⟨_,body cdv A outer s H E hr (Pt.all H),?_⟩;refine⟨_,O,F,as,r,Hl a hl hp,?_⟩;unfold bF at e
  cases eb:b (ds.map some++List.replicate (N.length - ds.length) none) O with
  |rt d' O2 =>
   rw[eb] at e;cases e
   exact λv H' F' as' g r' hv=>q v H' F' as' g.gr r' (hR _ _ _ _ _ _ _ (λc hc=>Classical.not_not.mp hc) hv)
  |nx ρ O2 =>
   rw[eb] at e;cases e
   exact λσ' H' F' as' g r' _=>q _ H' F' as' g.gr r' (hR0 _ _ _ _)
  |bk _ _=>rw[eb] at e;cases e
  |ct _ _=>rw[eb] at e;cases e
  |ex _ _=>rw[eb] at e;cases e
  |no=>rw[eb] at e;cases e
def lY(K:Frag)(mg:Str->Option Value)(c m qual:Str)(st:Stmt):Prop:=∃C f fd,mg c=some (.ref C)/\Cls K C/\qN K C m f/\Fun K m qual st f fd
def iG(P:Program)(w:World)(K:Frag)(mg:Str->Option Value)(base:Heap)(c m:Str)(ps:List Str)(k:Nat)(sp:Sp):Prop :=
 ∃C f fd,mg c=some (.ref C)/\Cls K C/\qN K C m f/\Binds K fd ps []/\dH P w K mg base CX0 k f fd ps sp
def xO(P:Program)(w:World)(K:Frag)(mg:Str->Option Value)(base:Heap)(c:Str)(ps:List Str)(k:Nat)(sp:Sp):Prop :=
 ∃C f fd,mg c=some (.ref C)/\Mk K C f/\Binds K fd ps []/\dH P w K mg base CX0 k f fd ps sp
def xP(K:Frag)(mg:Str->Option Value)(c qual:Str)(st:Stmt):Prop:=∃C f fd,mg c=some (.ref C)/\Mk K C f/\Fun K "__init__" qual st f fd
theorem pI{c x qual:Str}{st:Stmt}{N ps:List Str}{k:Nat}(Df:lY K mg c x qual st)(S:bK N ps (aY st))
  (hb:∀(kV doc pm:Value) (an:Option Addr) (cdv ct:Value) (us:List Value),us.length=ps.length->bindArgs (PySem.W.fnOf x qual (iz st) (fB st) (aY st) .none kV doc pm an cdv ct) ⟨us,[]⟩=pure (ps.zip us))
  (pm lm:List Md) {R:RR}{b:MS} (hR:gR R) (hR0:∀N H F as,R N H F as .non .non) (hpl:pm.length=ps.length:=by rfl) (hl:(pm++lm).length=N.length:=by rfl) (hp:∀m∈pm,m≠.o:=by decide)
  (body:∀(f:Addr) (cdv:Value) (A:Around) (outer:List Env) (s:Shared) (H:Hp) (E:XK),bD k (A.deeper (envOfC qual (aY st) s.heap.objs.size f cdv))->∀P,VSs ((iT CX0 Pr w K mg base N qual (aY st) f cdv A outer s H E).nox) (pm++lm) P R (fB st) b):
  iG Pr w K mg base c x ps (k+1) (vSp K mg pm R (bF N.length b)):=by
 obtain⟨C,f,fd,h1,h2,h3,h4⟩:=Df;exact⟨C,f,fd,h1,h2,h3,h4.binds hb,HW h4 S pm lm hR hR0 hpl hl hp (body f)⟩
theorem Vx{c qual:Str}{st:Stmt}{N ps:List Str}{k:Nat}(Df:xP K mg c qual st)(S:bK N ps (aY st))
  (hb:∀(kV doc pm:Value) (an:Option Addr) (cdv ct:Value) (us:List Value),us.length=ps.length->bindArgs (PySem.W.fnOf "__init__" qual (iz st) (fB st) (aY st) .none kV doc pm an cdv ct) ⟨us,[]⟩=pure (ps.zip us))
  (pm lm:List Md) {R:RR}{b:MS} (hR:gR R) (hR0:∀N H F as,R N H F as .non .non) (hpl:pm.length=ps.length:=by rfl) (hl:(pm++lm).length=N.length:=by rfl) (hp:∀m∈pm,m≠.o:=by decide)
  (body:∀(f:Addr) (cdv:Value) (A:Around) (outer:List Env) (s:Shared) (H:Hp) (E:XK),bD k (A.deeper (envOfC qual (aY st) s.heap.objs.size f cdv))->∀P,VSs ((iT CX0 Pr w K mg base N qual (aY st) f cdv A outer s H E).nox) (pm++lm) P R (fB st) b):
  xO Pr w K mg base c ps (k+1) (vSp K mg pm R (bF N.length b)):=by
 obtain⟨C,f,fd,h1,h2,h4⟩:=Df;exact⟨C,f,fd,h1,h2,h4.binds hb,HW h4 S pm lm hR hR0 hpl hl hp (body f)⟩
end
section
variable {X:Cx}{md:List Md}{P:Pt}{R:RR}{k:Nat}{c m:Str}{ps:List Str}{p pos apos:Pos}{o e:Expr}{es:List Expr}{pm:List Md}{cf:List D->au->Res D}{mo:M D}{ma:M (List D)}
def cR(c m:Str)(cf:List D->au->Res D)(mo:M D)(ma:M (List D)):M D:=λρ O=>(mo ρ O).bind λd O1=>match d with
 | .ob n=>match O1[n]? with
  |some (.ins c' fs)=>if c'=c/\(fs.lookup m).isNone=true then(ma ρ O1).bind λds O2=>cf (.ob n::ds) O2 else .no
  | _=>.no
 | _=>.no
theorem HX{K:Frag}{mg:Str->Option Value}{C:Addr}(hR:gR R)(hC:mg c=some (.ref C)){E:XK}{σ:St}{H:Hp}{Q:VK}(q:tM K mg md P R (cR c m cf mo ma) σ H Q):
  wV C m (vSp K mg (.v::pm) R cf) [] E (tM K mg md P (rV K) mo) (tMA K mg md P pm ma) σ H Q:=by
 obtain⟨ρ,O,F,as,d,O',r,s,e,k⟩:=q;obtain⟨x,O1,e1,e⟩:=Res.bind_ok e
 cases x with
 |ob n =>
  dsimp only at e;split at e
  ·rename_i c' fs eo;split at e
   ·rename_i hc;obtain⟨ds,O2,e2,e⟩:=Res.bind_ok e;refine⟨ρ,O,F,as,.ob n,O1,r,s,e1,λv H1 F1 as1 g1 r1 hv=>?_⟩;obtain⟨a,rfl,ha⟩:=Rp.unO hv;obtain⟨C',dx,gs,h1,h2,h3⟩:=r1.ob n a _ ha eo;rw[hc.1,hC] at h1;cases h1;refine⟨a,dx,gs,rfl,h2,h3.no (Option.isNone_iff_eq_none.mp hc.2),?_⟩;refine⟨ρ,O1,F1,as1,ds,O2,r1,s.step g1,e2,λvs H2 F2 as2 g2 r2 hvs=>?_⟩;dsimp only;rw[zX];exact⟨.ob n::ds,O2,F2,as2,d,O',r2,⟨Rp.gr hv g2,hvs⟩,e,λv' H' F' as' g' r' hw=>k v' H' F' as' ((g1.trans g2).trans g') r' (hR _ _ _ _ _ _ _ (λb hb=>(g1.trans g2).dm b hb) hw)⟩
   ·cases e
  ·cases e
 | _=>cases e
theorem HY{pl:Sem Bool}(hR:gR R)(M:iG X.prog X.w X.K X.mg X.base c m ps k (vSp X.K X.mg (.v::pm) R cf))(hr:bD k X.A)(ho:VE X md P o mo)(ha:AE X md P pm (e::es) ma)
  (hst:starEach (e::es) X.env=(false,eval e X.env)::starEach es X.env:=by exact dB rfl) (hpl:(backTo pos (starEach es X.env)).any (·.1)=false:=by exact fC rfl)
  (ht:eval (.Call (.Attribute o m apos) (e::es) [] pos) X.env=(do
   let ov <-eval o X.env
   standAt apos.atName
   let (f,first) <-holding [ov] (getMethod ov m pl)
   callWith pos f first (backTo pos (starEach (e::es) X.env)) (backToKw pos (keywordEach [] X.env))):=by rfl):
  PE X (.Call (.Attribute o m apos) (e::es) [] pos) (tM X.K X.mg md P R (cR c m cf mo ma)):=by
 obtain⟨C,f,fd,h1,h2,h3,h4,h5⟩:=M
 exact(RJ (pl:=pl) (E:=E0) (ds:=[]) (dvs:=[]) ho h2 h3 h5 hr h4 .nil t8 ha hst hpl ht).imp λ_ _ _ q=>HX hR h1 q
theorem Vy{pl:Sem Bool}(hR:gR R)(M:iG X.prog X.w X.K X.mg X.base c m ps k (vSp X.K X.mg [.v] R cf))(hr:bD k X.A)(ho:VE X md P o mo)
  (ht:eval (.Call (.Attribute o m apos) [] [] pos) X.env=(do
   let ov <-eval o X.env
   standAt apos.atName
   let (f,first) <-holding [ov] (getMethod ov m pl)
   callWith pos f first (backTo pos (starEach [] X.env)) (backToKw pos (keywordEach [] X.env))):=by rfl):
  PE X (.Call (.Attribute o m apos) [] [] pos) (tM X.K X.mg md P R (cR c m cf mo aq)):=by
 obtain⟨C,f,fd,h1,h2,h3,h4,h5⟩:=M
 refine(RK (pl:=pl) (E:=E0) (ds:=[]) (dvs:=[]) ho h2 h3 h5 hr h4 .nil t8 ht).imp λσ H Q q=>?_
 obtain⟨ρ,O,F,as,d,O',r,s,e,k⟩:=HX (pm:=[]) (E:=E0) hR h1 q;refine⟨ρ,O,F,as,d,O',r,s,e,λv H' F' as' g r' hv=>?_⟩;obtain⟨a,dx,fs,e1,e2,e3,t⟩:=k v H' F' as' g r' hv;refine⟨a,dx,fs,e1,e2,e3,?_⟩;obtain⟨ρ1,O1,F1,as1,ds1,O2,r1,s1,e4,k4⟩:=t;cases e4;exact k4 [] H' F1 as1 Gr.refl r1 trivial
def jV(c:Str)(cf:List D->au->Res D)(ma:M (List D)):M D:=λρ O=>(ma ρ O).bind λds O1=>match cf (.ob O1.length::ds) (O1++[.ins c []]) with
 | .ok .non O2=>.ok (.ob O1.length) O2
 | .ok _ _=>.no
 | .ex x O2=>.ex x O2
 | .no=>.no
theorem Vz{K:Frag}{mg:Str->Option Value}{C:Addr}(hC:mg c=some (.ref C)){E:XK}{σ:St}{H:Hp}{Q:VK}(q:tM K mg md P (rV K) (jV c cf ma) σ H Q):
  FQ C (vSp K mg (.v::pm) (rV K) cf) [] E (tMA K mg md P pm ma) σ H Q:=by
 obtain⟨ρ,O,F,as,d,O',r,s,e,k⟩:=q;obtain⟨ds,O1,e1,e⟩:=Res.bind_ok e;split at e
 ·rename_i O2 ec;cases e;refine⟨ρ,O,F,as,ds,O1,r,s,e1,λvs H1 F1 as1 g1 r1 hvs=>?_⟩;intro x dx hx hdx hne;rw[zX]
  have hx2:upd H1 dx (.own x) x=none:=by rw[aP hne.symm];exact hx
  have gA:Gr H1 F1 as1 (upd H1 dx (.own x)) F1 as1:=Gr.lay hdx;have gB:Gr (upd H1 dx (.own x)) F1 as1 (upd (upd H1 dx (.own x)) x (.ins C dx [])) F1 as1:=Gr.lay hx2;have gC:Gr (upd (upd H1 dx (.own x)) x (.ins C dx [])) F1 as1 (upd (upd H1 dx (.own x)) x (.ins C dx [])) F1 as1:=Gr.refl;have gAB:=gA.trans gB;have g2:Gr H1 F1 as1 (upd (upd H1 dx (.own x)) x (.ins C dx [])) F1 (as1++[x]):=⟨gAB.fz,gAB.ff,⟨[x],rfl,λa ha=>by rw[zm.mp ha];exact hx⟩,λa o e ha hd=>gAB.fr a o e ha hd,gAB.dm,gAB.kz⟩
  have nx:x∉as1:=λz=>r1.all z hx
  have rB:=(r1.lay (o:=.own x) hdx).lay (o:=.ins C dx []) hx2
  have at_:∀(n:Nat) (a:Addr),as1[n]?=some a->(as1++[x])[n]?=some a:=λn a h=>by
   rw[zD (zl.mp h).1];exact h
  have r2:RlO K mg (O1++[.ins c []]) (upd (upd H1 dx (.own x)) x (.ins C dx [])) F1 (as1++[x]):=by
   refine⟨rB.fh,rB.fd,?_,by simp[r1.len],λa ha=>?_,λn a o ha ho=>?_⟩
   ·rw[jq];refine⟨r1.nd,by simp,λa ha b hb=>?_⟩;rw[zm.mp hb];intro z;subst z;exact nx ha
   ·rcases zJ.mp ha with z | z
    ·exact r1.fa a z
    ·rw[zm.mp z];exact r1.frF hx
   ·by_cases hn:n<O1.length
    ·rw[zD (by rw[r1.len];exact hn)] at ha;rw[zD hn] at ho;exact(rB.ob n a o ha ho).keep rfl (Same.refl _) at_
    ·have hn':n=O1.length:=by
      have:=(zl.mp ho).1
      simp at this
      omega
     subst hn';rw[zO (zc _),Nat.sub_self] at ho;rw[<-r1.len,zO (zc _),Nat.sub_self] at ha;cases ho;cases ha;exact⟨C,dx,[],hC,cA,⟨rfl,Rps.nil⟩⟩
  have hox:Rp K F1 (as1++[x]) (.ref x) (.ob O1.length):=Rp.mkO (by rw[<-r1.len,zO (zc _),Nat.sub_self];rfl);refine⟨.ob O1.length::ds,_,F1,as1++[x],.non,_,r2,⟨hox,hvs.gr g2⟩,ec,λv H3 F3 as3 g3 r3 hv=>?_⟩;exact⟨Rp.unN hv,k _ H3 F3 as3 ((g1.trans g2).trans g3) r3 (Rp.gr hox g3)⟩
 ·cases e
 ·cases e
 ·cases e
theorem H9(M:xO X.prog X.w X.K X.mg X.base c ps k (vSp X.K X.mg (.v::pm) (rV X.K) cf))(hr:bD (k+1) X.A)(ha:AE X md P pm (e::es) ma)(hg:Gl X c:=by rfl)(hdb:(c == ("__debug__":Str))=false:=by decide)
  (he:starEach (e::es) X.env=(false,eval e X.env)::starEach es X.env:=by exact dB rfl) (hpl:(backTo pos (starEach es X.env)).any (·.1)=false:=by exact fC rfl):VE X md P (.Call (.Name c p) (e::es) [] pos) (jV c cf ma):=by
 obtain⟨C,f,fd,h1,h3,h4,h5⟩:=M
 exact(RM (E:=E0) (ds:=[]) (dvs:=[]) h3 h5 hr hg h1 h4 .nil t8 ha hdb he hpl).imp λ_ _ _ q=>Vz h1 q
end
section
variable {X:Cx}{md:List Md}{P:Pt}{R:RR}
def nT:D->Option (List D)
 | .lst ds=>some ds
 | .tup ds=>some ds
 | .str l=>if ascii l=true then some (gG l) else none
 | _=>none
def cF(m:M D):M (List D):=λρ O=>(m ρ O).bind λd O1=>match nT d with
 |some ds=>.ok ds O1
 |none=>.no
theorem Ia{e:Expr}{m:M D}(h:WE X md P e m):SE X md P e m:=h.imp λσ H Q q=>by
 obtain⟨ρ,O,F,as,d,O',r,s,e,k⟩:=q;refine⟨ρ,O,F,as,d,O',r,s,e,λv H' F' as' g r' hv=>k v H' F' as' g r' ?_⟩
 rcases hv with hv | ⟨a,xs,ds,e1,e2,e3,e4,e5,e6⟩
 ·exact .inl hv
 ·exact .inr ⟨a,xs,ds,e1,e2,e3,e4,e6⟩
theorem pJ{tg e:Expr}{m:M D}(h:WE X md P e m):VI X md P tg e (cF m):=λpins s σ H Q I q=>by
 obtain⟨ρ,O,F,as,ds,O',r,sl,e,k⟩:=q;obtain⟨d,O1,e1,e⟩:=Res.bind_ok e
 cases d with
 |lst es =>
  cases e;exact Vr h pins s σ H Q I ⟨ρ,O,F,as,_,_,r,sl,by unfold uz;rw[e1];rfl,k⟩
 |tup es =>
  cases e;exact HJ (cI (Ia h)) pins s σ H Q I ⟨ρ,O,F,as,_,_,r,sl,by unfold xJ mG;rw[e1];rfl,k⟩
 |str l =>
  simp only[nT] at e;split at e
  ·rename_i es hes;split at hes
   ·rename_i hl;cases hes;cases e;refine HN (Ia h) pins s σ H Q I ⟨ρ,O,F,as,gG l,_,r,sl,?_,k⟩;unfold xK;rw[e1];show(if ascii l=true then _ else _)=_;rw[if_pos hl]
   ·cases hes
  ·cases e
 | _=>cases e
theorem VB{tg e:Expr}{m:M D}(h:SE X md P e m):VIc X md P tg e (uz m):=(Fg h).imp λσ H Q q=>by
 obtain⟨ρ,O,F,as,ds,O',r,s,e,k⟩:=q;obtain⟨d,O1,e1,e⟩:=Res.bind_ok e
 cases d with
 |lst es =>
  cases e;refine⟨ρ,_,F,as,_,_,r,s,e1,λv H1 F1 as1 g1 r1 hv=>?_⟩
  obtain⟨a,xs,rfl,h1,h2⟩:∃a xs,v=.ref a/\Rps X.K F1 as1 xs ds/\∀(H2 F2:Hp) (as2:List Addr),Gr H1 F1 as1 H2 F2 as2->(∃O,RlO X.K X.mg O H2 F2 as2)->RdK X.K H2 a xs:=by
   rcases hv with hv | ⟨a,xs,ds',rfl,e,e3,e4,e6⟩
   ·obtain⟨a,xs,rfl,h1,h2⟩:=hv.unL;exact⟨a,xs,rfl,h2,λH2 F2 as2 g ⟨O,r⟩=>(h1.mono g.ff).mono r.fh⟩
   ·cases e;exact⟨a,xs,rfl,e6,λH2 F2 as2 g _=>.inl (.inl (g.fr _ _ e3 e4 rfl))⟩
  refine⟨a,rfl,⟨xs,(h2 H1 F1 as1 Gr.refl ⟨_,r1⟩).sq⟩,k _ H1 F1 as1 g1 r1 ⟨λi d H2 F2 as2 g r e=>?_,λH2 F2 as2 g r=>⟨xs,(h2 H2 F2 as2 g r).sq,by rw[h1.length];exact zc _⟩⟩⟩;obtain⟨x,h3,h4⟩:=h1.get' e;have q:=h2 H2 F2 as2 g r;refine⟨⟨xs,x,q.sq,h3⟩,λy H3 hy=>?_⟩;obtain⟨rfl,hy⟩:=hy
  have:=hy xs q.sq
  rw[h3] at this;cases this;exact⟨F2,Gr.refl,λ_ r=>r,h4.gr g⟩
 | _=>cases e
theorem lZ{tg e:Expr}{m:M D}(h:SE X md P e m):VIc X md P tg e (cF m):=λpins s σ H Q I q=>by
 obtain⟨ρ,O,F,as,ds,O',r,sl,e,k⟩:=q;obtain⟨d,O1,e1,e⟩:=Res.bind_ok e
 cases d with
 |lst es =>
  cases e;exact VB h pins s σ H Q I ⟨ρ,O,F,as,_,_,r,sl,by unfold uz;rw[e1];rfl,k⟩
 |tup es =>
  cases e;exact ur (HJ (cI h)) pins s σ H Q I ⟨ρ,O,F,as,_,_,r,sl,by unfold xJ mG;rw[e1];rfl,k⟩
 |str l =>
  simp only[nT] at e;split at e
  ·rename_i es hes;split at hes
   ·rename_i hl;cases hes;cases e;refine ur (HN h) pins s σ H Q I ⟨ρ,O,F,as,gG l,_,r,sl,?_,k⟩;unfold xK;rw[e1];show(if ascii l=true then _ else _)=_;rw[if_pos hl]
   ·cases hes
  ·cases e
 | _=>cases e
def VD(m:M D):M (List D):=λρ O=>(m ρ O).bind λd O1=>match d with
 | .lst ds=>.ok (rG 0 ds) O1
 | .str l=>if ascii l=true then .ok (rG 0 (gG l)) O1 else .no
 | _=>.no
variable {elts:List Expr}{x1:Nat}{tpos:Pos}
def Pt.with(P:Pt)(a:Addr)(i:Nat)(d:D)(l:List (Nat×V×D)):Pt:=⟨λc=>P c\/c=a,(i,.ref a,d)::(l++P.ss)⟩
end
theorem VF{P:Program}{w:World}{K:PySem.W.Frag}{mg mb:Str->Option Value}{CX:CXT}{k:Nat}{fa a:Addr}{fd:FuncData}{x:Str}{sp:Sp}{s₁:Shared}{vs:List Value}{ns:List Int}
  (KX:K.In s₁.heap) (hns:s₁.heap.Ns mainGlobals mg) (hb:s₁.heap.Ns builtinsNs mb) (hbb:∀x:Str,x≠"__name__"->mb x=bootBuiltins x) (hlim:s₁.heap.NoLimit) (hg:s₁.gens = #[])
  (ha:s₁.heap.get? a=some {cls:=.type "list",data:=.seq vs.toArray}) (hi:IntsAre vs ns) (hl:ns.length<=sizeLine) (hr:bD k callerA)
  (F:∀base:Heap,K.In base->base.Ns mainGlobals mg->dH P w K mg base CX k fa fd [x] sp) (hbind:∀(s:Shared) (u:Value),BindsTo s fd ⟨[u],[]⟩ [(x,u)])
  (hsp:∀H:Hp,nj H->RdK K H a (ns.map V.int)->sp [.ref a] H (λv _=>v=.bl true) λ_ _ _=>False)
  (hCX:∀H e s',CX [] H s₁ (λ_ _ _=>False) e s'->False):
  codeAny (model P w) callerA (.call (.ref fa) ⟨[.ref a],[]⟩) (λr s'=>r=.ok (.ret (.bool true))/\OldK s₁.heap s'.heap/\s'.os=s₁.os/\AllBare s'.gens) s₁:=by
 have rv:=wZ hi;have lenV:=hi.length;have core:∀H:Hp,nj H->RdK K H a (ns.map V.int)->HOk P w H s₁.heap->(∀b,H b≠none->b=a)->(H a≠none->K.lookup a=none) ->
   codeAny (model P w) callerA (.call (.ref fa) ⟨[.ref a],[]⟩) (λr s'=>r=.ok (.ret (.bool true))/\OldK s₁.heap s'.heap/\s'.os=s₁.os/\AllBare s'.gens) s₁:=by
  intro H hO hS hok hA hK
  have base_of:∀{b:Addr}{o:Obj},s₁.heap.get? b=some o->H b=none->(gn s₁.heap H).get? b=some o:=λe n=>Er e n
  have noA:∀{b:Addr}{o:Obj}{es:Array DictEntry}{ep:Nat},s₁.heap.get? b=some o->o.data=.dict es ep->H b=none:=λ{b o es ep} e d=>by
   cases q:H b with
   |none=>rfl
   |some u =>
    have e':b=a:=hA b (by rw[q];simp);subst e';rw[ha] at e;cases e;have d':Data.seq vs.toArray _=Data.dict es ep:=d;cases d'
  have nsK:∀{b:Addr}{m:Str->Option Value},s₁.heap.Ns b m->(gn s₁.heap H).Ns b m:=λ{b m} ⟨o,es,ep,e,d,r⟩=>⟨o,es,ep,base_of e (noA e d),d,r⟩
  have hKb:K.In (gn s₁.heap H):=λb o e=>base_of (KX b o e) (by
   cases q:H b with
   |none=>rfl
   |some u =>
    have e':b=a:=hA b (by rw[q];simp);subst e'
    rw[hK (by rw[q];simp)] at e;cases e)
  have hM:Mod K mg (gn s₁.heap H):=⟨hKb,nsK hns,⟨mb,nsK hb,hbb⟩,let ⟨mc,h1,h2⟩:=hlim;⟨mc,nsK h1,h2⟩⟩;have e0:iR P w K mg (gn s₁.heap H) callerA [] s₁ H:=⟨rfl,hM,λb o e=>Es e,Nat.le_of_eq (Ep _ _),trivial,λb hb=>absurd (show b∈([]:List Addr) from hb) (by simp),hok,.of_eq hg⟩
  refine codeAny_mono ((F _ hKb (nsK hns)).run callerA [] s₁ H ⟨[.ref a],[]⟩ [.ref a] [.ref a] _ _ hr e0 (hbind s₁ (.ref a)) (.cons rfl .nil) (hsp H hO hS)) λr s' h=>?_
  cases r with
  |error e=>exact(hCX H e s' h).elim
  |ok fl =>
   cases fl with
   |next=>exact False.elim h
   |brk=>exact False.elim h
   |cont=>exact False.elim h
   |ret u =>
    obtain⟨v,H',os,bare,un,hok',r',q⟩:=h;have q':v=.bl true:=q;subst q';obtain rfl:u=Value.bool true:=r';refine⟨rfl,OldK.of_keep λb o e=>?_,os,bare⟩
    cases q:H b with
    |none=>exact un.keep b o e q (by intro z;exact absurd (show b∈([]:List Addr) from z) (by simp)) (by simp)
    |some u =>
     rcases hO b with z | ⟨ob,xs,z⟩
     ·rw[q] at z;cases z
     ·have z2:=un.frzs b ob _ z;obtain⟨e1,_⟩:=hok b _ z;obtain⟨e2,_⟩:=hok' b _ z2;rw[e] at e1;cases e1;exact e2
 cases hk:K.lookup a with
 |some o =>
  have e:=KX a o hk;rw[ha] at e;cases e
  refine core (λ_=>none) (λ_=>.inl rfl) (.inr ⟨vs,_,hk,by rw[lenV];exact hl,rv⟩) (λb u z=>by have z':(none:Option HO)=some u:=z;cases z') (λb z=>absurd rfl z) λz=>absurd rfl z
 |none =>
  refine core (λb=>if b=a then some (.frz {cls:=.type "list",data:=.seq vs.toArray} (.lst (ns.map V.int))) else none) (λb=>?_) (.inl (.inr ⟨{cls:=.type "list",data:=.seq vs.toArray},if_pos rfl⟩)) (λb u z=>?_) (λb z=>?_) λ_=>hk
  ·by_cases hb:b=a
   ·exact .inr ⟨_,_,if_pos hb⟩
   ·exact .inl (if_neg hb)
  ·by_cases hb:b=a
   ·have z':=(if_pos hb).symm.trans z;cases z';subst hb;exact⟨ha,by rw[ze];exact hl,vs,_,rv,ha⟩
   ·have z':=(if_neg hb).symm.trans z;cases z'
  ·by_cases hb:b=a
   ·exact hb
   ·exact absurd (if_neg hb) z
theorem walk_ofR{l:PySem.W.OpenLaw}{n k:Nat}{q:Program}{loose:List Str}{XP:(Str->Option Value)->Heap->Prop}{YP:World->Heap->Prop}{d:DefRec}{K:Params->PySem.W.Frag}{CX:World->CXT}{sp:World->Sp}{x:Str}
  (hn:l.most=some n) (hn2:n<=sizeLine) (hdf:d.params.defaults=[]) (hr:bD k callerA)
  (hY:∀(w:World) (h:Heap),YP w h->(K w.params).In h)
  (F:∀(w:World) (mg:Str->Option Value) (fa:Addr) (h:Heap),(K w.params).In h->h.Ns mainGlobals mg->mg d.name=some (.ref fa) ->
   ∃fd:FuncData,(∀(s:Shared) (u:Value),BindsTo s fd ⟨[u],[]⟩ [(x,u)]) /\
    ∀base:Heap,(K w.params).In base->base.Ns mainGlobals mg->dH l.prog w (K w.params) mg base (CX w) k fa fd [x] (sp w))
  (hsp:∀(w:World) (H:Hp) (a:Addr) (ns:List Int),ns.length<=n->nj H->RdK (K w.params) H a (ns.map V.int)->sp w [.ref a] H (λv _=>v=.bl true) λ_ _ _=>False)
  (hCX:∀(w:World) (H:Hp) (s:Shared) (e:Value) (s':Shared),CX w [] H s (λ_ _ _=>False) e s'->False):
  PySem.W.WalkO q loose XP YP l.row.toRowW d [] (λf vs=>PySem.call f vs):=by
 refine Att.attach_call hn hdf λw s₀ s₁ mg mb fa o pm cd doc a vs ns G Y ho hd hcd hmg hobj hints hlen hg=>?_
 have KX:=hY w _ Y;obtain⟨fd,hb,hF⟩:=F w mg fa _ KX G.T.g hmg
 exact VF KX G.T.g G.T.b G.T.builtins G.T.nolimit hg hobj hints (zH hlen hn2) hr hF hb (λH hO hS=>hsp w H a ns hlen hO hS) λH e s'=>hCX w H s₁ e s'
theorem mj{K:Frag}{mg:Str->Option Value}{f:Str}:∀c∈([]:List Str),KC K mg c f:=λ_ h=>nomatch h
theorem mq{K:Frag}{mg:Str->Option Value}{f c:Str}{cs:List Str}(h:KC K mg c f)(hr:∀c∈cs,KC K mg c f):∀c'∈c::cs,KC K mg c' f:=λc' hc=>by
 rcases zn.mp hc with rfl | hc
 ·exact h
 ·exact hr c' hc
def wF:Nat:=1000000
def sp_law(K:Frag):Sp:=λvs H Q _=>∃(a:Addr) (ns:List Int),vs=[.ref a]/\RdK K H a (ns.map V.int)/\ns.length<=63/\nj H/\∀H',Q (.bl true) H'
theorem Rps.ofInts{K:Frag}{F:Hp}{as:List Addr}:∀ns:List Int,Rps K F as (ns.map V.int) (ns.map D.int)
 | []=>Rps.nil
 |n::ns=>Rps.cons Rp.int (Rps.ofInts ns)
theorem VH{K:Frag}{mg:Str->Option Value}{c:List D->au->Res D}(h:∀ns:List Int,ns.length<=63->∃O',c [.lst (ns.map D.int)] []=.ok (.bl true) O'):∀vs H Q E,sp_law K vs H Q E->vSp K mg [.s] (rV K) c vs H Q E:=by
 rintro vs H Q E ⟨a,ns,rfl,hS,hl,hO,q⟩;obtain⟨O',e⟩:=h ns hl
 have r:RlO K mg [] H H []:=⟨Same.refl H,λb o e=>by
  rcases hO b with z | ⟨o',xs,z⟩
  ·rw[e] at z;cases z
  ·rw[e] at z;cases z;rfl,List.nodup_nil,rfl,(λ_ z=>nomatch z),λn b o z=>by cases z⟩
 refine⟨[.lst (ns.map D.int)],[],H,[],.bl true,O',r,⟨.inl (Rp.mkL hS (Rps.ofInts ns)),trivial⟩,e,λv H' F' as' g r' hv=>?_⟩;rw[Rp.unB hv];exact q H'
def keyOf:D->Option Key
 | .int i=>some (.inl i)
 | .str l=>some (.inr (S l))
 | _=>none
theorem VJ{d:D}{k:Key}(h:keyOf d=some k):ph k=d:=by
 cases d with
 |int i=>cases h;rfl
 |str l=>cases h;show D.str (S l).cps.toList=_;rw[lL]
 | _=>cases h
theorem Rp.key{K:Frag}{F:Hp}{as:List Addr}{v:V}{d:D}{k:Key}(h:Rp K F as v d)(e:keyOf d=some k):v=kV k:=by
 cases d with
 |int i=>cases e;exact h.unI
 |str l=>cases e;exact h.unS
 | _=>cases e
section
variable {X:Cx}{md:List Md}{P:Pt}
def Prs(K:Frag)(F:Hp)(as:List Addr):List (V×V)->List (D×D)->Prop
 | [],[]=>True
 |p::ps,d::ds=>Rp K F as p.1 d.1/\Rp K F as p.2 d.2/\Prs K F as ps ds
 | _,_=>False
def DPE(X:Cx)(md:List Md)(P:Pt)(pos:Pos)(keys:List (Option Expr))(values:List Expr)(m:M (List (D×D))):Prop:=∃trs:List (TE×TE),
 PPs X pos keys values trs/\∀σ H Q,(∃ρ O F as kv O',RlO X.K X.mg O H F as/\SlO X.K md P ρ σ H F as/\m ρ O=.ok kv O'/\∀ps H' F' as',Gr H F as H' F' as'->RlO X.K X.mg O' H' F' as'->Prs X.K F' as' ps kv->Q ps H')->w6 trs σ H Q
def VL:M (List (D×D)):=λ_ O=>.ok [] O
def VM(mk mv:M D)(r:M (List (D×D))):M (List (D×D)):=λρ O=>(mk ρ O).bind λa O1=>(mv ρ O1).bind λb O2=>(r ρ O2).bind λps O3=>.ok ((a,b)::ps) O3
def keysOf:List (D×D)->Option (List Key)
 | []=>some []
 | (a,_)::r=>(keyOf a).bind λk=>(keysOf r).map (k :: ·)
theorem Prs.kvs{K:Frag}{F:Hp}{as:List Addr}:∀{kv:List (D×D)}{ps:List (V×V)}{ks:List Key},Prs K F as ps kv->keysOf kv=some ks ->
  ∃kvs:List (Key×V),ps=kvs.map (λp=>(kV p.1,p.2))/\kvs.map (·.1)=ks/\kv.map (·.1)=kvs.map (λp=>ph p.1)/\Rps K F as (kvs.map (·.2)) (kv.map (·.2))
 | [],ps,ks,h,e=>by
  cases ps with
  |nil=>cases e;exact⟨[],rfl,rfl,rfl,Rps.nil⟩
  |cons _ _=>exact h.elim
 | (a,b)::kv,ps,ks,h,e=>by
  cases ps with
  |nil=>exact h.elim
  |cons p ps =>
   obtain⟨p1,p2⟩:=p;unfold keysOf at e
   cases ea:keyOf a with
   |none=>rw[ea] at e;cases e
   |some k =>
    rw[ea] at e
    cases er:keysOf kv with
    |none=>rw[er] at e;cases e
    |some ks' =>
     rw[er] at e;cases e;obtain⟨kvs,h1,h2,h3,h4⟩:=Prs.kvs h.2.2 er;refine⟨(k,p2)::kvs,?_,?_,?_,Rps.cons h.2.1 h4⟩
     ·rw[zd,<-h1]
      have:p1=kV k:=Rp.key h.1 ea
      rw[this]
     ·rw[zd,h2]
     ·rw[zd,zd,h3,VJ ea]
def VN(m:M (List (D×D))):M D:=λρ O=>(m ρ O).bind λkv O1=>match keysOf kv with
 |some ks=>if ks.Nodup/\kv.length<=15 then .ok (.dic (kv.map (·.1)) (kv.map (·.2))) O1 else .no
 |none=>.no
theorem Prs.length{K:Frag}{F:Hp}{as:List Addr}:∀{kv:List (D×D)}{ps:List (V×V)},Prs K F as ps kv->ps.length=kv.length
 | [],[],_=>rfl
 | _::kv,_::ps,h=>by simp[Prs.length h.2.2]
 | [],_::_,h=>h.elim
 | _::_,[],h=>h.elim
end
section
variable {X:Cx}{md:List Md}{P:Pt}{k:Nat}{c x m:Str}{ps:List Str}{p pos apos:Pos}{o e:Expr}{es:List Expr}{pm:List Md}{cf:List D->au->Res D}{mo:M D}{ma:M (List D)}
theorem bL(C:Can X.prog X.w X.K X.mg X.base x ps k (vSp X.K X.mg pm (rV X.K) cf))(hr:bD k X.A)(ha:AE X md P pm (e::es) ma)(hg:Gl X x:=by rfl)(hdb:(x == ("__debug__":Str))=false:=by decide)(he:starEach (e::es) X.env=(false,eval e X.env)::starEach es X.env:=by exact dB rfl)(hpl:(backTo pos (starEach es X.env)).any (·.1)=false:=by exact fC rfl):
  VE X md P (.Call (.Name x p) (e::es) [] pos) (aJ cf ma):=Hm cj C hr ha hg hdb he hpl
theorem g8(C:Can X.prog X.w X.K X.mg X.base x ps k (vSp X.K X.mg pm (rO X.K) cf))(hr:bD k X.A)(ha:AE X md P pm (e::es) ma)(hg:Gl X x:=by rfl)(hdb:(x == ("__debug__":Str))=false:=by decide)(he:starEach (e::es) X.env=(false,eval e X.env)::starEach es X.env:=by exact dB rfl)(hpl:(backTo pos (starEach es X.env)).any (·.1)=false:=by exact fC rfl):
  OE X md P (.Call (.Name x p) (e::es) [] pos) (aJ cf ma):=Hm fG C hr ha hg hdb he hpl
theorem uB{pl:Sem Bool}(M:iG X.prog X.w X.K X.mg X.base c m ps k (vSp X.K X.mg (.v::pm) (rV X.K) cf))(hr:bD k X.A)(ho:VE X md P o mo)(ha:AE X md P pm (e::es) ma)(hst:starEach (e::es) X.env=(false,eval e X.env)::starEach es X.env:=by exact dB rfl)(hpl:(backTo pos (starEach es X.env)).any (·.1)=false:=by exact fC rfl)
  (ht:eval (.Call (.Attribute o m apos) (e::es) [] pos) X.env=(do
   let ov <-eval o X.env
   standAt apos.atName
   let (f,first) <-holding [ov] (getMethod ov m pl)
   callWith pos f first (backTo pos (starEach (e::es) X.env)) (backToKw pos (keywordEach [] X.env))):=by rfl):VE X md P (.Call (.Attribute o m apos) (e::es) [] pos) (cR c m cf mo ma):=HY cj M hr ho ha hst hpl ht
theorem xQ{pl:Sem Bool}(M:iG X.prog X.w X.K X.mg X.base c m ps k (vSp X.K X.mg (.v::pm) (rO X.K) cf))(hr:bD k X.A)(ho:VE X md P o mo)(ha:AE X md P pm (e::es) ma)(hst:starEach (e::es) X.env=(false,eval e X.env)::starEach es X.env:=by exact dB rfl)(hpl:(backTo pos (starEach es X.env)).any (·.1)=false:=by exact fC rfl)
  (ht:eval (.Call (.Attribute o m apos) (e::es) [] pos) X.env=(do
   let ov <-eval o X.env
   standAt apos.atName
   let (f,first) <-holding [ov] (getMethod ov m pl)
   callWith pos f first (backTo pos (starEach (e::es) X.env)) (backToKw pos (keywordEach [] X.env))):=by rfl):OE X md P (.Call (.Attribute o m apos) (e::es) [] pos) (cR c m cf mo ma):=HY fG M hr ho ha hst hpl ht
theorem Ib{pl:Sem Bool}(M:iG X.prog X.w X.K X.mg X.base c m ps k (vSp X.K X.mg [.v] (rV X.K) cf))(hr:bD k X.A)(ho:VE X md P o mo)
  (ht:eval (.Call (.Attribute o m apos) [] [] pos) X.env=(do
   let ov <-eval o X.env
   standAt apos.atName
   let (f,first) <-holding [ov] (getMethod ov m pl)
   callWith pos f first (backTo pos (starEach [] X.env)) (backToKw pos (keywordEach [] X.env))):=by rfl):VE X md P (.Call (.Attribute o m apos) [] [] pos) (cR c m cf mo aq):=Vy cj M hr ho ht
end
section
variable {X:Cx}{md:List Md}{P:Pt}{R:RR}{elts:List Expr}{x1:Nat}{tpos:Pos}
def kW:List D->List D->List D
 |d::ds,e::es=>.tup [d,e]::kW ds es
 | _,_=>[]
def Ie(ma mb:M D):M (List D):=λρ O=>(ma ρ O).bind λd O1=>(mb ρ O1).bind λe O2=>match d,e with
 | .lst ds,.lst es=>.ok (kW ds es) O2
 | _,_=>.no
def rH(m:MS):MS:=λρ O=>match m ρ O with
 | .rt d O'=>.rt d O'
 | _=>.no
theorem SlO.toV{K:Frag}{ρ:aD}{σ:St}{H F F':Hp}{as:List Addr}{i:Nat}(s:SlO K md P ρ σ H F as)(hm:md[i]?=some .o)(ff:Same F F')
  (hown:∀(j:Nat) (ds:List D) (a:Addr),j≠i->md[j]?=some .o->ρ[j]?=some (some (.lst ds))->σ[j]?=some (some (.ref a))->F' a=F a)
  (hv:∀d,ρ[i]?=some (some d)->∃v,σ[i]?=some (some v)/\Rp K F' as v d):SlO K (md.set i .v) P ρ σ H F' as:=by
 have hi:i<md.length:=(zl.mp hm).1
 have back:∀(j:Nat),(md.set i Md.v)[j]?=some Md.o->j≠i/\md[j]?=some .o:=λj e=>by
  by_cases hj:j=i
  ·subst hj;rw[zQ hi] at e;cases e
  ·rw[zq (Ne.symm hj)] at e;exact⟨hj,e⟩
 refine⟨by rw[ji];exact s.len,by rw[ji];exact s.len',s.pd,λj m d e1 e2=>?_,λj k a ds es h1 h2 h3 h4 h5 h6=>s.inj j k a ds es (back j h1).2 (back k h2).2 h3 h4 h5 h6,λx hx=>?_⟩
 ·by_cases hj:j=i
  ·subst hj;rw[zQ hi] at e1;cases e1;exact hv d e2
  ·rw[zq (Ne.symm hj)] at e1;obtain⟨v,q,t⟩:=s.sl j m d e1 e2;refine⟨v,q,?_⟩
   cases m with
   |v=>exact Rp.mono ff (λ_ _ z=>z) _ t
   |s =>
    rcases t with t | ⟨a,xs,ds,t1,t2,t3,t4,t5,t6⟩
    ·exact .inl (Rp.mono ff (λ_ _ z=>z) _ t)
    ·exact .inr ⟨a,xs,ds,t1,t2,t3,t4,t5,Rps.mono ff (λ_ _ z=>z) _ t6⟩
   |o =>
    rcases t with⟨t0,t⟩ | ⟨a,xs,ds,rfl,rfl,t3,t0,t4,t5,t6⟩
    ·exact .inl ⟨t0,Rp.mono ff (λ_ _ z=>z) _ t⟩
    ·exact .inr ⟨a,xs,ds,rfl,rfl,t3,by rw[hown j ds a hj e1 e2 q];exact t0,t4,t5,Rps.mono ff (λ_ _ z=>z) _ t6⟩
 ·obtain⟨p1,p2,p3⟩:=s.pin x hx
  have hne:i≠x.1:=λz=>by rw[<-z,hm] at p1;cases p1
  exact⟨by rw[zq hne];exact p1,p2,p3⟩
theorem VP{K:Frag}{mg:Str->Option Value}{i:Nat}{m:MS}(hm:md[i]?=some .o){D:Ends}{σ:St}{H:Hp}(q:tMS K mg md P R (rH m) D σ H):tMS K mg (md.set i .v) P R m D σ H:=by
 obtain⟨ρ,O,F,as,r,s,k⟩:=q;unfold rH at k
 cases e:m ρ O with
 |rt d O' =>
  rw[e] at k
  by_cases hl:∃ds,ρ[i]?=some (some (.lst ds))
  ·obtain⟨ds,hρ⟩:=hl;obtain⟨a,xs,h1,h2,h3,h4,h5,h6⟩:=s.own hm hρ
   have ff:Same F (upd F a (.lst xs)):=λb u q=>by rw[aP (cT q h3)];exact q
   have g0:GrS P H F as H (upd F a (.lst xs)) as:=⟨λc _ p _ _ _=>aP (λz=>h5 (by rw[<-z];exact p)),ff,⟨[],by simp,λ_ h=>nomatch h⟩,λ_ _ _ h _ _=>h,λ_ h=>h,λ_ _ _ h=>h⟩;refine⟨ρ,O,upd F a (.lst xs),as,r.frz h2 h3 h4 rfl,s.toV hm ff (λj es b hj m1 m2 m3=>?_) (λd' hd'=>?_),?_⟩
   ·refine aP λz=>hj ?_
    rw[z] at m3;exact s.inj j i a es ds m1 hm m2 hρ m3 h1
   ·rw[hρ] at hd';cases hd';exact⟨_,h1,Rp.mkL (.inl (.inl cA)) (Rps.mono ff (λ_ _ z=>z) _ h6)⟩
   ·rw[e]
    exact λv H' F' as' g r' hv=>k v H' F' as' (g0.trans g) r' hv
  ·refine⟨ρ,O,F,as,r,s.toV hm (Same.refl F) (λ_ _ _ _ _ _ _=>rfl) (λd' hd'=>?_),by rw[e];exact k⟩;obtain⟨v,h1,h2⟩:=s.sl i .o d' hm hd'
   rcases h2 with⟨_,h2⟩ | ⟨a,xs,ds,_,rfl,_⟩
   ·exact⟨v,h1,h2⟩
   ·exact absurd ⟨ds,hd'⟩ hl
 | _=>rw[e] at k;exact False.elim k
theorem VR(i:Nat){st:Stmt}{m:MS}(hm:md[i]?=some .o)(h:VS X (md.set i .v) P R st m):VS X md P R st (rH m):=h.imp λ_ _ _=>VP hm
theorem V0{st:List Stmt}:VSs X md P R st lO:=λpins s σ H D I q=>by
 obtain⟨ρ,O,F,as,r,s,k⟩:=q;exact False.elim k
end
section
variable {prog:Program}{w:World}{A:Around}{E:Value->Shared->Prop}
end
section
variable {X:Cx}{md:List Md}{P:Pt}{R:RR}
theorem V1{as:List Addr}{a:Addr}:∀(n:Nat) (c:Addr),as[n]?=some c->(as++[a])[n]?=some c:=λn c h=>by
 rw[zD (zl.mp h).1];exact h
theorem Ig{H F:Hp}{as:List Addr}{a:Addr}{h:HO}(ha:a∈as)(hh:H a=some h){o:HO}(hf:∀o u,h≠.frz o u:=by intro _ _ z;cases z):Gr H F as (upd H a o) F as :=
 ⟨λ_ _ _ _ _=>rfl,Same.refl F,⟨[],by simp,λ_ h=>nomatch h⟩,λc u e hn _=>by rw[aP (λz=>hn (by rw[z];exact ha))];exact e,λc e=>by
  by_cases h:c=a
  ·subst h;rw[cA] at e;cases e
  ·rwa [aP h] at e,λc o' u e=>by rw[aP (λz=>by rw[z,hh] at e;cases e;exact hf _ _ rfl)];exact e⟩
theorem RlO.ml{K:Frag}{mg:Str->Option Value}{O:au}{H F:Hp}{as:List Addr}{n:Nat}{a:Addr}{ds:List D}(r:RlO K mg O H F as)(hn:as[n]?=some a)(hO:O[n]?=some (.ml ds)):∃xs,H a=some (.lst xs)/\Rps K F as xs ds:=r.ob n a _ hn hO
end
def xR(K:Frag)(mg:Str->Option Value)(x:Str)(ls:List (List Nat)):Prop:=∃(a:Addr) (o:Obj) (its:Array Value) (n:Nat),mg x=some (.ref a)/\K.lookup a=some o/\o.cls=.type "tuple"/\o.data=.seq its n/\its.size<=sizeLine/\aR (ls.map λl=>V.str (S l)) its.toList
theorem Rps.texts{K:Frag}{F:Hp}{as:List Addr}:∀ls:List (List Nat),Rps K F as (ls.map λl=>V.str (S l)) (ls.map D.str)
 | []=>Rps.nil
 |l::ls=>Rps.cons Rp.str (Rps.texts ls)
theorem V2{X:Cx}{md:List Md}{P:Pt}{x:Str}{ls:List (List Nat)}{pos:Pos}(h:xR X.K X.mg x ls)(hg:Gl X x:=by rfl)(hdb:(x == ("__debug__":Str))=false:=by decide):VE X md P (.Name x pos) (mC (.tup (ls.map D.str))):=by
 obtain⟨a,o,its,n,hm,hk,h1,h2,h3,h4⟩:=h
 refine(GD (v:=.ref a) ⟨_,hm,rfl⟩ hg hdb).imp λσ H Q q=>?_
 obtain⟨ρ,O,F,as,d,O',r,s,e,k⟩:=q;cases e;exact k _ H F as Gr.refl r (Rp.mkT (.inr ⟨o,its,n,hk,h1,h2,h3,h4⟩) (Rps.texts ls))
theorem bV{α:Type}{p:List α->Prop}(h:p []):∀us:List α,us.length=0->p us:=λus e=>by
 cases us with
 |nil=>exact h
 |cons a as=>cases e
theorem aQ{α:Type}{p:List α->Prop}{n:Nat}(h:∀a,∀us:List α,us.length=n->p (a::us)):∀us:List α,us.length=n+1->p us:=λus e=>by
 cases us with
 |nil=>cases e
 |cons a as=>exact h a as (Nat.succ.inj e)
section
variable {prog:Program}{w:World}{κ:Type}[DecidableEq κ]{knd:HeapKind prog w κ}{A:Around}{E:Value->Shared->Prop}{s:Shared}
end
section
variable {X:Cx}{pins:List (Addr×Obj)}{σ:St}{H:Hp}{s:Shared}{a b:Addr}{v:V}{r:Value}{kvs:List (List Key×V)}{k:List Key}{A:Around}{E:Value->Shared->Prop}
end
def uC:List D->Option (List Key)
 | []=>some []
 | .int i::ds=>(uC ds).map (Sum.inl i :: ·)
 | _=>none
def pK:D->Option (List Key)
 | .tup (d::ds)=>uC (d::ds)
 | _=>none
theorem Rps.keys{K:Frag}{F:Hp}{as:List Addr}:∀{ds:List D}{xs:List V}{ks:List Key},Rps K F as xs ds->uC ds=some ks->xs=ks.map kV/\∃is:List Int,ks=is.map Sum.inl
 | [],xs,ks,h,e=>by cases e;exact⟨h.un0,[],rfl⟩
 | .int i::ds,xs,ks,h,e=>by
  obtain⟨x,r,rfl,h1,h2⟩:=h.un;obtain⟨ks',e1,rfl⟩:=Option.map_eq_some_iff.mp (show(uC ds).map (Sum.inl i :: ·)=some ks from e);obtain⟨q1,is,rfl⟩:=Rps.keys h2 e1;exact⟨by rw[h1.unI,q1];rfl,i::is,rfl⟩
 | .non::ds,xs,ks,h,e=>by cases e
 | .bl _::ds,xs,ks,h,e=>by cases e
 | .str _::ds,xs,ks,h,e=>by cases e
 | .lst _::ds,xs,ks,h,e=>by cases e
 | .tup _::ds,xs,ks,h,e=>by cases e
 | .dic _ _::ds,xs,ks,h,e=>by cases e
 | .ob _::ds,xs,ks,h,e=>by cases e
def rJ:List Value->Bool
 | []=>true
 | .int _ _::r=>rJ r
 | _=>false
def bH:Frag->Bool
 | []=>true
 |p::r=>(match p.2.data with
  | .seq its _=>its.toList.isEmpty || !rJ its.toList
  | _=>true)&&bH r
theorem Ih{a:Addr}{o:Obj}{its:Array Value}{n:Nat}:∀{K:Frag},bH K=true->List.lookup a K=some o->o.data=.seq its n->(its.toList.isEmpty || !rJ its.toList)=true
 | [],_,h,_=>by cases h
 |p::r,hk,h,hd=>by
  unfold bH at hk;rw[zp] at hk;rw[List.lookup_cons] at h;split at h
  ·cases h
   have:=hk.1
   rw[hd] at this;exact this
  ·exact Ih hk.2 h hd
theorem Ii:∀{is:List Int}{us:List Value},aR ((is.map (Sum.inl (β:=Str))).map kV) us->rJ us=true
 | [],us,h=>by cases h;rfl
 |i::is,us,h=>by
  cases h with
  | @cons _ u _ us' r1 r2 =>
   obtain⟨t,rfl⟩:∃t,u=.int i t:=r1;show rJ us'=true;exact Ii (is:=is) r2
theorem Rp.tkey{K:Frag}{F:Hp}{as:List Addr}{v:V}{d:D}{ks:List Key}(hk:bH K=true)(h:Rp K F as v d)(e:pK d=some ks):∃b,v=.ref b/\F b=some (.tup (ks.map kV)):=by
 cases d with
 |tup ds =>
  cases ds with
  |nil=>cases e
  |cons d ds =>
   obtain⟨b,xs,rfl,h1,h2⟩:=h.unT';obtain⟨ex,is,rfl⟩:=h2.keys e
   rcases h1 with h1 | ⟨o,its,n,l1,_,l3,_,l5⟩
   ·exact⟨b,rfl,by rw[h1,ex]⟩
   ·exfalso
    have q:=Ih hk l1 l3;rw[ex] at l5;rw[Ii l5,Bool.not_true,Bool.or_false,List.isEmpty_iff] at q;rw[q,<-ex] at l5;obtain⟨x,r,rfl,_,_⟩:=h2.un;cases l5
 | _=>cases e
def gH(kvs:List (List Key×D))(k:List Key):Option D:=(kvs.find? λp=>decide (p.1=k)).map (·.2)
def nU(kvs:List (List Key×D))(k:List Key)(d:D):List (List Key×D):=
 if(kvs.any λp=>decide (p.1=k))=true then kvs.map (λp=>if p.1=k then(p.1,d) else p) else kvs++[(k,d)]
def DtR(K:Frag)(F:Hp)(as:List Addr)(xs:List (List Key×V))(kvs:List (List Key×D)):Prop:=xs.map (·.1)=kvs.map (·.1)/\Rps K F as (xs.map (·.2)) (kvs.map (·.2))
section
variable {K:Frag}{mg:Str->Option Value}{O:au}{H F H' F':Hp}{as as':List Addr}
theorem DtR.len{xs:List (List Key×V)}{kvs:List (List Key×D)}(h:DtR K F as xs kvs):xs.length=kvs.length:=by
 have:=congrArg List.length h.1
 simpa using this
theorem DtR.un{xs:List (List Key×V)}{p:List Key×D}{kvs:List (List Key×D)}(h:DtR K F as xs (p::kvs)):∃v r,xs=(p.1,v)::r/\Rp K F as v p.2/\DtR K F as r kvs:=by
 obtain⟨h1,h2⟩:=h
 cases xs with
 |nil=>cases h1
 |cons x r =>
  obtain⟨v,r',e,q1,q2⟩:=h2.un;cases e;rw[zd,zd] at h1;have q3:=(List.cons.inj h1).1;refine⟨x.2,r,?_,q1,(List.cons.inj h1).2,q2⟩;rw[<-q3]
theorem DtR.val{k:List Key}:∀{kvs:List (List Key×D)}{xs:List (List Key×V)},DtR K F as xs kvs->(gH kvs k=none/\gq xs k=none)\/∃d v,gH kvs k=some d/\gq xs k=some v/\Rp K F as v d
 | [],xs,h=>by
  have:=h.len
  cases xs with
  |nil=>exact .inl ⟨rfl,rfl⟩
  |cons=>cases this
 |p::kvs,xs,h=>by
  obtain⟨v,r,rfl,h1,h2⟩:=h.un
  by_cases e:p.1=k
  ·exact .inr ⟨p.2,v,by simp[gH,List.find?_cons,e],ud e,h1⟩
  ·rw[show gH (p::kvs) k=gH kvs k by simp[gH,List.find?_cons,e],ue (p:=(p.1,v)) e];exact DtR.val h2
theorem DtR.any{k:List Key}:∀{kvs:List (List Key×D)}{xs:List (List Key×V)},DtR K F as xs kvs->(xs.any λp=>decide (p.1=k))=kvs.any λp=>decide (p.1=k)
 | [],xs,h=>by
  have:=h.len
  cases xs with
  |nil=>rfl
  |cons=>cases this
 |p::kvs,xs,h=>by
  obtain⟨v,r,rfl,h1,h2⟩:=h.un;rw[List.any_cons,List.any_cons,DtR.any h2]
theorem DtR.repl{k:List Key}{v:V}{d:D}(hv:Rp K F as v d):∀{kvs:List (List Key×D)}{xs:List (List Key×V)},DtR K F as xs kvs ->
  DtR K F as (xs.map λp=>if p.1=k then(p.1,v) else p) (kvs.map λp=>if p.1=k then(p.1,d) else p)
 | [],xs,h=>by
  have:=h.len
  cases xs with
  |nil=>exact⟨rfl,Rps.nil⟩
  |cons=>cases this
 |p::kvs,xs,h=>by
  obtain⟨u,r,rfl,h1,h2⟩:=h.un;obtain⟨i1,i2⟩:=DtR.repl (k:=k) hv h2
  by_cases e:p.1=k
  ·rw[zd,zd,if_pos e,if_pos e];exact⟨by rw[zd,zd,i1],Rps.cons hv i2⟩
  ·rw[zd,zd,if_neg e,if_neg e];exact⟨by rw[zd,zd,i1],Rps.cons h1 i2⟩
theorem DtR.put{xs:List (List Key×V)}{kvs:List (List Key×D)}(h:DtR K F as xs kvs)(k:List Key){v:V}{d:D}(hv:Rp K F as v d):DtR K F as (putK xs k v) (nU kvs k d):=by
 unfold putK nU;rw[h.any]
 split
 ·exact h.repl hv
 ·exact⟨by rw[zY,zY,h.1];rfl,by rw[zY,zY];exact Rps.snoc h.2 hv⟩
theorem DtR.mono{xs:List (List Key×V)}{kvs:List (List Key×D)}(h:DtR K F as xs kvs)(e:Same F F')(ea:∀(n:Nat) (a:Addr),as[n]?=some a->as'[n]?=some a):DtR K F' as' xs kvs:=⟨h.1,Rps.mono e ea _ h.2⟩
theorem RlO.dt{n:Nat}{a:Addr}{kvs:List (List Key×D)}(r:RlO K mg O H F as)(hn:as[n]?=some a)(hO:O[n]?=some (.dt kvs)):∃xs,H a=some (.dT xs)/\DtR K F as xs kvs:=let ⟨xs,h1,h2,h3⟩:=r.ob n a _ hn hO;⟨xs,h1,h2,h3⟩
theorem RlO.snocO{a:Addr}{o:Ob}(r:RlO K mg O H F as)(hF:F a=none)(ha:a∉as)(ho:ObR K mg H F (as++[a]) a o):RlO K mg (O++[o]) H F (as++[a]):=by
 refine⟨r.fh,r.fd,jq.mpr ⟨r.nd,by simp,λc hc d hd=>by rw[zm.mp hd];exact λz=>ha (z ▸ hc)⟩,by rw[zF,zF,r.len];rfl,λc hc=>?_,λn c u hc hu=>?_⟩
 ·rcases zJ.mp hc with hc | hc
  ·exact r.fa c hc
  ·rw[zm.mp hc];exact hF
 ·by_cases hn:n<as.length
  ·rw[zD hn] at hc;rw[zD (by rw[<-r.len];exact hn)] at hu;exact(r.ob n c u hc hu).keep rfl (Same.refl F) V1
  ·have hn':n=as.length:=by
    have:=(zl.mp hc).1
    rw[zF,jg] at this;omega
   subst hn';rw[zO (zc _),Nat.sub_self] at hc;rw[r.len,zO (zc _),Nat.sub_self] at hu;cases hc;cases hu;exact ho
theorem RlO.mutG{n:Nat}{a:Addr}{o:Ob}{h:HO}(r:RlO K mg O H F as)(hn:as[n]?=some a)(hx:ObR K mg (upd H a h) F as a o):RlO K mg (O.set n o) (upd H a h) F as:=by
 have ha:=zI hn;refine⟨λc u e=>?_,r.fd,r.nd,by rw[ji];exact r.len,r.fa,λm c u hc hu=>?_⟩
 ·rw[aP (λz=>by rw[z,r.fa a ha] at e;cases e)];exact r.fh c u e
 ·by_cases hm:m=n
  ·subst hm;rw[hn] at hc;cases hc
   have hlt:m<O.length:=by rw[<-r.len];exact(zl.mp hn).1
   rw[zQ hlt] at hu;cases hu;exact hx
  ·rw[zq (Ne.symm hm)] at hu
   refine(r.ob m c u hc hu).keep (aP λz=>hm ?_) (Same.refl F) λ_ _ h=>h
   obtain⟨q0,q1⟩:=zl.mp hc;obtain⟨p0,p1⟩:=zl.mp hn;exact(List.getElem_inj r.nd).mp (q1.trans (z.trans p1.symm))
theorem RlO.unF{p:Addr}(r:RlO K mg O H F as)(hp:H p=none):F p=none:=by
 cases e:F p with
 |none=>rfl
 |some o=>rw[r.fh p o e] at hp;cases hp
theorem Gr.snoc{p:Addr}{o:HO}(hp:H p=none):Gr H F as (upd H p o) F (as++[p]):=
 ⟨λ_ _ _ _ _=>rfl,Same.refl F,⟨[p],rfl,λa h=>by rw[zm.mp h];exact hp⟩,λa u e _ _=>by rw[aP (cT e hp)];exact e,λa e=>by
  by_cases h:a=p
  ·subst h;exact hp
  ·rwa [aP h] at e,λa o' u e=>by rw[aP (cT e hp)];exact e⟩
end
section
variable {X:Cx}{md:List Md}{P:Pt}{R:RR}
def rK:M D:=λ_ O=>.ok (.ob O.length) (O++[.dt []])
theorem Ij{pos:Pos}:VE X md P (.Dict [] [] pos) rK:=Tw.imp λσ H Q q p hp=>by
 obtain⟨ρ,O,F,as,d,O',r,s,e,k⟩:=q;cases e;refine k _ _ F (as++[p]) (Gr.snoc hp) ((r.lay hp).snocO (r.unF hp) (λz=>r.all z hp) ⟨[],cA,rfl,Rps.nil⟩) (Rp.mkO ?_);rw[<-r.len,zO (zc _),Nat.sub_self];rfl
def ig(mo my mv:M D):MS:=λρ O=>match mv ρ O with
 | .ok d O1=>match mo ρ O1 with
  | .ok (.ob n) O2=>match my ρ O2 with
   | .ok y O3=>match pK y,O3[n]? with
    |some k,some (.dt kvs)=>if kvs.length<1000000 then .nx ρ (O3.set n (.dt (nU kvs k d))) else .no
    | _,_=>.no
   | _=>.no
  | _=>.no
 | _=>.no
theorem xT{kk:Nat}(hk:bH X.K=true)(hr:bD kk X.A){o i value:Expr}{pos pos':Pos}{mo my mv:M D}(ho:VE X md P o mo)(hi:VE X md P i my)(hv:VE X md P value mv)
  (hs:swapsWith value (some (.Subscript o i pos')) pos.line X.env=pure false:=by rfl):VS X md P R (.Assign [.Subscript o i pos'] value pos) (ig mo my mv):=
 (Tt (uc hr) ho hi hv hs).imp λD σ H q=>by
  obtain⟨ρ,O,F,as,r,s,k⟩:=q;unfold ig at k;split at k
  ·rename_i d O1 e1;split at k
   ·rename_i n O2 e2;split at k
    ·rename_i y O3 e3;split at k
     ·rename_i ks kvs e4 e5;split at k
      ·rename_i hz;refine⟨ρ,O,F,as,_,_,r,s,e1,λv H1 F1 as1 g1 r1 hv=>⟨ρ,O1,F1,as1,_,_,r1,s.step g1,e2,λx H2 F2 as2 g2 r2 hx=>⟨ρ,O2,F2,as2,_,_,r2,s.step (g1.trans g2),e3,λu H3 F3 as3 g3 r3 hu=>?_⟩⟩⟩;obtain⟨a,rfl,ha⟩:=Rp.unO hx;have ha3:=g3.at_ n a ha;obtain⟨xs,x1,x2⟩:=r3.dt ha3 e5;obtain⟨b,rfl,hb⟩:=Rp.tkey hk hu e4;have hv3:=(show Rp X.K F1 as1 v d from hv).gr (g2.trans g3)
       have hl:xs.length<sizeLine:=by rw[x2.len];exact zG hz (by decide)
       have g4:Gr H3 F3 as3 (upd H3 a (.dT (putK xs ks v))) F3 as3:=Ig (zI ha3) x1;have gg:=((g1.trans g2).trans g3).trans g4;obtain⟨z1,z2⟩:=x2.put ks hv3;exact⟨a,_,rfl,nA.t x1 (r3.fh _ _ hb) hl,k σ _ F3 as3 gg.toS (r3.mutG ha3 ⟨_,cA,z1,z2⟩) (s.step gg)⟩
      ·exact False.elim k
     ·exact False.elim k
    ·exact False.elim k
   ·exact False.elim k
  ·exact False.elim k
end
section
variable {X:Cx}
open Classical in
noncomputable def eqR(s:Shared)(x:PyData)(u:Value):Bool:=decide (∃d as,Reads s.heap u d as/\d.canLay0=true/\PyData.eqv d x=true)
open Classical in
theorem QzQ{s:Shared}{x d:PyData}{u:Value}{as:List Addr}(h:Reads s.heap u d as)(hd:d.canLay0=true):eqR s x u=PyData.eqv d x:=by
 unfold eqR
 cases e:PyData.eqv d x with
 |true=>exact zh ⟨d,as,h,hd,e⟩
 |false =>
  refine zg λ⟨d',as',h',hd',e'⟩=>?_
  rw[<-SeqAt.Reads.unique d d' u as as' hd h h',e] at e';cases e'
end
section
variable {X:Cx}{md:List Md}{P:Pt}{R:RR}
end
section
variable {K:Frag}{mg:Str->Option Value}{O:au}{H F:Hp}{as:List Addr}
end
section
variable {X:Cx}{md:List Md}{P:Pt}{R:RR}
end
section
variable {X:Cx}{md:List Md}{P:Pt}{R:RR}
end
end L2
namespace L2
open PySem PySem.Spec PyProof.Rows PySem.W PySem.Calls
section
variable {prog:Program}{w:World}{A:Around}{E:Value->Shared->Prop}{s:Shared}{a:Addr}{vs out:List Value}{p:Array Nat}
end
section
variable {X:Cx}
theorem Rps.getD{K:Frag}{F:Hp}{as:List Addr}{ds:List D}{xs:List V}(h:Rps K F as xs ds)(i:Nat):Rp K F as (xs.getD i V.non) (ds.getD i .non):=by
 rw[jc,jc]
 cases e:ds[i]? with
 |none =>
  have:xs[i]?=none:=by
   rw[List.getElem?_eq_none_iff] at e ⊢;rw[h.length];exact e
  rw[this];exact Rp.non
 |some d =>
  obtain⟨v,hv,r⟩:=h.get' e;rw[hv];exact r
end
structure Ik(mg:Str->Option Value):Prop extends Blt mg where
 sorted_:mg "sorted" = none
end L2
namespace L2
open PySem PySem.Spec PyProof.Rows
abbrev ju(h:Heap)(z TI TO T:Addr)(b:Bool):Prop :=
 h.get? z=some {cls:=.type "zip",dict:=none,data:=.fields #[rawInt T,.bool b,.bool false,.ref TI,.ref TO],slots:=#[]}
section
variable {prog:Program}{w:World}{A:Around}{E:Value->Shared->Prop}{s:Shared}
theorem V3{a:Addr}{o:Obj}{Q:Option Obj->Shared->Prop}(h:s.heap.get? a=some o)(hQ:Q (some o) s):wpAny (model prog w) A (loadIfAlive a) Q E s:=by
 have:wpAny (model prog w) A (loadIfAlive a) Q E s↔wpAny (model prog w) A (pure (s.heap.get? a)) Q E s:=by
  unfold loadIfAlive wpAny;simp[Sem.wp_loadIfAlive]
 rw[this,h];exact zb hQ
theorem Il{z TI TO T:Addr}{b:Bool}{o:Obj}{Q:Bool->Shared->Prop}(hz:ju s.heap z TI TO T b)(hT:s.heap.get? T=some o)
  (hQ:∀h',ju h' z TI TO T true->Heap.SameBut z s.heap h'->Q false {s with heap:=h'}):wpAny (model prog w) A (Builtin.SmallTypes.ownedTupleIsFree (.ref z)) Q E s:=by
 unfold Builtin.SmallTypes.ownedTupleIsFree;refine za (wpAny_field hz rfl (x:=rawInt T) rfl ?_);show wpAny _ _ (loadIfAlive ((T:Int).toNat) >>= _) _ _ _;rw[Int.toNat_natCast];refine za (V3 hT ?_);show wpAny _ _ (field (.ref z) 1 >>= _) _ _ _;refine za (wpAny_field hz rfl (x:=.bool b) rfl ?_)
 cases b with
 |true =>
  exact zb (hQ s.heap hz (Heap.SameBut.refl _ _))
 |false =>
  exact za (wpAny_setField_rec hz (by simp) λh1 hz1 hs1=>zb (hQ h1 hz1 hs1))
theorem V4{z TI TO T i1 i2 l1 l2:Addr}{o:Obj}{b:Bool}{k1 k2:Nat}{xs ys:Array Value}{x y:Value}{Q:Value->Shared->Prop}(D:ZipApart z TI TO i1 i2 l1 l2)
  (hz:ju s.heap z TI TO T b) (hT:s.heap.get? T=some o) (hTI:IsPair s.heap TI (.ref i1) (.ref i2))
  (h1:s.heap.IsListIter i1 l1 k1) (h2:s.heap.IsListIter i2 l2 k2) (hl1:s.heap.IsList l1 xs) (hl2:s.heap.IsList l2 ys) (hx:xs[k1]?=some x) (hy:ys[k2]?=some y)
  (hQ:∀h',ju h' z TI TO T true->h'.IsListIter i1 l1 (k1+1)->h'.IsListIter i2 l2 (k2+1)->IsPair h' s.heap.objs.size x y->h'.objs.size=s.heap.objs.size+1 ->
   (∀c o,c≠z->c≠i1->c≠i2->s.heap.get? c=some o->h'.get? c=some o)->Q (.ref s.heap.objs.size) {s with heap:=h'}):
  wpAny (model prog w) A (Builtin.«zip.__next__» ⟨[.ref z],[]⟩) (λfin s'=>∃v,fin=.done (.ret v)/\Q v s') E s:=by
 show wpAny _ _ (field (.ref z) 2 >>= _) _ _ _;refine za (wpAny_field hz rfl (x:=.bool false) rfl ?_);show wpAny _ _ (field (.ref z) 3 >>= _) _ _ _;refine za (wpAny_field hz rfl (x:=.ref TI) rfl ?_);refine za (wpAny_seqItems hTI rfl ?_);show wpAny _ _ (Builtin.SmallTypes.ownedTupleIsFree (.ref z) >>= _) _ _ _;refine za (Il hz hT λh₁ hz₁ hs₁=>?_);simp only[Bool.false_eq_true,if_false];refine za ?_;simp only[<-Array.forIn_toList,List.forIn_cons,List.forIn_nil];refine za (za (zM ?_));show wpAny _ _ (Builtin.SmallTypes.nextOf (.ref i1) >>= _) _ _ _;refine za (wpAny_nextOf_list_item (h1.extBut hs₁.extBut D.i1z) (hl1.extBut hs₁.extBut D.l1z) hx λh₂ h1₂ hs₂=>zb (zb ?_))
 dsimp only;refine za (za (zM ?_));show wpAny _ _ (Builtin.SmallTypes.nextOf (.ref i2) >>= _) _ _ _;refine za (wpAny_nextOf_list_item ((h2.extBut hs₁.extBut D.i2z).extBut hs₂.extBut D.i12.symm) ((hl2.extBut hs₁.extBut D.l2z).extBut hs₂.extBut D.l2i1) hy λh₃ h2₃ hs₃=>zb (zb ?_));dsimp only;refine zb ?_;refine za (wpAny_newTuple ?_ (by show 2<=sizeLine;decide))
 have hsz:h₃.objs.size=s.heap.objs.size:=by rw[hs₃.1,hs₂.1,hs₁.1]
 have hz₃:ju h₃ z TI TO T true:=hs₃.extBut _ _ D.i2z.symm (hs₂.extBut _ _ D.i1z.symm hz₁);refine zb ⟨_,rfl,?_⟩;show Q (.ref h₃.objs.size) _;rw[hsz];have fin:=hQ (h₃.push {cls:=.type "tuple",data:=.seq #[x,y]}) (zk _ hz₃) ((h1₂.extBut hs₃.extBut D.i12).at λo e=>zk _ e) (h2₃.at λo e=>zk _ e)
  (by rw[<-hsz];exact zz _ rfl) (by rw[Heap.size_push,hsz]) λc o c1 c2 c3 e=>zk _ (hs₃.extBut _ _ c3 (hs₂.extBut _ _ c2 (hs₁.extBut _ _ c1 e)))
 exact fin
theorem V5{z TI TO T i1 i2 l1 l2:Addr}{o:Obj}{b:Bool}{k1 k2:Nat}{xs ys:Array Value}{Q:PySem.Fin->Shared->Prop}(hh:A.handled=none)(D:ZipApart z TI TO i1 i2 l1 l2)
  (hz:ju s.heap z TI TO T b) (hT:s.heap.get? T=some o) (hTI:IsPair s.heap TI (.ref i1) (.ref i2))
  (h1:s.heap.IsListIter i1 l1 k1) (h2:s.heap.IsListIter i2 l2 k2) (hl1:s.heap.IsList l1 xs) (hl2:s.heap.IsList l2 ys) (hend:xs[k1]?=none\/ys[k2]?=none)
  (hE:∀h' e,(∀c o,c≠z->c≠i1->c≠i2->s.heap.get? c=some o->h'.get? c=some o)->(∃o,h'.get? e=some o/\o.cls=.type "StopIteration")->E (.ref e) {s with heap:=h'}):
  wpAny (model prog w) A (Builtin.«zip.__next__» ⟨[.ref z],[]⟩) Q E s:=by
 show wpAny _ _ (field (.ref z) 2 >>= _) _ _ _;refine za (wpAny_field hz rfl (x:=.bool false) rfl ?_);show wpAny _ _ (field (.ref z) 3 >>= _) _ _ _;refine za (wpAny_field hz rfl (x:=.ref TI) rfl ?_);refine za (wpAny_seqItems hTI rfl ?_);show wpAny _ _ (Builtin.SmallTypes.ownedTupleIsFree (.ref z) >>= _) _ _ _;refine za (Il hz hT λh₁ hz₁ hs₁=>?_);simp only[Bool.false_eq_true,if_false];refine za ?_;simp only[<-Array.forIn_toList,List.forIn_cons,List.forIn_nil];refine za (za (zM ?_));show wpAny _ _ (Builtin.SmallTypes.nextOf (.ref i1) >>= _) _ _ _
 cases hx:xs[k1]? with
 |none =>
  refine za (wpAny_nextOf_list_end hh (h1.extBut hs₁.extBut D.i1z) (hl1.extBut hs₁.extBut D.l1z) hx λh₂ e hs₂ he=>?_);exact hE h₂ e (λc o c1 c2 c3 x=>hs₂ _ _ c2 (hs₁.extBut _ _ c1 x)) he
 |some x =>
  have hy:ys[k2]?=none:=by rcases hend with h | h;rw[hx] at h;cases h;exact h
  refine za (wpAny_nextOf_list_item (h1.extBut hs₁.extBut D.i1z) (hl1.extBut hs₁.extBut D.l1z) hx λh₂ h1₂ hs₂=>zb (zb ?_));dsimp only;refine za (za (zM ?_));show wpAny _ _ (Builtin.SmallTypes.nextOf (.ref i2) >>= _) _ _ _;refine za (wpAny_nextOf_list_end hh ((h2.extBut hs₁.extBut D.i2z).extBut hs₂.extBut D.i12.symm) ((hl2.extBut hs₁.extBut D.l2z).extBut hs₂.extBut D.l2i1) hy λh₃ e hs₃ he=>?_);exact hE h₃ e (λc o c1 c2 c3 x=>hs₃ _ _ c3 (hs₂.extBut _ _ c2 (hs₁.extBut _ _ c1 x))) he
theorem V6{z TI TO T i1 i2 l1 l2:Addr}{o:Obj}{b:Bool}{k1 k2:Nat}{xs ys:Array Value}{x y:Value}{Q:Option Value->Shared->Prop}(D:ZipApart z TI TO i1 i2 l1 l2)
  (hz:ju s.heap z TI TO T b) (hT:s.heap.get? T=some o) (hTI:IsPair s.heap TI (.ref i1) (.ref i2))
  (h1:s.heap.IsListIter i1 l1 k1) (h2:s.heap.IsListIter i2 l2 k2) (hl1:s.heap.IsList l1 xs) (hl2:s.heap.IsList l2 ys) (hx:xs[k1]?=some x) (hy:ys[k2]?=some y)
  (hQ:∀h',ju h' z TI TO T true->h'.IsListIter i1 l1 (k1+1)->h'.IsListIter i2 l2 (k2+1)->IsPair h' s.heap.objs.size x y->h'.objs.size=s.heap.objs.size+1 ->
   (∀c o,c≠z->c≠i1->c≠i2->s.heap.get? c=some o->h'.get? c=some o)->Q (some (.ref s.heap.objs.size)) {s with heap:=h'}):
  wpAny (model prog w) A (pyNext (.ref z)) Q E s:=by
 have hTy:s.TypeIs (.ref z) "zip":=⟨_,hz,rfl⟩;unfold pyNext
 exact za (wpAny_attempt (wpAny_callSpecial?_slot (name:=Str.ofString "__next__") hTy F.slot_zip_next
  (wpAny_call_entry F.slot_zip_next hTy F.entry_zip_next
   (V4 D hz hT hTI h1 h2 hl1 hl2 hx hy λh' a1 a3 a4 a5 a6 a7=>zb (hQ h' a1 a3 a4 a5 a6 a7)) (F.args_zip_next_1 _))))
theorem V7{z TI TO T i1 i2 l1 l2:Addr}{o:Obj}{b:Bool}{k1 k2:Nat}{xs ys:Array Value}{Q:Option Value->Shared->Prop}(hh:A.handled=none)(D:ZipApart z TI TO i1 i2 l1 l2)
  (hz:ju s.heap z TI TO T b) (hT:s.heap.get? T=some o) (hTI:IsPair s.heap TI (.ref i1) (.ref i2))
  (h1:s.heap.IsListIter i1 l1 k1) (h2:s.heap.IsListIter i2 l2 k2) (hl1:s.heap.IsList l1 xs) (hl2:s.heap.IsList l2 ys) (hend:xs[k1]?=none\/ys[k2]?=none)
  (hQ:∀h',(∀c o,c≠z->c≠i1->c≠i2->s.heap.get? c=some o->h'.get? c=some o)->Q none {s with heap:=h'}):wpAny (model prog w) A (pyNext (.ref z)) Q E s:=by
 have hTy:s.TypeIs (.ref z) "zip":=⟨_,hz,rfl⟩;unfold pyNext
 refine za (wpAny_attempt (wpAny_callSpecial?_slot (name:=Str.ofString "__next__") hTy F.slot_zip_next
  (wpAny_call_entry F.slot_zip_next hTy F.entry_zip_next (V5 hh D hz hT hTI h1 h2 hl1 hl2 hend λh' e hk he=>?_) (F.args_zip_next_1 _))))
 obtain⟨o',ho',hc⟩:=he;refine za (wpAny_isInstance (T:="StopIteration") (b:=true) ⟨o',ho',hc⟩ isSubtype_stop ?_);exact zb (hQ _ hk)
structure ZS(base:Nat)(h:Heap)(z TI TO i1 i2 l1 l2 S:Addr)(xs ys acc:Array Value)(c i:Nat):Prop where
 zi:(IsZip h z TI TO .none/\∃a b,IsPair h TO a b)\/∃T b o,ju h z TI TO T b/\h.get? T=some o/\T∉[z,TO,i1,i2,S]
 ti:IsPair h TI (.ref i1) (.ref i2)
 it1:h.IsListIter i1 l1 i
 it2:h.IsListIter i2 l2 i
 a1:h.IsList l1 xs
 a2:h.IsList l2 ys
 ls:h.get? S=some {cls:=.type "list",dict:=none,data:=.seq acc c,slots:=#[]}
 sz:acc.size=i
 tl:TO<h.objs.size
 nd:acc.toList.Nodup
 ts:∀(j:Nat) (v:Value),acc[j]?=some v->∃(T:Addr) (x y:Value),v=Value.ref T/\xs[j]?=some x/\ys[j]?=some y/\IsPair h T x y/\T∉[z,TO,i1,i2,S]/\base<=T
variable {R:PySem.Result->Shared->Prop}
theorem V8{z TI TO i1 i2 l1 l2 S:Addr}{xs ys:Array Value}{n base:Nat}(hh:A.handled=none)(D:ZipApart z TI TO i1 i2 l1 l2)(hS:S∉[z,TI,TO,i1,i2,l1,l2])(res:Value)(hn:n<=sizeLine)(hn1:n<=xs.size)(hn2:n<=ys.size)(hne:n=xs.size\/n=ys.size):
  ∀(k i:Nat) (s:Shared) (acc:Array Value) (c:Nat),n - i=k->i<=n->ZS base s.heap z TI TO i1 i2 l1 l2 S xs ys acc c i->base<=s.heap.objs.size ->
  (∀(h':Heap) (acc':Array Value) (c':Nat),(∀b o,b∉[z,TO,i1,i2,S]->s.heap.get? b=some o->h'.get? b=some o)->h'.get? S=some {cls:=.type "list",dict:=none,data:=.seq acc' c',slots:=#[]}->acc'.size=n->acc'.toList.Nodup ->
   (∀(j:Nat) (v:Value),acc'[j]?=some v->∃(T:Addr) (x y:Value),v=Value.ref T/\xs[j]?=some x/\ys[j]?=some y/\IsPair h' T x y/\T∉[z,TO,i1,i2,S]/\base<=T)->R (.ok (.ret res)) {s with heap:=h'}) ->
  codeAny (model prog w) A (.builtin "list.extend.loop" ⟨[.ref S,.ref z,res],[]⟩) R s:=by
 simp only[zn,List.not_mem_nil,or_false,not_or] at hS;obtain⟨S1,S2,S3,S4,S5,S6,S7⟩:=hS
 have nin:∀b:Addr,b∉[z,TO,i1,i2,S]↔b≠z/\b≠TO/\b≠i1/\b≠i2/\b≠S:=λb=>by simp only[zn,List.not_mem_nil,or_false,not_or]
 intro k
 induction k with
 |zero =>
  intro i s acc c hk hi st hb hR
  have hin:i=n:=by omega
  subst hin;refine je F.entry_extend_loop ?_;rw[Around.under_plainId F.plain_extend_loop _];show wpAny _ A.in1 (pyNext (.ref z) >>= _) _ _ s
  have hend:xs[i]?=none\/ys[i]?=none:=by
   rcases hne with e | e
   ·left;rw[Array.getElem?_eq_none_iff];omega
   ·right;rw[Array.getElem?_eq_none_iff];omega
  have fin:∀h',(∀b o,b≠z->b≠TO->b≠i1->b≠i2->s.heap.get? b=some o->h'.get? b=some o)->R (.ok (.ret res)) {s with heap:=h'}:=λh' kp =>
   hR h' acc c (λb o hb e=>by obtain⟨b1,b2,b3,b4,b5⟩:=(nin b).mp hb;exact kp b o b1 b2 b3 b4 e) (kp S _ S1 S3 S4 S5 st.ls) st.sz st.nd λj v hv=>by
    obtain⟨T,x,y,e1,e2,e3,e4,e5,e6⟩:=st.ts j v hv;obtain⟨b1,b2,b3,b4,b5⟩:=(nin T).mp e5;exact⟨T,x,y,e1,e2,e3,kp T _ b1 b2 b3 b4 e4,e5,e6⟩
  rcases st.zi with⟨hz,a,b,hTO⟩ | ⟨T,b,o,hz,hT,_⟩
  ·exact za (wpAny_pyNext_zip_end hh D hz st.ti hTO st.it1 st.it2 st.a1 st.a2 hend λh' kp=>zb (fin h' kp))
  ·exact za (V7 hh D hz hT st.ti st.it1 st.it2 st.a1 st.a2 hend λh' kp=>zb (fin h' λb o b1 b2 b3 b4 e=>kp b o b1 b3 b4 e))
 |succ k ih =>
  intro i s acc c hk hi st hb hR
  have hlt:i<n:=by omega
  have hx:xs[i]?=some (xs[i]'(by omega)):=Array.getElem?_eq_getElem _;have hy:ys[i]?=some (ys[i]'(by omega)):=Array.getElem?_eq_getElem _
  generalize xs[i]'(by omega)=x at hx
  generalize ys[i]'(by omega)=y at hy
  refine je F.entry_extend_loop ?_;rw[Around.under_plainId F.plain_extend_loop _];show wpAny _ A.in1 (pyNext (.ref z) >>= _) _ _ s
  have ltz:z<s.heap.objs.size:=by rcases st.zi with⟨hz,_⟩ | ⟨T,b,o,hz,_⟩<;>exact zf hz
  have ltS:S<s.heap.objs.size:=zf st.ls
  have lt1:i1<s.heap.objs.size:=by obtain⟨_,e,_⟩:=st.it1;exact zf e
  have lt2:i2<s.heap.objs.size:=by obtain⟨_,e,_⟩:=st.it2;exact zf e
  have nxt:wpAny (model prog w) A.in1 (pyNext (.ref z)) (λr s1=>∃h',r=some (.ref s.heap.objs.size)/\s1 = {s with heap:=h'}/\(∃T b o,ju h' z TI TO T b/\h'.get? T=some o/\(T=s.heap.objs.size\/T∉[z,TO,i1,i2,S]))/\h'.IsListIter i1 l1 (i+1)/\h'.IsListIter i2 l2 (i+1)/\IsPair h' s.heap.objs.size x y/\h'.objs.size=s.heap.objs.size+1 /\
    ∀c o,c≠z->c≠TO->c≠i1->c≠i2->s.heap.get? c=some o->h'.get? c=some o) (λ_ _=>False) s:=by
   rcases st.zi with⟨hz,a,b,hTO⟩ | ⟨T,b,o,hz,hT,hTn⟩
   ·exact wpAny_pyNext_zip_item D hz st.ti hTO st.it1 st.it2 st.a1 st.a2 hx hy λh' q1 q2 q3 q4 q5 q6 q7=>⟨h',rfl,rfl,⟨_,false,_,q1,q5,.inl rfl⟩,q3,q4,q5,q6,q7⟩
   ·obtain⟨n1,n2,n3,n4,n5⟩:=(nin T).mp hTn
    exact V6 D hz hT st.ti st.it1 st.it2 st.a1 st.a2 hx hy λh' q1 q3 q4 q5 q6 q7=>⟨h',rfl,rfl,⟨T,true,o,q1,q7 T o n1 n3 n4 hT,.inr hTn⟩,q3,q4,q5,q6,λc o c1 c2 c3 c4 e=>q7 c o c1 c3 c4 e⟩
  have ltO:TO≠s.heap.objs.size:=zu st.tl;have hnew:s.heap.objs.size∉[z,TO,i1,i2,S]:=(nin _).mpr ⟨Nat.ne_of_gt ltz,ltO.symm,Nat.ne_of_gt lt1,Nat.ne_of_gt lt2,Nat.ne_of_gt ltS⟩;refine za (zL nxt ?_ λ_ _ x=>x.elim);rintro r s1 ⟨h',rfl,rfl,⟨T,b,o,hz',hT',hTn'⟩,j1,j2,hp,hsz,kp⟩;have hS':=kp S _ S1 S3 S4 S5 st.ls
  have oth:∀c o,c≠S->h'.get? c=some o->(h'.update S (Obj.mapSeq (·.push (Value.ref s.heap.objs.size)))).get? c=some o:=λc o hc e=>(jf _ _ (Ne.symm hc)).trans e
  have hTn2:T∉[z,TO,i1,i2,S]:=by
   rcases hTn' with e | e
   ·rw[e];exact hnew
   ·exact e
  have hnd:(acc.push (Value.ref s.heap.objs.size)).toList.Nodup:=by
   rw[Array.toList_push,jq];refine⟨st.nd,by simp,λv hv w hw=>?_⟩;rw[zm.mp hw];rintro rfl;obtain⟨j,hj⟩:=List.mem_iff_getElem?.mp hv;obtain⟨T2,x2,y2,f1,_,_,f4,_⟩:=st.ts j _ (by simpa using hj);cases f1;exact zP _ (zf f4)
  show wpAny _ A.in1 (updateSeq S (·.push (.ref s.heap.objs.size)) >>= _) _ _ _;refine za ?_
  refine jb hS' rfl (zb ⟨plainId_quiet F.plain_extend_loop _,ih (i+1) _ (acc.push (.ref s.heap.objs.size)) _ (by omega) hlt ⟨.inr ⟨T,b,o,oth z _ (Ne.symm S1) hz',oth T _ ((nin T).mp hTn2).2.2.2.2 hT',hTn2⟩,
   oth TI _ (Ne.symm S2) (kp TI _ D.TIz D.TITO D.TIi1 D.TIi2 st.ti),j1.at λo e=>oth i1 o (Ne.symm S4) e,j2.at λo e=>oth i2 o (Ne.symm S5) e,
   st.a1.at λo e=>oth l1 o (Ne.symm S6) (kp l1 o D.l1z D.l1TO D.l1i1 D.l1i2 e),st.a2.at λo e=>oth l2 o (Ne.symm S7) (kp l2 o D.l2z D.l2TO D.l2i1 D.l2i2 e),Heap.get?_update_self _ hS' rfl,by rw[Array.size_push,st.sz],by rw[Heap.size_update,hsz];exact jd st.tl,hnd,λj v hv=>?_⟩ ?_ λh2 acc' c' kp2 e1 e2 en e3=>?_⟩)
   (by rw[st.sz];omega) (by show(acc.push _).size<=sizeLine+1;rw[Array.size_push,st.sz];omega)
  ·rw[Array.getElem?_push] at hv;split at hv
   ·rename_i e;rw[st.sz] at e;cases hv;subst e;exact⟨_,x,y,rfl,hx,hy,oth _ _ (Nat.ne_of_gt ltS) hp,hnew,hb⟩
   ·obtain⟨T2,x2,y2,f1,f2,f3,f4,f5,f6⟩:=st.ts j v hv;obtain⟨n1,n2,n3,n4,n5⟩:=(nin T2).mp f5;exact⟨T2,x2,y2,f1,f2,f3,oth T2 _ n5 (kp T2 _ n1 n2 n3 n4 f4),f5,f6⟩
  ·rw[Heap.size_update,hsz];omega
  ·refine hR h2 acc' c' (λb o hb' e=>kp2 b o hb' ?_) e1 e2 en e3;obtain⟨n1,n2,n3,n4,n5⟩:=(nin b).mp hb';exact oth b o n5 (kp b o n1 n2 n3 n4 e)
theorem V9:typeLookup (.type "zip") "__len__" = pure none:=by rw[typeLookup_type,builtinLookup_eq_fast];kernel_rfl
theorem Wa:typeLookup (.type "zip") "__length_hint__" = pure none:=by rw[typeLookup_type,builtinLookup_eq_fast];kernel_rfl
theorem Wb{z TI TO i1 i2 l1 l2 S:Addr}{xs ys:Array Value}{n base:Nat}(hh:A.handled=none)(D:ZipApart z TI TO i1 i2 l1 l2)(hSn:S∉[z,TI,TO,i1,i2,l1,l2])(res:Value)(hn:n<=sizeLine)(hn1:n<=xs.size)(hn2:n<=ys.size)(hne:n=xs.size\/n=ys.size)(c₀:Nat)(hb:base<=s.heap.objs.size)
  (hz:IsZip s.heap z TI TO .none) (st:ZS base s.heap z TI TO i1 i2 l1 l2 S xs ys #[] c₀ 0)
  (hR:∀(h':Heap) (acc':Array Value) (c':Nat),(∀b o,b∉[z,TO,i1,i2,S]->s.heap.get? b=some o->h'.get? b=some o)->h'.get? S=some {cls:=.type "list",dict:=none,data:=.seq acc' c',slots:=#[]}->acc'.size=n->acc'.toList.Nodup ->
   (∀(j:Nat) (v:Value),acc'[j]?=some v->∃(T:Addr) (x y:Value),v=Value.ref T/\xs[j]?=some x/\ys[j]?=some y/\IsPair h' T x y/\T∉[z,TO,i1,i2,S]/\base<=T)->R (.ok (.ret res)) {s with heap:=h'}):
  wpAny (model prog w) A.in1 (Builtin.List.listExtendWith (.ref S) (.ref z) res)
   (λfin s'=>match fin with | .done f=>R (.ok f) s' | .again c'=>c'.quiet=true/\codeAny (model prog w) A c' R s') (λe s'=>R (.error e) s') s:=by
 have hSn':=hSn;simp only[zn,List.not_mem_nil,or_false,not_or] at hSn';obtain⟨S1,S2,S3,S4,S5,S6,S7⟩:=hSn';have hTy:s.TypeIs (.ref z) "zip":=⟨_,hz,rfl⟩;unfold Builtin.List.listExtendWith;refine za (wpAny_typeOf hTy ?_)
 have h1:Builtin.List.listSameRef (.ref S) (.ref z)=false:=by simp[Builtin.List.listSameRef,S1]
 have h2:(Value.type "zip" == Value.type "list")=false:=by decide
 have h3:(Value.type "zip" == Value.type "tuple")=false:=by decide
 simp only[h1,h2,h3,Bool.or_false,Bool.false_eq_true,if_false];refine za (wpAny_pyIter_zip hz ?_);refine za (zM ?_);unfold Builtin.List.listLengthHint;refine za (wpAny_specialOf hTy V9 ?_);show wpAny _ A.in1 (specialOf (Value.ref z) (Str.ofString "__length_hint__") >>= _) _ _ _;refine za (wpAny_specialOf hTy Wa ?_);refine zb ?_
 show wpAny _ A.in1 (rule "list.extend.makes-room" >>= λ_=>Builtin.List.listTouch (.ref S) >>= λ_ =>
  again (.builtin "list.extend.loop" ⟨[.ref S,.ref z,res],[]⟩)) _ _ _
 refine za (ja ?_);refine za ?_;show wpAny _ A.in1 (updateSeq S (·.push .none) >>= λ_=>updateSeq S (·.pop)) _ _ _;have hS:=st.ls;refine za (jb hS rfl ?_);have hS₂:=Heap.get?_update_self (Obj.mapSeq (·.push Value.none)) hS rfl;refine jb (hz:=by seq_fits) hS₂ rfl ?_;have hS₃:=Heap.get?_update_self (Obj.mapSeq (·.pop)) hS₂ rfl;have oth:∀b o,b≠S->s.heap.get? b=some o->((s.heap.update S (Obj.mapSeq (·.push Value.none))).update S (Obj.mapSeq (·.pop))).get? b=some o :=
  λb o hb e=>(jf _ _ (Ne.symm hb)).trans ((jf _ _ (Ne.symm hb)).trans e)
 obtain⟨a,b',hTO⟩:∃a b,IsPair s.heap TO a b:=by
  rcases st.zi with⟨_,x⟩ | ⟨T,b,o,hz',_⟩
  ·exact x
  ·have q:=Eq.trans (Eq.symm hz) hz';simp[rawInt] at q
 refine zb ⟨plainId_quiet F.plain_extend_loop _,V8 (base:=base) hh D hSn res hn hn1 hn2 hne n 0 _ _ _ rfl (Nat.zero_le _) ⟨.inl ⟨oth z _ (Ne.symm S1) hz,a,b',oth TO _ (Ne.symm S3) hTO⟩,oth TI _ (Ne.symm S2) st.ti,st.it1.at λo e=>oth i1 o (Ne.symm S4) e,st.it2.at λo e=>oth i2 o (Ne.symm S5) e,
  st.a1.at λo e=>oth l1 o (Ne.symm S6) e,st.a2.at λo e=>oth l2 o (Ne.symm S7) e,hS₃,rfl,by rw[Heap.size_update,Heap.size_update];exact st.tl,List.nodup_nil,λj v hv=>by simp at hv⟩ (by rw[Heap.size_update,Heap.size_update];exact hb) λh' acc' c' kp e1 e2 en e3=>?_⟩
 exact hR h' acc' c' (λb o hb' e=>kp b o hb' (oth b o (λz=>hb' (by simp[z])) e)) e1 e2 en e3
theorem Wc{z TI TO i1 i2 l1 l2:Addr}{xs ys:Array Value}{n:Nat}{Q:Value->Shared->Prop}(hh:A.handled=none)(D:ZipApart z TI TO i1 i2 l1 l2)(hn:n<=sizeLine)(hn1:n<=xs.size)(hn2:n<=ys.size)(hne:n=xs.size\/n=ys.size)
  (hz:IsZip s.heap z TI TO .none) (hTI:IsPair s.heap TI (.ref i1) (.ref i2)) {a b:Value} (hTO:IsPair s.heap TO a b) (h1:s.heap.IsListIter i1 l1 0) (h2:s.heap.IsListIter i2 l2 0) (hl1:s.heap.IsList l1 xs) (hl2:s.heap.IsList l2 ys)
  (hQ:∀(h':Heap) (acc':Array Value) (c':Nat),(∀b o,b∉[z,TO,i1,i2]->s.heap.get? b=some o->h'.get? b=some o)->h'.get? s.heap.objs.size=some {cls:=.type "list",dict:=none,data:=.seq acc' c',slots:=#[]}->acc'.size=n->acc'.toList.Nodup ->
   (∀(j:Nat) (v:Value),acc'[j]?=some v->∃(T:Addr) (x y:Value),v=Value.ref T/\xs[j]?=some x/\ys[j]?=some y/\IsPair h' T x y/\T≠s.heap.objs.size/\s.heap.objs.size<=T)->Q (.ref s.heap.objs.size) {s with heap:=h'}):
  wpAny (model prog w) A (call (.type "list") [.ref z]) Q E s:=by
 have ltz:z<s.heap.objs.size:=zf hz;have ltI:TI<s.heap.objs.size:=zf hTI;have ltO:TO<s.heap.objs.size:=zf hTO
 have lt1:i1<s.heap.objs.size:=by obtain⟨_,e,_⟩:=h1;exact zf e
 have lt2:i2<s.heap.objs.size:=by obtain⟨_,e,_⟩:=h2;exact zf e
 have la1:l1<s.heap.objs.size:=by obtain⟨_,e,_⟩:=hl1;exact zf e
 have la2:l2<s.heap.objs.size:=by obtain⟨_,e,_⟩:=hl2;exact zf e
 refine callType_codes (Q₁:=λobj s₁=>obj=.ref s.heap.objs.size/\s₁ = {s with heap:=s.heap.push {cls:=.type "list",data:=.seq #[]}}) F.called_list (F.typeCall_list_1 _) F.entry_list_init
  (code_list_new _ ⟨rfl,rfl⟩) λobj s₁ h₁=>?_
 obtain⟨rfl,rfl⟩:=h₁;have hS:(s.heap.push {cls:=.type "list",data:=.seq #[]}).get? s.heap.objs.size=some {cls:=.type "list",data:=.seq #[]}:=zz _ rfl;refine⟨⟨_,hS,rfl⟩,F.args_list_init_2 _ _,?_⟩;show wpAny _ _ (do let old <-Builtin.List.listItems (.ref s.heap.objs.size);Builtin.List.listUpdate (.ref s.heap.objs.size) (λ_=>#[]);letGo old.toList.reverse;Builtin.List.listExtendWith (.ref s.heap.objs.size) (.ref z) .none) _ _ _;refine za ?_;unfold Builtin.List.listItems;refine za (wpAny_seqItems hS rfl (zb ?_));show wpAny _ _ (updateSeq s.heap.objs.size (λ_=>#[]) >>= λ_=>letGo (#[]:Array Value).toList.reverse >>= λ_=>Builtin.List.listExtendWith (.ref s.heap.objs.size) (.ref z) .none) _ _ _
 refine za (jb hS rfl ?_);have hS₂:=Heap.get?_update_self (Obj.mapSeq (λ_=>(#[]:Array Value))) hS rfl;refine za (jh ?_);have oth:∀b o,s.heap.get? b=some o->((s.heap.push {cls:=.type "list",data:=.seq #[]}).update s.heap.objs.size (Obj.mapSeq (λ_=>(#[]:Array Value)))).get? b=some o :=
  λb o e=>(jf _ _ (Nat.ne_of_gt (zf e))).trans (zk _ e)
 have hsz:((s.heap.push {cls:=.type "list",data:=.seq #[]}).update s.heap.objs.size (Obj.mapSeq (λ_=>(#[]:Array Value)))).objs.size=s.heap.objs.size+1:=by rw[Heap.size_update,Heap.size_push]
 refine Wb (base:=s.heap.objs.size) (by exact hh) D (by simp only[zn,List.not_mem_nil,or_false,not_or];exact⟨Nat.ne_of_gt ltz,Nat.ne_of_gt ltI,Nat.ne_of_gt ltO,Nat.ne_of_gt lt1,Nat.ne_of_gt lt2,Nat.ne_of_gt la1,Nat.ne_of_gt la2⟩) .none hn hn1 hn2 hne _ (by show _<=((s.heap.push _).update _ _).objs.size;rw[hsz];exact Nat.le_succ _) (oth _ _ hz)
  ⟨.inl ⟨oth _ _ hz,a,b,oth _ _ hTO⟩,oth _ _ hTI,h1.at λo e=>oth _ o e,h2.at λo e=>oth _ o e,hl1.at λo e=>oth _ o e,hl2.at λo e=>oth _ o e,hS₂,rfl,by show _<((s.heap.push _).update _ _).objs.size;rw[hsz];exact jd ltO,List.nodup_nil,λj v hv=>by simp at hv⟩ λh' acc' c' kp e1 e2 en e3=>?_
 refine⟨rfl,hQ h' acc' c' (λb o hb e=>kp b o (λhm=>?_) (oth b o e)) e1 e2 en λj v hv=>?_⟩
 ·simp only[zn,List.not_mem_nil,or_false,not_or] at hb hm
  have:=zf e
  rcases hm with hm | hm | hm | hm | hm
  ·exact hb.1 hm
  ·exact hb.2.1 hm
  ·exact hb.2.2.1 hm
  ·exact hb.2.2.2 hm
  ·exact absurd this (by rw[hm];exact zP _)
 ·obtain⟨T,x,y,f1,f2,f3,f4,f5,f6⟩:=e3 j v hv;exact⟨T,x,y,f1,f2,f3,f4,λe=>f5 (by simp[e]),f6⟩
end
theorem Un.more{fs ex:List Addr}{H H1:Hp}{h h':Heap}{a:Addr}{o:HO}(u:Un fs ex H H1 h h')(hp:h.objs.size<=a)(hn:H1 a=none):Un fs ex H (upd H1 a o) h h' where
 keep:=u.keep
 slot:=u.slot
 free:=λb ob q n hx=>by rw[aP (zu (zG (zf q) hp))];exact u.free b ob q n hx
 there:=u.there
 tups:=λb xs q=>by have z:=u.tups b xs q;rw[aP (cT z hn)];exact z
 frzs:=λb ob v q=>by have z:=u.frzs b ob v q;rw[aP (cT z hn)];exact z
 tbls:=λb ps q=>by obtain⟨m,z⟩:=u.tbls b ps q;exact⟨m,by rw[aP (cT z hn)];exact z⟩
theorem HOk.more{P:Program}{w:World}{H:Hp}{h:Heap}{a:Addr}{o:HO}(x:HOk P w H h)(hn:H a=none)(new:cN P w (upd H a o) h a o):HOk P w (upd H a o) h:=λb u e=>by
 by_cases hb:b=a
 ·subst hb;rw[cA] at e;cases e;exact new
 ·rw[aP hb] at e
  exact(x b u e).stay (λc v _ q=>q) (λc q=>by rw[aP (cT q hn)];exact q) λc xs q=>by rw[aP (cT q hn)];exact q
def uD:Hp->List (V×V)->List V->Hp->Prop
 |H,[],ts,H2=>ts=[]/\H2=H
 |H,p::r,ts,H2=>∃T ts',ts=.ref T::ts'/\H T=none/\uD (upd H T (.tup [p.1,p.2])) r ts' H2
theorem Im{P:Program}{w:World}{fs:List Addr}{H0:Hp}{h h':Heap}:∀(ps:List (V×V)) (vs:List Value) (Hk:Hp),Un fs [] H0 Hk h h'->HOk P w Hk h'->vs.Nodup ->
  Paired (λ(p:V×V) (v:Value)=>∃T x y,v=Value.ref T/\RelV p.1 x/\RelV p.2 y/\IsPair h' T x y/\h.objs.size<=T/\Hk T=none) ps vs ->
  ∃ts H2,uD Hk ps ts H2/\aR ts vs/\Un fs [] H0 H2 h h'/\HOk P w H2 h'/\∀b,Value.ref b∉vs->H2 b=Hk b
 | [],vs,Hk,u,x,_,hp=>by
  cases hp;exact⟨[],Hk,⟨rfl,rfl⟩,.nil,u,x,λ_ _=>rfl⟩
 |p::ps,vs,Hk,u,x,hnd,hp=>by
  cases hp with
  |cons h1 h2 =>
   obtain⟨T,u1,u2,rfl,r1,r2,hT,hle,hn⟩:=h1;rw[List.nodup_cons] at hnd;have u':Un fs [] H0 (upd Hk T (.tup [p.1,p.2])) h h':=u.more hle hn;have x':HOk P w (upd Hk T (.tup [p.1,p.2])) h':=x.more hn ⟨by show 2<=sizeLine;decide,[u1,u2],.cons r1 (.cons r2 .nil),⟨_,hT,rfl,_,rfl⟩⟩;have go:∀(ps:List (V×V)) (ws:List Value),Value.ref T∉ws->Paired (λ(p:V×V) (v:Value)=>∃T x y,v=Value.ref T/\RelV p.1 x/\RelV p.2 y/\IsPair h' T x y/\h.objs.size<=T/\Hk T=none) ps ws ->
     Paired (λ(q:V×V) (v:Value)=>∃T' x y,v=Value.ref T'/\RelV q.1 x/\RelV q.2 y/\IsPair h' T' x y/\h.objs.size<=T'/\upd Hk T (.tup [p.1,p.2]) T'=none) ps ws:=λps ws hw hq=>by
    induction hq with
    |nil=>exact .nil
    |cons a b ih =>
     rw[zn,not_or] at hw;obtain⟨T',x,y,e1,e2,e3,e4,e5,e6⟩:=a;refine .cons ⟨T',x,y,e1,e2,e3,e4,e5,?_⟩ (ih hw.2);rw[aP (λz=>hw.1 (by rw[e1,z]))];exact e6
   obtain⟨ts,H2,g1,g2,g3,g4,g5⟩:=Im ps _ _ u' x' hnd.2 (go _ _ hnd.1 h2);refine⟨.ref T::ts,H2,⟨T,ts,rfl,hn,g1⟩,.cons rfl g2,g3,g4,λb hb=>?_⟩;rw[zn,not_or] at hb;rw[g5 b hb.2,aP (λz=>hb.1 (by rw[z]))]
theorem Io{α β:Type}{R:α->β->Prop}:∀(ps:List α) (vs:List β),ps.length=vs.length->(∀(j:Nat) p v,ps[j]?=some p->vs[j]?=some v->R p v)->Paired R ps vs
 | [],[],_,_=>.nil
 | [],_::_,h,_=>by cases h
 | _::_,[],h,_=>by cases h
 |p::ps,v::vs,h,f=>.cons (f 0 p v rfl rfl) (Io ps vs (Nat.succ.inj h) λj p v a b=>f (j+1) p v a b)
section
variable {X:Cx}
def tLZ(K:Frag)(ta:TA):TE:=λσ H Q=>ta σ H λvs H1=>∃a b xs ys,vs=[.ref a,.ref b]/\SqL K H1 a xs/\SqL K H1 b ys/\∀ts H2,uD H1 (xs.zip ys) ts H2->∀l,H2 l=none->Q (.ref l) (upd H2 l (.lst ts))
theorem Wd{a b:Expr}{ta:TA}{p p' pos pos':Pos}(hc:X.calm=true)(hgl:Gl X "list")(hml:X.mg "list" = none)(hgz:Gl X "zip")(hmz:X.mg "zip" = none)(ha:PA X [a,b] ta)
  (hs:starEach [a,b] X.env=(false,eval a X.env)::starEach [b] X.env:=by exact dB rfl) (hpl:(backTo pos' (starEach [b] X.env)).any (·.1)=false:=by exact fC rfl)
  (he:starEach [.Call (.Name "zip" p') [a,b] [] pos'] X.env=(false,eval (.Call (.Name "zip" p') [a,b] [] pos') X.env)::starEach [] X.env:=by exact dB rfl):
  PE X (.Call (.Name "list" p) [.Call (.Name "zip" p') [a,b] [] pos'] [] pos) (tLZ X.K ta):=by
 intro pins s σ H Q I h;refine Call_ (jG I hgl hml rz (PyProof.Rows.callWith_type1 ?_ he rfl));rw[he];show wpAny _ _ (spliced ((false,eval (.Call (.Name "zip" p') [a,b] [] pos') X.env)::backTo pos (starEach [] X.env))) _ _ s;refine Calls.spliced_cons ?_;refine Call_ (jG I hgz hmz boot_zip (PyProof.Rows.callWith_type1 (thn (ha pos' pins s σ H _ I h) λus s1 ⟨vs,H1,I1,r1,q1⟩=>?_) hs hpl));obtain⟨l1,l2,xs,ys,e,hq1,hq2,q⟩:=q1;subst e;obtain⟨u1,u2,rfl,ru1,ru2⟩:=vals2 r1;cases ru1;cases ru2;obtain⟨its1,rv1,pl1,hz1⟩:=I1.list hq1;obtain⟨its2,rv2,pl2,hz2⟩:=I1.list hq2
 have a1:l1<s1.heap.objs.size:=by obtain⟨_,e,_⟩:=pl1.isList;exact zf e
 have a2:l2<s1.heap.objs.size:=by obtain⟨_,e,_⟩:=pl2.isList;exact zf e
 have len1:=rv1.length;have len2:=rv2.length
 refine call_zip_2 pl1.isList pl2.isList λh' hz hTI hTO hit1 hit2 hsz hk=>?_
 refine Calls.spliced_nil ?_;refine Wc (s:={s1 with heap:=h'}) (n:=min its1.length its2.length) (I.ok.hd hc) (zipApart_new a1 a2) (by omega) (by rw[zr];omega) (by rw[zr];omega) (by rw[zr,zr];omega) hz hTI hTO hit1 hit2
  (pl1.isList.at λo e=>hk l1 o e) (pl2.isList.at λo e=>hk l2 o e) λh2 acc c kp e1 e2 en e3=>?_
 have k:∀b o,s1.heap.get? b=some o->h2.get? b=some o:=λb o e=>kp b o (λhm=>by
  have:=zf e
  simp only[zn,List.not_mem_nil,or_false] at hm
  rcases hm with rfl | rfl | rfl | rfl
  ·exact Nat.not_lt.mpr (jn _ _) this
  ·exact Nat.not_lt.mpr (jn _ _) this
  ·exact zP _ this
  ·exact Nat.not_lt.mpr (jn _ _) this) (hk b o e)
 have hlen:acc.toList.length=(xs.zip ys).length:=by rw[Array.length_toList,e2,List.length_zip];omega
 have hsz':({s1 with heap:=h'}:Shared).heap.objs.size=s1.heap.objs.size+5:=hsz
 have hp:Paired (λ(p:V×V) (v:Value)=>∃T x y,v=Value.ref T/\RelV p.1 x/\RelV p.2 y/\IsPair h2 T x y/\s1.heap.objs.size<=T/\H1 T=none) (xs.zip ys) acc.toList:=Io _ _ hlen.symm λj p v hpj hvj=>by
  obtain⟨T,x,y,f1,f2,f3,f4,f5,f6⟩:=e3 j v (by simpa using hvj);rw[List.getElem?_zip_eq_some] at hpj;obtain⟨w1,w1',w2⟩:=rv1.get hpj.1;obtain⟨w3,w3',w4⟩:=rv2.get hpj.2
  have f2':its1[j]?=some x:=by simpa using f2
  have f3':its2[j]?=some y:=by simpa using f3
  rw[f2'] at w1';rw[f3'] at w3';cases w1';cases w3'
  have hle:s1.heap.objs.size<=T:=by omega
  exact⟨T,x,y,f1,w2,w4,f4,hle,I1.hok.fresh hle⟩
 obtain⟨ts,H2,g1,g2,g3,g4,g5⟩:=Im (P:=X.prog) (w:=X.w) (fs:=X.fs) (h:=s1.heap) (xs.zip ys) acc.toList H1 (Un.kept k) (I1.hok.kept k) en hp
 have hSn:H2 ({s1 with heap:=h'}:Shared).heap.objs.size=none:=by
  rw[g5 _ λhm=>?_]
  ·exact I1.hok.fresh (by omega)
  ·obtain⟨j,hj⟩:=List.mem_iff_getElem?.mp hm;obtain⟨T,x,y,f1,_,_,_,f5,_⟩:=e3 j _ (by simpa using hj);cases f1;exact f5 rfl
 have hts:ts.length<=sizeLine:=by
  have q1:=g2.length;have q2:acc.toList.length=acc.size:=Array.length_toList;omega
 have hok:=g4.more (o:=.lst ts) hSn ⟨hts,acc.toList,c,g2,by rw[Array.toArray_toList];exact e1⟩;exact⟨.ref _,upd H2 _ (.lst ts),I1.un (t':=s1.toks) (g3.more (o:=.lst ts) (by omega) hSn) hok,rfl,q ts H2 g1 _ hSn⟩
end
theorem Ip{K:Frag}{mg:Str->Option Value}{O:au}{as:List Addr}:∀(ds es:List D) (xs ys:List V) (H F:Hp) (ts:List V) (H2:Hp),RlO K mg O H F as->Rps K F as xs ds->Rps K F as ys es->uD H (xs.zip ys) ts H2->∃F2,Gr H F as H2 F2 as/\RlO K mg O H2 F2 as/\Rps K F2 as ts (kW ds es)
 | [],es,xs,ys,H,F,ts,H2,r,h1,h2,g=>by
  rw[h1.un0] at g;obtain⟨rfl,rfl⟩:=g;exact⟨F,Gr.refl,r,Rps.nil⟩
 |d::ds,[],xs,ys,H,F,ts,H2,r,h1,h2,g=>by
  rw[h2.un0,List.zip_nil_right] at g;obtain⟨rfl,rfl⟩:=g;exact⟨F,Gr.refl,r,Rps.nil⟩
 |d::ds,e::es,xs,ys,H,F,ts,H2,r,h1,h2,g=>by
  obtain⟨x,xr,rfl,h3,h4⟩:=h1.un;obtain⟨y,yr,rfl,h5,h6⟩:=h2.un;rw[List.zip_cons_cons] at g;obtain⟨T,ts',rfl,hp,g⟩:=g;have hF:=r.frF hp
  have ff:Same F (upd F T (.tup [x,y])):=λb u q=>by rw[aP (cT q hF)];exact q
  have hs:Rps K F as [x,y] [d,e]:=Rps.cons h3 (Rps.cons h5 Rps.nil);have G1:Gr H F as (upd H T (.tup [x,y])) (upd F T (.tup [x,y])) as:=(Gr.lay hp).frz hp hF;have r1:RlO K mg O (upd H T (.tup [x,y])) (upd F T (.tup [x,y])) as:=(r.lay hp).frz cA hF (λz=>r.all z hp) rfl;have rT:Rp K (upd F T (.tup [x,y])) as (.ref T) (.tup [d,e]):=Rp.mkT (.inl cA) (Rps.mono ff (λ_ _ z=>z) _ hs);obtain⟨F2,G2,r2,q2⟩:=Ip ds es xr yr _ _ ts' H2 r1 (h4.gr G1) (h6.gr G1) g;exact⟨F2,G1.trans G2,r2,Rps.cons (rT.gr G2) q2⟩
def gLZ:List D->Option D
 | [.lst ds,.lst es]=>some (.lst (kW ds es))
 | _=>none
section
variable {X:Cx}{md:List Md}{P:Pt}
theorem We{a b:Expr}{ms:List Md}{ma:M (List D)}{p p' pos pos':Pos}(hc:X.calm=true)(hml:X.mg "list" = none)(hmz:X.mg "zip" = none)(ha:AE X md P ms [a,b] ma)(hgl:Gl X "list":=by rfl)(hgz:Gl X "zip":=by rfl)
  (hs:starEach [a,b] X.env=(false,eval a X.env)::starEach [b] X.env:=by exact dB rfl) (hpl:(backTo pos' (starEach [b] X.env)).any (·.1)=false:=by exact fC rfl)
  (he:starEach [.Call (.Name "zip" p') [a,b] [] pos'] X.env=(false,eval (.Call (.Name "zip" p') [a,b] [] pos') X.env)::starEach [] X.env:=by exact dB rfl):
  OE X md P (.Call (.Name "list" p) [.Call (.Name "zip" p') [a,b] [] pos'] [] pos) (aX gLZ ma):=(Wd hc hgl hml hgz hmz ha hs hpl he).imp λσ H Q q=>by
 have q':tCB (rC X.K X.mg gLZ) (tMA X.K X.mg md P ms ma) σ H Q:=ux q;obtain⟨ρ,O,F,as,ds,O',r,s,e1,k⟩:=q';refine⟨ρ,O,F,as,ds,O',r,s,e1,λvs H1 F1 as1 g1 r1 hv=>?_⟩;obtain⟨O2,F2,as2,es,d,r2,hvs,e,k2⟩:=k vs H1 F1 as1 g1 r1 hv;unfold gLZ at e;split at e
 ·rename_i xs ys;cases e;obtain⟨v,u,rfl,hv1,hv2⟩:=hvs.two;obtain⟨a1,x1,rfl,q1,q2⟩:=hv1.list r2.fh;obtain⟨a2,x2,rfl,q3,q4⟩:=hv2.list r2.fh;refine⟨a1,a2,x1,x2,rfl,q1.sq,q3.sq,λts H2 gr l hl=>?_⟩;obtain⟨F3,G3,r3,p3⟩:=Ip xs ys x1 x2 H1 F2 ts H2 r2 q2 q4 gr;exact k2 _ _ F3 (G3.trans (Gr.lay hl)) (r3.lay hl) (.inr ⟨l,ts,_,rfl,rfl,cA,r3.frF hl,λz=>r3.all z hl,G3.dm l hl,p3⟩)
 ·cases e
end
section
end
end L2
namespace L2
open PySem PySem.Spec PyProof.Rows PySem.W
section
variable {X:Cx}{md:List Md}{P:Pt}
end
end L2
namespace L2
open PySem PySem.Spec PyProof.Rows
section
variable {X:Cx}{md:List Md}{P:Pt}{R:RR}
variable {elts:List Expr}{x1:Nat}{tpos:Pos}{a elt:Expr}{ifs:List Expr}{scope:Scope}{p pos pe:Pos}{m:M D}{g:MG}{t:M Bool}{e:M D}
end
def Itv(K:Frag)(a:Addr)(n:Nat):It :=
 ⟨λi H=>i<n/\∃xs x,SqL K H a xs/\xs[n - 1 - i]?=some x,λi H x H'=>H'=H/\∀xs,SqL K H a xs->xs[n - 1 - i]?=some x,λi _=>n<=i⟩
theorem Wf{P:Program}{w:World}{K:Frag}{tg:Expr}(a it:Addr)(n:Nat):Turn P w K tg (Itv K a n) [it] it (λi h=>i<=n/\h.IsRevIter it a ((n:Int) - 1 - (i:Int))) where
 mem:=by simp
 obj:=λi h st b hb=>by
  have e:b=it:=by simpa using hb
  subst e;obtain⟨_,o,e,c,d⟩:=st;exact⟨o,e,λv z=>by rw[d] at z;cases z⟩
 keep:=λi h h' st k=>⟨st.1,st.2.at λo e=>k it (by simp) o e⟩
 item:=by
  intro X hP hw hK hc i pins s σ H E I hf st hg;subst hP hw hK;obtain⟨hi,xs,x,hq,hx⟩:=hg;obtain⟨its,rv,p,hz⟩:=I.list hq;obtain⟨u,hu,ru⟩:=rv.get hx;obtain⟨f0,f1,f2,f3,f4,f5⟩:=hf it (by simp);have hst:=st.2;rw[show(n:Int) - 1 - (i:Int)=((n - 1 - i:Nat):Int) by omega] at hst
  refine wpAny_pyNext_rev_item hst p.isList (x:=u) (by simpa using hu) λh' st' sb=>?_
  rw[show((n - 1 - i:Nat):Int) - 1=(n:Int) - 1 - ((i+1:Nat):Int) by omega] at st';have I1:Inv X pins σ H {s with heap:=h'}:=I.turned (t':=s.toks) (λb o hb e=>(sb.2 b hb).trans e) f0 f1 f3 f4 f5;obtain⟨o,e,c,d⟩:=id st';exact⟨u,rfl,mW (s:={s with heap:=h'}) e c d (by decide) ⟨x,H,I1,ru,⟨rfl,λys hy=>by rw[I.list_inj hy hq];exact hx⟩,⟨hi,st'⟩,λb hb=>(hf b hb).1⟩⟩
 done:=by
  intro X hP hw hK hc i pins s σ H E I hf st hg;subst hP hw hK;have hg':n<=i:=hg;obtain⟨f0,f1,f2,f3,f4,f5⟩:=hf it (by simp);have hst:=st.2;have h1:=st.1;rw[show(n:Int) - 1 - (i:Int) = -1 by omega] at hst
  exact wpAny_pyNext_rev_end (I.ok.hd hc) hst λh' eb=>⟨rfl,I.turned (t':=s.toks) (λb o hb e=>eb b o hb e) f0 f1 f3 f4 f5⟩
 self:=λ_ _ _ _ _ st h=>wpAny_pyIter_revIter st.2 h
section
variable {X:Cx}{md:List Md}{P:Pt}{R:RR}{tg:Expr}
theorem boot_reversed:bootBuiltins "reversed" = some (.type "reversed"):=by decide +kernel
def Wg(K:Frag)(ta:TA):TI:=λσ H R=>ta σ H λvs H1=>∃a xs,vs=[.ref a]/\SqL K H1 a xs/\R (Itv K a xs.length) H1
theorem Wh{a:Expr}{ta:TA}{p pos:Pos}(hg:Gl X "reversed")(hm:X.mg "reversed" = none)(ha:PA X [a] ta)(hs:starEach [a] X.env=[(false,eval a X.env)]:=by exact qU rfl):
  PI X tg (.Call (.Name "reversed" p) [a] [] pos) (Wg X.K ta):=by
 intro pins s σ H R I h;refine Call_ (jG I hg hm boot_reversed (PyProof.Rows.callWith_type1 (thn (ha pos pins s σ H _ I h) λus s1 ⟨vs,H1,I1,r1,q1⟩=>?_) hs rfl));obtain⟨l,xs,e,hq,q⟩:=q1;subst e;obtain⟨u,rfl,ru⟩:=vals1 r1;cases ru;obtain⟨its,rv,pl,hz⟩:=I1.list hq
 have hl:its.toArray.size=xs.length:=by rw[zr];exact rv.length.symm
 refine call_reversed_list pl.isList ?_;rw[hl]
 have hit:(s1.heap.push (revObj l ((xs.length:Int) - 1))).IsRevIter s1.heap.objs.size l ((xs.length:Int) - 1 - ((0:Nat):Int)):=by
  rw[show(xs.length:Int) - 1 - ((0:Nat):Int)=(xs.length:Int) - 1 by omega];exact⟨_,zz _ rfl,rfl,rfl⟩
 refine wpAny_pyIter_revIter (s:={s1 with heap:=s1.heap.push (revObj l ((xs.length:Int) - 1))}) hit ?_;refine⟨s1.heap.objs.size,[s1.heap.objs.size],_,_,H1,rfl,I1.kept (t':=s1.toks) (λb o e=>zk _ e),Wf l s1.heap.objs.size xs.length,⟨Nat.zero_le _,hit⟩,λb hb=>?_,q⟩
 have hb':s1.heap.objs.size<=b:=by rw[zm.mp hb];exact zc _
 exact I1.fpOk hb' (I1.hok.fresh hb')
def uE(m:M D):M (List D):=λρ O=>(m ρ O).bind λd O1=>match d with
 | .lst ds=>.ok ds.reverse O1
 | _=>.no
theorem Wi{a:Expr}{p pos:Pos}{m:M D}(hm:X.mg "reversed" = none)(h:WE X md P a m)(hg:Gl X "reversed":=by rfl)(hs:starEach [a] X.env=[(false,eval a X.env)]:=by exact qU rfl)(hs':starEach [a] X.env=(false,eval a X.env)::starEach [] X.env:=by exact dB rfl):
  VI X md P tg (.Call (.Name "reversed" p) [a] [] pos) (uE m):=(Wh hg hm (j7 h mZ hs') hs).imp λσ H Q q=>by
 obtain⟨ρ,O,F,as,ds,O',r,s,e,k⟩:=q;obtain⟨d,O1,e1,e⟩:=Res.bind_ok e
 cases d with
 |lst es =>
  cases e;refine⟨ρ,_,F,as,_,_,r,s,e1,λv H1 F1 as1 g1 r1 hv=>?_⟩;obtain⟨a,xs,rfl,h1,h2⟩:=HH (mg:=X.mg) hv;have hl:xs.length=es.length:=h1.length;refine⟨a,xs,rfl,(h2 H1 F1 as1 GrS.refl ⟨_,r1⟩).sq,k _ H1 F1 as1 g1 r1 ⟨λi d H2 F2 as2 g r e=>?_,λH2 F2 as2 g r=>by show xs.length<=_;rw[List.length_reverse,hl];exact zc _⟩⟩
  have hi:i<es.length:=by
   have:=(zl.mp e).1
   rwa [List.length_reverse] at this
  rw[List.getElem?_reverse hi,<-hl] at e;obtain⟨x,h3,h4⟩:=h1.get' e;have hq:=h2 H2 F2 as2 g r;refine⟨⟨by omega,xs,x,hq.sq,h3⟩,λy H3 hy=>?_⟩;obtain⟨rfl,hy⟩:=hy
  have:=hy xs hq.sq
  rw[h3] at this;cases this;exact⟨F2,Gr.refl,λ_ r=>r,h4.grS g⟩
 | _=>cases e
theorem Ir(i:Int)(h:0<=i):Str.ofString (toString i)=S ((Nat.toDigits 10 i.toNat).map Char.toNat):=by
 obtain⟨m,rfl⟩:∃m:Nat,i=(m:Int):=⟨i.toNat,(Int.toNat_of_nonneg h).symm⟩;rw[Int.toNat_natCast,<-PySem.W.KIN.signs_num m,Ub]
def pL:List D->Option D
 | [.int i]=>if 0<=i/\i<1000000000 then some (.str ((Nat.toDigits 10 i.toNat).map Char.toNat)) else none
 | _=>none
theorem Wj:jT X (.type "str") pL:=by
 intro pins s σ H xs us Q I rs h;obtain⟨O,F,as,ds,d,r,hvs,e,k⟩:=h;unfold pL at e;split at e
 ·rename_i i;split at e
  ·rename_i hi;obtain⟨v,rfl,hv⟩:=hvs.one;cases e;cases(hv.rp rfl).unI;refine Rc pins s σ H _ us Q I rs ⟨i,rfl,shown (N:=2 ^ 1920) (by omega) (by omega) (Int.le_refl _),?_⟩;have z:=Ir i hi.1;refine cC (v:=.str (Str.ofString (toString i))) r k rfl ?_;rw[z];exact Rp.str
  ·cases e
 ·cases e
end
structure bR(mg:Str->Option Value):Prop extends Ik mg where
 reversed_:mg "reversed" = none
end L2
namespace L2
open PySem PySem.Spec PyProof.Rows PySem.W
def mdI:Option Int->List Int->Option Int
 |b,[]=>b
 |none,n::r=>mdI (some n) r
 |some m,n::r=>mdI (some (if n<m then n else m)) r
def MdV(d v:Value):Option Int->Prop
 |none=>v=d
 |some m=>∃t,v=.int m t
def MdB(bs:Array Value):Option Int->Prop
 |none=>bs = #[]
 |some m=>∃t,bs = #[.int m t,.int m t]
section
variable {prog:Program}{w:World}{A:Around}{E:Value->Shared->Prop}
theorem Wl{id:String}{b:Builtin}{as:List Value}{kw:List (Str×Value)}{s:Shared}{Q:Value->Shared->Prop}(k0:builtinKind id=none)(p0:plainId id=true)(b0:entryFor table id=some b)(a0:argsOk id ⟨as,kw⟩)
  (c0:wpAny (model prog w) A.in1 (b ⟨as,kw⟩) (λfin s'=>match fin with
   | .done f=>(match(Except.ok f:Result) with | .ok (.ret v)=>Q v s' | .ok _=>False | .error e=>E e s')
   | .again c=>c.quiet=true/\codeAny (model prog w) A c (λr s'=>match r with | .ok (.ret v)=>Q v s' | .ok _=>False | .error e=>E e s') s') E s):
  wpAny (model prog w) A (call (.builtin id) as kw) Q E s:=by
 refine wpAny_call (codeAny_call_builtin p0 b0 ?_);simp only[checkBuiltinCall,k0]
 cases g0:Manifest.signature? id with
 |none=>exact zb c0
 |some sg =>
  simp only[argsOk,g0] at a0;have z:Bind.checkArgs id sg ⟨as,kw⟩=pure ():=a0;show wpAny _ A.in1 (Bind.checkArgs id sg ⟨as,kw⟩) _ _ s;rw[z];exact zb c0
theorem Wm{n m:Int}{t u:Tok}{s:Shared}{Q:Value->Shared->Prop}(q:Q (.bool (decide (n<m))) s):wpAny (model prog w) A (richCompare .Lt (.int n t) (.int m u)) Q E s :=
 CmpOf.ints_lt (A:=A) (P:=λi v=>∃t,v=.int (if i=0 then n else m) t) (λi=>if i=0 then n else m) (λ_ _ z=>z) 0 1 _ _ s Q E ⟨t,rfl⟩ ⟨u,rfl⟩ q
theorem Wn{R:Result->Shared->Prop}{l i0 S:Addr}{its:List Value}{d:Value}(hh:A.in1.handled=none)(n1:l≠i0)(n2:S≠i0)(n3:S≠l):
  ∀(us:List Value) (ns:List Int) (pre:List Value) (b:Option Int) (bs:Array Value) (s:Shared) (c:Nat),its=pre++us->aR (ns.map V.int) us->s.heap.IsListIter i0 l pre.length->s.heap.IsList l its.toArray->MdB bs b ->
   s.heap.get? S=some {cls:=.type "list",dict:=none,data:=.seq bs c,slots:=#[]} ->
   (∀v h' tk,MdV d v (mdI b ns)->(∀x o,x≠i0->x≠S->s.heap.get? x=some o->h'.get? x=some o)->R (.ok (.ret v)) {s with heap:=h',toks:=tk}) ->
   codeAny (model prog w) A (.builtin "min.loop" ⟨[.ref i0,.none,.ref S],[("default",d)]⟩) R s:=by
 have W:=Walks.list (prog:=prog) (w:=w) hh i0 l n1 its.toArray
 have nm:(toString "min" ++ toString ".loop":String) = "min.loop":=by decide
 have nS:S∉[i0]:=λz=>n2 (zm.mp z)
 have ni:∀x:Addr,x≠i0->x∉[i0]:=λx z y=>z (zm.mp y)
 intro us
 induction us with
 |nil =>
  intro ns pre b bs s c e rv it hl hb hS hR
  have ens:ns=[]:=by
   cases ns with
   |nil=>rfl
   |cons=>cases rv
  subst ens
  have el:pre.length=its.toArray.size:=by rw[e];simp
  rw[el] at it;refine je PySem.F.entry_min_loop ?_;rw[Around.under_plainId PySem.F.plain_min_loop _];show wpAny _ A.in1 (seqItems? (.ref S) >>= _) _ _ s;refine za (wpAny_seqItems hS rfl ?_);show wpAny _ A.in1 (tryCatch (pyNext (.ref i0)) _ >>= _) _ _ s;refine za (wpAny_tryCatch (W.done s _ _ ⟨it,hl⟩ λh1 tk kp=>?_));have hS1:=kp S _ nS hS
  cases b with
  |none =>
   have hb':bs = #[]:=hb;subst hb';show wpAny _ A.in1 (rule _ >>= _) _ _ _;refine za (ja ?_);exact zb (hR d h1 tk rfl λx o z1 z2 q=>kp x o (ni x z1) q)
  |some m =>
   obtain⟨t,hb'⟩:=hb;subst hb';show wpAny _ A.in1 (updateSeq S (λ_=>#[]) >>= _) _ _ _;refine za ?_;refine jb hS1 rfl (za (jh (zb ?_)))
   exact hR (.int m t) _ tk ⟨t,rfl⟩ λx o z1 z2 q=>(jf _ _ (Ne.symm z2)).trans (kp x o (ni x z1) q)
 |cons u us ih =>
  intro ns pre b bs s c e rv it hl hb hS hR
  cases ns with
  |nil=>cases rv
  |cons n ns =>
   have rv':aR (V.int n::ns.map V.int) (u::us):=rv
   obtain⟨ru,rus⟩:RelV (.int n) u/\aR (ns.map V.int) us:=by
    cases rv' with
    |cons a b=>exact⟨a,b⟩
   obtain⟨tu,rfl⟩:=ru
   have el:pre.length<its.toArray.size:=by rw[e];simp
   have e':its=(pre++[Value.int n tu])++us:=by rw[e];simp
   have eg:its.toArray[pre.length]?=some (Value.int n tu):=by rw[e];simp
   refine je PySem.F.entry_min_loop ?_;rw[Around.under_plainId PySem.F.plain_min_loop _];show wpAny _ A.in1 (seqItems? (.ref S) >>= _) _ _ s;refine za (wpAny_seqItems hS rfl ?_);show wpAny _ A.in1 (tryCatch (pyNext (.ref i0)) _ >>= _) _ _ s;refine za (wpAny_tryCatch (W.item pre.length s _ _ el ⟨it,hl⟩ λv h1 tk hv st kp=>?_));rw[eg] at hv;cases hv;have hS1:=kp S _ nS hS
   have upd1:∀(h2:Heap) (y:Addr) (o:Obj),y≠S->h2.get? y=some o->∀f,(h2.update S f).get? y=some o:=λh2 y o z q f=>(jf _ _ (Ne.symm z)).trans q
   have go:∀(b2:Option Int) (bs2:Array Value) (h2:Heap) (tk2:Nat) (c2:Nat),MdB bs2 b2->mdI b2 ns=mdI b (n::ns)->h2.get? S=some {cls:=.type "list",dict:=none,data:=.seq bs2 c2,slots:=#[]} ->
     (∀x o,x≠S->h1.get? x=some o->h2.get? x=some o)->codeAny (model prog w) A (.builtin "min.loop" ⟨[.ref i0,.none,.ref S],[("default",d)]⟩) R {s with heap:=h2,toks:=tk2}:=λb2 bs2 h2 tk2 c2 q1 q2 q3 q4=>by
    have st2:=W.frame _ h1 h2 st λx hx o q=>q4 x o (λz=>by
     rcases zn.mp hx with rfl | hx
     ·exact n2 z.symm
     ·rcases zn.mp hx with rfl | hx
      ·exact n3 z.symm
      ·cases hx) q
    refine ih ns (pre++[Value.int n tu]) b2 bs2 _ c2 e' rus (by rw[zF];exact st2.1) st2.2 q1 q3 λv h3 tk3 z1 z2=>?_
    exact hR v h3 tk3 (q2 ▸ z1) λx o y1 y2 q=>z2 x o y1 y2 (q4 x o y2 (kp x o (ni x y1) q))
   cases b with
   |none =>
    have hb':bs = #[]:=hb;subst hb';show wpAny _ A.in1 (updateSeq S (λ_=>#[Value.int n tu,Value.int n tu]) >>= _) _ _ _;refine za ?_;refine jb hS1 rfl ?_;rw[nm];exact zb ⟨plainId_quiet PySem.F.plain_min_loop _,go (some n) _ _ _ _ ⟨tu,rfl⟩ rfl (Heap.get?_update_self _ hS1 rfl) λx o z q=>upd1 _ x o z q _⟩
   |some m =>
    obtain⟨t,hb'⟩:=hb;subst hb';show wpAny _ A.in1 (tryCatch (holding [Value.int n tu,Value.int n tu] (richCompare .Lt (.int n tu) (.int m t) >>= _)) _ >>= _) _ _ _;refine za (wpAny_tryCatch (zM (za (Wm ?_))));refine za (zM (wpAny_truthy_bool ?_));refine za (jh (zb ?_))
    by_cases hlt:n<m
    ·rw[zh hlt];simp only[if_true];refine za ?_;refine jb hS1 rfl (za (jh ?_));rw[nm];exact zb ⟨plainId_quiet PySem.F.plain_min_loop _,go (some n) _ _ _ _ ⟨tu,rfl⟩ (by show _=mdI (some (if n<m then n else m)) ns;rw[if_pos hlt]) (Heap.get?_update_self _ hS1 rfl) λx o z q=>upd1 _ x o z q _⟩
    ·rw[zg hlt];simp only[Bool.false_eq_true,if_false];refine za (jh ?_);rw[nm];exact zb ⟨plainId_quiet PySem.F.plain_min_loop _,go (some m) _ _ _ _ ⟨t,rfl⟩ (by show _=mdI (some (if n<m then n else m)) ns;rw[if_neg hlt]) hS1 λx o z q=>q⟩
end
section
variable {X:Cx}{md:List Md}{P:Pt}{R:RR}
def tsF(n:Nat)(y:D)(O:au):Res D:=match pK y,O[n]? with
 |some k,some (.dt kvs)=>match gH kvs k with
  |some d=>.ok d O
  |none=>.no
 | _,_=>.no
def Iu(mo my:M D):M D:=λρ O=>(mo ρ O).bind λx O1=>match x with
 | .ob n=>(my ρ O1).bind λy O2=>tsF n y O2
 | _=>.no
theorem Wo{kk:Nat}(hk:bH X.K=true)(hr:bD kk X.A){o i:Expr}{pos:Pos}{mo my:M D}(ho:VE X md P o mo)(hi:VE X md P i my)(hs:t7 i:=by intro _ _;rfl):VE X md P (.Subscript o i pos) (Iu mo my):=
 (Gv (uc hr) ho hi hs).imp λσ H Q q=>by
  obtain⟨ρ,O,F,as,d,O',r,s,e,k⟩:=q;obtain⟨x,O1,e1,e⟩:=Res.bind_ok e
  cases x with
  |ob n =>
   obtain⟨y,O2,e2,e⟩:=Res.bind_ok e;unfold tsF at e;split at e
   ·rename_i ks kvs e3 e4;split at e
    ·rename_i d' e5;cases e;refine⟨ρ,_,F,as,_,_,r,s,e1,λx H1 F1 as1 g1 r1 hx=>⟨ρ,_,F1,as1,_,_,r1,s.step g1,e2,λu H2 F2 as2 g2 r2 hu=>?_⟩⟩;obtain⟨a,rfl,ha⟩:=Rp.unO hx;obtain⟨xs,x1,x2⟩:=r2.dt (g2.at_ n a ha) e4;obtain⟨b,rfl,hb⟩:=Rp.tkey hk hu e3
     rcases x2.val (k:=ks) with⟨z1,z2⟩ | ⟨d2,v',z1,z2,z3⟩
     ·rw[z1] at e5;cases e5
     ·rw[z1] at e5;cases e5;refine⟨a,v',rfl,?_,k _ H2 F2 as2 (g1.trans g2) r2 z3⟩;rw[<-z2];exact iU.t x1 (r2.fh _ _ hb)
    ·cases e
   ·cases e
  | _=>cases e
def uF:List D->Option D
 | [.lst ds]=>(gZ ds).map λns=>match mdI none ns with
  |some m=>.int m
  |none=>.non
 | _=>none
theorem Wq(a d:Value):argsOk "min" ⟨[a],[("default",d)]⟩:=by unfold argsOk;kernel_rfl
theorem Wr(hc:X.calm=true){pins:List (Addr×Obj)}{s:Shared}{σ:St}{H:Hp}{a:Addr}{ns:List Int}{Q:VK}(I:Inv X pins σ H s)(hq:SqL X.K H a (ns.map V.int))(q:Q (match mdI none ns with | some m=>.int m | none=>.non) H):
  wpAny (model X.prog X.w) X.A (call (.builtin "min") [.ref a] [("default",.none)]) (EP X pins σ Q) X.xe s:=by
 obtain⟨its,rv,pl,_⟩:=I.list hq;have hl:=pl.isList
 have la:a<s.heap.objs.size:=by obtain⟨_,z,_⟩:=hl;exact zf z
 refine Wl PySem.F.kind_min PySem.F.plain_min PySem.F.entry_min (Wq _ _) ?_;show wpAny _ X.A.in1 (Builtin.Builtins.bindParams "min" ["key","default"] 0 ⟨[],[("default",.none)]⟩ >>= _) _ _ s;refine za (wpAny_of_eq (show _=pure [none,some Value.none] from rfl) ?_);refine za (zb ?_);refine za (wpAny_pyIter_list hl ?_);refine za (wpAny_newObj_type ?_);rw[show(toString "min" ++ toString ".loop":String) = "min.loop" by decide];have sz:(s.heap.push {cls:=.type "list_iterator",data:=.fields #[.ref a,.int 0 0]}).objs.size=s.heap.objs.size+1:=Heap.size_push ..
 refine zb ⟨plainId_quiet PySem.F.plain_min_loop _,Wn (its:=its) (l:=a) (i0:=s.heap.objs.size) (d:=.none) (I.ok.hd hc) (zu la) (Nat.ne_of_gt (by rw[sz];exact zZ _)) (Nat.ne_of_gt (by rw[sz];exact jd la)) its ns [] none #[] _ 0 rfl rv
  ⟨_,zk _ (zz _ rfl),rfl,rfl⟩ ((hl.push _).push _) rfl (zz _ rfl) λv h1 tk hv kp=>?_⟩
 have kk:∀b o,s.heap.get? b=some o->h1.get? b=some o:=λb o z=>kp b o (zu (zf z)) (zu (by rw[sz];exact jd (zf z))) (zk _ (zk _ z))
 refine⟨_,H,I.kept (t':=tk) kk,?_,q⟩
 cases e:mdI none ns with
 |none =>
  rw[e] at hv;exact hv
 |some m =>
  rw[e] at hv;exact hv
theorem Ws{p pos p2 p3:Pos}{j:Nat}{e:Expr}{m:M D}(hc:X.calm=true)(hm:X.mg "min" = none)(ha:SE X md P e m)(hg:Gl X "min":=by rfl)(hs:starEach [e] X.env=(false,eval e X.env)::starEach [] X.env:=by exact dB rfl)(hpl:(backTo pos (starEach [e] X.env)).any (·.1)=false:=by exact fC rfl)
  (he:backTo pos (starEach [e] X.env)=(false,eval e X.env)::backTo pos (starEach [] X.env):=by rfl):
  OE X md P (.Call (.Name "min" p) [e] [⟨some "default",.Constant .none j p2,p3⟩] pos) (aX uF (aj m aq)):=by
 intro pins s σ H Q I q;refine wpAny_Call_Name_kw (jG I hg hm boot_min ?_ (by decide) (by decide));have q':=ux (ms:=[.s]) q;refine callWith_kw (thn ((aB ha aG hs) pos pins s σ H _ I q') λus s1 ⟨vs,H1,I1,r1,q1⟩=>?_) he hpl;refine kws_cons (Constant_none (kws_nil ?_));obtain⟨O,F,as,ds,d,r,hvs,e,k⟩:=q1;unfold uF at e;split at e
 ·rename_i es;obtain⟨v,rfl,hv⟩:=hvs.one;obtain⟨a,xs,rfl,h1,h2⟩:=hv.list r.fh;obtain⟨u,rfl,ru⟩:=vals1 r1;cases ru
  cases hi:gZ es with
  |none=>rw[hi] at e;cases e
  |some ns =>
   rw[hi] at e;cases e;have hx:=h2.ints hi;refine Wr hc I1 (ns:=ns) (by rw[<-hx];exact h1.sq) ?_
   cases em:mdI none ns with
   |none =>
    dsimp only at k;rw[em] at k;exact cC r k rfl Rp.non
   |some m =>
    dsimp only at k;rw[em] at k;exact cC r k rfl Rp.int
 ·cases e
end
def Itd(lo:Int)(n:Nat):It:=⟨λi _=>i<n,λi H x H'=>H'=H/\x=.int (lo - i),λi _=>n<=i⟩
def jw(lo:Int)(n:Nat):List D:=(List.range n).map λi:Nat=>.int (lo - i)
theorem Wt{P:Program}{w:World}{K:PySem.W.Frag}{tg:Expr}(it:Addr)(lo:Int)(n:Nat):Turn P w K tg (Itd lo n) [it] it (λi h=>IsRangeIter h it (lo+(i:Nat) * (-1)) ((n:Int) - (i:Nat)) (-1)) where
 mem:=by simp
 obj:=λi h st b hb=>by
  have e:b=it:=by simpa using hb
  subst e
  exact⟨_,st,λv z=>by
   have z':Data.fields _=Data.cell v:=z
   cases z'⟩
 keep:=λi h h' st k=>k it (by simp) _ st
 item:=by
  intro X hP hw hK hc i pins s σ H E I hf st hg;subst hP hw hK;obtain⟨f0,f1,f2,f3,f4,f5⟩:=hf it (by simp);have W:=Walks.range (prog:=X.prog) (w:=X.w) (I.ok.hd hc) it lo (-1) n
  refine W.item i s _ _ hg st λv h' tk hv st' kk=>?_
  obtain⟨t,rfl⟩:=hv;have I1:Inv X pins σ H {s with heap:=h',toks:=tk}:=I.turned (λb o hb e=>kk b o (by simpa using hb) e) f0 f1 f3 f4 f5;refine⟨_,rfl,mW (s:={s with heap:=h',toks:=tk}) (n:="range_iterator") st' rfl rfl (by decide) ⟨.int (lo - i),H,I1,⟨t,?_⟩,⟨rfl,rfl⟩,st',λb hb=>(hf b hb).1⟩⟩;rw[show lo+(i:Int) * (-1)=lo - i by omega]
 done:=by
  intro X hP hw hK hc i pins s σ H E I hf st hg;subst hP hw hK;obtain⟨f0,f1,f2,f3,f4,f5⟩:=hf it (by simp)
  exact wpAny_pyNext_range_end (I.ok.hd hc) st (by have:n<=i:=hg;omega) λh' eb=>⟨rfl,I.turned (t':=s.toks) (λb o hb e=>eb b o hb e) f0 f1 f3 f4 f5⟩
 self:=λ_ _ _ _ _ st h=>wpAny_pyIter_rangeiter st h
section
variable {X:Cx}{tg:Expr}{md:List Md}{P:Pt}
theorem Iv(a b:Int):Builtin.Range.rangeSize a b (-1)=if a>b then a - b else 0:=by
 unfold Builtin.Range.rangeSize;rw[if_neg (by decide)]
 split
 ·rw[show(-(-1:Int))=1 by decide,Int.ediv_one];omega
 ·rfl
theorem small_down{a b:Int}(ha:-(2 ^ 62)<=a)(ha':a<2 ^ 62)(hb:-(2 ^ 62)<=b)(hb':b<2 ^ 62):Builtin.Range.small a b (-1)=true:=by
 unfold Builtin.Range.small;rw[Iv];simp only[Builtin.Range.rangeFitsLong,zp,Bool.or_eq_true,decide_eq_true_eq,beq_iff_eq,show ¬((-1:Int)>0) by decide,if_false]
 split<;>omega
def Wu(ta:TA):TI:=λσ H R=>ta σ H λvs H1=>∃i j:Int,vs=[.int i,.int j,.int (-1)]/\(-(2 ^ 62)<=i/\i<2 ^ 62/\-(2 ^ 62)<=j/\j<2 ^ 62)/\R (Itd i (i - j).toNat) H1
theorem Wv{a b c:Expr}{ta:TA}{p pos:Pos}(hg:Gl X "range")(hm:X.mg "range" = none)(ha:PA X [a,b,c] ta)(hs:starEach [a,b,c] X.env=[(false,eval a X.env),(false,eval b X.env),(false,eval c X.env)]:=by rfl)(hs2:starEach [b,c] X.env=[(false,eval b X.env),(false,eval c X.env)]:=by rfl):
  PI X tg (.Call (.Name "range" p) [a,b,c] [] pos) (Wu ta):=by
 intro pins s σ H R I h;refine Call_ (jG I hg hm boot_range (PyProof.Rows.callWith_type1 (thn (ha pos pins s σ H _ I h) λus s1 ⟨vs,H1,I1,r1,q1⟩=>?_) (by rw[hs,hs2]) (by rw[hs2];rfl)));obtain⟨lo,hi,e,⟨h1,h2,h3,h4⟩,q⟩:=q1;subst e
 cases r1 with
 |cons r rr =>
  cases rr with
  |cons r' rr =>
   cases rr with
   |cons r'' rr =>
    cases rr;obtain⟨t,rfl⟩:=r;obtain⟨u,rfl⟩:=r';obtain⟨v,rfl⟩:=r'';refine call_range_3 (by decide) ?_ (Or.inl (PyProof.noPylong_small (by omega)));refine wpAny_pyIter_range (IsRange.new ..) (small_down h1 h2 h3 h4) ?_
    have J:Inv X pins σ H1 {s1 with heap:=s1.heap.push {cls:=.type "range",data:=.fields #[.int lo t,.int hi u,.int (-1) v]},toks:=s1.toks}:=I1.kept λb o e=>zk _ e
    refine⟨(s1.heap.push {cls:=.type "range",data:=.fields #[.int lo t,.int hi u,.int (-1) v]}).objs.size,[(s1.heap.push {cls:=.type "range",data:=.fields #[.int lo t,.int hi u,.int (-1) v]}).objs.size],_,_,H1,rfl,
     J.kept (t':=s1.toks) λb o e=>zk _ e,Wt _ lo (lo - hi).toNat,?_,λb hb=>?_,q⟩
    ·have e1:lo+((0:Nat):Int) * (-1)=lo:=by simp
     have e2:(((lo - hi).toNat:Nat):Int) - ((0:Nat):Int)=Builtin.Range.rangeSize lo hi (-1):=by rw[Iv];split<;>omega
     show IsRangeIter _ _ (lo+((0:Nat):Int) * (-1)) ((((lo - hi).toNat:Nat):Int) - ((0:Nat):Int)) (-1);rw[e1,e2];exact zz _ rfl
    ·have e:b=(s1.heap.push {cls:=.type "range",data:=.fields #[.int lo t,.int hi u,.int (-1) v]}).objs.size:=by simpa using hb
     subst e;exact J.fpOk (zc _) (J.hok.fresh (zc _))
theorem Ww{K:Frag}{mg:Str->Option Value}{lo:Int}{n:Nat}{H F:Hp}{as:List Addr}:nH K mg P (Itd lo n) (jw lo n) H F as:=xN (λi d H2 e=>by
 unfold jw at e;rw[zA] at e
 by_cases hi:i<n
 ·rw[List.getElem?_range hi] at e;cases e;refine⟨hi,λx H3 y=>?_⟩;obtain⟨e1,rfl⟩:=y;exact⟨e1,λ_ _ _=>Rp.int⟩
 ·rw[List.getElem?_eq_none (by simpa using hi)] at e
  cases e) λH2=>by simp[jw,Itd]
def uG(m:M (List D)):M (List D):=λρ O=>(m ρ O).bind λds O1=>match ds with
 | [.int i,.int j,.int c]=>if c = -1/\i<=1000000000/\-1000000000<=i/\j<=1000000000/\-1000000000<=j then .ok (jw i (i - j).toNat) O1 else .no
 | _=>.no
theorem di.three{K:Frag}{H F:Hp}{as:List Addr}{m1 m2 m3:Md}{vs:List V}{d e f:D}(h:di K H F as [m1,m2,m3] vs [d,e,f]):∃v u z,vs=[v,u,z]/\rA K m1 (λ_=>True) H F as v d/\rA K m2 (λ_=>True) H F as u e/\rA K m3 (λ_=>True) H F as z f:=by
 cases vs with
 |nil=>exact h.elim
 |cons v vs =>
  obtain⟨h1,h2⟩:=h;obtain⟨u,z,rfl,h3,h4⟩:=di.two h2;exact⟨v,u,z,rfl,h1,h3,h4⟩
theorem Wx{a b c:Expr}{p pos:Pos}{m:M (List D)}(hm:X.mg "range" = none)(ha:AE X md P [.s,.s,.s] [a,b,c] m)(hg:Gl X "range":=by rfl)(hs:starEach [a,b,c] X.env=[(false,eval a X.env),(false,eval b X.env),(false,eval c X.env)]:=by rfl)(hs2:starEach [b,c] X.env=[(false,eval b X.env),(false,eval c X.env)]:=by rfl):
  VI X md P tg (.Call (.Name "range" p) [a,b,c] [] pos) (uG m):=(Wv hg hm ha hs hs2).imp λσ H Q q=>by
 obtain⟨ρ,O,F,as,ds,O',r,s,e,k⟩:=q;obtain⟨es,O1,e1,e⟩:=Res.bind_ok e;split at e
 ·rename_i i j c;split at e
  ·rename_i hj;cases e;obtain⟨rfl,hj⟩:=hj;refine⟨ρ,_,F,as,_,_,r,s,e1,λvs H1 F1 as1 g1 r1 hv=>?_⟩;obtain⟨v,u,z,rfl,hv1,hu,hz⟩:=hv.three;have e3:=(Sv.rp hv1 rfl).unI;have e4:=(Sv.rp hu rfl).unI;have e5:=(Sv.rp hz rfl).unI;subst e3 e4 e5;exact⟨i,j,rfl,⟨by omega,by omega,by omega,by omega⟩,k _ H1 F1 as1 g1 r1 Ww⟩
  ·cases e
 ·cases e
end
section
variable {X:Cx}{pins:List (Addr×Obj)}{σ:List (Option V)}{H:Hp}{s:Shared}{a:Addr}{xs:List (List Key×V)}{o:Obj}
theorem Inv.reword{u:HO}(I:Inv X pins σ H s)(ha:H a≠none)(hn:∀ys,H a≠some (.tup ys))(ho:∀y,H a≠some (.own y))(hb:∀ps,H a≠some (.tbl ps))(hf:∀o u,X.H₀ a≠some (.frz o u))(new:cN X.prog X.w (upd H a u) s.heap a u):Inv X pins σ (upd H a u) s where
 ok:=I.ok
 os:=I.os
 bare:=I.bare
 base:={
  keep:=I.base.keep
  slot:=I.base.slot
  free:=λb o' q n hx=>by
   have z:=I.base.free b o' q n hx;rw[aP (by intro e;have w:=z;rw[e] at w;exact ha w)];exact z
  there:=I.base.there
  tups:=λb ys q=>by
   have z:=I.base.tups b ys q;rw[aP (by intro e;have w:=z;rw[e] at w;exact hn ys w)];exact z
  frzs:=λb o' u' q=>by
   have z:=I.base.frzs b o' u' q;rw[aP (by intro e;have w:=q;rw[e] at w;exact hf o' u' w)];exact z
  tbls:=λb ps q=>by
   obtain⟨m,z⟩:=I.base.tbls b ps q
   exact⟨m,by rw[aP (by intro e;have w:=z;rw[e] at w;exact hb _ w)];exact z⟩}
 loc:=I.loc
 cell:=I.cell
 free:=by rw[aP (by intro e;have w:=I.free;rw[e] at w;exact ha w)];exact I.free
 freeC:=λx c q=>by rw[aP (by intro e;have w:=I.freeC x c q;rw[e] at w;exact ha w)];exact I.freeC x c q
 pin:=λp hp=>by
  obtain⟨h1,h2,h3,h4,h5⟩:=I.pin p hp;exact⟨h1,by rw[aP (by intro e;have w:=h2;rw[e] at w;exact ha w)];exact h2,h3,h4,h5⟩
 hok:=λb u' q=>by
  by_cases e:b=a
  ·subst e;rw[cA] at q;cases q;exact new
  ·rw[aP e] at q
   exact(I.hok b u' q).stay (λ_ _ _ z=>z) (λc z=>by rw[aP (by intro e;have w:=z;rw[e] at w;exact ho b w)];exact z) λc ys z=>by rw[aP (by intro e;have w:=z;rw[e] at w;exact hn ys w)];exact z
 len:=I.len
theorem Inv.base0(I:Inv X pins σ H s)(e:H a=some (.dT xs)):∀o u,X.H₀ a≠some (.frz o u):=λo u z=>by
 have:=I.base.frzs a o u z
 rw[e] at this;cases this
theorem Inv.freeze(I:Inv X pins σ H s)(e:H a=some (.dT xs)):∃o,s.heap.get? a=some o/\Inv X pins σ (upd H a (.frz o (.dT xs))) s:=by
 have hx:=I.hok a _ e
 obtain⟨o,ho⟩:∃u,s.heap.get? a=some u:=by
  obtain⟨_,_,_,_,_,_,_,z,_⟩:=hx;exact⟨_,z⟩
 refine⟨o,ho,I.reword (by rw[e];exact λz=>nomatch z) (by rw[e];exact λ_ z=>nomatch z) (by rw[e];exact λ_ z=>nomatch z) (by rw[e];exact λ_ z=>nomatch z) (I.base0 e) ⟨ho,?_⟩⟩
 exact cN.stay hx (λ_ _ _ z=>z) (λc z=>by rw[aP (λq=>by rw[q,e] at z;cases z)];exact z) λc ys z=>by rw[aP (λq=>by rw[q,e] at z;cases z)];exact z
theorem Inv.thaw(I:Inv X pins σ H s)(e:H a=some (.frz o (.dT xs)))(hf:∀o u,X.H₀ a≠some (.frz o u)):Inv X pins σ (upd H a (.dT xs)) s:=by
 obtain⟨ho,hx⟩:=(show cN X.prog X.w H s.heap a (.frz o (.dT xs)) from I.hok a _ e);refine I.reword (by rw[e];exact λz=>nomatch z) (by rw[e];exact λ_ z=>nomatch z) (by rw[e];exact λ_ z=>nomatch z) (by rw[e];exact λ_ z=>nomatch z) hf ?_
 exact cN.stay hx (λ_ _ _ z=>z) (λc z=>by rw[aP (λq=>by rw[q,e] at z;cases z)];exact z) λc ys z=>by rw[aP (λq=>by rw[q,e] at z;cases z)];exact z
end
section
variable {prog:Program}{w:World}{A:Around}{E:Value->Shared->Prop}{s:Shared}
theorem Wz{d:Addr}{o:Obj}{es:Array DictEntry}{ep:Nat}{Q:Value->Shared->Prop}(hd:(d == sysModules)=false)(ho:s.heap.get? d=some o)(hx:o.ExactDict)(hdat:o.data=.dict es ep)
  (hQ:Q (.ref s.heap.objs.size) {s with heap:=s.heap.push {cls:=.type "dict_keyiterator",data:=.fields #[.ref d,.int 0 0,.int es.size 0,.int ep 0]}}):
  wpAny (model prog w) A (pyIter (.ref d)) Q E s:=by
 have hT:s.TypeIs (.ref d) "dict":=⟨o,ho,hx.1⟩;refine wpAny_pyIter_slot hT PySem.F.slot_dict_iter (wpAny_call_entry PySem.F.slot_dict_iter hT PySem.F.entry_dict_iter ?_ (PySem.F.args_dict_iter_1 _));unfold Builtin.«dict.__iter__»;refine za ?_;unfold Builtin.Dict.dictSlotNone;refine za (wpAny_notOrdered_dict hT ?_);show wpAny _ _ (pure (Value.ref d)) _ _ s;refine zb ?_;show wpAny _ _ (Builtin.Dict.showsAll d >>= _) _ _ s;unfold Builtin.Dict.showsAll;rw[if_neg (by rw[hd];exact zj)];refine za (zb ?_);refine za (wpAny_dictEntries ho hdat ?_);refine za (wpAny_dictEpoch ho hdat ?_);refine za (wpAny_newObj_type (zb ⟨_,rfl,"dict_keyiterator",_,⟨_,zz _ rfl,rfl⟩,PySem.F.slot_dict_keyiterator_next.lookup,?_⟩))
 simpa [rawInt] using hQ
theorem WD{it d:Addr}{i n ep:Nat}{od:Obj}{es:Array DictEntry}{Q:Option Value->Shared->Prop}(hit:s.heap.IsKeyIter it d i n ep)(hod:s.heap.get? d=some od)(hdd:od.data=.dict es ep)(hsz:es.size=n)(hlt:i<n)
  (hQ:∀h',h'.IsKeyIter it d (i+1) n ep->Heap.SameBut it s.heap h'->Q (some (es[i]'(by omega)).key) {s with heap:=h'}):
  wpAny (model prog w) A (pyNext (.ref it)) Q E s:=by
 obtain⟨o,ho,hc,hd⟩:=id hit;unfold pyNext
 refine za (wpAny_attempt (wpAny_callSpecial?_slot (name:=Str.ofString "__next__") hit.typeIs PySem.F.slot_dict_keyiterator_next
  (wpAny_call_entry PySem.F.slot_dict_keyiterator_next hit.typeIs PySem.F.entry_dict_keyiterator_next ?_ (PySem.F.args_dict_keyiterator_next_1 _))))
 refine za (zb ?_);refine za ?_;refine za ?_
 first | refine za (wpAny_typeNameOfWhole_keyiter hit.typeIs (zb ?_)) | refine za (wpAny_typeNameOf_keyiter hit.typeIs (zb ?_))
 refine za (wpAny_fieldsOf ho hd ?_)
 have hown:Builtin.Dict_items.ownsTuple "dict_keyiterator" = false:=by decide
 simp only[hown,Bool.false_eq_true,if_false];show wpAny _ _ (if(Value.ref d == Value.none)=true then _ else _) _ _ s;rw[if_neg (show ¬((Value.ref d == Value.none)=true) from zj)];refine za (zb ?_);refine za (wpAny_dictEntries hod hdd ?_);rw[if_neg (by rw[hsz];simp)];refine za (zb ?_);refine za (wpAny_dictEpoch hod hdd ?_);rw[if_neg (by simp)];refine zb ?_
 have hlt':i<es.size:=by rw[hsz];exact hlt
 simp only[show ¬((i:Int)<0) from by omega,if_false,Int.toNat_natCast,Array.getElem?_eq_getElem hlt'];refine za ?_
 first | refine za (wpAny_typeNameOfWhole_keyiter hit.typeIs (zb ?_)) | refine za (wpAny_typeNameOf_keyiter hit.typeIs (zb ?_))
 refine za (wpAny_isOneOf_keyiter hit.typeIs ?_);show wpAny _ _ (setField (.ref it) 1 (rawInt ((i:Int)+1)) >>= _) _ _ s;refine za (wpAny_setField ho hd (by simp) ?_);have hit':(s.heap.update it (Obj.mapFields (·.setIfInBounds 1 (rawInt ((i:Int)+1))))).IsKeyIter it d (i+1) n ep :=
  ⟨_,Heap.get?_update_self _ ho (Obj.isFreed_of_fields (Obj.data_mapFields hd _)),(Obj.cls_mapFields ..).trans hc,by rw[Obj.data_mapFields hd];simp[rawInt]⟩
 refine za (zM ?_);refine za (wpAny_isOneOf_keyiter (s:={s with heap:=s.heap.update it (Obj.mapFields (·.setIfInBounds 1 (rawInt ((i:Int)+1))))}) hit'.typeIs ?_);show wpAny _ _ (pure es[i].key) _ _ _;exact zb (zb ⟨_,rfl,zb (hQ _ hit' (Heap.SameBut.update ..))⟩)
theorem WK{it d:Addr}{i n ep:Nat}{od:Obj}{es:Array DictEntry}{Q:Option Value->Shared->Prop}(hh:A.handled=none)(hit:s.heap.IsKeyIter it d i n ep)(hod:s.heap.get? d=some od)(hdd:od.data=.dict es ep)(hsz:es.size=n)(hge:n<=i)
  (hQ:∀h',Heap.ExtBut it s.heap h'->Q none {s with heap:=h'}):wpAny (model prog w) A (pyNext (.ref it)) Q E s:=by
 obtain⟨o,ho,hc,hd⟩:=id hit;unfold pyNext
 refine za (wpAny_attempt (wpAny_callSpecial?_slot (name:=Str.ofString "__next__") hit.typeIs PySem.F.slot_dict_keyiterator_next
  (wpAny_call_entry PySem.F.slot_dict_keyiterator_next hit.typeIs PySem.F.entry_dict_keyiterator_next ?_ (PySem.F.args_dict_keyiterator_next_1 _))))
 refine za (zb ?_);refine za ?_;refine za ?_
 first | refine za (wpAny_typeNameOfWhole_keyiter hit.typeIs (zb ?_)) | refine za (wpAny_typeNameOf_keyiter hit.typeIs (zb ?_))
 refine za (wpAny_fieldsOf ho hd ?_)
 have hown:Builtin.Dict_items.ownsTuple "dict_keyiterator" = false:=by decide
 simp only[hown,Bool.false_eq_true,if_false];show wpAny _ _ (if(Value.ref d == Value.none)=true then _ else _) _ _ s;rw[if_neg (show ¬((Value.ref d == Value.none)=true) from zj)];refine za (zb ?_);refine za (wpAny_dictEntries hod hdd ?_);rw[if_neg (by rw[hsz];simp)];refine za (zb ?_);refine za (wpAny_dictEpoch hod hdd ?_);rw[if_neg (by simp)];refine zb ?_
 have hge':es.size<=i:=by rw[hsz];exact hge
 simp only[show ¬((i:Int)<0) from by omega,if_false,Int.toNat_natCast,Array.getElem?_eq_none hge'];refine za ?_
 first | refine za (wpAny_typeNameOfWhole_keyiter hit.typeIs (zb ?_)) | refine za (wpAny_typeNameOf_keyiter hit.typeIs (zb ?_))
 show wpAny _ _ (setField (.ref it) 0 .none >>= _) _ _ s;refine za (wpAny_setField ho hd (by simp) ?_);show wpAny _ _ (newExc (.type "StopIteration") [] >>= _) _ _ _;refine za ?_;simp only[newExc,newTuple];refine za (wpAny_newObj_type ?_ (by size_fits));refine za (m:=firstArgMember _ _) (wpAny_of_eq (a:=Value.none) (by first | rfl | (simp only[firstArgMember];rfl)) ?_);refine wpAny_newObj_type ?_ (by size_fits);simp only[raiseNew];refine za (wpAny_handled ?_);rw[show A.in1.handled=none from hh];refine za (zb (wpAny_throw ?_));refine za (wpAny_isInstance (T:="StopIteration") (b:=true) ⟨_,zz _ rfl,rfl⟩ isSubtype_stop ?_)
 exact zb (hQ _ (((Heap.SameBut.update ..).extBut.push _).push _))
end
def Itq(a:Addr)(o:Obj):It :=
 ⟨λi H=>∃ys:List (List Key×V),H a=some (.frz o (.dT ys))/\i<ys.length,
  λi H x H'=>H'=H/\∀ys:List (List Key×V),H a=some (.frz o (.dT ys))->∃b p,x=.ref b/\ys[i]?=some p/\H b=some (.tup (p.1.map kV)),
  λi H=>∃ys:List (List Key×V),H a=some (.frz o (.dT ys))/\ys.length<=i⟩
theorem WL{α β:Type}{R:α->β->Prop}{l:List α}{m:List β}(h:Paired R l m):∀{i:Nat}{x:α}{y:β},l[i]?=some x->m[i]?=some y->R x y:=by
 induction h with
 |nil=>intro i x y h;cases h
 |cons a b ih =>
  intro i x y h1 h2
  cases i with
  |zero=>cases h1;cases h2;exact a
  |succ i=>exact ih h1 h2
theorem xU{X:Cx}{pins:List (Addr×Obj)}{σ:St}{H:Hp}{s:Shared}{a:Addr}{o:Obj}{ys:List (List Key×V)}(I:Inv X pins σ H s)(e:H a=some (.frz o (.dT ys))):
  s.heap.get? a=some o/\(a == sysModules)=false/\o.ExactDict/\∃es ep,o.data=.dict es ep/\es.size=ys.length/\∀(i:Nat) (h:i<es.size),∃b p,es[i].key=.ref b/\ys[i]?=some p/\H b=some (.tup (p.1.map kV)):=by
 obtain⟨h1,z,y,xs,r,o',es,ep,h2,h3,h4,h5,h6⟩:=(show cN X.prog X.w H s.heap a (.frz o (.dT ys)) from I.hok a _ e);rw[h1] at h2;cases h2
 have hl:es.size=xs.length:=by rw[<-Array.length_toList,h5,ze]
 have hr:ys.length=xs.length:=r.length;refine⟨h1,y,h3,es,ep,h4,by omega,λi hi=>?_⟩
 have hx:i<xs.length:=by omega
 have hy:i<ys.length:=by omega
 have ek:es.toList[i]?=some (entryOfKey (tupleKind (fK X.prog X.w)) xs[i]):=by rw[h5,zA,zo hx];rfl
 rw[Array.getElem?_toList,Array.getElem?_eq_getElem hi] at ek;have hh:=WL r (zo hy) (zo hx);refine⟨xs[i].2.1,ys[i],?_,zo hy,hh.2.1⟩
 injection ek with ek
 rw[ek];rfl
theorem WM{P:Program}{w:World}{K:Frag}{tg:Expr}(a it:Addr)(o:Obj)(es:Array DictEntry)(ep:Nat)(hd:o.data=.dict es ep):Turn P w K tg (Itq a o) [it] it (λi h=>h.IsKeyIter it a i es.size ep) where
 mem:=by simp
 obj:=λi h st b hb=>by
  have e:b=it:=by simpa using hb
  subst e;obtain⟨o,e,c,d⟩:=st;exact⟨o,e,λv z=>by rw[d] at z;cases z⟩
 keep:=λi h h' st k=>st.at λo e=>k it (by simp) o e
 item:=by
  intro X hP hw hK hc i pins s σ H E I hf st hg;subst hP hw hK;obtain⟨ys,hq,hlt⟩:=hg;obtain⟨q1,q2,q3,es',ep',q4,q5,q6⟩:=xU I hq;rw[hd] at q4;cases q4;obtain⟨f0,f1,f2,f3,f4,f5⟩:=hf it (by simp)
  have hi:i<es.size:=by omega
  refine WD st q1 hd rfl hi λh' st' sb=>?_
  have I1:Inv X pins σ H {s with heap:=h'}:=I.turned (t':=s.toks) (λb o hb e=>(sb.2 b hb).trans e) f0 f1 f3 f4 f5;obtain⟨b,p,k1,k2,k3⟩:=q6 i hi;rw[k1];obtain⟨o2,e,c,d⟩:=id st';refine⟨_,rfl,mW (s:={s with heap:=h'}) e c d (by decide) ⟨.ref b,H,I1,rfl,⟨rfl,λzs hz=>?_⟩,st',λb hb=>(hf b hb).1⟩⟩;rw[hq] at hz;cases hz;exact⟨b,p,rfl,k2,k3⟩
 done:=by
  intro X hP hw hK hc i pins s σ H E I hf st hg;subst hP hw hK;obtain⟨ys,hq,hge⟩:=hg;obtain⟨q1,q2,q3,es',ep',q4,q5,q6⟩:=xU I hq;rw[hd] at q4;cases q4;obtain⟨f0,f1,f2,f3,f4,f5⟩:=hf it (by simp)
  exact WK (I.ok.hd hc) st q1 hd rfl (by omega) λh' eb=>⟨rfl,I.turned (t':=s.toks) (λb o hb e=>eb b o hb e) f0 f1 f3 f4 f5⟩
 self:=λ_ _ _ _ _ st h=>wpAny_pyIter_keyiter st h
def WN(tl:TE):TI:=λσ H R=>tl σ H λx H1=>∃a xs,x=.ref a/\H1 a=some (.dT xs)/\∀o,R (Itq a o) (upd H1 a (.frz o (.dT xs)))
theorem WQ{X:Cx}{tg l:Expr}{tl:TE}(hl:PE X l tl):PI X tg l (WN tl):=by
 intro pins s σ H R I h
 refine thn (hl pins s σ H _ I h) λv s1 ⟨x,H1,I1,r1,q1⟩=>?_
 obtain⟨a,xs,e,hq,q⟩:=q1;subst e;cases r1;obtain⟨o,ho,I2⟩:=I1.freeze hq;obtain⟨q1,q2,q3,es,ep,q4,q5,q6⟩:=xU I2 cA;refine Wz q2 q1 q3 q4 ?_;refine⟨s1.heap.objs.size,[s1.heap.objs.size],_,_,upd H1 a (.frz o (.dT xs)),rfl,I2.kept (t':=s1.toks) λb o e=>zk _ e,WM a _ o es ep q4,⟨_,zz _ rfl,rfl,rfl⟩,λb hb=>?_,q o⟩
 have e:b=s1.heap.objs.size:=by simpa using hb
 subst e;exact I2.fpOk (zc _) (I2.hok.fresh (zc _))
section
variable {K:Frag}{mg:Str->Option Value}{O:au}{H F:Hp}{as:List Addr}
theorem Gr.tupF{b:Addr}{xs:List V}(hb:H b=some (.tup xs))(hf:F b=none):Gr H F as H (upd F b (.tup xs)) as :=
 ⟨λa o e _ hd=>aP (λz=>by rw[z,hb] at e;cases e;cases hd),λa u e=>by rw[aP (cT e hf)];exact e,⟨[],by simp,λ_ h=>nomatch h⟩,λ_ _ h _ _=>h,λ_ h=>h,λ_ _ _ h=>h⟩
theorem RlO.noT{b:Addr}{xs:List V}(r:RlO K mg O H F as)(hb:H b=some (.tup xs)):b∉as:=λhm=>by
 obtain⟨n,hn,e⟩:=List.mem_iff_getElem.mp hm
 have hO:n<O.length:=by rw[<-r.len];exact hn
 have q:=r.ob n b O[n] (by rw[zo hn,e]) (zo hO)
 revert q
 cases O[n] with
 |ins c fs=>rintro⟨C,dx,gs,_,h2,_⟩;rw[hb] at h2;cases h2
 |ml ds=>rintro⟨xs,h1,_⟩;rw[hb] at h1;cases h1
 |dt kvs=>rintro⟨xs,h1,_⟩;rw[hb] at h1;cases h1
 |df kvs=>rintro⟨o,xs,h1,_⟩;rw[hb] at h1;cases h1
theorem xV:∀ks:List Key,Rps K F as (ks.map kV) (ks.map ph)
 | []=>Rps.nil
 | .inl i::ks=>Rps.cons (show Rp K F as (.int i) (.int i) from rfl) (xV ks)
 | .inr x::ks=>Rps.cons (show Rp K F as (.str x) (.str x.cps.toList) from by
   show V.str x=V.str (S x.cps.toList)
   rw[show S x.cps.toList=x by cases x;simp[S]]) (xV ks)
theorem RlO.df{n:Nat}{a:Addr}{kvs:List (List Key×D)}(r:RlO K mg O H F as)(hn:as[n]?=some a)(hO:O[n]?=some (.df kvs)):∃o xs,H a=some (.frz o (.dT xs))/\DtR K F as xs kvs:=let ⟨o,xs,h1,h2,h3⟩:=r.ob n a _ hn hO;⟨o,xs,h1,h2,h3⟩
end
section
variable {X:Cx}{md:List Md}{P:Pt}{R:RR}
def xW(p:List Key×D):D:=.tup (p.1.map ph)
def pM(m:M D):M (List D):=λρ O=>(m ρ O).bind λd O1=>match d with
 | .ob n=>match O1[n]? with
  |some (.dt kvs)=>.ok (kvs.map xW) (O1.set n (.df kvs))
  | _=>.no
 | _=>.no
theorem WR{tg e:Expr}{m:M D}(h:VE X md P e m):VI X md P tg e (pM m):=(WQ h).imp λσ H Q q=>by
 obtain⟨ρ,O,F,as,ds,O',r,s,e,k⟩:=q;obtain⟨d,O1,e1,e⟩:=Res.bind_ok e;split at e
 ·rename_i n;split at e
  ·rename_i kvs e2;cases e;refine⟨ρ,_,F,as,_,_,r,s,e1,λv H1 F1 as1 g1 r1 hv=>?_⟩;obtain⟨a,rfl,ha⟩:=Rp.unO hv;obtain⟨xs,x1,x2⟩:=r1.dt ha e2;refine⟨a,xs,rfl,x1,λo=>k (Itq a o) (upd H1 a (.frz o (.dT xs))) F1 as1 (g1.trans (Ig (zI ha) x1)) (r1.mutG ha ⟨o,xs,cA,x2.1,x2.2⟩) ⟨λi d H2 F2 as2 g2 r2 hd=>?_,λH2 F2 as2 g2 r2=>?_⟩⟩
   ·have hz:=g2.kz a o _ cA
    have hi:i<kvs.length:=by have:=(zl.mp hd).1;rwa [ze] at this
    have hi':i<xs.length:=by rw[x2.len];exact hi
    refine⟨⟨xs,hz,hi'⟩,λx H3 y=>?_⟩;obtain⟨rfl,hy⟩:=y;obtain⟨b,p,rfl,hp,hb⟩:=hy xs hz
    have hk:p.1=kvs[i].1:=by
     have h1:(xs.map (·.1))[i]?=some p.1:=by rw[zA,hp];rfl
     rw[x2.1,zA,zo hi] at h1
     injection h1 with h1
     exact h1.symm
    rw[zA,zo hi] at hd
    injection hd with hd
    subst hd
    have fin:∀F3:Hp,F3 b=some (.tup (p.1.map kV))->Rp X.K F3 as2 (.ref b) (xW kvs[i]):=λF3 h3=>⟨b,_,rfl,.inl h3,by rw[<-hk];exact xV p.1⟩
    cases hF:F2 b with
    |some u =>
     obtain⟨O2,r2'⟩:=r2
     have:=r2'.fh b u hF
     rw[hb] at this;cases this;exact⟨F2,Gr.refl,λ_ r=>r,fin F2 hF⟩
    |none=>exact⟨upd F2 b (.tup (p.1.map kV)),Gr.tupF hb hF,λ_ r=>r.frz hb hF (r.noT hb) rfl,fin _ cA⟩
   ·exact⟨xs,g2.kz a o _ cA,by rw[ze,x2.len];exact zc _⟩
  ·cases e
 ·cases e
end
def pN(i:Nat)(ms:MS):MS:=λρ O=>match ρ[i]? with
 |some (some (.ob n))=>match O[n]? with
  |some (.dt _)=>match ms ρ O with
   | .nx ρ2 O2=>match O2[n]? with
    |some (.df kvs)=>.nx ρ2 (O2.set n (.dt kvs))
    | _=>.no
   | _=>.no
  | _=>.no
 | _=>.no
section
variable {K:Frag}{mg:Str->Option Value}{md:List Md}{P:Pt}{ρ:aD}{σ:St}{O:au}{H F H' F':Hp}{as as':List Addr}
theorem iV.reH{m:Md}{v:V}{d:D}{a:Addr}{h:HO}(q:iV P K H F as m v d)(ha:a∈as):iV P K (upd H a h) F as m v d:=by
 cases m with
 |v=>exact q
 |s =>
  rcases q with q | ⟨c,xs,ds,e1,e2,e3,e4,e5,e6⟩
  ·exact .inl q
  ·exact .inr ⟨c,xs,ds,e1,e2,by rw[aP (λz=>e4 (by rw[z];exact ha))];exact e3,e4,e5,e6⟩
 |o =>
  rcases q with⟨h1,q⟩ | ⟨c,xs,ds,e1,e2,e3,e0,e4,e5,e6⟩
  ·exact .inl ⟨h1,q⟩
  ·exact .inr ⟨c,xs,ds,e1,e2,by rw[aP (λz=>e4 (by rw[z];exact ha))];exact e3,e0,e4,e5,e6⟩
theorem SlO.reH{a:Addr}{h:HO}(s:SlO K md P ρ σ H F as)(ha:a∈as):SlO K md P ρ σ (upd H a h) F as :=
 ⟨s.len,s.len',λc p z=>s.pd c p (by
  by_cases e:c=a
  ·rw[e,cA] at z;cases z
  ·rwa [aP e] at z),λi m d e1 e2=>let ⟨v,q,r⟩:=s.sl i m d e1 e2;⟨v,q,r.reH ha⟩,s.inj,s.pin⟩
theorem SlO.obAt{i n:Nat}(s:SlO K md P ρ σ H F as)(e:ρ[i]?=some (some (.ob n))):∃a,as[n]?=some a:=by
 have hi:i<md.length:=by rw[<-s.len'];exact(zl.mp e).1
 obtain⟨v,_,q⟩:=s.sl i _ _ (zo hi) e
 have hr:Rp K F as v (.ob n):=by
  revert q
  cases md[i] with
  |v=>exact λq=>q
  |s =>
   rintro(q | ⟨a,xs,ds,_,z,_⟩)
   ·exact q
   ·cases z
  |o =>
   rintro(⟨_,q⟩ | ⟨a,xs,ds,_,z,_⟩)
   ·exact q
   ·cases z
 obtain⟨a,_,ha⟩:=Rp.unO hr;exact⟨a,ha⟩
theorem GrS.reH{a:Addr}{h:HO}{xs:List (List Key×V)}(g:GrS P H F as H' F' as')(ha:a∈as)(hx:H a=some (.dT xs)):GrS P H F as (upd H' a h) F' as' :=
 ⟨g.fz,g.ff,g.nw,λc o p e hn hd=>by rw[aP (λz=>hn (by rw[z];exact ha))];exact g.fr c o p e hn hd,λc e=>by
  by_cases z:c=a
  ·rw[z,cA] at e;cases e
  ·rw[aP z] at e;exact g.dm c e,λc o u e=>by rw[aP (λz=>by rw[z,hx] at e;cases e)];exact g.kz c o u e⟩
end
section
variable {X:Cx}{md:List Md}{P:Pt}{R:RR}
theorem WT(i:Nat){st:Stmt}{ms:MS}(h:VS X md P R st ms):VS X md P R st (pN i ms):=λpins s σ H D I q=>by
 obtain⟨ρ,O,F,as,r,sl,k⟩:=q;unfold pN at k;split at k
 ·rename_i n e1;split at k
  ·rename_i kv0 e2;split at k
   ·rename_i ρ2 O2 e3;split at k
    ·rename_i kvs e4;obtain⟨a,ha⟩:=sl.obAt e1;obtain⟨xs0,x1,_⟩:=r.dt ha e2;have hf:=I.base0 x1
     refine thn (h pins s σ H {nx:=λσ' H'=>∃F' as',GrS P H F as H' F' as'/\RlO X.K X.mg O2 H' F' as'/\SlO X.K md P ρ2 σ' H' F' as',rt:=λ_ _=>False} I ⟨ρ,O,F,as,r,sl,by rw[e3];exact λσ' H' F' as' g r s=>⟨F',as',g,r,s⟩⟩) λf s' z=>?_
     cases f with
     |next =>
      obtain⟨σ',H',I',F',as',g,r',s2⟩:=z;have ha':=g.at_ n a ha;have hm':=zI ha';obtain⟨o,xs,y1,y2⟩:=r'.df ha' e4;exact⟨σ',_,I'.thaw y1 hf,k σ' _ F' as' (g.reH (zI ha) x1) (r'.mutG ha' ⟨xs,cA,y2.1,y2.2⟩) (s2.reH hm')⟩
     |brk=>obtain⟨σ',H',_,z⟩:=z;exact z.elim
     |cont=>obtain⟨σ',H',_,z⟩:=z;exact z.elim
     |ret u=>obtain⟨v,σ',H',_,_,z⟩:=z;exact z.elim
    ·exact False.elim k
   ·exact False.elim k
  ·exact False.elim k
 ·exact False.elim k
def tsG(n:Nat)(y:D)(O:au):Res D:=match pK y,O[n]? with
 |some k,some (.df kvs)=>match gH kvs k with
  |some d=>.ok d O
  |none=>.no
 | _,_=>tsF n y O
def cG(mo my:M D):M D:=λρ O=>(mo ρ O).bind λx O1=>match x with
 | .ob n=>(my ρ O1).bind λy O2=>tsG n y O2
 | _=>.no
theorem ik{kk:Nat}(hk:bH X.K=true)(hr:bD kk X.A){o i:Expr}{pos:Pos}{mo my:M D}(ho:VE X md P o mo)(hi:VE X md P i my)(hs:t7 i:=by intro _ _;rfl):VE X md P (.Subscript o i pos) (cG mo my):=λpins s σ H Q I q=>by
 obtain⟨ρ,O,F,as,d,O',r,sl,e,k⟩:=q;obtain⟨x,O1,e1,e⟩:=Res.bind_ok e
 cases x with
 |ob n =>
  obtain⟨y,O2,e2,e⟩:=Res.bind_ok e;unfold tsG at e;split at e
  ·rename_i ks kvs e3 e4;split at e
   ·rename_i d' e5;cases e;refine Gv (uc hr) ho hi hs pins s σ H Q I ⟨ρ,_,F,as,_,_,r,sl,e1,λx H1 F1 as1 g1 r1 hx=>⟨ρ,_,F1,as1,_,_,r1,sl.step g1,e2,λu H2 F2 as2 g2 r2 hu=>?_⟩⟩;obtain⟨a,rfl,ha⟩:=Rp.unO hx;obtain⟨o,xs,x1,x2⟩:=r2.df (g2.at_ n a ha) e4;obtain⟨b,rfl,hb⟩:=Rp.tkey hk hu e3
    rcases x2.val (k:=ks) with⟨z1,z2⟩ | ⟨d2,v',z1,z2,z3⟩
    ·rw[z1] at e5;cases e5
    ·rw[z1] at e5;cases e5;refine⟨a,v',rfl,?_,k _ H2 F2 as2 (g1.trans g2) r2 z3⟩;rw[<-z2];exact .inr ⟨xs,ks,b,.inr ⟨o,x1⟩,rfl,r2.fh _ _ hb,rfl⟩
   ·cases e
  ·refine Wo hk hr ho hi hs pins s σ H Q I ⟨ρ,O,F,as,d,O',r,sl,?_,k⟩;unfold Iu;rw[e1];show Res.bind (my ρ O1) _=_;rw[e2];exact e
 | _=>cases e
end
section
variable {X:Cx}{md:List Md}{P:Pt}{R:RR}
end
section
variable {prog:Program}{w:World}
theorem WW(a:Addr)(hsy:(a == sysModules)=false)(n:Nat):MeetsIn prog w (Builtin.«dict.__len__» ⟨[.ref a],[]⟩) (λ_ R s=>(∃ob es ep,s.heap.get? a=some ob/\ob.data=.dict es ep/\es.size=n)/\R (.ok (.ret (.int n s.toks))) {s with toks:=s.toks+1}):=
 .of_wp λA R s ⟨⟨ob,es,ep,hob,hda,hz⟩,hR⟩=>by
  show wpAny _ _ (dictSize a >>= _) _ _ s;unfold dictSize;refine za (za (wpAny_dictEntries hob hda (zb ?_)));show wpAny _ _ (Builtin.Dict.pendingCount a >>= _) _ _ s;refine za (wpAny_pendingCount_other hsy (wpAny_ret_mkInt ?_));rw[Nat.add_zero,hz];exact hR
end
section
variable {X:Cx}{md:List Md}{P:Pt}{R:RR}
theorem WX{H:Hp}{kvs:List (List Key×V)}{xs:List (List Key×Addr×Value)}(h:KT H kvs xs):kvs.length=xs.length:=by
 induction h with
 |nil=>rfl
 |cons _ _ ih=>rw[zx,zx,ih]
theorem WY:gQ X (.builtin "len") (λxs H Q=>∃a kvs,xs=[V.ref a]/\H a=some (.dT kvs)/\Q (.int kvs.length) H):=by
 intro pins s σ H xs us Q I r h;obtain⟨a,kvs,rfl,ha,q⟩:=h;obtain⟨u,rfl,ru⟩:=vals1 r;cases ru;obtain⟨z,hsy,ys,rel,dd⟩:=nu I.hok (.inl ha);have ty:=dd.typeIs;obtain⟨ob,es,ep,hob,hx,hda,hes,_⟩:=dd
 have hz:es.size=kvs.length:=by rw[size_of_entries hes,<-WX rel]
 rw[sizeLine_eq] at z
 generalize kvs.length=n at z hz q
 refine Calls.call_function_entry kind_len plain_len entry_len (args_len1 _) ?_;unfold Builtin.«len»;refine za (m:=oneArg "len" _) (zb (za (m:=callSpecial? (.ref a) (Str.ofString "__len__")) (wpAny_callSpecial?_slot (name:=Str.ofString "__len__") ty PySem.F.slot_dict_len (call_meetsIn PySem.F.slot_dict_len ty PySem.F.entry_dict_len (PySem.F.args_dict_len_1 _) (WW a hsy n) ⟨⟨ob,es,ep,hob,hda,hz⟩,?_⟩))));show wpAny _ _ _ _ _ {s with toks:=s.toks+1};refine za (zM (zb (za (jh ?_))));show wpAny _ _ (if(n:Int)<0 then _ else _) _ _ _;rw[if_neg (by omega)];show wpAny _ _ (if(n:Int)>=2 ^ 63 then _ else _) _ _ _
 rw[if_neg (by omega)];exact za (wpAny_mkInt (zb ⟨_,rfl,⟨.int n,H,I.tok _,⟨_,rfl⟩,q⟩⟩))
def nW(mo:M D):M D:=λρ O=>(mo ρ O).bind λx O1=>match x with
 | .ob n=>match O1[n]? with
  |some (.dt kvs)=>.ok (.int kvs.length) O1
  | _=>.no
 | _=>.no
theorem W0{a:Expr}{p pos:Pos}{m:M D}(hm:X.mg "len" = none)(h:VE X md P a m)(hg:Gl X "len":=by rfl)(hs1:starEach [a] X.env=(false,eval a X.env)::starEach [] X.env:=by exact dB rfl)(hpl:(backTo pos (starEach [] X.env)).any (·.1)=false:=by exact fC rfl):OE X md P (.Call (.Name "len" p) [a] [] pos) (nW m):=
 (tZ WY hg hm (by decide +kernel) (j7 h mZ hs1) (by decide) (by decide) hs1 hpl).imp λσ H Q q=>by
  obtain⟨ρ,O,F,as,d,O',r,s,e,k⟩:=q;obtain⟨x,O1,e1,e⟩:=Res.bind_ok e;split at e
  ·rename_i n;split at e
   ·rename_i kvs e4;cases e;refine⟨ρ,_,F,as,_,_,r,s,e1,λv H1 F1 as1 g1 r1 hv=>?_⟩;obtain⟨a,rfl,ha⟩:=Rp.unO hv;obtain⟨xs,x1,x2⟩:=r1.dt ha e4
    have hl:xs.length=kvs.length:=by
     have:=congrArg List.length x2.1
     rw[ze,ze] at this;exact this
    refine⟨a,xs,rfl,x1,?_⟩;rw[hl];exact k _ H1 F1 as1 g1 r1 (.inl ⟨rfl,Rp.int⟩)
   ·cases e
  ·cases e
theorem W2:gQ X (.builtin "isinstance") (λxs H Q=>∃a kvs,xs=[V.ref a,.ty "dict"]/\H a=some (.dT kvs)/\Q (.bl true) H):=by
 intro pins s σ H xs us Q I r h;obtain⟨a,kvs,rfl,ha,q⟩:=h;obtain⟨u,c,rfl,ru,rc⟩:=vals2 r;cases(show c=.type "dict" from rc);cases(show u=Value.ref a from ru);obtain⟨z,hsy,ys,rel,dd⟩:=nu I.hok (.inl ha);obtain⟨ob,es,ep,hob,hx,hda,hes,_⟩:=dd
 exact PySem.W.kia_one PySem.W.kitx_dict I.kIn ⟨ob,hob,hx.1⟩ (GJ X.K "dict") (λz=>nomatch z) λtk=>⟨.bl true,H,I.tok tk,rfl,q⟩
def pO(mo:M D):M D:=λρ O=>(mo ρ O).bind λx O1=>match x with
 | .ob n=>match O1[n]? with
  |some (.dt _)=>.ok (.bl true) O1
  | _=>.no
 | _=>.no
theorem W3{a:Expr}{p p' pos:Pos}{m:M D}(hm:X.mg "isinstance" = none)(hT:X.mg "dict" = none)(h:VE X md P a m)(hg:Gl X "isinstance":=by rfl)(hgT:Gl X "dict":=by rfl)
  (hs1:starEach [a,.Name "dict" p'] X.env=(false,eval a X.env)::starEach [.Name "dict" p'] X.env:=by exact dB rfl) (hs2:starEach [.Name "dict" p'] X.env=(false,eval (.Name "dict" p') X.env)::starEach [] X.env:=by rfl) (hpl:(backTo pos (starEach [.Name "dict" p'] X.env)).any (·.1)=false:=by exact fC rfl):
  OE X md P (.Call (.Name "isinstance" p) [a,.Name "dict" p'] [] pos) (pO m):=
 (tZ W2 hg hm (by decide +kernel) (j7 h (j7 (Ew (v:=.ty "dict") hgT hT (by decide +kernel) rfl) mZ hs2) hs1) (by decide) (by decide) hs1 hpl).imp λσ H Q q=>by
  obtain⟨ρ,O,F,as,d,O',r,s,e,k⟩:=q;obtain⟨x,O1,e1,e⟩:=Res.bind_ok e;split at e
  ·rename_i n;split at e
   ·rename_i kvs e4;cases e;refine⟨ρ,_,F,as,_,_,r,s,e1,λv H1 F1 as1 g1 r1 hv=>?_⟩;obtain⟨a,rfl,ha⟩:=Rp.unO hv;obtain⟨xs,x1,x2⟩:=r1.dt ha e4;exact⟨a,xs,rfl,x1,k _ H1 F1 as1 g1 r1 (.inl ⟨rfl,Rp.bl⟩)⟩
   ·cases e
  ·cases e
def pP(mo my:M D):M D:=λρ O=>(mo ρ O).bind λx O1=>match x with
 | .ob n=>match O1[n]? with
  |some (.dt _)=>(my ρ O1).bind λy O2=>match pK y,O2[n]? with
   |some k,some (.dt kvs)=>.ok ((gH kvs k).getD .non) O2
   | _,_=>.no
  | _=>.no
 | _=>.no
theorem W4{kk:Nat}(hk:bH X.K=true)(hr:bD kk X.A){o e:Expr}{apos cpos:Pos}{mo my:M D}(ho:VE X md P o mo)(he:VE X md P e my)(m:M1 X o "get" apos e cpos:=by exact⟨rfl,rfl,rfl,rfl⟩):VE X md P (.Call (.Attribute o "get" apos) [e] [] cpos) (pP mo my):=
 (TQ (uc hr) ho he m).imp λσ H Q q=>by
  obtain⟨ρ,O,F,as,d,O',r,s,e,k⟩:=q;obtain⟨x,O1,e1,e⟩:=Res.bind_ok e;split at e
  ·rename_i n;split at e
   ·rename_i kv0 e0;obtain⟨y,O2,e2,e⟩:=Res.bind_ok e;split at e
    ·rename_i ks kvs e4 e5;cases e;refine⟨ρ,_,F,as,_,_,r,s,e1,λv H1 F1 as1 g1 r1 hv=>?_⟩;obtain⟨a,rfl,ha⟩:=Rp.unO hv;obtain⟨xs0,w1,w2⟩:=r1.dt ha e0;refine⟨a,rfl,.inr ⟨xs0,.inl w1⟩,ρ,_,F1,as1,_,_,r1,s.step g1,e2,λu H2 F2 as2 g2 r2 hu=>?_⟩;obtain⟨xs,x1,x2⟩:=r2.dt (g2.at_ n a ha) e5;obtain⟨b,rfl,hb⟩:=Rp.tkey hk hu e4;refine⟨_,iU.t x1 (r2.fh _ _ hb),?_⟩
     rcases x2.val (k:=ks) with⟨z1,z2⟩ | ⟨d',v',z1,z2,z3⟩
     ·rw[z1] at k;rw[z2];exact k _ H2 F2 as2 (g1.trans g2) r2 Rp.non
     ·rw[z1] at k;rw[z2];exact k _ H2 F2 as2 (g1.trans g2) r2 z3
    ·cases e
   ·cases e
  ·cases e
end
end L2
namespace L2
open PySem PySem.Spec PyProof.Rows PySem.W PySem.Calls
def kY(ss:List Str)(x:Str):List Str:=if x∈ss then ss else ss++[x]
def pQ(es:Array (Int×Value)):List Str:=es.toList.map λe=>strOf e.2
def uH(prog:Program)(w:World)(h:Heap)(a:Addr)(ss:List Str)(o:Obj)(es:Array (Int×Value))(ep:Nat)(t:SetTable):Prop :=
 h.get? a=some o/\o.ExactSet/\o.data=.set es ep t/\ElemsOf (PySem.strKind prog w) es.toList/\(pQ es).Perm ss/\es.size<scanBound/\t.fits es.size=true/\(es.size=0\/t.plain=false)/\t.led = !w.params.followText "set-order"
def fU(prog:Program)(w:World)(h:Heap)(a:Addr)(ss:List Str):Prop:=∃o es ep t,uH prog w h a ss o es ep t
section
variable {prog:Program}{w:World}{A:Around}{E:Value->Shared->Prop}{s:Shared}{a:Addr}{ss:List Str}
theorem fU.at{h h':Heap}(x:fU prog w h a ss)(k:∀o,h.get? a=some o->h'.get? a=some o):fU prog w h' a ss :=
 let ⟨o,es,ep,t,h1,r⟩:=x;⟨o,es,ep,t,k o h1,r⟩
theorem fU.len{h:Heap}(x:fU prog w h a ss):ss.length<scanBound:=by
 obtain⟨o,es,ep,t,h1,h2,h3,h4,h5,h6,_⟩:=x;rw[<-h5.length_eq];unfold pQ;rw[ze];exact h6
theorem W5(t:SetTable)(es:Array (Int×Value))(n:Nat)(h:t.plain=false):(relayAll t es n).2.1.plain=false:=by
 unfold relayAll
 split
 ·rename_i t' order e;dsimp only
  split
  ·unfold SetTable.relaid SetTable.laid at e
   cases q:SetTable.layClean (SetTable.sizeAbove n - 1) (Array.map (λx=>x.fst) es) with
   |none=>rw[q] at e;cases e
   |some ow =>
    rw[q] at e;cases e;exact h
  ·rfl
 ·rfl
theorem W6(t:SetTable)(es:Array (Int×Value))(n:Nat):(relayAll t es n).2.1.led=t.led:=by
 unfold relayAll
 split
 ·rename_i t' order e;dsimp only
  split
  ·unfold SetTable.relaid SetTable.laid at e
   cases q:SetTable.layClean (SetTable.sizeAbove n - 1) (Array.map (λx=>x.fst) es) with
   |none=>rw[q] at e;cases e
   |some ow =>
    rw[q] at e;cases e;rfl
  ·rfl
 ·rfl
theorem W7(t:SetTable)(n:Nat):(t.orStandIn n).led=t.led:=by
 unfold SetTable.orStandIn
 split<;>rfl
theorem W8(t:SetTable)(es:Array (Int×Value))(h:Int)(x:Value):(layNew t es h x).2.1.led=t.led:=by
 unfold layNew
 split
 ·exact W7 _ _
 ·rfl
theorem Iw{h:Heap}{o:Obj}{es:Array (Int×Value)}{ep:Nat}{t:SetTable}(ho:h.get? a=some o)(hex:o.ExactSet)(hd:o.data=.set es ep t)
  {es':Array (Int×Value)}{t':SetTable} (hel:ElemsOf (PySem.strKind prog w) es'.toList) (hp:(pQ es').Perm ss) (hb:es'.size<scanBound) (hf:t'.fits es'.size=true) (hpl:t'.plain=false) (hled:t'.led = !w.params.followText "set-order"):
  (h.update a (Obj.putSet es' t')).get? a=some {o with data:=.set es' (ep+1) t'}/\fU prog w (h.update a (Obj.putSet es' t')) a ss:=by
 have hg:(h.update a (Obj.putSet es' t')).get? a=some {o with data:=.set es' (ep+1) t'}:=by
  have:=Heap.get?_update_self (Obj.putSet es' t') ho (by rw[putSet_of es' t' hd];rfl)
  rw[putSet_of es' t' hd] at this;exact this
 exact⟨hg,_,es',ep+1,t',hg,hex,rfl,hel,hp,hb,hf,.inr hpl,hled⟩
theorem Iz{g:Bool->Sem Unit}(hg:∀(b:Bool) (s₁:Shared) (Q':Unit->Shared->Prop),Q' () s₁->wpAny (model prog w) A (g b) Q' E s₁)
  {o:Obj}{es:Array (Int×Value)}{ep:Nat}{t:SetTable} (ho:s.heap.get? a=some o) (hex:o.ExactSet) (hd:o.data=.set es ep t)
  {es1:Array (Int×Value)}{t2:SetTable} (hel1:ElemsOf (PySem.strKind prog w) es1.toList) (hp1:(pQ es1).Perm ss) (hb1:es1.size<scanBound) (hf2:t2.fits es1.size=true) (hpl:t2.plain=false) (hled:t2.led = !w.params.followText "set-order") {wasDummy:Bool}{R:Option Bool->Shared->Prop}
  (h:∀h',Heap.SameBut a s.heap h'->fU prog w h' a ss->R (some true) {s with heap:=h'}):
  wpAny (model prog w) A (do
    storeSet a es1 t2
    if(!wasDummy&&t2.tooFull)=true then do
      g (relayAll t2 es1 (SetTable.grown es1.size)).2.2
      storeSet a (relayAll t2 es1 (SetTable.grown es1.size)).1 (relayAll t2 es1 (SetTable.grown es1.size)).2.1
      pure (some true)
     else pure (some true)) R E s:=by
 refine za (wpAny_storeSet_of ho hd ?_ (fits_of_scanBound hb1));obtain⟨ho1,hS1⟩:=Iw (prog:=prog) (w:=w) ho hex hd hel1 hp1 hb1 hf2 hpl hled;have hsb1:=Heap.SameBut.update s.heap a (Obj.putSet es1 t2)
 split
 ·have hp:=relayAll_perm t2 es1 (SetTable.grown es1.size);have hfr:=relayAll_fits t2 es1 (SetTable.grown es1.size);have hpr:=W5 t2 es1 (SetTable.grown es1.size) hpl;have hlr:=W6 t2 es1 (SetTable.grown es1.size)
  generalize hRl:relayAll t2 es1 (SetTable.grown es1.size)=Rl at hp hfr hpr hlr ⊢
  obtain⟨es2,t3,gave2⟩:=Rl;dsimp only at hp hfr hpr hlr ⊢;have hel2:ElemsOf (PySem.strKind prog w) es2.toList:=hel1.perm hp
  have hsz:es2.size=es1.size:=by rw[<-Array.length_toList,hp.length_eq,Array.length_toList]
  have hb2:es2.size<scanBound:=by rw[hsz];exact hb1
  refine za (hg _ _ _ ?_);refine za (wpAny_storeSet_of ho1 rfl ?_ (fits_of_scanBound hb2));obtain⟨_,hS2⟩:=Iw (prog:=prog) (w:=w) ho1 hex rfl hel2 ((hp.map _).trans hp1) hb2 hfr hpr (hlr.trans hled);exact zb (h _ (hsb1.trans (Heap.SameBut.update _ a _)) hS2)
 ·exact zb (h _ hsb1 hS1)
theorem W9{x:Str}{tk:Tok}{Q:Bool->Shared->Prop}(hS:fU prog w s.heap a ss)(hroom:ss.length+1<scanBound)
  (h:∀h' b,Heap.SameBut a s.heap h'->fU prog w h' a (kY ss x)->Q b {s with heap:=h'}):
  wpAny (model prog w) A (setAddHashed a (.str x tk) ((PySem.strKind prog w).hash x)) Q E s:=by
 obtain⟨o,es,ep,t,ho,hex,hd,hel,hp,hb,hf,hpl,hled⟩:=hS
 have hkey:(PySem.strKind prog w).is x (.str x tk)=true:=by
  show Value.isStrOf x (.str x tk)=true;simp[Value.isStrOf]
 have hlen:es.size=ss.length:=by rw[<-hp.length_eq];unfold pQ;rw[ze,Array.length_toList]
 have hb1:es.size+1<scanBound:=by rw[hlen];exact hroom
 have hsc:(Value.str x tk).scannable=true:=rfl
 have key:∀e∈es.toList,∀y,(PySem.strKind prog w).is y e.2=true↔strOf e.2=y:=λe he y=>by
  obtain⟨⟨k,hk,_⟩,_⟩:=hel e he;obtain⟨t',ht⟩:=Value.isStrOf_shape hk;rw[ht];show Value.isStrOf y (.str k t')=true↔k=y;simp[Value.isStrOf]
 unfold setAddHashed setAddHashedIn;refine zM (za (wpAny_setState_of ho hd hf ?_));dsimp only;rw[byScan_of hsc hb hel];simp only[↓reduceIte];unfold setAddByScan;refine za ?_;refine za (ja ?_);refine za (wpAny_setScan_of hkey ho hd hf hel ?_)
 cases hr:List.findIdx? (λe=>(PySem.strKind prog w).is x e.2) es.toList with
 |some j =>
  dsimp only;obtain⟨hj,hpj,_⟩:=List.findIdx?_eq_some_iff_getElem.mp hr;have hx:x∈ss:=hp.mem_iff.mp (zE.mpr ⟨es.toList[j],jp hj,(key _ (jp hj) x).mp hpj⟩);refine zb (zb ?_)
  have e:s = {s with heap:=s.heap}:=by cases s;rfl
  rw[e];exact h s.heap _ (Heap.SameBut.refl a s.heap) ⟨o,es,ep,t,ho,hex,hd,hel,by rw[kY,if_pos hx];exact hp,hb,hf,hpl,hled⟩
 |none =>
  dsimp only
  have hx:x∉ss:=λhx=>by
   obtain⟨e,he,q⟩:=zE.mp (hp.mem_iff.mpr hx)
   have:=List.findIdx?_eq_none_iff.mp hr e he
   rw[(key e he x).mpr q] at this;exact Bool.noConfusion this
  have hgw:∀(b:Bool) {s₁:Shared}{Q':Unit->Shared->Prop},Q' () s₁->wpAny (model prog w) A (match b with | true=>rule "set.scan.the-table-gave-way" | false=>pure ()) Q' E s₁ :=
   λb s₁ Q' hq=>by cases b<;>first | exact zb hq | exact ja hq
  have hperm:=layNew_perm t es ((PySem.strKind prog w).hash x) (.str x tk);have hfits:=layNew_fits t es ((PySem.strKind prog w).hash x) (.str x tk);have hll:=W8 t es ((PySem.strKind prog w).hash x) (.str x tk)
  generalize hL:layNew t es ((PySem.strKind prog w).hash x) (.str x tk)=L at hperm hfits hll ⊢
  obtain⟨es1,t1,wasDummy,gave⟩:=L;dsimp only at hperm hfits hll ⊢;rw[Array.toList_push] at hperm;have hel1:ElemsOf (PySem.strKind prog w) es1.toList:=(hel.push hkey hsc).perm hperm
  have hp1:(pQ es1).Perm (kY ss x):=by
   rw[kY,if_neg hx];refine(hperm.map λe=>strOf e.2).trans ?_;rw[zY];exact hp.append_right _
  have hb1':es1.size<scanBound:=by rw[<-Array.length_toList,hperm.length_eq,zF,Array.length_toList];simpa using hb1
  refine za (hgw _ ?_)
  split
  ·refine za ?_;refine za (m:=hashByValue 8 (.str x tk)) (zb ?_);refine zb ?_;simp only[Bool.false_eq_true,↓reduceIte];refine Iz (t2:={t1 with plain:=false}) ?_ ho hex hd hel1 hp1 hb1' (SetTable.fits_plain_off hfits) rfl (hll.trans hled) ?_
   ·intro b s₁ Q' hq;cases b<;>first | exact zb hq | exact ja hq
   ·intro h' hsb hS';dsimp only;exact zb (h h' _ hsb hS')
  ·rename_i hnp;refine za (zb ?_);simp only[↓reduceIte];refine Iz ?_ ho hex hd hel1 hp1 hb1' hfits (by simpa using hnp) (hll.trans hled) ?_
   ·intro b s₁ Q' hq;cases b<;>first | exact zb hq | exact ja hq
   ·intro h' hsb hS';dsimp only;exact zb (h h' _ hsb hS')
theorem isS(x:Str)(t:Tok):(PySem.strKind prog w).is x (.str x t)=true:=by
 show Value.isStrOf x (.str x t)=true;simp[Value.isStrOf]
theorem map_getD(ns:List Str):(List.range' 0 ns.length).map (λi=>ns.getD i ⟨#[]⟩)=ns:=by
 apply List.ext_getElem
 ·simp
 ·intro i h1 h2;simp[jc,h2]
theorem Xa{R:Result->Shared->Prop}{I:Addr}{fp wr:List Addr}{G:Array GenState->Array GenState->Prop}{n:Nat}{P:Nat->Value->Prop}{St:Nat->Shared->Prop}(W:WalksS prog w A.in1 I fp wr G n P St)(S:Addr)(hSf:S∉fp)
  (val:Nat->Str) (hval:∀i v,P i v->∃t,v=.str (val i) t) (hb:n+1<scanBound):
  ∀(k i:Nat) (s:Shared) (ss:List Str),n - i=k->i<=n->St i s->ss.length<=i->fU prog w s.heap S ss ->
   (∀s',Moved (S::wr) G s s'->fU prog w s'.heap S (((List.range' i (n - i)).map val).foldl kY ss)->R (.ok (.ret .none)) s') ->
   codeAny (model prog w) A (.builtin "set.update.loop" ⟨[.ref S,.ref I],[]⟩) R s:=by
 have hSw:S∉wr:=λh=>hSf (W.sub _ h)
 have hsub:∀b∈wr,b∈S::wr:=λb hb=>zy _ hb
 intro k
 induction k with
 |zero =>
  intro i s ss hk hi hst hle hS hR
  have hin:i=n:=by omega
  subst hin;refine je PyProof.Rows.F.entry_set_update_loop ?_;rw[Around.under_plainId PyProof.Rows.F.plain_set_update_loop _];show wpAny _ A.in1 (pyNext (.ref I) >>= _) _ _ s;refine za (W.done s _ _ hst λs' hm=>?_);show wpAny _ A.in1 (ret Value.none) _ _ s';refine zb (hR s' (hm.mono hsub) ?_);rw[Nat.sub_self]
  exact hS.at λo e=>hm.heap S _ hSw e
 |succ k ih =>
  intro i s ss hk hi hst hle hS hR
  have hlt:i<n:=by omega
  refine je PyProof.Rows.F.entry_set_update_loop ?_;rw[Around.under_plainId PyProof.Rows.F.plain_set_update_loop _];show wpAny _ A.in1 (pyNext (.ref I) >>= _) _ _ s;refine za (W.item i s _ _ hlt hst λv s' hP hst' hm=>?_);obtain⟨t,rfl⟩:=hval i v hP
  have hS':fU prog w s'.heap S ss:=hS.at λo e=>hm.heap S _ hSw e
  show wpAny _ A.in1 (holding [Value.str (val i) t] (setAdd S (.str (val i) t)) >>= _) _ _ s';refine za (zM ?_);unfold setAdd;refine zM ?_;refine za ((PySem.strKind prog w).pyHash (k:=val i) (isS _ _) ?_)
  refine W9 (s:={s' with toks:=s'.toks+1}) hS' (by omega) λh' b hsb hS2=>?_
  refine zb ⟨plainId_quiet PyProof.Rows.F.plain_set_update_loop _,ih (i+1) _ (kY ss (val i)) (by omega) hlt (W.frame _ s' _ _ hst' (Nat.le_succ _) λb hb o e=>?_) ?_ hS2 λs'' hm'' hS''=>?_⟩
  ·rw[hsb.2 b (λh:b=S=>hSf (by rw[<-h];exact hb))];exact e
  ·unfold kY
   split
   ·omega
   ·rw[zF,jg];omega
  ·refine hR s'' (Moved.trans W.gtrans ((hm.mono hsub).then_heap (Nat.le_succ _) λb o hb e=>?_) hm'') ?_
   ·rw[hsb.2 b (λh:b=S=>hb (by rw[h];exact zv))];exact e
   ·rw[show n - i=(n - (i+1))+1 by omega,List.range'_succ,zd,List.foldl_cons];exact hS''
theorem Xb(x:Value){Q₁:Value->Shared->Prop}
  (h:Q₁ (.ref s.heap.objs.size) {s with heap:=s.heap.push {cls:=.type "set",dict:=none,data:=.set #[] 0 (.fresh 0 0 (!w.params.followText "set-order"))}}):
  codeAny (model prog w) A (.call (.builtin "set.__new__") ⟨[.type "set",x],[]⟩) (wants Q₁ E) s:=by
 refine codeAny_of_tree ?_;show wpAny _ A.in1 (do checkBuiltinCall "set.__new__" ⟨[.type "set",x],[]⟩;again (.builtin "set.__new__" ⟨[.type "set",x],[]⟩)) _ _ s;refine za (wpAny_of_eq (PySem.F.newCall_set_1 x) (zb ⟨plainId_quiet PySem.F.plain_set_new _,je PySem.F.entry_set_new ?_⟩));rw[Around.under_plainId PySem.F.plain_set_new _];unfold Builtin.«set.__new__» Builtin.Frozenset.newClass;have hsub:=sub_set_self;obtain⟨hp,g,d,tk,os⟩:=s;dsimp only
 wp_walk
 refine wpAny_askSetting (zb ?_);dsimp only;simp only[newObj];refine za (wpAny_alloc (zb ?_));exact zb h
theorem IK{h:Heap}:fU prog w (h.push {cls:=.type "set",dict:=none,data:=.set #[] 0 (.fresh 0 0 (!w.params.followText "set-order"))}) h.objs.size []:=
 ⟨_,#[],0,_,zz _ rfl,⟨rfl,rfl,rfl⟩,rfl,λe he=>by simp at he,.nil,by decide,by rfl,.inl rfl,rfl⟩
set_option maxHeartbeats 8000000 in
theorem QuV{l:Addr}{items:Array Value}{ns:List Str}{Q:Value->Shared->Prop}
  (hh:A.handled=none) (hl:s.heap.IsList l items) (hi:StrsAre items.toList ns) (hb:items.size+1<scanBound)
  (h:∀(h':Heap) (tk:Nat),fU prog w h' s.heap.objs.size (ns.foldl kY []) ->
   (∀b o,s.heap.get? b=some o->h'.get? b=some o)->Q (.ref s.heap.objs.size) {s with heap:=h',toks:=tk}):
  wpAny (model prog w) A (call (.type "set") [.ref l]) Q E s:=by
 obtain⟨c,tl,hmro⟩:=PySem.F.called_set.mro;have hmade:=PySem.F.called_set.made;have hsub:=PySem.F.called_set.sub;refine wpAny_call (codeAny_of_tree ?_);show wpAny _ _ (callAny (.type "set") _) _ _ _;refine zb ⟨Code.quiet_builtin _ (by decide +kernel),je PySem.F.entry_type_call ?_⟩;rw[Around.under_plain (weight_type_call_type "set" [.ref l] []) rfl];have h1:=PySem.F.called_set.notType;have h2:=PySem.F.called_set.canCreate;have hct:=PySem.F.typeCall_set_1 (.ref l)
 repeat (any_goals (first | assumption | wp_step))
 generalize hO:({cls:=.type "set",dict:=none,data:=.set #[] 0 (.fresh 0 0 (!w.params.followText "set-order"))}:Obj)=O0
 refine codeAny_mono (Xb (.ref l) (E:=E) (Q₁:=λobj s₁=>obj=.ref s.heap.objs.size/\s₁ = {s with heap:=s.heap.push O0}) (by rw[hO];exact⟨rfl,rfl⟩)) λr s₁ hr=>?_
 cases r with
 |error e=>exact hr
 |ok fl =>
  cases fl with
  |ret obj =>
   obtain⟨rfl,rfl⟩:=hr
   have hfr:fU prog w (s.heap.push O0) s.heap.objs.size []:=by rw[<-hO];exact IK
   have hS:(s.heap.push O0).get? s.heap.objs.size=some O0:=by rw[<-hO];exact zz _ rfl
   have hcls:O0.cls=.type "set":=by rw[<-hO]
   have hdat:O0.data=.set #[] 0 (.fresh 0 0 (!w.params.followText "set-order")):=by rw[<-hO]
   have hT:Shared.TypeIs {s with heap:=s.heap.push O0} (.ref s.heap.objs.size) "set":=⟨_,hS,hcls⟩;have hli:=PySem.F.called_set.init.lookup;have hbi:=PySem.F.called_set.init.bind (.ref s.heap.objs.size)
   repeat (any_goals (first | assumption | wp_step))
   refine codeAny_mono (codeAny_call_builtin (R:=wants (λr s₂=>r=.none/\∃h' tk,s₂ = {s with heap:=h',toks:=tk} /\
     fU prog w h' s.heap.objs.size (ns.foldl kY []) /\
     (∀b o,s.heap.get? b=some o->h'.get? b=some o)) E) PySem.F.called_set.init.plain PySem.F.entry_set_init (check_set_init_1 hT ?_)) λr₂ s₂ hr₂=>?_
   ·subst hO;obtain⟨ol,hol,hcl,nl,hdl⟩:=hl;obtain⟨ocls,odict,odata,oslots⟩:=ol;simp only at hcl hdl;subst hcl;subst hdl;have hol':(s.heap.push {cls:=.type "set",dict:=none,data:=.set #[] 0 (.fresh 0 0 (!w.params.followText "set-order"))}).get? l=some {cls:=.type "list",dict:=odict,data:=.seq items nl,slots:=oslots}:=zk _ hol;have hsls:=PySem.F.sub_list_set;have hslf:=PySem.F.sub_list_frozenset
    have hne:(Value.type "list" == Value.type "dict")=false:=by decide
    have hl1:(s.heap.push {cls:=.type "set",dict:=none,data:=.set #[] 0 (.fresh 0 0 (!w.params.followText "set-order"))}).IsList l items:=⟨_,hol',rfl,nl,rfl⟩;unfold Builtin.«set.__init__» noKeywords Builtin.Frozenset.updateFrom
    generalize hPI:pyIter=PI
    wp_walk
    subst hPI;refine wpAny_pyIter_list hl1 ?_;refine za (wpAny_runValue ?_);have hlS:l<s.heap.objs.size:=zf hol
    have hh3:A.in1.in1.in1.handled=none:=by simp[hh]
    have hneI:l≠(s.heap.push {cls:=.type "set",dict:=none,data:=.set #[] 0 (.fresh 0 0 (!w.params.followText "set-order"))}).objs.size:=by
     rw[Heap.size_push];exact zu (jd hlS)
    have hSf:s.heap.objs.size∉[(s.heap.push {cls:=.type "set",dict:=none,data:=.set #[] 0 (.fresh 0 0 (!w.params.followText "set-order"))}).objs.size,l]:=by
     rw[Heap.size_push];simp only[zn,zm,List.not_mem_nil,or_false,not_or];exact⟨zu (zZ _),Nat.ne_of_gt hlS⟩
    have hnl:ns.length=items.size:=by rw[<-hi.strs,ze,Array.length_toList]
    have hval:∀(i:Nat) (v:Value),items[i]?=some v->∃t,v=.str ((λi=>ns.getD i ⟨#[]⟩) i) t:=λi v hv=>by
     have hv':items.toList[i]?=some v:=by rw[Array.getElem?_toList];exact hv
     obtain⟨x,t,rfl⟩:=hi.all v (zI hv');refine⟨t,?_⟩
     have hm:(items.toList.map strOf)[i]?=some x:=by rw[zA,hv'];rfl
     rw[hi.strs] at hm;show Value.str x t=Value.str (ns.getD i ⟨#[]⟩) t;rw[jc,hm];rfl
    refine Xa ((Walks.list hh3 _ l hneI items).toS) s.heap.objs.size
     hSf (λi=>ns.getD i ⟨#[]⟩) hval hb (items.size - 0) 0 _ [] (by omega) (Nat.zero_le _)
     ⟨⟨_,zz _ rfl,rfl,rfl⟩,(hl1.push _)⟩ (zc _) (IK.at λo e=>zk _ e) ?hR
    intro s' hm hS';rw[Nat.sub_zero,<-hnl] at hS';rw[map_getD] at hS';obtain⟨h',g',d',tk',os'⟩:=s';have eg:g'=s.gens:=hm.gens;have ed:d'=s.drawn:=hm.drawn;have eo:os'=s.os:=hm.os;subst eg;subst ed;subst eo;show wpAny _ _ _ _ _ _;refine zb ?_;show wpAny _ _ (ret Value.none) _ _ _;refine zb ⟨rfl,h',tk',rfl,hS',λb o e=>?_⟩;have hb':=zf e;have hb1:b≠s.heap.objs.size:=zu hb'
    have hb2:b≠(s.heap.push {cls:=.type "set",dict:=none,data:=.set #[] 0 (.fresh 0 0 (!w.params.followText "set-order"))}).objs.size:=by
     rw[Heap.size_push];exact zu (jd hb')
    exact hm.heap b o (by simp only[zn,zm,List.not_mem_nil,or_false,not_or];exact⟨hb1,hb2⟩) (zk _ (zk _ e))
   ·cases r₂ with
    |error e=>exact hr₂
    |ok fl₂ =>
     cases fl₂ with
     |ret r =>
      obtain⟨rfl,h',tk,rfl,hS',hk'⟩:=hr₂
      repeat (any_goals (first | assumption | wp_step))
      exact h _ _ hS' hk'
     | _=>exact hr₂.elim
  | _=>exact hr.elim
end
def ItS(h:Heap)(I a:Addr)(first:Value)(i n ep:Nat):Prop:=∃o,h.get? I=some o/\o.cls=.type "set_iterator"/\o.data=.fields #[first,.int i 0,.ref a,.int n 0,.int ep 0]
section
variable {prog:Program}{w:World}{A:Around}{E:Value->Shared->Prop}{s:Shared}{a:Addr}{ss:List Str}{o:Obj}{es:Array (Int×Value)}{ep:Nat}{t:SetTable}
theorem ItS.typeIs{I:Addr}{first:Value}{i n:Nat}(h:ItS s.heap I a first i n ep):s.TypeIs (.ref I) "set_iterator":=let ⟨o,h1,h2,_⟩:=h;⟨o,h1,h2⟩
end
section
variable {prog:Program}{w:World}{A:Around}{E:Value->Shared->Prop}{s:Shared}{a:Addr}{ss:List Str}{o:Obj}{es:Array (Int×Value)}{ep:Nat}{t:SetTable}
theorem ItS.at{h h':Heap}{I:Addr}{first:Value}{i n:Nat}(x:ItS h I a first i n ep)(e:∀o,h.get? I=some o->h'.get? I=some o):ItS h' I a first i n ep:=let ⟨o,ho,r⟩:=x;⟨o,e _ ho,r⟩
theorem uH.at{h h':Heap}(x:uH prog w h a ss o es ep t)(e:∀o,h.get? a=some o->h'.get? a=some o):uH prog w h' a ss o es ep t:=⟨e _ x.1,x.2⟩
end
section
variable {X:Cx}
variable {md:List Md}{P:Pt}
end
structure QAi(mg:Str->Option Value):Prop extends Ik mg where
 set_:mg "set" = none
def lt2(a1 a2 b1 b2:Str):Bool:=if a1=b1 then decide (a2.cps.toList<b2.cps.toList) else decide (a1.cps.toList<b1.cps.toList)
section
variable {prog:Program}{w:World}{A:Around}{E:Value->Shared->Prop}{s:Shared}{K:Frag}{H F:Hp}{as:List Addr}
end
section
variable {X:Cx}
end
end L2
namespace L2
open PySem PySem.Spec PyProof.Rows
section
variable {X:Cx}{md:List Md}{P:Pt}{R:RR}
end
section
variable {X:Cx}{md:List Md}{P:Pt}
variable {tg iter elt:Expr}{ifs:List Expr}{scope:Scope}{pos:Pos}{mi:M D}{g:MG}{t:M Bool}{e:M D}
end
end L2
namespace L2
open PySem PySem.Spec PyProof.Rows PySem.W
section
variable {X:Cx}{md:List Md}{P:Pt}{R:RR}
def xX(K:Frag)(mg:Str->Option Value)(md:List Md)(P:Pt)(R:RR)(W:Xc->Hp->Prop)(D:Ends)(H F:Hp)(as:List Addr):Fl->Prop
 | .ex x O'=>∀H' F' as',GrS P H F as H' F' as'->RlO K mg O' H' F' as'->W x H'
 |f=>lM K mg md P R D H F as f
theorem xX.gr{K:Frag}{mg:Str->Option Value}{W:Xc->Hp->Prop}{D:Ends}{H F H' F':Hp}{as as':List Addr}{f:Fl}(g:GrS P H F as H' F' as')(h:xX K mg md P R W D H F as f):xX K mg md P R W D H' F' as' f:=by
 cases f with
 |ex x O'=>exact λH2 F2 as2 g2 r2=>h H2 F2 as2 (g.trans g2) r2
 |nx ρ' O'=>exact λσ' H2 F2 as2 g2 r2 s2=>h σ' H2 F2 as2 (g.trans g2) r2 s2
 |bk ρ' O'=>exact λσ' H2 F2 as2 g2 r2 s2=>h σ' H2 F2 as2 (g.trans g2) r2 s2
 |ct ρ' O'=>exact λσ' H2 F2 as2 g2 r2 s2=>h σ' H2 F2 as2 (g.trans g2) r2 s2
 |rt d O'=>exact λv H2 F2 as2 g2 r2 s2=>h v H2 F2 as2 (g.trans g2) r2 s2
 |no=>exact h
end
section
variable {X:Cx}{md:List Md}{P:Pt}{R:RR}
end
theorem cN.has{P:Program}{w:World}{H:Hp}{h:Heap}{a:Addr}{o:HO}(x:cN P w H h a o):∃u,h.get? a=some u:=by
 cases o with
 |lst xs=>exact let ⟨_,_,_,_,e⟩:=x;⟨_,e⟩
 |tup xs=>exact let ⟨_,_,_,_,e,_⟩:=x;⟨_,e⟩
 |dK kvs=>exact let ⟨_,_,_,_,_,_,_,e,_⟩:=x;⟨_,e⟩
 |dT kvs=>exact let ⟨_,_,_,_,_,_,_,e,_⟩:=x;⟨_,e⟩
 |set S n=>exact let ⟨_,_,_,_,e,_⟩:=x;⟨_,e⟩
 |ins C dx fs=>exact let ⟨_,_,_,e,_⟩:=x;⟨_,e⟩
 |own y=>exact let ⟨_,e⟩:=x;⟨_,e⟩
 |xd fs=>exact let ⟨_,⟨_,_,_,e,_⟩,_⟩:=x;⟨_,e⟩
 |rng lo hi=>exact let ⟨_,_,_,e⟩:=x;⟨_,e⟩
 |frz ob u=>exact⟨_,x.1⟩
 |tbl ps=>exact⟨_,x⟩
 |met f y=>exact⟨_,x⟩
 |ext φ=>exact x.2.1
theorem HOk.only{P:Program}{w:World}{H:Hp}{h h':Heap}(x:HOk P w H h)(k:∀b v u,H b=some v->h.get? b=some u->h'.get? b=some u):HOk P w H h':=λa o e =>
 (x a o e).stay (λb u hb q=>by
  rcases hb with rfl | hb
  ·exact k _ _ u e q
  ·exact k b _ u hb q) (λ_ q=>q) λ_ _ q=>q
theorem Un.then{fs:List Addr}{H0 H:Hp}{h0 h1 h2:Heap}(u:Un fs [] H0 H h0 h1)(st:∀b o,h1.get? b=some o->b∉fs->(∃o',h0.get? b=some o')->h2.get? b=some o)
  (fr:∀b o,h1.get? b=some o->b∈fs->∃sl,h2.get? b=some {o with slots:=sl}):Un fs [] H0 H h0 h2 where
 keep:=λb o q n nf nx=>st b o (u.keep b o q n nf nx) nf ⟨o,q⟩
 slot:=λb o q n hb nx=>by
  obtain⟨sl,e⟩:=u.slot b o q n hb nx;obtain⟨sl2,e2⟩:=fr b _ e hb;exact⟨sl2,e2⟩
 free:=u.free
 there:=λb o q nx=>by
  obtain⟨o',e⟩:=u.there b o q nx
  by_cases hb:b∈fs
  ·obtain⟨sl,e2⟩:=fr b o' e hb;exact⟨_,e2⟩
  ·exact⟨o',st b o' e hb ⟨o,q⟩⟩
 tups:=u.tups
 frzs:=u.frzs
 tbls:=u.tbls
def CXE(Pr:Program)(w:World):CXT:=λouter H s E e s'=>∃(ea C:Addr) (H':Hp) (B:Heap) (a0:Value),e=.ref ea/\s'.os=s.os/\AllBare s'.gens/\Un (frs outer) [] H H' s.heap s'.heap/\HOk Pr w H' s'.heap /\
 Heap.FlyingW B outer ea (.ref C) a0 s'.heap/\(∀b u,H' b=some u->∃o,B.get? b=some o)/\(∀b o,s.heap.get? b=some o->b∉frs outer->∃o',B.get? b=some o')/\E (.ref C) none H'
def IV(P:Program)(w:World)(K:Frag)(mg:Str->Option Value)(base:Heap)(x:Str)(ps:List Str)(k:Nat)(sp:Sp):Prop :=
 ∃f fd,mg x=some (.ref f)/\keepIn K (.ref f)=true/\Binds K fd ps []/\dH P w K mg base (CXE P w) k f fd ps sp/\∃oc od osl,K.lookup f=some ⟨oc,od,.func fd,osl⟩
def Xd(K:Frag)(mg:Str->Option Value)(R:RR)(H F:Hp)(as:List Addr)(Q:VK)(E:XK):Res D->Prop
 | .ok d O'=>∀v H' F' as',Gr H F as H' F' as'->RlO K mg O' H' F' as'->R (λa=>H a=none) H' F' as' v d->Q v H'
 | .ex x O'=>∀C H' F' as',mg x.cls=some (.ref C)->Gr H F as H' F' as'->RlO K mg O' H' F' as'->E (.ref C) none H'
 | .no=>False
def IW(K:Frag)(mg:Str->Option Value)(pm:List Md)(R:RR)(c:List D->au->Res D):Sp:=λvs H Q E =>
 ∃ds O F as,RlO K mg O H F as/\di K H F as pm vs ds/\Xd K mg R H F as Q E (c ds O)
section
variable {Pr:Program}{w:World}{K:Frag}{mg:Str->Option Value}{base:Heap}
theorem IV.can{x:Str}{ps:List Str}{k:Nat}{pm:List Md}{R:RR}{c:List D->au->Res D}(C:IV Pr w K mg base x ps k (IW K mg pm R c))(hl:pm.length=ps.length:=by rfl):Can Pr w K mg base x ps k (vSp K mg pm R c):=by
 obtain⟨f,fd,hm,hk,hb,Fn,lk⟩:=C;refine⟨f,fd,hm,hk,hb,⟨λvs H Q E h=>?_,λA outer s H args us vs Q E hr e0 hbi r h=>?_⟩,lk⟩
 ·obtain⟨ds,O,F,as,d,O',r,a,_⟩:=h;rw[a.len.1,hl]
 ·obtain⟨ds,O,F,as,d,O',ro,a,e,q⟩:=h
  have z:IW K mg pm R c vs H Q λ_ _ _=>False:=⟨ds,O,F,as,ro,a,by rw[e];exact q⟩
  refine codeAny_mono (Fn.run A outer s H args us vs Q _ hr e0 hbi r z) λres s' hq=>?_
  cases res with
  |error ev =>
   obtain⟨_,_,_,_,_,_,_,_,_,_,_,_,_,f0⟩:=hq;exact f0.elim
  |ok fl=>cases fl<;>exact hq
end
section
variable {X:Cx}{pins:List (Addr×Obj)}{σ:St}{H:Hp}{s:Shared}{ea:Addr}{oe:Obj}
end
end L2
namespace L2
open PySem PySem.Spec PyProof.Rows PySem.W PySem.Calls PySem.Builtin PySem.Builtin.ObjectAttr PySem.Builtin.Getset_descriptor
section
variable {prog:Program}{w:World}{A:Around}{E:Value->Shared->Prop}{K:Frag}{a C:Addr}{o:Obj}{h:Heap}{g:Array GenState}{d:Drawn}{t:Nat}{os:OsState}
structure QAj(K:Frag)(C:Addr):Prop where
 ga:findIn K (.ref C) "__getattribute__" = some (some (.builtin "BaseException.__getattribute__"))
 na:findIn K (.ref C) "__getattr__" = some none
 ca:findIn K (.ref C) "__class__" = some (some (.builtin "object.__class__"))
 sp:specialIn K (.builtin "object.__class__") "__get__" = some (some (.builtin "getset_descriptor.__get__"))
 tk:takesIn K (.builtin "object.__class__")=some true
 ob:mroIn K C (.type "object")=some true
 be:mroIn K C (.type "BaseException")=some true
 cl:(clsIn K C).isSome=true
end
end L2
namespace L2
open PySem PySem.Spec PyProof.Rows PySem.W
section
variable {X:Cx}{ea C:Addr}{oe:Obj}
end
section
variable {X:Cx}{md:List Md}{P:Pt}{R:RR}
end
section
variable {X:Cx}{ea C:Addr}{oe:Obj}{i:Nat}{b:Bool}{n:Str}{p p1 pos:Pos}
end
end L2
namespace L2
open PySem PySem.Spec PyProof.Rows
section
variable {X:Cx}
variable {md:List Md}{P:Pt}
end
end L2
namespace L2
open PySem PySem.Spec PyProof.Rows PySem.W
section
variable {prog:Program}{w:World}{A:Around}{E:Value->Shared->Prop}
end
section
variable {X:Cx}{md:List Md}{P:Pt}{R:RR}
end
def xY(mg:Str->Option Value):List Str->List Addr->Prop
 | [],as=>as=[]
 |n::ns,as=>∃a r,as=a::r/\mg n=some (.ref a)/\xY mg ns r
theorem xY.len{mg:Str->Option Value}:∀{ns:List Str}{as:List Addr},xY mg ns as->as.length=ns.length
 | [],as,h=>by
  have h':as=[]:=h;rw[h'];rfl
 |n::ns,as,h=>by
  obtain⟨a,r,rfl,_,h2⟩:=h;rw[zx,h2.len,zx]
section
variable {X:Cx}{md:List Md}{P:Pt}{R:RR}
end
section
variable {K:Frag}{h:Heap}{mg:Str->Option Value}
theorem mkD{x:Str}{st:Stmt}{f:Addr}{oc:Value}{od an:Option Addr}{sl:Array (Option Value)}{kV dc pm cd ct:Value}(X:K.In h)(G:h.Ns mainGlobals mg)(a:nsIn K mainGlobals x=some (some (.ref f)))(l:K.lookup f=some ⟨oc,od,.func (fnOf x x (iz st) (fB st) (aY st) .none kV dc pm an cd ct),sl⟩)(c:codeIn K cd x=true)(k:keepIn K (.ref f)=true):Def K mg x st:=⟨_,_,mg_of X G a,w5 l c k⟩
structure ClsAt(K:Frag)(c:Str)(A:Addr):Prop where
 ns:nsIn K mainGlobals c=some (some (.ref A))
 pg:plainGet K A Str.empty=true
 hd:hasDictIn K A=true
 po:plainOver K A=true
 sa:findIn K (.ref A) "__setattr__" = some (some (.builtin "object.__setattr__"))
 mks:makesIn K A=true
 kc:keepIn K (.ref A)=true
def MethAt(K:Frag)(A:Addr)(m qual:Str)(st:Stmt):Prop:=∃f fd,findIn K (.ref A) m=some (some (.ref f))/\isFn K (.ref f)=true/\keepIn K (.ref f)=true/\Fun K m qual st f fd
theorem mkM{A:Addr}{m qual:Str}{st:Stmt}{f:Addr}{oc:Value}{od an:Option Addr}{sl:Array (Option Value)}{kV dc pm cd ct:Value}(a:findIn K (.ref A) m=some (some (.ref f)))(i:isFn K (.ref f)=true)(l:K.lookup f=some ⟨oc,od,.func (fnOf m qual (iz st) (fB st) (aY st) .none kV dc pm an cd ct),sl⟩)(c:codeIn K cd qual=true)(k:keepIn K (.ref f)=true):MethAt K A m qual st:=⟨_,_,a,i,k,w5 l c k⟩
variable {A:Addr}{c:Str}
theorem ClsAt.cl(z:ClsAt K c A):Cls K A:=⟨z.pg,z.hd,z.po,z.sa⟩
theorem ClsAt.dm(z:ClsAt K c A)(X:K.In h)(G:h.Ns mainGlobals mg){m qual:Str}{st:Stmt}(q:MethAt K A m qual st):lY K mg c m qual st:=by
 obtain⟨f,fd,a,i,k,fu⟩:=q;exact⟨_,_,_,mg_of X G z.ns,z.cl,⟨a,i,k⟩,fu⟩
theorem ClsAt.dc(z:ClsAt K c A)(X:K.In h)(G:h.Ns mainGlobals mg){qual:Str}{st:Stmt}(q:MethAt K A "__init__" qual st):xP K mg c qual st:=by
 obtain⟨f,fd,a,i,k,fu⟩:=q;exact⟨_,_,_,mg_of X G z.ns,⟨z.mks,a,i,z.kc⟩,fu⟩
theorem ClsAt.kf(z:ClsAt K c A)(X:K.In h)(G:h.Ns mainGlobals mg){f:Str}(n:findIn K (.ref A) f=some none):KC K mg c f:=⟨_,mg_of X G z.ns,z.cl,n⟩
end
end L2
namespace L2
open PySem PySem.Spec PyProof.Rows
section
variable {X:Cx}
def pR:List D->Option D
 | [.str l]=>if l.length<=640 then(PySem.intText? (S l)).map D.int else none
 | _=>none
theorem Xe:jT X (.type "int") pR:=by
 intro pins s σ H xs us Q I rs h;obtain⟨O,F,as,ds,d,r,hvs,e,k⟩:=h;unfold pR at e;split at e
 ·rename_i l;split at e
  ·rename_i hz;obtain⟨v,rfl,hv⟩:=hvs.one
   cases hn:PySem.intText? (S l) with
   |none=>rw[hn] at e;cases e
   |some n =>
    rw[hn] at e;cases e;cases(hv.rp rfl).unS;obtain⟨u,rfl,ru⟩:=vals1 rs;obtain⟨t,rfl⟩:=ru;exact PySem.W.KIN.call_text hn (by rw[fL];exact hz) ⟨.int n,H,I.tok _,⟨_,rfl⟩,cC r k rfl Rp.int⟩
  ·cases e
 ·cases e
theorem Xf{i:Int}(h0:0<=i)(h1:i<1000000000):pR [.str ((Nat.toDigits 10 i.toNat).map Char.toNat)]=some (.int i):=by
 have z:=Ir i h0;have r:=PySem.W.KIN.num_reads h0 (Int.lt_trans h1 (by decide));rw[z] at r
 have hl:((Nat.toDigits 10 i.toNat).map Char.toNat).length<=640:=by
  have:=PySem.W.KT.len_num h0 (Int.lt_trans h1 (by decide))
  rw[z,fL] at this;exact zH this (by decide)
 show(if((Nat.toDigits 10 i.toNat).map Char.toNat).length<=640 then(PySem.intText? (S ((Nat.toDigits 10 i.toNat).map Char.toNat))).map D.int else none)=_;rw[if_pos hl,r];rfl
end
def ofO(o:Option D)(O:au):Res D:=match o with
 |some d=>.ok d O
 |none=>.no
@[simp] theorem dj{d:D}{O:au}:ofO (some d) O=.ok d O:=rfl
@[simp] theorem aO{α β:Type}{a:α}{O:au}{f:α->au->Res β}:(Res.ok a O).bind f=f a O:=rfl
@[simp] theorem Qyq{O:au}:bx O .non=.non:=rfl
@[simp] theorem jx{O:au}{b:Bool}:bx O (.bl b)=.bl b:=rfl
@[simp] theorem dg{O:au}{b:Int}:bx O (.int b)=.int b:=rfl
@[simp] theorem iH{O:au}{b:List Nat}:bx O (.str b)=.str b:=rfl
@[simp] theorem dq{O:au}{b:List D}:bx O (.lst b)=.lst b:=rfl
@[simp] theorem Ja{O:au}{b:List D}:bx O (.tup b)=.tup b:=rfl
@[simp] theorem Qyo{O:au}{a b:List D}:bx O (.dic a b)=.dic a b:=rfl
@[simp] theorem cJ{i:Nat}{ρ:aD}{O:au}:aa i ρ O=(match ρ[i]? with | some (some d)=>.ok d O | _=>.no):=rfl
@[simp] theorem m_c{d:D}{ρ:aD}{O:au}:mC d ρ O=.ok d O:=rfl
@[simp] theorem dW{g:D->D->Option D}{a b:M D}{ρ:aD}{O:au}:ak g a b ρ O=(a ρ O).bind λx O1=>(b ρ O1).bind λy O2=>ofO (g (bx O2 x) (bx O2 y)) O2:=rfl
def gF(r:Res D):Res D:=match r with
 | .ok d O'=>if jK d=true then .ok d O' else .no
 |r=>r
@[simp] theorem m_g{m:M D}{ρ:aD}{O:au}:mG m ρ O=gF (m ρ O):=rfl
@[simp] theorem uI{i:Int}{O:au}:gF (.ok (.int i) O)=.ok (.int i) O:=rfl
@[simp] theorem Qz0{i:List Nat}{O:au}:gF (.ok (.str i) O)=.ok (.str i) O:=rfl
@[simp] theorem QAe{i:Bool}{O:au}:gF (.ok (.bl i) O)=.ok (.bl i) O:=rfl
@[simp] theorem QzU{O:au}:gF (.ok .non O)=.ok .non O:=rfl
@[simp] theorem QzJ{l:List D}{O:au}:gF (.ok (.tup l) O)=.ok (.tup l) O:=rfl
@[simp] theorem QAb{n:Nat}{O:au}:gF (.ok (.ob n) O)=.ok (.ob n) O:=rfl
def chF(o:Option D)(O:au)(f:Unit->Res D):Res D:=match o with
 |some (.bl true)=>f ()
 |some (.bl false)=>.ok (.bl false) O
 | _=>.no
@[simp] theorem Qz3{b:Bool}{O:au}{f:Unit->Res D}:chF (some (.bl b)) O f=if b=true then f () else .ok (.bl false) O:=by cases b<;>rfl
@[simp] theorem Qzx{g g':D->D->Option D}{a b c:M D}{ρ:aD}{O:au}:nC g g' a b c ρ O=(a ρ O).bind λx O1=>(b ρ O1).bind λy O2=>chF (g (bx O2 x) (bx O2 y)) O2 λ_=>(c ρ O2).bind λz O3=>ofO (g' (bx O3 y) (bx O3 z)) O3:=by
 unfold nC;congr 1
@[simp] theorem Xg{m:M D}{ρ:aD}{O:au}:jL m ρ O=(m ρ O).bind λd O1=>.ok (.bl (isNon d)) O1:=rfl
@[simp] theorem QzN{m:M D}{ρ:aD}{O:au}:iY m ρ O=(m ρ O).bind λd O1=>.ok (.bl (!isNon d)) O1:=rfl
@[simp] theorem Qyj:isNon .non=true:=rfl
@[simp] theorem Qyr{l:List D}:isNon (.lst l)=false:=rfl
@[simp] theorem Qym{l:List D}:isNon (.tup l)=false:=rfl
@[simp] theorem Qyk{l:List Nat}:isNon (.str l)=false:=rfl
@[simp] theorem Qyl{l:Int}:isNon (.int l)=false:=rfl
@[simp] theorem QyF{l:Nat}:isNon (.ob l)=false:=rfl
def teF(d:D)(O:au):Res Bool:=match d with
 | .bl b=>.ok b O
 | _=>.no
@[simp] theorem fV{b:Bool}{O:au}:teF (.bl b) O=.ok b O:=rfl
@[simp] theorem fW{m:M D}{ρ:aD}{O:au}:aK m ρ O=(m ρ O).bind teF:=rfl
def ofB(o:Option Bool)(O:au):Res Bool:=match o with
 |some d=>.ok d O
 |none=>.no
@[simp] theorem nY{d:Bool}{O:au}:ofB (some d) O=.ok d O:=rfl
@[simp] theorem nZ{m:M D}{ρ:aD}{O:au}:bI m ρ O=(m ρ O).bind λd O1=>ofB (pq (bx O1 d)) O1:=rfl
@[simp] theorem n6{b:Bool}:pq (.bl b)=some b:=rfl
@[simp] theorem QyO{b:List D}:pq (.lst b)=some (!b.isEmpty):=rfl
@[simp] theorem gJ{a b:M Bool}{ρ:aD}{O:au}:dN a b ρ O=(a ρ O).bind λc O1=>if c=true then b ρ O1 else .ok false O1:=rfl
@[simp] theorem xZ{a b:M Bool}{ρ:aD}{O:au}:dO a b ρ O=(a ρ O).bind λc O1=>if c=true then .ok true O1 else b ρ O1:=rfl
@[simp] theorem rM{a:M Bool}{ρ:aD}{O:au}:cO a ρ O=(a ρ O).bind λc O1=>.ok (!c) O1:=rfl
def anF(d:D)(O:au)(f:Unit->Res D):Res D:=match d with
 | .bl true=>f ()
 | .bl false=>.ok (.bl false) O
 | _=>.no
def orF(d:D)(O:au)(f:Unit->Res D):Res D:=match d with
 | .bl true=>.ok (.bl true) O
 | .bl false=>f ()
 | _=>.no
@[simp] theorem n8{b:Bool}{O:au}{f:Unit->Res D}:anF (.bl b) O f=if b=true then f () else .ok (.bl false) O:=by cases b<;>rfl
@[simp] theorem Qz9{b:Bool}{O:au}{f:Unit->Res D}:orF (.bl b) O f=if b=true then .ok (.bl true) O else f ():=by cases b<;>rfl
@[simp] theorem oh{a b:M D}{ρ:aD}{O:au}:d8 a b ρ O=(a ρ O).bind λd O1=>anF d O1 λ_=>b ρ O1:=by
 unfold d8;congr 1
@[simp] theorem Qz7{a b:M D}{ρ:aD}{O:au}:Ha a b ρ O=(a ρ O).bind λd O1=>orF d O1 λ_=>b ρ O1:=by
 unfold Ha;congr 1
def noF(d:D)(O:au):Res D:=match d with
 | .bl b=>.ok (.bl (!b)) O
 | _=>.no
@[simp] theorem Xh{b:Bool}{O:au}:noF (.bl b) O=.ok (.bl (!b)) O:=rfl
@[simp] theorem Jb{a:M D}{ρ:aD}{O:au}:nF a ρ O=(a ρ O).bind noF:=rfl
@[simp] theorem yc{t:M Bool}{a b:M D}{ρ:aD}{O:au}:mIf t a b ρ O=(t ρ O).bind λc O1=>if c=true then a ρ O1 else b ρ O1:=rfl
@[simp] theorem dG{ρ:aD}{O:au}:aq ρ O=.ok [] O:=rfl
@[simp] theorem dz{m:M D}{r:M (List D)}{ρ:aD}{O:au}:aj m r ρ O=(m ρ O).bind λd O1=>(r ρ O1).bind λds O2=>.ok (d::ds) O2:=rfl
@[simp] theorem rN{r:M (List D)}{ρ:aD}{O:au}:cg r ρ O=(r ρ O).bind λds O1=>if ds.length<=1000000 then .ok (.lst ds) O1 else .no:=rfl
@[simp] theorem ye{r:M (List D)}{ρ:aD}{O:au}:bT r ρ O=(r ρ O).bind λds O1=>if ds.length<=1000000 then .ok (.tup ds) O1 else .no:=rfl
@[simp] theorem gb{c:List D->au->Res D}{ma:M (List D)}{ρ:aD}{O:au}:aJ c ma ρ O=(ma ρ O).bind λds O1=>c ds O1:=rfl
@[simp] theorem gf{g:List D->Option D}{ma:M (List D)}{ρ:aD}{O:au}:aX g ma ρ O=(ma ρ O).bind λds O1=>ofO (g (ds.map (bx O1))) O1:=rfl
@[simp] theorem QAk{g:D->Option D}{ma:M D}{ρ:aD}{O:au}:mUn g ma ρ O=(ma ρ O).bind λd O1=>ofO (g (bx O1 d)) O1:=rfl
def isF(n:String)(o:Option String)(O:au):Res D:=match o with
 |some t=>.ok (.bl (cD t n)) O
 |none=>.no
@[simp] theorem Jc{n t:String}{O:au}:isF n (some t) O=.ok (.bl (cD t n)) O:=rfl
@[simp] theorem Jd{n:String}{m:M D}{ρ:aD}{O:au}:cQ n m ρ O=(m ρ O).bind λd O1=>isF n (tyD (bx O1 d)) O1:=rfl
@[simp] theorem Qzz:tyD .non=some "NoneType":=rfl
@[simp] theorem QzR{b:Bool}:tyD (.bl b)=some "bool":=rfl
@[simp] theorem Qzr{b:Int}:tyD (.int b)=some "int":=rfl
@[simp] theorem Xi{b:List Nat}:tyD (.str b)=some "str":=rfl
@[simp] theorem Qzp{b:List D}:tyD (.lst b)=some "list":=rfl
@[simp] theorem Qzk{b:List D}:tyD (.tup b)=some "tuple":=rfl
@[simp] theorem Qzv{a b:List D}:tyD (.dic a b)=some "dict":=rfl
@[simp] theorem QAm{ρ:aD}{O:au}:moN ρ O=.ok none O:=rfl
def osF(d:D)(O:au):Res (Option Int):=match d with
 | .int i=>.ok (some i) O
 | _=>.no
@[simp] theorem Je{i:Int}{O:au}:osF (.int i) O=.ok (some i) O:=rfl
@[simp] theorem Jf{m:M D}{ρ:aD}{O:au}:moS m ρ O=(m ρ O).bind osF:=rfl
@[simp] theorem Jg{m:M D}{lo hi:M (Option Int)}{ρ:aD}{O:au}:mSl m lo hi ρ O=(m ρ O).bind λd O1=>(lo ρ O1).bind λl O2=>(hi ρ O2).bind λh O3=>ofO (gSl (bx O3 d) l h) O3:=rfl
@[simp] theorem QzA{l:List Nat}{lo hi:Option Int}:gSl (.str l) lo hi=if l.length<=16777216 then some (.str (eU l lo hi)) else none:=rfl
@[simp] theorem Jh{l:List D}{lo hi:Option Int}:gSl (.lst l) lo hi=some (.lst (eU l lo hi)):=rfl
@[simp] theorem Qzs{l:List D}{lo hi:Option Int}:gSl (.tup l) lo hi=some (.tup (eU l lo hi)):=rfl
def il(f:Fl)(b:MS):Fl:=match f with
 | .nx ρ' O'=>b ρ' O'
 |r=>r
@[simp] theorem bw{a b:MS}{ρ:aD}{O:au}:aA a b ρ O=il (a ρ O) b:=rfl
@[simp] theorem bA{ρ:aD}{O:au}{b:MS}:il (.nx ρ O) b=b ρ O:=rfl
@[simp] theorem Ji{d:D}{O:au}{b:MS}:il (.rt d O) b=.rt d O:=rfl
@[simp] theorem QzB{ρ:aD}{O:au}{b:MS}:il (.bk ρ O) b=.bk ρ O:=rfl
@[simp] theorem Qzy{ρ:aD}{O:au}{b:MS}:il (.ct ρ O) b=.ct ρ O:=rfl
@[simp] theorem Qzi{b:MS}:il .no b=.no:=rfl
@[simp] theorem dZ{ρ:aD}{O:au}:bj ρ O=.nx ρ O:=rfl
def ou(r:Res D):Fl:=match r with
 | .ok d O'=>.rt d O'
 | .ex x O'=>.ex x O'
 | .no=>.no
@[simp] theorem eE{m:M D}{ρ:aD}{O:au}:aU m ρ O=ou (m ρ O):=rfl
@[simp] theorem pU{d:D}{O:au}:ou (.ok d O)=.rt d O:=rfl
def Jj(r:Res D)(ρ:aD):Fl:=match r with
 | .ok _ O'=>.nx ρ O'
 | .ex x O'=>.ex x O'
 | .no=>.no
@[simp] theorem Xj{m:M D}{ρ:aD}{O:au}:qX m ρ O=Jj (m ρ O) ρ:=rfl
@[simp] theorem Xk{d:D}{O:au}{ρ:aD}:Jj (.ok d O) ρ=.nx ρ O:=rfl
def ifF(r:Res Bool)(a b:MS)(ρ:aD):Fl:=match r with
 | .ok c O'=>if c=true then a ρ O' else b ρ O'
 | .ex x O'=>.ex x O'
 | .no=>.no
@[simp] theorem iI{t:M Bool}{a b:MS}{ρ:aD}{O:au}:aZ t a b ρ O=ifF (t ρ O) a b ρ:=rfl
@[simp] theorem jy{c:Bool}{O:au}{a b:MS}{ρ:aD}:ifF (.ok c O) a b ρ=if c=true then a ρ O else b ρ O:=rfl
def rP(i:Nat)(r:Res D)(ρ:aD):Fl:=match r with
 | .ok d O'=>.nx (ρ.set i (some d)) O'
 | .ex x O'=>.ex x O'
 | .no=>.no
@[simp] theorem fX{i:Nat}{m:M D}{ρ:aD}{O:au}:aH i m ρ O=rP i (m ρ O) ρ:=rfl
@[simp] theorem fY{i:Nat}{d:D}{O:au}{ρ:aD}:rP i (.ok d O) ρ=.nx (ρ.set i (some d)) O:=rfl
def yg(r:Res (List D))(g:MG)(b:MS)(ρ:aD):Fl:=match r with
 | .ok ds O'=>cV g b ds ρ O'
 | .ex x O'=>.ex x O'
 | .no=>.no
@[simp] theorem gK{m:M (List D)}{g:MG}{b:MS}{ρ:aD}{O:au}:cu m g b ρ O=yg (m ρ O) g b ρ:=rfl
@[simp] theorem gM{ds:List D}{O:au}{g:MG}{b:MS}{ρ:aD}:yg (.ok ds O) g b ρ=cV g b ds ρ O:=rfl
@[simp] theorem mg_n{i:Nat}{d:D}{ρ:aD}:mgN i d ρ=some (ρ.set i (some d)):=rfl
def bB(f:Fl):Res D:=match f with
 | .rt d O'=>.ok d O'
 | .nx _ O'=>.ok .non O'
 | .ex x O'=>.ex x O'
 | _=>.no
@[simp] theorem yh{n:Nat}{b:MS}{ds:List D}{O:au}:bF n b ds O=bB (b (ds.map some++List.replicate (n - ds.length) none) O):=rfl
@[simp] theorem pW{d:D}{O:au}:bB (.rt d O)=.ok d O:=rfl
@[simp] theorem Qzn{ρ:aD}{O:au}:bB (.nx ρ O)=.ok .non O:=rfl
@[simp] theorem Jk{m:M (List D)}{ρ:aD}{O:au}:eY m ρ O=(m ρ O).bind λds O1=>match ds with
 | [.int j]=>if j<=1000000000/\-1000000000<=j then .ok (bM 0 j.toNat) O1 else .no
 | _=>.no:=rfl
def itF(o:Option (List D))(O:au):Res (List D):=match o with
 |some ds=>.ok ds O
 |none=>.no
@[simp] theorem rQ{ds:List D}{O:au}:itF (some ds) O=.ok ds O:=rfl
@[simp] theorem rR{m:M D}{ρ:aD}{O:au}:cF m ρ O=(m ρ O).bind λd O1=>itF (nT d) O1:=rfl
@[simp] theorem uJ{ds:List D}:nT (.lst ds)=some ds:=rfl
@[simp] theorem Qyn{ds:List D}:nT (.tup ds)=some ds:=rfl
theorem Xl{l:List Nat}(h:ascii l=true):nT (.str l)=some (gG l):=by
 show(if ascii l=true then some (gG l) else none)=_;rw[if_pos h]
@[simp] theorem uK{m:M (List D)}{own:Nat}{cap:List Nat}{g:MG}{t:M Bool}{e:M D}{ρ:aD}{O:au}:dI m own cap g t e ρ O=(m ρ O).bind λds O1=>if ds.length<=1000000 then(dR g t e ds (jP own cap ρ) O1 []).bind λys O2=>.ok (.lst ys) O2 else .no:=rfl
@[simp] theorem ir{i j:Int}:bf (.int i) (.int j)=some (.int (i+j)):=rfl
@[simp] theorem Jl{a b:List Nat}:bf (.str a) (.str b)=if a.length+b.length<=1000000 then some (.str (a++b)) else none:=rfl
@[simp] theorem Xm{a b:List D}:bf (.lst a) (.lst b)=if a.length+b.length<=1000000 then some (.lst (a++b)) else none:=rfl
@[simp] theorem uL{i j:Int}:eV (.int i) (.int j)=some (.int (i - j)):=rfl
@[simp] theorem uM{i j:Int}:bU (.int i) (.int j)=if 0<j then some (.int (i % j)) else none:=by
 unfold bU gI
 by_cases h:0<j<;>simp[h]
@[simp] theorem Jm{i j:Int}:gD (.int i) (.int j)=if 0<j/\j<1073741824 then some (.int (i / j)) else none:=by
 unfold gD gI
 by_cases h:0<j/\j<1073741824<;>simp[h]
theorem mz{i j:Int}(h:(-(2 ^ 64)<i/\i<2 ^ 64)\/(-(2 ^ 64)<j/\j<2 ^ 64)):cW (.int i) (.int j)=some (.int (i * j)):=by
 unfold cW;dsimp only;rw[if_pos];rw[Bool.or_eq_true];unfold lR;rw[zp,zp,decide_eq_true_eq,decide_eq_true_eq,decide_eq_true_eq,decide_eq_true_eq];exact h
@[simp] theorem pX{i j:Int}:gLt (.int i) (.int j)=some (.bl (decide (i<j))):=rfl
@[simp] theorem mD{i j:Int}:gGt (.int i) (.int j)=some (.bl (decide (j<i))):=rfl
@[simp] theorem Qz8{i j:Int}:gGe (.int i) (.int j)=some (.bl (decide (j<=i))):=rfl
@[simp] theorem uN{i j:Int}:gLe (.int i) (.int j)=some (.bl (decide (i<=j))):=rfl
theorem Jo(a b:Nat):(([a]:List Nat) < [b])↔a<b:=by
 constructor
 ·intro h
  rcases List.cons_lt_cons_iff.mp h with h | ⟨_,h⟩
  ·exact h
  ·exact absurd h (List.not_lt_nil _)
 ·intro h;exact List.cons_lt_cons_iff.mpr (.inl h)
@[simp] theorem QAg{a b:Nat}:gLe (.str [a]) (.str [b])=some (.bl (decide (a<=b))):=by
 show some (D.bl (!decide (([b]:List Nat) < [a])))=_
 have:decide (([b]:List Nat) < [a])=decide (b<a):=by
  by_cases h:b<a
  ·rw[zh h,zh ((Jo _ _).mpr h)]
  ·rw[zg h,zg (λz=>h ((Jo _ _).mp z))]
 rw[this]
 by_cases h:b<a
 ·rw[zh h,zg (by omega)];rfl
 ·rw[zg h,zh (by omega)];rfl
@[simp] theorem uO{i j:Int}:gEq (.int i) (.int j)=some (.bl (decide (i=j))):=rfl
@[simp] theorem Qz6{i j:List Nat}:gEq (.str i) (.str j)=some (.bl (decide (i=j))):=rfl
@[simp] theorem QAc{i j:Bool}:gEq (.bl i) (.bl j)=some (.bl (decide (i=j))):=rfl
@[simp] theorem yj{i j:List D}:gEq (.lst i) (.lst j)=if(okE (.lst i)&&okE (.lst j))=true then some (.bl (fP (.lst i) (.lst j))) else none:=rfl
@[simp] theorem uP{i j:Int}:gNe (.int i) (.int j)=some (.bl (!decide (i=j))):=rfl
@[simp] theorem Qz4{i j:List Nat}:gNe (.str i) (.str j)=some (.bl (!decide (i=j))):=rfl
@[simp] theorem QAf{i j:Bool}:gNe (.bl i) (.bl j)=some (.bl (!decide (i=j))):=rfl
@[simp] theorem Xn{i j:List D}:gNe (.lst i) (.lst j)=if(okE (.lst i)&&okE (.lst j))=true then some (.bl (!fP (.lst i) (.lst j))) else none:=rfl
@[simp] theorem uQ{n:Bool}{c:Nat}{l:List Nat}:gIn n (.str [c]) (.str l)=some (.bl (n ^^ decide (c∈l))):=rfl
theorem kZ{ds:List D}{i:Int}:gIx (.lst ds) (.int i)=atI ds i:=rfl
theorem Jp{ds:List D}{i:Int}:gIx (.tup ds) (.int i)=atI ds i:=rfl
theorem ym{l:List Nat}{i:Int}:gIx (.str l) (.int i)=if l.length<=1000000 then(atI l i).map (λc=>.str [c]) else none:=rfl
@[simp] theorem Xo{l:List Nat}:bz [.str l]=if l.length<=1000000 then some (.int l.length) else none:=rfl
@[simp] theorem oA{l:List D}:bz [.lst l]=some (.int l.length):=rfl
@[simp] theorem QzL{l:List D}:bz [.tup l]=some (.int l.length):=rfl
@[simp] theorem Xp{i j:Int}:q9 [.int i,.int j]=some (.int (if j>i then j else i)):=rfl
@[simp] theorem QzW{i j:Int}:rm [.int i,.int j]=some (.int (if j<i then j else i)):=rfl
@[simp] theorem QzP{i:Int}:jt [.int i]=some (.int i):=rfl
@[simp] theorem uR{b:Bool}:jt [.bl b]=some (.int (if b then 1 else 0)):=rfl
@[simp] theorem QzH:eX (.int 10) (.int 18)=some (.int 1000000000000000000):=by rfl
@[simp] theorem QzE:eX (.int 10) (.int 9)=some (.int 1000000000):=by rfl
@[simp] theorem jz{α:Type}{xs:List α}{j:Nat}:atI xs (j:Int)=xs[j]?:=by
 unfold atI ixN;rw[if_pos (by omega)]
 by_cases h:j<xs.length
 ·rw[if_pos (by omega)];simp
 ·rw[if_neg (by omega),List.getElem?_eq_none (by omega)];rfl
theorem rY{α:Type}{xs:List α}{i:Int}(h0:0<=i)(h1:i<xs.length):∃x,atI xs i=some x/\x∈xs:=by
 obtain⟨j,rfl⟩:=Int.eq_ofNat_of_zero_le h0
 have hj:j<xs.length:=by omega
 exact⟨xs[j],by show atI xs (j:Int)=_;rw[jz,zo hj],jp hj⟩
section
variable {c:Prop}[Decidable c]
@[simp] theorem QyT{a b:Fl}:bB (if c then a else b)=if c then bB a else bB b:=by split<;>rfl
@[simp] theorem QyR{a b:Res D}:ou (if c then a else b)=if c then ou a else ou b:=by split<;>rfl
@[simp] theorem Qyw{a b:Fl}{r:MS}:il (if c then a else b) r=if c then il a r else il b r:=by split<;>rfl
@[simp] theorem Qy0{α β:Type}{a b:Res α}{f:α->au->Res β}:(if c then a else b).bind f=if c then a.bind f else b.bind f:=by split<;>rfl
@[simp] theorem Qzm{a b:Res Bool}{x y:MS}{ρ:aD}:ifF (if c then a else b) x y ρ=if c then ifF a x y ρ else ifF b x y ρ:=by split<;>rfl
@[simp] theorem Qzc{a b:Res D}{i:Nat}{ρ:aD}:rP i (if c then a else b) ρ=if c then rP i a ρ else rP i b ρ:=by split<;>rfl
@[simp] theorem Qzh{a b:Option D}{O:au}:ofO (if c then a else b) O=if c then ofO a O else ofO b O:=by split<;>rfl
end
@[simp] theorem Xq:cD "str" "str" = true:=by decide
@[simp] theorem QzC:cD "int" "str" = false:=by decide
@[simp] theorem QzD:cD "bool" "str" = false:=by decide
@[simp] theorem QzM:cD "list" "str" = false:=by decide
@[simp] theorem QzX:cD "tuple" "str" = false:=by decide
@[simp] theorem QzT:cD "dict" "str" = false:=by decide
@[simp] theorem QzV:cD "NoneType" "str" = false:=by decide
@[simp] theorem QzI:cD "int" "int" = true:=by decide
@[simp] theorem QzK:cD "int" "bool" = false:=by decide
@[simp] theorem Qzu:cD "bool" "bool" = true:=by decide
@[simp] theorem Xr:cD "list" "list" = true:=by decide
@[simp] theorem Jq:cD "tuple" "tuple" = true:=by decide
@[simp] theorem Qzj:cD "NoneType" "list" = false:=by decide
theorem iJ{g:MG}{b:MS}(Pv:Nat->aD->au->Prop):∀(ds:List D) (k:Nat) (ρ:aD) (O:au),Pv k ρ O ->
  (∀i d ρ O,ds[i]?=some d->Pv (k+i) ρ O->∃ρ1,g d ρ=some ρ1/\∃ρ2 O2,(b ρ1 O=.nx ρ2 O2\/b ρ1 O=.ct ρ2 O2)/\Pv (k+i+1) ρ2 O2)->∃ρ' O',cV g b ds ρ O=.nx ρ' O'/\Pv (k+ds.length) ρ' O'
 | [],k,ρ,O,h,_=>⟨ρ,O,rfl,h⟩
 |d::ds,k,ρ,O,h,hs=>by
  obtain⟨ρ1,e1,ρ2,O2,e2,h2⟩:=hs 0 d ρ O rfl h
  obtain⟨ρ',O',e3,h3⟩:=iJ Pv ds (k+1) ρ2 O2 h2 λi d' ρ' O' hi hp=>by
   have:=hs (i+1) d' ρ' O' (by simpa using hi) (by rw[show k+(i+1)=k+1+i by omega];exact hp)
   rw[show k+(i+1)+1=k+1+i+1 by omega] at this;exact this
  refine⟨ρ',O',?_,by rw[zx,show k+(ds.length+1)=k+1+ds.length by omega];exact h3⟩;unfold cV;rw[e1];dsimp only
  rcases e2 with e2 | e2<;>rw[e2]<;>exact e3
theorem Jr{g:MG}{t:M Bool}{m:M D}(Pv:aD->Prop)(p:D->Bool):∀(ds:List D) (ρ:aD) (O:au) (acc:List D),Pv ρ->(∀d∈ds,∀ρ,Pv ρ->∃ρ1,g d ρ=some ρ1/\Pv ρ1/\t ρ1 O=.ok (p d) O/\m ρ1 O=.ok d O)->dR g t m ds ρ O acc=.ok (acc++ds.filter p) O
 | [],ρ,O,acc,_,_=>by simp[dR]
 |d::ds,ρ,O,acc,h,hs=>by
  obtain⟨ρ1,e1,h1,e2,e3⟩:=hs d zv ρ h
  have ih:=λacc=>Jr Pv p ds ρ1 O acc h1 λd' hd'=>hs d' (zy _ hd')
  unfold dR;rw[e1];dsimp only;rw[e2]
  cases q:p d with
  |true =>
   dsimp only;rw[e3];dsimp only;rw[ih,List.filter_cons,q];simp
  |false =>
   dsimp only;rw[ih,List.filter_cons,q];simp
@[simp] theorem Qz1{ρ:aD}{O:au}:VL ρ O=.ok [] O:=rfl
@[simp] theorem Qzw{a b:M D}{r:M (List (D×D))}{ρ:aD}{O:au}:VM a b r ρ O=(a ρ O).bind λx O1=>(b ρ O1).bind λy O2=>(r ρ O2).bind λps O3=>.ok ((x,y)::ps) O3:=rfl
def diF(o:Option (List Key))(kv:List (D×D))(O:au):Res D:=match o with
 |some ks=>if ks.Nodup/\kv.length<=15 then .ok (.dic (kv.map (·.1)) (kv.map (·.2))) O else .no
 |none=>.no
@[simp] theorem Qyu{ks:List Key}{kv:List (D×D)}{O:au}:diF (some ks) kv O=if ks.Nodup/\kv.length<=15 then .ok (.dic (kv.map (·.1)) (kv.map (·.2))) O else .no:=rfl
@[simp] theorem QzG{m:M (List (D×D))}{ρ:aD}{O:au}:VN m ρ O=(m ρ O).bind λkv O1=>diF (keysOf kv) kv O1:=rfl
@[simp] theorem Qzt{i:Int}:keyOf (.int i)=some (.inl i):=rfl
@[simp] theorem Qzq{i:List Nat}:keyOf (.str i)=some (.inr (S i)):=rfl
@[simp] theorem Qxf:keysOf []=some []:=rfl
@[simp] theorem Qxc{a b:D}{r:List (D×D)}:keysOf ((a,b)::r)=(keyOf a).bind λk=>(keysOf r).map (k :: ·):=rfl
def joF(o:Option (List (List Nat)))(O:au):Res D:=match o with
 |some ls=>if(ls.map List.length).sum<=1000000 then .ok (.str ls.flatten) O else .no
 |none=>.no
@[simp] theorem Xu{ls:List (List Nat)}{O:au}:joF (some ls) O=if(ls.map List.length).sum<=1000000 then .ok (.str ls.flatten) O else .no:=rfl
def jdF(d:D)(O:au):Res D:=match d with
 | .lst ds=>joF (jU ds) O
 | _=>.no
@[simp] theorem Xv{ds:List D}{O:au}:jdF (.lst ds) O=joF (jU ds) O:=rfl
@[simp] theorem Xw{m:M D}{ρ:aD}{O:au}:uA m ρ O=(m ρ O).bind λd O1=>jdF (bx O1 d) O1:=rfl
theorem Js{α:Type}{f:α->List Nat}:∀l:List α,jU (l.map λx=>.str (f x))=some (l.map f)
 | []=>rfl
 |x::l=>by
  show(jU (l.map λx=>D.str (f x))).map _=_;rw[Js l];rfl
@[simp] theorem Xx{own:Nat}{cap:List Nat}{ρ:aD}:jP own cap ρ=List.replicate own none++cap.map λj=>(ρ[j]?).join:=rfl
@[simp] theorem Qyp{g:MG}{t:M Bool}{m:M D}{ρ:aD}{O:au}{acc:List D}:dR g t m [] ρ O acc=.ok acc O:=rfl
theorem Jt:∀ds:List D,jR ds=ds.map toP
 | []=>rfl
 |d::ds=>by rw[jR,Jt ds];rfl
theorem Ju:∀{ds:List D},(∀d∈ds,gY d=true)->nP ds=true
 | [],_=>rfl
 |d::ds,h=>by rw[nP,h d zv,Ju λx hx=>h x (zy _ hx)];rfl
theorem Jv{n:Nat}(hn:n<60){ds:List D}(h:∀d∈ds,gY d=true/\(toP d).canLay0=true/\(toP d).depth<=n):okE (.lst ds)=true:=by
 unfold okE;rw[zp];refine⟨?_,?_⟩
 ·rw[gY];exact Ju λd hd=>(h d hd).1
 ·rw[toP,Jt]
  refine Ut hn λd hd=>?_
  obtain⟨x,hx,rfl⟩:=zE.mp hd;exact(h x hx).2
theorem yo{l:List Nat}(h:∀c∈l,c<1114112):(PyData.str (S l)).canLay0=true:=by
 show PyData.strOk (S l)=true;unfold PyData.strOk S;simp;exact h
theorem Xy{d:D}(h:okE d=true):fP d d=true:=by
 unfold okE at h;rw[zp] at h
 have:=h.2
 unfold okD at this;rw[zp] at this;exact SeqAt.eqv_refl _ this.1
def it(f:Int->Int):Nat->Int->Int
 | 0,x=>x
 |n+1,x=>f (it f n x)
def mix(n k:Int):Int:=if n>1000000000000000000 then it (λr=>r / 1000000000) k.toNat n % 1000000000
 else
  let m:=it (λm=>(m * 48271+104729) % 2147483629) (k+2).toNat (n % 2147483647+7919)
  m * m % 998244353 / 11
theorem Jw(j:Nat)(x:Int)(h0:0<=x)(h1:x<2147491566):0<=it (λm=>(m * 48271+104729) % 2147483629) j x/\it (λm=>(m * 48271+104729) % 2147483629) j x<2147491566:=by
 induction j with
 |zero=>exact⟨h0,h1⟩
 |succ j ih =>
  refine⟨zS _ (by decide),?_⟩
  have:=zW (it (λm=>(m * 48271+104729) % 2147483629) j x * 48271+104729) (show(0:Int)<2147483629 by decide)
  show(it (λm=>(m * 48271+104729) % 2147483629) j x * 48271+104729) % 2147483629<_;omega
def yp:MS:=(aA (aZ (aK (ak gGt (aa 0) (ak eX (mC (.int 10)) (mC (.int 18))))) (aA (aH 2 (mG (aa 0)))
  (aA (cu (eY (aj (aa 1) aq)) (mgN 3) (aH 2 (ak gD (aa 2) (ak eX (mC (.int 10)) (mC (.int 9))))))
  (aU (ak bU (aa 2) (ak eX (mC (.int 10)) (mC (.int 9))))))) bj)
  (aA (aH 4 (ak bf (ak bU (aa 0) (mC (.int 2147483647))) (mC (.int 7919))))
  (aA (cu (eY (aj (ak bf (aa 1) (mC (.int 2))) aq)) (mgN 3) (aH 4 (ak bU (ak bf (ak cW (aa 4) (mC (.int 48271))) (mC (.int 104729))) (mC (.int 2147483629)))))
  (aU (ak gD (ak bU (ak cW (aa 4) (aa 4)) (mC (.int 998244353))) (mC (.int 11)))))))
theorem oE(lo:Int)(n:Nat):(bM lo n).length=n:=by simp[bM]
theorem Jx(n k:Int)(h0:0<=k)(h1:k<=1000000)(O:au):bF 5 yp [.int n,.int k] O=.ok (.int (mix n k)) O:=by
 unfold mix
 by_cases hn:n>1000000000000000000
 ·obtain⟨ρ',O',e,rfl,o3,rfl⟩:=iJ (g:=mgN 3) (b:=aH 2 (ak gD (aa 2) (ak eX (mC (.int 10)) (mC (.int 9)))))
   (λi ρ O'=>O'=O/\∃o3,ρ=[some (.int n),some (.int k),some (.int (it (λr=>r / 1000000000) i n)),o3,none]) (bM 0 k.toNat) 0 [some (.int n),some (.int k),some (.int n),none,none] O ⟨rfl,none,rfl⟩ (by
    rintro i d ρ O' hi ⟨rfl,o3,rfl⟩;refine⟨_,rfl,?_⟩;simp;rw[show it (λr=>r / 1000000000) (i+1) n=it (λr=>r / 1000000000) i n / 1000000000 from rfl]
    exact⟨_,_,⟨rfl,rfl⟩,rfl,_,rfl⟩)
  rw[oE,jm] at e
  have hk:k<=1000000000/\-1000000000<=k:=by omega
  simp[yp,hn,hk,e]
 ·have hm0:0<=n % 2147483647+7919:=by have:=zS n (show(2147483647:Int)≠0 by decide);omega
  have hm1:n % 2147483647+7919<2147491566:=by have:=zW n (show(0:Int)<2147483647 by decide);omega
  obtain⟨ρ',O',e,rfl,o3,rfl⟩:=iJ (g:=mgN 3) (b:=aH 4 (ak bU (ak bf (ak cW (aa 4) (mC (.int 48271))) (mC (.int 104729))) (mC (.int 2147483629))))
   (λi ρ O'=>O'=O/\∃o3,ρ=[some (.int n),some (.int k),none,o3,some (.int (it (λm=>(m * 48271+104729) % 2147483629) i (n % 2147483647+7919)))]) (bM 0 (k+2).toNat) 0 [some (.int n),some (.int k),none,none,some (.int (n % 2147483647+7919))] O ⟨rfl,none,rfl⟩ (by
    rintro i d ρ O' hi ⟨rfl,o3,rfl⟩;refine⟨_,rfl,?_⟩;obtain⟨b0,b1⟩:=Jw i _ hm0 hm1
    have:=mz (i:=it (λm=>(m * 48271+104729) % 2147483629) i (n % 2147483647+7919)) (j:=48271) (.inr ⟨by decide,by decide⟩)
    simp[this]
    rw[show it (λm=>(m * 48271+104729) % 2147483629) (i+1) (n % 2147483647+7919)=(it (λm=>(m * 48271+104729) % 2147483629) i (n % 2147483647+7919) * 48271+104729) % 2147483629 from rfl]
    exact⟨_,_,⟨rfl,rfl⟩,rfl,_,rfl⟩)
  rw[oE,jm] at e
  have hk:k+2<=1000000000/\-1000000000<=k+2:=by omega
  obtain⟨b0,b1⟩:=Jw (k+2).toNat _ hm0 hm1;have hq:=mz (i:=it (λm=>(m * 48271+104729) % 2147483629) (k+2).toNat (n % 2147483647+7919)) (j:=it (λm=>(m * 48271+104729) % 2147483629) (k+2).toNat (n % 2147483647+7919)) (.inl ⟨by omega,by omega⟩);simp[yp,hn,hk,e,hq]
def Jy(cs:List Str)(f:Str)(d:D)(O:au):Res D:=match d with
 | .ob n=>match O[n]? with
  |some (.ins c fs)=>if c∈cs then match fs.lookup f with
   |some y=>.ok y O
   |none=>.no else .no
  | _=>.no
 | _=>.no
@[simp] theorem Xz{cs:List Str}{f:Str}{m:M D}{ρ:aD}{O:au}:f9 cs f m ρ O=(m ρ O).bind (Jy cs f):=rfl
def puF(cs:List Str)(f:Str)(d:D)(ρ:aD)(r:Res D):Fl:=match r with
 | .ok (.ob n) O2=>match O2[n]? with
  |some (.ins c fs)=>if c∈cs/\fs.length<900 then .nx ρ (O2.set n (.ins c (putD f d fs))) else .no
  | _=>.no
 | _=>.no
def sfF(cs:List Str)(f:Str)(mo:M D)(r:Res D)(ρ:aD):Fl:=match r with
 | .ok d O1=>puF cs f d ρ (mo ρ O1)
 | .ex x O'=>.ex x O'
 | .no=>.no
@[simp] theorem XC{cs:List Str}{f:Str}{mo mv:M D}{ρ:aD}{O:au}:kO cs f mo mv ρ O=sfF cs f mo (mv ρ O) ρ:=by
 unfold kO sfF puF
 cases mv ρ O<;>rfl
@[simp] theorem XD{cs:List Str}{f:Str}{mo:M D}{d:D}{O:au}{ρ:aD}:sfF cs f mo (.ok d O) ρ=puF cs f d ρ (mo ρ O):=rfl
def meF(c m:Str)(cf:List D->au->Res D)(ma:au->Res (List D))(d:D)(O1:au):Res D:=match d with
 | .ob n=>match O1[n]? with
  |some (.ins c' fs)=>if c'=c/\(fs.lookup m).isNone=true then(ma O1).bind λds O2=>cf (.ob n::ds) O2 else .no
  | _=>.no
 | _=>.no
@[simp] theorem XF{c m:Str}{cf:List D->au->Res D}{mo:M D}{ma:M (List D)}{ρ:aD}{O:au}:cR c m cf mo ma ρ O=(mo ρ O).bind (meF c m cf (ma ρ)):=rfl
def mkF(n:Nat)(r:Res D):Res D:=match r with
 | .ok .non O2=>.ok (.ob n) O2
 | .ok _ _=>.no
 | .ex x O2=>.ex x O2
 | .no=>.no
@[simp] theorem Jz{c:Str}{cf:List D->au->Res D}{ma:M (List D)}{ρ:aD}{O:au}:jV c cf ma ρ O=(ma ρ O).bind λds O1=>mkF O1.length (cf (.ob O1.length::ds) (O1++[.ins c []])):=by
 unfold jV;congr 1
@[simp] theorem XH{n:Nat}{O:au}:mkF n (.ok .non O)=.ok (.ob n) O:=rfl
def apF(i:Nat)(r:Res D)(ρ:aD):Fl:=match r with
 | .ok d O'=>match ρ[i]? with
  |some (some (.lst ds))=>if ds.length<1000000 then .nx (ρ.set i (some (.lst (ds++[d])))) O' else .no
  | _=>.no
 | .ex x O'=>.ex x O'
 | .no=>.no
@[simp] theorem yq{i:Nat}{m:M D}{ρ:aD}{O:au}:dU i m ρ O=apF i (m ρ O) ρ:=rfl
theorem rZ{i:Nat}{d:D}{ds:List D}{ρ:aD}{O:au}(h:ρ[i]?=some (some (.lst ds)))(hl:ds.length<1000000):apF i (.ok d O) ρ=.nx (ρ.set i (some (.lst (ds++[d])))) O:=by
 unfold apF;dsimp only;rw[h];dsimp only;rw[if_pos hl]
def exF(i:Nat)(r:Res D)(ρ:aD):Fl:=match r with
 | .ok d O'=>match ρ[i]?,bx O' d with
  |some (some (.lst ds)),.lst es=>if ds.length+es.length<=1000000 then .nx (ρ.set i (some (.lst (ds++es)))) O' else .no
  | _,_=>.no
 | .ex x O'=>.ex x O'
 | .no=>.no
@[simp] theorem QzY{i:Nat}{m:M D}{ρ:aD}{O:au}:Vw i m ρ O=exF i (m ρ O) ρ:=rfl
def enF(d:D)(O1:au):Res (List D):=match d with
 | .lst ds=>.ok (rG 0 ds) O1
 | .str l=>if ascii l=true then .ok (rG 0 (gG l)) O1 else .no
 | _=>.no
@[simp] theorem QzF{m:M D}{ρ:aD}{O:au}:VD m ρ O=(m ρ O).bind enF:=rfl
def asF(r:Res D)(g:MG)(ρ:aD):Fl:=match r with
 | .ok d O'=>match g d ρ with
  |some ρ'=>.nx ρ' O'
  |none=>.no
 | .ex x O'=>.ex x O'
 | .no=>.no
@[simp] theorem QzS{m:M D}{g:MG}{ρ:aD}{O:au}:U6 m g ρ O=asF (m ρ O) g ρ:=rfl
@[simp] theorem QAh{i j:Nat}{a b:D}{ρ:aD}:jO 2 (fJ (mgN i) (fJ (mgN j) kE)) (.tup [a,b]) ρ=some ((ρ.set i (some a)).set j (some b)):=rfl
def stF(a b:D)(O:au):Res D:=match a,b with
 | .str l,.str n=>.ok (.bl (decide (l.take n.length=n))) O
 | _,_=>.no
@[simp] theorem QyP{a b:M D}{ρ:aD}{O:au}:Vt a b ρ O=(a ρ O).bind λx O1=>(b ρ O1).bind λy O2=>stF x y O2:=rfl
@[simp] theorem QAa{l n:List Nat}{O:au}:stF (.str l) (.str n) O=.ok (.bl (decide (l.take n.length=n))) O:=rfl
theorem uT{t:M Bool}{b:MS}(Pv:Nat->aD->au->Prop):∀(n:Nat) (k:Nat) (ρ:aD) (O:au),k<n->Pv k ρ O ->
  (∀k ρ O,Pv (k+1) ρ O->t ρ O=.ok true O/\∃j ρ2 O2,j<=k/\b ρ O=.nx ρ2 O2/\Pv j ρ2 O2)->(∀ρ O,Pv 0 ρ O->t ρ O=.ok false O)->∃ρ' O',d9 t b n ρ O=.nx ρ' O'/\Pv 0 ρ' O'
 | 0,k,ρ,O,hk,_,_,_=>absurd hk (Nat.not_lt_zero _)
 |n+1,0,ρ,O,_,h,_,h0=>by
  refine⟨ρ,O,?_,h⟩;unfold d9;rw[h0 ρ O h]
 |n+1,k+1,ρ,O,hk,h,hs,h0=>by
  obtain⟨e1,j,ρ2,O2,hj,e2,h2⟩:=hs k ρ O h;obtain⟨ρ',O',e3,h3⟩:=uT Pv n j ρ2 O2 (by omega) h2 hs h0;refine⟨ρ',O',?_,h3⟩;unfold d9;rw[e1];dsimp only;rw[e2];exact e3
theorem lg{α:Type}{g:MG}{t:M Bool}{m:M D}(Pv:aD->Prop)(f h:α->D):∀(xs:List α) (ρ:aD) (O:au) (acc:List D),Pv ρ->(∀x∈xs,∀ρ,Pv ρ->∃ρ1,g (f x) ρ=some ρ1/\Pv ρ1/\t ρ1 O=.ok true O/\m ρ1 O=.ok (h x) O)->dR g t m (xs.map f) ρ O acc=.ok (acc++xs.map h) O
 | [],ρ,O,acc,_,_=>by simp[dR]
 |x::xs,ρ,O,acc,hp,hs=>by
  obtain⟨ρ1,e1,h1,e2,e3⟩:=hs x zv ρ hp;rw[zd];unfold dR;rw[e1];dsimp only;rw[e2];dsimp only;rw[e3];dsimp only;rw[lg Pv f h xs ρ1 O _ h1 λd' hd'=>hs d' (zy _ hd')];simp
def JB:List Nat:=[101,110,100]
def JC:List Nat:=[97,110,101,119]
def JD:List Nat:=[112,108,97,105,110]
def iK:List Nat:=[115,105,103,110]
def JF:List Nat:=[105,110,107]
def JG:List Nat:=[103,114,111,117,110,100]
def item(p:Int)(k v:List Nat):D:=.tup [.int p,.str k,.str v]
def col(c:Nat):Bool:=decide (c∈[97,98,99,100,101,102,103,104,46])
def XJ(x:Nat):List Nat->List Nat×List Nat×Nat
 | []=>(iK,[91],0)
 |e::_=>if e=93 then(JG,[x],3) else(iK,[91],0)
def XM:List Nat->List Nat×List Nat×Nat
 | []=>(iK,[91],0)
 |x::t=>if col x=true then XJ x t else(iK,[91],0)
def XN(x:Nat):List Nat->List Nat×List Nat×Nat
 | []=>(iK,[91],0)
 |e::_=>if e=93 then(JF,[x],2) else(iK,[91],0)
def XQ:List Nat->List Nat×List Nat×Nat
 | []=>(iK,[91],0)
 |d::t=>if d=93 then(JD,[],1) else if d=91 then(iK,[91],1) else if col d=true then XN d t else if d=47 then XM t else(iK,[91],0)
def one(c:Nat)(t:List Nat):List Nat×List Nat×Nat :=
 if c=10 then(JB,[],0) else if c=9 then(JC,[],0) else if c=91 then XQ t else(iK,[c],0)
def items(p:Int):List Nat->List D
 | []=>[]
 |c::t=>item p (one c t).1 (one c t).2.1::items (p+((one c t).2.2+1:Nat)) (t.drop (one c t).2.2)
termination_by l=>l.length
decreasing_by
 simp only[List.length_drop,zx];omega
def own(p:Int)(c:Nat):D:=if c=10 then item p JB [] else if c=9 then item p JC [] else item p iK [c]
def owns:Int->List Nat->List D
 | _,[]=>[]
 |p,c::l=>own p c::owns (p+1) l
def XR:List Nat->Bool
 | [a]=>decide (a=91)
 | [a,b]=>decide (a=91)&&(decide (b=47) || col b)
 | [a,b,c]=>decide (a=91)&&(decide (b=47)&&col c)
 | _=>false
def markB:List Nat->Option (List Nat×List Nat)
 | [a,b]=>if a=91/\b=93 then some (JD,[]) else if a=91/\b=91 then some (iK,[91]) else none
 | [a,b,c]=>if a=91/\col b=true/\c=93 then some (JF,[b]) else none
 | [a,b,c,d]=>if a=91/\b=47/\col c=true/\d=93 then some (JG,[c]) else none
 | _=>none
def tk(h:List Nat)(c:Nat)(p:Int):List D×List Nat :=
 if XR (h++[c])=true then([],h++[c]) else match markB (h++[c]) with
 |some (k,v)=>([item p k v],[])
 |none=>if c=91 then(owns p h,[91]) else(owns p (h++[c]),[])
inductive oF:List Nat->Prop where
 | h0:oF []
 | h1:oF [91]
 | h2:oF [91,47]
 | h3 (x:Nat) (h:col x=true):oF [91,x]
 | h4 (x:Nat) (h:col x=true):oF [91,47,x]
theorem oF.len{h:List Nat}(H:oF h):h.length<=3:=by cases H<;>simp
theorem yt{n:Nat}{t:M Bool}{b:MS}{ρ:aD}{O:au}:gW n t b ρ O=d9 t b n ρ O:=rfl
@[simp] theorem XS{l:List D}:lV [.lst l]=some (.lst l):=rfl
def fzF(f:Fl):Fl:=match f with
 | .rt d O'=>.rt d O'
 | _=>.no
@[simp] theorem Qz5{m:MS}{ρ:aD}{O:au}:rH m ρ O=fzF (m ρ O):=rfl
@[simp] theorem QzZ{d:D}{O:au}:fzF (.rt d O)=.rt d O:=rfl
def ziF(d e:D)(O:au):Res (List D):=match d,e with
 | .lst ds,.lst es=>.ok (kW ds es) O
 | _,_=>.no
@[simp] theorem QAd{ma mb:M D}{ρ:aD}{O:au}:Ie ma mb ρ O=(ma ρ O).bind λd O1=>(mb ρ O1).bind λe O2=>ziF d e O2:=by
 unfold Ie;congr 1
@[simp] theorem Qz2{ds es:List D}{O:au}:ziF (.lst ds) (.lst es) O=.ok (kW ds es) O:=rfl
end L2
namespace K46
open PySem L2
seal VE SE OE WE TsE TwE AE VS VSs VG VGs VI VIc VO VIf DPE
def top(i:Nat):Stmt:=PySem.Challenge.pw_outweave_k46_whole_even_by_prices.main.body.getD i (.Pass ⟨0,0,0,0⟩)
local macro_rules | `(tactic| trivial) => `(tactic| exact ⟨rfl, rfl, rfl, by decide +kernel, rfl, by decide +kernel, by decide +kernel⟩)
section
variable {Pr:Program}{w:World}{K:Frag}{mg:Str->Option Value}{base:Heap}
abbrev yu:Stmt:=top 4
theorem XX:bK ["sign"] ["sign"] (aY yu):=by trivial
def yw:MS :=
  (aU (mIf (aK (nC gLe gLe (mC (.str [65])) (aa 0) (mC (.str [90])))) (mC (.int 2)) (mC (.int 1))))
def jA:List D->au->Res D:=bF 1 yw
abbrev uU(Pr:Program)(w:World)(K:Frag)(mg:Str->Option Value)(base:Heap):Prop:=Can Pr w K mg base "width_of" ["sign"] 1 (vSp K mg [.s] (rV K) jA)
theorem X3(yx:Def K mg "width_of" yu)
  (B:bR mg)
  (NK:bH K=true):
  uU Pr w K mg base:=by
 refine cB (k:=0) (b:=yw) yx XX (λ_ _ _ _ _ _=>aQ λ_=>bV rfl) [.s] [] cj (λ_ _ _ _=>Rp.non) (body:=λf cdv A outer s H E hr P=>?_);refine aN ?_;refine bJ ?_;refine uq ?_ aF aF;refine UJ pF pF (ao (dY [65])) (az 0) (ao (dY [90]))
abbrev uV:Stmt:=top 6
theorem X4:bK ["letters"] ["letters"] (aY uV):=by trivial
def yz:MS :=
  (aU (aX pG (aj (dI (cF (aa 0)) 1 [] (mgN 0) dJ (aJ jA (aj (ak gIx (aa 0) (mC (.int 0))) aq))) aq)))
def uW:List D->au->Res D:=bF 1 yz
abbrev JH(Pr:Program)(w:World)(K:Frag)(mg:Str->Option Value)(base:Heap):Prop:=Can Pr w K mg base "cells_of" ["letters"] 2 (vSp K mg [.s] (rV K) uW)
theorem X5(yC:Def K mg "cells_of" uV)
  (B:bR mg)
  (NK:bH K=true)
  (jW:uU Pr w K mg base):
  JH Pr w K mg base:=by
 refine cB (k:=1) (b:=yz) yC X4 (λ_ _ _ _ _ _=>aQ λ_=>bV rfl) [.s] [] cj (λ_ _ _ _=>Rp.non) (body:=λf cdv A outer s H E hr P=>?_);refine aN ?_;refine bJ ?_;refine bh ?_;refine cZ (ms:=[.s]) (hv:=HB) (Hz rfl) B.sum_ ?_;refine aB ?_ aG;refine aM ?_;refine nJ (aY uV) ["letters"] ["letter"] [] rfl (lZ (az 0)) (λ_ _ _ _ P=>?_) (λ_ _ _ _ P=>?_) (λ_ _ _ _ P=>?_);exact cY (i:=0) (show(bW ["letters"] ["letter"] []).Nodup by decide +kernel) rfl (.inl rfl);exact lQ;refine bL jW (hr.mono (by decide)) ?_;refine aB ?_ aG;refine ao ?_;refine bG (ao (aC 0)) (ao aF)
abbrev yD:Stmt:=top 8
theorem X6:bK ["letters","place"] ["letters","place"] (aY yD):=by trivial
def sr:MS :=
  (aA (aZ (aK (ak gEq (aa 1) (aX bz (aj (aa 0) aq)))) (aU (mC (.bl true))) bj)
  (aU (d8 (ak gEq (ak gIx (ak gIx (aa 0) (ak eV (aa 1) (mC (.int 1)))) (mC (.int 0))) (mC (.str [32]))) (ak gNe (ak gIx (ak gIx (aa 0) (aa 1)) (mC (.int 0))) (mC (.str [32]))))))
def mF:List D->au->Res D:=bF 2 sr
abbrev JK(Pr:Program)(w:World)(K:Frag)(mg:Str->Option Value)(base:Heap):Prop:=Can Pr w K mg base "is_break" ["letters","place"] 1 (vSp K mg [.s,.s] (rV K) mF)
theorem X7(yE:Def K mg "is_break" yD)
  (B:bR mg)
  (NK:bH K=true):
  JK Pr w K mg base:=by
 refine cB (k:=0) (b:=sr) yE X6 (λ_ _ _ _ _ _=>aQ λ_=>aQ λ_=>bV rfl) [.s,.s] [] cj (λ_ _ _ _=>Rp.non) (body:=λf cdv A outer s H E hr P=>?_);refine aL ?_ ?_;refine bY ?_ ?_ bZ;refine bQ (dw hr) (az 1) ?_ (bC _);refine aM ?_;refine cZ (ms:=[.s]) (hv:=dF) dD B.len_ ?_;refine aB (az 0) aG;refine aN (bJ fH);refine aN ?_;refine bJ ?_;refine iB ?_ ?_;refine bh ?_;refine gw (dw hr) ?_ (ao (dY [32])) (bC _);refine ao ?_;refine bG ?_ (ao aF);refine ao ?_;refine bG (az 0) ?_;refine aM ?_;refine aW kI (az 1) (ao aF);refine jM ?_;refine bh ?_;refine gw (lU hr) ?_ (ao (dY [32])) (bC _)
 refine ao ?_;refine bG ?_ (ao aF);refine ao ?_;refine bG (az 0) (az 1)
abbrev yF:Stmt:=top 9
theorem su:bK ["letters","lo","wide","end","cells"] ["letters","lo","wide"] (aY yF):=by trivial
def uX:MS :=
  (aA (aH 3 (mG (aa 1)))
  (aA (aH 4 (mC (.int 0)))
  (aA (gW wF (dN (aK (ak gLt (aa 3) (aX bz (aj (aa 0) aq)))) (aK (ak gLe (ak bf (aa 4) (aJ jA (aj (ak gIx (ak gIx (aa 0) (aa 3)) (mC (.int 0))) aq))) (aa 2)))) (aA (aH 4 (ak bf (aa 4) (aJ jA (aj (ak gIx (ak gIx (aa 0) (aa 3)) (mC (.int 0))) aq))))
  (aH 3 (ak bf (aa 3) (mC (.int 1))))))
  (aU (aa 3)))))
def sy:List D->au->Res D:=bF 5 uX
abbrev uY(Pr:Program)(w:World)(K:Frag)(mg:Str->Option Value)(base:Heap):Prop:=Can Pr w K mg base "reach" ["letters","lo","wide"] 2 (vSp K mg [.s,.s,.s] (rV K) sy)
theorem X8(yG:Def K mg "reach" yF)
  (B:bR mg)
  (NK:bH K=true)
  (jW:uU Pr w K mg base):
  uY Pr w K mg base:=by
 refine cB (k:=1) (b:=uX) yG su (λ_ _ _ _ _ _=>aQ λ_=>aQ λ_=>aQ λ_=>bV rfl) [.s,.s,.s] [.v,.v] cj (λ_ _ _ _=>Rp.non) (body:=λf cdv A outer s H E hr P=>?_);refine aL ?_ ?_;refine bu (i:=3) su.nd rfl (.inl rfl) (cI (az 1));refine aL (bu (i:=4) su.nd rfl (.inl rfl) aF) ?_;refine aL ?_ ?_;refine pC wF ?_ ?_;refine fO ?_;refine km ?_ ?_;refine bQ nO (ao (aC 3)) ?_ (bC _);refine aM ?_;refine cZ (ms:=[.s]) (hv:=dF) dD B.len_ ?_;refine aB (az 0) aG;refine kj ?_;refine bQ pF ?_ (az 2) (bC _);refine aM ?_;refine aW cP (ao (aC 4)) ?_;refine ao ?_
 refine bL jW (hr.mono (by decide)) ?_;refine aB ?_ aG;refine ao ?_;refine bG ?_ (ao aF);refine ao ?_;refine bG (az 0) (ao (aC 3));refine aL ?_ ?_;refine bu (i:=4) su.nd rfl (.inl rfl) ?_;refine bh ?_;refine aW cP (ao (aC 4)) ?_;refine ao ?_;refine bL jW (hr.mono (by decide)) ?_;refine aB ?_ aG;refine ao ?_;refine bG ?_ (ao aF);refine ao ?_;refine bG (az 0) (ao (aC 3));refine aN ?_;refine bu (i:=3) su.nd rfl (.inl rfl) ?_;refine bh ?_;refine aW cP (ao (aC 3)) (ao aF);refine aN (bJ (aC 3))
abbrev yH:Stmt:=top 10
theorem oG:bK ["letters","lo","wide","ends","cells","filled","place"] ["letters","lo","wide"] (aY yH):=by trivial
def JL:MS :=
  (aA (aH 3 (cg aq))
  (aA (aH 4 (mC (.int 0)))
  (aA (aH 5 (mC (.int 0)))
  (aA (cu (nR (aj (aa 1) (aj (aX bz (aj (aa 0) aq)) aq))) (mgN 6) (aA (aH 4 (ak bf (aa 4) (aJ jA (aj (ak gIx (ak gIx (aa 0) (aa 6)) (mC (.int 0))) aq))))
  (aA (aZ (aK (ak gNe (ak gIx (ak gIx (aa 0) (aa 6)) (mC (.int 0))) (mC (.str [32])))) (aH 5 (aa 4)) bj)
  (aA (aZ (aK (ak gGt (aa 5) (aa 2))) pA bj)
  (aZ (bI (aJ mF (aj (aa 0) (aj (ak bf (aa 6) (mC (.int 1))) aq)))) (dU 3 (bT (aj (ak bf (aa 6) (mC (.int 1))) (aj (aa 5) aq)))) bj)))))
  (aU (aa 3))))))
def yI:List D->au->Res D:=bF 7 JL
abbrev JM(Pr:Program)(w:World)(K:Frag)(mg:Str->Option Value)(base:Heap):Prop:=Can Pr w K mg base "fitting_ends" ["letters","lo","wide"] 2 (vSp K mg [.s,.s,.s] (rO K) yI)
theorem Yb(yJ:Def K mg "fitting_ends" yH)
  (B:bR mg)
  (NK:bH K=true)
  (jW:uU Pr w K mg base)
  (yK:JK Pr w K mg base):
  JM Pr w K mg base:=by
 refine cB (k:=1) (b:=JL) yJ oG (λ_ _ _ _ _ _=>aQ λ_=>aQ λ_=>aQ λ_=>bV rfl) [.s,.s,.s] [.o,.v,.v,.v] fG (λ_ _ _ _=>.inl ⟨rfl,Rp.non⟩) (body:=λf cdv A outer s H E hr P=>?_);refine aL ?_ ?_;refine jr (i:=3) oG.nd rfl (.inl rfl) (dM 0 aG);refine aL (bu (i:=4) oG.nd rfl (.inl rfl) aF) ?_;refine aL (bu (i:=5) oG.nd rfl (.inl rfl) aF) ?_;refine aL ?_ (aN (nG 3));refine fM rfl ?_ (cY (i:=6) oG.nd rfl (.inl rfl)) ?_;refine HR B.range_ ?_;refine aB (az 1) ?_;refine aB ?_ aG;refine aM ?_;refine cZ (ms:=[.s]) (hv:=dF) dD B.len_ ?_;refine aB (az 0) aG
 refine aL ?_ ?_;refine bu (i:=4) oG.nd rfl (.inl rfl) ?_;refine bh ?_;refine aW cP (ao (aC 4)) ?_;refine ao ?_;refine bL jW (hr.mono (by decide)) ?_;refine aB ?_ aG;refine ao ?_;refine bG ?_ (ao aF);refine ao ?_;refine bG (az 0) (ao (aC 6));refine aL ?_ ?_;refine bY ?_ ?_ bZ;refine bQ (lU hr) ?_ (ao (dY [32])) (bC _);refine ao ?_;refine bG ?_ (ao aF);refine ao ?_;refine bG (az 0) (ao (aC 6));refine aN (bu (i:=5) oG.nd rfl (.inl rfl) (aC 4));refine aL ?_ ?_;refine bY ?_ (aN Hb) bZ;refine bQ jQ (ao (aC 5)) (az 2) (bC _);refine aN ?_;refine bY ?_ ?_ bZ
 refine d7 ?_;refine ao ?_;refine bL yK (hr.mono (by decide)) ?_;refine aB (az 0) ?_;refine aB ?_ aG;refine aM ?_;refine aW cP (ao (aC 6)) (ao aF);refine aN ?_;refine kJ 3 ?_;refine dC 2 ?_;refine aV ?_ ?_;refine bh ?_;refine aW cP (ao (aC 6)) (ao aF);refine aV (aC 5) aG
abbrev yL:Stmt:=top 11
theorem yM:bK ["letters","lo","wide","ends","end"] ["letters","lo","wide"] (aY yL):=by trivial
def pY:MS :=
  (aA (aH 3 (aJ yI (aj (aa 0) (aj (aa 1) (aj (aa 2) aq)))))
  (aA (aZ (aK (ak gGt (aX bz (aj (aa 3) aq)) (mC (.int 0)))) (aU (aa 3)) bj)
  (aA (aH 4 (aJ sy (aj (aa 0) (aj (aa 1) (aj (aa 2) aq)))))
  (aU (cg (aj (bT (aj (aa 4) (aj (aJ uW (aj (mSl (aa 0) (moS (mG (aa 1))) (moS (aa 4))) aq)) aq))) aq))))))
def sE:List D->au->Res D:=bF 5 pY
abbrev yN(Pr:Program)(w:World)(K:Frag)(mg:Str->Option Value)(base:Heap):Prop:=Can Pr w K mg base "line_ends" ["letters","lo","wide"] 3 (vSp K mg [.s,.s,.s] (rO K) sE)
theorem Yc(yO:Def K mg "line_ends" yL)
  (B:bR mg)
  (NK:bH K=true)
  (yP:JM Pr w K mg base)
  (lq:uY Pr w K mg base)
  (yQ:JH Pr w K mg base):
  yN Pr w K mg base:=by
 refine cB (k:=2) (b:=pY) yO yM (λ_ _ _ _ _ _=>aQ λ_=>aQ λ_=>aQ λ_=>bV rfl) [.s,.s,.s] [.o,.v] fG (λ_ _ _ _=>.inl ⟨rfl,Rp.non⟩) (body:=λf cdv A outer s H E hr P=>?_);refine aL ?_ ?_;refine jr (i:=3) yM.nd rfl (.inl rfl) ?_;refine g8 yP (hr.mono (by decide)) ?_;refine aB (az 0) ?_;refine aB (az 1) ?_;refine aB (az 2) aG;refine aL ?_ ?_;refine bY ?_ (aN (nG 3)) bZ;refine bQ jQ ?_ (ao aF) (bC _);refine aM ?_;refine cZ (ms:=[.s]) (hv:=dF) dD B.len_ ?_;refine aB (az 3) aG;refine aL ?_ ?_;refine bu (i:=4) yM.nd rfl (.inl rfl) ?_;refine bL lq (hr.mono (by decide)) ?_
 refine aB (az 0) ?_;refine aB (az 1) ?_;refine aB (az 2) aG;refine aN ?_;refine iZ ?_;refine dM 1 ?_;refine aV ?_ aG;refine dC 2 ?_;refine aV (aC 4) ?_;refine aV ?_ aG;refine bL yQ (hr.mono (by decide)) ?_;refine aB ?_ aG;refine aM ?_;refine Hx (az 0) ?_ (uw (aC 4));refine uw (cI (az 1))
abbrev yR:Stmt:=top 13
theorem Yd:bK ["thing"] ["thing"] (aY yR):=by trivial
def yS:MS :=
  (aU (d8 (cQ "int" (aa 0)) (nF (cQ "bool" (aa 0)))))
def yU:List D->au->Res D:=bF 1 yS
abbrev JN(Pr:Program)(w:World)(K:Frag)(mg:Str->Option Value)(base:Heap):Prop:=Can Pr w K mg base "is_whole" ["thing"] 1 (vSp K mg [.s] (rV K) yU)
theorem Ye(yV:Def K mg "is_whole" yR)
  (B:bR mg)
  (NK:bH K=true):
  JN Pr w K mg base:=by
 refine cB (k:=0) (b:=yS) yV Yd (λ_ _ _ _ _ _=>aQ λ_=>bV rfl) [.s] [] cj (λ_ _ _ _=>Rp.non) (body:=λf cdv A outer s H E hr P=>?_);refine aN ?_;refine bJ ?_;refine iB ?_ ?_;refine bh (fQ "int" (hb:=lW) B.isinstance_ B.int_ (az 0));refine jM ?_;refine xx ?_;refine bh (fQ "bool" (hb:=rn) B.isinstance_ B.bool_ (az 0))
abbrev yW:Stmt:=top 14
theorem Yg:bK ["thing","least","greatest"] ["thing","least","greatest"] (aY yW):=by trivial
def yX:MS :=
  (aU (d8 (aJ yU (aj (aa 0) aq)) (nC gLe gLe (aa 1) (aa 0) (aa 2))))
def sG:List D->au->Res D:=bF 3 yX
abbrev JP(Pr:Program)(w:World)(K:Frag)(mg:Str->Option Value)(base:Heap):Prop:=Can Pr w K mg base "is_within" ["thing","least","greatest"] 2 (vSp K mg [.s,.s,.s] (rV K) sG)
theorem Yh(yZ:Def K mg "is_within" yW)
  (B:bR mg)
  (NK:bH K=true)
  (z7:JN Pr w K mg base):
  JP Pr w K mg base:=by
 refine cB (k:=1) (b:=yX) yZ Yg (λ_ _ _ _ _ _=>aQ λ_=>aQ λ_=>aQ λ_=>bV rfl) [.s,.s,.s] [] cj (λ_ _ _ _=>Rp.non) (body:=λf cdv A outer s H E hr P=>?_);refine aN ?_;refine bJ ?_;refine iB ?_ ?_;refine bL z7 (hr.mono (by decide)) ?_;refine aB (az 0) aG;refine jM ?_;refine bh ?_;refine UG pF pF (az 1) (az 0) (az 2)
abbrev z8:Stmt:=top 17
theorem JQ:bK ["move","prices","beyond"] ["move","prices"] (aY z8):=by trivial
def uZ:MS :=
  (aA (aH 2 (cG (mG (aa 1)) (ak gIx (aa 0) (mC (.int 2)))))
  (aU (mIf (aK (jL (aa 2))) (mC .non) (ak bf (ak gIx (aa 0) (mC (.int 0))) (aa 2)))))
def lr:List D->au->Res D:=bF 3 uZ
abbrev z9(Pr:Program)(w:World)(K:Frag)(mg:Str->Option Value)(base:Heap):Prop:=Can Pr w K mg base "cost_over" ["move","prices"] 1 (vSp K mg [.s,.s] (rV K) lr)
theorem Yi(Aa:Def K mg "cost_over" z8)
  (B:bR mg)
  (NK:bH K=true):
  z9 Pr w K mg base:=by
 refine cB (k:=0) (b:=uZ) Aa JQ (λ_ _ _ _ _ _=>aQ λ_=>aQ λ_=>bV rfl) [.s,.s] [.v] cj (λ_ _ _ _=>Rp.non) (body:=λf cdv A outer s H E hr P=>?_);refine aL ?_ ?_;refine bu (i:=2) JQ.nd rfl (.inl rfl) ?_;refine ik NK hr (cI (az 1)) ?_;refine bG (az 0) (ao aF);refine aN ?_;refine bJ ?_;refine uq ?_ xn ?_;refine xu (ao (aC 2));refine bh ?_;refine aW cP ?_ (ao (aC 2));refine ao ?_;refine bG (az 0) (ao aF)
abbrev sH:Stmt:=top 18
theorem JR:bK ["moves","prices","costs"] ["moves","prices"] (aY sH):=by trivial
def u0:MS :=
  (aA (aH 2 (dI (cF (aa 0)) 1 [1] (mgN 0) dJ (aJ lr (aj (aa 0) (aj (aa 1) aq)))))
  (aU (aX uF (aj (dI (cF (aa 2)) 1 [] (mgN 0) (aK (iY (aa 0))) (aa 0)) aq))))
def oH:List D->au->Res D:=bF 3 u0
abbrev Ab(Pr:Program)(w:World)(K:Frag)(mg:Str->Option Value)(base:Heap):Prop:=Can Pr w K mg base "least_cost" ["moves","prices"] 2 (vSp K mg [.s,.s] (rV K) oH)
theorem Yj(Ac:Def K mg "least_cost" sH)
  (B:bR mg)
  (NK:bH K=true)
  (pZ:z9 Pr w K mg base):
  Ab Pr w K mg base:=by
 refine cB (k:=1) (b:=u0) Ac JR (λ_ _ _ _ _ _=>aQ λ_=>aQ λ_=>bV rfl) [.s,.s] [.v] cj (λ_ _ _ _=>Rp.non) (body:=λf cdv A outer s H E hr P=>?_);refine aL ?_ ?_;refine xC (i:=2) (aY sH) ["moves","prices","costs"] ["move"] [1] JR.nd rfl (.inl rfl) rfl (lZ (az 0)) (λ_ _ _ _ P=>?_) (λ_ _ _ _ P=>?_) (λ_ _ _ _ P=>?_);exact cY (i:=0) (show(bW ["moves","prices","costs"] ["move"] [1]).Nodup by decide +kernel) rfl (.inl rfl);exact lQ;refine bL pZ (hr.mono (by decide)) ?_;refine aB (ao (aC 0)) ?_;refine aB (az 1) aG;refine aN ?_;refine bJ ?_;refine bh ?_
 refine Ws rfl B.min_ ?_;refine aM ?_;refine nJ (aY sH) ["moves","prices","costs"] ["cost"] [] rfl ?_ (λ_ _ _ _ P=>?_) (λ_ _ _ _ P=>?_) (λ_ _ _ _ P=>?_);refine lZ (ao (aC 2));exact cY (i:=0) (show(bW ["moves","prices","costs"] ["cost"] []).Nodup by decide +kernel) rfl (.inl rfl);refine Hi ?_;refine G8 (ao (aC 0));exact aC 0
abbrev Ad:Stmt:=inClass (top 24) 3
theorem Yk:bK ["self","at"] ["self","at"] (aY Ad):=by trivial
def JS:MS :=
  (aU (cg (aj (bT (aj (mG (aa 1)) (aj (mC (.int 0)) aq))) aq)))
def p6:List D->au->Res D:=bF 2 JS
abbrev JT(Pr:Program)(w:World)(K:Frag)(mg:Str->Option Value)(base:Heap):Prop:=iG Pr w K mg base "Even" "nodes_at" ["self","at"] 1 (vSp K mg [.v,.s] (rO K) p6)
theorem Yl(Ae:lY K mg "Even" "nodes_at" "Even.nodes_at" Ad)
  (B:bR mg)
  (NK:bH K=true):
  JT Pr w K mg base:=by
 refine pI (k:=0) (b:=JS) Ae Yk (λ_ _ _ _ _ _=>aQ λ_=>aQ λ_=>bV rfl) [.v,.s] [] fG (λ_ _ _ _=>.inl ⟨rfl,Rp.non⟩) (body:=λf cdv A outer s H E hr P=>?_);refine aN ?_;refine iZ ?_;refine dM 1 ?_;refine aV ?_ aG;refine dC 2 ?_;refine aV (cI (az 1)) ?_;refine aV aF aG
abbrev Af:Stmt:=inClass (top 24) 5
theorem Ym:bK ["self","node"] ["self","node"] (aY Af):=by trivial
def u6:MS :=
  (aU (ak gEq (aa 1) (bT (aj (aX bz (aj (f9 ["Even"] "letters" (aa 0)) aq)) (aj (mC (.int 0)) aq)))))
def iM:List D->au->Res D:=bF 2 u6
abbrev u9(Pr:Program)(w:World)(K:Frag)(mg:Str->Option Value)(base:Heap):Prop:=iG Pr w K mg base "Even" "is_end" ["self","node"] 1 (vSp K mg [.v,.s] (rV K) iM)
theorem Yn(Ag:lY K mg "Even" "is_end" "Even.is_end" Af)
  (B:bR mg)
  (NK:bH K=true)
  (gh:KC K mg "Even" "letters"):
  u9 Pr w K mg base:=by
 refine pI (k:=0) (b:=u6) Ag Ym (λ_ _ _ _ _ _=>aQ λ_=>aQ λ_=>bV rfl) [.v,.s] [] cj (λ_ _ _ _=>Rp.non) (body:=λf cdv A outer s H E hr P=>?_);refine aN ?_;refine bJ ?_;refine bh ?_;refine gw (dw hr) (az 1) ?_ (bC _);refine ao ?_;refine dC 2 ?_;refine aV ?_ ?_;refine bh ?_;refine cZ (ms:=[.s]) (hv:=dF) dD B.len_ ?_;refine aB ?_ aG;refine ao (pH (mq gh mj) (aC 0));refine aV aF aG
abbrev Ah:Stmt:=inClass (top 24) 6
theorem Yo:bK ["self","end","cells"] ["self","end","cells"] (aY Ah):=by trivial
def vd:MS :=
  (aU (mIf (aK (ak gEq (aa 1) (aX bz (aj (f9 ["Even"] "letters" (aa 0)) aq)))) (mC (.int 0)) (ak eX (ak eV (f9 ["Even"] "wide" (aa 0)) (aa 2)) (mC (.int 2)))))
def vf:List D->au->Res D:=bF 3 vd
abbrev JV(Pr:Program)(w:World)(K:Frag)(mg:Str->Option Value)(base:Heap):Prop:=iG Pr w K mg base "Even" "cost_to" ["self","end","cells"] 1 (vSp K mg [.v,.s,.s] (rV K) vf)
theorem Yp(Ai:lY K mg "Even" "cost_to" "Even.cost_to" Ah)
  (B:bR mg)
  (NK:bH K=true)
  (gh:KC K mg "Even" "letters")
  (lu:KC K mg "Even" "wide"):
  JV Pr w K mg base:=by
 refine pI (k:=0) (b:=vd) Ai Yo (λ_ _ _ _ _ _=>aQ λ_=>aQ λ_=>aQ λ_=>bV rfl) [.v,.s,.s] [] cj (λ_ _ _ _=>Rp.non) (body:=λf cdv A outer s H E hr P=>?_);refine aN ?_;refine bJ ?_;refine uq ?_ aF ?_;refine bQ (dw hr) (az 1) ?_ (bC _);refine aM ?_;refine cZ (ms:=[.s]) (hv:=dF) dD B.len_ ?_;refine aB ?_ aG;refine ao (pH (mq gh mj) (aC 0));refine bh ?_;refine aW nM ?_ (ao aF);refine aM ?_;refine aW kI ?_ (az 2);refine ao (pH (mq lu mj) (aC 0))
abbrev vg:Stmt:=inClass (top 24) 4
theorem JW:bK ["self","node","ends"] ["self","node"] (aY vg):=by trivial
def vh:MS :=
  (aA (aZ (bI (cR "Even" "is_end" iM (aa 0) (aj (aa 1) aq))) (aU (cg aq)) bj)
  (aA (aH 2 (aJ sE (aj (f9 ["Even"] "letters" (aa 0)) (aj (ak gIx (aa 1) (mC (.int 0))) (aj (f9 ["Even"] "wide" (aa 0)) aq)))))
  (aU (dI (uE (aa 2)) 2 [0] (jO 2 (fJ (mgN 0) (fJ (mgN 1) kE))) dJ (bT (aj (cR "Even" "cost_to" vf (aa 2) (aj (aa 0) (aj (aa 1) aq))) (aj (aX pL (aj (aa 0) aq)) (aj (bT (aj (aa 0) (aj (mC (.int 0)) aq))) aq))))))))
def jX:List D->au->Res D:=bF 3 vh
abbrev Aj(Pr:Program)(w:World)(K:Frag)(mg:Str->Option Value)(base:Heap):Prop:=iG Pr w K mg base "Even" "moves_from" ["self","node"] 4 (vSp K mg [.v,.s] (rO K) jX)
theorem Yq(Ak:lY K mg "Even" "moves_from" "Even.moves_from" vg)
  (B:bR mg)
  (NK:bH K=true)
  (gh:KC K mg "Even" "letters")
  (lu:KC K mg "Even" "wide")
  (lz:u9 Pr w K mg base)
  (p7:yN Pr w K mg base)
  (Al:JV Pr w K mg base):
  Aj Pr w K mg base:=by
 refine pI (k:=3) (b:=vh) Ak JW (λ_ _ _ _ _ _=>aQ λ_=>aQ λ_=>bV rfl) [.v,.s] [.v] fG (λ_ _ _ _=>.inl ⟨rfl,Rp.non⟩) (body:=λf cdv A outer s H E hr P=>?_);refine aL ?_ ?_;refine bY ?_ ?_ bZ;refine d7 ?_;refine ao ?_;refine uB lz (hr.mono (by decide)) (aC 0) ?_;refine aB (az 1) aG;refine aN ?_;refine iZ (dM 0 aG);refine aL ?_ ?_;refine bu (i:=2) JW.nd rfl (.inl rfl) ?_;refine bh ?_;refine g8 p7 (hr.mono (by decide)) ?_;refine aB ?_ ?_;refine ao (pH (mq gh mj) (aC 0));refine aB ?_ ?_;refine ao ?_;refine bG (az 1) (ao aF);refine aB ?_ aG
 refine ao (pH (mq lu mj) (aC 0));refine aN ?_;refine iZ ?_;refine nJ (aY vg) ["self","node","ends"] ["end","cells"] [0] rfl ?_ (λ_ _ _ _ P=>?_) (λ_ _ _ _ P=>?_) (λ_ _ _ _ P=>?_);refine ur ?_;refine Wi B.reversed_ (rE (aC 2));refine xB 2 rfl ?_;refine pB (cY (i:=0) (show(bW ["self","node","ends"] ["end","cells"] [0]).Nodup by decide +kernel) rfl (.inl rfl)) ?_;refine pB (cY (i:=1) (show(bW ["self","node","ends"] ["end","cells"] [0]).Nodup by decide +kernel) rfl (.inl rfl)) xA;exact lQ;refine dC 3 ?_;refine aV ?_ ?_;refine uB Al (hr.mono (by decide)) (aC 2) ?_
 refine aB (ao (aC 0)) ?_;refine aB (ao (aC 1)) aG;refine aV ?_ ?_;refine bh ?_;refine nQ (ms:=[.s]) (hv:=uy) Wj B.str_ ?_;refine aB (ao (aC 0)) aG;refine aV ?_ aG;refine dC 2 ?_;refine aV (aC 0) ?_;refine aV aF aG
abbrev Am:Stmt:=top 19
theorem mH:bK ["trail","at","prices","moves","node","changed","cost"] ["trail","at","prices"] (aY Am):=by trivial
def vm:MS :=
  (aA (aH 3 rK)
  (aA (cu (cF (cR "Even" "nodes_at" p6 (mG (aa 0)) (aj (aa 1) aq))) (mgN 4) (aA (ig (aa 3) (aa 4) (cR "Even" "moves_from" jX (mG (aa 0)) (aj (aa 4) aq)))
  (ig (mG (aa 2)) (aa 4) (mIf (bI (cR "Even" "is_end" iM (mG (aa 0)) (aj (aa 4) aq))) (mC (.int 0)) (mC .non)))))
  (aA (aH 5 (mC (.bl true)))
  (gW 10 (bI (aa 5)) (aA (aH 5 (mC (.bl false)))
  (pN 3 (cu (pM (aa 3)) (mgN 4) (aA (aH 6 (aJ oH (aj (cG (aa 3) (aa 4)) (aj (aa 2) aq))))
  (aZ (dN (aK (iY (aa 6))) (dO (aK (jL (cG (mG (aa 2)) (aa 4)))) (aK (ak gLt (aa 6) (cG (mG (aa 2)) (aa 4)))))) (aA (ig (mG (aa 2)) (aa 4) (aa 6))
  (aH 5 (mC (.bl true)))) bj)))))))))
def sJ:List D->au->Res D:=bF 7 vm
abbrev JX(Pr:Program)(w:World)(K:Frag)(mg:Str->Option Value)(base:Heap):Prop:=Can Pr w K mg base "price_nodes" ["trail","at","prices"] 5 (vSp K mg [.s,.s,.s] (rV K) sJ)
theorem Yr(An:Def K mg "price_nodes" Am)
  (B:bR mg)
  (NK:bH K=true)
  (Ao:JT Pr w K mg base)
  (p8:Aj Pr w K mg base)
  (lz:u9 Pr w K mg base)
  (qd:Ab Pr w K mg base):
  JX Pr w K mg base:=by
 refine cB (k:=4) (b:=vm) An mH (λ_ _ _ _ _ _=>aQ λ_=>aQ λ_=>aQ λ_=>bV rfl) [.s,.s,.s] [.v,.v,.v,.v] cj (λ_ _ _ _=>Rp.non) (body:=λf cdv A outer s H E hr P=>?_);refine aL (bu (i:=3) mH.nd rfl (.inl rfl) Ij) ?_;refine aL ?_ ?_;refine fM rfl ?_ (cY (i:=4) mH.nd rfl (.inl rfl)) ?_;refine pJ ?_;refine rE ?_;refine bh ?_;refine xQ Ao (hr.mono (by decide)) (cI (az 0)) ?_;refine aB (az 1) aG;refine aL ?_ ?_;refine xT NK hr (aC 3) (aC 4) ?_;refine bh ?_;refine xQ p8 (hr.mono (by decide)) (cI (az 0)) ?_;refine aB (ao (aC 4)) aG;refine aN ?_;refine xT NK hr (cI (az 2)) (aC 4) ?_
 refine uq ?_ aF xn;refine d7 ?_;refine ao ?_;refine uB lz (hr.mono (by decide)) (cI (az 0)) ?_;refine aB (ao (aC 4)) aG;refine aL (bu (i:=5) mH.nd rfl (.inl rfl) fH) ?_;refine aN ?_;refine pC 10 ?_ ?_;refine d7 (ao (aC 5));refine aL (bu (i:=5) mH.nd rfl (.inl rfl) fH) ?_;refine aN ?_;refine WT 3 ?_;refine fM rfl (WR (aC 3)) (cY (i:=4) mH.nd rfl (.inl rfl)) ?_;refine aL ?_ ?_;refine bu (i:=6) mH.nd rfl (.inl rfl) ?_;refine bL qd (hr.mono (by decide)) ?_;refine aB ?_ ?_;refine ao ?_;refine ik NK hr (aC 3) (aC 4);refine aB (az 2) aG;refine aN ?_;refine bY ?_ ?_ bZ
 refine fO ?_;refine km ?_ ?_;refine G8 (ao (aC 6));refine kj ?_;refine fO ?_;refine lN ?_ ?_;refine xu ?_;refine ao ?_;refine ik NK hr (cI (az 2)) (aC 4);refine nD ?_;refine bQ nO (ao (aC 6)) ?_ (bC _);refine ao ?_;refine ik NK hr (cI (az 2)) (aC 4);refine aL ?_ ?_;refine xT NK hr (cI (az 2)) (aC 4) (aC 6);refine aN (bu (i:=5) mH.nd rfl (.inl rfl) fH)
abbrev Aq:Stmt:=inClass (top 24) 2
theorem Ys:bK ["self"] ["self"] (aY Aq):=by trivial
def vo:MS :=
  (aU (aX bz (aj (f9 ["Even"] "letters" (aa 0)) aq)))
def sO:List D->au->Res D:=bF 1 vo
abbrev JZ(Pr:Program)(w:World)(K:Frag)(mg:Str->Option Value)(base:Heap):Prop:=iG Pr w K mg base "Even" "last_at" ["self"] 1 (vSp K mg [.v] (rV K) sO)
theorem Yt(Ar:lY K mg "Even" "last_at" "Even.last_at" Aq)
  (B:bR mg)
  (NK:bH K=true)
  (gh:KC K mg "Even" "letters"):
  JZ Pr w K mg base:=by
 refine pI (k:=0) (b:=vo) Ar Ys (λ_ _ _ _ _ _=>aQ λ_=>bV rfl) [.v] [] cj (λ_ _ _ _=>Rp.non) (body:=λf cdv A outer s H E hr P=>?_);refine aN ?_;refine bJ ?_;refine bh ?_;refine cZ (ms:=[.s]) (hv:=dF) dD B.len_ ?_;refine aB ?_ aG;refine ao (pH (mq gh mj) (aC 0))
abbrev Av:Stmt:=top 20
theorem Aw:bK ["trail","prices","at"] ["trail"] (aY Av):=by trivial
def vp:MS :=
  (aA (aH 1 rK)
  (aA (cu (uG (aj (cR "Even" "last_at" sO (mG (aa 0)) aq) (aj (mUn pD (mC (.int 1))) (aj (mUn pD (mC (.int 1))) aq)))) (mgN 2) (qX (aJ sJ (aj (aa 0) (aj (aa 2) (aj (aa 1) aq))))))
  (aU (aa 1))))
def qe:List D->au->Res D:=bF 3 vp
abbrev Ay(Pr:Program)(w:World)(K:Frag)(mg:Str->Option Value)(base:Heap):Prop:=Can Pr w K mg base "priced" ["trail"] 6 (vSp K mg [.s] (rV K) qe)
theorem Yu(Az:Def K mg "priced" Av)
  (B:bR mg)
  (NK:bH K=true)
  (Ba:JZ Pr w K mg base)
  (Bb:JX Pr w K mg base):
  Ay Pr w K mg base:=by
 refine cB (k:=5) (b:=vp) Az Aw (λ_ _ _ _ _ _=>aQ λ_=>bV rfl) [.s] [.v,.v] cj (λ_ _ _ _=>Rp.non) (body:=λf cdv A outer s H E hr P=>?_);refine aL (bu (i:=1) Aw.nd rfl (.inl rfl) Ij) ?_;refine aL ?_ ?_;refine fM rfl ?_ (cY (i:=2) Aw.nd rfl (.inl rfl)) ?_;refine Wx B.range_ ?_;refine aB ?_ ?_;refine ao ?_;refine Ib Ba (hr.mono (by decide)) (cI (az 0));refine aB ?_ ?_;refine aM ?_;refine xF (ao aF);refine aB ?_ aG;refine aM ?_;refine xF (ao aF);refine aN ?_;refine U3 ?_;refine ao ?_;refine bL Bb (hr.mono (by decide)) ?_;refine aB (az 0) ?_;refine aB (ao (aC 2)) ?_
 refine aB (ao (aC 1)) aG;refine aN (bJ (aC 1))
abbrev vq:Stmt:=top 21
theorem J0:bK ["moves","prices","least"] ["moves","prices"] (aY vq):=by trivial
def vz:MS :=
  (aA (aH 2 (aJ oH (aj (aa 0) (aj (aa 1) aq))))
  (aU (ak gIx (dI (cF (aa 0)) 1 [1,2] (mgN 0) (aK (ak gEq (aJ lr (aj (aa 0) (aj (aa 1) aq))) (aa 2))) (aa 0)) (mC (.int 0)))))
def sS:List D->au->Res D:=bF 3 vz
abbrev J1(Pr:Program)(w:World)(K:Frag)(mg:Str->Option Value)(base:Heap):Prop:=Can Pr w K mg base "first_cheapest" ["moves","prices"] 3 (vSp K mg [.s,.s] (rV K) sS)
theorem Yv(Bc:Def K mg "first_cheapest" vq)
  (B:bR mg)
  (NK:bH K=true)
  (qd:Ab Pr w K mg base)
  (pZ:z9 Pr w K mg base):
  J1 Pr w K mg base:=by
 refine cB (k:=2) (b:=vz) Bc J0 (λ_ _ _ _ _ _=>aQ λ_=>aQ λ_=>bV rfl) [.s,.s] [.v] cj (λ_ _ _ _=>Rp.non) (body:=λf cdv A outer s H E hr P=>?_);refine aL ?_ ?_;refine bu (i:=2) J0.nd rfl (.inr rfl) ?_;refine bL qd (hr.mono (by decide)) ?_;refine aB (az 0) ?_;refine aB (az 1) aG;refine aN ?_;refine bJ ?_;refine bG ?_ (ao aF);refine aM ?_;refine nJ (aY vq) ["moves","prices","least"] ["move"] [1,2] rfl (lZ (az 0)) (λ_ _ _ _ P=>?_) (λ_ _ _ _ P=>?_) (λ_ _ _ _ P=>?_);exact cY (i:=0) (show(bW ["moves","prices","least"] ["move"] [1,2]).Nodup by decide +kernel) rfl (.inl rfl)
 refine Hi ?_;refine bQ (dw hr) ?_ (ao (aC 2)) (bC _);refine ao ?_;refine bL pZ (hr.mono (by decide)) ?_;refine aB (ao (aC 0)) ?_;refine aB (az 1) aG;exact aC 0
abbrev Bd:Stmt:=inClass (top 24) 1
theorem Yw:bK ["self"] ["self"] (aY Bd):=by trivial
def J2:MS :=
  (aU (bT (aj (mC (.int 0)) (aj (mC (.int 0)) aq))))
def sU:List D->au->Res D:=bF 1 J2
abbrev J3(Pr:Program)(w:World)(K:Frag)(mg:Str->Option Value)(base:Heap):Prop:=iG Pr w K mg base "Even" "first_node" ["self"] 1 (vSp K mg [.v] (rV K) sU)
theorem Yx(Be:lY K mg "Even" "first_node" "Even.first_node" Bd)
  (B:bR mg)
  (NK:bH K=true):
  J3 Pr w K mg base:=by
 refine pI (k:=0) (b:=J2) Be Yw (λ_ _ _ _ _ _=>aQ λ_=>bV rfl) [.v] [] cj (λ_ _ _ _=>Rp.non) (body:=λf cdv A outer s H E hr P=>?_);refine aN ?_;refine bJ ?_;refine dC 2 ?_;refine aV aF ?_;refine aV aF aG
abbrev Bf:Stmt:=top 22
theorem oJ:bK ["trail","prices","node","cost","names","move"] ["trail"] (aY Bf):=by trivial
def vA:MS :=
  (aA (aH 1 (aJ qe (aj (aa 0) aq)))
  (aA (aH 2 (cR "Even" "first_node" sU (mG (aa 0)) aq))
  (aA (aH 3 (cG (aa 1) (aa 2)))
  (aA (aZ (aK (jL (aa 3))) (aU (mC .non)) bj)
  (aA (aH 4 (cg aq))
  (aA (gW 250 (cO (bI (cR "Even" "is_end" iM (mG (aa 0)) (aj (aa 2) aq)))) (aA (aH 5 (aJ sS (aj (cR "Even" "moves_from" jX (mG (aa 0)) (aj (aa 2) aq)) (aj (aa 1) aq))))
  (aA (dU 4 (ak gIx (aa 5) (mC (.int 1))))
  (aH 2 (ak gIx (aa 5) (mC (.int 2)))))))
  (rH (aU (bT (aj (aa 3) (aj (aa 4) aq)))))))))))
def sV:List D->au->Res D:=bF 6 vA
abbrev J4(Pr:Program)(w:World)(K:Frag)(mg:Str->Option Value)(base:Heap):Prop:=Can Pr w K mg base "way_of" ["trail"] 7 (vSp K mg [.s] (rV K) sV)
theorem Yy(Bg:Def K mg "way_of" Bf)
  (B:bR mg)
  (NK:bH K=true)
  (qg:Ay Pr w K mg base)
  (Bh:J3 Pr w K mg base)
  (lz:u9 Pr w K mg base)
  (Bj:J1 Pr w K mg base)
  (p8:Aj Pr w K mg base):
  J4 Pr w K mg base:=by
 refine cB (k:=6) (b:=vA) Bg oJ (λ_ _ _ _ _ _=>aQ λ_=>bV rfl) [.s] [.v,.v,.v,.o,.v] cj (λ_ _ _ _=>Rp.non) (body:=λf cdv A outer s H E hr P=>?_);refine aL ?_ ?_;refine bu (i:=1) oJ.nd rfl (.inl rfl) ?_;refine bL qg (hr.mono (by decide)) ?_;refine aB (az 0) aG;refine aL ?_ ?_;refine bu (i:=2) oJ.nd rfl (.inl rfl) ?_;refine Ib Bh (hr.mono (by decide)) (cI (az 0));refine aL ?_ ?_;refine bu (i:=3) oJ.nd rfl (.inl rfl) ?_;refine ik NK hr (aC 1) (aC 2);refine aL ?_ ?_;refine bY ?_ ?_ bZ;refine xu (ao (aC 3));refine aN (bJ xn);refine aL ?_ ?_;refine jr (i:=4) oJ.nd rfl (.inl rfl) (dM 0 aG)
 refine aL ?_ ?_;refine pC 250 ?_ ?_;refine gU ?_;refine d7 ?_;refine ao ?_;refine uB lz (hr.mono (by decide)) (cI (az 0)) ?_;refine aB (ao (aC 2)) aG;refine aL ?_ ?_;refine bu (i:=5) oJ.nd rfl (.inl rfl) ?_;refine bL Bj (hr.mono (by decide)) ?_;refine aB ?_ ?_;refine aM ?_;refine xQ p8 (hr.mono (by decide)) (cI (az 0)) ?_;refine aB (ao (aC 2)) aG;refine aB (ao (aC 1)) aG;refine aL ?_ ?_;refine kJ 4 ?_;refine bG (ao (aC 5)) (ao aF);refine aN ?_;refine bu (i:=2) oJ.nd rfl (.inl rfl) ?_;refine bG (ao (aC 5)) (ao aF);refine aN ?_;refine VR 4 rfl ?_
 refine bJ ?_;refine dC 2 ?_;refine aV (aC 3) ?_;refine aV (aC 4) aG
abbrev Bk:Stmt:=inClass (top 24) 0
theorem Yz:bK ["self","letters","wide"] ["self","letters","wide"] (aY Bk):=by trivial
def vB:MS :=
  (aA (kO ["Even"] "letters" (aa 0) (aX lV (aj (aa 1) aq)))
  (kO ["Even"] "wide" (aa 0) (mG (aa 2))))
def mJ:List D->au->Res D:=bF 3 vB
abbrev Bl(Pr:Program)(w:World)(K:Frag)(mg:Str->Option Value)(base:Heap):Prop:=xO Pr w K mg base "Even" ["self","letters","wide"] 1 (vSp K mg [.v,.s,.s] (rV K) mJ)
theorem YB(Bm:xP K mg "Even" "Even.__init__" Bk)
  (B:bR mg)
  (NK:bH K=true)
  (gh:KC K mg "Even" "letters")
  (lu:KC K mg "Even" "wide"):
  Bl Pr w K mg base:=by
 refine Vx (k:=0) (b:=vB) Bm Yz (λ_ _ _ _ _ _=>aQ λ_=>aQ λ_=>aQ λ_=>bV rfl) [.v,.s,.s] [] cj (λ_ _ _ _=>Rp.non) (body:=λf cdv A outer s H E hr P=>?_);refine aL ?_ ?_;refine HS (mq gh mj) (aC 0) ?_;refine bh ?_;refine nQ (ms:=[.s]) (hv:=rz) Hy B.list_ ?_;refine aB (az 1) aG;refine aN ?_;refine HS (mq lu mj) (aC 0) (cI (az 2))
abbrev vC:Stmt:=top 25
theorem Bo:bK ["letters","wide","way","ends"] ["letters","wide"] (aY vC):=by trivial
def vD:MS :=
  (aA (aH 2 (aJ sV (aj (jV "Even" mJ (aj (aa 0) (aj (aa 1) aq))) aq)))
  (aA (aH 3 (dI (cF (ak gIx (aa 2) (mC (.int 1)))) 1 [] (mgN 0) dJ (aX pR (aj (aa 0) aq))))
  (aA (aZ (aK (ak gEq (aX bz (aj (aa 3) aq)) (mC (.int 0)))) (aU (cg (aj (bT (aj (mC (.int 0)) (aj (mC (.int 0)) aq))) aq))) bj)
  (aU (aX gLZ (aj (ak bf (cg (aj (mC (.int 0)) aq)) (aa 3)) (aj (aa 3) aq)))))))
def jY:List D->au->Res D:=bF 4 vD
abbrev Bp(Pr:Program)(w:World)(K:Frag)(mg:Str->Option Value)(base:Heap):Prop:=Can Pr w K mg base "even" ["letters","wide"] 8 (vSp K mg [.s,.s] (rO K) jY)
theorem YC(Bq:Def K mg "even" vC)
  (B:bR mg)
  (NK:bH K=true)
  (Br:J4 Pr w K mg base)
  (qi:Bl Pr w K mg base):
  Bp Pr w K mg base:=by
 refine cB (k:=7) (b:=vD) Bq Bo (λ_ _ _ _ _ _=>aQ λ_=>aQ λ_=>bV rfl) [.s,.s] [.v,.v] fG (λ_ _ _ _=>.inl ⟨rfl,Rp.non⟩) (body:=λf cdv A outer s H E hr P=>?_);refine aL ?_ ?_;refine bu (i:=2) Bo.nd rfl (.inl rfl) ?_;refine bL Br (hr.mono (by decide)) ?_;refine aB ?_ aG;refine ao ?_;refine H9 qi (hr.mono (by decide)) ?_;refine aB (az 0) ?_;refine aB (az 1) aG;refine aL ?_ ?_;refine xC (i:=3) (aY vC) ["letters","wide","way","ends"] ["name"] [] Bo.nd rfl (.inl rfl) rfl ?_ (λ_ _ _ _ P=>?_) (λ_ _ _ _ P=>?_) (λ_ _ _ _ P=>?_);refine lZ ?_;refine ao ?_
 refine bG (ao (aC 2)) (ao aF);exact cY (i:=0) (show(bW ["letters","wide","way","ends"] ["name"] []).Nodup by decide +kernel) rfl (.inl rfl);exact lQ;refine bh ?_;refine nQ (ms:=[.s]) (hv:=lW) Xe B.int_ ?_;refine aB (ao (aC 0)) aG;refine aL ?_ ?_;refine bY ?_ ?_ bZ;refine bQ (dw hr) ?_ (ao aF) (bC _);refine aM ?_;refine cZ (ms:=[.s]) (hv:=dF) dD B.len_ ?_;refine aB (ao (aC 3)) aG;refine aN ?_;refine iZ ?_;refine dM 1 ?_;refine aV ?_ aG;refine dC 2 ?_;refine aV aF ?_;refine aV aF aG;refine aN ?_;refine iZ ?_;refine We (ms:=[.s,.s]) rfl B.list_ B.zip_ ?_
 refine aB ?_ ?_;refine aM ?_;refine aW cP ?_ (ao (aC 3));refine aM ?_;refine dM 1 ?_;refine aV aF aG;refine aB (ao (aC 3)) aG
abbrev Bs:Stmt:=top 30
theorem YD:bK ["thing"] ["thing"] (aY Bs):=by trivial
def Bt:MS :=
  (aU (d8 (cQ "str" (aa 0)) (ak (gIn false) (aa 0) (mC (.tup [.str [99,117,116],.str [99,101,108,108,115],.str [119,111,114,100,115],.str [101,118,101,110]])))))
def sW:List D->au->Res D:=bF 1 Bt
abbrev J5(Pr:Program)(w:World)(K:Frag)(mg:Str->Option Value)(base:Heap):Prop:=Can Pr w K mg base "is_way" ["thing"] 1 (vSp K mg [.s] (rV K) sW)
theorem YF(Bu:Def K mg "is_way" Bs)
  (B:bR mg)
  (NK:bH K=true)
  (Bv:xR K mg "WAYS" [[99,117,116],[99,101,108,108,115],[119,111,114,100,115],[101,118,101,110]]):
  J5 Pr w K mg base:=by
 refine cB (k:=0) (b:=Bt) Bu YD (λ_ _ _ _ _ _=>aQ λ_=>bV rfl) [.s] [] cj (λ_ _ _ _=>Rp.non) (body:=λf cdv A outer s H E hr P=>?_);refine aN ?_;refine bJ ?_;refine iB ?_ ?_;refine bh (fQ "str" (hb:=uy) B.isinstance_ B.str_ (az 0));refine jM ?_;refine bh ?_;refine gw uv (az 0) (ao (V2 (ls:=[[99,117,116],[99,101,108,108,115],[119,111,114,100,115],[101,118,101,110]]) Bv)) (by with_unfolding_all rfl)
abbrev Bw:Stmt:=top 31
theorem YG:bK ["letters","lo","wide","way"] ["letters","lo","wide","way"] (aY Bw):=by trivial
def J6:MS :=
  (aA (aZ (aK (ak gEq (aa 3) (mC (.str [119,111,114,100,115])))) (aU (ak gIx (ak gIx (aJ sE (aj (aa 0) (aj (aa 1) (aj (aa 2) aq)))) (mUn pD (mC (.int 1)))) (mC (.int 0)))) bj)
  (aU (aJ sy (aj (aa 0) (aj (aa 1) (aj (aa 2) aq))))))
def J7:List D->au->Res D:=bF 4 J6
abbrev J8(Pr:Program)(w:World)(K:Frag)(mg:Str->Option Value)(base:Heap):Prop:=Can Pr w K mg base "next_end" ["letters","lo","wide","way"] 4 (vSp K mg [.s,.s,.s,.s] (rV K) J7)
theorem YH(Bx:Def K mg "next_end" Bw)
  (B:bR mg)
  (NK:bH K=true)
  (p7:yN Pr w K mg base)
  (lq:uY Pr w K mg base):
  J8 Pr w K mg base:=by
 refine cB (k:=3) (b:=J6) Bx YG (λ_ _ _ _ _ _=>aQ λ_=>aQ λ_=>aQ λ_=>aQ λ_=>bV rfl) [.s,.s,.s,.s] [] cj (λ_ _ _ _=>Rp.non) (body:=λf cdv A outer s H E hr P=>?_);refine aL ?_ ?_;refine bY ?_ ?_ bZ;refine bQ (dw hr) (az 3) (ao (dY [119,111,114,100,115])) (bC _);refine aN ?_;refine bJ ?_;refine bG ?_ (ao aF);refine ao ?_;refine bG ?_ ?_;refine aM ?_;refine g8 p7 (hr.mono (by decide)) ?_;refine aB (az 0) ?_;refine aB (az 1) ?_;refine aB (az 2) aG;refine aM ?_;refine xF (ao aF);refine aN ?_;refine bJ ?_;refine bL lq (hr.mono (by decide)) ?_
 refine aB (az 0) ?_;refine aB (az 1) ?_;refine aB (az 2) aG
abbrev By:Stmt:=top 32
theorem sX:bK ["letters","wide","way","stretches","lo","hi"] ["letters","wide","way"] (aY By):=by trivial
def J9:MS :=
  (aA (aH 3 (cg aq))
  (aA (aH 4 (mC (.int 0)))
  (aA (gW wF (aK (ak gLt (aa 4) (aX bz (aj (aa 0) aq)))) (aA (aH 5 (aJ J7 (aj (aa 0) (aj (aa 4) (aj (aa 1) (aj (aa 2) aq))))))
  (aA (dU 3 (bT (aj (aa 4) (aj (aa 5) aq))))
  (aH 4 (aa 5)))))
  (aU (aa 3)))))
def Ka:List D->au->Res D:=bF 6 J9
abbrev Kc(Pr:Program)(w:World)(K:Frag)(mg:Str->Option Value)(base:Heap):Prop:=Can Pr w K mg base "end_to_end" ["letters","wide","way"] 5 (vSp K mg [.s,.s,.s] (rO K) Ka)
theorem YJ(BJ:Def K mg "end_to_end" By)
  (B:bR mg)
  (NK:bH K=true)
  (BK:J8 Pr w K mg base):
  Kc Pr w K mg base:=by
 refine cB (k:=4) (b:=J9) BJ sX (λ_ _ _ _ _ _=>aQ λ_=>aQ λ_=>aQ λ_=>bV rfl) [.s,.s,.s] [.o,.v,.v] fG (λ_ _ _ _=>.inl ⟨rfl,Rp.non⟩) (body:=λf cdv A outer s H E hr P=>?_);refine aL ?_ ?_;refine jr (i:=3) sX.nd rfl (.inl rfl) (dM 0 aG);refine aL (bu (i:=4) sX.nd rfl (.inl rfl) aF) ?_;refine aL ?_ (aN (nG 3));refine pC wF ?_ ?_;refine bQ nO (ao (aC 4)) ?_ (bC _);refine aM ?_;refine cZ (ms:=[.s]) (hv:=dF) dD B.len_ ?_;refine aB (az 0) aG;refine aL ?_ ?_;refine bu (i:=5) sX.nd rfl (.inl rfl) ?_;refine bL BK (hr.mono (by decide)) ?_;refine aB (az 0) ?_
 refine aB (ao (aC 4)) ?_;refine aB (az 1) ?_;refine aB (az 2) aG;refine aL ?_ ?_;refine kJ 3 ?_;refine dC 2 ?_;refine aV (aC 4) ?_;refine aV (aC 5) aG;refine aN (bu (i:=4) sX.nd rfl (.inl rfl) (aC 5))
abbrev BL:Stmt:=top 33
theorem YK:bK ["letters","wide","way"] ["letters","wide","way"] (aY BL):=by trivial
def vG:MS :=
  (aA (aZ (cO (bI (aJ sG (aj (aa 1) (aj (mC (.int 2)) (aj (mC (.int 40)) aq)))))) lO bj)
  (aA (aZ (cO (bI (aJ sW (aj (aa 2) aq)))) lO bj)
  (aA (aZ (aK (ak gEq (aX bz (aj (aa 0) aq)) (mC (.int 0)))) (aU (cg (aj (bT (aj (mC (.int 0)) (aj (mC (.int 0)) aq))) aq))) bj)
  (aA (aZ (aK (ak gEq (aa 2) (mC (.str [99,117,116])))) (aU (cg (aj (bT (aj (mC (.int 0)) (aj (aJ sy (aj (aa 0) (aj (mC (.int 0)) (aj (aa 1) aq)))) aq))) aq))) bj)
  (aA (aZ (aK (ak gEq (aa 2) (mC (.str [101,118,101,110])))) (aU (aJ jY (aj (aa 0) (aj (aa 1) aq)))) bj)
  (aU (aJ Ka (aj (aa 0) (aj (aa 1) (aj (aa 2) aq))))))))))
def qj:List D->au->Res D:=bF 3 vG
abbrev Kd(Pr:Program)(w:World)(K:Frag)(mg:Str->Option Value)(base:Heap):Prop:=Can Pr w K mg base "fold" ["letters","wide","way"] 9 (vSp K mg [.s,.s,.s] (rO K) qj)
theorem YL(BP:Def K mg "fold" BL)
  (B:bR mg)
  (NK:bH K=true)
  (BR:∃u,mg "GREATEST_BREADTH" = some u/\RelV (.int 40) u)
  (BV:∃u,mg "LEAST_BREADTH" = some u/\RelV (.int 2) u)
  (BW:JP Pr w K mg base)
  (BX:J5 Pr w K mg base)
  (lq:uY Pr w K mg base)
  (oK:Bp Pr w K mg base)
  (BZ:Kc Pr w K mg base):
  Kd Pr w K mg base:=by
 refine cB (k:=8) (b:=vG) BP YK (λ_ _ _ _ _ _=>aQ λ_=>aQ λ_=>aQ λ_=>bV rfl) [.s,.s,.s] [] fG (λ_ _ _ _=>.inl ⟨rfl,Rp.non⟩) (body:=λf cdv A outer s H E hr P=>?_);refine aL ?_ ?_;refine bY ?_ (aN Hc) bZ;refine gU ?_;refine d7 ?_;refine ao ?_;refine bL BW (hr.mono (by decide)) ?_;refine aB (az 1) ?_;refine aB ?_ ?_;refine ao ?_;refine G4 BV (λ_ _ _=>Rp.int);refine aB ?_ aG;refine ao ?_;refine G4 BR (λ_ _ _=>Rp.int);refine aL ?_ ?_;refine bY ?_ (aN Hc) bZ;refine gU ?_;refine d7 ?_;refine ao ?_;refine bL BX (hr.mono (by decide)) ?_
 refine aB (az 2) aG;refine aL ?_ ?_;refine bY ?_ ?_ bZ;refine bQ (dw hr) ?_ (ao aF) (bC _);refine aM ?_;refine cZ (ms:=[.s]) (hv:=dF) dD B.len_ ?_;refine aB (az 0) aG;refine aN ?_;refine iZ ?_;refine dM 1 ?_;refine aV ?_ aG;refine dC 2 ?_;refine aV aF ?_;refine aV aF aG;refine aL ?_ ?_;refine bY ?_ ?_ bZ;refine bQ (dw hr) (az 2) (ao (dY [99,117,116])) (bC _);refine aN ?_;refine iZ ?_;refine dM 1 ?_;refine aV ?_ aG;refine dC 2 ?_;refine aV aF ?_;refine aV ?_ aG;refine bL lq (hr.mono (by decide)) ?_;refine aB (az 0) ?_;refine aB (ao aF) ?_;refine aB (az 1) aG
 refine aL ?_ ?_;refine bY ?_ ?_ bZ;refine bQ (dw hr) (az 2) (ao (dY [101,118,101,110])) (bC _);refine aN ?_;refine iZ ?_;refine g8 oK (hr.mono (by decide)) ?_;refine aB (az 0) ?_;refine aB (az 1) aG;refine aN ?_;refine iZ ?_;refine g8 BZ (hr.mono (by decide)) ?_;refine aB (az 0) ?_;refine aB (az 1) ?_;refine aB (az 2) aG
abbrev Ca:Stmt:=top 35
theorem Cd:bK ["_law_script","_law_k","_law_number"] ["_law_script","_law_k"] (aY Ca):=by trivial
def sY:MS :=
  (aA (aZ (aK (ak gLt (aa 1) (aX bz (aj (aa 0) aq)))) (aU (ak gIx (aa 0) (aa 1))) bj)
  (aA (aH 2 (ak bf (ak cW (ak cW (aa 1) (aa 1)) (mC (.int 7919))) (mC (.int 104729))))
  (aA (aZ (aK (ak gGt (aX bz (aj (aa 0) aq)) (mC (.int 0)))) (aH 2 (ak bf (aa 2) (ak cW (ak bU (ak gIx (aa 0) (ak bU (aa 1) (aX bz (aj (aa 0) aq)))) (mC (.int 1000003))) (mC (.int 48271))))) bj)
  (aU (ak bU (ak cW (aa 2) (mC (.int 48271))) (mC (.int 2147483647)))))))
def fZ:List D->au->Res D:=bF 3 sY
abbrev vH(Pr:Program)(w:World)(K:Frag)(mg:Str->Option Value)(base:Heap):Prop:=Can Pr w K mg base "_law_cell" ["_law_script","_law_k"] 1 (vSp K mg [.s,.s] (rV K) fZ)
theorem YM(Ce:Def K mg "_law_cell" Ca)
  (B:bR mg)
  (NK:bH K=true):
  vH Pr w K mg base:=by
 refine cB (k:=0) (b:=sY) Ce Cd (λ_ _ _ _ _ _=>aQ λ_=>aQ λ_=>bV rfl) [.s,.s] [.v] cj (λ_ _ _ _=>Rp.non) (body:=λf cdv A outer s H E hr P=>?_);refine aL ?_ ?_;refine bY ?_ ?_ bZ;refine bQ nO (az 1) ?_ (bC _);refine aM ?_;refine cZ (ms:=[.s]) (hv:=dF) dD B.len_ ?_;refine aB (az 0) aG;refine aN ?_;refine bJ ?_;refine bG (az 0) (az 1);refine aL ?_ ?_;refine bu (i:=2) Cd.nd rfl (.inl rfl) ?_;refine bh ?_;refine aW cP ?_ (ao aF);refine aM ?_;refine aW iC ?_ (ao aF);refine aM ?_;refine aW iC (az 1) (az 1);refine aL ?_ ?_;refine bY ?_ ?_ bZ
 refine bQ jQ ?_ (ao aF) (bC _);refine aM ?_;refine cZ (ms:=[.s]) (hv:=dF) dD B.len_ ?_;refine aB (az 0) aG;refine aN ?_;refine bu (i:=2) Cd.nd rfl (.inl rfl) ?_;refine bh ?_;refine aW cP (ao (aC 2)) ?_;refine aM ?_;refine aW iC ?_ (ao aF);refine aM ?_;refine aW dX ?_ (ao aF);refine ao ?_;refine bG (az 0) ?_;refine aM ?_;refine aW dX (az 1) ?_;refine aM ?_;refine cZ (ms:=[.s]) (hv:=dF) dD B.len_ ?_;refine aB (az 0) aG;refine aN ?_;refine bJ ?_;refine bh ?_;refine aW dX ?_ (ao aF);refine aM ?_;refine aW iC (ao (aC 2)) (ao aF)
abbrev Cg:Stmt:=top 36
theorem oM:bK ["_law_cell_here","_law_k","_law_rest","_law_turn","_law_number"] ["_law_cell_here","_law_k"] (aY Cg):=by trivial
def Ke:MS :=
  (aA (aZ (aK (ak gGt (aa 0) (ak eX (mC (.int 10)) (mC (.int 18))))) (aA (aH 2 (mG (aa 0)))
  (aA (cu (eY (aj (aa 1) aq)) (mgN 3) (aH 2 (ak gD (aa 2) (ak eX (mC (.int 10)) (mC (.int 9))))))
  (aU (ak bU (aa 2) (ak eX (mC (.int 10)) (mC (.int 9))))))) bj)
  (aA (aH 4 (ak bf (ak bU (aa 0) (mC (.int 2147483647))) (mC (.int 7919))))
  (aA (cu (eY (aj (ak bf (aa 1) (mC (.int 2))) aq)) (mgN 3) (aH 4 (ak bU (ak bf (ak cW (aa 4) (mC (.int 48271))) (mC (.int 104729))) (mC (.int 2147483629)))))
  (aU (ak gD (ak bU (ak cW (aa 4) (aa 4)) (mC (.int 998244353))) (mC (.int 11)))))))
def jB:List D->au->Res D:=bF 5 Ke
abbrev vI(Pr:Program)(w:World)(K:Frag)(mg:Str->Option Value)(base:Heap):Prop:=Can Pr w K mg base "_law_mix" ["_law_cell_here","_law_k"] 1 (vSp K mg [.s,.s] (rV K) jB)
theorem YQ(Ci:Def K mg "_law_mix" Cg)
  (B:bR mg)
  (NK:bH K=true):
  vI Pr w K mg base:=by
 refine cB (k:=0) (b:=Ke) Ci oM (λ_ _ _ _ _ _=>aQ λ_=>aQ λ_=>bV rfl) [.s,.s] [.v,.v,.v] cj (λ_ _ _ _=>Rp.non) (body:=λf cdv A outer s H E hr P=>?_);refine aL ?_ ?_;refine bY ?_ ?_ bZ;refine bQ jQ (az 0) ?_ (bC _);refine aM ?_;refine aW nM (ao aF) (ao aF);refine aL ?_ ?_;refine bu (i:=2) oM.nd rfl (.inl rfl) (cI (az 0));refine aL ?_ ?_;refine fM rfl ?_ (cY (i:=3) oM.nd rfl (.inl rfl)) ?_;refine lX B.range_ ?_;refine aB (az 1) aG;refine aN ?_;refine bu (i:=2) oM.nd rfl (.inl rfl) ?_;refine bh ?_;refine aW qZ (ao (aC 2)) ?_;refine aM ?_;refine aW nM (ao aF) (ao aF)
 refine aN ?_;refine bJ ?_;refine bh ?_;refine aW dX (ao (aC 2)) ?_;refine aM ?_;refine aW nM (ao aF) (ao aF);refine aL ?_ ?_;refine bu (i:=4) oM.nd rfl (.inl rfl) ?_;refine bh ?_;refine aW cP ?_ (ao aF);refine aM ?_;refine aW dX (az 0) (ao aF);refine aL ?_ ?_;refine fM rfl ?_ (cY (i:=3) oM.nd rfl (.inl rfl)) ?_;refine lX B.range_ ?_;refine aB ?_ aG;refine aM ?_;refine aW cP (az 1) (ao aF);refine aN ?_;refine bu (i:=4) oM.nd rfl (.inl rfl) ?_;refine bh ?_;refine aW dX ?_ (ao aF);refine aM ?_;refine aW cP ?_ (ao aF);refine aM ?_;refine aW iC (ao (aC 4)) (ao aF)
 refine aN ?_;refine bJ ?_;refine bh ?_;refine aW qZ ?_ (ao aF);refine aM ?_;refine aW dX ?_ (ao aF);refine aM ?_;refine aW iC (ao (aC 4)) (ao (aC 4))
abbrev Cj:Stmt:=top 37
theorem YS:bK ["_law_found"] ["_law_found"] (aY Cj):=by trivial
def Kf:MS :=
  (aU (d8 (cQ "int" (aa 0)) (nF (cQ "bool" (aa 0)))))
def sZ:List D->au->Res D:=bF 1 Kf
abbrev Kg(Pr:Program)(w:World)(K:Frag)(mg:Str->Option Value)(base:Heap):Prop:=Can Pr w K mg base "_law_whole" ["_law_found"] 1 (vSp K mg [.s] (rV K) sZ)
theorem YT(Ck:Def K mg "_law_whole" Cj)
  (B:bR mg)
  (NK:bH K=true):
  Kg Pr w K mg base:=by
 refine cB (k:=0) (b:=Kf) Ck YS (λ_ _ _ _ _ _=>aQ λ_=>bV rfl) [.s] [] cj (λ_ _ _ _=>Rp.non) (body:=λf cdv A outer s H E hr P=>?_);refine aN ?_;refine bJ ?_;refine iB ?_ ?_;refine bh (fQ "int" (hb:=lW) B.isinstance_ B.int_ (az 0));refine jM ?_;refine xx ?_;refine bh (fQ "bool" (hb:=rn) B.isinstance_ B.bool_ (az 0))
abbrev vJ:Stmt:=top 38
theorem Cm:bK ["_law_found","_law_due","_law_k"] ["_law_found","_law_due"] (aY vJ):=by trivial
def oN(self:List D->au->Res D):MS :=
  (aA (aZ (bI (cQ "bool" (aa 1))) (aU (d8 (cQ "bool" (aa 0)) (ak gEq (aa 0) (aa 1)))) bj)
  (aA (aZ (bI (cQ "int" (aa 1))) (aU (d8 (cQ "int" (aa 0)) (d8 (nF (cQ "bool" (aa 0))) (ak gEq (aa 0) (aa 1))))) bj)
  (aA (aZ (bI (cQ "str" (aa 1))) (aU (d8 (cQ "str" (aa 0)) (ak gEq (aa 0) (aa 1)))) bj)
  (aA (aZ (bI (cQ "tuple" (aa 1))) (aZ (cO (bI (cQ "tuple" (aa 0)))) (aU (mC (.bl false))) bj) (aZ (cO (bI (cQ "list" (aa 0)))) (aU (mC (.bl false))) bj))
  (aA (aZ (aK (ak gNe (aX bz (aj (aa 0) aq)) (aX bz (aj (aa 1) aq)))) (aU (mC (.bl false))) bj)
  (aA (cu (eY (aj (aX bz (aj (aa 1) aq)) aq)) (mgN 2) (aZ (cO (bI (aJ self (aj (ak gIx (aa 0) (aa 2)) (aj (ak gIx (aa 1) (aa 2)) aq))))) (aU (mC (.bl false))) bj))
  (aU (mC (.bl true)))))))))
def gj:Nat->List D->au->Res D
 | 0=>bF 3 lO
 |n+1=>bF 3 (oN (gj n))
def gO:List D->au->Res D:=gj 4
abbrev Kh(Pr:Program)(w:World)(K:Frag)(mg:Str->Option Value)(base:Heap):Prop:=Can Pr w K mg base "_law_alike" ["_law_found","_law_due"] 5 (vSp K mg [.s,.s] (rV K) gO)
theorem Kl(oO:Def K mg "_law_alike" vJ)
  (B:bR mg)
  (NK:bH K=true):
  ∀n:Nat,Can Pr w K mg base "_law_alike" ["_law_found","_law_due"] (0+n+1) (vSp K mg [.s,.s] (rV K) (gj n))
 | 0=>cB (k:=0) (b:=lO) oO Cm (λ_ _ _ _ _ _=>aQ λ_=>aQ λ_=>bV rfl) [.s,.s] [.v] cj (λ_ _ _ _=>Rp.non) (body:=λf cdv A outer s H E hr P=>V0)
 |n+1=>by
  have jZ:=Kl oO B NK n;refine cB (k:=0+n+1) (b:=oN (gj n)) oO Cm (λ_ _ _ _ _ _=>aQ λ_=>aQ λ_=>bV rfl) [.s,.s] [.v] cj (λ_ _ _ _=>Rp.non) (body:=λf cdv A outer s H E hr P=>?_);refine aL ?_ ?_;refine bY ?_ ?_ bZ;refine d7 ?_;refine aM (fQ "bool" (hb:=rn) B.isinstance_ B.bool_ (az 1));refine aN ?_;refine bJ ?_;refine iB ?_ ?_;refine bh (fQ "bool" (hb:=rn) B.isinstance_ B.bool_ (az 0));refine jM ?_;refine bh ?_;refine gw (dw hr) (az 0) (az 1) (bC _);refine aL ?_ ?_;refine bY ?_ ?_ bZ;refine d7 ?_;refine aM (fQ "int" (hb:=lW) B.isinstance_ B.int_ (az 1))
  refine aN ?_;refine bJ ?_;refine iB ?_ ?_;refine bh (fQ "int" (hb:=lW) B.isinstance_ B.int_ (az 0));refine iB ?_ ?_;refine xx ?_;refine bh (fQ "bool" (hb:=rn) B.isinstance_ B.bool_ (az 0));refine jM ?_;refine bh ?_;refine gw (dw hr) (az 0) (az 1) (bC _);refine aL ?_ ?_;refine bY ?_ ?_ bZ;refine d7 ?_;refine aM (fQ "str" (hb:=uy) B.isinstance_ B.str_ (az 1));refine aN ?_;refine bJ ?_;refine iB ?_ ?_;refine bh (fQ "str" (hb:=uy) B.isinstance_ B.str_ (az 0));refine jM ?_;refine bh ?_;refine gw (dw hr) (az 0) (az 1) (bC _);refine aL ?_ ?_;refine bY ?_ ?_ ?_
  refine d7 ?_;refine aM (fQ "tuple" (hb:=HD) B.isinstance_ B.tuple_ (az 1));refine aN ?_;refine bY ?_ ?_ bZ;refine gU ?_;refine d7 ?_;refine aM (fQ "tuple" (hb:=HD) B.isinstance_ B.tuple_ (az 0));refine aN (bJ fH);refine aN ?_;refine bY ?_ ?_ bZ;refine gU ?_;refine d7 ?_;refine aM (fQ "list" (hb:=rz) B.isinstance_ B.list_ (az 0));refine aN (bJ fH);refine aL ?_ ?_;refine bY ?_ ?_ bZ;refine bQ (lU hr) ?_ ?_ (bC _);refine aM ?_;refine cZ (ms:=[.s]) (hv:=dF) dD B.len_ ?_;refine aB (az 0) aG;refine aM ?_;refine cZ (ms:=[.s]) (hv:=dF) dD B.len_ ?_;refine aB (az 1) aG
  refine aN (bJ fH);refine aL ?_ ?_;refine fM rfl ?_ (cY (i:=2) Cm.nd rfl (.inl rfl)) ?_;refine lX B.range_ ?_;refine aB ?_ aG;refine aM ?_;refine cZ (ms:=[.s]) (hv:=dF) dD B.len_ ?_;refine aB (az 1) aG;refine aN ?_;refine bY ?_ ?_ bZ;refine gU ?_;refine d7 ?_;refine ao ?_;refine bL jZ (hr.mono (by omega)) ?_;refine aB ?_ ?_;refine ao ?_;refine bG (az 0) (ao (aC 2));refine aB ?_ aG;refine ao ?_;refine bG (az 1) (ao (aC 2));refine aN (bJ fH);refine aN (bJ fH)
theorem YW(oO:Def K mg "_law_alike" vJ)
  (B:bR mg)
  (NK:bH K=true):
  Can Pr w K mg base "_law_alike" ["_law_found","_law_due"] 5 (vSp K mg [.s,.s] (rV K) gO):=Kl oO B NK 4
abbrev Cq:Stmt:=top 39
theorem oR:bK ["_law_cell_here","_law_many","_law_number","_law_rest","_law_found","_law_k"] ["_law_cell_here","_law_many"] (aY Cq):=by trivial
def Cr:MS :=
  (aA (aH 2 (ak bf (ak cW (ak bf (ak bU (aa 0) (mC (.int 2147483647))) (mC (.int 7919))) (mC (.int 48271))) (mC (.int 104729))))
  (aA (aH 3 (mG (aa 0)))
  (aA (aH 4 (cg aq))
  (aA (cu (eY (aj (aa 1) aq)) (mgN 5) (aZ (aK (ak gGt (aa 0) (ak eX (mC (.int 10)) (mC (.int 18))))) (aA (dU 4 (ak bU (aa 3) (ak eX (mC (.int 10)) (mC (.int 9)))))
  (aH 3 (ak gD (aa 3) (ak eX (mC (.int 10)) (mC (.int 9)))))) (aA (aH 2 (ak bU (ak bf (ak cW (aa 2) (mC (.int 48271))) (mC (.int 104729))) (mC (.int 2147483629))))
  (dU 4 (ak gD (ak bU (ak cW (aa 2) (aa 2)) (mC (.int 998244353))) (mC (.int 11)))))))
  (aU (aa 4))))))
def qm:List D->au->Res D:=bF 6 Cr
abbrev Km(Pr:Program)(w:World)(K:Frag)(mg:Str->Option Value)(base:Heap):Prop:=Can Pr w K mg base "_law_stream" ["_law_cell_here","_law_many"] 1 (vSp K mg [.s,.s] (rO K) qm)
theorem YX(Cu:Def K mg "_law_stream" Cq)
  (B:bR mg)
  (NK:bH K=true):
  Km Pr w K mg base:=by
 refine cB (k:=0) (b:=Cr) Cu oR (λ_ _ _ _ _ _=>aQ λ_=>aQ λ_=>bV rfl) [.s,.s] [.v,.v,.o,.v] fG (λ_ _ _ _=>.inl ⟨rfl,Rp.non⟩) (body:=λf cdv A outer s H E hr P=>?_);refine aL ?_ ?_;refine bu (i:=2) oR.nd rfl (.inl rfl) ?_;refine bh ?_;refine aW cP ?_ (ao aF);refine aM ?_;refine aW iC ?_ (ao aF);refine aM ?_;refine aW cP ?_ (ao aF);refine aM ?_;refine aW dX (az 0) (ao aF);refine aL ?_ ?_;refine bu (i:=3) oR.nd rfl (.inl rfl) (cI (az 0));refine aL ?_ ?_;refine jr (i:=4) oR.nd rfl (.inl rfl) (dM 0 aG);refine aL ?_ (aN (nG 4));refine fM rfl ?_ (cY (i:=5) oR.nd rfl (.inl rfl)) ?_
 refine lX B.range_ ?_;refine aB (az 1) aG;refine aN ?_;refine bY ?_ ?_ ?_;refine bQ jQ (az 0) ?_ (bC _);refine aM ?_;refine aW nM (ao aF) (ao aF);refine aL ?_ ?_;refine kJ 4 ?_;refine bh ?_;refine aW dX (ao (aC 3)) ?_;refine aM ?_;refine aW nM (ao aF) (ao aF);refine aN ?_;refine bu (i:=3) oR.nd rfl (.inl rfl) ?_;refine bh ?_;refine aW qZ (ao (aC 3)) ?_;refine aM ?_;refine aW nM (ao aF) (ao aF);refine aL ?_ ?_;refine bu (i:=2) oR.nd rfl (.inl rfl) ?_;refine bh ?_;refine aW dX ?_ (ao aF);refine aM ?_;refine aW cP ?_ (ao aF);refine aM ?_
 refine aW iC (ao (aC 2)) (ao aF);refine aN ?_;refine kJ 4 ?_;refine bh ?_;refine aW qZ ?_ (ao aF);refine aM ?_;refine aW dX ?_ (ao aF);refine aM ?_;refine aW iC (ao (aC 2)) (ao (aC 2))
abbrev vK:Stmt:=top 40
theorem mK:bK ["_law_xs","_law_small","_law_great","_law_other","_law_way","_law_many","_law_signs","_law_text"] ["_law_xs"] (aY vK):=by trivial
def Ko:MS :=
  (aA (aH 1 (mC (.str [97,98,99,100,101,102,103,104,105,106,107,108,109,110,111,112,113,114,115,116,117,118,119,120,121,122])))
  (aA (aH 2 (mC (.str [65,66,67,68,69,70,71,72,73,74,75,76,77,78,79,80,81,82,83,84,85,86,87,88,89,90])))
  (aA (aH 3 (mC (.str [33,34,35,36,38,39,40,41,42,43,44,45,46,47,48,49,50,51,52,53,54,55,56,57,58,59,60,61,62,63,64,91,92,93,94,95,96,123,124,125])))
  (aA (aH 4 (ak bU (ak gIx (aa 0) (mC (.int 0))) (mC (.int 8))))
  (aA (aH 5 (ak bf (mC (.int 1)) (ak bU (ak gIx (aa 0) (mC (.int 1))) (ak gIx (cg (aj (mC (.int 4)) (aj (mC (.int 6)) (aj (mC (.int 9)) (aj (mC (.int 40)) (aj (mC (.int 4)) (aj (mC (.int 3)) (aj (mC (.int 1)) (aj (mC (.int 2)) aq))))))))) (aa 4)))))
  (aA (aH 6 (ak gIx (cg (aj (aa 1) (aj (aa 1) (aj (ak bf (aa 1) (aa 2)) (aj (aa 1) (aj (aa 2) (aj (mC (.str [32])) (aj (mC (.str [32])) (aj (aa 3) aq))))))))) (aa 4)))
  (aA (aH 7 (uA (dI (eY (aj (aa 5) aq)) 1 [0,6] (mgN 0) dJ (ak gIx (aa 2) (ak bU (ak bf (ak gIx (aa 1) (mC (.int 2))) (ak cW (mC (.int 7)) (aa 0))) (aX bz (aj (aa 2) aq)))))))
  (aU (ak bf (aa 7) (ak cW (mC (.str [32])) (ak gD (ak bU (ak gIx (aa 0) (mC (.int 3))) (mC (.int 5))) (mC (.int 2)))))))))))))
def qp:List D->au->Res D:=bF 8 Ko
abbrev Kp(Pr:Program)(w:World)(K:Frag)(mg:Str->Option Value)(base:Heap):Prop:=Can Pr w K mg base "_law_run" ["_law_xs"] 1 (vSp K mg [.s] (rV K) qp)
theorem YZ(Cv:Def K mg "_law_run" vK)
  (B:bR mg)
  (NK:bH K=true):
  Kp Pr w K mg base:=by
 refine cB (k:=0) (b:=Ko) Cv mK (λ_ _ _ _ _ _=>aQ λ_=>bV rfl) [.s] [.v,.v,.v,.v,.v,.v,.v] cj (λ_ _ _ _=>Rp.non) (body:=λf cdv A outer s H E hr P=>?_);refine aL (bu (i:=1) mK.nd rfl (.inl rfl) (dY [97,98,99,100,101,102,103,104,105,106,107,108,109,110,111,112,113,114,115,116,117,118,119,120,121,122])) ?_;refine aL (bu (i:=2) mK.nd rfl (.inl rfl) (dY [65,66,67,68,69,70,71,72,73,74,75,76,77,78,79,80,81,82,83,84,85,86,87,88,89,90])) ?_;refine aL (bu (i:=3) mK.nd rfl (.inl rfl) (dY [33,34,35,36,38,39,40,41,42,43,44,45,46,47,48,49,50,51,52,53,54,55,56,57,58,59,60,61,62,63,64,91,92,93,94,95,96,123,124,125])) ?_
 refine aL ?_ ?_;refine bu (i:=4) mK.nd rfl (.inl rfl) ?_;refine bh ?_;refine aW dX ?_ (ao aF);refine ao ?_;refine bG (az 0) (ao aF);refine aL ?_ ?_;refine bu (i:=5) mK.nd rfl (.inl rfl) ?_;refine bh ?_;refine aW cP (ao aF) ?_;refine aM ?_;refine aW dX ?_ ?_;refine ao ?_;refine bG (az 0) (ao aF);refine ao ?_;refine bG ?_ (ao (aC 4));refine aM ?_;refine dM 8 ?_;refine aV aF ?_;refine aV aF ?_;refine aV aF ?_;refine aV aF ?_;refine aV aF ?_;refine aV aF ?_;refine aV aF ?_;refine aV aF aG;refine aL ?_ ?_;refine bu (i:=6) mK.nd rfl (.inr rfl) ?_
 refine bG ?_ (ao (aC 4));refine aM ?_;refine dM 8 ?_;refine aV (aC 1) ?_;refine aV (aC 1) ?_;refine aV ?_ ?_;refine bh ?_;refine aW cP (ao (aC 1)) (ao (aC 2));refine aV (aC 1) ?_;refine aV (aC 2) ?_;refine aV (dY [32]) ?_;refine aV (dY [32]) ?_;refine aV (aC 3) aG;refine aL ?_ ?_;refine bu (i:=7) mK.nd rfl (.inl rfl) ?_;refine bh ?_;refine Vs ?_;refine aM ?_;refine nJ (aY vK) ["_law_xs","_law_small","_law_great","_law_other","_law_way","_law_many","_law_signs","_law_text"] ["_law_k"] [0,6] rfl ?_ (λ_ _ _ _ P=>?_) (λ_ _ _ _ P=>?_) (λ_ _ _ _ P=>?_);refine ur ?_
 refine lX B.range_ ?_;refine aB (ao (aC 5)) aG;exact cY (i:=0) (show(bW ["_law_xs","_law_small","_law_great","_law_other","_law_way","_law_many","_law_signs","_law_text"] ["_law_k"] [0,6]).Nodup by decide +kernel) rfl (.inl rfl);exact lQ;refine bG (ao (aC 2)) ?_;refine aM ?_;refine aW dX ?_ ?_;refine aM ?_;refine aW cP ?_ ?_;refine ao ?_;refine bG (az 1) (ao aF);refine aM ?_;refine aW iC (ao aF) (ao (aC 0));refine aM ?_;refine cZ (ms:=[.s]) (hv:=dF) dD B.len_ ?_;refine aB (ao (aC 2)) aG;refine aN ?_;refine bJ ?_;refine bh ?_;refine aW cP (ao (aC 7)) ?_
 refine aM ?_;refine aW iC (ao (dY [32])) ?_;refine aM ?_;refine aW qZ ?_ (ao aF);refine aM ?_;refine aW dX ?_ (ao aF);refine ao ?_;refine bG (az 0) (ao aF)
abbrev Cw:Stmt:=top 41
theorem mL:bK ["_law_script","_law_at","_law_most_here","_law_letters_here","_law_place","_law_k","_law_xs","_law_sign"] ["_law_script","_law_at","_law_most_here"] (aY Cw):=by trivial
def Kq:MS :=
  (aA (aH 3 (cg aq))
  (aA (aH 4 (ak bU (aJ jB (aj (aJ fZ (aj (aa 0) (aj (aa 1) aq))) (aj (mC (.int 0)) aq))) (mC (.int 1000))))
  (aA (cu (eY (aj (aX q9 (aj (mC (.int 1)) (aj (aX rm (aj (mC (.int 40)) (aj (ak eV (aX bz (aj (aa 0) aq)) (aa 1)) aq))) aq))) aq)) (mgN 5) (aA (aH 6 (aJ qm (aj (aJ fZ (aj (aa 0) (aj (ak bf (aa 1) (aa 5)) aq))) (aj (mC (.int 7)) aq))))
  (cu (cF (aJ qp (aj (aa 6) aq))) (mgN 7) (aA (aZ (aK (ak gLt (aX bz (aj (aa 3) aq)) (aa 2))) (dU 3 (bT (aj (aa 7) (aj (ak gIx (mC (.str [97,98,99,100,101,102,103,104,46])) (ak bU (ak gIx (aa 6) (mC (.int 4))) (mC (.int 9)))) (aj (ak gIx (mC (.str [97,98,99,100,101,102,103,104,46])) (ak bU (ak gIx (aa 6) (mC (.int 5))) (mC (.int 9)))) (aj (aa 4) aq)))))) bj)
  (aH 4 (ak bf (ak bf (aa 4) (mC (.int 1))) (ak bU (ak gIx (aa 6) (mC (.int 6))) (mC (.int 3)))))))))
  (aA (aZ (aK (ak gEq (ak bU (aJ jB (aj (aJ fZ (aj (aa 0) (aj (mC (.int 0)) aq))) (aj (mC (.int 9)) aq))) (mC (.int 9))) (mC (.int 4)))) (aH 3 (cg aq)) bj)
  (aU (aa 3))))))
def tE:List D->au->Res D:=bF 8 Kq
abbrev Kr(Pr:Program)(w:World)(K:Frag)(mg:Str->Option Value)(base:Heap):Prop:=Can Pr w K mg base "_law_letters" ["_law_script","_law_at","_law_most_here"] 2 (vSp K mg [.s,.s,.s] (rO K) tE)
theorem Y0(Cy:Def K mg "_law_letters" Cw)
  (B:bR mg)
  (NK:bH K=true)
  (jC:vI Pr w K mg base)
  (jD:vH Pr w K mg base)
  (Cz:Km Pr w K mg base)
  (CG:Kp Pr w K mg base):
  Kr Pr w K mg base:=by
 refine cB (k:=1) (b:=Kq) Cy mL (λ_ _ _ _ _ _=>aQ λ_=>aQ λ_=>aQ λ_=>bV rfl) [.s,.s,.s] [.o,.v,.v,.v,.v] fG (λ_ _ _ _=>.inl ⟨rfl,Rp.non⟩) (body:=λf cdv A outer s H E hr P=>?_);refine aL ?_ ?_;refine jr (i:=3) mL.nd rfl (.inl rfl) (dM 0 aG);refine aL ?_ ?_;refine bu (i:=4) mL.nd rfl (.inl rfl) ?_;refine bh ?_;refine aW dX ?_ (ao aF);refine ao ?_;refine bL jC (hr.mono (by decide)) ?_;refine aB ?_ ?_;refine ao ?_;refine bL jD (hr.mono (by decide)) ?_;refine aB (az 0) ?_;refine aB (az 1) aG;refine aB (ao aF) aG;refine aL ?_ ?_;refine fM rfl ?_ (cY (i:=5) mL.nd rfl (.inl rfl)) ?_
 refine lX B.range_ ?_;refine aB ?_ aG;refine aM ?_;refine cZ (ms:=[.s,.s]) (hv:=Vn) (Vl rfl) B.max_ ?_;refine aB (ao aF) ?_;refine aB ?_ aG;refine aM ?_;refine cZ (ms:=[.s,.s]) (hv:=Vo) (Vm rfl) B.min_ ?_;refine aB (ao aF) ?_;refine aB ?_ aG;refine aM ?_;refine aW kI ?_ (az 1);refine aM ?_;refine cZ (ms:=[.s]) (hv:=dF) dD B.len_ ?_;refine aB (az 0) aG;refine aL ?_ ?_;refine bu (i:=6) mL.nd rfl (.inl rfl) ?_;refine bh ?_;refine g8 Cz (hr.mono (by decide)) ?_;refine aB ?_ ?_;refine ao ?_;refine bL jD (hr.mono (by decide)) ?_;refine aB (az 0) ?_;refine aB ?_ aG
 refine aM ?_;refine aW cP (az 1) (ao (aC 5));refine aB (ao aF) aG;refine aN ?_;refine fM rfl ?_ (cY (i:=7) mL.nd rfl (.inl rfl)) ?_;refine pJ ?_;refine rE ?_;refine bL CG (hr.mono (by decide)) ?_;refine aB (ao (aC 6)) aG;refine aL ?_ ?_;refine bY ?_ ?_ bZ;refine bQ nO ?_ (az 2) (bC _);refine aM ?_;refine cZ (ms:=[.s]) (hv:=dF) dD B.len_ ?_;refine aB (az 3) aG;refine aN ?_;refine kJ 3 ?_;refine dC 4 ?_;refine aV (aC 7) ?_;refine aV ?_ ?_;refine bG (ao (dY [97,98,99,100,101,102,103,104,46])) ?_;refine aM ?_;refine aW dX ?_ (ao aF);refine ao ?_;refine bG (ao (aC 6)) (ao aF)
 refine aV ?_ ?_;refine bG (ao (dY [97,98,99,100,101,102,103,104,46])) ?_;refine aM ?_;refine aW dX ?_ (ao aF);refine ao ?_;refine bG (ao (aC 6)) (ao aF);refine aV (aC 4) aG;refine aN ?_;refine bu (i:=4) mL.nd rfl (.inl rfl) ?_;refine bh ?_;refine aW cP ?_ ?_;refine aM ?_;refine aW cP (ao (aC 4)) (ao aF);refine aM ?_;refine aW dX ?_ (ao aF);refine ao ?_;refine bG (ao (aC 6)) (ao aF);refine aL ?_ (aN (nG 3));refine bY ?_ ?_ bZ;refine bQ (dw hr) ?_ (ao aF) (bC _);refine aM ?_;refine aW dX ?_ (ao aF);refine ao ?_;refine bL jC (hr.mono (by decide)) ?_
 refine aB ?_ ?_;refine ao ?_;refine bL jD (hr.mono (by decide)) ?_;refine aB (az 0) ?_;refine aB (ao aF) aG;refine aB (ao aF) aG;refine aN ?_;refine jr (i:=3) mL.nd rfl (.inl rfl) (dM 0 aG)
abbrev CJ:Stmt:=top 42
theorem Ks:bK ["_law_script","_law_cell_here"] ["_law_script"] (aY CJ):=by trivial
def vL:MS :=
  (aA (aH 1 (aJ fZ (aj (aa 0) (aj (mC (.int 1)) aq))))
  (aU (ak bf (mC (.int 2)) (ak bU (aJ jB (aj (aa 1) (aj (mC (.int 7)) aq))) (ak gIx (cg (aj (mC (.int 4)) (aj (mC (.int 9)) (aj (mC (.int 9)) (aj (mC (.int 39)) aq))))) (ak bU (aJ jB (aj (aa 1) (aj (mC (.int 8)) aq))) (mC (.int 4))))))))
def vM:List D->au->Res D:=bF 2 vL
abbrev Ku(Pr:Program)(w:World)(K:Frag)(mg:Str->Option Value)(base:Heap):Prop:=Can Pr w K mg base "_law_wide" ["_law_script"] 2 (vSp K mg [.s] (rV K) vM)
theorem Y4(CK:Def K mg "_law_wide" CJ)
  (B:bR mg)
  (NK:bH K=true)
  (jD:vH Pr w K mg base)
  (jC:vI Pr w K mg base):
  Ku Pr w K mg base:=by
 refine cB (k:=1) (b:=vL) CK Ks (λ_ _ _ _ _ _=>aQ λ_=>bV rfl) [.s] [.v] cj (λ_ _ _ _=>Rp.non) (body:=λf cdv A outer s H E hr P=>?_);refine aL ?_ ?_;refine bu (i:=1) Ks.nd rfl (.inl rfl) ?_;refine bL jD (hr.mono (by decide)) ?_;refine aB (az 0) ?_;refine aB (ao aF) aG;refine aN ?_;refine bJ ?_;refine bh ?_;refine aW cP (ao aF) ?_;refine aM ?_;refine aW dX ?_ ?_;refine ao ?_;refine bL jC (hr.mono (by decide)) ?_;refine aB (ao (aC 1)) ?_;refine aB (ao aF) aG;refine ao ?_;refine bG ?_ ?_;refine aM ?_;refine dM 4 ?_;refine aV aF ?_;refine aV aF ?_
 refine aV aF ?_;refine aV aF aG;refine aM ?_;refine aW dX ?_ (ao aF);refine ao ?_;refine bL jC (hr.mono (by decide)) ?_;refine aB (ao (aC 1)) ?_;refine aB (ao aF) aG
abbrev vN:Stmt:=top 43
theorem CN:bK ["_law_letters_here","_law_lo","_law_hi","_law_great"] ["_law_letters_here","_law_lo","_law_hi"] (aY vN):=by trivial
def Kv:MS :=
  (aA (gW wF (dN (aK (ak gGt (aa 2) (aa 1))) (aK (ak gEq (ak gIx (ak gIx (aa 0) (ak eV (aa 2) (mC (.int 1)))) (mC (.int 0))) (mC (.str [32]))))) (aH 2 (ak eV (aa 2) (mC (.int 1)))))
  (aA (aH 3 (mC (.str [65,66,67,68,69,70,71,72,73,74,75,76,77,78,79,80,81,82,83,84,85,86,87,88,89,90])))
  (aU (aX pG (aj (dI (cF (mSl (aa 0) (moS (mG (aa 1))) (moS (aa 2)))) 1 [3] (mgN 0) dJ (ak bf (mC (.int 1)) (aX jt (aj (ak (gIn false) (ak gIx (aa 0) (mC (.int 0))) (aa 1)) aq)))) aq)))))
def lA:List D->au->Res D:=bF 4 Kv
abbrev CP(Pr:Program)(w:World)(K:Frag)(mg:Str->Option Value)(base:Heap):Prop:=Can Pr w K mg base "_law_trimmed" ["_law_letters_here","_law_lo","_law_hi"] 1 (vSp K mg [.s,.s,.v] (rV K) lA)
theorem Y5(CQ:Def K mg "_law_trimmed" vN)
  (B:bR mg)
  (NK:bH K=true):
  CP Pr w K mg base:=by
 refine cB (k:=0) (b:=Kv) CQ CN (λ_ _ _ _ _ _=>aQ λ_=>aQ λ_=>aQ λ_=>bV rfl) [.s,.s,.v] [.v] cj (λ_ _ _ _=>Rp.non) (body:=λf cdv A outer s H E hr P=>?_);refine aL ?_ ?_;refine pC wF ?_ ?_;refine fO ?_;refine km ?_ ?_;refine bQ jQ (ao (aC 2)) (az 1) (bC _);refine kj ?_;refine bQ (dw hr) ?_ (ao (dY [32])) (bC _);refine ao ?_;refine bG ?_ (ao aF);refine ao ?_;refine bG (az 0) ?_;refine aM ?_;refine aW kI (ao (aC 2)) (ao aF);refine aN ?_;refine bu (i:=2) CN.nd rfl (.inl rfl) ?_;refine bh ?_;refine aW kI (ao (aC 2)) (ao aF);refine aL (bu (i:=3) CN.nd rfl (.inr rfl) (dY [65,66,67,68,69,70,71,72,73,74,75,76,77,78,79,80,81,82,83,84,85,86,87,88,89,90])) ?_
 refine aN ?_;refine bJ ?_;refine bh ?_;refine cZ (ms:=[.s]) (hv:=HB) (Hz rfl) B.sum_ ?_;refine aB ?_ aG;refine aM ?_;refine nJ (aY vN) ["_law_letters_here","_law_lo","_law_hi","_law_great"] ["_law_letter"] [3] rfl ?_ (λ_ _ _ _ P=>?_) (λ_ _ _ _ P=>?_) (λ_ _ _ _ P=>?_);refine lZ ?_;refine aM ?_;refine Hx (az 0) ?_ (uw (aC 2));refine uw (cI (az 1));exact cY (i:=0) (show(bW ["_law_letters_here","_law_lo","_law_hi","_law_great"] ["_law_letter"] [3]).Nodup by decide +kernel) rfl (.inl rfl);exact lQ;refine bh ?_;refine aW cP (ao aF) ?_;refine aM ?_;refine nQ (ms:=[.s]) (hv:=lW) xG B.int_ ?_
 refine aB ?_ aG;refine aM ?_;refine gw uv ?_ (ao (aC 1)) (by with_unfolding_all rfl);refine ao ?_;refine bG (ao (aC 0)) (ao aF)
abbrev CT:Stmt:=top 44
theorem CV:bK ["_law_letters_here","_law_found","_law_at"] ["_law_letters_here"] (aY CT):=by trivial
def Kw:MS :=
  (aA (aH 1 (cg aq))
  (aA (cu (nR (aj (mC (.int 1)) (aj (ak bf (aX bz (aj (aa 0) aq)) (mC (.int 1))) aq))) (mgN 2) (aZ (dO (aK (ak gEq (aa 2) (aX bz (aj (aa 0) aq)))) (dN (aK (ak gEq (ak gIx (ak gIx (aa 0) (ak eV (aa 2) (mC (.int 1)))) (mC (.int 0))) (mC (.str [32])))) (aK (ak gNe (ak gIx (ak gIx (aa 0) (aa 2)) (mC (.int 0))) (mC (.str [32])))))) (dU 1 (aa 2)) bj))
  (aU (aa 1))))
def vO:List D->au->Res D:=bF 3 Kw
abbrev Ky(Pr:Program)(w:World)(K:Frag)(mg:Str->Option Value)(base:Heap):Prop:=Can Pr w K mg base "_law_breaks" ["_law_letters_here"] 1 (vSp K mg [.s] (rO K) vO)
theorem Y6(CW:Def K mg "_law_breaks" CT)
  (B:bR mg)
  (NK:bH K=true):
  Ky Pr w K mg base:=by
 refine cB (k:=0) (b:=Kw) CW CV (λ_ _ _ _ _ _=>aQ λ_=>bV rfl) [.s] [.o,.v] fG (λ_ _ _ _=>.inl ⟨rfl,Rp.non⟩) (body:=λf cdv A outer s H E hr P=>?_);refine aL ?_ ?_;refine jr (i:=1) CV.nd rfl (.inl rfl) (dM 0 aG);refine aL ?_ (aN (nG 1));refine fM rfl ?_ (cY (i:=2) CV.nd rfl (.inl rfl)) ?_;refine HR B.range_ ?_;refine aB (ao aF) ?_;refine aB ?_ aG;refine aM ?_;refine aW cP ?_ (ao aF);refine aM ?_;refine cZ (ms:=[.s]) (hv:=dF) dD B.len_ ?_;refine aB (az 0) aG;refine aN ?_;refine bY ?_ ?_ bZ;refine fO ?_;refine lN ?_ ?_;refine bQ (dw hr) (ao (aC 2)) ?_ (bC _)
 refine aM ?_;refine cZ (ms:=[.s]) (hv:=dF) dD B.len_ ?_;refine aB (az 0) aG;refine nD ?_;refine fO ?_;refine km ?_ ?_;refine bQ (dw hr) ?_ (ao (dY [32])) (bC _);refine ao ?_;refine bG ?_ (ao aF);refine ao ?_;refine bG (az 0) ?_;refine aM ?_;refine aW kI (ao (aC 2)) (ao aF);refine kj ?_;refine bQ (lU hr) ?_ (ao (dY [32])) (bC _);refine ao ?_;refine bG ?_ (ao aF);refine ao ?_;refine bG (az 0) (ao (aC 2));refine aN (kJ 1 (aC 2))
abbrev CZ:Stmt:=top 45
theorem qt:bK ["_law_letters_here","_law_lo","_law_wide_here","_law_great","_law_at","_law_room"] ["_law_letters_here","_law_lo","_law_wide_here"] (aY CZ):=by trivial
def Kz:MS :=
  (aA (aH 3 (mC (.str [65,66,67,68,69,70,71,72,73,74,75,76,77,78,79,80,81,82,83,84,85,86,87,88,89,90])))
  (aA (aH 4 (mG (aa 1)))
  (aA (aH 5 (mG (aa 2)))
  (aA (gW wF (dN (aK (ak gLt (aa 4) (aX bz (aj (aa 0) aq)))) (aK (ak gLe (ak bf (mC (.int 1)) (aX jt (aj (ak (gIn false) (ak gIx (ak gIx (aa 0) (aa 4)) (mC (.int 0))) (aa 3)) aq))) (aa 5)))) (aA (aH 5 (ak eV (ak eV (aa 5) (mC (.int 1))) (aX jt (aj (ak (gIn false) (ak gIx (ak gIx (aa 0) (aa 4)) (mC (.int 0))) (aa 3)) aq))))
  (aH 4 (ak bf (aa 4) (mC (.int 1))))))
  (aU (aa 4))))))
def Dc:List D->au->Res D:=bF 6 Kz
abbrev KD(Pr:Program)(w:World)(K:Frag)(mg:Str->Option Value)(base:Heap):Prop:=Can Pr w K mg base "_law_taken" ["_law_letters_here","_law_lo","_law_wide_here"] 1 (vSp K mg [.s,.s,.s] (rV K) Dc)
theorem Y7(Dd:Def K mg "_law_taken" CZ)
  (B:bR mg)
  (NK:bH K=true):
  KD Pr w K mg base:=by
 refine cB (k:=0) (b:=Kz) Dd qt (λ_ _ _ _ _ _=>aQ λ_=>aQ λ_=>aQ λ_=>bV rfl) [.s,.s,.s] [.v,.v,.v] cj (λ_ _ _ _=>Rp.non) (body:=λf cdv A outer s H E hr P=>?_);refine aL (bu (i:=3) qt.nd rfl (.inl rfl) (dY [65,66,67,68,69,70,71,72,73,74,75,76,77,78,79,80,81,82,83,84,85,86,87,88,89,90])) ?_;refine aL ?_ ?_;refine bu (i:=4) qt.nd rfl (.inl rfl) (cI (az 1));refine aL ?_ ?_;refine bu (i:=5) qt.nd rfl (.inl rfl) (cI (az 2));refine aL ?_ ?_;refine pC wF ?_ ?_;refine fO ?_;refine km ?_ ?_;refine bQ nO (ao (aC 4)) ?_ (bC _);refine aM ?_;refine cZ (ms:=[.s]) (hv:=dF) dD B.len_ ?_
 refine aB (az 0) aG;refine kj ?_;refine bQ pF ?_ (ao (aC 5)) (bC _);refine aM ?_;refine aW cP (ao aF) ?_;refine aM ?_;refine nQ (ms:=[.s]) (hv:=lW) xG B.int_ ?_;refine aB ?_ aG;refine aM ?_;refine gw uv ?_ (ao (aC 3)) (by with_unfolding_all rfl);refine ao ?_;refine bG ?_ (ao aF);refine ao ?_;refine bG (az 0) (ao (aC 4));refine aL ?_ ?_;refine bu (i:=5) qt.nd rfl (.inl rfl) ?_;refine bh ?_;refine aW kI ?_ ?_;refine aM ?_;refine aW kI (ao (aC 5)) (ao aF);refine aM ?_;refine nQ (ms:=[.s]) (hv:=lW) xG B.int_ ?_;refine aB ?_ aG;refine aM ?_;refine gw uv ?_ (ao (aC 3)) (by with_unfolding_all rfl)
 refine ao ?_;refine bG ?_ (ao aF);refine ao ?_;refine bG (az 0) (ao (aC 4));refine aN ?_;refine bu (i:=4) qt.nd rfl (.inl rfl) ?_;refine bh ?_;refine aW cP (ao (aC 4)) (ao aF);refine aN (bJ (aC 4))
abbrev De:Stmt:=top 46
theorem Dg:bK ["_law_letters_here","_law_spots","_law_lo","_law_wide_here","_law_found","_law_spot"] ["_law_letters_here","_law_spots","_law_lo","_law_wide_here"] (aY De):=by trivial
def vP:MS :=
  (aA (aH 4 (cg aq))
  (aA (cu (cF (aa 1)) (mgN 5) (aZ (aK (ak gGt (aa 5) (aa 2))) (aA (aZ (aK (ak gGt (aJ lA (aj (aa 0) (aj (aa 2) (aj (aa 5) aq)))) (aa 3))) pA bj)
  (dU 4 (aa 5))) bj))
  (aA (aZ (aK (ak gEq (aa 4) (cg aq))) (aU (cg (aj (aJ Dc (aj (aa 0) (aj (aa 2) (aj (aa 3) aq)))) aq))) bj)
  (aU (aa 4)))))
def oU:List D->au->Res D:=bF 6 vP
abbrev Dh(Pr:Program)(w:World)(K:Frag)(mg:Str->Option Value)(base:Heap):Prop:=Can Pr w K mg base "_law_reached" ["_law_letters_here","_law_spots","_law_lo","_law_wide_here"] 2 (vSp K mg [.s,.s,.s,.s] (rO K) oU)
theorem Y8(Di:Def K mg "_law_reached" De)
  (B:bR mg)
  (NK:bH K=true)
  (qw:CP Pr w K mg base)
  (Dj:KD Pr w K mg base):
  Dh Pr w K mg base:=by
 refine cB (k:=1) (b:=vP) Di Dg (λ_ _ _ _ _ _=>aQ λ_=>aQ λ_=>aQ λ_=>aQ λ_=>bV rfl) [.s,.s,.s,.s] [.o,.v] fG (λ_ _ _ _=>.inl ⟨rfl,Rp.non⟩) (body:=λf cdv A outer s H E hr P=>?_);refine aL ?_ ?_;refine jr (i:=4) Dg.nd rfl (.inl rfl) (dM 0 aG);refine aL ?_ ?_;refine fM rfl (pJ (HF 1)) (cY (i:=5) Dg.nd rfl (.inl rfl)) ?_;refine aN ?_;refine bY ?_ ?_ bZ;refine bQ jQ (ao (aC 5)) (az 2) (bC _);refine aL ?_ ?_;refine bY ?_ (aN Hb) bZ;refine bQ jQ ?_ (az 3) (bC _);refine ao ?_;refine bL qw (hr.mono (by decide)) ?_;refine aB (az 0) ?_;refine aB (az 2) ?_
 refine aV (aC 5) aG;refine aN (kJ 4 (aC 5));refine aL ?_ (aN (nG 4));refine bY ?_ ?_ bZ;refine bQ (dw hr) (az 4) ?_ (bC _);refine aM (dM 0 aG);refine aN ?_;refine iZ ?_;refine dM 1 ?_;refine aV ?_ aG;refine bL Dj (hr.mono (by decide)) ?_;refine aB (az 0) ?_;refine aB (az 2) ?_;refine aB (az 3) aG
abbrev Dk:Stmt:=top 47
theorem KH:bK ["_law_letters_here","_law_lo","_law_hi","_law_wide_here","_law_free"] ["_law_letters_here","_law_lo","_law_hi","_law_wide_here"] (aY Dk):=by trivial
def vQ:MS :=
  (aA (aZ (aK (ak gEq (aa 2) (aX bz (aj (aa 0) aq)))) (aU (mC (.int 0))) bj)
  (aA (aH 4 (ak eV (aa 3) (aJ lA (aj (aa 0) (aj (aa 1) (aj (mG (aa 2)) aq))))))
  (aU (ak cW (aa 4) (aa 4)))))
def mO:List D->au->Res D:=bF 5 vQ
abbrev Dl(Pr:Program)(w:World)(K:Frag)(mg:Str->Option Value)(base:Heap):Prop:=Can Pr w K mg base "_law_cost" ["_law_letters_here","_law_lo","_law_hi","_law_wide_here"] 2 (vSp K mg [.s,.s,.s,.s] (rV K) mO)
theorem Y9(Dm:Def K mg "_law_cost" Dk)
  (B:bR mg)
  (NK:bH K=true)
  (qw:CP Pr w K mg base):
  Dl Pr w K mg base:=by
 refine cB (k:=1) (b:=vQ) Dm KH (λ_ _ _ _ _ _=>aQ λ_=>aQ λ_=>aQ λ_=>aQ λ_=>bV rfl) [.s,.s,.s,.s] [.v] cj (λ_ _ _ _=>Rp.non) (body:=λf cdv A outer s H E hr P=>?_);refine aL ?_ ?_;refine bY ?_ ?_ bZ;refine bQ (dw hr) (az 2) ?_ (bC _);refine aM ?_;refine cZ (ms:=[.s]) (hv:=dF) dD B.len_ ?_;refine aB (az 0) aG;refine aN (bJ aF);refine aL ?_ ?_;refine bu (i:=4) KH.nd rfl (.inl rfl) ?_;refine bh ?_;refine aW kI (az 3) ?_;refine ao ?_;refine bL qw (hr.mono (by decide)) ?_;refine aB (az 0) ?_;refine aB (az 1) ?_;refine aV (cI (az 2)) aG
 refine aN ?_;refine bJ ?_;refine bh ?_;refine aW iC (ao (aC 4)) (ao (aC 4))
abbrev Dn:Stmt:=top 48
theorem Za:bK ["_law_script"] ["_law_script"] (aY Dn):=by trivial
def vR:MS :=
  (aU (ak gIx (cg (aj (mC (.int 20)) (aj (mC (.int 30)) (aj (mC (.int 30)) (aj (mC (.int 36)) (aj (mC (.int 20)) (aj (mC (.int 30)) (aj (mC (.int 36)) (aj (mC (.int 200)) aq))))))))) (ak bU (aJ jB (aj (aJ fZ (aj (aa 0) (aj (mC (.int 1)) aq))) (aj (mC (.int 9)) aq))) (mC (.int 8)))))
def vU:List D->au->Res D:=bF 1 vR
abbrev KJ(Pr:Program)(w:World)(K:Frag)(mg:Str->Option Value)(base:Heap):Prop:=Can Pr w K mg base "_law_most" ["_law_script"] 2 (vSp K mg [.s] (rV K) vU)
theorem Zb(Do:Def K mg "_law_most" Dn)
  (B:bR mg)
  (NK:bH K=true)
  (jC:vI Pr w K mg base)
  (jD:vH Pr w K mg base):
  KJ Pr w K mg base:=by
 refine cB (k:=1) (b:=vR) Do Za (λ_ _ _ _ _ _=>aQ λ_=>bV rfl) [.s] [] cj (λ_ _ _ _=>Rp.non) (body:=λf cdv A outer s H E hr P=>?_);refine aN ?_;refine bJ ?_;refine bG ?_ ?_;refine aM ?_;refine dM 8 ?_;refine aV aF ?_;refine aV aF ?_;refine aV aF ?_;refine aV aF ?_;refine aV aF ?_;refine aV aF ?_;refine aV aF ?_;refine aV aF aG;refine aM ?_;refine aW dX ?_ (ao aF);refine ao ?_;refine bL jC (hr.mono (by decide)) ?_;refine aB ?_ ?_;refine ao ?_;refine bL jD (hr.mono (by decide)) ?_;refine aB (az 0) ?_;refine aB (ao aF) aG;refine aB (ao aF) aG
abbrev Dp:Stmt:=top 49
theorem tG:bK ["_law_prices","_law_letters_here","_law_spots","_law_wide_here","_law_many","_law_lo","_law_hi"] ["_law_prices","_law_letters_here","_law_spots","_law_wide_here"] (aY Dp):=by trivial
def KQ:MS :=
  (aA (aH 4 (aX bz (aj (aa 1) aq)))
  (aA (aZ (dO (cO (bI (pO (mG (aa 0))))) (aK (ak gNe (nW (mG (aa 0))) (ak bf (aa 4) (mC (.int 1)))))) (aU (mC (.bl false))) bj)
  (aA (cu (eY (aj (ak bf (aa 4) (mC (.int 1))) aq)) (mgN 5) (aZ (dO (cO (bI (aJ sZ (aj (pP (mG (aa 0)) (bT (aj (aa 5) (aj (mC (.int 0)) aq)))) aq)))) (aK (ak gLt (cG (mG (aa 0)) (bT (aj (aa 5) (aj (mC (.int 0)) aq)))) (mC (.int 0))))) (aU (mC (.bl false))) bj))
  (aA (cu (eY (aj (aa 4) aq)) (mgN 5) (cu (cF (aJ oU (aj (aa 1) (aj (aa 2) (aj (aa 5) (aj (aa 3) aq)))))) (mgN 6) (aZ (aK (ak gGt (cG (mG (aa 0)) (bT (aj (aa 5) (aj (mC (.int 0)) aq)))) (ak bf (aJ mO (aj (aa 1) (aj (aa 5) (aj (aa 6) (aj (aa 3) aq))))) (cG (mG (aa 0)) (bT (aj (aa 6) (aj (mC (.int 0)) aq))))))) (aU (mC (.bl false))) bj)))
  (aU (ak gEq (cG (mG (aa 0)) (bT (aj (aa 4) (aj (mC (.int 0)) aq)))) (mC (.int 0))))))))
def vV:List D->au->Res D:=bF 7 KQ
abbrev KR(Pr:Program)(w:World)(K:Frag)(mg:Str->Option Value)(base:Heap):Prop:=Can Pr w K mg base "_law_fair" ["_law_prices","_law_letters_here","_law_spots","_law_wide_here"] 3 (vSp K mg [.s,.s,.s,.s] (rV K) vV)
theorem Zc(Dq:Def K mg "_law_fair" Dp)
  (B:bR mg)
  (NK:bH K=true)
  (Dr:Kg Pr w K mg base)
  (qx:Dh Pr w K mg base)
  (oV:Dl Pr w K mg base):
  KR Pr w K mg base:=by
 refine cB (k:=2) (b:=KQ) Dq tG (λ_ _ _ _ _ _=>aQ λ_=>aQ λ_=>aQ λ_=>aQ λ_=>bV rfl) [.s,.s,.s,.s] [.v,.v,.v] cj (λ_ _ _ _=>Rp.non) (body:=λf cdv A outer s H E hr P=>?_);refine aL ?_ ?_;refine bu (i:=4) tG.nd rfl (.inl rfl) ?_;refine bh ?_;refine cZ (ms:=[.s]) (hv:=dF) dD B.len_ ?_;refine aB (az 1) aG;refine aL ?_ ?_;refine bY ?_ ?_ bZ;refine fO ?_;refine lN ?_ ?_;refine gU ?_;refine d7 ?_;refine aM ?_;refine W3 B.isinstance_ B.dict_ (cI (az 0));refine nD ?_;refine bQ (lU hr) ?_ ?_ (bC _);refine aM ?_;refine W0 B.len_ (cI (az 0));refine aM ?_
 refine aW cP (ao (aC 4)) (ao aF);refine aN (bJ fH);refine aL ?_ ?_;refine fM rfl ?_ (cY (i:=5) tG.nd rfl (.inl rfl)) ?_;refine lX B.range_ ?_;refine aB ?_ aG;refine aM ?_;refine aW cP (ao (aC 4)) (ao aF);refine aN ?_;refine bY ?_ ?_ bZ;refine fO ?_;refine lN ?_ ?_;refine gU ?_;refine d7 ?_;refine ao ?_;refine bL Dr (hr.mono (by decide)) ?_;refine aB ?_ aG;refine ao ?_;refine W4 NK hr (cI (az 0)) ?_;refine dC 2 ?_;refine aV (aC 5) ?_;refine aV aF aG;refine nD ?_;refine bQ nO ?_ (ao aF) (bC _);refine ao ?_;refine ik NK hr (cI (az 0)) ?_;refine dC 2 ?_
 refine aV (aC 5) ?_;refine aV aF aG;refine aN (bJ fH);refine aL ?_ ?_;refine fM rfl ?_ (cY (i:=5) tG.nd rfl (.inl rfl)) ?_;refine lX B.range_ ?_;refine aB (ao (aC 4)) aG;refine aN ?_;refine fM rfl ?_ (cY (i:=6) tG.nd rfl (.inl rfl)) ?_;refine pJ ?_;refine rE ?_;refine bh ?_;refine g8 qx (hr.mono (by decide)) ?_;refine aB (az 1) ?_;refine aB (az 2) ?_;refine aB (ao (aC 5)) ?_;refine aB (az 3) aG;refine aN ?_;refine bY ?_ ?_ bZ;refine bQ jQ ?_ ?_ (bC _);refine ao ?_;refine ik NK hr (cI (az 0)) ?_;refine dC 2 ?_;refine aV (aC 5) ?_;refine aV aF aG
 refine aM ?_;refine aW cP ?_ ?_;refine ao ?_;refine bL oV (hr.mono (by decide)) ?_;refine aB (az 1) ?_;refine aB (ao (aC 5)) ?_;refine aB (ao (aC 6)) ?_;refine aB (az 3) aG;refine ao ?_;refine ik NK hr (cI (az 0)) ?_;refine dC 2 ?_;refine aV (aC 6) ?_;refine aV aF aG;refine aN (bJ fH);refine aN ?_;refine bJ ?_;refine bh ?_;refine gw (dw hr) ?_ (ao aF) (bC _);refine ao ?_;refine ik NK hr (cI (az 0)) ?_;refine dC 2 ?_;refine aV (aC 4) ?_;refine aV aF aG
abbrev vW:Stmt:=top 50
theorem j0:bK ["_law_found","_law_prices","_law_letters_here","_law_spots","_law_wide_here","_law_at","_law_spent","_law_lo","_law_hi","_law_ends","_law_beyond","_law_there"] ["_law_found","_law_prices","_law_letters_here","_law_spots","_law_wide_here"] (aY vW):=by trivial
def KY:MS :=
  (aA (aZ (dO (cO (bI (cQ "list" (aa 0)))) (cO (bI (aJ gO (aj (aa 0) (aj (dI (cF (aa 0)) 1 [] (mgN 0) dJ (bT (aj (ak gIx (aa 0) (mC (.int 0))) (aj (ak gIx (aa 0) (mC (.int 1))) aq)))) aq)))))) (aU (mC (.bl false))) bj)
  (aA (aH 5 (mC (.int 0)))
  (aA (aH 6 (mC (.int 0)))
  (aA (cu (cF (aa 0)) (jO 2 (fJ (mgN 7) (fJ (mgN 8) kE))) (aA (aH 9 (aJ oU (aj (aa 2) (aj (aa 3) (aj (aa 7) (aj (aa 4) aq))))))
  (aA (aZ (dO (aK (ak gNe (aa 7) (aa 5))) (dO (aK (ak gEq (aa 7) (aX bz (aj (aa 2) aq)))) (aK (ak (gIn true) (aa 8) (aa 9))))) (aU (mC (.bl false))) bj)
  (aA (cu (cF (aa 9)) (mgN 10) (aA (aH 11 (ak bf (aJ mO (aj (aa 2) (aj (aa 7) (aj (aa 10) (aj (aa 4) aq))))) (cG (mG (aa 1)) (bT (aj (aa 10) (aj (mC (.int 0)) aq))))))
  (aZ (dO (dN (aK (ak gEq (aa 10) (aa 8))) (aK (ak gNe (aa 11) (cG (mG (aa 1)) (bT (aj (aa 7) (aj (mC (.int 0)) aq))))))) (dN (aK (ak gGt (aa 10) (aa 8))) (aK (ak gEq (aa 11) (cG (mG (aa 1)) (bT (aj (aa 7) (aj (mC (.int 0)) aq)))))))) (aU (mC (.bl false))) bj)))
  (aA (aH 6 (ak bf (aa 6) (aJ mO (aj (aa 2) (aj (aa 7) (aj (aa 8) (aj (aa 4) aq)))))))
  (aH 5 (aa 8)))))))
  (aU (d8 (ak gEq (aa 5) (aX bz (aj (aa 2) aq))) (ak gEq (aa 6) (cG (mG (aa 1)) (bT (aj (mC (.int 0)) (aj (mC (.int 0)) aq)))))))))))
def vX:List D->au->Res D:=bF 12 KY
abbrev KZ(Pr:Program)(w:World)(K:Frag)(mg:Str->Option Value)(base:Heap):Prop:=Can Pr w K mg base "_law_walked" ["_law_found","_law_prices","_law_letters_here","_law_spots","_law_wide_here"] 6 (vSp K mg [.s,.s,.s,.s,.s] (rV K) vX)
theorem Zd(Ds:Def K mg "_law_walked" vW)
  (B:bR mg)
  (NK:bH K=true)
  (jZ:Kh Pr w K mg base)
  (qx:Dh Pr w K mg base)
  (oV:Dl Pr w K mg base):
  KZ Pr w K mg base:=by
 refine cB (k:=5) (b:=KY) Ds j0 (λ_ _ _ _ _ _=>aQ λ_=>aQ λ_=>aQ λ_=>aQ λ_=>aQ λ_=>bV rfl) [.s,.s,.s,.s,.s] [.v,.v,.v,.v,.v,.v,.v] cj (λ_ _ _ _=>Rp.non) (body:=λf cdv A outer s H E hr P=>?_);refine aL ?_ ?_;refine bY ?_ ?_ bZ;refine fO ?_;refine lN ?_ ?_;refine gU ?_;refine d7 ?_;refine aM (fQ "list" (hb:=rz) B.isinstance_ B.list_ (az 0));refine nD ?_;refine gU ?_;refine d7 ?_;refine ao ?_;refine bL jZ (hr.mono (by decide)) ?_;refine aB (az 0) ?_;refine aB ?_ aG;refine aM ?_;refine nJ (aY vW) ["_law_found","_law_prices","_law_letters_here","_law_spots","_law_wide_here","_law_at","_law_spent","_law_lo","_law_hi","_law_ends","_law_beyond","_law_there"] ["_law_one"] [] rfl (lZ (az 0)) (λ_ _ _ _ P=>?_) (λ_ _ _ _ P=>?_) (λ_ _ _ _ P=>?_)
 exact cY (i:=0) (show(bW ["_law_found","_law_prices","_law_letters_here","_law_spots","_law_wide_here","_law_at","_law_spent","_law_lo","_law_hi","_law_ends","_law_beyond","_law_there"] ["_law_one"] []).Nodup by decide +kernel) rfl (.inl rfl)
 exact lQ
 refine dC 2 ?_;refine aV ?_ ?_;refine bG (ao (aC 0)) (ao aF);refine aV ?_ aG;refine bG (ao (aC 0)) (ao aF);refine aN (bJ fH);refine aL (bu (i:=5) j0.nd rfl (.inl rfl) aF) ?_;refine aL (bu (i:=6) j0.nd rfl (.inl rfl) aF) ?_;refine aL ?_ ?_;refine fM rfl (pJ (HF 0)) ?_ ?_;refine xB 2 rfl ?_;refine pB (cY (i:=7) j0.nd rfl (.inl rfl)) ?_;refine pB (cY (i:=8) j0.nd rfl (.inl rfl)) xA;refine aL ?_ ?_;refine bu (i:=9) j0.nd rfl (.inl rfl) ?_;refine bh ?_;refine g8 qx (hr.mono (by decide)) ?_;refine aB (az 2) ?_;refine aB (az 3) ?_;refine aB (ao (aC 7)) ?_
 refine aB (az 4) aG;refine aL ?_ ?_;refine bY ?_ ?_ bZ;refine fO ?_;refine lN ?_ ?_;refine bQ (lU hr) (ao (aC 7)) (ao (aC 5)) (bC _);refine lN ?_ ?_;refine bQ (dw hr) (ao (aC 7)) ?_ (bC _);refine aM ?_;refine cZ (ms:=[.s]) (hv:=dF) dD B.len_ ?_;refine aB (az 2) aG;refine nD ?_;refine bQ Vh (ao (aC 8)) (ao (aC 9)) (by with_unfolding_all rfl);refine aN (bJ fH);refine aL ?_ ?_;refine fM rfl ?_ (cY (i:=10) j0.nd rfl (.inl rfl)) ?_;refine pJ (rE (aC 9));refine aL ?_ ?_;refine bu (i:=11) j0.nd rfl (.inl rfl) ?_;refine bh ?_;refine aW cP ?_ ?_;refine ao ?_
 refine bL oV (hr.mono (by decide)) ?_;refine aB (az 2) ?_;refine aB (ao (aC 7)) ?_;refine aB (ao (aC 10)) ?_;refine aB (az 4) aG;refine ao ?_;refine ik NK hr (cI (az 1)) ?_;refine dC 2 ?_;refine aV (aC 10) ?_;refine aV aF aG;refine aN ?_;refine bY ?_ ?_ bZ;refine fO ?_;refine lN ?_ ?_;refine fO ?_;refine km ?_ ?_;refine bQ (dw hr) (ao (aC 10)) (ao (aC 8)) (bC _);refine kj ?_;refine bQ (lU hr) (ao (aC 11)) ?_ (bC _);refine ao ?_;refine ik NK hr (cI (az 1)) ?_;refine dC 2 ?_;refine aV (aC 7) ?_;refine aV aF aG;refine nD ?_;refine fO ?_;refine km ?_ ?_
 refine bQ jQ (ao (aC 10)) (ao (aC 8)) (bC _);refine kj ?_;refine bQ (dw hr) (ao (aC 11)) ?_ (bC _);refine ao ?_;refine ik NK hr (cI (az 1)) ?_;refine dC 2 ?_;refine aV (aC 7) ?_;refine aV aF aG;refine aN (bJ fH);refine aL ?_ ?_;refine bu (i:=6) j0.nd rfl (.inl rfl) ?_;refine bh ?_;refine aW cP (ao (aC 6)) ?_;refine ao ?_;refine bL oV (hr.mono (by decide)) ?_;refine aB (az 2) ?_;refine aB (ao (aC 7)) ?_;refine aB (ao (aC 8)) ?_;refine aB (az 4) aG;refine aN (bu (i:=5) j0.nd rfl (.inl rfl) (aC 8));refine aN ?_;refine bJ ?_;refine iB ?_ ?_;refine bh ?_
 refine gw (dw hr) (ao (aC 5)) ?_ (bC _);refine aM ?_;refine cZ (ms:=[.s]) (hv:=dF) dD B.len_ ?_;refine aB (az 2) aG;refine jM ?_;refine bh ?_;refine gw (dw hr) (ao (aC 6)) ?_ (bC _);refine ao ?_;refine ik NK hr (cI (az 1)) ?_;refine dC 2 ?_;refine aV aF ?_;refine aV aF aG
abbrev jE:Stmt:=top 51
theorem mQ:bK ["_law_script","_law_letters_here","_law_wide_here","_law_spots","_law_handed","_law_prices","_law_found","_law_due"] ["_law_script"] (aY jE):=by trivial
def K1:MS :=
  (aA (aH 1 (aJ tE (aj (aa 0) (aj (mC (.int 2)) (aj (aJ vU (aj (aa 0) aq)) aq)))))
  (aA (aH 2 (aJ vM (aj (aa 0) aq)))
  (aA (aH 3 (aJ vO (aj (aa 1) aq)))
  (aA (aH 4 (aX lV (aj (aa 1) aq)))
  (aA (aH 5 (aJ qe (aj (jV "Even" mJ (aj (aa 4) (aj (aa 2) aq))) aq)))
  (aA (aZ (cO (bI (aJ vV (aj (aa 5) (aj (aa 1) (aj (aa 3) (aj (aa 2) aq))))))) (aU (mC (.bl false))) bj)
  (aA (aH 6 (aJ jY (aj (aa 4) (aj (aa 2) aq))))
  (aA (aZ (dN (aK (ak gEq (aa 1) (cg aq))) (cO (bI (aJ gO (aj (aa 6) (aj (cg (aj (bT (aj (mC (.int 0)) (aj (mC (.int 0)) aq))) aq)) aq)))))) (aU (mC (.bl false))) bj)
  (aA (aZ (dN (aK (ak gNe (aa 1) (cg aq))) (cO (bI (aJ vX (aj (aa 6) (aj (aa 5) (aj (aa 1) (aj (aa 3) (aj (aa 2) aq))))))))) (aU (mC (.bl false))) bj)
  (aA (aH 7 (dI (cF (aa 6)) 2 [] (jO 2 (fJ (mgN 0) (fJ (mgN 1) kE))) dJ (bT (aj (aa 0) (aj (aa 1) aq)))))
  (aA (dU 6 (bT (aj (mC (.int 0)) (aj (mC (.int 0)) aq))))
  (aU (d8 (aJ gO (aj (aJ qj (aj (aa 4) (aj (aa 2) (aj (mC (.str [101,118,101,110])) aq)))) (aj (aa 7) aq))) (d8 (aJ gO (aj (aJ jY (aj (aa 4) (aj (aa 2) aq))) (aj (aa 7) aq))) (ak gEq (aa 4) (aa 1))))))))))))))))
def K3:List D->au->Res D:=bF 8 K1
abbrev Ze(Pr:Program)(w:World)(K:Frag)(mg:Str->Option Value)(base:Heap):Prop:=Can Pr w K mg base "law" ["_law_script"] 10 (vSp K mg [.s] (rV K) K3)
theorem Zf(Dt:Def K mg "law" jE)
  (B:bR mg)
  (NK:bH K=true)
  (Du:Kr Pr w K mg base)
  (Dv:KJ Pr w K mg base)
  (Dw:Ku Pr w K mg base)
  (Dy:Ky Pr w K mg base)
  (qg:Ay Pr w K mg base)
  (qi:Bl Pr w K mg base)
  (Dz:KR Pr w K mg base)
  (oK:Bp Pr w K mg base)
  (jZ:Kh Pr w K mg base)
  (DG:KZ Pr w K mg base)
  (DK:Kd Pr w K mg base):
  Ze Pr w K mg base:=by
 refine cB (k:=9) (b:=K1) Dt mQ (λ_ _ _ _ _ _=>aQ λ_=>bV rfl) [.s] [.v,.v,.v,.o,.v,.o,.v] cj (λ_ _ _ _=>Rp.non) (body:=λf cdv A outer s H E hr P=>?_);refine aL ?_ ?_;refine bu (i:=1) mQ.nd rfl (.inl rfl) ?_;refine bh ?_;refine g8 Du (hr.mono (by decide)) ?_;refine aB (az 0) ?_;refine aB (ao aF) ?_;refine aB ?_ aG;refine ao ?_;refine bL Dv (hr.mono (by decide)) ?_;refine aB (az 0) aG;refine aL ?_ ?_;refine bu (i:=2) mQ.nd rfl (.inl rfl) ?_;refine bL Dw (hr.mono (by decide)) ?_;refine aB (az 0) aG;refine aL ?_ ?_;refine bu (i:=3) mQ.nd rfl (.inl rfl) ?_
 refine bh ?_;refine g8 Dy (hr.mono (by decide)) ?_;refine aB (ao (aC 1)) aG;refine aL ?_ ?_;refine jr (i:=4) mQ.nd rfl (.inl rfl) ?_;refine nQ (ms:=[.s]) (hv:=rz) Hy B.list_ ?_;refine aB (ao (aC 1)) aG;refine aL ?_ ?_;refine bu (i:=5) mQ.nd rfl (.inl rfl) ?_;refine bL qg (hr.mono (by decide)) ?_;refine aB ?_ aG;refine ao ?_;refine H9 qi (hr.mono (by decide)) ?_;refine aB (az 4) ?_;refine aB (ao (aC 2)) aG;refine aL ?_ ?_;refine bY ?_ ?_ bZ;refine gU ?_;refine d7 ?_;refine ao ?_;refine bL Dz (hr.mono (by decide)) ?_;refine aB (ao (aC 5)) ?_;refine aB (ao (aC 1)) ?_
 refine aB (ao (aC 3)) ?_;refine aB (ao (aC 2)) aG;refine aN (bJ fH);refine aL ?_ ?_;refine jr (i:=6) mQ.nd rfl (.inl rfl) ?_;refine g8 oK (hr.mono (by decide)) ?_;refine aB (az 4) ?_;refine aB (ao (aC 2)) aG;refine aL ?_ ?_;refine bY ?_ ?_ bZ;refine fO ?_;refine km ?_ ?_;refine bQ (dw hr) (ao (aC 1)) ?_ (bC _);refine aM (dM 0 aG);refine kj ?_;refine gU ?_;refine d7 ?_;refine ao ?_;refine bL jZ (hr.mono (by decide)) ?_;refine aB (az 6) ?_;refine aB ?_ aG;refine aM ?_;refine dM 1 ?_;refine aV ?_ aG;refine dC 2 ?_;refine aV aF ?_;refine aV aF aG
 refine aN (bJ fH);refine aL ?_ ?_;refine bY ?_ ?_ bZ;refine fO ?_;refine km ?_ ?_;refine bQ (lU hr) (ao (aC 1)) ?_ (bC _);refine aM (dM 0 aG);refine kj ?_;refine gU ?_;refine d7 ?_;refine ao ?_;refine bL DG (hr.mono (by decide)) ?_;refine aB (az 6) ?_;refine aB (ao (aC 5)) ?_;refine aB (ao (aC 1)) ?_;refine aB (ao (aC 3)) ?_;refine aB (ao (aC 2)) aG;refine aN (bJ fH);refine aL ?_ ?_;refine xC (i:=7) (aY jE) ["_law_script","_law_letters_here","_law_wide_here","_law_spots","_law_handed","_law_prices","_law_found","_law_due"] ["_law_lo","_law_hi"] [] mQ.nd rfl (.inl rfl) rfl (lZ (az 6)) (λ_ _ _ _ P=>?_) (λ_ _ _ _ P=>?_) (λ_ _ _ _ P=>?_)
 refine xB 2 rfl ?_;refine pB (cY (i:=0) (show(bW ["_law_script","_law_letters_here","_law_wide_here","_law_spots","_law_handed","_law_prices","_law_found","_law_due"] ["_law_lo","_law_hi"] []).Nodup by decide +kernel) rfl (.inl rfl)) ?_;refine pB (cY (i:=1) (show(bW ["_law_script","_law_letters_here","_law_wide_here","_law_spots","_law_handed","_law_prices","_law_found","_law_due"] ["_law_lo","_law_hi"] []).Nodup by decide +kernel) rfl (.inl rfl)) xA;exact lQ;refine dC 2 ?_;refine aV (aC 0) ?_;refine aV (aC 1) aG;refine aL ?_ ?_;refine kJ 6 ?_;refine dC 2 ?_;refine aV aF ?_
 refine aV aF aG;refine aN ?_;refine bJ ?_;refine iB ?_ ?_;refine bL jZ (hr.mono (by decide)) ?_;refine aB ?_ ?_;refine aM ?_;refine g8 DK (hr.mono (by decide)) ?_;refine aB (az 4) ?_;refine aB (ao (aC 2)) ?_;refine aB (ao (dY [101,118,101,110])) aG;refine aB (ao (aC 7)) aG;refine iB ?_ ?_;refine bL jZ (hr.mono (by decide)) ?_;refine aB ?_ ?_;refine aM ?_;refine g8 oK (hr.mono (by decide)) ?_;refine aB (az 4) ?_;refine aB (ao (aC 2)) aG;refine aB (ao (aC 7)) aG;refine jM ?_;refine bh ?_;refine gw (dw hr) (az 4) (ao (aC 1)) (bC _)
end
theorem bO{g:D->D->Option D}{a b:L2.M D}{ρ:aD}{O:au}{x y z:D}(ha:a ρ O=.ok x O)(hb:b ρ O=.ok y O)(h:g (bx O x) (bx O y)=some z):ak g a b ρ O=.ok z O:=by
 rw[dW,ha,aO,hb,aO,h,dj]
theorem ma1{a:L2.M D}{ρ:aD}{O:au}{x:D}(h:a ρ O=.ok x O):aj a aq ρ O=.ok [x] O:=by
 rw[dz,h,aO,dG,aO]
theorem maS{a:L2.M D}{r:L2.M (List D)}{ρ:aD}{O:au}{x:D}{xs:List D}(h:a ρ O=.ok x O)(h2:r ρ O=.ok xs O):aj a r ρ O=.ok (x::xs) O:=by
 rw[dz,h,aO,h2,aO]
theorem oW{m:L2.M (List D)}{ρ:aD}{O:au}{xs:List D}(h:m ρ O=.ok xs O)(hl:xs.length<=1000000):bT m ρ O=.ok (.tup xs) O:=by
 rw[ye,h,aO,if_pos hl]
theorem tH{m:L2.M (List D)}{ρ:aD}{O:au}{xs:List D}(h:m ρ O=.ok xs O)(hl:xs.length<=1000000):cg m ρ O=.ok (.lst xs) O:=by
 rw[rN,h,aO,if_pos hl]
theorem lB{g:List D->Option D}{m:L2.M (List D)}{ρ:aD}{O:au}{xs:List D}{z:D}(h:m ρ O=.ok xs O)(hg:g (xs.map (bx O))=some z):aX g m ρ O=.ok z O:=by
 rw[gf,h,aO,hg,dj]
theorem vY{i:Nat}{m:L2.M D}{ρ:aD}{O:au}{d:D}{ds:List D}(hm:m ρ O=.ok d O)(h:ρ[i]?=some (some (.lst ds)))(hl:ds.length<1000000):dU i m ρ O=.nx (ρ.set i (some (.lst (ds++[d])))) O:=by
 rw[yq,hm,rZ h hl]
theorem du{i:Nat}{m:L2.M D}{ρ:aD}{O:au}{d:D}(h:m ρ O=.ok d O):aH i m ρ O=.nx (ρ.set i (some d)) O:=by
 rw[fX,h,fY]
theorem cz{c:List D->au->Res D}{ma:L2.M (List D)}{ρ:aD}{O:au}{ds:List D}(h:ma ρ O=.ok ds O):aJ c ma ρ O=c ds O:=by
 rw[gb,h,aO]
theorem gk{m:L2.M D}{ρ:aD}{O:au}{b:Bool}(h:m ρ O=.ok (.bl b) O):aK m ρ O=.ok b O:=by
 rw[fW,h,aO,fV]
theorem iu{t:L2.M Bool}{a b:MS}{ρ:aD}{O:au}(h:t ρ O=.ok true O):aZ t a b ρ O=a ρ O:=by
 rw[iI,h,jy,if_pos rfl]
theorem if_no{t:L2.M Bool}{a b:MS}{ρ:aD}{O:au}(h:t ρ O=.ok false O):aZ t a b ρ O=b ρ O:=by
 rw[iI,h,jy,if_neg zj]
theorem lC{m:L2.M D}{ρ:aD}{O:au}{l:List D}(h:m ρ O=.ok (.lst l) O):aX bz (aj m aq) ρ O=.ok (.int (l.length:Int)) O:=lB (ma1 h) rfl
theorem vZ{m:L2.M D}{ρ:aD}{O:au}{n:Nat}(h:m ρ O=.ok (.int (n:Int)) O)(hn:n<=1000000):eY (aj m aq) ρ O=.ok (bM 0 n) O:=by
 rw[Jk,ma1 h,aO];show(if(n:Int)<=1000000000/\-1000000000<=(n:Int) then Res.ok (bM 0 (n:Int).toNat) O else .no)=_;rw[if_pos ⟨by omega,by omega⟩,Int.toNat_natCast]
theorem mR{a b:L2.M D}{ρ:aD}{O:au}{i j:Int}(ha:a ρ O=.ok (.int i) O)(hb:b ρ O=.ok (.int j) O)(hj:0<j):ak bU a b ρ O=.ok (.int (i % j)) O:=bO ha hb (by rw[dg,dg,uM,if_pos hj])
theorem mU{a b:L2.M D}{ρ:aD}{O:au}{i j:Int}(ha:a ρ O=.ok (.int i) O)(hb:b ρ O=.ok (.int j) O):ak bf a b ρ O=.ok (.int (i+j)) O:=bO ha hb rfl
theorem DN{a b:L2.M D}{ρ:aD}{O:au}{i j:Int}(ha:a ρ O=.ok (.int i) O)(hb:b ρ O=.ok (.int j) O):ak eV a b ρ O=.ok (.int (i - j)) O:=bO ha hb rfl
theorem K4{a b:L2.M D}{ρ:aD}{O:au}{i j:Int}(ha:a ρ O=.ok (.int i) O)(hb:b ρ O=.ok (.int j) O):aK (ak gLt a b) ρ O=.ok (decide (i<j)) O:=gk (bO ha hb rfl)
theorem mV{a b:L2.M D}{ρ:aD}{O:au}{i j:Int}(ha:a ρ O=.ok (.int i) O)(hb:b ρ O=.ok (.int j) O):aK (ak gEq a b) ρ O=.ok (decide (i=j)) O:=gk (bO ha hb rfl)
theorem K5{α:Type}(l:List α)(a b:Nat):eU l (some (a:Int)) (some (b:Int))=(l.drop a).take (b - a):=by
 unfold eU;rw[HT.sIx_nat,HT.sIx_nat]
 by_cases h:a<=l.length
 ·rw[Nat.min_eq_left h]
  by_cases hb:b<=l.length
  ·rw[Nat.min_eq_left hb]
  ·rw[Nat.min_eq_right (by omega),List.take_of_length_le (by rw[List.length_drop];omega),List.take_of_length_le (by rw[List.length_drop];omega)]
 ·rw[Nat.min_eq_right (show l.length<=a by omega),List.drop_eq_nil_of_le (show l.length<=l.length by omega),List.drop_eq_nil_of_le (show l.length<=a by omega)];simp
@[simp] theorem QAl{a:Nat}:eU [a] none (some 2)=[a]:=rfl
@[simp] theorem Qzo{i:Int}:cW (.int i) (.int 48271)=some (.int (i * 48271)):=mz (.inr ⟨by decide,by decide⟩)
@[simp] theorem Qzl{i:Int}:cW (.int i) (.int 7919)=some (.int (i * 7919)):=mz (.inr ⟨by decide,by decide⟩)
@[simp] theorem Zg{i:Int}:cW (.int 7) (.int i)=some (.int (7 * i)):=mz (.inl ⟨by decide,by decide⟩)
theorem Zh{l:List Nat}{n:Int}(h:-1000000<n/\n<1000000/\l.length * n.toNat<=16777216):cW (.str l) (.int n)=some (.str (List.replicate n.toNat l).flatten):=by
 show(if -1000000<n/\n<1000000/\l.length * n.toNat<=16777216 then _ else _)=_;rw[if_pos h]
@[simp] theorem Zi{a b c d:D}:gIx (.tup [a,b,c,d]) (.int 0)=some a:=rfl
theorem wg(n k:Int)(h0:0<=k)(h1:k<=1000000)(O:au):jB [.int n,.int k] O=.ok (.int (mix n k)) O:=Jx n k h0 h1 O
theorem tK(ns:List Int)(k:Int)(h0:0<=k)(h1:k<=1000)(O:au):∃v,fZ [.lst (ns.map D.int),.int k] O=.ok (.int v) O:=by
 by_cases hk:k<ns.length
 ·obtain⟨x,hx,ex⟩:=rY (xs:=ns.map D.int) h0 (by simpa using hk);obtain⟨n,_,rfl⟩:=zE.mp ex;exact⟨n,by simp[fZ,sY,hk,kZ,hx]⟩
 ·have hkk:=mz (i:=k) (j:=k) (.inl ⟨by omega,by omega⟩)
  by_cases hn:0<ns.length
  ·have hn':(0:Int)<ns.length:=by omega
   obtain⟨x,hx,ex⟩:=rY (xs:=ns.map D.int) (i:=k % (ns.length:Int)) (zS _ (by omega)) (by simpa using zW k hn');obtain⟨n,_,rfl⟩:=zE.mp ex;exact⟨(k * k * 7919+104729+n % 1000003 * 48271) * 48271 % 2147483647,by simp[fZ,sY,hk,hkk,kZ,hx,hn]⟩
  ·have:ns=[]:=List.eq_nil_of_length_eq_zero (by omega)
   subst this;exact⟨(k * k * 7919+104729) * 48271 % 2147483647,by simp[fZ,sY,hkk];omega⟩
theorem DP{lo:Int}{n i:Nat}{d:D}(h:(bM lo n)[i]?=some d):i<n/\d=.int (lo+i):=by
 unfold bM at h;rw[zA] at h
 cases q:(List.range n)[i]? with
 |none=>rw[q] at h;cases h
 |some c =>
  rw[q] at h;obtain⟨a,b⟩:=zl.mp q;simp at a b;simp at h;exact⟨a,by rw[<-h,b]⟩
theorem Zj{m:Int}(h0:0<=m)(h1:m<2147483629):cW (.int m) (.int m)=some (.int (m * m)):=mz (.inl ⟨by omega,by omega⟩)
theorem Zk(n:Int)(O:au):∃xs:List Int,xs.length=7/\qm [.int n,.int 7] O=.ok (.lst (xs.map D.int)) O:=by
 obtain⟨ρ',O',e,rfl,m,r,ys,o5,rfl,hl⟩:=iJ (g:=mgN 5)
  (b:=aZ (aK (ak gGt (aa 0) (ak eX (mC (.int 10)) (mC (.int 18))))) (aA (dU 4 (ak bU (aa 3) (ak eX (mC (.int 10)) (mC (.int 9)))))
  (aH 3 (ak gD (aa 3) (ak eX (mC (.int 10)) (mC (.int 9)))))) (aA (aH 2 (ak bU (ak bf (ak cW (aa 2) (mC (.int 48271))) (mC (.int 104729))) (mC (.int 2147483629))))
  (dU 4 (ak gD (ak bU (ak cW (aa 2) (aa 2)) (mC (.int 998244353))) (mC (.int 11))))))
  (λi ρ O'=>O'=O/\∃m r ys o5,ρ=[some (.int n),some (.int 7),some (.int m),some (.int r),some (.lst (ys.map D.int)),o5]/\ys.length=i) (bM 0 7) 0
  [some (.int n),some (.int 7),some (.int ((n % 2147483647+7919) * 48271+104729)),some (.int n),some (.lst []),none] O ⟨rfl,_,_,[],_,rfl,rfl⟩ (by
   rintro i d ρ O' hi ⟨rfl,m,r,ys,o5,rfl,hl⟩;have hi':=(DP hi).1;refine⟨_,rfl,?_⟩
   have hz:(ys.map D.int).length<1000000:=by rw[ze];omega
   by_cases hn:n>1000000000000000000
   ·refine⟨_,_,.inl ?_,rfl,m,r / 1000000000,ys++[r % 1000000000],some d,rfl,by simp[hl]⟩;simp[hn];rw[rZ (ds:=ys.map D.int) rfl hz];simp
   ·have h0:0<=(m * 48271+104729) % 2147483629:=zS _ (by decide);have h1:=zW (m * 48271+104729) (show(0:Int)<2147483629 by decide);refine⟨_,_,.inl ?_,rfl,(m * 48271+104729) % 2147483629,r,ys++[(m * 48271+104729) % 2147483629 * ((m * 48271+104729) % 2147483629) % 998244353 / 11],some d,rfl,by simp[hl]⟩;simp[hn,Zj h0 h1];rw[rZ (ds:=ys.map D.int) rfl hz]
    simp)
 refine⟨ys,by simpa [bM] using hl,?_⟩;simp[qm,Cr,e]
theorem Zm{l:List Nat}{v:Int}(hl:l.length<=1000000)(hn:0<l.length):∃c,c∈l/\gIx (.str l) (.int (v % (l.length:Int)))=some (.str [c]):=by
 obtain⟨c,h1,h2⟩:=rY (xs:=l) (i:=v % (l.length:Int)) (zS _ (by omega)) (zW _ (by omega));exact⟨c,h2,by rw[ym,if_pos hl,h1];rfl⟩
theorem ixS{l:List Nat}{v n:Int}(hl:l.length<=1000000)(h:(l.length:Int)=n)(hn:0<n):∃c,c∈l/\gIx (.str l) (.int (v % n))=some (.str [c]):=by
 obtain⟨c,h1,h2⟩:=rY (xs:=l) (i:=v % n) (zS _ (by omega)) (by rw[h];exact zW _ hn);exact⟨c,h2,by rw[ym,if_pos hl,h1];rfl⟩
theorem ixL{l:List D}{v n:Int}(h:(l.length:Int)=n)(hn:0<n):∃c,c∈l/\gIx (.lst l) (.int (v % n))=some c:=by
 obtain⟨c,h1,h2⟩:=rY (xs:=l) (i:=v % n) (zS _ (by omega)) (by rw[h];exact zW _ hn);exact⟨c,h2,h1⟩
def dh:List Nat:=[97,98,99,100,101,102,103,104,105,106,107,108,109,110,111,112,113,114,115,116,117,118,119,120,121,122]
def cH:List Nat:=[65,66,67,68,69,70,71,72,73,74,75,76,77,78,79,80,81,82,83,84,85,86,87,88,89,90]
def others:List Nat:=[33,34,35,36,38,39,40,41,42,43,44,45,46,47,48,49,50,51,52,53,54,55,56,57,58,59,60,61,62,63,64,91,92,93,94,95,96,123,124,125]
structure Sgn(s:List Nat):Prop where
 pos:0<s.length
 le:s.length<=100
 ok:∀c∈s,32<=c/\c<=125
theorem DQ:Sgn dh:=⟨by decide,by decide,by decide⟩
theorem Zn:Sgn cH:=⟨by decide,by decide,by decide⟩
theorem Zo:Sgn others:=⟨by decide,by decide,by decide⟩
theorem Zq:Sgn (dh++cH):=⟨by decide,by decide,by decide⟩
theorem K6:Sgn [32]:=⟨by decide,by decide,by decide⟩
def jF(s:List Nat)(v:Int):Nat:=(s[(v % (s.length:Int)).toNat]?).getD 0
theorem K7{s:List Nat}(h:Sgn s)(v:Int):jF s v∈s/\gIx (.str s) (.int (v % (s.length:Int)))=some (.str [jF s v]):=by
 obtain⟨c,h1,h2⟩:=Zm (l:=s) (v:=v) (by have:=h.le;omega) h.pos;have h0:0<=v % (s.length:Int):=zS _ (by have:=h.pos;omega);obtain⟨j,hj⟩:=Int.eq_ofNat_of_zero_le h0
 have e:gIx (.str s) (.int (v % (s.length:Int)))=(s[j]?).map (λc=>D.str [c]):=by
  rw[ym,if_pos (by have:=h.le;omega),hj,jz]
 rw[h2] at e;unfold jF;rw[hj,Int.toNat_natCast]
 cases q:s[j]? with
 |none=>rw[q] at e;cases e
 |some x =>
  rw[q] at e;cases e;rw[<-hj];exact⟨h1,h2⟩
theorem K8(w:Nat):((List.range w).map λ_=>1).sum=w:=by rw[List.map_const',List.sum_replicate_nat,List.length_range,Nat.mul_one]
def DR:MS:=(aA (aH 7 (uA (dI (eY (aj (aa 5) aq)) 1 [0,6] (mgN 0) dJ (ak gIx (aa 2) (ak bU (ak bf (ak gIx (aa 1) (mC (.int 2))) (ak cW (mC (.int 7)) (aa 0))) (aX bz (aj (aa 2) aq)))))))
  (aU (ak bf (aa 7) (ak cW (mC (.str [32])) (ak gD (ak bU (ak gIx (aa 0) (mC (.int 3))) (mC (.int 5))) (mC (.int 2)))))))
theorem Zr(X:D)(hX:∀O,bx O X=X){x0 x1 x2 x3:Int}(i0:gIx X (.int 0)=some (.int x0))(i1:gIx X (.int 1)=some (.int x1))(i2:gIx X (.int 2)=some (.int x2))(i3:gIx X (.int 3)=some (.int x3))(O:au):∃t:List Nat,t.length<=60/\(∀c∈t,32<=c/\c<=125)/\qp [X] O=.ok (.str t) O:=by
 obtain⟨m,hm,em⟩:∃m:Int,(1<=m/\m<=40)/\gIx (.lst [.int 4,.int 6,.int 9,.int 40,.int 4,.int 3,.int 1,.int 2]) (.int (x0 % 8))=some (.int m):=by
  obtain⟨c,hc,ec⟩:=ixL (l:=[.int 4,.int 6,.int 9,.int 40,.int 4,.int 3,.int 1,.int 2]) (v:=x0) (n:=8) rfl (by decide);simp only[zn,List.not_mem_nil,or_false] at hc
  rcases hc with rfl | rfl | rfl | rfl | rfl | rfl | rfl | rfl
  all_goals exact⟨_,by decide,ec⟩
 obtain⟨s,hs,es⟩:∃s:List Nat,Sgn s/\gIx (.lst [.str dh,.str dh,.str (dh++cH),.str dh,.str cH,.str [32],.str [32],.str others]) (.int (x0 % 8))=some (.str s):=by
  obtain⟨c,hc,ec⟩:=ixL (l:=[.str dh,.str dh,.str (dh++cH),.str dh,.str cH,.str [32],.str [32],.str others]) (v:=x0) (n:=8) rfl (by decide);simp only[zn,List.not_mem_nil,or_false] at hc
  rcases hc with rfl | rfl | rfl | rfl | rfl | rfl | rfl | rfl
  ·exact⟨_,DQ,ec⟩
  ·exact⟨_,DQ,ec⟩
  ·exact⟨_,Zq,ec⟩
  ·exact⟨_,DQ,ec⟩
  ·exact⟨_,Zn,ec⟩
  ·exact⟨_,K6,ec⟩
  ·exact⟨_,K6,ec⟩
  ·exact⟨_,Zo,ec⟩
 have hm0:(0:Int)<m:=by omega
 have w0:=zS x1 (show m≠0 by omega);have w1:=zW x1 hm0;obtain⟨w,hw⟩:=Int.eq_ofNat_of_zero_le (show 0<=1+x1 % m by omega)
 have hw40:w<=40:=by omega
 have z1:dh.length+cH.length<=1000000:=by decide
 have pre:qp [X] O=bB (DR [some X,some (.str dh),some (.str cH),some (.str others),some (.int (x0 % 8)),some (.int (w:Int)),some (.str s),none] O):=by
  have s4:=du (i:=4) (mR (b:=mC (.int 8)) (bO (a:=aa 0) (b:=mC (.int 0)) (ρ:=[some X,some (.str dh),some (.str cH),some (.str others),none,none,none,none]) (O:=O) (x:=X) rfl rfl (by rw[hX];exact i0)) rfl (by decide));have s5:=du (i:=5) (mU (a:=mC (.int 1)) rfl (mR (bO (a:=aa 0) (b:=mC (.int 1)) (ρ:=[some X,some (.str dh),some (.str cH),some (.str others),some (.int (x0 % 8)),none,none,none]) (O:=O) (x:=X) rfl rfl (by rw[hX];exact i1)) (bO (a:=cg (aj (mC (.int 4)) (aj (mC (.int 6)) (aj (mC (.int 9)) (aj (mC (.int 40)) (aj (mC (.int 4)) (aj (mC (.int 3)) (aj (mC (.int 1)) (aj (mC (.int 2)) aq))))))))) (b:=aa 4) (y:=.int (x0 % 8)) (tH rfl (by decide)) rfl em) hm0))
  rw[hw] at s5;have s6:=du (i:=6) (bO (g:=gIx) (a:=cg (aj (aa 1) (aj (aa 1) (aj (ak bf (aa 1) (aa 2)) (aj (aa 1) (aj (aa 2) (aj (mC (.str [32])) (aj (mC (.str [32])) (aj (aa 3) aq))))))))) (b:=aa 4) (ρ:=[some X,some (.str dh),some (.str cH),some (.str others),some (.int (x0 % 8)),some (.int (w:Int)),none,none]) (O:=O) (y:=.int (x0 % 8)) (tH (xs:=[.str dh,.str dh,.str (dh++cH),.str dh,.str cH,.str [32],.str [32],.str others]) (maS rfl (maS rfl (maS (bO (x:=.str dh) (y:=.str cH) rfl rfl (by rw[iH,iH,Jl,if_pos z1])) (maS rfl (maS rfl (maS rfl (maS rfl (ma1 rfl)))))))) (show(8:Nat)<=1000000 by decide)) rfl es)
  show bB (aA (aH 1 (mC (.str dh))) (aA (aH 2 (mC (.str cH))) (aA (aH 3 (mC (.str others))) (aA _ (aA _ (aA _ DR))))) [some X,none,none,none,none,none,none,none] O)=_;rw[bw,show aH 1 (mC (.str dh)) [some X,none,none,none,none,none,none,none] O=.nx [some X,some (.str dh),none,none,none,none,none,none] O from rfl,bA,bw,show aH 2 (mC (.str cH)) [some X,some (.str dh),none,none,none,none,none,none] O=.nx [some X,some (.str dh),some (.str cH),none,none,none,none,none] O from rfl,bA,bw,show aH 3 (mC (.str others)) [some X,some (.str dh),some (.str cH),none,none,none,none,none] O=.nx [some X,some (.str dh),some (.str cH),some (.str others),none,none,none,none] O from rfl,bA,bw,s4,bA,bw]
  show bB (il (aH 5 _ [some X,some (.str dh),some (.str cH),some (.str others),some (.int (x0 % 8)),none,none,none] O) _)=_;rw[s5,bA,bw];show bB (il (aH 6 _ [some X,some (.str dh),some (.str cH),some (.str others),some (.int (x0 % 8)),some (.int (w:Int)),none,none] O) _)=_;rw[s6,bA];rfl
 have ec:dR (mgN 0) dJ (ak gIx (aa 2) (ak bU (ak bf (ak gIx (aa 1) (mC (.int 2))) (ak cW (mC (.int 7)) (aa 0))) (aX bz (aj (aa 2) aq)))) (bM 0 w) [none,some X,some (.str s)] O []=.ok ((List.range w).map λ(k:Nat)=>.str [jF s (x2+7 * (0+(k:Int)))]) O:=by
  unfold bM
  rw[lg (λρ=>∃a,ρ=[a,some X,some (.str s)]) (λ(k:Nat)=>D.int (0+(k:Int))) (λ(k:Nat)=>D.str [jF s (x2+7 * (0+(k:Int)))]) (List.range w) _ O [] ⟨_,rfl⟩ (by
   rintro k hk ρ ⟨a,rfl⟩;refine⟨_,rfl,⟨_,rfl⟩,rfl,?_⟩;have hp:=(K7 hs (x2+7 * (0+(k:Int)))).2
   have hl:s.length<=1000000:=by have:=hs.le;omega
   have hl':(0:Int)<s.length:=by have:=hs.pos;omega
   simp only[dW,cJ,zN,zt,zw,m_c,aO,hX,dg,iH,i2,dj,Zg,ir,gf,dz,dG,zd,zC,Xo,if_pos hl,uM,if_pos hl',hp])]
  simp
 have e2:=Js (f:=λk:Nat=>[jF s (x2+7 * (0+(k:Int)))]) (List.range w)
 have z0:(bM 0 w).length<=1000000:=by rw[oE];omega
 have z3:((((List.range w).map λk:Nat=>[jF s (x2+7 * (0+(k:Int)))]).map List.length).sum)<=1000000:=by
  rw[zR]
  have:(List.length ∘ λk:Nat=>[jF s (x2+7 * (0+(k:Int)))])=λ_=>1:=rfl
  rw[this,K8];omega
 have y0:=zS x3 (show(5:Int)≠0 by decide);have y1:=zW x3 (show(0:Int)<5 by decide)
 have y2:0<=x3 % 5 / 2:=by omega
 have y3:x3 % 5 / 2<=2:=by omega
 have gm:=Zh (l:=[32]) (n:=x3 % 5 / 2) ⟨by omega,by omega,by simp;omega⟩
 have tl:(((List.range w).map λk:Nat=>[jF s (x2+7 * (0+(k:Int)))]).flatten).length=w:=by
  rw[List.length_flatten,zR]
  have:(List.length ∘ λk:Nat=>[jF s (x2+7 * (0+(k:Int)))])=λ_=>1:=rfl
  rw[this,K8]
 have rl:((List.replicate (x3 % 5 / 2).toNat [32]).flatten).length<=2:=by
  simp
  omega
 refine⟨((List.range w).map λk:Nat=>[jF s (x2+7 * (0+(k:Int)))]).flatten++(List.replicate (x3 % 5 / 2).toNat [32]).flatten,by rw[zF,tl];omega,λc hc=>?_,?_⟩
 ·rcases zJ.mp hc with hc | hc
  ·obtain⟨l,hl,hcl⟩:=List.mem_flatten.mp hc;obtain⟨k,_,rfl⟩:=zE.mp hl;rw[zm.mp hcl];exact hs.ok _ (K7 hs _).1
  ·obtain⟨l,hl,hcl⟩:=List.mem_flatten.mp hc;rw[(List.mem_replicate.mp hl).2] at hcl;rw[zm.mp hcl];decide
 ·rw[pre]
  have hr:(w:Int)<=1000000000/\-1000000000<=(w:Int):=by omega
  have ec':dR (mgN 0) dJ (ak gIx (aa 2) (ak bU (ak bf (ak gIx (aa 1) (mC (.int 2))) (ak cW (mC (.int 7)) (aa 0))) (aX bz (aj (aa 2) aq)))) (bM 0 w) (jP 1 [0,6] [some X,some (.str dh),some (.str cH),some (.str others),some (.int (x0 % 8)),some (.int (w:Int)),some (.str s),none]) O []=_:=ec;unfold DR;simp only[bw,fX,Xw,uK,Jk,dz,dG,cJ,zt,zw,aO,if_pos hr,Int.toNat_natCast,if_pos z0,ec',hX,dq,Xv,e2,Xu,if_pos z3,fY,bA,zN,zT,eE,dW,m_c,iH,dg,i3,dj,uM,Jm];simp only[show(0:Int)<5 from by decide,if_true,dj,aO,dg,Jm,show(0:Int)<2 from by decide,show(2:Int)<1073741824 from by decide,and_self,gm,iH,Jl]
  rw[if_pos (by rw[tl];omega)];rfl
abbrev LT:=Nat×Nat×Nat×Int
def dL(x:LT):D:=.tup [.str [x.1],.str [x.2.1],.str [x.2.2.1],.int x.2.2.2]
def OkL(x:LT):Prop:=(32<=x.1/\x.1<=125)/\x.2.1<=125/\x.2.2.1<=125
theorem signs_get{t:List Nat}{d:D}{i:Nat}(h:(gG t)[i]?=some d):∃c,c∈t/\d=.str [c]:=by
 unfold gG at h;rw[zA] at h
 cases q:t[i]? with
 |none=>rw[q] at h;cases h
 |some c =>
  rw[q] at h;simp at h;exact⟨c,zI q,h.symm⟩
def lD:List Nat:=[97,98,99,100,101,102,103,104,46]
def tL:MS:=aA (aZ (aK (ak gLt (aX bz (aj (aa 3) aq)) (aa 2))) (dU 3 (bT (aj (aa 7) (aj (ak gIx (mC (.str lD)) (ak bU (ak gIx (aa 6) (mC (.int 4))) (mC (.int 9)))) (aj (ak gIx (mC (.str lD)) (ak bU (ak gIx (aa 6) (mC (.int 5))) (mC (.int 9)))) (aj (aa 4) aq)))))) bj)
  (aH 4 (ak bf (ak bf (aa 4) (mC (.int 1))) (ak bU (ak gIx (aa 6) (mC (.int 6))) (mC (.int 3)))))
def wj:MS:=aA (aH 6 (aJ qm (aj (aJ fZ (aj (aa 0) (aj (ak bf (aa 1) (aa 5)) aq))) (aj (mC (.int 7)) aq))))
  (cu (cF (aJ qp (aj (aa 6) aq))) (mgN 7) tL)
theorem Zt(A X T:D)(a5:Option D)(hX:∀O,bx O X=X){x4 x5 x6:Int}(i4:gIx X (.int 4)=some (.int x4))(i5:gIx X (.int 5)=some (.int x5))(i6:gIx X (.int 6)=some (.int x6)){c4 c5:Nat}(e4:gIx (.str lD) (.int (x4 % 9))=some (.str [c4]))(e5:gIx (.str lD) (.int (x5 % 9))=some (.str [c5]))(h4:c4<=125)(h5:c5<=125)
  (most:Nat) (h2:most<=1000) (ls:List LT) (hl:ls.length<=most) (hok:∀x∈ls,OkL x) (p:Int) (c:Nat) (oc:32<=c/\c<=125) (O:au):
  ∃ls2:List LT,ls2.length<=most/\(∀x∈ls2,OkL x)/\tL [some A,some T,some (.int (most:Int)),some (.lst (ls.map dL)),some (.int p),a5,some X,some (.str [c])] O=.nx [some A,some T,some (.int (most:Int)),some (.lst (ls2.map dL)),some (.int (p+1+x6 % 3)),a5,some X,some (.str [c])] O:=by
 have hlen:=lC (m:=aa 3) (ρ:=[some A,some T,some (.int (most:Int)),some (.lst (ls.map dL)),some (.int p),a5,some X,some (.str [c])]) (O:=O) (l:=ls.map dL) rfl;rw[ze] at hlen;have t:=K4 (b:=aa 2) (j:=(most:Int)) hlen rfl
 have s4:∀L:D,aH 4 (ak bf (ak bf (aa 4) (mC (.int 1))) (ak bU (ak gIx (aa 6) (mC (.int 6))) (mC (.int 3)))) [some A,some T,some (.int (most:Int)),some L,some (.int p),a5,some X,some (.str [c])] O=.nx [some A,some T,some (.int (most:Int)),some L,some (.int (p+1+x6 % 3)),a5,some X,some (.str [c])] O:=λL =>
  du (mU (mU (i:=p) rfl rfl) (mR (bO (x:=X) rfl rfl (by rw[hX];exact i6)) rfl (by decide)))
 by_cases hm:ls.length<most
 ·have m4:=bO (g:=gIx) (a:=mC (.str lD)) rfl (mR (b:=mC (.int 9)) (bO (a:=aa 6) (b:=mC (.int 4)) (ρ:=[some A,some T,some (.int (most:Int)),some (.lst (ls.map dL)),some (.int p),a5,some X,some (.str [c])]) (O:=O) (x:=X) rfl rfl (by rw[hX];exact i4)) rfl (by decide)) e4;have m5:=bO (g:=gIx) (a:=mC (.str lD)) rfl (mR (b:=mC (.int 9)) (bO (a:=aa 6) (b:=mC (.int 5)) (ρ:=[some A,some T,some (.int (most:Int)),some (.lst (ls.map dL)),some (.int p),a5,some X,some (.str [c])]) (O:=O) (x:=X) rfl rfl (by rw[hX];exact i5)) rfl (by decide)) e5;have s3:=vY (i:=3) (ds:=ls.map dL) (oW (maS (a:=aa 7) (x:=.str [c]) rfl (maS m4 (maS m5 (ma1 (a:=aa 4) (x:=.int p) rfl)))) (show(4:Nat)<=1000000 by decide)) rfl (by rw[ze];omega)
  refine⟨ls++[(c,c4,c5,p)],by rw[zF];exact hm,λx hx=>?_,?_⟩
  ·rcases zJ.mp hx with hx | hx
   ·exact hok x hx
   ·rw[zm.mp hx];exact⟨oc,h4,h5⟩
  ·unfold tL;rw[bw,iu (by rw[t,zh (by omega)]),s3,bA,zY];exact s4 _
 ·refine⟨ls,hl,hok,?_⟩;unfold tL;rw[bw,if_no (by rw[t,zg (by omega)]),dZ,bA];exact s4 _
theorem ix7{xs:List Int}(h:xs.length=7)(k:Nat)(hk:k<7):∃x:Int,gIx (.lst (xs.map D.int)) (.int (k:Int))=some (.int x):=by
 refine⟨xs[k],?_⟩;rw[kZ,jz,zA,zo (by omega)];rfl
theorem K9:∀c∈lD,c<=125:=by decide
theorem Zu(ns:List Int)(at_:Nat)(h1:at_<=100)(most:Nat)(h2:most<=1000)(i:Nat)(hi:i<40)(ls:List LT)(hl:ls.length<=most)(hok:∀x∈ls,OkL x)(p:Int)(a6 a7:Option D)(O:au):
  ∃(ls2:List LT) (p2:Int) (b6 b7:Option D),ls2.length<=most/\(∀x∈ls2,OkL x)/\wj [some (.lst (ns.map D.int)),some (.int (at_:Int)),some (.int (most:Int)),some (.lst (ls.map dL)),some (.int p),some (.int (0+(i:Int))),a6,a7] O=.nx [some (.lst (ns.map D.int)),some (.int (at_:Int)),some (.int (most:Int)),some (.lst (ls2.map dL)),some (.int p2),some (.int (0+(i:Int))),b6,b7] O:=by
 obtain⟨v,ev⟩:=tK ns ((at_:Int)+(0+(i:Int))) (by omega) (by omega) O;obtain⟨xs,hx,ex⟩:=Zk v O;obtain⟨x0,i0⟩:=ix7 hx 0 (by decide);obtain⟨x1,i1⟩:=ix7 hx 1 (by decide);obtain⟨x2,i2⟩:=ix7 hx 2 (by decide);obtain⟨x3,i3⟩:=ix7 hx 3 (by decide);obtain⟨x4,i4⟩:=ix7 hx 4 (by decide);obtain⟨x5,i5⟩:=ix7 hx 5 (by decide);obtain⟨x6,i6⟩:=ix7 hx 6 (by decide)
 have hX:∀O,bx O (.lst (xs.map D.int))=.lst (xs.map D.int):=λ_=>rfl
 generalize (D.lst (xs.map D.int))=X at ex i0 i1 i2 i3 i4 i5 i6 hX
 obtain⟨t,ht,htok,et⟩:=Zr X hX i0 i1 i2 i3 O;obtain⟨c4,hc4,e4⟩:=ixS (l:=lD) (v:=x4) (n:=9) (by decide) rfl (by decide);obtain⟨c5,hc5,e5⟩:=ixS (l:=lD) (v:=x5) (n:=9) (by decide) rfl (by decide)
 have asc:ascii t=true:=by
  unfold ascii;rw[jo];intro c hc
  have:=htok c hc
  exact zh (by omega)
 obtain⟨ρ2,O2,e2,hO2,ls2,p2,o7,rfl,hl2,hok2⟩:=iJ (g:=mgN 7) (b:=tL)
  (λ_ ρ O2=>O2=O/\∃(ls:List LT) (p:Int) (o7:Option D),ρ=[some (.lst (ns.map D.int)),some (.int (at_:Int)),some (.int (most:Int)),some (.lst (ls.map dL)),some (.int p),some (.int (0+(i:Int))),some X,o7]/\ls.length<=most/\∀x∈ls,OkL x) (gG t) 0
  [some (.lst (ns.map D.int)),some (.int (at_:Int)),some (.int (most:Int)),some (.lst (ls.map dL)),some (.int p),some (.int (0+(i:Int))),some X,a7] O ⟨rfl,ls,p,a7,rfl,hl,hok⟩ (by
   rintro j d ρ O3 hj ⟨hO3,ls,p,o7,rfl,hl,hok⟩;obtain⟨c,hc,rfl⟩:=signs_get hj;obtain⟨ls2,g1,g2,g3⟩:=Zt (.lst (ns.map D.int)) X (.int (at_:Int)) (some (.int (0+(i:Int)))) hX i4 i5 i6 e4 e5 (K9 _ hc4) (K9 _ hc5) most h2 ls hl hok p c (htok c hc) O3
   exact⟨_,rfl,_,_,.inl g3,hO3,ls2,p+1+x6 % 3,some (.str [c]),rfl,g1,g2⟩)
 rw[hO2] at e2;refine⟨ls2,p2,some X,o7,hl2,hok2,?_⟩
 have c1:aJ qm (aj (aJ fZ (aj (aa 0) (aj (ak bf (aa 1) (aa 5)) aq))) (aj (mC (.int 7)) aq)) [some (.lst (ns.map D.int)),some (.int (at_:Int)),some (.int (most:Int)),some (.lst (ls.map dL)),some (.int p),some (.int (0+(i:Int))),a6,a7] O=.ok X O:=by
  rw[cz (maS (x:=.int v) (by rw[cz (maS (x:=.lst (ns.map D.int)) rfl (ma1 (mU (i:=(at_:Int)) rfl rfl))),ev]) (ma1 (x:=.int 7) rfl)),ex]
 have c2:cF (aJ qp (aj (aa 6) aq)) [some (.lst (ns.map D.int)),some (.int (at_:Int)),some (.int (most:Int)),some (.lst (ls.map dL)),some (.int p),some (.int (0+(i:Int))),some X,a7] O=.ok (gG t) O:=by
  rw[rR,cz (ma1 (x:=X) rfl),et,aO,Xl asc,rQ]
 unfold wj;rw[bw,du c1,bA];show cu _ _ _ [some (.lst (ns.map D.int)),some (.int (at_:Int)),some (.int (most:Int)),some (.lst (ls.map dL)),some (.int p),some (.int (0+(i:Int))),some X,a7] O=_;rw[gK,c2,gM,e2]
theorem few(a b:Int):∃n:Nat,(if(if a - b<40 then a - b else 40)>1 then(if a - b<40 then a - b else 40) else 1)=(n:Int)/\n<=40:=by
 refine⟨(if(if a - b<40 then a - b else 40)>1 then(if a - b<40 then a - b else 40) else 1).toNat,?_,?_⟩<;>(split<;>split<;>omega)
theorem Zv(ns:List Int)(at_ most:Nat)(h1:at_<=100)(h2:most<=1000)(hns:ns.length<=63)(O:au):∃ls:List LT,ls.length<=most/\(∀x∈ls,OkL x)/\tE [.lst (ns.map D.int),.int (at_:Int),.int (most:Int)] O=.ok (.lst (ls.map dL)) O:=by
 obtain⟨v0,e0⟩:=tK ns (at_:Int) (by omega) (by omega) O;have m0:=wg v0 0 (by decide) (by decide) O;obtain⟨n,hn,hn40⟩:=few (ns.length:Int) (at_:Int);obtain⟨ρ',O',e,hO,ls,p,o5,o6,o7,rfl,hl,hok⟩:=iJ (g:=mgN 5) (b:=wj)
  (λi ρ O'=>O'=O/\∃(ls:List LT) (p:Int) (o5 o6 o7:Option D),ρ=[some (.lst (ns.map D.int)),some (.int (at_:Int)),some (.int (most:Int)),some (.lst (ls.map dL)),some (.int p),o5,o6,o7]/\ls.length<=most/\∀x∈ls,OkL x) (bM 0 n) 0
  [some (.lst (ns.map D.int)),some (.int (at_:Int)),some (.int (most:Int)),some (.lst []),some (.int (mix v0 0 % 1000)),none,none,none] O ⟨rfl,[],_,_,_,_,rfl,Nat.zero_le _,λx hx=>(nomatch hx)⟩ (by
   rintro i d ρ O' hi ⟨hO',ls,p,o5,o6,o7,rfl,hl,hok⟩;obtain⟨hi',rfl⟩:=DP hi;obtain⟨ls2,p2,b6,b7,g1,g2,g3⟩:=Zu ns at_ h1 most h2 i (by omega) ls hl hok p o6 o7 O'
   exact⟨_,rfl,_,_,.inl g3,hO',ls2,p2,_,b6,b7,rfl,g1,g2⟩)
 rw[hO] at e;obtain⟨v9,e9⟩:=tK ns 0 (by decide) (by decide) O;have m9:=wg v9 9 (by decide) (by decide) O
 have s4:=du (i:=4) (mR (b:=mC (.int 1000)) (i:=mix v0 0) (j:=1000) (a:=aJ jB (aj (aJ fZ (aj (aa 0) (aj (aa 1) aq))) (aj (mC (.int 0)) aq))) (ρ:=[some (.lst (ns.map D.int)),some (.int (at_:Int)),some (.int (most:Int)),some (.lst []),none,none,none,none]) (O:=O) (by
  rw[cz (maS (x:=.int v0) (by rw[cz (maS (x:=.lst (ns.map D.int)) rfl (ma1 (x:=.int (at_:Int)) rfl)),e0]) (ma1 (x:=.int 0) rfl)),m0]) rfl (by decide))
 have hlen:=lC (m:=aa 0) (ρ:=[some (.lst (ns.map D.int)),some (.int (at_:Int)),some (.int (most:Int)),some (.lst []),some (.int (mix v0 0 % 1000)),none,none,none]) (O:=O) (l:=ns.map D.int) rfl;rw[ze] at hlen
 have cM:=lB (g:=q9) (z:=.int (n:Int)) (maS (a:=mC (.int 1)) (x:=.int 1) rfl (ma1 (lB (g:=rm) (z:=.int (if(ns.length:Int) - (at_:Int)<40 then(ns.length:Int) - (at_:Int) else 40)) (maS (a:=mC (.int 40)) (x:=.int 40) rfl (ma1 (DN (b:=aa 1) (j:=(at_:Int)) hlen rfl))) rfl))) (by
  rw[zd,zd,zC,dg,dg,Xp,hn])
 have c9:aJ jB (aj (aJ fZ (aj (aa 0) (aj (mC (.int 0)) aq))) (aj (mC (.int 9)) aq)) [some (.lst (ns.map D.int)),some (.int (at_:Int)),some (.int (most:Int)),some (.lst (ls.map dL)),some (.int p),o5,o6,o7] O=.ok (.int (mix v9 9)) O:=by
  rw[cz (maS (x:=.int v9) (by rw[cz (maS (x:=.lst (ns.map D.int)) rfl (ma1 (x:=.int 0) rfl)),e9]) (ma1 (x:=.int 9) rfl)),m9]
 have t9:=mV (b:=mC (.int 4)) (j:=4) (mR (b:=mC (.int 9)) (j:=9) c9 rfl (by decide)) rfl
 have pre:tE [.lst (ns.map D.int),.int (at_:Int),.int (most:Int)] O=bB (aA (aZ (aK (ak gEq (ak bU (aJ jB (aj (aJ fZ (aj (aa 0) (aj (mC (.int 0)) aq))) (aj (mC (.int 9)) aq))) (mC (.int 9))) (mC (.int 4)))) (aH 3 (cg aq)) bj) (aU (aa 3)) [some (.lst (ns.map D.int)),some (.int (at_:Int)),some (.int (most:Int)),some (.lst (ls.map dL)),some (.int p),o5,o6,o7] O):=by
  show bB (aA (aH 3 (cg aq)) (aA _ (aA (cu (eY (aj _ aq)) (mgN 5) wj) _)) [some (.lst (ns.map D.int)),some (.int (at_:Int)),some (.int (most:Int)),none,none,none,none,none] O)=_;rw[bw,show aH 3 (cg aq) [some (.lst (ns.map D.int)),some (.int (at_:Int)),some (.int (most:Int)),none,none,none,none,none] O=.nx [some (.lst (ns.map D.int)),some (.int (at_:Int)),some (.int (most:Int)),some (.lst []),none,none,none,none] O from rfl,bA,bw,s4,bA,bw,gK];show bB (il (yg (eY (aj _ aq) [some (.lst (ns.map D.int)),some (.int (at_:Int)),some (.int (most:Int)),some (.lst []),some (.int (mix v0 0 % 1000)),none,none,none] O) _ _ [some (.lst (ns.map D.int)),some (.int (at_:Int)),some (.int (most:Int)),some (.lst []),some (.int (mix v0 0 % 1000)),none,none,none]) _)=_
  rw[vZ cM (by omega),gM,e,bA]
 by_cases h4:mix v9 9 % 9=4
 ·refine⟨[],Nat.zero_le _,λx hx=>(nomatch hx),?_⟩;rw[pre,bw,iu (by rw[t9,zh h4])];rfl
 ·refine⟨ls,hl,hok,?_⟩;rw[pre,bw,if_no (by rw[t9,zg h4]),dZ,bA];rfl
def wid(c:Nat):Int:=if 65<=c/\c<=90 then 2 else 1
def trn(l:List LT):Nat->Nat
 | 0=>0
 |n+1=>if(l[n]?).map (λx=>x.1)=some 32 then trn l n else n+1
theorem tO(l:List LT):∀n,trn l n<=n
 | 0=>zc _
 |n+1=>by
  unfold trn
  split
  ·exact Nat.le_succ_of_le (tO l n)
  ·exact zc _
def wsum(l:List LT):Int:=(l.map λx=>wid x.1).sum
theorem La{α:Type}(f:α->Int):∀l:List α,gZ (l.map λx=>.int (f x))=some (l.map f)
 | []=>rfl
 |x::l=>by
  show(gZ (l.map λx=>D.int (f x))).map _=_;rw[La f l];rfl
theorem Lb{α:Type}(f:α->Int)(l:List α)(h:∀x∈l,0<=f x/\f x<=1000000)(hl:l.length<=1000000):pG [.lst (l.map λx=>.int (f x))]=some (.int (l.map f).sum):=by
 unfold pG;dsimp only;rw[La];show(if _ then _ else _)=_;rw[if_pos];rw[zp,jo];refine⟨λn hn=>?_,zh (by rw[ze];exact hl)⟩;obtain⟨x,hx,rfl⟩:=zE.mp hn
 have:=h x hx
 simp[this]
theorem Ld(c:Nat):0<=wid c/\wid c<=1000000:=by
 unfold wid
 split<;>decide
theorem Zw{x:LT}(h:OkL x):gY (dL x)=true/\(toP (dL x)).canLay0=true/\(toP (dL x)).depth<=5:=by
 obtain⟨⟨_,h1⟩,h2,h3⟩:=h;refine⟨rfl,?_,?_⟩
 ·have a:=yo (l:=[x.1]) (by simp;omega);have b:=yo (l:=[x.2.1]) (by simp;omega);have c:=yo (l:=[x.2.2.1]) (by simp;omega);show PyData.canLay0 (.tuple [.str (S [x.1]),.str (S [x.2.1]),.str (S [x.2.2.1]),.int x.2.2.2])=true;simp[PyData.canLay0,PyData.canLayAll0] at *
  try exact⟨a,b,c⟩
 ·show PyData.depth (.tuple [.str (S [x.1]),.str (S [x.2.1]),.str (S [x.2.2.1]),.int x.2.2.2])<=5;simp[PyData.depth,PyData.depthAll]
theorem Zx(l:List LT)(h:∀x∈l,OkL x):okE (.lst (l.map dL))=true:=Jv (n:=5) (by decide) λd hd=>by
 obtain⟨x,hx,rfl⟩:=zE.mp hd;exact Zw (h x hx)
theorem qy(c:Nat)(O:au):jA [.str [c]] O=.ok (.int (wid c)) O:=by
 simp[jA,yw,wid]
 by_cases h1:65<=c<;>by_cases h2:c<=90<;>simp[h1,h2]
theorem ixs{l:List LT}{i:Nat}{x:LT}(e:l[i]?=some x):gIx (.lst (l.map dL)) (.int (i:Int))=some (dL x):=by
 rw[kZ,jz,zA,e];rfl
def eO:List LT->Int->Nat
 | [],_=>0
 |x::xs,w=>if wid x.1<=w then eO xs (w - wid x.1)+1 else 0
theorem wk:∀(l:List LT) (w:Int),eO l w<=l.length
 | [],_=>zc _
 |x::xs,w=>by
  unfold eO
  split
  ·have:=wk xs (w - wid x.1)
   simp only[zx];omega
  ·exact Nat.zero_le _
theorem Le(c:Nat):1<=wid c/\wid c<=2:=by
 unfold wid
 split<;>decide
theorem Zy{l:List LT}{w:Int}(h:l≠[])(hw:2<=w):1<=eO l w:=by
 cases l with
 |nil=>exact absurd rfl h
 |cons x xs =>
  have:=Le x.1
  unfold eO;rw[if_pos (by omega)];omega
def rch(l:List LT)(lo:Nat)(w:Int):Nat:=lo+eO (l.drop lo) w
theorem Lf(l:List LT)(lo:Nat)(w:Int)(h:lo<=l.length):rch l lo w<=l.length:=by
 have:=wk (l.drop lo) w
 rw[List.length_drop] at this;unfold rch;omega
theorem Zz(l:List LT)(lo:Nat)(w:Int)(h:lo<l.length)(hw:2<=w):lo<rch l lo w:=by
 have hd:l.drop lo≠[]:=λz=>by
  have:=congrArg List.length z
  simp at this
  omega
 have:=Zy hd hw
 unfold rch;omega
theorem Lg{l:List LT}{i k:Nat}{w:Int}(h:eO (l.drop i) w=k+1):∃x,l[i]?=some x/\i<l.length/\wid x.1<=w/\eO (l.drop (i+1)) (w - wid x.1)=k:=by
 by_cases hi:i<l.length
 ·rw[List.drop_eq_getElem_cons hi] at h;unfold eO at h;split at h
  ·rename_i hw;exact⟨l[i],zo hi,hi,hw,by omega⟩
  ·omega
 ·rw[List.drop_eq_nil_of_le (by omega)] at h;cases h
theorem Lh{l:List LT}{i:Nat}{w:Int}(h:eO (l.drop i) w=0):¬i<l.length\/∃x,l[i]?=some x/\i<l.length/\¬wid x.1<=w:=by
 by_cases hi:i<l.length
 ·rw[List.drop_eq_getElem_cons hi] at h;unfold eO at h;split at h
  ·omega
  ·rename_i hw;exact .inr ⟨l[i],zo hi,hi,hw⟩
 ·exact .inl hi
theorem ZC(l:List LT)(lo:Nat)(w:Int)(hl:l.length<=1000)(hlo:lo<=l.length)(O:au):sy [.lst (l.map dL),.int (lo:Int),.int w] O=.ok (.int (rch l lo w:Nat)) O:=by
 have fl:=wk (l.drop lo) w;rw[List.length_drop] at fl;obtain⟨ρ',O',e,rfl,j,c,rfl,h1,h2,h3⟩:=uT (t:=dN (aK (ak gLt (aa 3) (aX bz (aj (aa 0) aq)))) (aK (ak gLe (ak bf (aa 4) (aJ jA (aj (ak gIx (ak gIx (aa 0) (aa 3)) (mC (.int 0))) aq))) (aa 2))))
  (b:=aA (aH 4 (ak bf (aa 4) (aJ jA (aj (ak gIx (ak gIx (aa 0) (aa 3)) (mC (.int 0))) aq)))) (aH 3 (ak bf (aa 3) (mC (.int 1)))))
  (λk ρ O'=>O'=O/\∃(j:Nat) (c:Int),ρ=[some (.lst (l.map dL)),some (.int (lo:Int)),some (.int w),some (.int ((lo+j:Nat):Int)),some (.int c)]/\lo+j<=l.length/\j+k=eO (l.drop lo) w/\k=eO (l.drop (lo+j)) (w - c)) wF (eO (l.drop lo) w) [some (.lst (l.map dL)),some (.int (lo:Int)),some (.int w),some (.int ((lo+0:Nat):Int)),some (.int 0)] O (by unfold wF;omega) ⟨rfl,0,0,rfl,hlo,by omega,by simp⟩
  (by
   rintro k ρ O' ⟨rfl,j,c,rfl,h1,h2,h3⟩;obtain⟨x,hx,hi,hw,hk⟩:=Lg h3.symm;have ix:=ixs hx
   have hlt:((lo+j:Nat):Int)<(l.length:Int):=by omega
   have hle:c+wid x.1<=w:=by omega
   have i0:gIx (dL x) (.int 0)=some (.str [x.1]):=rfl;have dd:bx O' (dL x)=dL x:=rfl;refine⟨?_,k,_,_,zc _,?_,rfl,j+1,c+wid x.1,rfl,by omega,by omega,?_⟩
   ·simp only[gJ,fW,dW,gf,gb,dz,dG,cJ,m_c,zt,zw,aO,dq,dg,zd,zC,oA,ze,dj,pX,zh hlt,fV,if_true,ix,dd,i0,qy,ir,uN,zh hle]
   ·simp only[bw,fX,dW,gb,dz,dG,cJ,m_c,zt,zw,aO,dq,dg,ix,dd,i0,dj,qy,ir,fY,bA,zT,zN];rfl
   ·rw[<-hk,show lo+(j+1)=lo+j+1 by omega,show w - (c+wid x.1)=w - c - wid x.1 by omega])
  (by
   rintro ρ O' ⟨rfl,j,c,rfl,h1,h2,h3⟩
   rcases Lh h3.symm with hi | ⟨x,hx,hi,hw⟩
   ·have hlt:¬((lo+j:Nat):Int)<(l.length:Int):=by omega
    simp only[gJ,fW,dW,gf,dz,dG,cJ,zt,zw,aO,dq,dg,zd,zC,oA,ze,dj,pX,zg hlt,fV,Bool.false_eq_true,if_false]
   ·have ix:=ixs hx
    have hlt:((lo+j:Nat):Int)<(l.length:Int):=by omega
    have hle:¬c+wid x.1<=w:=by omega
    have i0:gIx (dL x) (.int 0)=some (.str [x.1]):=rfl;have dd:bx O' (dL x)=dL x:=rfl
    simp only[gJ,fW,dW,gf,gb,dz,dG,cJ,m_c,zt,zw,aO,dq,dg,zd,zC,oA,ze,dj,pX,zh hlt,fV,if_true,ix,dd,i0,qy,ir,uN,zg hle])
 have hj:lo+j=rch l lo w:=by unfold rch;omega
 rw[hj] at e;show bB (uX [some (.lst (l.map dL)),some (.int (lo:Int)),some (.int w),none,none] O')=_;unfold uX;simp only[bw,fX,m_g,cJ,m_c,zt,zw,uI,fY,bA,zT,zN,yt];have e':d9 _ _ wF [some (.lst (l.map dL)),some (.int (lo:Int)),some (.int w),some (.int (lo:Int)),some (.int 0)] O'=_:=e;rw[e'];rfl
theorem Li(c:Nat):c∈cH↔65<=c/\c<=90:=by
 have e:cH=(List.range 26).map (· + 65):=rfl;rw[e,zE];constructor
 ·rintro⟨a,h,rfl⟩
  have:=List.mem_range.mp h
  exact⟨Nat.le_add_left ..,Nat.add_le_add_right (Nat.le_of_lt_succ this) 65⟩
 ·intro h;exact⟨c - 65,List.mem_range.mpr (by omega),Nat.sub_add_cancel h.1⟩
theorem DW(c:Nat):(1:Int)+(if decide (c∈cH)=true then 1 else 0)=wid c:=by
 unfold wid
 by_cases h:65<=c/\c<=90
 ·rw[if_pos (zh ((Li c).mpr h)),if_pos h];rfl
 ·rw[if_neg (λz=>h ((Li c).mp (jj z))),if_neg h];rfl
theorem ZD(l:List LT)(lo:Nat)(w:Int)(hl:l.length<=1000)(hlo:lo<=l.length)(O:au):Dc [.lst (l.map dL),.int (lo:Int),.int w] O=.ok (.int (rch l lo w:Nat)) O:=by
 have fl:=wk (l.drop lo) w;rw[List.length_drop] at fl;obtain⟨ρ',O',e,rfl,j,r,rfl,h1,h2,h3⟩:=uT (t:=dN (aK (ak gLt (aa 4) (aX bz (aj (aa 0) aq)))) (aK (ak gLe (ak bf (mC (.int 1)) (aX jt (aj (ak (gIn false) (ak gIx (ak gIx (aa 0) (aa 4)) (mC (.int 0))) (aa 3)) aq))) (aa 5))))
  (b:=aA (aH 5 (ak eV (ak eV (aa 5) (mC (.int 1))) (aX jt (aj (ak (gIn false) (ak gIx (ak gIx (aa 0) (aa 4)) (mC (.int 0))) (aa 3)) aq)))) (aH 4 (ak bf (aa 4) (mC (.int 1)))))
  (λk ρ O'=>O'=O/\∃(j:Nat) (r:Int),ρ=[some (.lst (l.map dL)),some (.int (lo:Int)),some (.int w),some (.str cH),some (.int ((lo+j:Nat):Int)),some (.int r)]/\lo+j<=l.length/\j+k=eO (l.drop lo) w/\k=eO (l.drop (lo+j)) r) wF (eO (l.drop lo) w) [some (.lst (l.map dL)),some (.int (lo:Int)),some (.int w),some (.str cH),some (.int ((lo+0:Nat):Int)),some (.int w)] O (by unfold wF;omega) ⟨rfl,0,w,rfl,hlo,by omega,by simp⟩
  (by
   rintro k ρ O' ⟨rfl,j,r,rfl,h1,h2,h3⟩;obtain⟨x,hx,hi,hw,hk⟩:=Lg h3.symm;have ix:=ixs hx
   have hlt:((lo+j:Nat):Int)<(l.length:Int):=by omega
   have hg:=DW x.1;have i0:gIx (dL x) (.int 0)=some (.str [x.1]):=rfl;have dd:bx O' (dL x)=dL x:=rfl
   have hle:(1:Int)+(if decide (x.1∈cH)=true then 1 else 0)<=r:=by rw[hg];exact hw
   have hr:r - 1 - (if decide (x.1∈cH)=true then(1:Int) else 0)=r - wid x.1:=by omega
   refine⟨?_,k,[some (.lst (l.map dL)),some (.int (lo:Int)),some (.int w),some (.str cH),some (.int ((lo+(j+1):Nat):Int)),some (.int (r - wid x.1))],O',zc _,?_,rfl,j+1,r - wid x.1,rfl,by omega,by omega,?_⟩
   ·simp only[gJ,fW,dW,gf,dz,dG,cJ,m_c,zt,zw,aO,dq,dg,iH,zd,zC,oA,ze,dj,pX,zh hlt,fV,if_true,ix,dd,i0,uQ,Bool.false_bne,jx,uR,ir,uN,zh hle]
   ·simp only[bw,fX,dW,gf,dz,dG,cJ,m_c,zt,zw,aO,dq,dg,iH,zd,zC,ix,dd,i0,dj,uQ,Bool.false_bne,jx,uR,uL,hr,ir,fY,bA,zT,zN];rfl
   ·rw[<-hk,show lo+(j+1)=lo+j+1 by omega])
  (by
   rintro ρ O' ⟨rfl,j,r,rfl,h1,h2,h3⟩
   rcases Lh h3.symm with hi | ⟨x,hx,hi,hw⟩
   ·have hlt:¬((lo+j:Nat):Int)<(l.length:Int):=by omega
    simp only[gJ,fW,dW,gf,dz,dG,cJ,zt,zw,aO,dq,dg,zd,zC,oA,ze,dj,pX,zg hlt,fV,Bool.false_eq_true,if_false]
   ·have ix:=ixs hx
    have hlt:((lo+j:Nat):Int)<(l.length:Int):=by omega
    have hg:=DW x.1
    have hle:¬(1:Int)+(if decide (x.1∈cH)=true then 1 else 0)<=r:=by rw[hg];exact hw
    have i0:gIx (dL x) (.int 0)=some (.str [x.1]):=rfl;have dd:bx O' (dL x)=dL x:=rfl
    simp only[gJ,fW,dW,gf,dz,dG,cJ,m_c,zt,zw,aO,dq,dg,iH,zd,zC,oA,ze,dj,pX,zh hlt,fV,if_true,ix,dd,i0,uQ,Bool.false_bne,jx,uR,ir,uN,zg hle])
 have hj:lo+j=rch l lo w:=by unfold rch;omega
 rw[hj] at e;show bB (aA (aH 3 (mC (.str cH))) (aA (aH 4 (mG (aa 1))) (aA (aH 5 (mG (aa 2))) (aA _ (aU (aa 4))))) [some (.lst (l.map dL)),some (.int (lo:Int)),some (.int w),none,none,none] O')=_;simp only[bw,fX,m_g,cJ,m_c,zt,zw,uI,fY,bA,zT,zN,yt];have e':d9 _ _ wF [some (.lst (l.map dL)),some (.int (lo:Int)),some (.int w),some (.str cH),some (.int (lo:Int)),some (.int w)] O'=_:=e;rw[e'];rfl
theorem ZF(l:List LT)(hl:l.length<=1000)(O:au):uW [.lst (l.map dL)] O=.ok (.int (wsum l)) O:=by
 have ec:=lg (g:=mgN 0) (t:=dJ) (m:=aJ jA (aj (ak gIx (aa 0) (mC (.int 0))) aq)) (λρ=>∃a,ρ=[a]) dL (λx=>D.int (wid x.1)) l [none] O [] ⟨_,rfl⟩ (by
  rintro x hx ρ ⟨a,rfl⟩;refine⟨_,rfl,⟨_,rfl⟩,rfl,?_⟩
  simp[dL,qy])
 have z:(l.map dL).length<=1000000:=by rw[ze];omega
 have gs:=Lb (λx:LT=>wid x.1) l (λx _=>Ld _) (by omega);simp only[uW,yz,yh,zd,zC,zx,zV,List.replicate,List.cons_append,zK,eE,gf,dz,dG,uK,rR,cJ,zt,aO,uJ,rQ,if_pos z,Xx,ec,dq,zX];rw[show(λx:LT=>D.int (wid x.1))=(λx:LT=>D.int ((λx:LT=>wid x.1) x)) from rfl,gs];rfl
theorem wu(l:List LT)(m:Nat):trn l (m+1)=if(l[m]?).map (λx=>x.1)=some 32 then trn l m else m+1:=rfl
theorem ZG{l:List LT}{m:Nat}(h:trn l (m+1)≠m+1):∃x,l[m]?=some x/\x.1=32/\trn l (m+1)=trn l m:=by
 rw[wu] at h ⊢;split at h
 ·rename_i q;rw[if_pos q]
  cases e:l[m]? with
  |none=>rw[e] at q;cases q
  |some x =>
   rw[e] at q;simp at q;exact⟨x,rfl,q,rfl⟩
 ·exact absurd rfl h
theorem ZJ{l:List LT}{m:Nat}{x:LT}(h:trn l (m+1)=m+1)(e:l[m]?=some x):x.1≠32:=by
 intro q;unfold trn at h;rw[if_pos (by rw[e];simp[q])] at h
 have:=tO l m
 omega
theorem Lj(l:List LT)(lo k:Nat)(hl:l.length<=1000)(hk:lo+k<=l.length)(O:au):lA [.lst (l.map dL),.int (lo:Int),.int ((lo+k:Nat):Int)] O=.ok (.int (wsum ((l.drop lo).take (trn (l.drop lo) k)))) O:=by
 have tl:=tO (l.drop lo) k;obtain⟨ρ',O',e,rfl,m,rfl,h1,h2,h3⟩:=uT (t:=dN (aK (ak gGt (aa 2) (aa 1))) (aK (ak gEq (ak gIx (ak gIx (aa 0) (ak eV (aa 2) (mC (.int 1)))) (mC (.int 0))) (mC (.str [32])))))
  (b:=aH 2 (ak eV (aa 2) (mC (.int 1))))
  (λj ρ O'=>O'=O/\∃m:Nat,ρ=[some (.lst (l.map dL)),some (.int (lo:Int)),some (.int ((lo+m:Nat):Int)),none]/\m<=k/\trn (l.drop lo) m=trn (l.drop lo) k/\m=trn (l.drop lo) k+j) wF (k - trn (l.drop lo) k) [some (.lst (l.map dL)),some (.int (lo:Int)),some (.int ((lo+k:Nat):Int)),none] O (by unfold wF;omega) ⟨rfl,k,rfl,zc _,rfl,by omega⟩
  (by
   rintro j ρ O' ⟨rfl,m,rfl,h1,h2,h3⟩;obtain⟨m',rfl⟩:∃m',m=m'+1:=⟨m - 1,by omega⟩;obtain⟨x,hx,hx1,hx2⟩:=ZG (l:=l.drop lo) (m:=m') (by omega);rw[List.getElem?_drop] at hx
   have ei:((lo+(m'+1):Nat):Int) - 1=((lo+m':Nat):Int):=by omega
   have hp:(lo:Int)<((lo+(m'+1):Nat):Int):=by omega
   have ix:gIx (.lst (l.map dL)) (.int ((lo+m':Nat):Int))=some (dL x):=by rw[kZ,jz,zA,hx];rfl
   refine⟨?_,j,_,_,zc _,?_,rfl,m',rfl,by omega,by omega,by omega⟩
   ·simp only[gJ,fW,dW,cJ,m_c,zt,zw,aO,dg,dq,mD,zh hp,dj,fV,if_true,uL,ei,ix];simp[dL,hx1]
   ·simp only[fX,dW,cJ,m_c,zt,zw,aO,dg,uL,ei,dj,fY]
    rfl)
  (by
   rintro ρ O' ⟨rfl,m,rfl,h1,h2,h3⟩
   cases m with
   |zero=>simp
   |succ m' =>
    have hlt:m'<(l.drop lo).length:=by rw[List.length_drop];omega
    have ex:=zo hlt;have hne:=ZJ (l:=l.drop lo) (m:=m') (x:=(l.drop lo)[m']) (by omega) ex;obtain⟨y,hy⟩:∃y,(l.drop lo)[m']=y:=⟨_,rfl⟩;rw[hy] at ex hne;rw[List.getElem?_drop] at ex
    have ei:((lo+(m'+1):Nat):Int) - 1=((lo+m':Nat):Int):=by omega
    have hp:(lo:Int)<((lo+(m'+1):Nat):Int):=by omega
    have ix:gIx (.lst (l.map dL)) (.int ((lo+m':Nat):Int))=some (dL y):=by rw[kZ,jz,zA,ex];rfl
    simp only[gJ,fW,dW,cJ,m_c,zt,zw,aO,dg,dq,mD,zh hp,dj,fV,if_true,uL,ei,ix]
    simp[dL,hne])
 have hm:m=trn (l.drop lo) k:=by omega
 subst hm
 have ec:=lg (g:=mgN 0) (t:=dJ) (m:=ak bf (mC (.int 1)) (aX jt (aj (ak (gIn false) (ak gIx (aa 0) (mC (.int 0))) (aa 1)) aq))) (λρ=>∃a,ρ=[a,some (.str cH)]) dL (λx=>D.int (wid x.1)) ((l.drop lo).take (trn (l.drop lo) k)) [none,some (.str cH)] O' [] ⟨_,rfl⟩ (by
  rintro x hx ρ ⟨a,rfl⟩;refine⟨_,rfl,⟨_,rfl⟩,rfl,?_⟩;have hw:=DW x.1;simp only[dL,dW,m_c,gf,dz,dG,cJ,zN,zt,zw,aO,Ja,dg,iH,Zi,dj,uQ,zd,zC,jx,uR,ir,Bool.false_bne]
  rw[<-hw])
 have z:(((l.drop lo).take (trn (l.drop lo) k)).map dL).length<=1000000:=by rw[ze,List.length_take,List.length_drop];omega
 have gs:=Lb (λx:LT=>wid x.1) ((l.drop lo).take (trn (l.drop lo) k)) (λx _=>Ld _) (by rw[List.length_take,List.length_drop];omega)
 have ecut:eU (l.map dL) (some (lo:Int)) (some ((lo+trn (l.drop lo) k:Nat):Int))=((l.drop lo).take (trn (l.drop lo) k)).map dL:=by
  rw[K5,List.map_take,List.map_drop,Nat.add_sub_cancel_left]
 have ec':dR (mgN 0) dJ (ak bf (mC (.int 1)) (aX jt (aj (ak (gIn false) (ak gIx (aa 0) (mC (.int 0))) (aa 1)) aq))) (((l.drop lo).take (trn (l.drop lo) k)).map dL) (jP 1 [3] [some (.lst (l.map dL)),some (.int (lo:Int)),some (.int ((lo+trn (l.drop lo) k:Nat):Int)),some (.str cH)]) O' []=_:=ec;show bB (aA _ (aA (aH 3 (mC (.str cH))) _) [some (.lst (l.map dL)),some (.int (lo:Int)),some (.int ((lo+k:Nat):Int)),none] O')=_;simp only[bw,yt,e,bA,fX,m_c,fY,zT,zN,eE,gf,dz,dG,uK,rR,Jg,cJ,Jf,m_g,zt,zw,aO,uI,Je,dq,Jh,ecut,dj,uJ,rQ,if_pos z,ec',zK,zd,zC];rw[show(λx:LT=>D.int (wid x.1))=(λx:LT=>D.int ((λx:LT=>wid x.1) x)) from rfl,gs]
 rfl
theorem Ln{m:M (List D)}{ρ:aD}{O O1:au}{i j:Int}(e:m ρ O=.ok [.int i,.int j] O1)(h:(i<=1000000000/\-1000000000<=i)/\j<=1000000000/\-1000000000<=j):nR m ρ O=.ok (bM i (j - i).toNat) O1:=by
 unfold nR;rw[e];show(if _ then _ else _)=_;rw[if_pos h]
theorem ZK{l:List LT}{ρ:aD}{O:au}(hl:l.length<=1000)(h:ρ[0]?=some (some (.lst (l.map dL)))):nR (aj (mC (.int 1)) (aj (ak bf (aX bz (aj (aa 0) aq)) (mC (.int 1))) aq)) ρ O=.ok (bM 1 l.length) O:=by
 have e:(aj (mC (.int 1)) (aj (ak bf (aX bz (aj (aa 0) aq)) (mC (.int 1))) aq)) ρ O=.ok [.int 1,.int ((l.length:Int)+1)] O:=by
  simp[h]
 rw[Ln e (by omega),show((l.length:Int)+1 - 1).toNat=l.length by omega]
def isB(l:List LT)(d:D):Bool:=match d with
 | .int i=>decide (i=(l.length:Int)) || (decide ((l[(i - 1).toNat]?).map (λx=>x.1)=some 32) && !decide ((l[i.toNat]?).map (λx=>x.1)=some 32))
 | _=>false
def brk(l:List LT):List D:=(bM 1 l.length).filter (isB l)
theorem DX{l:List LT}{i:Nat}(h:i+1<l.length):∃x y,l[i]?=some x/\l[i+1]?=some y/\isB l (.int (1+(i:Int)))=(decide (x.1=32) && !decide (y.1=32)):=by
 have e1:=zo (show i<l.length by omega);have e2:=zo h;obtain⟨x,hx⟩:∃x,l[i]=x:=⟨_,rfl⟩;obtain⟨y,hy⟩:∃y,l[i+1]=y:=⟨_,rfl⟩;rw[hx] at e1;rw[hy] at e2;refine⟨x,y,e1,e2,?_⟩
 have n1:((1:Int)+(i:Int) - 1).toNat=i:=by omega
 have n2:((1:Int)+(i:Int)).toNat=i+1:=by omega
 have n3:¬(1:Int)+(i:Int)=(l.length:Int):=by omega
 unfold isB;dsimp only;rw[n1,n2,e1,e2];simp[n3]
theorem DY{l:List LT}{i:Nat}(h:i+1=l.length):isB l (.int (1+(i:Int)))=true:=by
 have n3:(1:Int)+(i:Int)=(l.length:Int):=by omega
 unfold isB;simp[n3]
theorem ZL(l:List LT)(i:Nat)(hi:i<l.length)(O:au):mF [.lst (l.map dL),.int (1+(i:Int))] O=.ok (.bl (isB l (.int (1+(i:Int))))) O:=by
 by_cases h:i+1=l.length
 ·have n3:(1:Int)+(i:Int)=(l.length:Int):=by omega
  rw[DY h];simp[mF,sr,n3]
 ·obtain⟨x,y,e1,e2,e3⟩:=DX (show i+1<l.length by omega)
  have n3:¬(1:Int)+(i:Int)=(l.length:Int):=by omega
  have n1:(1:Int)+(i:Int) - 1=(i:Int):=by omega
  have n2:(1:Int)+(i:Int)=((i+1:Nat):Int):=by omega
  have i1:=ixs e1;have i2:=ixs e2;rw[e3];rw[<-n2] at i2
  by_cases hx:x.1=32
  ·simp[mF,sr,n3,n1,i1,i2,dL,hx]
  ·simp[mF,sr,n3,n1,i1,dL,hx]
def Lp:MS:=aZ (dO (aK (ak gEq (aa 2) (aX bz (aj (aa 0) aq)))) (dN (aK (ak gEq (ak gIx (ak gIx (aa 0) (ak eV (aa 2) (mC (.int 1)))) (mC (.int 0))) (mC (.str [32])))) (aK (ak gNe (ak gIx (ak gIx (aa 0) (aa 2)) (mC (.int 0))) (mC (.str [32])))))) (dU 1 (aa 2)) bj
theorem ZM{mi:M (List D)}(l:List LT)(hl:l.length<=1000)(O:au)(r:mi [some (.lst (l.map dL)),some (.lst []),none] O=.ok (bM 1 l.length) O):bF 3 (aA (aH 1 (cg aq)) (aA (cu mi (mgN 2) Lp) (aU (aa 1)))) [.lst (l.map dL)] O=.ok (.lst (brk l)) O:=by
 obtain⟨ρ',O',e,rfl,o2,rfl⟩:=iJ (g:=mgN 2) (b:=Lp)
  (λi ρ O'=>O'=O/\∃o2,ρ=[some (.lst (l.map dL)),some (.lst (((bM 1 l.length).take i).filter (isB l))),o2]) (bM 1 l.length) 0 [some (.lst (l.map dL)),some (.lst []),none] O ⟨rfl,none,by simp⟩ (by
   rintro i d ρ O' hi ⟨rfl,o2,rfl⟩;have hd:=hi;obtain⟨hi',rfl⟩:=DP hi;refine⟨_,rfl,?_⟩
   have et:(bM 1 l.length).take (0+i+1)=(bM 1 l.length).take (0+i)++[.int (1+(i:Int))]:=by
    rw[jm,List.take_succ,hd];rfl
   have hz:(((bM 1 l.length).take (0+i)).filter (isB l)).length<1000000:=by
    refine Nat.lt_of_le_of_lt (List.length_filter_le _ _) ?_;rw[List.length_take,oE];omega
   have test:(dO (aK (ak gEq (aa 2) (aX bz (aj (aa 0) aq)))) (dN (aK (ak gEq (ak gIx (ak gIx (aa 0) (ak eV (aa 2) (mC (.int 1)))) (mC (.int 0))) (mC (.str [32])))) (aK (ak gNe (ak gIx (ak gIx (aa 0) (aa 2)) (mC (.int 0))) (mC (.str [32])))))) [some (.lst (l.map dL)),some (.lst (((bM 1 l.length).take (0+i)).filter (isB l))),some (.int (1+(i:Int)))] O'=.ok (isB l (.int (1+(i:Int)))) O':=by
    by_cases h:i+1=l.length
    ·have n3:(1:Int)+(i:Int)=(l.length:Int):=by omega
     rw[DY h];simp[n3]
    ·obtain⟨x,y,e1,e2,e3⟩:=DX (show i+1<l.length by omega)
     have n3:¬(1:Int)+(i:Int)=(l.length:Int):=by omega
     have n1:(1:Int)+(i:Int) - 1=(i:Int):=by omega
     have n2:(1:Int)+(i:Int)=((i+1:Nat):Int):=by omega
     have i1:=ixs e1;have i2:=ixs e2;rw[e3];rw[<-n2] at i2
     by_cases hx:x.1=32
     ·simp[n3,n1,i1,i2,dL,hx]
     ·simp[n3,n1,i1,dL,hx]
   cases hb:isB l (.int (1+(i:Int))) with
   |true =>
    refine⟨_,_,.inl ?_,rfl,some (.int (1+(i:Int))),rfl⟩;show aZ _ _ _ [some (.lst (l.map dL)),some (.lst (((bM 1 l.length).take (0+i)).filter (isB l))),some (.int (1+(i:Int)))] O'=_;rw[iI,test,hb,et,List.filter_append];simp only[jy,if_true,yq,cJ,zt,zw];rw[rZ (ds:=((bM 1 l.length).take (0+i)).filter (isB l)) rfl hz];simp[hb]
   |false =>
    refine⟨_,_,.inl ?_,rfl,some (.int (1+(i:Int))),rfl⟩;show aZ _ _ _ [some (.lst (l.map dL)),some (.lst (((bM 1 l.length).take (0+i)).filter (isB l))),some (.int (1+(i:Int)))] O'=_;rw[iI,test,hb,et,List.filter_append]
    simp[hb])
 rw[oE,jm,List.take_of_length_le (by rw[oE];omega)] at e;simp only[yh,zd,zC,zx,zV,List.replicate,List.cons_append,zK,bw,fX,rN,dG,aO,Nat.zero_le,if_true,fY,bA,zT,zN,gK,r,gM,e,eE,cJ,zw,zt,pU,pW];rfl
theorem ZP(l:List LT)(hl:l.length<=1000)(O:au):vO [.lst (l.map dL)] O=.ok (.lst (brk l)) O:=ZM l hl O (ZK hl rfl)
theorem wy(x:LT)(l:List LT):wsum (x::l)=wid x.1+wsum l:=by
 simp[wsum]
theorem wz:∀l:List LT,0<=wsum l
 | []=>by simp[wsum]
 |x::l=>by
  have:=wz l
  have:=Le x.1
  rw[wy];omega
theorem Lq(l:List LT):∀(a b:Nat),a<=b->wsum (l.take a)<=wsum (l.take b):=by
 induction l with
 |nil=>intro a b _;simp
 |cons x l ih =>
  intro a b h
  cases a with
  |zero=>exact wz _
  |succ a =>
   cases b with
   |zero=>omega
   |succ b =>
    rw[List.take_succ_cons,List.take_succ_cons,wy,wy]
    have:=ih a b (by omega)
    omega
theorem ZQ{l:List LT}{k:Nat}{x:LT}(h:l[k]?=some x):wsum (l.take (k+1))=wsum (l.take k)+wid x.1:=by
 rw[List.take_succ,h];simp[wsum]
theorem Lr:∀(l:List LT) (w:Int) (k:Nat),0<=w->k<=eO l w->wsum (l.take k)<=w
 | [],w,k,hw,_=>by simpa [wsum] using hw
 |x::l,w,0,hw,_=>by simpa [wsum] using hw
 |x::l,w,k+1,hw,h=>by
  unfold eO at h;split at h
  ·rename_i hx
   have:=Lr l (w - wid x.1) k (by omega) (by omega)
   rw[List.take_succ_cons,wy];omega
  ·omega
def tw(l:List LT)(lo k:Nat):Int:=wsum ((l.drop lo).take (trn (l.drop lo) k))
theorem Ls{l:List LT}{lo k:Nat}{x:LT}(h:l[lo+k]?=some x)(hx:x.1=32):tw l lo (k+1)=tw l lo k:=by
 unfold tw;rw[wu,if_pos (by rw[List.getElem?_drop,h];simp[hx])]
theorem Lw{l:List LT}{lo k:Nat}{x:LT}(h:l[lo+k]?=some x)(hx:x.1≠32):tw l lo (k+1)=wsum ((l.drop lo).take (k+1)):=by
 unfold tw;rw[wu,if_neg (by rw[List.getElem?_drop,h];simp[hx])]
theorem ZR(l:List LT)(lo k:Nat):tw l lo k<=wsum ((l.drop lo).take k):=Lq _ _ _ (tO _ _)
theorem ZV(l:List LT)(lo k:Nat):tw l lo k<=tw l lo (k+1):=by
 unfold tw;refine Lq _ _ _ ?_;rw[wu]
 split
 ·exact zc _
 ·have:=tO (l.drop lo) k
  omega
theorem Lx(l:List LT)(lo:Nat){a b:Nat}(h:a<=b):tw l lo a<=tw l lo b:=by
 obtain⟨c,rfl⟩:∃c,b=a+c:=⟨b - a,by omega⟩
 induction c with
 |zero=>exact Int.le_refl _
 |succ c ih=>exact Int.le_trans (ih (by omega)) (ZV l lo (a+c))
def gd(l:List LT)(lo:Nat)(w:Int)(k:Nat):Bool:=isB l (.int (1+((lo+k:Nat):Int)))&&decide (tw l lo (k+1)<=w)
def fes(l:List LT)(lo:Nat)(w:Int)(i:Nat):List Nat:=(List.range i).filter (gd l lo w)
def fD(l:List LT)(lo:Nat)(k:Nat):D:=.tup [.int (1+((lo+k:Nat):Int)),.int (tw l lo (k+1))]
theorem Ly(l:List LT)(lo:Nat)(w:Int)(i:Nat):fes l lo w (i+1)=fes l lo w i++(if gd l lo w i=true then[i] else[]):=by
 unfold fes;rw[List.range_succ,List.filter_append];congr 1
 by_cases h:gd l lo w i=true<;>simp[h]
theorem ZW{l:List LT}{lo:Nat}{w:Int}{i:Nat}(h:w<tw l lo (i+1)):∀n,i<=n->fes l lo w n=fes l lo w i:=by
 intro n hn;obtain⟨c,rfl⟩:∃c,n=i+c:=⟨n - i,by omega⟩
 induction c with
 |zero=>rfl
 |succ c ih =>
  have m:=Lx l lo (show i+1<=i+c+1 by omega)
  have hg:gd l lo w (i+c)=false:=by
   unfold gd;rw[zg (by omega),Bool.and_false]
  rw[show i+(c+1)=i+c+1 by omega,Ly,hg,ih (by omega)];simp
def qz:MS:=(aA (aH 4 (ak bf (aa 4) (aJ jA (aj (ak gIx (ak gIx (aa 0) (aa 6)) (mC (.int 0))) aq))))
  (aA (aZ (aK (ak gNe (ak gIx (ak gIx (aa 0) (aa 6)) (mC (.int 0))) (mC (.str [32])))) (aH 5 (aa 4)) bj)
  (aA (aZ (aK (ak gGt (aa 5) (aa 2))) pA bj)
  (aZ (bI (aJ mF (aj (aa 0) (aj (ak bf (aa 6) (mC (.int 1))) aq)))) (dU 3 (bT (aj (ak bf (aa 6) (mC (.int 1))) (aj (aa 5) aq)))) bj))))
theorem ZX(l:List LT)(lo k:Nat)(w:Int)(x:LT)(hx:l[lo+k]?=some x)(acc:List D)(ha:acc.length<=100000)(O:au)(o6:Option D):
  qz [some (.lst (l.map dL)),some (.int (lo:Int)),some (.int w),some (.lst acc),some (.int (wsum ((l.drop lo).take k))),some (.int (tw l lo k)),some (.int ((lo+k:Nat):Int))] O =
   if w<tw l lo (k+1) then .bk [some (.lst (l.map dL)),some (.int (lo:Int)),some (.int w),some (.lst acc),some (.int (wsum ((l.drop lo).take (k+1)))),some (.int (tw l lo (k+1))),some (.int ((lo+k:Nat):Int))] O
   else .nx [some (.lst (l.map dL)),some (.int (lo:Int)),some (.int w),some (.lst (acc++if gd l lo w k=true then[fD l lo k] else[])),some (.int (wsum ((l.drop lo).take (k+1)))),some (.int (tw l lo (k+1))),some (.int ((lo+k:Nat):Int))] O:=by
 have hi:lo+k<l.length:=(zl.mp hx).1;have ix:=ixs hx;have i0:gIx (dL x) (.int 0)=some (.str [x.1]):=rfl;have dd:bx O (dL x)=dL x:=rfl;have hs:wsum ((l.drop lo).take k)+wid x.1=wsum ((l.drop lo).take (k+1)):=(ZQ (by rw[List.getElem?_drop];exact hx)).symm;have eb:=ZL l (lo+k) hi O
 have hp:((lo+k:Nat):Int)+1=1+((lo+k:Nat):Int):=by omega
 obtain⟨R,hR⟩:∃R:MS,R=(aA (aZ (aK (ak gGt (aa 5) (aa 2))) pA bj)
  (aZ (bI (aJ mF (aj (aa 0) (aj (ak bf (aa 6) (mC (.int 1))) aq)))) (dU 3 (bT (aj (ak bf (aa 6) (mC (.int 1))) (aj (aa 5) aq)))) bj)):=⟨_,rfl⟩
 have pre:qz [some (.lst (l.map dL)),some (.int (lo:Int)),some (.int w),some (.lst acc),some (.int (wsum ((l.drop lo).take k))),some (.int (tw l lo k)),some (.int ((lo+k:Nat):Int))] O=R [some (.lst (l.map dL)),some (.int (lo:Int)),some (.int w),some (.lst acc),some (.int (wsum ((l.drop lo).take (k+1)))),some (.int (tw l lo (k+1))),some (.int ((lo+k:Nat):Int))] O:=by
  unfold qz;rw[<-hR]
  by_cases hb:x.1=32
  ·have q:gNe (.str [x.1]) (.str [32])=some (.bl false):=by rw[hb];rfl
   rw[Ls hx hb];simp only[bw,fX,dW,gb,dz,dG,cJ,m_c,zt,zw,aO,dq,dg,iH,ix,dd,i0,dj,qy,ir,hs,fY,bA,zT,zN,iI,fW,q,fV,jy,Bool.false_eq_true,if_false,dZ]
  ·have q:gNe (.str [x.1]) (.str [32])=some (.bl true):=by simp[hb]
   rw[Lw hx hb];simp only[bw,fX,dW,gb,dz,dG,cJ,m_c,zt,zw,aO,dq,dg,iH,ix,dd,i0,dj,qy,ir,hs,fY,bA,zT,zN,iI,fW,q,fV,jy,if_true]
 rw[pre,hR]
 by_cases hlt:w<tw l lo (k+1)
 ·rw[if_pos hlt];have hg:tw l lo (k+1)>w:=hlt;simp only[bw,iI,fW,dW,cJ,zt,zw,aO,dg,mD,zh hg,dj,fV,jy,if_true];rfl
 ·rw[if_neg hlt];have hg:¬tw l lo (k+1)>w:=hlt
  have hd:gd l lo w k=isB l (.int (1+((lo+k:Nat):Int))):=by
   unfold gd;rw[zh (by omega),Bool.and_true]
  rw[hd];simp only[bw,iI,fW,dW,cJ,m_c,zt,zw,aO,dg,mD,zg hg,dj,fV,jy,Bool.false_eq_true,if_false,dZ,bA,nZ,gb,dz,dG,ir,hp,eb,jx,n6,nY]
  cases hb:isB l (.int (1+((lo+k:Nat):Int))) with
  |false=>simp
  |true =>
   simp only[if_true,yq,ye,dz,dG,dW,cJ,m_c,zt,zw,aO,dg,ir,hp,dj,zx,zV,Nat.reduceAdd,Nat.reduceLeDiff];rw[rZ (ds:=acc) rfl (by omega)];rfl
theorem Lz(l:List LT)(lo:Nat)(w:Int)(hl:l.length<=1000)(O:au):∀(m k:Nat) (o6:Option D),lo+k+m=l.length ->
  ∃o4 o5 o6',cV (mgN 6) qz (bM ((lo+k:Nat):Int) m) [some (.lst (l.map dL)),some (.int (lo:Int)),some (.int w),some (.lst ((fes l lo w k).map (fD l lo))),some (.int (wsum ((l.drop lo).take k))),some (.int (tw l lo k)),o6] O=.nx [some (.lst (l.map dL)),some (.int (lo:Int)),some (.int w),some (.lst ((fes l lo w (l.length - lo)).map (fD l lo))),o4,o5,o6'] O
 | 0,k,o6,h=>by
  rw[show l.length - lo=k by omega];exact⟨_,_,_,rfl⟩
 |m+1,k,o6,h=>by
  have hx:=zo (show lo+k<l.length by omega)
  have fl:(fes l lo w k).length<=k:=by
   have:=List.length_filter_le (gd l lo w) (List.range k)
   rw[List.length_range] at this;exact this
  have t:=ZX l lo k w _ hx ((fes l lo w k).map (fD l lo)) (by rw[ze];omega) O o6
  have er:bM ((lo+k:Nat):Int) (m+1)=.int ((lo+k:Nat):Int)::bM ((lo+(k+1):Nat):Int) m:=by
   unfold bM;rw[List.range_succ_eq_map,zd,zR,List.cons.injEq];refine⟨by simp,jl λi _=>?_⟩;show D.int (((lo+k:Nat):Int)+((i+1:Nat):Int))=D.int (((lo+(k+1):Nat):Int)+(i:Int));congr 1;omega
  rw[er];unfold cV;rw[mg_n];dsimp only;rw[show([some (.lst (l.map dL)),some (.int (lo:Int)),some (.int w),some (.lst ((fes l lo w k).map (fD l lo))),some (.int (wsum ((l.drop lo).take k))),some (.int (tw l lo k)),o6]:aD).set 6 (some (.int ((lo+k:Nat):Int)))=[some (.lst (l.map dL)),some (.int (lo:Int)),some (.int w),some (.lst ((fes l lo w k).map (fD l lo))),some (.int (wsum ((l.drop lo).take k))),some (.int (tw l lo k)),some (.int ((lo+k:Nat):Int))] from rfl,t]
  by_cases hlt:w<tw l lo (k+1)
  ·rw[if_pos hlt,ZW hlt (l.length - lo) (by omega)];exact⟨_,_,_,rfl⟩
  ·rw[if_neg hlt];obtain⟨o4,o5,o6',q⟩:=Lz l lo w hl O m (k+1) (some (.int ((lo+k:Nat):Int))) (by omega);refine⟨o4,o5,o6',?_⟩;dsimp only;rw[Ly,zY] at q;rw[<-q]
   by_cases hg:gd l lo w k=true<;>simp[hg]
theorem ZZ(ns:List Int)(O:au):∃w:Int,(2<=w/\w<=40)/\vM [.lst (ns.map D.int)] O=.ok (.int w) O:=by
 obtain⟨v,ev⟩:=tK ns 1 (by decide) (by decide) O;have m7:=wg v 7 (by decide) (by decide) O;have m8:=wg v 8 (by decide) (by decide) O;have y0:=zS (mix v 8) (show(4:Int)≠0 by decide);have y1:=zW (mix v 8) (show(0:Int)<4 by decide)
 obtain⟨k,hk,hk0,hk1⟩:∃k:Int,gIx (.lst [.int 4,.int 9,.int 9,.int 39]) (.int (mix v 8 % 4))=some (.int k)/\0<k/\k<=39:=by
  have h:mix v 8 % 4=0\/mix v 8 % 4=1\/mix v 8 % 4=2\/mix v 8 % 4=3:=by omega
  rcases h with h | h | h | h<;>rw[h]
  ·exact⟨4,rfl,by decide,by decide⟩
  ·exact⟨9,rfl,by decide,by decide⟩
  ·exact⟨9,rfl,by decide,by decide⟩
  ·exact⟨39,rfl,by decide,by decide⟩
 have z0:=zS (mix v 7) (show k≠0 by omega);have z1:=zW (mix v 7) hk0;refine⟨2+mix v 7 % k,by omega,?_⟩;show bB (vL [some (.lst (ns.map D.int)),none] O)=_;unfold vL;simp only[bw,fX,eE,gb,dz,dG,cJ,m_c,zt,zw,aO,ev,fY,bA,zT,zN,dW,m7,m8,rN,zx,zV,Nat.reduceAdd,Nat.reduceLeDiff,if_true,dg,dq,uM,show(0:Int)<4 from by decide,dj,hk,if_pos hk0,ir,pU,pW]
theorem Z0(l:List LT)(lo:Nat)(w:Int)(hl:l.length<=1000)(hlo:lo<=l.length)(O:au):yI [.lst (l.map dL),.int (lo:Int),.int w] O=.ok (.lst ((fes l lo w (l.length - lo)).map (fD l lo))) O:=by
 obtain⟨o4,o5,o6,e⟩:=Lz l lo w hl O (l.length - lo) 0 none (by omega)
 have r:nR (aj (aa 1) (aj (aX bz (aj (aa 0) aq)) aq)) [some (.lst (l.map dL)),some (.int (lo:Int)),some (.int w),some (.lst []),some (.int 0),some (.int 0),none] O=.ok (bM (lo:Int) (l.length - lo)) O:=by
  have e:(aj (aa 1) (aj (aX bz (aj (aa 0) aq)) aq)) [some (.lst (l.map dL)),some (.int (lo:Int)),some (.int w),some (.lst []),some (.int 0),some (.int 0),none] O=.ok [.int (lo:Int),.int (l.length:Int)] O:=by
   simp
  rw[Ln e (by omega),show((l.length:Int) - (lo:Int)).toNat=l.length - lo by omega]
 have e':cV (mgN 6) qz (bM (lo:Int) (l.length - lo)) [some (.lst (l.map dL)),some (.int (lo:Int)),some (.int w),some (.lst []),some (.int 0),some (.int 0),none] O=_:=e;show bB (aA _ (aA _ (aA _ (aA (cu _ (mgN 6) qz) _))) [some (.lst (l.map dL)),some (.int (lo:Int)),some (.int w),none,none,none,none] O)=_;simp only[bw,fX,rN,dG,m_c,aO,zV,Nat.zero_le,if_true,fY,bA,zT,zN,gK,r,gM,e',eE,cJ,zw,zt,pU,pW]
theorem lE{m:L2.M D}{ρ:aD}{O O1:au}{d:D}(h:m ρ O=.ok d O1):aU m ρ O=.rt d O1:=by rw[eE,h];rfl
def ends(l:List LT)(lo:Nat)(w:Int):List (Nat×Int):=match fes l lo w (l.length - lo) with
 | []=>[(rch l lo w,wsum ((l.drop lo).take (rch l lo w - lo)))]
 |k::ks=>(k::ks).map λk=>(lo+k+1,tw l lo (k+1))
def dE(p:Nat×Int):D:=.tup [.int (p.1:Int),.int p.2]
theorem Z1(l:List LT)(lo:Nat)(ks:List Nat):ks.map (fD l lo)=(ks.map λk=>(lo+k+1,tw l lo (k+1))).map dE:=by
 rw[zR]
 refine jl λk _=>?_
 show D.tup [.int (1+((lo+k:Nat):Int)),.int (tw l lo (k+1))]=D.tup [.int ((lo+k+1:Nat):Int),.int (tw l lo (k+1))];rw[show 1+((lo+k:Nat):Int)=((lo+k+1:Nat):Int) by omega]
theorem Z2(l:List LT)(lo:Nat)(w:Int)(hl:l.length<=1000)(hlo:lo<=l.length)(O:au):sE [.lst (l.map dL),.int (lo:Int),.int w] O=.ok (.lst ((ends l lo w).map dE)) O:=by
 have ef:=Z0 l lo w hl hlo O;unfold ends
 cases hf:fes l lo w (l.length - lo) with
 |nil =>
  rw[hf] at ef;have er:=ZC l lo w hl hlo O;have rl:=Lf l lo w hlo
  have ecut:eU (l.map dL) (some (lo:Int)) (some (rch l lo w:Nat))=((l.drop lo).take (rch l lo w - lo)).map dL:=by
   rw[K5,List.map_take,List.map_drop]
  have ec:=ZF ((l.drop lo).take (rch l lo w - lo)) (by rw[List.length_take,List.length_drop];omega) O;show bB (pY [some (.lst (l.map dL)),some (.int (lo:Int)),some (.int w),none,none] O)=_;unfold pY
  have gz:¬(0:Int)>0:=by decide
  have l0:bz [.lst []]=some (.int 0):=rfl;simp only[bw,fX,gb,dz,dG,cJ,zt,zw,aO,ef,zC,fY,bA,zT,zN,iI,fW,dW,gf,m_c,zd,dq,l0,dj,dg,mD,zg gz,fV,jy,Bool.false_eq_true,if_false,dZ,er,eE,rN,ye,Jg,Jf,m_g,uI,Je,Jh,ecut,ec,zx,zV,Nat.reduceAdd,Nat.reduceLeDiff,if_true,pU,pW,zK];rfl
 |cons k ks =>
  rw[hf,Z1] at ef
  generalize hds:List.map dE ((k::ks).map λk=>(lo+k+1,tw l lo (k+1)))=ds at ef
  have hn:0<ds.length:=by rw[<-hds,ze,ze,zx];omega
  have gz:(ds.length:Int)>0:=by omega
  show bB (pY [some (.lst (l.map dL)),some (.int (lo:Int)),some (.int w),none,none] O)=_;unfold pY;simp only[bw,fX,gb,dz,dG,cJ,zt,zw,aO,ef,zC,fY,bA,zT,zN,iI,fW,dW,gf,m_c,zd,dq,oA,dj,dg,mD,zh gz,fV,jy,if_true,eE,pU,Ji,pW]
def bN(l:List LT):List Nat:=(List.range l.length).filter λk=>isB l (.int (1+(k:Int)))
theorem Z3(l:List LT):brk l=(bN l).map λk:Nat=>D.int (1+(k:Int)):=by
 unfold brk bN bM;rw[List.filter_map];rfl
theorem Z4{l:List LT}{p:Nat}:p∈bN l↔p<l.length/\isB l (.int (1+(p:Int)))=true:=by
 unfold bN;rw[List.mem_filter,List.mem_range]
theorem Z5(l:List LT):(bN l).Pairwise (· < ·):=List.Pairwise.filter _ List.pairwise_lt_range
def okP(l:List LT)(lo:Nat)(w:Int)(p:Nat):Bool:=decide (lo<=p)&&gd l lo w (p - lo)
theorem Z6(l:List LT)(lo:Nat)(w:Int)(hlo:lo<=l.length):(bN l).filter (okP l lo w)=(fes l lo w (l.length - lo)).map (lo + ·):=by
 unfold bN fes;rw[List.filter_filter,show l.length=lo+(l.length - lo) by omega,List.range_add,List.filter_append,show lo+(l.length - lo) - lo=l.length - lo by omega]
 have e0:(List.range lo).filter (λa=>okP l lo w a&&isB l (.int (1+(a:Int))))=[]:=by
  rw[List.filter_eq_nil_iff];intro a ha
  have:=List.mem_range.mp ha
  unfold okP;rw[zg (by omega)];exact zj
 rw[e0,zK,List.filter_map];congr 1
 refine List.filter_congr λk _=>?_
 show(okP l lo w (lo+k)&&isB l (.int (1+((lo+k:Nat):Int))))=gd l lo w k;unfold okP;rw[zh (jn _ _),Nat.add_sub_cancel_left,Bool.true_and];unfold gd
 cases isB l (.int (1+((lo+k:Nat):Int))) with
 |true=>rw[Bool.and_true]
 |false=>rfl
def Ea:MS:=(aZ (aK (ak gGt (aa 5) (aa 2))) (aA (aZ (aK (ak gGt (aJ lA (aj (aa 0) (aj (aa 2) (aj (aa 5) aq)))) (aa 3))) pA bj)
  (dU 4 (aa 5))) bj)
def i1(k:Nat):D:=.int (1+(k:Int))
def eC(l:List LT)(a1:Option D)(lo:Nat)(w:Int)(acc:List Nat)(o5:Option D):aD:=[some (.lst (l.map dL)),a1,some (.int (lo:Int)),some (.int w),some (.lst (acc.map i1)),o5]
theorem Eb(l:List LT)(lo:Nat)(w:Int)(hl:l.length<=1000)(O:au)(a1:Option D):∀(ps acc:List Nat) (o5:Option D),acc.length+ps.length<=1000->(∀p∈ps,p<l.length/\isB l (.int (1+(p:Int)))=true)->ps.Pairwise (· < ·) ->
  ∃(o5':Option D),cV (mgN 5) Ea (ps.map i1) (eC l a1 lo w acc o5) O=.nx (eC l a1 lo w (acc++ps.filter (okP l lo w)) o5') O
 | [],acc,o5,_,_,_=>⟨o5,by rw[List.filter_nil,zX];rfl⟩
 |p::ps,acc,o5,hn,hm,hs=>by
  obtain⟨hp,hb⟩:=hm p zv;rw[zx] at hn
  have hm':=λq hq=>hm q (zy _ hq)
  rw[List.pairwise_cons] at hs;rw[zd];unfold cV;rw[show mgN 5 (i1 p) (eC l a1 lo w acc o5)=some (eC l a1 lo w acc (some (i1 p))) from rfl];dsimp only;have t1:aK (ak gGt (aa 5) (aa 2)) (eC l a1 lo w acc (some (i1 p))) O=.ok (decide ((lo:Int)<1+(p:Int))) O:=gk (bO (x:=i1 p) (y:=.int (lo:Int)) rfl rfl mD);unfold Ea
  by_cases h1:lo<=p
  ·have et:=Lj l lo (p - lo+1) hl (by omega) O;rw[show((lo+(p - lo+1):Nat):Int)=1+(p:Int) by omega] at et;have et':lA [.lst (l.map dL),.int (lo:Int),.int (1+(p:Int))] O=.ok (.int (tw l lo (p - lo+1))) O:=et;have t2:aK (ak gGt (aJ lA (aj (aa 0) (aj (aa 2) (aj (aa 5) aq)))) (aa 3)) (eC l a1 lo w acc (some (i1 p))) O=.ok (decide (w<tw l lo (p - lo+1))) O :=
    gk (bO (x:=.int (tw l lo (p - lo+1))) (y:=.int w) (by rw[cz (maS (x:=.lst (l.map dL)) rfl (maS (x:=.int (lo:Int)) rfl (ma1 (x:=i1 p) rfl)))];exact et') rfl mD)
   rw[iu (by rw[t1,zh (by omega)]),bw]
   by_cases h2:tw l lo (p - lo+1)<=w
   ·rw[if_no (by rw[t2,zg (by omega)]),dZ,bA]
    have ok:okP l lo w p=true:=by
     unfold okP gd;rw[show lo+(p - lo)=p by omega,hb,zh h1,zh h2];rfl
    have ap:dU 4 (aa 5) (eC l a1 lo w acc (some (i1 p))) O=.nx (eC l a1 lo w (acc++[p]) (some (i1 p))) O:=by
     have:=vY (i:=4) (m:=aa 5) (ρ:=eC l a1 lo w acc (some (i1 p))) (O:=O) (d:=i1 p) (ds:=acc.map i1) rfl rfl (by rw[ze];omega)
     rw[this];unfold eC;rw[zY];rfl
    rw[ap];obtain⟨o5',e⟩:=Eb l lo w hl O a1 ps (acc++[p]) (some (i1 p)) (by rw[zF,jg];omega) hm' hs.2;refine⟨o5',?_⟩;rw[List.filter_cons_of_pos ok,<-List.append_cons] at *;exact e
   ·rw[iu (by rw[t2,zh (by omega)])]
    have no:(p::ps).filter (okP l lo w)=[]:=by
     rw[List.filter_eq_nil_iff];intro a ha
     have hge:p<=a:=by
      rcases zn.mp ha with rfl | q
      ·exact zc _
      ·exact Nat.le_of_lt (hs.1 _ q)
     have m:=Lx l lo (show p - lo+1<=a - lo+1 by omega);unfold okP gd;rw[zg (show ¬tw l lo (a - lo+1)<=w by omega),Bool.and_false,Bool.and_false];exact zj
    exact⟨some (i1 p),by rw[no,zX];rfl⟩
  ·rw[if_no (by rw[t1,zg (by omega)]),dZ]
   have no:¬okP l lo w p=true:=by
    unfold okP;rw[zg h1];exact zj
   obtain⟨o5',e⟩:=Eb l lo w hl O a1 ps acc (some (i1 p)) (by omega) hm' hs.2;refine⟨o5',?_⟩;rw[List.filter_cons_of_neg no];exact e
theorem Z7{α:Type}(f:α->Int)(l:List α):okE (.lst (l.map λx=>D.int (f x)))=true:=Jv (n:=5) (by decide) λd hd=>by
 obtain⟨x,_,rfl⟩:=zE.mp hd;exact⟨rfl,rfl,by simp[toP,PyData.depth]⟩
theorem LC(d:D)(ds:List D):fP (.lst (d::ds)) (.lst [])=false:=by
 unfold fP;rw[toP,toP,jR,jR];rfl
theorem LK(l:List LT)(lo:Nat)(w:Int)(hl:l.length<=900)(hlo:lo<=l.length)(O:au):oU [.lst (l.map dL),.lst (brk l),.int (lo:Int),.int w] O=.ok (.lst ((ends l lo w).map λp=>D.int (p.1:Int))) O:=by
 have bl:(bN l).length<=l.length:=by
  unfold bN
  have:=List.length_filter_le (λk:Nat=>isB l (.int (1+(k:Int)))) (List.range l.length)
  rwa [List.length_range] at this
 obtain⟨o5,e⟩:=Eb l lo w (by omega) O (some (.lst (brk l))) (bN l) [] none (by rw[zV];omega) (λp hp=>Z4.mp hp) (Z5 l);rw[zK,Z6 l lo w hlo,show(bN l).map i1=brk l from(Z3 l).symm] at e;have et:=ZD l lo w (by omega) hlo O
 have hi:cF (aa 1) (eC l (some (.lst (brk l))) lo w [] none) O=.ok (brk l) O:=by
  rw[rR,show aa 1 (eC l (some (.lst (brk l))) lo w [] none) O=.ok (.lst (brk l)) O from rfl,aO,uJ,rQ]
 show bB (vP [some (.lst (l.map dL)),some (.lst (brk l)),some (.int (lo:Int)),some (.int w),none,none] O)=_;unfold vP;rw[bw,show aH 4 (cg aq) [some (.lst (l.map dL)),some (.lst (brk l)),some (.int (lo:Int)),some (.int w),none,none] O=.nx (eC l (some (.lst (brk l))) lo w [] none) O from rfl,bA,bw];show bB (il (cu (cF (aa 1)) (mgN 5) Ea _ _) _)=_;rw[gK,hi,gM,e,bA,bw]
 have hok:∀ks:List Nat,okE (.lst (ks.map i1))=true:=λks=>Z7 (λk:Nat=>1+(k:Int)) ks
 have tq:∀ks:List Nat,aK (ak gEq (aa 4) (cg aq)) (eC l (some (.lst (brk l))) lo w ks o5) O=.ok (fP (.lst (ks.map i1)) (.lst [])) O:=λks =>
  gk (bO (x:=.lst (ks.map i1)) (y:=.lst []) rfl rfl (by rw[dq,dq,yj,hok ks,show okE (.lst [])=true from rfl,Bool.and_self,if_pos rfl]))
 unfold ends
 cases hf:fes l lo w (l.length - lo) with
 |nil =>
  rw[zC,iu (by rw[tq];rfl),lE (d:=.lst [.int (rch l lo w:Nat)]) (by
   refine tH (ma1 ?_) (show(1:Nat)<=1000000 by decide);rw[cz (maS (x:=.lst (l.map dL)) rfl (maS (x:=.int (lo:Int)) rfl (ma1 (x:=.int w) rfl)))]
   exact et)]
  rfl
 |cons k ks =>
  rw[zd,if_no (by rw[tq,zd,LC]),dZ,bA];dsimp only;rw[lE (d:=.lst (((lo+k)::ks.map (lo + ·)).map i1)) rfl];show Res.ok (D.lst (((lo+k)::ks.map (lo + ·)).map i1)) O=_;congr 2;rw[<-zd (f:=(lo + ·)),zR,zR]
  refine jl λj _=>?_
  show D.int (1+((lo+j:Nat):Int))=D.int ((lo+j+1:Nat):Int);rw[show 1+((lo+j:Nat):Int)=((lo+j+1:Nat):Int) by omega]
def cst(l:List LT)(w:Int)(p:Nat×Int):Int:=if p.1=l.length then 0 else(w - p.2) * (w - p.2)
def strN(n:Nat):List Nat:=(Nat.toDigits 10 n).map Char.toNat
def mvE(l:List LT)(w:Int)(p:Nat×Int):D:=.tup [.int (cst l w p),.str (strN p.1),.tup [.int (p.1:Int),.int 0]]
theorem Z8(n:Nat)(h:n<1000000000):pL [.int (n:Int)]=some (.str (strN n)):=by
 unfold pL;dsimp only;rw[if_pos ⟨by omega,by omega⟩,Int.toNat_natCast];rfl
theorem LQ{l:List LT}{lo:Nat}{w:Int}(hn:∀j,lo+j+1<=l.length->gd l lo w j=false):∀(n m:Nat),lo+m+1+n=l.length->(∃x,l[lo+m]?=some x/\x.1=32)->tw l lo (m+1)<=w->False
 | 0,m,h,_,ht=>by
  have g:=hn m (by omega);unfold gd at g;rw[DY (l:=l) (i:=lo+m) (by omega),zh ht] at g;cases g
 |n+1,m,h,⟨x,hx,hx2⟩,ht=>by
  obtain⟨x',y,e1,e2,e3⟩:=DX (l:=l) (i:=lo+m) (by omega);rw[hx] at e1;cases e1
  by_cases hy:y.1=32
  ·refine LQ hn n (m+1) (by omega) ⟨y,by rw[<-Nat.add_assoc];exact e2,hy⟩ ?_;rw[Ls (l:=l) (lo:=lo) (k:=m+1) (x:=y) (by rw[<-Nat.add_assoc];exact e2) hy];exact ht
  ·have g:=hn m (by omega);unfold gd at g;rw[e3,zh hx2,zg hy,zh ht] at g;cases g
theorem LR{l:List LT}{lo:Nat}{w:Int}{n k:Nat}:k∈fes l lo w n↔k<n/\gd l lo w k=true:=by
 unfold fes;rw[List.mem_filter,List.mem_range]
theorem gP{l:List LT}{lo:Nat}{w:Int}(hlo:lo<l.length)(hw:2<=w):∀p∈ends l lo w,lo<p.1/\p.1<=l.length/\0<=p.2/\p.2<=w/\p.2=tw l lo (p.1 - lo):=by
 intro p hp;unfold ends at hp
 cases hf:fes l lo w (l.length - lo) with
 |nil =>
  rw[hf] at hp;rw[zm.mp hp]
  have hn:∀j,lo+j+1<=l.length->gd l lo w j=false:=λj hj=>by
   cases hg:gd l lo w j with
   |false=>rfl
   |true =>
    have:j∈fes l lo w (l.length - lo):=LR.mpr ⟨by omega,hg⟩
    rw[hf] at this;exact nomatch this
  have r1:=Zz l lo w hlo hw;have r2:=Lf l lo w (by omega)
  have hfit:rch l lo w - lo=eO (l.drop lo) w:=by unfold rch;omega
  have s1:=Lr (l.drop lo) w (rch l lo w - lo) (by omega) (by omega);refine⟨r1,r2,wz _,s1,?_⟩;obtain⟨m,hm⟩:∃m,rch l lo w - lo=m+1:=⟨rch l lo w - lo - 1,by omega⟩
  have hlt:lo+m<l.length:=by omega
  have ex:=zo hlt;show wsum ((l.drop lo).take (rch l lo w - lo))=tw l lo (rch l lo w - lo);rw[hm] at s1 ⊢
  generalize l[lo+m]=x at ex
  by_cases hx:x.1=32
  ·exfalso
   exact LQ hn (l.length - (lo+m+1)) m (by omega) ⟨x,ex,hx⟩ (Int.le_trans (ZR l lo (m+1)) s1)
  ·exact(Lw ex hx).symm
 |cons k ks =>
  rw[hf] at hp;obtain⟨j,hj,rfl⟩:=zE.mp hp;rw[<-hf] at hj;obtain⟨h1,h2⟩:=LR.mp hj;unfold gd at h2;rw[zp] at h2;have h3:=jj h2.2;refine⟨by show lo<lo+j+1;omega,by show lo+j+1<=_;omega,wz _,h3,?_⟩;show tw l lo (j+1)=tw l lo (lo+j+1 - lo);rw[show lo+j+1 - lo=j+1 by omega]
theorem Ma(l:List LT)(lo:Nat)(w:Int):(ends l lo w).length<=l.length+1:=by
 unfold ends
 have h:(fes l lo w (l.length - lo)).length<=l.length - lo:=by
  unfold fes
  have:=List.length_filter_le (gd l lo w) (List.range (l.length - lo))
  rwa [List.length_range] at this
 cases hf:fes l lo w (l.length - lo) with
 |nil=>exact Nat.le_add_left _ _
 |cons k ks =>
  rw[hf] at h;dsimp only;rw[ze];omega
theorem Mf{cs:List Str}{f c:Str}{m:L2.M D}{ρ:aD}{O:au}{n:Nat}{y:D}{fs:List (Str×D)}(ho:m ρ O=.ok (.ob n) O)(hO:O[n]?=some (.ins c fs))(hc:c∈cs)(hy:fs.lookup f=some y):
  f9 cs f m ρ O=.ok y O:=by
 rw[Xz,ho,aO];unfold Jy;dsimp only;rw[hO];dsimp only;rw[if_pos hc,hy]
theorem lF{c m:Str}{cf:List D->au->Res D}{mo:L2.M D}{ma:L2.M (List D)}{ρ:aD}{O:au}{n:Nat}{ds:List D}{fs:List (Str×D)}(ho:mo ρ O=.ok (.ob n) O)(hO:O[n]?=some (.ins c fs))(hm:(fs.lookup m).isNone=true)(ha:ma ρ O=.ok ds O):
  cR c m cf mo ma ρ O=cf (.ob n::ds) O:=by
 rw[XF,ho,aO];unfold meF;dsimp only;rw[hO];dsimp only;rw[if_pos ⟨rfl,hm⟩,ha,aO]
theorem oX{m:L2.M (List D)}{own:Nat}{cap:List Nat}{g:MG}{t:L2.M Bool}{e:L2.M D}{ρ ρ0:aD}{O:au}{ds ys:List D}(h:m ρ O=.ok ds O)(hl:ds.length<=1000000)(h0:jP own cap ρ=ρ0)(hc:dR g t e ds ρ0 O []=.ok ys O):dI m own cap g t e ρ O=.ok (.lst ys) O:=by
 rw[uK,h,aO,if_pos hl,h0,hc,aO]
theorem j4{m:L2.M D}{ρ:aD}{O:au}{l:List D}(h:m ρ O=.ok (.lst l) O):cF m ρ O=.ok l O:=by
 rw[rR,h,aO,uJ,rQ]
theorem sq{a b:MS}{ρ ρ':aD}{O O':au}(h:a ρ O=.nx ρ' O'):aA a b ρ O=b ρ' O':=by
 rw[bw,h,bA]
theorem qC{i:Nat}{m:L2.M D}{ρ:aD}{O O':au}{d:D}(h:m ρ O=.ok d O'):aH i m ρ O=.nx (ρ.set i (some d)) O':=by
 rw[fX,h,fY]
abbrev Nd:=Int×Int
def nN(n:Nd):D:=.tup [.int n.1,.int n.2]
def key(n:Nd):List Key:=[.inl n.1,.inl n.2]
structure M3 where
 cost:Int
 name:List Nat
 other:Nd
def d3(m:M3):D:=.tup [.int m.cost,.str m.name,nN m.other]
def oD:Option Int->D
 |none=>.non
 |some i=>.int i
abbrev Tb:=List (Nd×Option Int)
def tab(ps:Tb):List (List Key×D):=ps.map λx=>(key x.1,oD x.2)
def lk(ps:Tb)(n:Nd):Option (Option Int):=(ps.find? λx=>decide (x.1=n)).map (·.2)
def pu(ps:Tb)(n:Nd)(v:Option Int):Tb:=if(ps.any λx=>decide (x.1=n))=true then ps.map (λx=>if x.1=n then(x.1,v) else x) else ps++[(n,v)]
theorem qD(n:Nd):pK (nN n)=some (key n):=rfl
theorem tQ{a b:Nd}:key a=key b↔a=b:=by
 obtain⟨a1,a2⟩:=a;obtain⟨b1,b2⟩:=b;unfold key;simp
theorem Ec(n:Nd):∀ps:Tb,gH (tab ps) (key n)=(lk ps n).map oD
 | []=>rfl
 |x::ps=>by
  have ih:=Ec n ps;unfold gH lk tab at *;rw[zd,List.find?_cons,List.find?_cons]
  by_cases h:x.1=n
  ·simp[h]
  ·have h':¬key x.1=key n:=λz=>h (tQ.mp z)
   simp only[h,h',decide_false];exact ih
theorem Mg(n:Nd):∀ps:Tb,((tab ps).any λp=>decide (p.1=key n))=ps.any λx=>decide (x.1=n)
 | []=>rfl
 |x::ps=>by
  have ih:=Mg n ps;unfold tab at *;rw[zd,List.any_cons,List.any_cons,ih];congr 1;exact decide_eq_decide.mpr tQ
theorem Z9(ps:Tb)(n:Nd)(v:Option Int):nU (tab ps) (key n) (oD v)=tab (pu ps n v):=by
 unfold nU pu;rw[Mg]
 split
 ·unfold tab;rw[zR,zR]
  refine jl λx _=>?_
  by_cases h:x.1=n
  ·simp[h]
  ·have h':¬key x.1=key n:=λz=>h (tQ.mp z)
   simp[h,h']
 ·unfold tab;rw[zY];rfl
theorem Ed{n:Nd}:∀{ps:Tb},(ps.any λx=>decide (x.1=n))=false->lk ps n=none
 | [],_=>rfl
 |x::ps,h=>by
  rw[List.any_cons,Bool.or_eq_false_iff] at h
  have:=Ed h.2
  unfold lk at *;rw[List.find?_cons,h.1];exact this
theorem oY(x:Nd×Option Int)(ps:Tb)(n:Nd):lk (x::ps) n=if x.1=n then some x.2 else lk ps n:=by
 unfold lk;rw[List.find?_cons]
 by_cases h:x.1=n
 ·simp[h]
 ·simp[h]
theorem Mh(n:Nd)(y:Nd×Option Int):∀ps:Tb,lk (ps++[y]) n=if(lk ps n).isSome=true then lk ps n else if y.1=n then some y.2 else none
 | []=>by
  rw[zK,oY];rfl
 |x::ps=>by
  rw[List.cons_append,oY,oY,Mh n y ps]
  by_cases h:x.1=n
  ·simp[h]
  ·simp[h]
theorem Mi(n m:Nd)(v:Option Int):∀ps:Tb,lk (ps.map λx=>if x.1=n then(x.1,v) else x) m=if m=n then(lk ps m).map λ_=>v else lk ps m
 | []=>by simp[lk]
 |x::ps=>by
  rw[zd,oY,oY,Mi n m v ps]
  by_cases h:x.1=n
  ·by_cases hm:m=n
   ·subst hm;simp[h]
   ·have:¬n=m:=λz=>hm z.symm
    simp[h,hm,this]
  ·by_cases hx:x.1=m
   ·have:¬m=n:=λz=>h (hx.trans z)
    simp[h,hx,this]
   ·simp[h,hx]
theorem Mj{n:Nd}:∀{ps:Tb},(ps.any λx=>decide (x.1=n))=true->(lk ps n).isSome=true
 |x::ps,h=>by
  rw[oY]
  by_cases hx:x.1=n
  ·simp[hx]
  ·rw[if_neg hx];rw[List.any_cons,zg hx,Bool.false_or] at h;exact Mj h
theorem Ml(ps:Tb)(n m:Nd)(v:Option Int):lk (pu ps n v) m=if m=n then some v else lk ps m:=by
 unfold pu
 split
 ·rename_i h;rw[Mi]
  split
  ·rename_i hm;subst hm
   have:=Mj h
   cases e:lk ps m with
   |none=>rw[e] at this;cases this
   |some w=>rfl
  ·rfl
 ·rename_i h;have h0:=Ed (Bool.eq_false_iff.mpr h);rw[Mh]
  by_cases hm:m=n
  ·subst hm;simp[h0]
  ·have:¬n=m:=λz=>hm z.symm
   simp[hm,this]
   cases lk ps m<;>simp
theorem Qu0(ps:Tb)(n:Nd)(v:Option Int):(pu ps n v).length<=ps.length+1:=by
 unfold pu
 split
 ·rw[ze];omega
 ·rw[zF];exact zc _
theorem Qua{ps:Tb}{n:Nd}{v:Option Int}(h:(lk ps n).isSome=true):(pu ps n v).length=ps.length:=by
 unfold pu
 split
 ·rw[ze]
 ·rename_i h';rw[Ed (Bool.eq_false_iff.mpr h')] at h;cases h
theorem qF{mo my:L2.M D}{ρ:aD}{O:au}{p:Nat}{ps:Tb}{n:Nd}{v:Option Int}(h1:mo ρ O=.ok (.ob p) O)(h2:O[p]?=some (.dt (tab ps)))(h3:my ρ O=.ok (nN n) O)(h4:lk ps n=some v):cG mo my ρ O=.ok (oD v) O:=by
 unfold cG;rw[h1];dsimp only[aO];rw[h3];dsimp only[aO];unfold tsG;rw[qD,h2];dsimp only;unfold tsF;rw[qD,h2];dsimp only;rw[Ec,h4];rfl
theorem Mm{mo my mv:L2.M D}{ρ:aD}{O:au}{p:Nat}{ps:Tb}{n:Nd}{v:Option Int}(h0:mv ρ O=.ok (oD v) O)(h1:mo ρ O=.ok (.ob p) O)(h2:O[p]?=some (.dt (tab ps)))(h3:my ρ O=.ok (nN n) O)(hl:ps.length<1000000):ig mo my mv ρ O=.nx ρ (O.set p (.dt (tab (pu ps n v)))):=by
 unfold ig;rw[h0];dsimp only;rw[h1];dsimp only;rw[h3];dsimp only;rw[qD,h2];dsimp only;rw[if_pos (by unfold tab;rw[ze];exact hl),Z9]
def co(ps:Tb)(m:M3):Option Int:=match lk ps m.other with
 |some (some b)=>some (m.cost+b)
 | _=>none
def lc(ps:Tb)(ms:List M3):Option Int:=mdI none (ms.filterMap (co ps))
theorem Mp{O:au}{p:Nat}{ps:Tb}{m:M3}(hp:O[p]?=some (.dt (tab ps)))(hm:(lk ps m.other).isSome=true):lr [d3 m,.ob p] O=.ok (oD (co ps m)) O:=by
 obtain⟨v,hv⟩:=Option.isSome_iff_exists.mp hm;have s1:cG (mG (aa 1)) (ak gIx (aa 0) (mC (.int 2))) [some (d3 m),some (.ob p),none] O=.ok (oD v) O:=qF rfl hp (bO rfl rfl rfl) hv;show bB (uZ [some (d3 m),some (.ob p),none] O)=_;unfold uZ;rw[sq (du s1),eE];unfold co;rw[hv]
 cases v with
 |none=>rfl
 |some b=>rfl
theorem ints_map:∀is:List Int,gZ (is.map D.int)=some is
 | []=>rfl
 |i::is=>by
  show(gZ (is.map D.int)).map (i :: ·)=_;rw[ints_map is];rfl
theorem Mq(ps:Tb):∀ms:List M3,(ms.map λm=>oD (co ps m)).filter (λd=>!isNon d)=(ms.filterMap (co ps)).map D.int
 | []=>rfl
 |m::ms=>by
  rw[zd,List.filter_cons,List.filterMap_cons,Mq ps ms]
  cases co ps m<;>rfl
theorem Mr{O:au}{p:Nat}{ps:Tb}{ms:List M3}(hp:O[p]?=some (.dt (tab ps)))(hm:∀m∈ms,(lk ps m.other).isSome=true)(hl:ms.length<=1000):oH [.lst (ms.map d3),.ob p] O=.ok (oD (lc ps ms)) O:=by
 have c1:dR (mgN 0) dJ (aJ lr (aj (aa 0) (aj (aa 1) aq))) (ms.map d3) [none,some (.ob p)] O []=.ok (ms.map λm=>oD (co ps m)) O:=by
  rw[lg (λρ=>∃a,ρ=[a,some (.ob p)]) d3 (λm=>oD (co ps m)) ms _ _ _ ⟨none,rfl⟩ (by
   rintro m hm' ρ ⟨a,rfl⟩
   exact⟨_,rfl,⟨_,rfl⟩,rfl,(cz (maS rfl (ma1 rfl))).trans (Mp hp (hm m hm'))⟩)]
  rw[zK]
 have s1:dI (cF (aa 0)) 1 [1] (mgN 0) dJ (aJ lr (aj (aa 0) (aj (aa 1) aq))) [some (.lst (ms.map d3)),some (.ob p),none] O=.ok (.lst (ms.map λm=>oD (co ps m))) O:=oX (j4 rfl) (by rw[ze];omega) rfl c1
 have c2:dR (mgN 0) (aK (iY (aa 0))) (aa 0) (ms.map λm=>oD (co ps m)) [none] O []=.ok ((ms.filterMap (co ps)).map D.int) O:=by
  rw[Jr (λρ=>∃a,ρ=[a]) (λd=>!isNon d) _ _ _ _ ⟨none,rfl⟩ (by
   rintro d hd ρ ⟨a,rfl⟩
   exact⟨_,rfl,⟨_,rfl⟩,rfl,rfl⟩)]
  rw[zK,Mq]
 have s2:dI (cF (aa 2)) 1 [] (mgN 0) (aK (iY (aa 0))) (aa 0) [some (.lst (ms.map d3)),some (.ob p),some (.lst (ms.map λm=>oD (co ps m)))] O=.ok (.lst ((ms.filterMap (co ps)).map D.int)) O:=oX (j4 rfl) (by rw[ze];omega) rfl c2
 have s3:aX uF (aj (dI (cF (aa 2)) 1 [] (mgN 0) (aK (iY (aa 0))) (aa 0)) aq) [some (.lst (ms.map d3)),some (.ob p),some (.lst (ms.map λm=>oD (co ps m)))] O=.ok (oD (lc ps ms)) O:=lB (ma1 s2) (by
  show(gZ ((ms.filterMap (co ps)).map D.int)).map _=_;rw[ints_map];show some (match mdI none (ms.filterMap (co ps)) with | some m=>D.int m | none=>D.non)=some (oD (mdI none (ms.filterMap (co ps))))
  cases mdI none (ms.filterMap (co ps))<;>rfl)
 show bB (u0 [some (.lst (ms.map d3)),some (.ob p),none] O)=_;unfold u0;rw[sq (du s1),eE];exact congrArg (λr=>bB (ou r)) s3
theorem Ms{ps ps':Tb}:∀{ms:List M3},(∀m∈ms,lk ps' m.other=lk ps m.other)->ms.filterMap (co ps')=ms.filterMap (co ps)
 | [],_=>rfl
 |m::ms,h=>by
  have e:co ps' m=co ps m:=by
   unfold co;rw[h m zv]
  rw[List.filterMap_cons,List.filterMap_cons,e,Ms λx hx=>h x (zy _ hx)]
theorem wA{ps ps':Tb}{ms:List M3}(h:∀m∈ms,lk ps' m.other=lk ps m.other):lc ps' ms=lc ps ms:=by
 unfold lc;rw[Ms h]
structure Trl(t:Nat)(fs:List (Str×D))(N:Nat)(nodes:Nat->List Nd)(mv:Nd->List M3)(fin:Nd->Bool):Prop where
 na:∀(O:au) (a:Nat),O[t]?=some (.ins "Even" fs)->a<=N->p6 [.ob t,.int a] O=.ok (.lst ((nodes a).map nN)) O
 mf:∀(O:au) (a:Nat) (n:Nd),O[t]?=some (.ins "Even" fs)->a<=N->n∈nodes a->jX [.ob t,nN n] O=.ok (.lst ((mv n).map d3)) O
 ie:∀(O:au) (a:Nat) (n:Nd),O[t]?=some (.ins "Even" fs)->a<=N->n∈nodes a->iM [.ob t,nN n] O=.ok (.bl (fin n)) O
 la:∀O:au,O[t]?=some (.ins "Even" fs)->sO [.ob t] O=.ok (.int N) O
 fi:∀O:au,O[t]?=some (.ins "Even" fs)->sU [.ob t] O=.ok (nN (0,0)) O
 f0:((0,0):Nd)∈nodes 0
 nd:∀a,(nodes a).Nodup
 ln:∀a,(nodes a).length<=1
 fw:∀(a:Nat) (n:Nd),a<=N->n∈nodes a->∀m∈mv n,∃b,a<b/\b<=N/\m.other∈nodes b
 sp:∀(a b:Nat) (n:Nd),n∈nodes a->n∈nodes b->a=b
 ml:∀n,(mv n).length<=1000
 fe:∀n,fin n=true->mv n=[]
 u1:(fs.lookup ("nodes_at":Str)).isNone=true
 u2:(fs.lookup ("moves_from":Str)).isNone=true
 u3:(fs.lookup ("is_end":Str)).isNone=true
 u4:(fs.lookup ("last_at":Str)).isNone=true
 u5:(fs.lookup ("first_node":Str)).isNone=true
 hN:N<=1000
def cL(mv:Nd->List M3)(ns:List Nd):List (List Key×D):=ns.map λn=>(key n,D.lst ((mv n).map d3))
theorem Mt(mv:Nd->List M3)(n:Nd):∀ns:List Nd,((cL mv ns).any λp=>decide (p.1=key n))=decide (n∈ns)
 | []=>rfl
 |x::ns=>by
  have ih:=Mt mv n ns;unfold cL at *;rw[zd,List.any_cons,ih]
  by_cases h:x=n
  ·subst h;simp
  ·have h1:¬key x=key n:=λz=>h (tQ.mp z)
   have h2:¬n=x:=λz=>h z.symm
   simp[h1,h2]
theorem QsR{mv:Nd->List M3}{ns:List Nd}{n:Nd}(h:n∉ns):nU (cL mv ns) (key n) (.lst ((mv n).map d3))=cL mv (ns++[n]):=by
 unfold nU;rw[Mt,zg h,if_neg zj];unfold cL;rw[zY];rfl
theorem Mu(mv:Nd->List M3)(n:Nd):∀ns:List Nd,n∈ns->gH (cL mv ns) (key n)=some (.lst ((mv n).map d3))
 |x::ns,h=>by
  unfold gH cL;rw[zd,List.find?_cons]
  by_cases hx:x=n
  ·subst hx;simp
  ·have h1:¬key x=key n:=λz=>hx (tQ.mp z)
   simp only[h1,decide_false]
   rcases zn.mp h with rfl | h
   ·exact absurd rfl hx
   ·exact Mu mv n ns h
theorem QqS(mv:Nd->List M3)(ns:List Nd):(cL mv ns).map xW=ns.map nN:=by
 unfold cL;rw[zR];rfl
def B_1:MS:=(aA (ig (aa 3) (aa 4) (cR "Even" "moves_from" jX (mG (aa 0)) (aj (aa 4) aq)))
  (ig (mG (aa 2)) (aa 4) (mIf (bI (cR "Even" "is_end" iM (mG (aa 0)) (aj (aa 4) aq))) (mC (.int 0)) (mC .non))))
def ini(fin:Nd->Bool)(n:Nd):Option Int:=if fin n=true then some 0 else none
theorem tR{O:au}{i j:Nat}{x y:Ob}(h1:O[i]?=some x)(h2:O[j]?=some y)(h:x≠y):i≠j:=λz=>by
 rw[z,h2] at h1;exact h (zB h1).symm
theorem tU{O:au}{i:Nat}{x y:Ob}(e:O[i]?=some x):(O.set i y)[i]?=some y:=by
 obtain⟨h,_⟩:=zl.mp e;simp[h]
section
variable {t:Nat}{fs:List (Str×D)}{N:Nat}{nodes:Nat->List Nd}{mv:Nd->List M3}{fin:Nd->Bool}{p q:Nat}
theorem QsH(T:Trl t fs N nodes mv fin){a:Nat}(ha:a<=N){n:Nd}(hn:n∈nodes a){pre:List Nd}(hp':n∉pre){O:au}{cur:Tb}(ht:O[t]?=some (.ins "Even" fs))(hp:O[p]?=some (.dt (tab cur)))(hq:O[q]?=some (.dt (cL mv pre)))(hpq:p≠q)(hl:cur.length<1000000)(hl2:pre.length<1000000)(o5 o6:Option D):
  B_1 [some (.ob t),some (.int a),some (.ob p),some (.ob q),some (nN n),o5,o6] O=.nx [some (.ob t),some (.int a),some (.ob p),some (.ob q),some (nN n),o5,o6] ((O.set q (.dt (cL mv (pre++[n])))).set p (.dt (tab (pu cur n (ini fin n))))):=by
 have tq:t≠q:=tR ht hq (λz=>nomatch z);have tp:t≠p:=tR ht hp (λz=>nomatch z);have e1:cR "Even" "moves_from" jX (mG (aa 0)) (aj (aa 4) aq) [some (.ob t),some (.int a),some (.ob p),some (.ob q),some (nN n),o5,o6] O=.ok (.lst ((mv n).map d3)) O:=(lF rfl ht T.u2 (ma1 rfl)).trans (T.mf O a n ht ha hn)
 have s1:ig (aa 3) (aa 4) (cR "Even" "moves_from" jX (mG (aa 0)) (aj (aa 4) aq)) [some (.ob t),some (.int a),some (.ob p),some (.ob q),some (nN n),o5,o6] O=.nx [some (.ob t),some (.int a),some (.ob p),some (.ob q),some (nN n),o5,o6] (O.set q (.dt (cL mv (pre++[n])))):=by
  unfold ig;rw[e1];dsimp only;rw[show(aa 3) [some (.ob t),some (.int a),some (.ob p),some (.ob q),some (nN n),o5,o6] O=.ok (.ob q) O from rfl];dsimp only;rw[show(aa 4) [some (.ob t),some (.int a),some (.ob p),some (.ob q),some (nN n),o5,o6] O=.ok (nN n) O from rfl];dsimp only;rw[qD,hq];dsimp only;rw[if_pos (by unfold cL;rw[ze];exact hl2),QsR hp']
 have ht':(O.set q (.dt (cL mv (pre++[n]))))[t]?=some (.ins "Even" fs):=by rw[zq (Ne.symm tq)];exact ht
 have hp2:(O.set q (.dt (cL mv (pre++[n]))))[p]?=some (.dt (tab cur)):=by rw[zq (Ne.symm hpq)];exact hp
 have e2:cR "Even" "is_end" iM (mG (aa 0)) (aj (aa 4) aq) [some (.ob t),some (.int a),some (.ob p),some (.ob q),some (nN n),o5,o6] (O.set q (.dt (cL mv (pre++[n]))))=.ok (.bl (fin n)) (O.set q (.dt (cL mv (pre++[n])))):=(lF rfl ht' T.u3 (ma1 rfl)).trans (T.ie _ a n ht' ha hn)
 have e3:mIf (bI (cR "Even" "is_end" iM (mG (aa 0)) (aj (aa 4) aq))) (mC (.int 0)) (mC .non) [some (.ob t),some (.int a),some (.ob p),some (.ob q),some (nN n),o5,o6] (O.set q (.dt (cL mv (pre++[n]))))=.ok (oD (ini fin n)) (O.set q (.dt (cL mv (pre++[n])))):=by
  rw[yc,nZ,e2,aO,jx,n6,nY,aO];unfold ini
  cases fin n<;>rfl
 unfold B_1;rw[sq s1];exact Mm e3 rfl hp2 rfl hl
theorem Mv(T:Trl t fs N nodes mv fin){a:Nat}(ha:a<=N)(hpq:p≠q)(o5 o6:Option D):∀(rest pre:List Nd) (O:au) (cur:Tb) (o4:Option D),(∀n∈rest,n∈nodes a)->(pre++rest).Nodup->O[t]?=some (.ins "Even" fs)->O[p]?=some (.dt (tab cur))->O[q]?=some (.dt (cL mv pre))->cur.length+rest.length<1000000->pre.length+rest.length<1000000 ->
  ∃O' cur' o4',cV (mgN 4) B_1 (rest.map nN) [some (.ob t),some (.int a),some (.ob p),some (.ob q),o4,o5,o6] O=.nx [some (.ob t),some (.int a),some (.ob p),some (.ob q),o4',o5,o6] O'/\O'[p]?=some (.dt (tab cur'))/\O'[q]?=some (.dt (cL mv (pre++rest)))/\(∀j,j≠p->j≠q->O'[j]?=O[j]?)/\(∀n,lk cur' n=if n∈rest then some (ini fin n) else lk cur n)/\cur'.length<=cur.length+rest.length
 | [],pre,O,cur,o4,_,_,_,hp,hq,_,_=>⟨O,cur,o4,rfl,hp,by rw[zX];exact hq,λ_ _ _=>rfl,λn=>by simp,zc _⟩
 |n::rest,pre,O,cur,o4,hr,hd,ht,hp,hq,hl,hl2=>by
  rw[zx] at hl hl2;have hn:=hr n zv
  have hnp:n∉pre:=λz=>(jq.mp hd).2.2 n z n zv rfl
  have hnr:n∉rest:=λz=>(List.nodup_cons.mp (jq.mp hd).2.1).1 z
  have eb:=QsH T ha hn hnp ht hp hq hpq (by omega) (by omega) o5 o6;have tq:t≠q:=tR ht hq (λz=>nomatch z);have tp:t≠p:=tR ht hp (λz=>nomatch z);have hpl:=Qu0 cur n (ini fin n);obtain⟨O',cur',o4',e,h1,h2,h3,h4,h5⟩:=Mv T ha hpq o5 o6 rest (pre++[n]) ((O.set q (.dt (cL mv (pre++[n])))).set p (.dt (tab (pu cur n (ini fin n))))) (pu cur n (ini fin n)) (some (nN n)) (λm hm=>hr m (zy _ hm)) (by rw[jk];exact hd)
   (by rw[zq (Ne.symm tp),zq (Ne.symm tq)];exact ht) (tU (by rw[zq (Ne.symm hpq)];exact hp)) (by rw[zq hpq];exact tU hq) (by omega) (by rw[zF,jg];omega)
  refine⟨O',cur',o4',?_,h1,by rw[jk] at h2;exact h2,λj j1 j2=>?_,λm=>?_,by rw[zx];omega⟩
  ·rw[zd];unfold cV;rw[mg_n];dsimp only
   show(match B_1 [some (.ob t),some (.int a),some (.ob p),some (.ob q),some (nN n),o5,o6] O with
    | .nx ρ' O'=>cV _ _ (rest.map nN) ρ' O' | .ct ρ' O'=>cV _ _ (rest.map nN) ρ' O' | .bk ρ' O'=>Fl.nx ρ' O' | r=>r)=_
   rw[eb];exact e
  ·rw[h3 j j1 j2,zq (Ne.symm j1),zq (Ne.symm j2)]
  ·rw[h4 m,Ml]
   by_cases hm:m=n
   ·subst hm;simp[hnr]
   ·simp[hm]
end
theorem QwK{mo my:L2.M D}{ρ:aD}{O:au}{q:Nat}{kvs:List (List Key×D)}{n:Nd}{d:D}(h1:mo ρ O=.ok (.ob q) O)(h2:O[q]?=some (.df kvs))(h3:my ρ O=.ok (nN n) O)(h4:gH kvs (key n)=some d):cG mo my ρ O=.ok d O:=by
 unfold cG;rw[h1];dsimp only[aO];rw[h3];dsimp only[aO];unfold tsG;rw[qD,h2];dsimp only;rw[h4]
def B_r:MS:=(aA (aH 6 (aJ oH (aj (cG (aa 3) (aa 4)) (aj (aa 2) aq))))
  (aZ (dN (aK (iY (aa 6))) (dO (aK (jL (cG (mG (aa 2)) (aa 4)))) (aK (ak gLt (aa 6) (cG (mG (aa 2)) (aa 4)))))) (aA (ig (mG (aa 2)) (aa 4) (aa 6))
  (aH 5 (mC (.bl true)))) bj))
def better(v L:Option Int):Bool:=match L with
 |none=>false
 |some c=>match v with
  |none=>true
  |some w=>decide (c<w)
section
variable {t:Nat}{fs:List (Str×D)}{N:Nat}{nodes:Nat->List Nd}{mv:Nd->List M3}{fin:Nd->Bool}{p q:Nat}
theorem Qws{ns:List Nd}{n:Nd}(hn:n∈ns){O:au}{cur:Tb}{v:Option Int}(hp:O[p]?=some (.dt (tab cur)))(hq:O[q]?=some (.df (cL mv ns)))(hv:lk cur n=some v)(hm:∀m∈mv n,(lk cur m.other).isSome=true)(hml:(mv n).length<=1000)(hl:cur.length<1000000)(b:Bool)(a0 a1 o6:Option D):
  B_r [a0,a1,some (.ob p),some (.ob q),some (nN n),some (.bl b),o6] O=.nx [a0,a1,some (.ob p),some (.ob q),some (nN n),some (.bl (b || better v (lc cur (mv n)))),some (oD (lc cur (mv n)))] (if better v (lc cur (mv n))=true then O.set p (.dt (tab (pu cur n (lc cur (mv n))))) else O):=by
 have s1:cG (aa 3) (aa 4) [a0,a1,some (.ob p),some (.ob q),some (nN n),some (.bl b),o6] O=.ok (.lst ((mv n).map d3)) O:=QwK rfl hq rfl (Mu mv n ns hn);have s2:aJ oH (aj (cG (aa 3) (aa 4)) (aj (aa 2) aq)) [a0,a1,some (.ob p),some (.ob q),some (nN n),some (.bl b),o6] O=.ok (oD (lc cur (mv n))) O:=(cz (maS s1 (ma1 rfl))).trans (Mr hp hm hml)
 have e2:∀o6':Option D,cG (mG (aa 2)) (aa 4) [a0,a1,some (.ob p),some (.ob q),some (nN n),some (.bl b),o6'] O=.ok (oD v) O:=λo6'=>qF rfl hp rfl hv
 unfold B_r;rw[sq (du s2)];show aZ _ _ _ [a0,a1,some (.ob p),some (.ob q),some (nN n),some (.bl b),some (oD (lc cur (mv n)))] O=_
 cases hL:lc cur (mv n) with
 |none =>
  refine(if_no ?_).trans ?_
  ·rw[gJ];rfl
  ·show Fl.nx _ O=_;simp[better]
 |some c =>
  have hput:(aA (ig (mG (aa 2)) (aa 4) (aa 6)) (aH 5 (mC (.bl true)))) [a0,a1,some (.ob p),some (.ob q),some (nN n),some (.bl b),some (oD (some c))] O=.nx [a0,a1,some (.ob p),some (.ob q),some (nN n),some (.bl true),some (oD (some c))] (O.set p (.dt (tab (pu cur n (some c))))):=by
   rw[sq (Mm (v:=some c) rfl rfl hp rfl hl)];rfl
  have tA:aK (iY (aa 6)) [a0,a1,some (.ob p),some (.ob q),some (nN n),some (.bl b),some (oD (some c))] O=.ok true O:=rfl
  have tB:aK (jL (cG (mG (aa 2)) (aa 4))) [a0,a1,some (.ob p),some (.ob q),some (nN n),some (.bl b),some (oD (some c))] O=.ok (isNon (oD v)) O:=by
   rw[fW,Xg,e2,aO,aO,fV]
  cases v with
  |none =>
   refine(iu ?_).trans ?_
   ·rw[gJ,tA,aO,if_pos rfl,xZ,tB,aO];rfl
   ·rw[hput];simp[better]
  |some w =>
   have tC:aK (ak gLt (aa 6) (cG (mG (aa 2)) (aa 4))) [a0,a1,some (.ob p),some (.ob q),some (nN n),some (.bl b),some (oD (some c))] O=.ok (decide (c<w)) O:=gk (bO (x:=.int c) rfl (e2 _) rfl)
   have tD:dN (aK (iY (aa 6))) (dO (aK (jL (cG (mG (aa 2)) (aa 4)))) (aK (ak gLt (aa 6) (cG (mG (aa 2)) (aa 4))))) [a0,a1,some (.ob p),some (.ob q),some (nN n),some (.bl b),some (oD (some c))] O=.ok (decide (c<w)) O:=by
    rw[gJ,tA,aO,if_pos rfl,xZ,tB,aO];exact tC
   by_cases hw:c<w
   ·rw[zh hw] at tD;rw[iu tD,hput];simp[better,hw]
   ·rw[zg hw] at tD;rw[if_no tD];show Fl.nx _ O=_;simp[better,hw]
def fnl(fin:Nd->Bool)(L:Nd->Option Int)(n:Nd):Option Int:=if fin n=true then some 0 else L n
theorem Qpk{fin:Nd->Bool}{L:Nd->Option Int}{n:Nd}{v:Option Int}(hf:fin n=true->L n=none)(hv:v=ini fin n\/v=fnl fin L n):(if better v (L n)=true then L n else v)=fnl fin L n:=by
 unfold fnl ini at *
 cases h:fin n with
 |true =>
  have:=hf h
  rw[this];rw[h] at hv
  rcases hv with rfl | rfl<;>rfl
 |false =>
  rw[h] at hv
  rcases hv with rfl | rfl
  ·cases L n<;>rfl
  ·simp only[Bool.false_eq_true,if_false]
   split<;>rfl
theorem Qob{fin:Nd->Bool}{L:Nd->Option Int}{n:Nd}(hf:fin n=true->L n=none):better (fnl fin L n) (L n)=false:=by
 unfold fnl
 cases h:fin n with
 |true =>
  rw[hf h];rfl
 |false =>
  simp only[Bool.false_eq_true,if_false]
  cases L n with
  |none=>rfl
  |some c=>simp[better]
theorem Mw(T:Trl t fs N nodes mv fin){a:Nat}(ha:a<=N){base:Tb}(hb:∀n∈nodes a,∀m∈mv n,(lk base m.other).isSome=true)(st:Nd->Option Int)(hst:∀n∈nodes a,st n=ini fin n\/st n=fnl fin (λn=>lc base (mv n)) n)(a0 a1:Option D):
  ∀(rest:List Nd) (O:au) (cur:Tb) (b:Bool) (o4 o6:Option D),(∀n∈rest,n∈nodes a)->rest.Nodup->O[p]?=some (.dt (tab cur))->O[q]?=some (.df (cL mv (nodes a)))->p≠q->(∀m,m∉nodes a->lk cur m=lk base m)->(∀n∈rest,lk cur n=some (st n))->cur.length<1000000 ->
  ∃O' cur' o4' o6',cV (mgN 4) B_r (rest.map nN) [a0,a1,some (.ob p),some (.ob q),o4,some (.bl b),o6] O=.nx [a0,a1,some (.ob p),some (.ob q),o4',some (.bl (b || rest.any λn=>better (st n) (lc base (mv n)))),o6'] O'/\O'[p]?=some (.dt (tab cur'))/\(∀j,j≠p->O'[j]?=O[j]?)/\(∀m,lk cur' m=if m∈rest then some (fnl fin (λn=>lc base (mv n)) m) else lk cur m)/\cur'.length<=cur.length
 | [],O,cur,b,o4,o6,_,_,hp,_,_,_,_,_=>⟨O,cur,o4,o6,by simp[cV],hp,λ_ _=>rfl,λm=>by simp,zc _⟩
 |n::rest,O,cur,b,o4,o6,hr,hd,hp,hq,hpq,hc,hs,hl=>by
  have hn:=hr n zv;have hd':=List.nodup_cons.mp hd
  have far:∀m∈mv n,m.other∉nodes a:=λm hm z=>by
   obtain⟨b,b1,b2,b3⟩:=T.fw a n ha hn m hm
   have:=T.sp a b _ z b3
   omega
  have eL:lc cur (mv n)=lc base (mv n):=wA λm hm=>hc _ (far m hm)
  have hm:∀m∈mv n,(lk cur m.other).isSome=true:=λm hm=>by rw[hc _ (far m hm)];exact hb n hn m hm
  have eb:=Qws hn hp hq (hs n zv) hm (T.ml n) hl b a0 a1 o6;rw[eL] at eb;have fx:=Qpk (L:=λn=>lc base (mv n)) (λh=>by show lc base (mv n)=none;rw[T.fe n h];rfl) (hst n hn)
  have hsome:(lk cur n).isSome=true:=by rw[hs n zv];rfl
  have go:∀(O1:au) (cur1:Tb),O1[p]?=some (.dt (tab cur1))->(∀j,j≠p->O1[j]?=O[j]?)->(∀m,lk cur1 m=if m=n then some (fnl fin (λn=>lc base (mv n)) n) else lk cur m)->cur1.length<=cur.length->(if better (st n) (lc base (mv n))=true then O.set p (.dt (tab (pu cur n (lc base (mv n))))) else O)=O1 ->
    ∃O' cur' o4' o6',cV (mgN 4) B_r ((n::rest).map nN) [a0,a1,some (.ob p),some (.ob q),o4,some (.bl b),o6] O=.nx [a0,a1,some (.ob p),some (.ob q),o4',some (.bl (b || (n::rest).any λn=>better (st n) (lc base (mv n)))),o6'] O'/\O'[p]?=some (.dt (tab cur'))/\(∀j,j≠p->O'[j]?=O[j]?)/\(∀m,lk cur' m=if m∈n::rest then some (fnl fin (λn=>lc base (mv n)) m) else lk cur m)/\cur'.length<=cur.length:=λO1 cur1 k1 k2 k3 k4 k5=>by
   obtain⟨O',cur',o4',o6',e,g1,g2,g3,g4⟩:=Mw T ha hb st hst a0 a1 rest O1 cur1 (b || better (st n) (lc base (mv n))) (some (nN n)) (some (oD (lc base (mv n)))) (λm hm=>hr m (zy _ hm)) hd'.2 k1 ((k2 q (Ne.symm hpq)).trans hq) hpq (λm hm=>by
     rw[k3 m,if_neg (λz:m=n=>hm (by rw[z];exact hn))]
     exact hc m hm) (λm hm=>by
     rw[k3 m,if_neg (λz:m=n=>hd'.1 (by rw[<-z];exact hm))]
     exact hs m (zy _ hm)) (by omega)
   refine⟨O',cur',o4',o6',?_,g1,λj hj=>(g2 j hj).trans (k2 j hj),λm=>?_,by omega⟩
   ·rw[zd];unfold cV;rw[mg_n];dsimp only
    show(match B_r [a0,a1,some (.ob p),some (.ob q),some (nN n),some (.bl b),o6] O with
     | .nx ρ' O'=>cV _ _ (rest.map nN) ρ' O' | .ct ρ' O'=>cV _ _ (rest.map nN) ρ' O' | .bk ρ' O'=>Fl.nx ρ' O' | r=>r)=_
    rw[eb,k5];rw[List.any_cons,<-Bool.or_assoc];exact e
   ·rw[g3 m,k3 m]
    by_cases hmn:m=n
    ·subst hmn;simp[hd'.1]
    ·simp[hmn]
  cases hbt:better (st n) (lc base (mv n)) with
  |true =>
   rw[hbt] at fx;refine go (O.set p (.dt (tab (pu cur n (lc base (mv n)))))) (pu cur n (lc base (mv n))) (tU hp) (λj hj=>by rw[zq (Ne.symm hj)]) (λm=>?_) (Nat.le_of_eq (Qua hsome)) (by rw[hbt];rfl);rw[Ml,<-fx];rfl
  |false =>
   rw[hbt] at fx;refine go O cur hp (λ_ _=>rfl) (λm=>?_) (zc _) (by rw[hbt];rfl)
   split
   ·rename_i hmn;rw[hmn,<-fx];exact hs n zv
   ·rfl
end
def B_n:MS:=(aA (aH 5 (mC (.bl false)))
  (pN 3 (cu (pM (aa 3)) (mgN 4) B_r)))
section
variable {t:Nat}{fs:List (Str×D)}{N:Nat}{nodes:Nat->List Nd}{mv:Nd->List M3}{fin:Nd->Bool}{p q:Nat}
theorem Mx(T:Trl t fs N nodes mv fin){a:Nat}(ha:a<=N){base:Tb}(hb:∀n∈nodes a,∀m∈mv n,(lk base m.other).isSome=true)(st:Nd->Option Int)(hst:∀n∈nodes a,st n=ini fin n\/st n=fnl fin (λn=>lc base (mv n)) n)(a0 a1 o4 o5 o6:Option D){O:au}{cur:Tb}
  (hp:O[p]?=some (.dt (tab cur))) (hq:O[q]?=some (.dt (cL mv (nodes a)))) (hpq:p≠q) (hc:∀m,m∉nodes a->lk cur m=lk base m) (hs:∀n∈nodes a,lk cur n=some (st n)) (hl:cur.length<1000000):
  ∃O' cur' o4' o6',B_n [a0,a1,some (.ob p),some (.ob q),o4,o5,o6] O=.nx [a0,a1,some (.ob p),some (.ob q),o4',some (.bl ((nodes a).any λn=>better (st n) (lc base (mv n)))),o6'] O'/\O'[p]?=some (.dt (tab cur'))/\O'[q]?=some (.dt (cL mv (nodes a)))/\(∀j,j≠p->j≠q->O'[j]?=O[j]?)/\(∀m,m∉nodes a->lk cur' m=lk base m)/\(∀n∈nodes a,lk cur' n=some (fnl fin (λn=>lc base (mv n)) n))/\cur'.length<=cur.length:=by
 have hq1:(O.set q (.df (cL mv (nodes a))))[q]?=some (.df (cL mv (nodes a))):=tU hq
 have hp1:(O.set q (.df (cL mv (nodes a))))[p]?=some (.dt (tab cur)):=by rw[zq (Ne.symm hpq)];exact hp
 obtain⟨O',cur',o4',o6',e,g1,g2,g3,g4⟩:=Mw T ha hb st hst a0 a1 (nodes a) (O.set q (.df (cL mv (nodes a)))) cur false o4 o6 (λn h=>h) (T.nd a) hp1 hq1 hpq hc hs hl;rw[Bool.false_or] at e;have hq2:O'[q]?=some (.df (cL mv (nodes a))):=(g2 q (Ne.symm hpq)).trans hq1;refine⟨O'.set q (.dt (cL mv (nodes a))),cur',o4',o6',?_,?_,tU hq2,λj j1 j2=>?_,λm hm=>?_,λn hn=>?_,g4⟩
 ·have ek:pM (aa 3) [a0,a1,some (.ob p),some (.ob q),o4,some (.bl false),o6] O=.ok ((nodes a).map nN) (O.set q (.df (cL mv (nodes a)))):=by
   unfold pM;rw[show(aa 3) [a0,a1,some (.ob p),some (.ob q),o4,some (.bl false),o6] O=.ok (.ob q) O from rfl];dsimp only[aO];rw[hq];dsimp only;rw[QqS]
  have ef:cu (pM (aa 3)) (mgN 4) B_r [a0,a1,some (.ob p),some (.ob q),o4,some (.bl false),o6] O=.nx [a0,a1,some (.ob p),some (.ob q),o4',some (.bl ((nodes a).any λn=>better (st n) (lc base (mv n)))),o6'] O':=by
   rw[gK,ek,gM,e]
  unfold B_n;rw[sq (du (m_c (d:=.bl false)))];show pN 3 _ [a0,a1,some (.ob p),some (.ob q),o4,some (.bl false),o6] O=_;unfold pN;show(match O[q]? with | some (.dt _)=>_ | _=>Fl.no)=_;rw[hq];dsimp only;rw[ef];dsimp only;rw[hq2]
 ·rw[zq (Ne.symm hpq)];exact g1
 ·rw[zq (Ne.symm j2),g2 j j1,zq (Ne.symm j2)]
 ·rw[g3 m,if_neg hm];exact hc m hm
 ·rw[g3 n,if_pos hn]
theorem wB{t:L2.M Bool}{b:MS}{k:Nat}{ρ ρ2:aD}{O O2:au}(h:t ρ O=.ok true O)(hb:b ρ O=.nx ρ2 O2):d9 t b (k+1) ρ O=d9 t b k ρ2 O2:=by
 show(match t ρ O with | .ok true O1=>(match b ρ O1 with | .nx ρ2 O2=>d9 t b k ρ2 O2 | .ct ρ2 O2=>d9 t b k ρ2 O2 | .bk ρ2 O2=>Fl.nx ρ2 O2 | r=>r) | .ok false O1=>.nx ρ O1 | .ex x O'=>.ex x O' | .no=>.no)=_;rw[h];dsimp only;rw[hb]
theorem Ef{t:L2.M Bool}{b:MS}{k:Nat}{ρ:aD}{O:au}(h:t ρ O=.ok false O):d9 t b (k+1) ρ O=.nx ρ O:=by
 show(match t ρ O with | .ok true O1=>(match b ρ O1 with | .nx ρ2 O2=>d9 t b k ρ2 O2 | .ct ρ2 O2=>d9 t b k ρ2 O2 | .bk ρ2 O2=>Fl.nx ρ2 O2 | r=>r) | .ok false O1=>.nx ρ O1 | .ex x O'=>.ex x O' | .no=>.no)=_;rw[h]
theorem Qt0(T:Trl t fs N nodes mv fin){a:Nat}(ha:a<=N){O:au}{cur:Tb}(ht:O[t]?=some (.ins "Even" fs))(hp:O[p]?=some (.dt (tab cur)))(hb:∀n∈nodes a,∀m∈mv n,(lk cur m.other).isSome=true)(hl:cur.length<900000):
  ∃O' cur',sJ [.ob t,.int a,.ob p] O=.ok .non O'/\O'[p]?=some (.dt (tab cur'))/\(∀(j:Nat) (x:Ob),j≠p->O[j]?=some x->O'[j]?=some x)/\(∀m,m∉nodes a->lk cur' m=lk cur m)/\(∀n∈nodes a,lk cur' n=some (fnl fin (λn=>lc cur (mv n)) n))/\cur'.length<=cur.length+1:=by
 have hln:=T.ln a;have hpl:=(zl.mp hp).1;have htl:=(zl.mp ht).1;have hpq:p≠O.length:=zu hpl
 have ht1:(O++[Ob.dt []])[t]?=some (.ins "Even" fs):=by rw[zD htl];exact ht
 have hp1:(O++[Ob.dt []])[p]?=some (.dt (tab cur)):=by rw[zD hpl];exact hp
 have hq1:(O++[Ob.dt []])[O.length]?=some (.dt (cL mv [])):=by simp[cL]
 obtain⟨O1,cur1,o4,e1,f1,f2,f3,f4,f5⟩:=Mv T ha hpq none none (nodes a) [] (O++[Ob.dt []]) cur none (λn h=>h) (T.nd a) ht1 hp1 hq1 (by omega) (by simp;omega);rw[zK] at f2
 have far:∀n∈nodes a,∀m∈mv n,m.other∉nodes a:=λn hn m hm z=>by
  obtain⟨b,b1,b2,b3⟩:=T.fw a n ha hn m hm
  have:=T.sp a b _ z b3
  omega
 have hf:∀n,fin n=true->lc cur (mv n)=none:=λn h=>by rw[T.fe n h];rfl
 obtain⟨O2,cur2,o4',o6',e2,g1,g2,g3,g4,g5,g6⟩:=Mx (base:=cur) T ha hb (ini fin) (λn _=>.inl rfl) (some (.ob t)) (some (.int a)) o4 (some (.bl true)) none f1 f2 hpq (λm hm=>by rw[f4 m,if_neg hm]) (λn hn=>by rw[f4 n,if_pos hn]) (by omega);obtain⟨O3,cur3,o4'',o6'',e3,k1,k2,k3,k4,k5,k6⟩:=Mx (base:=cur) T ha hb (fnl fin λn=>lc cur (mv n)) (λn _=>.inr rfl) (some (.ob t)) (some (.int a)) o4' (some (.bl true)) o6' g1 g2 hpq g4 g5 (by omega)
 have z3:((nodes a).any λn=>better (fnl fin (λn=>lc cur (mv n)) n) (lc cur (mv n)))=false:=by
  rw[List.any_eq_false];intro n _;rw[Qob (L:=λn=>lc cur (mv n)) (hf n)];exact zj
 rw[z3] at e3;have hnew:rK [some (.ob t),some (.int a),some (.ob p),none,none,none,none] O=.ok (.ob O.length) (O++[Ob.dt []]):=rfl;have s2:(cF (cR "Even" "nodes_at" p6 (mG (aa 0)) (aj (aa 1) aq))) [some (.ob t),some (.int a),some (.ob p),some (.ob O.length),none,none,none] (O++[Ob.dt []])=.ok ((nodes a).map nN) (O++[Ob.dt []]):=j4 ((lF rfl ht1 T.u1 (ma1 rfl)).trans (T.na _ a ht1 ha))
 have s3:cu (cF (cR "Even" "nodes_at" p6 (mG (aa 0)) (aj (aa 1) aq))) (mgN 4) B_1 [some (.ob t),some (.int a),some (.ob p),some (.ob O.length),none,none,none] (O++[Ob.dt []])=.nx [some (.ob t),some (.int a),some (.ob p),some (.ob O.length),o4,none,none] O1:=by
  rw[gK,s2,gM,e1]
 have old:∀(j:Nat) (x:Ob),j≠p->O[j]?=some x->O1[j]?=some x:=λj x hj hx=>by
  have:=(zl.mp hx).1
  rw[f3 j hj (by omega),zD this];exact hx
 have nq:∀(j:Nat) (x:Ob),O[j]?=some x->j≠O.length:=λj x hx=>zu (zl.mp hx).1
 have fin':∀(O':au) (cur':Tb) (x4 x6:Option D),d9 (bI (aa 5)) B_n 10 [some (.ob t),some (.int a),some (.ob p),some (.ob O.length),o4,some (.bl true),none] O1=.nx [some (.ob t),some (.int a),some (.ob p),some (.ob O.length),x4,some (.bl false),x6] O'->O'[p]?=some (.dt (tab cur'))->(∀(j:Nat) (x:Ob),j≠p->O[j]?=some x->O'[j]?=some x)->(∀m,m∉nodes a->lk cur' m=lk cur m)->(∀n∈nodes a,lk cur' n=some (fnl fin (λn=>lc cur (mv n)) n))->cur'.length<=cur.length+1 ->
   ∃O' cur',sJ [.ob t,.int a,.ob p] O=.ok .non O'/\O'[p]?=some (.dt (tab cur'))/\(∀(j:Nat) (x:Ob),j≠p->O[j]?=some x->O'[j]?=some x)/\(∀m,m∉nodes a->lk cur' m=lk cur m)/\(∀n∈nodes a,lk cur' n=some (fnl fin (λn=>lc cur (mv n)) n))/\cur'.length<=cur.length+1:=λO' cur' x4 x6 hw h1 h2 h3 h4 h5=>by
  refine⟨O',cur',?_,h1,h2,h3,h4,h5⟩;unfold B_1 at s3;unfold B_n B_r at hw;show bB (vm [some (.ob t),some (.int a),some (.ob p),none,none,none,none] O)=_;unfold vm;rw[sq (qC hnew)];show bB (aA _ _ [some (.ob t),some (.int a),some (.ob p),some (.ob O.length),none,none,none] (O++[Ob.dt []]))=_;rw[sq s3,sq (du (m_c (d:=.bl true)))];show bB (gW 10 _ _ [some (.ob t),some (.int a),some (.ob p),some (.ob O.length),o4,some (.bl true),none] O1)=_;unfold gW;rw[hw];rfl
 cases hb1:(nodes a).any λn=>better (ini fin n) (lc cur (mv n)) with
 |true =>
  rw[hb1] at e2;refine fin' O3 cur3 o4'' o6'' ?_ k1 (λj x hj hx=>by rw[k3 j hj (nq j x hx),g3 j hj (nq j x hx)];exact old j x hj hx) k4 k5 (by omega);rw[wB rfl e2,wB rfl e3,Ef rfl]
 |false =>
  rw[hb1] at e2;refine fin' O2 cur2 o4' o6' ?_ g1 (λj x hj hx=>by rw[g3 j hj (nq j x hx)];exact old j x hj hx) g4 g5 (by omega);rw[wB rfl e2,Ef rfl]
end
theorem Mz{α:Type}{g:MG}{t:L2.M Bool}{m:L2.M D}(Pv:aD->Prop)(p:α->Bool)(f:α->D):∀(xs:List α) (ρ:aD) (O:au) (acc:List D),Pv ρ->(∀x∈xs,∀ρ,Pv ρ->∃ρ1,g (f x) ρ=some ρ1/\Pv ρ1/\t ρ1 O=.ok (p x) O/\m ρ1 O=.ok (f x) O)->dR g t m (xs.map f) ρ O acc=.ok (acc++(xs.filter p).map f) O
 | [],ρ,O,acc,_,_=>by simp[dR]
 |x::xs,ρ,O,acc,h,hs=>by
  obtain⟨ρ1,e1,h1,e2,e3⟩:=hs x zv ρ h
  have ih:=λacc=>Mz (g:=g) (t:=t) (m:=m) Pv p f xs ρ1 O acc h1 λd' hd'=>hs d' (zy _ hd')
  rw[zd];unfold dR;rw[e1];dsimp only;rw[e2]
  cases q:p x with
  |true =>
   dsimp only;rw[e3];dsimp only;rw[ih,List.filter_cons,q];simp
  |false =>
   dsimp only;rw[ih,List.filter_cons,q];simp
theorem Qr3(b:Nat):jw (((b+1:Nat):Int) - 1) (b+1)=.int (b:Int)::jw ((b:Int) - 1) b:=by
 unfold jw;rw[List.range_succ_eq_map,zd,zR];congr 1
 ·show D.int _=_;congr 1;omega
 ·refine jl λi _=>?_
  show D.int _=D.int _;congr 1;omega
def Pri(N:Nat)(nodes:Nat->List Nd)(mv:Nd->List M3)(fin:Nd->Bool)(b:Nat)(cur:Tb):Prop:=∀c,b<=c->c<=N->∀n∈nodes c,lk cur n=some (fnl fin (λn=>lc cur (mv n)) n)
def B_p:MS:=(qX (aJ sJ (aj (aa 0) (aj (aa 2) (aj (aa 1) aq)))))
section
variable {t:Nat}{fs:List (Str×D)}{N:Nat}{nodes:Nat->List Nd}{mv:Nd->List M3}{fin:Nd->Bool}{p q:Nat}
theorem MF(T:Trl t fs N nodes mv fin):∀(b:Nat) (O:au) (cur:Tb) (o2:Option D),b<=N+1->O[t]?=some (.ins "Even" fs)->O[p]?=some (.dt (tab cur))->Pri N nodes mv fin b cur->cur.length+10 * b<=800000 ->
  ∃O' cur' o2',cV (mgN 2) B_p (jw ((b:Int) - 1) b) [some (.ob t),some (.ob p),o2] O=.nx [some (.ob t),some (.ob p),o2'] O'/\O'[p]?=some (.dt (tab cur'))/\(∀(j:Nat) (x:Ob),j≠p->O[j]?=some x->O'[j]?=some x)/\Pri N nodes mv fin 0 cur'/\cur'.length<=cur.length+b
 | 0,O,cur,o2,_,_,hp,hP,_=>⟨O,cur,o2,rfl,hp,λ_ _ _ h=>h,hP,by omega⟩
 |a+1,O,cur,o2,hb,ht,hp,hP,hl=>by
  have ha:a<=N:=by omega
  have hbs:∀n∈nodes a,∀m∈mv n,(lk cur m.other).isSome=true:=λn hn m hm=>by
   obtain⟨c,c1,c2,c3⟩:=T.fw a n ha hn m hm;rw[hP c (by omega) c2 _ c3];rfl
  obtain⟨O1,cur1,e,g1,g2,g3,g4,g5⟩:=Qt0 T ha ht hp hbs (by omega);have tp:t≠p:=tR ht hp (λz=>nomatch z)
  have hP1:Pri N nodes mv fin a cur1:=λc c1 c2 n hn=>by
   have far:∀m∈mv n,lk cur1 m.other=lk cur m.other:=λm hm=>g3 _ λz=>by
    obtain⟨d,d1,d2,d3⟩:=T.fw c n c2 hn m hm
    have:=T.sp a d _ z d3
    omega
   have eL:lc cur1 (mv n)=lc cur (mv n):=wA far
   have eF:fnl fin (λn=>lc cur1 (mv n)) n=fnl fin (λn=>lc cur (mv n)) n:=by
    show(if fin n=true then some 0 else lc cur1 (mv n))=_;rw[eL];rfl
   rw[eF]
   by_cases hc:c=a
   ·subst hc;exact g4 n hn
   ·rw[g3 n λz=>hc (T.sp c a n hn z)];exact hP c (by omega) c2 n hn
  obtain⟨O',cur',o2',e2,k1,k2,k3,k4⟩:=MF T a O1 cur1 (some (.int (a:Int))) (by omega) (g2 t _ tp ht) g1 hP1 (by omega);refine⟨O',cur',o2',?_,k1,λj x hj hx=>k2 j x hj (g2 j x hj hx),k3,by omega⟩;rw[Qr3];unfold cV;rw[mg_n];dsimp only
  have eb:B_p [some (.ob t),some (.ob p),some (.int (a:Int))] O=.nx [some (.ob t),some (.ob p),some (.int (a:Int))] O1:=by
   unfold B_p;rw[Xj,cz (maS rfl (maS rfl (ma1 rfl))),e,Xk]
  show(match B_p [some (.ob t),some (.ob p),some (.int (a:Int))] O with
   | .nx ρ' O'=>cV _ _ (jw ((a:Int) - 1) a) ρ' O' | .ct ρ' O'=>cV _ _ (jw ((a:Int) - 1) a) ρ' O' | .bk ρ' O'=>Fl.nx ρ' O' | r=>r)=_
  rw[eb];exact e2
theorem MJ(T:Trl t fs N nodes mv fin){O:au}(ht:O[t]?=some (.ins "Even" fs)):∃O' cur,qe [.ob t] O=.ok (.ob O.length) O'/\O'[O.length]?=some (.dt (tab cur))/\(∀(j:Nat) (x:Ob),O[j]?=some x->O'[j]?=some x)/\Pri N nodes mv fin 0 cur/\cur.length<=N+1:=by
 have hN:=T.hN;have htl:=(zl.mp ht).1
 have ht1:(O++[Ob.dt []])[t]?=some (.ins "Even" fs):=by rw[zD htl];exact ht
 obtain⟨O',cur,o2,e,g1,g2,g3,g4⟩:=MF (p:=O.length) T (N+1) (O++[Ob.dt []]) [] none (zc _) ht1 (by simp[tab]) (λc c1 c2=>absurd c1 (by omega)) (by simp;omega);refine⟨O',cur,?_,g1,λj x hx=>?_,g3,by rw[zV] at g4;omega⟩
 ·have er:uG (aj (cR "Even" "last_at" sO (mG (aa 0)) aq) (aj (mUn pD (mC (.int 1))) (aj (mUn pD (mC (.int 1))) aq))) [some (.ob t),some (.ob O.length),none] (O++[Ob.dt []])=.ok (jw (((N+1:Nat):Int) - 1) (N+1)) (O++[Ob.dt []]):=by
   unfold uG;rw[maS ((lF rfl ht1 T.u4 rfl).trans (T.la _ ht1)) (maS (x:=.int (-1)) rfl (ma1 (x:=.int (-1)) rfl))];dsimp only[aO];rw[if_pos ⟨rfl,by omega,by omega,by decide,by decide⟩];congr 1;rw[show((N:Int) - -1).toNat=N+1 by omega,show(((N+1:Nat):Int) - 1)=(N:Int) by omega]
  unfold B_p at e;show bB (vp [some (.ob t),none,none] O)=_;unfold vp;rw[sq (qC (show rK [some (.ob t),none,none] O=.ok (.ob O.length) (O++[Ob.dt []]) from rfl))];show bB (aA _ _ [some (.ob t),some (.ob O.length),none] (O++[Ob.dt []]))=_;rw[bw,gK,er,gM,e,bA];rfl
 ·have:=(zl.mp hx).1
  exact g2 j x (by omega) (by rw[zD this];exact hx)
theorem wC:∀(l:List Int) (b:Option Int) (c:Int),mdI b l=some c->b=some c\/c∈l
 | [],b,c,h=>.inl (by cases b<;>exact h)
 |n::r,none,c,h=>by
  rcases wC r (some n) c h with h | h
  ·exact .inr (by rw[zB h];exact zv)
  ·exact .inr (zy _ h)
 |n::r,some m,c,h=>by
  rcases wC r (some (if n<m then n else m)) c h with h | h
  ·split at h
   ·exact .inr (by rw[zB h];exact zv)
   ·exact .inl h
  ·exact .inr (zy _ h)
theorem MK:∀(l:List Int) (b:Int),∃c,mdI (some b) l=some c
 | [],b=>⟨b,rfl⟩
 |n::r,b=>MK r (if n<b then n else b)
theorem QwP{l:List Int}(h:l≠[]):∃c,mdI none l=some c:=by
 cases l with
 |nil=>exact absurd rfl h
 |cons n r=>exact MK r n
theorem Qw6(x y:Option Int):gEq (oD x) (oD y)=some (.bl (decide (x=y))):=by
 cases x with
 |none=>cases y<;>rfl
 |some i =>
  cases y with
  |none=>rfl
  |some j =>
   show some (D.bl (decide (i=j)))=_;congr 2;exact decide_eq_decide.mpr ⟨λh=>by rw[h],λh=>zB h⟩
theorem MN{α:Type}(f:α->Bool)(g:α->D)(h:α->Bool):∀(ms:List α) (m:α),ms.find? f=some m->((ms.filter f).map g)[0]?=some (g m)
 |x::ms,m,e=>by
  rw[List.find?_cons] at e
  cases hx:f x with
  |true =>
   rw[hx] at e;cases e;simp[hx]
  |false =>
   rw[hx] at e;rw[List.filter_cons,hx];exact MN f g h ms m e
theorem QxJ{O:au}{ps:Tb}{ms:List M3}{c:Int}(hp:O[p]?=some (.dt (tab ps)))(hm:∀m∈ms,(lk ps m.other).isSome=true)(hl:ms.length<=1000)(hc:lc ps ms=some c):
  ∃m,ms.find? (λm=>decide (co ps m=lc ps ms))=some m/\m∈ms/\co ps m=some c/\sS [.lst (ms.map d3),.ob p] O=.ok (d3 m) O:=by
 obtain⟨x,hx,hxc⟩:∃x∈ms,co ps x=some c:=by
  rcases wC _ _ _ hc with h | h
  ·cases h
  ·exact List.mem_filterMap.mp h
 obtain⟨m,em⟩:∃m,ms.find? (λm=>decide (co ps m=lc ps ms))=some m:=by
  cases e:ms.find? (λm=>decide (co ps m=lc ps ms)) with
  |some m=>exact⟨m,rfl⟩
  |none =>
   have:=List.find?_eq_none.mp e x hx
   rw[hxc,hc] at this;simp at this
 have hmm:=List.mem_of_find?_eq_some em
 have hmc:co ps m=some c:=by
  have:=List.find?_some em
  rw[<-hc];exact jj this
 refine⟨m,em,hmm,hmc,?_⟩;have s1:aJ oH (aj (aa 0) (aj (aa 1) aq)) [some (.lst (ms.map d3)),some (.ob p),none] O=.ok (oD (lc ps ms)) O:=(cz (maS rfl (ma1 rfl))).trans (Mr hp hm hl)
 have c1:dR (mgN 0) (aK (ak gEq (aJ lr (aj (aa 0) (aj (aa 1) aq))) (aa 2))) (aa 0) (ms.map d3) [none,some (.ob p),some (oD (lc ps ms))] O []=.ok ((ms.filter λm=>decide (co ps m=lc ps ms)).map d3) O:=by
  rw[Mz (λρ=>∃a,ρ=[a,some (.ob p),some (oD (lc ps ms))]) (λm=>decide (co ps m=lc ps ms)) d3 ms _ _ _ ⟨none,rfl⟩ (by
   rintro m' hm' ρ ⟨a,rfl⟩
   exact⟨_,rfl,⟨_,rfl⟩,gk (bO ((cz (maS rfl (ma1 rfl))).trans (Mp hp (hm m' hm'))) (y:=oD (lc ps ms)) rfl (by
    rw[show bx O (oD (co ps m'))=oD (co ps m') by cases co ps m'<;>rfl,show bx O (oD (lc ps ms))=oD (lc ps ms) by cases lc ps ms<;>rfl,Qw6])),rfl⟩)]
  rw[zK]
 have s2:dI (cF (aa 0)) 1 [1,2] (mgN 0) (aK (ak gEq (aJ lr (aj (aa 0) (aj (aa 1) aq))) (aa 2))) (aa 0) [some (.lst (ms.map d3)),some (.ob p),some (oD (lc ps ms))] O=.ok (.lst ((ms.filter λm=>decide (co ps m=lc ps ms)).map d3)) O:=oX (j4 rfl) (by rw[ze];omega) rfl c1
 have s3:ak gIx (dI (cF (aa 0)) 1 [1,2] (mgN 0) (aK (ak gEq (aJ lr (aj (aa 0) (aj (aa 1) aq))) (aa 2))) (aa 0)) (mC (.int 0)) [some (.lst (ms.map d3)),some (.ob p),some (oD (lc ps ms))] O=.ok (d3 m) O:=bO s2 m_c (by
  rw[dq,dg,kZ]
  exact(jz (j:=0)).trans (MN _ d3 (λ_=>true) ms m em))
 show bB (vz [some (.lst (ms.map d3)),some (.ob p),none] O)=_;unfold vz;rw[sq (du s1),eE];exact congrArg (λr=>bB (ou r)) s3
end
def Wy(ps:Tb)(mv:Nd->List M3)(fin:Nd->Bool):Nd->List M3->Prop
 |n,[]=>fin n=true
 |n,m::ms=>fin n=false/\(mv n).find? (λm=>decide (co ps m=lc ps (mv n)))=some m/\Wy ps mv fin m.other ms
def B_y:MS:=(aA (aH 5 (aJ sS (aj (cR "Even" "moves_from" jX (mG (aa 0)) (aj (aa 2) aq)) (aj (aa 1) aq))))
  (aA (dU 4 (ak gIx (aa 5) (mC (.int 1))))
  (aH 2 (ak gIx (aa 5) (mC (.int 2))))))
section
variable {t:Nat}{fs:List (Str×D)}{N:Nat}{nodes:Nat->List Nd}{mv:Nd->List M3}{fin:Nd->Bool}{p q:Nat}
theorem Qvn(T:Trl t fs N nodes mv fin){ps:Tb}(hP:Pri N nodes mv fin 0 ps){O:au}(ht:O[t]?=some (.ins "Even" fs))(hp:O[p]?=some (.dt (tab ps)))(a3:Option D):∀(k a:Nat) (n:Nd) (c:Int) (nm:List D) (f:Nat) (o5:Option D),a+k=N->n∈nodes a->lk ps n=some (some c)->k<f->nm.length+k<1000000 ->
  ∃ms n' o5',d9 (cO (bI (cR "Even" "is_end" iM (mG (aa 0)) (aj (aa 2) aq)))) B_y f [some (.ob t),some (.ob p),some (nN n),a3,some (.lst nm),o5] O=.nx [some (.ob t),some (.ob p),some (nN n'),a3,some (.lst (nm++ms.map λm=>.str m.name)),o5'] O/\Wy ps mv fin n ms/\ms.length<=k:=by
 intro k
 induction k using Nat.strongRecOn with
 | _ k ih =>
  intro a n c nm f o5 hak hn hc hf hl;obtain⟨f',rfl⟩:∃f',f=f'+1:=⟨f - 1,by omega⟩
  have te:cO (bI (cR "Even" "is_end" iM (mG (aa 0)) (aj (aa 2) aq))) [some (.ob t),some (.ob p),some (nN n),a3,some (.lst nm),o5] O=.ok (!fin n) O:=by
   rw[rM,nZ,(lF rfl ht T.u3 (ma1 rfl)).trans (T.ie O a n ht (by omega) hn),aO,jx,n6,nY,aO]
  cases hfin:fin n with
  |true =>
   rw[hfin] at te;exact⟨[],n,o5,by rw[Ef te];simp,hfin,Nat.zero_le _⟩
  |false =>
   rw[hfin] at te
   have hL:lc ps (mv n)=some c:=by
    have:=hP a (Nat.zero_le _) (by omega) n hn
    rw[hc] at this;have h2:some c=fnl fin (λn=>lc ps (mv n)) n:=zB this;unfold fnl at h2;rw[hfin,if_neg zj] at h2;exact h2.symm
   have hm:∀m∈mv n,(lk ps m.other).isSome=true:=λm hm=>by
    obtain⟨b,b1,b2,b3⟩:=T.fw a n (by omega) hn m hm;rw[hP b (Nat.zero_le _) b2 _ b3];rfl
   obtain⟨m,e1,hmm,hmc,e2⟩:=QxJ hp hm (T.ml n) hL;obtain⟨b,b1,b2,b3⟩:=T.fw a n (by omega) hn m hmm
   obtain⟨c',hc'⟩:∃c',lk ps m.other=some (some c'):=by
    unfold co at hmc;split at hmc
    ·rename_i c' e;exact⟨c',e⟩
    ·cases hmc
   have s1:aJ sS (aj (cR "Even" "moves_from" jX (mG (aa 0)) (aj (aa 2) aq)) (aj (aa 1) aq)) [some (.ob t),some (.ob p),some (nN n),a3,some (.lst nm),o5] O=.ok (d3 m) O:=(cz (maS ((lF rfl ht T.u2 (ma1 rfl)).trans (T.mf O a n ht (by omega) hn)) (ma1 rfl))).trans e2
   have eb:B_y [some (.ob t),some (.ob p),some (nN n),a3,some (.lst nm),o5] O=.nx [some (.ob t),some (.ob p),some (nN m.other),a3,some (.lst (nm++[.str m.name])),some (d3 m)] O:=by
    unfold B_y;rw[sq (du s1)];show aA _ _ [some (.ob t),some (.ob p),some (nN n),a3,some (.lst nm),some (d3 m)] O=_;rw[sq (vY (d:=.str m.name) (ds:=nm) (bO rfl rfl rfl) rfl (by omega))];rfl
   obtain⟨ms,n',o5',e3,w3,l3⟩:=ih (N - b) (by omega) b m.other c' (nm++[.str m.name]) f' (some (d3 m)) (by omega) b3 hc' (by omega) (by rw[zF,jg];omega);refine⟨m::ms,n',o5',?_,⟨hfin,e1,w3⟩,by rw[zx];omega⟩;rw[wB te eb,e3,jk];rfl
theorem MP(T:Trl t fs N nodes mv fin)(hne:∀(a:Nat) (n:Nd),a<=N->n∈nodes a->fin n=false->mv n≠[]){ps:Tb}(hP:Pri N nodes mv fin 0 ps):∀(k a:Nat) (n:Nd),a+k=N->n∈nodes a->∃c,lk ps n=some (some c):=by
 intro k
 induction k using Nat.strongRecOn with
 | _ k ih =>
  intro a n hak hn;have h1:=hP a (Nat.zero_le _) (by omega) n hn
  cases hfin:fin n with
  |true =>
   refine⟨0,?_⟩;rw[h1];unfold fnl;rw[hfin,if_pos rfl]
  |false =>
   have h2:lk ps n=some (lc ps (mv n)):=by
    rw[h1];unfold fnl;rw[hfin,if_neg zj]
   obtain⟨m,hm⟩:=List.exists_mem_of_ne_nil _ (hne a n (by omega) hn hfin);obtain⟨b,b1,b2,b3⟩:=T.fw a n (by omega) hn m hm;obtain⟨c,hc⟩:=ih (N - b) (by omega) b m.other (by omega) b3
   have hco:co ps m=some (m.cost+c):=by
    unfold co;rw[hc]
   obtain⟨c',hc'⟩:=QwP (l:=(mv n).filterMap (co ps)) (λz=>by
    have:=List.mem_filterMap.mpr ⟨m,hm,hco⟩
    rw[z] at this
    cases this)
   exact⟨c',by rw[h2];exact congrArg some hc'⟩
theorem MT(T:Trl t fs N nodes mv fin)(hne:∀(a:Nat) (n:Nd),a<=N->n∈nodes a->fin n=false->mv n≠[])(hF:N<250){O:au}(ht:O[t]?=some (.ins "Even" fs)):
  ∃O' ps c ms,sV [.ob t] O=.ok (.tup [.int c,.lst (ms.map λm=>.str m.name)]) O'/\(∀(j:Nat) (x:Ob),O[j]?=some x->O'[j]?=some x)/\Pri N nodes mv fin 0 ps/\lk ps (0,0)=some (some c)/\Wy ps mv fin (0,0) ms:=by
 obtain⟨O',ps,e1,g1,g2,hP,_⟩:=MJ T ht;obtain⟨c,hc⟩:=MP T hne hP N 0 (0,0) (jm _) T.f0;have ht':=g2 t _ ht;obtain⟨ms,n',o5,e2,w2,l2⟩:=Qvn T hP ht' g1 (some (.int c)) N 0 (0,0) c [] 250 none (jm _) T.f0 hc (by omega) (by simp;omega);refine⟨O',ps,c,ms,?_,g2,hP,hc,w2⟩;have s1:aJ qe (aj (aa 0) aq) [some (.ob t),none,none,none,none,none] O=.ok (.ob O.length) O':=(cz (ma1 rfl)).trans e1;have s2:cR "Even" "first_node" sU (mG (aa 0)) aq [some (.ob t),some (.ob O.length),none,none,none,none] O'=.ok (nN (0,0)) O':=(lF rfl ht' T.u5 rfl).trans (T.fi O' ht');have s3:cG (aa 1) (aa 2) [some (.ob t),some (.ob O.length),some (nN (0,0)),none,none,none] O'=.ok (.int c) O':=qF rfl g1 rfl hc
 unfold B_y at e2;rw[zK] at e2;show bB (vA [some (.ob t),none,none,none,none,none] O)=_;unfold vA;rw[sq (qC s1)];show bB (aA _ _ [some (.ob t),some (.ob O.length),none,none,none,none] O')=_;rw[sq (du s2)];show bB (aA _ _ [some (.ob t),some (.ob O.length),some (nN (0,0)),none,none,none] O')=_;rw[sq (du s3)];show bB (aA _ _ [some (.ob t),some (.ob O.length),some (nN (0,0)),some (.int c),none,none] O')=_;rw[sq (show aZ (aK (jL (aa 3))) (aU (mC .non)) bj [some (.ob t),some (.ob O.length),some (nN (0,0)),some (.int c),none,none] O'=.nx [some (.ob t),some (.ob O.length),some (nN (0,0)),some (.int c),none,none] O' from rfl)]
 rw[sq (du (d:=.lst []) (tH rfl (Nat.zero_le _)))];show bB (aA (gW 250 _ _) _ [some (.ob t),some (.ob O.length),some (nN (0,0)),some (.int c),some (.lst []),none] O')=_;unfold gW;rw[sq e2];rfl
end
theorem M4{cs:List Str}{f c:Str}{mo mv:L2.M D}{ρ:aD}{O O1:au}{n:Nat}{d:D}{fs:List (Str×D)}(hv:mv ρ O=.ok d O1)(ho:mo ρ O1=.ok (.ob n) O1)(hO:O1[n]?=some (.ins c fs))(hc:c∈cs)(hl:fs.length<900):
  kO cs f mo mv ρ O=.nx ρ (O1.set n (.ins c (putD f d fs))):=by
 rw[XC,hv,XD,ho];unfold puF;dsimp only;rw[hO];dsimp only;rw[if_pos ⟨hc,hl⟩]
theorem Eg{O:au}{o:Ob}:(O++[o])[O.length]?=some o:=by
 rw[zO (zc _),Nat.sub_self];rfl
theorem M5{O:au}{o o':Ob}:(O++[o]).set O.length o'=O++[o']:=by
 rw[List.set_append_right _ _ (zc _),Nat.sub_self];rfl
theorem M6{m:L2.M D}{ρ:aD}{O:au}{d:D}{l:List D}(h:m ρ O=.ok d O)(hd:bx O d=.lst l):aX lV (aj m aq) ρ O=.ok (.lst l) O:=by
 rw[gf,ma1 h,aO,zd,zC,hd,XS,dj]
theorem not_no{m:L2.M D}{s:MS}{ρ:aD}{O:au}(h:m ρ O=.ok (.bl true) O):aZ (cO (bI m)) s bj ρ O=.nx ρ O:=by
 rw[iI,rM,nZ,h,aO,jx,n6,nY,aO,jy,if_neg (by decide)];rfl
theorem or_f{t1 t2:L2.M Bool}{ρ:aD}{O:au}(h1:t1 ρ O=.ok false O)(h2:t2 ρ O=.ok false O):dO t1 t2 ρ O=.ok false O:=by
 rw[xZ,h1,aO,if_neg zj,h2]
theorem Eh{n i:Nat}{d:D}(h:(bM 0 n)[i]?=some d):i<n/\d=.int (i:Int):=by
 have hi:i<n:=by
  have:=(zl.mp h).1
  rwa [oE] at this
 have e:bM 0 n=(List.range n).map λi:Nat=>D.int ((i:Nat):Int):=by unfold bM;simp
 rw[e,zA,List.getElem?_range hi] at h;cases h;exact⟨hi,rfl⟩
theorem wD{m:L2.M D}{ρ:aD}{O:au}{b:Bool}(h:m ρ O=.ok (.bl b) O):bI m ρ O=.ok b O:=by
 rw[nZ,h,aO,jx,n6,nY]
theorem oZ{m:L2.M D}{ρ:aD}{O:au}{d:D}{n t:String}(h:m ρ O=.ok d O)(ht:tyD (bx O d)=some t):cQ n m ρ O=.ok (.bl (cD t n)) O:=by
 rw[Jd,h,aO,ht,Jc]
def dK(k:Nat):D:=.tup [.int (k:Int),.int 0]
theorem QxQ(a b:Nat):gEq (dK a) (dK b)=some (.bl (decide ((a:Int)=(b:Int)))):=by
 show(if(okE (dK a)&&okE (dK b))=true then some (D.bl (fP (dK a) (dK b))) else none)=_
 have e:fP (dK a) (dK b)=decide ((a:Int)=(b:Int)):=by
  show((a:Int) == (b:Int)&&((0:Int) == 0&&true))=_
  by_cases h:(a:Int)=(b:Int)
  ·rw[zh h,beq_iff_eq.mpr h];rfl
  ·rw[zg h,beq_eq_false_iff_ne.mpr h];rfl
 rw[show okE (dK a)=true from rfl,show okE (dK b)=true from rfl,Bool.and_self,if_pos rfl,e]
def fsE(l:List LT)(w:Int):List (Str×D):=[("letters",.lst (l.map dL)),("wide",.int w)]
def fs1(l:List LT):List (Str×D):=[("letters",.lst (l.map dL))]
theorem pf1(l:List LT):putD "letters" (.lst (l.map dL)) []=fs1 l:=rfl
theorem pf2(l:List LT)(w:Int):putD "wide" (.int w) (fs1 l)=fsE l w:=rfl
theorem lkL(l:List LT)(w:Int):(fsE l w).lookup ("letters":Str)=some (.lst (l.map dL)):=rfl
theorem lkW(l:List LT)(w:Int):(fsE l w).lookup ("wide":Str)=some (.int w):=rfl
theorem M7(O:au)(l:List LT)(w:Int):mJ [.ob O.length,.lst (l.map dL),.int w] (O++[.ins "Even" []])=.ok .non (O++[.ins "Even" (fsE l w)]):=by
 have s1:kO ["Even"] "letters" (aa 0) (aX lV (aj (aa 1) aq)) [some (.ob O.length),some (.lst (l.map dL)),some (.int w)] (O++[.ins "Even" []])=.nx [some (.ob O.length),some (.lst (l.map dL)),some (.int w)] (O++[.ins "Even" (fs1 l)]):=by
  rw[M4 (d:=.lst (l.map dL)) (n:=O.length) (c:="Even") (fs:=[]) (M6 (d:=.lst (l.map dL)) rfl rfl) rfl Eg zv (by decide),M5,pf1]
 have s2:kO ["Even"] "wide" (aa 0) (mG (aa 2)) [some (.ob O.length),some (.lst (l.map dL)),some (.int w)] (O++[.ins "Even" (fs1 l)])=.nx [some (.ob O.length),some (.lst (l.map dL)),some (.int w)] (O++[.ins "Even" (fsE l w)]):=by
  rw[M4 (d:=.int w) (n:=O.length) (c:="Even") (fs:=fs1 l) rfl rfl Eg zv (show(1:Nat)<900 by decide),M5,pf2]
 show bB (vB [some (.ob O.length),some (.lst (l.map dL)),some (.int w)] (O++[.ins "Even" []]))=_;unfold vB;rw[bw,s1,bA];exact congrArg bB s2
structure Tr(O:au)(n:Nat)(l:List LT)(w:Int):Prop where
 ob:O[n]?=some (.ins "Even" (fsE l w))
 le:l.length<=200
 w2:2<=w
 w40:w<=40
theorem Qw0{x:Int}(h0:-100000<=x)(h1:x<=100000):eX (.int x) (.int 2)=some (.int (x * x)):=by
 unfold eX gI;dsimp only
 have s:lR x=true:=by
  unfold lR;rw[zh (by omega),zh (by omega)];rfl
 rw[if_pos (by rw[s];rfl)];show some (D.int (x ^ 2))=_;rw[Int.pow_succ,Int.pow_succ,Int.pow_zero,Int.one_mul]
section
variable {O:au}{n:Nat}{l:List LT}{w:Int}
theorem f_l(T:Tr O n l w){i:Nat}{ρ:aD}(h:aa i ρ O=.ok (.ob n) O):f9 ["Even"] "letters" (aa i) ρ O=.ok (.lst (l.map dL)) O:=Mf (n:=n) h T.ob zv (lkL _ _)
theorem f_w(T:Tr O n l w){i:Nat}{ρ:aD}(h:aa i ρ O=.ok (.ob n) O):f9 ["Even"] "wide" (aa i) ρ O=.ok (.int w) O:=Mf (n:=n) h T.ob zv (lkW _ _)
theorem l_l(T:Tr O n l w){i:Nat}{ρ:aD}(h:aa i ρ O=.ok (.ob n) O):aX bz (aj (f9 ["Even"] "letters" (aa i)) aq) ρ O=.ok (.int (l.length:Int)) O:=by
 have:=lC (f_l T h)
 rwa [ze] at this
theorem QsZ:sU [.ob n] O=.ok (dK 0) O:=rfl
theorem Qsu(k:Nat):p6 [.ob n,.int (k:Int)] O=.ok (.lst [dK k]) O:=rfl
theorem QuE(T:Tr O n l w):sO [.ob n] O=.ok (.int (l.length:Int)) O:=by
 show bB (vo [some (.ob n)] O)=_;unfold vo;rw[lE (l_l T rfl)];rfl
theorem M8(T:Tr O n l w)(k:Nat):iM [.ob n,dK k] O=.ok (.bl (decide ((k:Int)=(l.length:Int)))) O:=by
 show bB (u6 [some (.ob n),some (dK k)] O)=_;unfold u6;rw[lE (bO (x:=dK k) (y:=dK l.length) rfl (oW (maS (l_l T rfl) (ma1 (x:=.int 0) rfl)) (show(2:Nat)<=1000000 by decide)) (QxQ k l.length))];rfl
theorem Qrx(T:Tr O n l w)(p:Nat×Int)(h0:0<=p.2)(h1:p.2<=w):vf [.ob n,.int (p.1:Int),.int p.2] O=.ok (.int (cst l w p)) O:=by
 have t:aK (ak gEq (aa 1) (aX bz (aj (f9 ["Even"] "letters" (aa 0)) aq))) [some (.ob n),some (.int (p.1:Int)),some (.int p.2)] O=.ok (decide ((p.1:Int)=(l.length:Int))) O:=mV rfl (l_l T rfl);have w40:=T.w40;show bB (vd [some (.ob n),some (.int (p.1:Int)),some (.int p.2)] O)=_;unfold vd cst
 by_cases h:p.1=l.length
 ·rw[eE,yc,t,zh (by omega),aO,if_pos rfl,if_pos h];rfl
 ·rw[eE,yc,t,zg (by omega),aO,if_neg zj,if_neg h,bO (x:=.int (w - p.2)) (y:=.int 2) (DN (f_w T rfl) rfl) rfl (Qw0 (by omega) (by omega))];rfl
theorem QvV{m:L2.M D}{ρ:aD}{O:au}{l:List D}(h:m ρ O=.ok (.lst l) O):uE m ρ O=.ok l.reverse O:=by
 unfold uE;rw[h,aO]
def mvs(l:List LT)(lo:Nat)(w:Int):List D:=if lo=l.length then[] else((ends l lo w).map (mvE l w)).reverse
theorem QyG(T:Tr O n l w)(lo:Nat)(hlo:lo<=l.length):jX [.ob n,dK lo] O=.ok (.lst (mvs l lo w)) O:=by
 have w2:=T.w2;have le:=T.le
 have t:bI (cR "Even" "is_end" iM (aa 0) (aj (aa 1) aq)) [some (.ob n),some (dK lo),none] O=.ok (decide ((lo:Int)=(l.length:Int))) O:=wD (by
  rw[lF (n:=n) (ds:=[dK lo]) rfl T.ob rfl (ma1 rfl)]
  exact M8 T lo)
 show bB (vh [some (.ob n),some (dK lo),none] O)=_;unfold vh mvs;rw[bw]
 by_cases h:lo=l.length
 ·rw[iu (by rw[t,zh (by omega)]),if_pos h];rfl
 ·have ok:=gP (l:=l) (lo:=lo) (w:=w) (by omega) w2;rw[if_no (by rw[t,zg (by omega)]),dZ,bA,if_neg h,bw]
  have s2:aH 2 (aJ sE (aj (f9 ["Even"] "letters" (aa 0)) (aj (ak gIx (aa 1) (mC (.int 0))) (aj (f9 ["Even"] "wide" (aa 0)) aq)))) [some (.ob n),some (dK lo),none] O=.nx [some (.ob n),some (dK lo),some (.lst ((ends l lo w).map dE))] O:=by
   refine du ?_;rw[cz (maS (f_l T rfl) (maS (x:=.int (lo:Int)) (bO (x:=dK lo) (y:=.int 0) rfl rfl rfl) (ma1 (f_w T rfl))))];exact Z2 l lo w (by omega) hlo O
  rw[s2,bA]
  have ec:=lg (g:=jO 2 (fJ (mgN 0) (fJ (mgN 1) kE))) (t:=dJ) (m:=bT (aj (cR "Even" "cost_to" vf (aa 2) (aj (aa 0) (aj (aa 1) aq))) (aj (aX pL (aj (aa 0) aq)) (aj (bT (aj (aa 0) (aj (mC (.int 0)) aq))) aq)))) (λρ=>∃a b,ρ=[a,b,some (.ob n)]) dE (mvE l w) (ends l lo w).reverse [none,none,some (.ob n)] O [] ⟨_,_,rfl⟩ (by
   rintro p hp ρ ⟨a,b,rfl⟩;obtain⟨h1,h2,h3,h4,_⟩:=ok p (List.mem_reverse.mp hp);refine⟨[some (.int (p.1:Int)),some (.int p.2),some (.ob n)],rfl,⟨_,_,rfl⟩,rfl,oW (maS ?_ (maS (lB (xs:=[.int (p.1:Int)]) (ma1 rfl) (Z8 p.1 (by omega))) (ma1 (x:=.tup [.int (p.1:Int),.int 0]) rfl))) (show(3:Nat)<=1000000 by decide)⟩;rw[lF (n:=n) (ds:=[.int (p.1:Int),.int p.2]) rfl T.ob rfl (maS (x:=.int (p.1:Int)) rfl (ma1 (x:=.int p.2) rfl))]
   exact Qrx T p h3 h4)
  rw[zK,List.map_reverse,List.map_reverse] at ec
  have hlen:((ends l lo w).map dE).reverse.length<=1000000:=by
   rw[List.length_reverse,ze]
   have:=Ma l lo w
   omega
  rw[lE (oX (own:=2) (cap:=[0]) (QvV (m:=aa 2) (ρ:=[some (.ob n),some (dK lo),some (.lst ((ends l lo w).map dE))]) (O:=O) (l:=(ends l lo w).map dE) rfl) hlen (ρ0:=[none,none,some (.ob n)]) rfl ec)];rfl
end
theorem y1:cD "str" "bool" = false:=by decide
theorem y2:cD "str" "int" = false:=by decide
theorem y3:cD "list" "bool" = false:=by decide
theorem y4:cD "list" "int" = false:=by decide
theorem y5:cD "list" "str" = false:=by decide
theorem y6:cD "tuple" "bool" = false:=by decide
theorem y7:cD "tuple" "int" = false:=by decide
theorem y8:cD "tuple" "str" = false:=by decide
theorem y9:cD "list" "tuple" = false:=by decide
def M9(self:List D->au->Res D):MS:=aZ (cO (bI (aJ self (aj (ak gIx (aa 0) (aa 2)) (aj (ak gIx (aa 1) (aa 2)) aq))))) (aU (mC (.bl false))) bj
theorem Nb(self:List D->au->Res D)(d e:D)(l m:List D)(O:au)(hd:bx O d=.lst l/\bx O e=.lst m\/bx O d=.tup l/\bx O e=.tup m)(hl:l.length=m.length)(hm:m.length<=1000)
  (hs:∀(i:Nat) (x y:D),l[i]?=some x->m[i]?=some y->self [x,y] O=.ok (.bl true) O):bB (oN self [some d,some e,none] O)=.ok (.bl true) O:=by
 have li:∀(i:Nat) (x:D),l[i]?=some x->gIx (bx O d) (.int (i:Int))=some x:=λi x h=>by
  rcases hd with⟨a,_⟩ | ⟨a,_⟩
  ·rw[a,kZ,jz,h]
  ·rw[a,Jp,jz,h]
 have mi:∀(i:Nat) (x:D),m[i]?=some x->gIx (bx O e) (.int (i:Int))=some x:=λi x h=>by
  rcases hd with⟨_,a⟩ | ⟨_,a⟩
  ·rw[a,kZ,jz,h]
  ·rw[a,Jp,jz,h]
 have ln:aX bz (aj (aa 0) aq) [some d,some e,none] O=.ok (.int (m.length:Int)) O:=lB (xs:=[d]) rfl (by
  rw[zd,zC,<-hl]
  rcases hd with⟨a,_⟩ | ⟨a,_⟩<;>rw[a]<;>rfl)
 have le:aX bz (aj (aa 1) aq) [some d,some e,none] O=.ok (.int (m.length:Int)) O:=lB (xs:=[e]) rfl (by
  rw[zd,zC]
  rcases hd with⟨_,a⟩ | ⟨_,a⟩<;>rw[a]<;>rfl)
 obtain⟨ρ1,O1,e1,hO1,p2,rfl⟩:=iJ (g:=mgN 2) (b:=M9 self)
  (λ_ ρ O'=>O'=O/\∃p2,ρ=[some d,some e,p2]) (bM 0 m.length) 0 [some d,some e,none] O ⟨rfl,none,rfl⟩ (by
   rintro i x ρ O' hi ⟨hO',p2,rfl⟩;obtain⟨hi5,rfl⟩:=Eh hi;rw[hO'];have hx:l[i]?=some l[i]:=zo (by omega);have hy:m[i]?=some m[i]:=zo hi5
   have c:aJ self (aj (ak gIx (aa 0) (aa 2)) (aj (ak gIx (aa 1) (aa 2)) aq)) [some d,some e,some (.int (i:Int))] O=.ok (.bl true) O:=by
    rw[cz (maS (bO (x:=d) (y:=.int (i:Int)) rfl rfl (li i _ hx)) (ma1 (bO (x:=e) (y:=.int (i:Int)) rfl rfl (mi i _ hy)))),hs i _ _ hx hy]
   exact⟨_,rfl,_,_,.inl (not_no (s:=aU (mC (.bl false))) c),rfl,some (.int (i:Int)),rfl⟩)
 rw[hO1] at e1;have ne:aK (ak gNe (aX bz (aj (aa 0) aq)) (aX bz (aj (aa 1) aq))) [some d,some e,none] O=.ok false O:=gk (bO ln le (by rw[dg,uP,zh rfl];rfl))
 have pre:∃t:String,(t = "list"\/t = "tuple")/\tyD (bx O d)=some t/\tyD (bx O e)=some t:=by
  rcases hd with⟨a,b⟩ | ⟨a,b⟩
  ·exact⟨"list",.inl rfl,by rw[a];rfl,by rw[b];rfl⟩
  ·exact⟨"tuple",.inr rfl,by rw[a];rfl,by rw[b];rfl⟩
 obtain⟨t,ht,td,te⟩:=pre
 have v0:∀q,bI (cQ q (aa 0)) [some d,some e,none] O=.ok (cD t q) O:=λq=>wD (oZ (d:=d) rfl td)
 have v1:∀q,bI (cQ q (aa 1)) [some d,some e,none] O=.ok (cD t q) O:=λq=>wD (oZ (d:=e) rfl te)
 have fin:bB (aA (aZ (aK (ak gNe (aX bz (aj (aa 0) aq)) (aX bz (aj (aa 1) aq)))) (aU (mC (.bl false))) bj) (aA (cu (eY (aj (aX bz (aj (aa 1) aq)) aq)) (mgN 2) (M9 self)) (aU (mC (.bl true)))) [some d,some e,none] O)=.ok (.bl true) O:=by
  rw[bw,if_no ne,dZ,bA,bw,gK,vZ le (by omega),gM,e1,bA];rfl
 have nn:∀q,cD t q=true->aZ (cO (bI (cQ q (aa 0)))) (aU (mC (.bl false))) bj [some d,some e,none] O=.nx [some d,some e,none] O:=λq h=>by
  rw[if_no (by rw[rM,v0,h,aO];rfl)];rfl
 unfold oN
 rcases ht with rfl | rfl
 ·rw[bw,if_no (by rw[v1,y3]),dZ,bA,bw,if_no (by rw[v1,y4]),dZ,bA,bw,if_no (by rw[v1,y5]),dZ,bA,bw,if_no (by rw[v1,y9]),nn "list" Xr,bA];exact fin
 ·rw[bw,if_no (by rw[v1,y6]),dZ,bA,bw,if_no (by rw[v1,y7]),dZ,bA,bw,if_no (by rw[v1,y8]),dZ,bA,bw,iu (by rw[v1,Jq]),nn "tuple" Jq,bA];exact fin
theorem Nf(n:Nat)(d e:D)(O:au):gj (n+1) [d,e] O=bB (oN (gj n) [some d,some e,none] O):=rfl
theorem Ng(n:Nat)(a:Int)(O:au):gj (n+1) [.int a,.int a] O=.ok (.bl true) O:=by
 have v1:∀q,bI (cQ q (aa 1)) [some (.int a),some (.int a),none] O=.ok (cD "int" q) O:=λq=>wD (oZ (d:=.int a) rfl rfl)
 have v0:∀q,cQ q (aa 0) [some (.int a),some (.int a),none] O=.ok (.bl (cD "int" q)) O:=λq=>oZ (d:=.int a) rfl rfl
 have z1:cD "int" "bool" = false:=by decide
 have z2:cD "int" "int" = true:=by decide
 have w1:d8 (cQ "int" (aa 0)) (d8 (nF (cQ "bool" (aa 0))) (ak gEq (aa 0) (aa 1))) [some (.int a),some (.int a),none] O=.ok (.bl true) O:=by
  rw[oh,v0,aO,z2,n8,if_pos rfl,oh,Jb,v0,aO,z1,Xh,aO,n8,Bool.not_false,if_pos rfl,bO (x:=.int a) (y:=.int a) (z:=.bl true) rfl rfl (by rw[dg,uO,zh rfl])]
 show bB (oN (gj n) [some (.int a),some (.int a),none] O)=_;unfold oN;rw[bw,if_no (by rw[v1,z1]),dZ,bA,bw,iu (by rw[v1,z2]),eE,w1];rfl
theorem Qwh{n:Nat}{l:List D}{O:au}(h:∀x∈l,gj n [x,x] O=.ok (.bl true) O)(hl:l.length<=1000):gj (n+1) [.tup l,.tup l] O=.ok (.bl true) O:=by
 refine(Nf n (.tup l) (.tup l) O).trans (Nb (gj n) (.tup l) (.tup l) l l O (.inr ⟨rfl,rfl⟩) rfl hl λi x y hx hy=>?_);rw[hx] at hy;cases hy;exact h x (zI hx)
theorem Qwl{n:Nat}{l:List D}{O:au}(h:∀x∈l,gj n [x,x] O=.ok (.bl true) O)(hl:l.length<=1000):gj (n+1) [.lst l,.lst l] O=.ok (.bl true) O:=by
 refine(Nf n (.lst l) (.lst l) O).trans (Nb (gj n) (.lst l) (.lst l) l l O (.inl ⟨rfl,rfl⟩) rfl hl λi x y hx hy=>?_);rw[hx] at hy;cases hy;exact h x (zI hx)
theorem fa2{P:D->Prop}{a b:D}(ha:P a)(hb:P b):∀x∈[a,b],P x:=λx hx=>by
 rcases zn.mp hx with rfl | hx
 ·exact ha
 ·rw[zm.mp hx];exact hb
theorem Ei:∀(l:List Int) (b:Option Int) (c:Int),mdI b l=some c->(∀y,b=some y->c<=y)/\∀x∈l,c<=x
 | [],b,c,h=>by
  have hb:b=some c:=by
   cases b<;>exact h
  refine⟨λy hy=>?_,λx hx=>nomatch hx⟩;rw[hb] at hy
  have:=zB hy
  omega
 |n::r,none,c,h=>by
  obtain⟨h1,h2⟩:=Ei r (some n) c h;refine⟨λy (hy:none=some y)=>(nomatch hy),λx hx=>?_⟩
  rcases zn.mp hx with rfl | hx
  ·exact h1 _ rfl
  ·exact h2 x hx
 |n::r,some m,c,h=>by
  obtain⟨h1,h2⟩:=Ei r (some (if n<m then n else m)) c h;have h3:=h1 _ rfl;refine⟨λy hy=>?_,λx hx=>?_⟩
  ·have:=zB hy
   split at h3<;>omega
  ·rcases zn.mp hx with rfl | hx
   ·split at h3<;>omega
   ·exact h2 x hx
theorem Qus{ps:Tb}{m:M3}{c:Int}(h:co ps m=some c):∃b,lk ps m.other=some (some b)/\c=m.cost+b:=by
 unfold co at h;split at h
 ·rename_i b hb;exact⟨b,hb,(zB h).symm⟩
 ·cases h
theorem Nh{ps:Tb}{m:M3}{b:Int}(h:lk ps m.other=some (some b)):co ps m=some (m.cost+b):=by
 unfold co;rw[h]
theorem QxK{ps:Tb}{ms:List M3}{c b:Int}{m:M3}(h:lc ps ms=some c)(hm:m∈ms)(hb:lk ps m.other=some (some b)):c<=m.cost+b :=
 (Ei _ _ _ h).2 _ (List.mem_filterMap.mpr ⟨m,hm,Nh hb⟩)
theorem Qvp{ps:Tb}{ms:List M3}{c:Int}(h:lc ps ms=some c):∃m,m∈ms/\co ps m=some c:=by
 rcases wC _ _ _ h with h | h
 ·cases h
 ·exact List.mem_filterMap.mp h
section
variable {N:Nat}{nodes:Nat->List Nd}{mv:Nd->List M3}{fin:Nd->Bool}
theorem Pri.at{ps:Tb}(h:Pri N nodes mv fin 0 ps){a:Nat}{n:Nd}{c:Int}(ha:a<=N)(hn:n∈nodes a)(hl:lk ps n=some (some c)):some c=if fin n=true then some 0 else lc ps (mv n):=by
 have e:=h a (Nat.zero_le _) ha n hn;rw[hl] at e;exact zB e
theorem QwU(fw:∀(a:Nat) (n:Nd),a<=N->n∈nodes a->∀m∈mv n,∃b,a<b/\b<=N/\m.other∈nodes b){ps:Tb}(h:Pri N nodes mv fin 0 ps)(hc:∀n,∀m∈mv n,0<=m.cost):∀(k a:Nat) (n:Nd) (c:Int),a+k=N->n∈nodes a->lk ps n=some (some c)->0<=c:=by
 intro k
 induction k using Nat.strongRecOn with
 | _ k ih =>
  intro a n c hak hn hl;have e':=h.at (by omega) hn hl;split at e'
  ·have:=zB e'
   omega
  ·obtain⟨m,hm,hco⟩:=Qvp e'.symm;obtain⟨b,hb,e2⟩:=Qus hco;obtain⟨d,d1,d2,d3⟩:=fw a n (by omega) hn m hm
   have:=ih (N - d) (by omega) d m.other b (by omega) d3 hb
   have:=hc n m hm
   omega
end
section
variable {N:Nat}{nodes:Nat->List Nd}{mv:Nd->List M3}{fin:Nd->Bool}
theorem Ni(fw:∀(a:Nat) (n:Nd),a<=N->n∈nodes a->∀m∈mv n,∃b,a<b/\b<=N/\m.other∈nodes b){ps ps':Tb}(h:Pri N nodes mv fin 0 ps)(h':Pri N nodes mv fin 0 ps'):∀(k a:Nat) (n:Nd),a+k=N->n∈nodes a->lk ps' n=lk ps n:=by
 intro k
 induction k using Nat.strongRecOn with
 | _ k ih =>
  intro a n hak hn;rw[h a (Nat.zero_le _) (by omega) n hn,h' a (Nat.zero_le _) (by omega) n hn];show some (if fin n=true then some 0 else lc ps' (mv n))=some (if fin n=true then some 0 else lc ps (mv n))
  rw[wA λm hm=>by
   obtain⟨b,b1,b2,b3⟩:=fw a n (by omega) hn m hm
   exact ih (N - b) (by omega) b m.other (by omega) b3]
theorem Nj{α:Type}{f g:α->Bool}:∀{l:List α},(∀x∈l,f x=g x)->l.find? f=l.find? g
 | [],_=>rfl
 |x::l,h=>by
  rw[List.find?_cons,List.find?_cons,h x zv,Nj λy hy=>h y (zy _ hy)]
theorem Nk(fw:∀(a:Nat) (n:Nd),a<=N->n∈nodes a->∀m∈mv n,∃b,a<b/\b<=N/\m.other∈nodes b){ps ps':Tb}(h:Pri N nodes mv fin 0 ps)(h':Pri N nodes mv fin 0 ps'):∀(ms ms':List M3) (a:Nat) (n:Nd),a<=N->n∈nodes a->Wy ps mv fin n ms->Wy ps' mv fin n ms'->ms'=ms
 | [],[],_,_,_,_,_,_=>rfl
 | [],m::ms,_,n,_,_,w,w'=>by
  have w1:fin n=true:=w;have z:=w'.1;rw[w1] at z;cases z
 |m::ms,[],_,n,_,_,w,w'=>by
  have w1:fin n=true:=w';have z:=w.1;rw[w1] at z;cases z
 |m::ms,m'::ms',a,n,ha,hn,w,w'=>by
  have el:∀x∈mv n,lk ps' x.other=lk ps x.other:=λx hx=>by
   obtain⟨b,b1,b2,b3⟩:=fw a n ha hn x hx;exact Ni fw h h' (N - b) b x.other (by omega) b3
  have e:=w'.2.1
  rw[Nj (g:=λm=>decide (co ps m=lc ps (mv n))) λx hx=>by
   rw[wA el];unfold co
   rw[el x hx],w.2.1] at e
  cases e;obtain⟨b,b1,b2,b3⟩:=fw a n ha hn m (List.mem_of_find?_eq_some w.2.1);rw[Nk fw h h' ms ms' b m.other b2 b3 w.2.2 w'.2.2]
end
def mvN(l:List LT)(w:Int)(n:Nd):List M3:=if n=((l.length:Int),0) then[] else((ends l n.1.toNat w).map λp=>(⟨cst l w p,strN p.1,((p.1:Int),0)⟩:M3)).reverse
def fc(l:List LT)(n:Nd):Bool:=decide (n=((l.length:Int),0))
def ndN(a:Nat):List Nd:=[((a:Int),0)]
theorem qG(l:List LT)(a:Nat):fc l ((a:Int),0)=decide ((a:Int)=(l.length:Int)):=by
 unfold fc
 by_cases h:(a:Int)=(l.length:Int)
 ·rw[zh h,zh (by rw[h])]
 ·rw[zg h,zg (λz=>h (congrArg Prod.fst z))]
theorem QwH(l:List LT)(w:Int)(lo:Nat):(mvN l w ((lo:Int),0)).map d3=mvs l lo w:=by
 unfold mvN mvs
 by_cases h:lo=l.length
 ·rw[if_pos (by rw[h]),if_pos h];rfl
 ·rw[if_neg (λz=>h (by have:=congrArg Prod.fst z;dsimp only at this;omega)),if_neg h,List.map_reverse,zR];rfl
theorem Qxj{l:List LT}{w:Int}{lo:Nat}{m:M3}(hlo:lo<=l.length)(hw:2<=w)(h:m∈mvN l w ((lo:Int),0)):∃p:Nat×Int,m=⟨cst l w p,strN p.1,((p.1:Int),0)⟩/\lo<p.1/\p.1<=l.length/\tw l lo (p.1 - lo)<=w:=by
 unfold mvN at h;split at h
 ·exact nomatch h
 ·rename_i hn
  have hlt:lo<l.length:=by
   refine Nat.lt_of_le_of_ne hlo λz=>hn (by rw[z])
  obtain⟨p,hp,rfl⟩:=zE.mp (List.mem_reverse.mp h);have hp':p∈ends l lo w:=hp;obtain⟨h1,h2,_,h4,h5⟩:=gP hlt hw p hp';exact⟨p,rfl,h1,h2,by omega⟩
theorem qH(l:List LT)(w:Int)(hl:l.length<=200)(hw:2<=w)(hw':w<=40)(t:Nat):Trl t (fsE l w) l.length ndN (mvN l w) (fc l) where
 na O a _ _:=Qsu (n:=t) (O:=O) a
 mf O a n h ha hn:=by
  obtain rfl:=zm.mp hn;rw[QwH];exact QyG ⟨h,by omega,hw,hw'⟩ a ha
 ie O a n h ha hn:=by
  obtain rfl:=zm.mp hn;rw[qG];exact M8 ⟨h,by omega,hw,hw'⟩ a
 la O h:=QuE ⟨h,by omega,hw,hw'⟩
 fi O _:=QsZ
 f0:=zm.mpr rfl
 nd a:=List.nodup_cons.mpr ⟨List.not_mem_nil,List.nodup_nil⟩
 ln a:=show(1:Nat)<=1 by decide
 fw a n ha hn m hm:=by
  obtain rfl:=zm.mp hn;obtain⟨p,rfl,h1,h2,_⟩:=Qxj ha hw hm;exact⟨p.1,h1,h2,zm.mpr rfl⟩
 sp a b n h1 h2:=by
  have:=(zm.mp h1).symm.trans (zm.mp h2)
  have:=congrArg Prod.fst this
  dsimp only at this;omega
 ml n:=by
  unfold mvN
  split
  ·exact Nat.zero_le _
  ·rw[List.length_reverse,ze]
   have:=Ma l n.1.toNat w
   omega
 fe n h:=by
  unfold mvN;rw[if_pos (jj h)]
 u1:=rfl
 u2:=rfl
 u3:=rfl
 u4:=rfl
 u5:=rfl
 hN:=by omega
def pr:Nat->List Nat->List (Nat×Nat)
 | _,[]=>[]
 |lo,e::es=>(lo,e)::pr e es
def dS(p:Nat×Nat):D:=.tup [.int (p.1:Int),.int (p.2:Int)]
theorem Nm:∀(es:List Nat) (lo:Nat),kW (.int (lo:Int)::es.map λe:Nat=>D.int (e:Int)) (es.map λe:Nat=>D.int (e:Int))=(pr lo es).map dS
 | [],lo=>rfl
 |e::es,lo=>by
  rw[zd];show D.tup [.int (lo:Int),.int (e:Int)]::kW (.int (e:Int)::es.map λe:Nat=>D.int (e:Int)) (es.map λe:Nat=>D.int (e:Int))=_;rw[Nm es e];rfl
def QvW:List Nat:=[119,111,114,100,115]
def Qvs:List Nat:=[99,101,108,108,115]
def iQ:List Nat:=[101,118,101,110]
theorem Qs0(w:Int)(h:2<=w/\w<=40)(O:au):sG [.int w,.int 2,.int 40] O=.ok (.bl true) O:=by
 simp[sG,yX,yU,yS,h]
inductive Wy3:List Nat->Prop
 | cells:Wy3 Qvs
 | words:Wy3 QvW
 | even:Wy3 iQ
theorem Qux{y:List Nat}(h:Wy3 y)(O:au):sW [.str y] O=.ok (.bl true) O:=by
 have q:gIn false (.str y) (.tup [.str [99,117,116],.str [99,101,108,108,115],.str [119,111,114,100,115],.str [101,118,101,110]])=some (.bl true):=by
  cases h<;>rfl
 simp only[sW,Bt,yh,zd,zC,zx,zV,Nat.sub_self,List.replicate_zero,zX,eE,oh,Jd,cJ,zt,aO,iH,Xi,Jc,Xq,n8,if_true,dW,m_c,Ja,q,dj,pU,pW]
theorem QxN{a b:L2.M D}{ρ:aD}{O:au}{c k:Int}(ha:a ρ O=.ok (.int c) O)(hb:b ρ O=.ok (.int k) O)(h0:0<=k)(h1:k<=1000000):aJ jB (aj a (aj b aq)) ρ O=.ok (.int (mix c k)) O:=by
 rw[cz (maS ha (ma1 hb))];exact Jx c k h0 h1 O
theorem Qug(xs:List Int){a b:L2.M D}{ρ:aD}{O:au}{k:Int}(ha:a ρ O=.ok (.lst (xs.map D.int)) O)(hb:b ρ O=.ok (.int k) O)(h0:0<=k)(h1:k<=1000):∃v,aJ fZ (aj a (aj b aq)) ρ O=.ok (.int v) O:=by
 obtain⟨v,e⟩:=tK xs k h0 h1 O;exact⟨v,by rw[cz (maS ha (ma1 hb)),e]⟩
theorem QvS(xs:List Int)(O:au):∃m:Nat,m<=200/\vU [.lst (xs.map D.int)] O=.ok (.int (m:Int)) O:=by
 obtain⟨v,ev⟩:=Qug xs (a:=aa 0) (b:=mC (.int 1)) (ρ:=[some (.lst (xs.map D.int))]) (O:=O) (k:=1) rfl rfl (by decide) (by decide);have y0:=zS (mix v 9) (show(8:Int)≠0 by decide);have y1:=zW (mix v 9) (show(0:Int)<8 by decide)
 obtain⟨k,hk,hk1⟩:∃k:Nat,gIx (.lst [.int 20,.int 30,.int 30,.int 36,.int 20,.int 30,.int 36,.int 200]) (.int (mix v 9 % 8))=some (.int (k:Int))/\k<=200:=by
  have h:mix v 9 % 8=0\/mix v 9 % 8=1\/mix v 9 % 8=2\/mix v 9 % 8=3\/mix v 9 % 8=4\/mix v 9 % 8=5\/mix v 9 % 8=6\/mix v 9 % 8=7:=by omega
  rcases h with h | h | h | h | h | h | h | h<;>rw[h]
  ·exact⟨20,rfl,by decide⟩
  ·exact⟨30,rfl,by decide⟩
  ·exact⟨30,rfl,by decide⟩
  ·exact⟨36,rfl,by decide⟩
  ·exact⟨20,rfl,by decide⟩
  ·exact⟨30,rfl,by decide⟩
  ·exact⟨36,rfl,by decide⟩
  ·exact⟨200,rfl,by decide⟩
 refine⟨k,hk1,?_⟩;show bB (vR [some (.lst (xs.map D.int))] O)=_;unfold vR;rw[lE (bO (x:=.lst [.int 20,.int 30,.int 30,.int 36,.int 20,.int 30,.int 36,.int 200]) rfl (mR (j:=8) (QxN ev rfl (by decide) (by decide)) rfl (by decide)) hk)];rfl
def rF:MS:=aU (mC (.bl false))
theorem not_tru{m:L2.M D}{ρ:aD}{O O':au}(h:m ρ O=.ok (.bl true) O'):cO (bI m) ρ O=.ok false O':=by
 rw[rM,nZ,h,aO,jx,n6,nY,aO];rfl
theorem Qya:cD "int" "int" = true:=by decide
theorem Qx1:cD "int" "bool" = false:=by decide
theorem QxG:cD "list" "list" = true:=by decide
theorem QuH(i:Int)(O:au):sZ [.int i] O=.ok (.bl true) O:=by
 have i1:cQ "int" (aa 0) [some (.int i)] O=.ok (.bl true) O:=by rw[oZ (d:=.int i) (t:="int") rfl rfl,Qya]
 have i2:cQ "bool" (aa 0) [some (.int i)] O=.ok (.bl false) O:=by rw[oZ (d:=.int i) (t:="int") rfl rfl,Qx1]
 show bB (aU (d8 (cQ "int" (aa 0)) (nF (cQ "bool" (aa 0)))) [some (.int i)] O)=_;rw[eE,oh,i1,aO,n8,if_pos rfl,Jb,i2,aO];rfl
theorem Qs1{m:L2.M D}{ρ:aD}{O:au}{i:Int}(h:m ρ O=.ok (.int i) O):cO (bI (aJ sZ (aj m aq))) ρ O=.ok false O:=not_tru ((cz (ma1 h)).trans (QuH i O))
theorem Qsm{mo my:L2.M D}{ρ:aD}{O:au}{p:Nat}{ps:Tb}{n:Nd}{v:Option Int}(h1:mo ρ O=.ok (.ob p) O)(h2:O[p]?=some (.dt (tab ps)))(h3:my ρ O=.ok (nN n) O)(h4:lk ps n=some v):pP mo my ρ O=.ok (oD v) O:=by
 unfold pP;rw[h1,aO];dsimp only;rw[h2];dsimp only;rw[h3,aO,qD,h2];dsimp only;rw[Ec,h4];rfl
theorem Qvw{mo:L2.M D}{ρ:aD}{O:au}{p:Nat}{kvs:List (List Key×D)}(h1:mo ρ O=.ok (.ob p) O)(h2:O[p]?=some (.dt kvs)):nW mo ρ O=.ok (.int kvs.length) O:=by
 unfold nW;rw[h1,aO];dsimp only;rw[h2]
theorem QxX{mo:L2.M D}{ρ:aD}{O:au}{p:Nat}{kvs:List (List Key×D)}(h1:mo ρ O=.ok (.ob p) O)(h2:O[p]?=some (.dt kvs)):pO mo ρ O=.ok (.bl true) O:=by
 unfold pO;rw[h1,aO];dsimp only;rw[h2]
theorem Np:∀(ns ks:List Nd),ns.Nodup->(∀n∈ns,n∈ks)->ns.length<=ks.length
 | [],_,_,_=>Nat.zero_le _
 |n::ns,ks,hd,h=>by
  have hd':=List.nodup_cons.mp hd;have hn:=h n zv
  have:=Np ns (ks.erase n) hd'.2 λm hm=>(List.mem_erase_of_ne (λz:m=n=>hd'.1 (by rw[<-z];exact hm))).mpr (h m (zy _ hm))
  rw[List.length_erase_of_mem hn] at this
  have:=List.length_pos_of_mem hn
  rw[zx];omega
theorem Nq{n:Nd}:∀{ps:Tb},(lk ps n).isSome=true->n∈ps.map (·.1)
 | [],h=>nomatch h
 |x::ps,h=>by
  rw[oY] at h
  by_cases hx:x.1=n
  ·rw[zd,hx];exact zv
  ·rw[if_neg hx] at h;exact zy _ (Nq h)
theorem QtT(l:List LT)(a:Nat)(w:Int):ends l a w≠[]:=by
 unfold ends
 cases fes l a w (l.length - a) with
 |nil=>exact List.cons_ne_nil _ _
 |cons k ks=>exact List.cons_ne_nil _ _
theorem Ej{l:List LT}{w:Int}{a:Nat}(h:a≠l.length):mvN l w ((a:Int),0)=((ends l a w).map λp=>(⟨cst l w p,strN p.1,((p.1:Int),0)⟩:M3)).reverse:=by
 unfold mvN;rw[if_neg (λz=>h (by have:=congrArg Prod.fst z;dsimp only at this;omega))];rfl
theorem neN(l:List LT)(w:Int):∀(a:Nat) (n:Nd),a<=l.length->n∈ndN a->fc l n=false->mvN l w n≠[]:=λa n ha hn hf=>by
 obtain rfl:=zm.mp hn;rw[qG] at hf
 have hne:¬a=l.length:=λz=>of_decide_eq_false hf (by omega)
 rw[Ej hne];intro z;rw[List.reverse_eq_nil_iff,List.map_eq_nil_iff] at z;exact QtT l a w z
theorem QuU(l:List LT)(lo:Nat)(w:Int):(ends l lo w).Pairwise λp q=>p.1<q.1:=by
 have h:(fes l lo w (l.length - lo)).Pairwise (· < ·):=List.Pairwise.filter _ List.pairwise_lt_range;unfold ends
 revert h
 cases fes l lo w (l.length - lo) with
 |nil=>exact λ_=>List.pairwise_singleton _ _
 |cons k ks =>
  intro h;refine List.pairwise_map.mpr (h.imp λ{a b} hab=>?_);show lo+a+1<lo+b+1;omega
theorem QsS{α β:Type}{L:List α}{f:α->β}{P:β->Bool}{R:α->α->Prop}(hR:L.Pairwise R){m:β}(h:(L.map f).reverse.find? P=some m):∃p,p∈L/\f p=m/\P m=true/\∀p'∈L,R p' p\/p'=p\/P (f p')=false:=by
 obtain⟨h1,as,bs,h2,h3⟩:=List.find?_eq_some_iff_append.mp h;have h4:=List.reverse_eq_append_iff.mp h2;obtain⟨l1,l2,rfl,e1,e2⟩:=List.map_eq_append_iff.mp h4;rw[List.reverse_cons] at e1;obtain⟨l3,l4,rfl,e3,e4⟩:=List.map_eq_append_iff.mp e1;obtain⟨p,l5,rfl,e5,e6⟩:=List.map_eq_cons_iff.mp e4;have e7:=List.map_eq_nil_iff.mp e6;subst e7;refine⟨p,List.mem_append_left _ (zU _ (zm.mpr rfl)),e5,h1,λp' hp'=>?_⟩;obtain⟨q1,_,_⟩:=List.pairwise_append.mp hR;obtain⟨_,_,q2⟩:=List.pairwise_append.mp q1
 rcases zJ.mp hp' with hp' | hp'
 ·rcases zJ.mp hp' with hp' | hp'
  ·exact .inl (q2 p' hp' p (zm.mpr rfl))
  ·exact .inr (.inl (zm.mp hp'))
 ·refine .inr (.inr ?_)
  have:f p'∈l2.map f:=zE.mpr ⟨p',hp',rfl⟩
  rw[e2] at this
  have:=h3 _ (List.mem_reverse.mp this)
  cases hq:P (f p') with
  |false=>rfl
  |true=>rw[hq] at this;cases this
def px(ps:Tb)(a:Nat):Int:=match lk ps ((a:Int),0) with
 |some (some c)=>c
 | _=>0
section
variable {l:List LT}{w:Int}{ps:Tb}
theorem lG(hl:l.length<=200)(hw:2<=w)(hw':w<=40)(hP:Pri l.length ndN (mvN l w) (fc l) 0 ps){a:Nat}(ha:a<=l.length):lk ps ((a:Int),0)=some (some (px ps a)):=by
 obtain⟨c,hc⟩:=MP (qH l w hl hw hw' 0) (neN l w) hP (l.length - a) a ((a:Int),0) (by omega) (zm.mpr rfl);unfold px;rw[hc]
def mE(l:List LT)(w:Int)(p:Nat×Int):M3:=⟨cst l w p,strN p.1,((p.1:Int),0)⟩
theorem Nr(hl:l.length<=200)(hw:2<=w)(hw':w<=40)(hP:Pri l.length ndN (mvN l w) (fc l) 0 ps){a:Nat}(ha:a<l.length):lc ps (mvN l w ((a:Int),0))=some (px ps a):=by
 have e:=hP.at (a:=a) (n:=((a:Int),0)) (by omega) (zm.mpr rfl) (lG hl hw hw' hP (by omega));rw[if_neg (by rw[qG,zg (by omega)];exact zj)] at e;exact e.symm
theorem Nt(hl:l.length<=200)(hw:2<=w)(hw':w<=40)(hP:Pri l.length ndN (mvN l w) (fc l) 0 ps):px ps l.length=0:=by
 have e:=hP.at (a:=l.length) (n:=((l.length:Int),0)) (zc _) (zm.mpr rfl) (lG hl hw hw' hP (zc _));rw[if_pos (by rw[qG,zh rfl])] at e;exact zB e
theorem QvR(l:List LT)(w:Int)(p:Nat×Int):0<=cst l w p:=by
 unfold cst
 split
 ·exact Int.le_refl _
 ·rcases Int.le_total 0 (w - p.2) with h | h
  ·exact Int.mul_nonneg h h
  ·exact Int.mul_nonneg_of_nonpos_of_nonpos h h
theorem Qx5(hl:l.length<=200)(hw:2<=w)(hw':w<=40)(hP:Pri l.length ndN (mvN l w) (fc l) 0 ps){a:Nat}(ha:a<=l.length):0<=px ps a :=
 QwU (qH l w hl hw hw' 0).fw hP (λn m hm=>by
  unfold mvN at hm;split at hm
  ·exact nomatch hm
  ·obtain⟨p,_,rfl⟩:=zE.mp (List.mem_reverse.mp hm)
   exact QvR l w p) (l.length - a) a ((a:Int),0) (px ps a) (by omega) (zm.mpr rfl) (lG hl hw hw' hP ha)
theorem Qxi(hl:l.length<=200)(hw:2<=w)(hw':w<=40)(hP:Pri l.length ndN (mvN l w) (fc l) 0 ps){a:Nat}(ha:a<l.length){p:Nat×Int}(hp:p∈ends l a w):px ps a<=cst l w p+px ps p.1:=by
 have hb:=(gP ha hw p hp).2.1
 have hm:mE l w p∈mvN l w ((a:Int),0):=by
  rw[Ej (by omega)];exact List.mem_reverse.mpr (zE.mpr ⟨p,hp,rfl⟩)
 exact QxK (Nr hl hw hw' hP ha) hm (lG hl hw hw' hP hb)
def Wk(l:List LT)(w:Int)(ps:Tb):Nat->List (Nat×Int)->Prop
 |lo,[]=>lo=l.length
 |lo,p::qs=>lo<l.length/\p∈ends l lo w/\cst l w p+px ps p.1=px ps lo/\(∀p'∈ends l lo w,p.1<p'.1->cst l w p'+px ps p'.1≠px ps lo)/\Wk l w ps p.1 qs
theorem Nu(hl:l.length<=200)(hw:2<=w)(hw':w<=40)(hP:Pri l.length ndN (mvN l w) (fc l) 0 ps):∀(ms:List M3) (lo:Nat),lo<=l.length->Wy ps (mvN l w) (fc l) ((lo:Int),0) ms->∃qs:List (Nat×Int),(ms.map λm=>D.str m.name)=qs.map (λp=>D.str (strN p.1))/\Wk l w ps lo qs
 | [],lo,_,h=>⟨[],rfl,by
  have h':fc l ((lo:Int),0)=true:=h;rw[qG] at h'
  have:=jj h'
  show lo=l.length
  omega⟩
 |m::ms,lo,hlo,h=>by
  obtain⟨w1,w2,w3⟩:=h;rw[qG] at w1
  have hlt:lo<l.length:=Nat.lt_of_le_of_ne hlo λz=>of_decide_eq_false w1 (by omega)
  rw[Nr hl hw hw' hP hlt,Ej (by omega)] at w2;obtain⟨p,hp,rfl,hc,hf⟩:=QsS (QuU l lo w) w2;have hb:=(gP hlt hw p hp).2.1
  have co_p:∀p',p'.1<=l.length->co ps (mE l w p')=some (cst l w p'+px ps p'.1):=λp' hp'=>Nh (lG hl hw hw' hP hp')
  have hc':co ps (mE l w p)=some (px ps lo):=jj hc;rw[co_p p hb] at hc';obtain⟨qs,e1,e2⟩:=Nu hl hw hw' hP ms p.1 hb w3;refine⟨p::qs,by rw[zd,zd,e1],hlt,hp,zB hc',λp' hp' hlt' z=>?_,e2⟩;have hb':=(gP hlt hw p' hp').2.1
  rcases hf p' hp' with q | q | q
  ·exact Nat.lt_asymm q hlt'
  ·rw[q] at hlt';exact zP _ hlt'
  ·have q':¬co ps (mE l w p')=some (px ps lo):=of_decide_eq_false q;exact q' (by rw[co_p p' hb',z])
theorem Wk.len:∀{qs:List (Nat×Int)}{lo:Nat},2<=w->Wk l w ps lo qs->qs.length+lo<=l.length
 | [],lo,_,h=>by have:lo=l.length:=h;rw[zV];omega
 |p::qs,lo,hw,h=>by
  have:=Wk.len hw h.2.2.2.2
  have:=(gP h.1 hw p h.2.1).1
  rw[zx];omega
theorem Wk.le:∀{qs:List (Nat×Int)}{lo:Nat},2<=w->Wk l w ps lo qs->∀p∈qs,p.1<=l.length
 | [],_,_,_,p,h=>(nomatch h)
 |p::qs,lo,hw,h,x,hx=>by
  rcases zn.mp hx with rfl | hx
  ·exact(gP h.1 hw _ h.2.1).2.1
  ·exact Wk.le hw h.2.2.2.2 x hx
end
def stE(es:List Nat):List (Nat×Nat):=if es=[] then[(0,0)] else pr 0 es
theorem QqC(l:List LT)(w:Int){O O':au}{c:Int}{es:List Nat}(hlen:es.length<=1000)(hle:∀e∈es,e<=1000)(e1:sV [.ob O.length] (O++[.ins "Even" (fsE l w)])=.ok (.tup [.int c,.lst (es.map λe=>D.str (strN e))]) O'):jY [.lst (l.map dL),.int w] O=.ok (.lst ((stE es).map dS)) O':=by
 have mk:jV "Even" mJ (aj (aa 0) (aj (aa 1) aq)) [some (.lst (l.map dL)),some (.int w),none,none] O=.ok (.ob O.length) (O++[.ins "Even" (fsE l w)]):=by
  rw[Jz,maS (x:=.lst (l.map dL)) rfl (ma1 (x:=.int w) rfl),aO,M7,XH]
 have s1:aJ sV (aj (jV "Even" mJ (aj (aa 0) (aj (aa 1) aq))) aq) [some (.lst (l.map dL)),some (.int w),none,none] O=.ok (.tup [.int c,.lst (es.map λe=>D.str (strN e))]) O':=by
  rw[gb,dz,mk,aO,dG,aO,aO,e1]
 have ec:=lg (g:=mgN 0) (t:=dJ) (m:=aX pR (aj (aa 0) aq)) (λρ=>∃a,ρ=[a]) (λe=>D.str (strN e)) (λe:Nat=>D.int (e:Int)) es [none] O' [] ⟨_,rfl⟩ (by
  rintro e he ρ ⟨a,rfl⟩;refine⟨_,rfl,⟨_,rfl⟩,rfl,lB (ma1 rfl) ?_⟩
  have:=hle e he
  exact Xf (i:=(e:Int)) (by omega) (by omega))
 rw[zK] at ec;have s2:dI (cF (ak gIx (aa 2) (mC (.int 1)))) 1 [] (mgN 0) dJ (aX pR (aj (aa 0) aq)) [some (.lst (l.map dL)),some (.int w),some (.tup [.int c,.lst (es.map λe=>D.str (strN e))]),none] O'=.ok (.lst (es.map λe:Nat=>D.int (e:Int))) O' :=
  oX (j4 (l:=es.map λe=>D.str (strN e)) (bO (x:=.tup [.int c,.lst (es.map λe=>D.str (strN e))]) (y:=.int 1) rfl rfl rfl)) (by rw[ze];omega) rfl ec
 have t3:=mV (b:=mC (.int 0)) (j:=0) (lC (m:=aa 3) (ρ:=[some (.lst (l.map dL)),some (.int w),some (.tup [.int c,.lst (es.map λe=>D.str (strN e))]),some (.lst (es.map λe:Nat=>D.int (e:Int)))]) (O:=O') (l:=es.map λe:Nat=>D.int (e:Int)) rfl) rfl;rw[ze] at t3;show bB (vD [some (.lst (l.map dL)),some (.int w),none,none] O)=_;unfold vD;rw[sq (qC s1)];show bB (aA _ _ [some (.lst (l.map dL)),some (.int w),some (.tup [.int c,.lst (es.map λe=>D.str (strN e))]),none] O')=_;rw[sq (du s2)];show bB (aA _ _ [some (.lst (l.map dL)),some (.int w),some (.tup [.int c,.lst (es.map λe=>D.str (strN e))]),some (.lst (es.map λe:Nat=>D.int (e:Int)))] O')=_
 unfold stE
 by_cases hn:es=[]
 ·rw[bw,iu (by rw[t3,zh (by rw[hn];rfl)]),if_pos hn];rfl
 ·have hp:es.length≠0:=λz=>hn (List.eq_nil_of_length_eq_zero z)
  rw[bw,if_no (by rw[t3,zg (by omega)]),dZ,bA,if_neg hn]
  rw[lE (lB (g:=gLZ) (z:=.lst ((pr 0 es).map dS)) (maS (x:=.lst (.int ((0:Nat):Int)::es.map λe:Nat=>D.int (e:Int))) (bO (x:=.lst [.int 0]) (y:=.lst (es.map λe:Nat=>D.int (e:Int))) (tH (ma1 rfl) (by decide)) rfl (by
   rw[dq,dq,Xm,if_pos (by rw[ze,jg];omega)]
   rfl)) (ma1 (x:=.lst (es.map λe:Nat=>D.int (e:Int))) rfl)) (by
   show some (D.lst (kW _ _))=_
   rw[Nm]))]
  rfl
theorem Qvt(l:List LT)(w:Int)(hl:l.length<=200)(hw:2<=w)(hw':w<=40):∃ps qs,Pri l.length ndN (mvN l w) (fc l) 0 ps/\Wk l w ps 0 qs/\∀O:au,∃O',jY [.lst (l.map dL),.int w] O=.ok (.lst ((stE (qs.map (·.1))).map dS)) O'/\∀(j:Nat) (x:Ob),O[j]?=some x->O'[j]?=some x:=by
 obtain⟨_,ps0,c0,ms0,_,_,hP0,_,w0⟩:=MT (qH l w hl hw hw' 0) (neN l w) (by omega) (O:=[.ins "Even" (fsE l w)]) rfl;obtain⟨qs,e2,hk⟩:=Nu hl hw hw' hP0 ms0 0 (Nat.zero_le _) w0;refine⟨ps0,qs,hP0,hk,λO=>?_⟩;obtain⟨O',ps,c,ms,e1,keep,hP,_,hy⟩:=MT (qH l w hl hw hw' O.length) (neN l w) (by omega) (O:=O++[.ins "Even" (fsE l w)]) Eg;have em:=Nk (qH l w hl hw hw' 0).fw hP0 hP ms0 ms 0 (0,0) (Nat.zero_le _) (zm.mpr rfl) w0 hy;subst em;rw[e2] at e1;have hlen:=hk.len hw;have hle:=hk.le hw;refine⟨O',QqC l w (c:=c) (es:=qs.map (·.1)) (by rw[ze];omega) (λe he=>?_) (by rw[zR];exact e1),λj x hx=>keep j x (by rw[zD (zl.mp hx).1];exact hx)⟩
 obtain⟨p,hp,rfl⟩:=zE.mp he
 have:=hle p hp
 omega
theorem Qv2(l:List LT)(w:Int)(hw:2<=w/\w<=40){O O':au}{st:List (Nat×Nat)}(h0:l=[]->st=[(0,0)])(he:jY [.lst (l.map dL),.int w] O=.ok (.lst (st.map dS)) O'):∃O2,qj [.lst (l.map dL),.int w,.str iQ] O=.ok (.lst (st.map dS)) O2/\(O2=O\/O2=O'):=by
 have e1:=Qs0 w hw O;have e2:=Qux Wy3.even O
 have pre:∀R:MS,(aA (aZ (cO (bI (aJ sG (aj (aa 1) (aj (mC (.int 2)) (aj (mC (.int 40)) aq)))))) lO bj) (aA (aZ (cO (bI (aJ sW (aj (aa 2) aq)))) lO bj) R)) [some (.lst (l.map dL)),some (.int w),some (.str iQ)] O=R [some (.lst (l.map dL)),some (.int w),some (.str iQ)] O:=λR=>by
  simp only[bw,iI,rM,nZ,gb,dz,dG,cJ,m_c,zt,zw,aO,e1,e2,jx,n6,nY,Bool.not_true,jy,Bool.false_eq_true,if_false,dZ,bA]
 have go:∀X:Res D,bB (vG [some (.lst (l.map dL)),some (.int w),some (.str iQ)] O)=X->qj [.lst (l.map dL),.int w,.str iQ] O=X:=λX h=>h
 unfold vG at go;rw[pre] at go
 by_cases hz:l=[]
 ·rw[h0 hz];subst hz;exact⟨O,go _ rfl,.inl rfl⟩
 ·have hpos:0<l.length:=List.length_pos_iff.mpr hz;have t0:=mV (b:=mC (.int 0)) (j:=0) (lC (m:=aa 0) (ρ:=[some (.lst (l.map dL)),some (.int w),some (.str iQ)]) (O:=O) (l:=l.map dL) rfl) rfl;rw[ze] at t0;rw[bw,if_no (by rw[t0,zg (by omega)]),dZ,bA,bw,if_no (show aK (ak gEq (aa 2) (mC (.str [99,117,116]))) [some (.lst (l.map dL)),some (.int w),some (.str iQ)] O=.ok false O from rfl),dZ,bA,bw,iu (show aK (ak gEq (aa 2) (mC (.str [101,118,101,110]))) [some (.lst (l.map dL)),some (.int w),some (.str iQ)] O=.ok true O from rfl),lE ((cz (maS (x:=.lst (l.map dL)) rfl (ma1 (x:=.int w) rfl))).trans he),Ji] at go
  exact⟨O',go _ rfl,.inr rfl⟩
theorem Nv{l:List LT}{lo:Nat}{w:Int}(hl:l.length<=200)(hlo:lo<l.length)(hw:2<=w)(hw':w<=40){p:Nat×Int}(hp:p∈ends l lo w)(O:au):mO [.lst (l.map dL),.int (lo:Int),.int (p.1:Int),.int w] O=.ok (.int (cst l w p)) O:=by
 obtain⟨h1,h2,h3,h4,h5⟩:=gP hlo hw p hp;have le:=lC (m:=aa 0) (ρ:=[some (.lst (l.map dL)),some (.int (lo:Int)),some (.int (p.1:Int)),some (.int w),none]) (O:=O) (l:=l.map dL) rfl;rw[ze] at le;have t:aK (ak gEq (aa 2) (aX bz (aj (aa 0) aq))) [some (.lst (l.map dL)),some (.int (lo:Int)),some (.int (p.1:Int)),some (.int w),none] O=.ok (decide ((p.1:Int)=(l.length:Int))) O:=mV rfl le;show bB (vQ [some (.lst (l.map dL)),some (.int (lo:Int)),some (.int (p.1:Int)),some (.int w),none] O)=_;unfold vQ cst;rw[bw]
 by_cases h:p.1=l.length
 ·rw[iu (by rw[t,zh (by omega)]),if_pos h];rfl
 ·rw[if_no (by rw[t,zg (by omega)]),dZ,bA,if_neg h,bw];have et:=Lj l lo (p.1 - lo) (by omega) (by omega) O;rw[show((lo+(p.1 - lo):Nat):Int)=(p.1:Int) by omega] at et;have et':lA [.lst (l.map dL),.int (lo:Int),.int (p.1:Int)] O=.ok (.int (tw l lo (p.1 - lo))) O:=et;rw[<-h5] at et'
  have s4:aH 4 (ak eV (aa 3) (aJ lA (aj (aa 0) (aj (aa 1) (aj (mG (aa 2)) aq))))) [some (.lst (l.map dL)),some (.int (lo:Int)),some (.int (p.1:Int)),some (.int w),none] O=.nx [some (.lst (l.map dL)),some (.int (lo:Int)),some (.int (p.1:Int)),some (.int w),some (.int (w - p.2))] O:=du (DN rfl (by
   rw[cz (maS (x:=.lst (l.map dL)) rfl (maS (x:=.int (lo:Int)) rfl (ma1 (x:=.int (p.1:Int)) rfl)))]
   exact et'))
  rw[s4,bA,lE (bO (x:=.int (w - p.2)) (y:=.int (w - p.2)) rfl rfl (mz (.inl ⟨by omega,by omega⟩)))];rfl
theorem Nx{a b:L2.M D}{ρ:aD}{O:au}{i j:Int}(ha:a ρ O=.ok (.int i) O)(hb:b ρ O=.ok (.int j) O):aK (ak gGt a b) ρ O=.ok (decide (j<i)) O:=gk (bO ha hb rfl)
theorem Ny{t1 t2:L2.M Bool}{ρ:aD}{O:au}{b c:Bool}(h1:t1 ρ O=.ok b O)(h2:t2 ρ O=.ok c O):dN t1 t2 ρ O=.ok (b&&c) O:=by
 rw[gJ,h1,aO];cases b
 ·rw[if_neg zj];rfl
 ·rw[if_pos rfl,h2];rfl
def qI:Nat->List Nd
 | 0=>[]
 |k+1=>((k:Int),0)::qI k
theorem Ek:∀{k:Nat}{n:Nd},n∈qI k->∃a:Nat,a<k/\n=((a:Int),0)
 | 0,n,h=>nomatch h
 |k+1,n,h=>by
  rcases zn.mp h with rfl | h
  ·exact⟨k,zZ k,rfl⟩
  ·obtain⟨a,h1,h2⟩:=Ek h;exact⟨a,by omega,h2⟩
theorem Nz:∀k:Nat,(qI k).length=k
 | 0=>rfl
 |k+1=>by
  show(qI k).length+1=_;rw[Nz k]
theorem NB:∀k:Nat,(qI k).Nodup
 | 0=>List.nodup_nil
 |k+1=>by
  refine List.nodup_cons.mpr ⟨λh=>?_,NB k⟩;obtain⟨a,h1,h2⟩:=Ek h;have z:(k:Int)=(a:Int):=congrArg Prod.fst h2;omega
theorem QtQ{l:List LT}{w:Int}{cur:Tb}(hP:Pri l.length ndN (mvN l w) (fc l) 0 cur)(hc:cur.length<=l.length+1):cur.length=l.length+1:=by
 have:=Np (qI (l.length+1)) (cur.map (·.1)) (NB _) λn hn=>by
  obtain⟨a,h1,rfl⟩:=Ek hn;refine Nq ?_;rw[hP a (Nat.zero_le _) (by omega) _ (zm.mpr rfl)];rfl
 rw[Nz,ze] at this;omega
def KN(i:Nat):L2.M D:=bT (aj (aa i) (aj (mC (.int 0)) aq))
theorem El{i a:Nat}{ρ:aD}{O:au}(h:aa i ρ O=.ok (.int (a:Int)) O):KN i ρ O=.ok (nN ((a:Int),0)) O:=oW (xs:=[.int (a:Int),.int 0]) (maS h (ma1 rfl)) (show 2<=1000000 by decide)
def eG(p:Nat)(l:List LT)(w:Int)(a4 a5 a6:Option D):aD:=[some (.ob p),some (.lst (l.map dL)),some (.lst (brk l)),some (.int w),a4,a5,a6]
def KB1:MS:=aZ (dO (cO (bI (aJ sZ (aj (pP (mG (aa 0)) (KN 5)) aq)))) (aK (ak gLt (cG (mG (aa 0)) (KN 5)) (mC (.int 0))))) rF bj
def KB2:MS:=aZ (aK (ak gGt (cG (mG (aa 0)) (KN 5)) (ak bf (aJ mO (aj (aa 1) (aj (aa 5) (aj (aa 6) (aj (aa 3) aq))))) (cG (mG (aa 0)) (KN 6))))) rF bj
def KF2:MS:=cu (cF (aJ oU (aj (aa 1) (aj (aa 2) (aj (aa 5) (aj (aa 3) aq)))))) (mgN 6) KB2
section
variable {l:List LT}{w:Int}{cur:Tb}{O:au}{p:Nat}
theorem QwI(hl:l.length<=200)(hw:2<=w)(hw':w<=40)(hp:O[p]?=some (.dt (tab cur)))(hP:Pri l.length ndN (mvN l w) (fc l) 0 cur)(hc:cur.length=l.length+1):vV [.ob p,.lst (l.map dL),.lst (brk l),.int w] O=.ok (.bl true) O:=by
 have le:=lC (m:=aa 1) (ρ:=eG p l w none none none) (O:=O) (l:=l.map dL) rfl;rw[ze] at le;have s4:aH 4 (aX bz (aj (aa 1) aq)) (eG p l w none none none) O=.nx (eG p l w (some (.int (l.length:Int))) none none) O:=du le
 have n1:ak bf (aa 4) (mC (.int 1)) (eG p l w (some (.int (l.length:Int))) none none) O=.ok (.int ((l.length+1:Nat):Int)) O:=by
  rw[Int.natCast_add];exact mU rfl rfl
 have sI:aZ (dO (cO (bI (pO (mG (aa 0))))) (aK (ak gNe (nW (mG (aa 0))) (ak bf (aa 4) (mC (.int 1)))))) rF bj (eG p l w (some (.int (l.length:Int))) none none) O=.nx (eG p l w (some (.int (l.length:Int))) none none) O:=by
  have l0:=Qvw (mo:=mG (aa 0)) (ρ:=eG p l w (some (.int (l.length:Int))) none none) (O:=O) rfl hp;rw[show(tab cur).length=cur.length from ze _,hc] at l0
  have t:aK (ak gNe (nW (mG (aa 0))) (ak bf (aa 4) (mC (.int 1)))) (eG p l w (some (.int (l.length:Int))) none none) O=.ok false O:=by
   have:=gk (bO (g:=gNe) l0 n1 uP)
   rw[zh rfl] at this;exact this
  exact if_no (or_f (not_tru (QxX (mo:=mG (aa 0)) rfl hp)) t)
 have sub:∀(i a:Nat) (ρ:aD),ρ[0]?=some (some (.ob p))->aa i ρ O=.ok (.int (a:Int)) O->a<=l.length->cG (mG (aa 0)) (KN i) ρ O=.ok (.int (px cur a)) O:=λi a ρ h0 hi ha =>
  qF (n:=((a:Int),0)) (v:=some (px cur a)) (by unfold mG;rw[cJ,h0];rfl) hp (El hi) (lG hl hw hw' hP ha)
 obtain⟨ρ1,O1,e1,hO1,a5,rfl⟩:=iJ (g:=mgN 5) (b:=KB1) (λ_ ρ O'=>O'=O/\∃a5,ρ=eG p l w (some (.int (l.length:Int))) a5 none) (bM 0 (l.length+1)) 0 (eG p l w (some (.int (l.length:Int))) none none) O ⟨rfl,_,rfl⟩ (by
  rintro k d ρ O' hk ⟨rfl,a5,rfl⟩;obtain⟨hk5,rfl⟩:=Eh hk;have g1:pP (mG (aa 0)) (KN 5) (eG p l w (some (.int (l.length:Int))) (some (.int (k:Int))) none) O'=.ok (.int (px cur k)) O':=Qsm (n:=((k:Int),0)) (v:=some (px cur k)) rfl hp (El rfl) (lG hl hw hw' hP (by omega));have g2:=K4 (b:=mC (.int 0)) (j:=0) (sub 5 k (eG p l w (some (.int (l.length:Int))) (some (.int (k:Int))) none) rfl rfl (by omega)) rfl;rw[zg (by have:=Qx5 hl hw hw' hP (show k<=l.length by omega);omega)] at g2
  have z:KB1 (eG p l w (some (.int (l.length:Int))) (some (.int (k:Int))) none) O'=.nx (eG p l w (some (.int (l.length:Int))) (some (.int (k:Int))) none) O':=by
   unfold KB1;rw[if_no (or_f (Qs1 g1) g2)];rfl
  exact⟨_,rfl,_,_,.inl z,rfl,_,rfl⟩)
 subst hO1
 obtain⟨ρ3,O3,e3,hO3,c5,c6,rfl⟩:=iJ (g:=mgN 5) (b:=KF2) (λ_ ρ O'=>O'=O1/\∃c5 c6,ρ=eG p l w (some (.int (l.length:Int))) c5 c6) (bM 0 l.length) 0 (eG p l w (some (.int (l.length:Int))) a5 none) O1 ⟨rfl,_,_,rfl⟩ (by
  rintro k d ρ O' hk ⟨rfl,c5,c6,rfl⟩;obtain⟨hk5,rfl⟩:=Eh hk;have em:cF (aJ oU (aj (aa 1) (aj (aa 2) (aj (aa 5) (aj (aa 3) aq))))) (eG p l w (some (.int (l.length:Int))) (some (.int (k:Int))) c6) O'=.ok ((ends l k w).map λp=>D.int (p.1:Int)) O' :=
   j4 ((cz (maS (x:=.lst (l.map dL)) rfl (maS (x:=.lst (brk l)) rfl (maS (x:=.int (k:Int)) rfl (ma1 (x:=.int w) rfl))))).trans (LK l k w (by omega) (by omega) O'))
  obtain⟨ρ4,O4,e4,hO4,d6,rfl⟩:=iJ (g:=mgN 6) (b:=KB2) (λ_ ρ O4=>O4=O'/\∃d6,ρ=eG p l w (some (.int (l.length:Int))) (some (.int (k:Int))) d6) ((ends l k w).map λp=>D.int (p.1:Int)) 0 (eG p l w (some (.int (l.length:Int))) (some (.int (k:Int))) c6) O' ⟨rfl,_,rfl⟩ (by
   rintro i d ρ O4 hi ⟨rfl,d6,rfl⟩;obtain⟨q,hq,rfl⟩:=zE.mp (zI hi);have hqb:=(gP hk5 hw q hq).2.1;have cc:aJ mO (aj (aa 1) (aj (aa 5) (aj (aa 6) (aj (aa 3) aq)))) (eG p l w (some (.int (l.length:Int))) (some (.int (k:Int))) (some (.int (q.1:Int)))) O4=.ok (.int (cst l w q)) O4:=(cz (maS (x:=.lst (l.map dL)) rfl (maS (x:=.int (k:Int)) rfl (maS (x:=.int (q.1:Int)) rfl (ma1 (x:=.int w) rfl))))).trans (Nv hl hk5 hw hw' hq O4);have g:=Nx (sub 5 k (eG p l w (some (.int (l.length:Int))) (some (.int (k:Int))) (some (.int (q.1:Int)))) rfl rfl (by omega)) (mU cc (sub 6 q.1 _ rfl rfl hqb))
   rw[zg (by have:=Qxi hl hw hw' hP hk5 hq;omega)] at g
   have z:KB2 (eG p l w (some (.int (l.length:Int))) (some (.int (k:Int))) (some (.int (q.1:Int)))) O4=.nx (eG p l w (some (.int (l.length:Int))) (some (.int (k:Int))) (some (.int (q.1:Int)))) O4:=by
    unfold KB2;rw[if_no g];rfl
   exact⟨_,rfl,_,_,.inl z,rfl,_,rfl⟩)
  subst hO4
  have z:KF2 (eG p l w (some (.int (l.length:Int))) (some (.int (k:Int))) c6) O4=.nx (eG p l w (some (.int (l.length:Int))) (some (.int (k:Int))) d6) O4:=by
   unfold KF2;rw[gK,em,gM,e4]
  exact⟨_,rfl,_,_,.inl z,rfl,_,_,rfl⟩)
 subst hO3;show bB (aA (aH 4 (aX bz (aj (aa 1) aq))) (aA (aZ (dO (cO (bI (pO (mG (aa 0))))) (aK (ak gNe (nW (mG (aa 0))) (ak bf (aa 4) (mC (.int 1)))))) rF bj) (aA (cu (eY (aj (ak bf (aa 4) (mC (.int 1))) aq)) (mgN 5) KB1) (aA (cu (eY (aj (aa 4) aq)) (mgN 5) KF2) (aU (ak gEq (cG (mG (aa 0)) (KN 4)) (mC (.int 0))))))) (eG p l w none none none) O3)=_;have fin:=bO (g:=gEq) (b:=mC (.int 0)) (y:=.int 0) (sub 4 l.length (eG p l w (some (.int (l.length:Int))) c5 c6) rfl rfl (zc _)) rfl uO;rw[Nt hl hw hw' hP,zh rfl] at fin;rw[sq s4,sq sI,bw,gK,vZ (n:=l.length+1) n1 (by omega),gM,e1,bA,bw,gK,vZ (n:=l.length) rfl (by omega),gM,e3,bA,eE,fin]
 rfl
end
theorem Qwa{ps:List (Nat×Int)}{q:Nat×Int}(hq:q∈ps):gIn true (.int (q.1:Int)) (.lst (ps.map λp=>D.int (p.1:Int)))=some (.bl false):=by
 have h1:(ps.map λp=>D.int (p.1:Int)).all iD=true:=by
  rw[jo];intro d hd;obtain⟨x,_,rfl⟩:=zE.mp hd;rfl
 have h2:((ps.map λp=>D.int (p.1:Int)).any λy=>eqF y (.int (q.1:Int)))=true:=by
  rw[List.any_eq_true];exact⟨_,zE.mpr ⟨q,hq,rfl⟩,by simp[eqF,toV,eqV]⟩
 show(if(iD (.int (q.1:Int))&&(ps.map λp=>D.int (p.1:Int)).all iD)=true then some (D.bl (true ^^ (ps.map λp=>D.int (p.1:Int)).any λy=>eqF y (.int (q.1:Int)))) else none)=_;rw[h1,h2];rfl
def eK(F:D)(p:Nat)(l:List LT)(w:Int)(at_:Nat)(sp:Int)(a7 a8 a9 a10 a11:Option D):aD:=[some F,some (.ob p),some (.lst (l.map dL)),some (.lst (brk l)),some (.int w),some (.int (at_:Int)),some (.int sp),a7,a8,a9,a10,a11]
def CO(i j:Nat):L2.M D:=aJ mO (aj (aa 2) (aj (aa i) (aj (aa j) (aj (aa 4) aq))))
def PR(i:Nat):L2.M D:=cG (mG (aa 1)) (KN i)
def B_b:MS:=aA (aH 11 (ak bf (CO 7 10) (PR 10))) (aZ (dO (dN (aK (ak gEq (aa 10) (aa 8))) (aK (ak gNe (aa 11) (PR 7)))) (dN (aK (ak gGt (aa 10) (aa 8))) (aK (ak gEq (aa 11) (PR 7))))) rF bj)
def I_1:MS:=aZ (dO (aK (ak gNe (aa 7) (aa 5))) (dO (aK (ak gEq (aa 7) (aX bz (aj (aa 2) aq)))) (aK (ak (gIn true) (aa 8) (aa 9))))) rF bj
def S_9:MS:=aH 9 (aJ oU (aj (aa 2) (aj (aa 3) (aj (aa 7) (aj (aa 4) aq)))))
def B_w:MS:=aA S_9 (aA I_1 (aA (cu (cF (aa 9)) (mgN 10) B_b) (aA (aH 6 (ak bf (aa 6) (CO 7 8))) (aH 5 (aa 8)))))
def g78:MG:=jO 2 (fJ (mgN 7) (fJ (mgN 8) kE))
section
variable {l:List LT}{w:Int}{cur:Tb}{O:au}{p:Nat}
theorem NP(hl:l.length<=200)(hw:2<=w)(hw':w<=40){lo:Nat}(hlo:lo<l.length){q:Nat×Int}(hq:q∈ends l lo w){i j:Nat}{ρ:aD}(h2:aa 2 ρ O=.ok (.lst (l.map dL)) O)(h4:aa 4 ρ O=.ok (.int w) O)(hi:aa i ρ O=.ok (.int (lo:Int)) O)(hj:aa j ρ O=.ok (.int (q.1:Int)) O):CO i j ρ O=.ok (.int (cst l w q)) O:=(cz (maS h2 (maS hi (maS hj (ma1 h4))))).trans (Nv hl hlo hw hw' hq O)
theorem NQ(hl:l.length<=200)(hw:2<=w)(hw':w<=40)(hp:O[p]?=some (.dt (tab cur)))(hP:Pri l.length ndN (mvN l w) (fc l) 0 cur){i a:Nat}{ρ:aD}(h1:ρ[1]?=some (some (.ob p)))(hi:aa i ρ O=.ok (.int (a:Int)) O)(ha:a<=l.length):PR i ρ O=.ok (.int (px cur a)) O :=
 qF (n:=((a:Int),0)) (v:=some (px cur a)) (by unfold mG;rw[cJ,h1];rfl) hp (El hi) (lG hl hw hw' hP ha)
theorem Qvb(hl:l.length<=200)(hw:2<=w)(hw':w<=40)(hp:O[p]?=some (.dt (tab cur)))(hP:Pri l.length ndN (mvN l w) (fc l) 0 cur)(F:D){lo:Nat}(hlo:lo<l.length){q:Nat×Int}(hq:q∈ends l lo w)(hc:cst l w q+px cur q.1=px cur lo)(hf:∀p'∈ends l lo w,q.1<p'.1->cst l w p'+px cur p'.1≠px cur lo)(sp:Int)(a9 a10 a11:Option D):
  ∃b9 b10 b11,B_w (eK F p l w lo sp (some (.int (lo:Int))) (some (.int (q.1:Int))) a9 a10 a11) O=.nx (eK F p l w q.1 (sp+cst l w q) (some (.int (lo:Int))) (some (.int (q.1:Int))) b9 b10 b11) O:=by
 obtain⟨E,hE⟩:∃E,E=D.lst ((ends l lo w).map λp=>D.int (p.1:Int)):=⟨_,rfl⟩
 have s9:S_9 (eK F p l w lo sp (some (.int (lo:Int))) (some (.int (q.1:Int))) a9 a10 a11) O=.nx (eK F p l w lo sp (some (.int (lo:Int))) (some (.int (q.1:Int))) (some E) a10 a11) O:=by
  rw[hE];exact du ((cz (maS (x:=.lst (l.map dL)) rfl (maS (x:=.lst (brk l)) rfl (maS (x:=.int (lo:Int)) rfl (ma1 (x:=.int w) rfl))))).trans (LK l lo w (by omega) (by omega) O))
 have sI:I_1 (eK F p l w lo sp (some (.int (lo:Int))) (some (.int (q.1:Int))) (some E) a10 a11) O=.nx (eK F p l w lo sp (some (.int (lo:Int))) (some (.int (q.1:Int))) (some E) a10 a11) O:=by
  have t1:aK (ak gNe (aa 7) (aa 5)) (eK F p l w lo sp (some (.int (lo:Int))) (some (.int (q.1:Int))) (some E) a10 a11) O=.ok false O:=by
   have:=gk (bO (g:=gNe) (a:=aa 7) (b:=aa 5) (ρ:=eK F p l w lo sp (some (.int (lo:Int))) (some (.int (q.1:Int))) (some E) a10 a11) (O:=O) (x:=.int (lo:Int)) (y:=.int (lo:Int)) rfl rfl uP)
   rw[zh rfl] at this;exact this
  have le:=lC (m:=aa 2) (ρ:=eK F p l w lo sp (some (.int (lo:Int))) (some (.int (q.1:Int))) (some E) a10 a11) (O:=O) (l:=l.map dL) rfl;rw[ze] at le;have t2:=mV (a:=aa 7) (i:=(lo:Int)) rfl le;rw[zg (by omega)] at t2;have t3:aK (ak (gIn true) (aa 8) (aa 9)) (eK F p l w lo sp (some (.int (lo:Int))) (some (.int (q.1:Int))) (some E) a10 a11) O=.ok false O:=gk (bO (x:=.int (q.1:Int)) (y:=E) rfl rfl (by rw[hE];exact Qwa hq));unfold I_1;rw[if_no (or_f t1 (or_f t2 t3))];rfl
 have qb:=(gP hlo hw q hq).2.1
 obtain⟨ρ1,O1,e1,hO1,b10,b11,rfl⟩:=iJ (g:=mgN 10) (b:=B_b) (λ_ ρ O'=>O'=O/\∃b10 b11,ρ=eK F p l w lo sp (some (.int (lo:Int))) (some (.int (q.1:Int))) (some E) b10 b11) ((ends l lo w).map λp=>D.int (p.1:Int)) 0 (eK F p l w lo sp (some (.int (lo:Int))) (some (.int (q.1:Int))) (some E) a10 a11) O ⟨rfl,_,_,rfl⟩ (by
  rintro i d ρ O' hi ⟨rfl,b10,b11,rfl⟩;obtain⟨e,he,rfl⟩:=zE.mp (zI hi);have eb:=gP hlo hw e he;have s11:aH 11 (ak bf (CO 7 10) (PR 10)) (eK F p l w lo sp (some (.int (lo:Int))) (some (.int (q.1:Int))) (some E) (some (.int (e.1:Int))) b11) O'=.nx (eK F p l w lo sp (some (.int (lo:Int))) (some (.int (q.1:Int))) (some E) (some (.int (e.1:Int))) (some (.int (cst l w e+px cur e.1)))) O':=du (mU (NP hl hw hw' hlo he rfl rfl rfl rfl) (NQ hl hw hw' hp hP rfl rfl eb.2.1));obtain⟨ρ,hρ⟩:∃ρ,ρ=eK F p l w lo sp (some (.int (lo:Int))) (some (.int (q.1:Int))) (some E) (some (.int (e.1:Int))) (some (.int (cst l w e+px cur e.1))):=⟨_,rfl⟩
  have v10:aa 10 ρ O'=.ok (.int (e.1:Int)) O':=by rw[hρ];rfl
  have v8:aa 8 ρ O'=.ok (.int (q.1:Int)) O':=by rw[hρ];rfl
  have v11:aa 11 ρ O'=.ok (.int (cst l w e+px cur e.1)) O':=by rw[hρ];rfl
  have v7:PR 7 ρ O'=.ok (.int (px cur lo)) O':=NQ hl hw hw' hp hP (by rw[hρ];rfl) (by rw[hρ];rfl) (by omega);have t1:=Ny (mV v10 v8) (gk (bO (g:=gNe) v11 v7 uP));have t2:=Ny (Nx v10 v8) (mV v11 v7)
  have z1:(decide ((e.1:Int)=(q.1:Int)) && !decide (cst l w e+px cur e.1=px cur lo))=false:=by
   by_cases h:e.1=q.1
   ·have h2:e=q:=Prod.ext h (by rw[eb.2.2.2.2,(gP hlo hw q hq).2.2.2.2,h]);rw[h2,zh hc];simp
   ·rw[zg (by omega)];rfl
  have z2:(decide ((q.1:Int)<(e.1:Int))&&decide (cst l w e+px cur e.1=px cur lo))=false:=by
   by_cases h:q.1<e.1
   ·rw[zg (hf e he h),Bool.and_false]
   ·rw[zg (by omega)];rfl
  rw[z1] at t1;rw[z2] at t2
  have z:B_b (eK F p l w lo sp (some (.int (lo:Int))) (some (.int (q.1:Int))) (some E) (some (.int (e.1:Int))) b11) O'=.nx (eK F p l w lo sp (some (.int (lo:Int))) (some (.int (q.1:Int))) (some E) (some (.int (e.1:Int))) (some (.int (cst l w e+px cur e.1)))) O':=by
   unfold B_b;rw[sq s11,<-hρ,if_no (or_f t1 t2)];rfl
  exact⟨_,rfl,_,_,.inl z,rfl,_,_,rfl⟩)
 subst hO1;refine⟨some E,b10,b11,?_⟩;have s6:aH 6 (ak bf (aa 6) (CO 7 8)) (eK F p l w lo sp (some (.int (lo:Int))) (some (.int (q.1:Int))) (some E) b10 b11) O1=.nx (eK F p l w lo (sp+cst l w q) (some (.int (lo:Int))) (some (.int (q.1:Int))) (some E) b10 b11) O1:=du (mU rfl (NP hl hw hw' hlo hq rfl rfl rfl rfl));unfold B_w;rw[sq s9,sq sI,bw,gK,j4 (l:=(ends l lo w).map λp=>D.int (p.1:Int)) (by rw[hE];rfl),gM,e1,bA,sq s6];rfl
theorem NT(hl:l.length<=200)(hw:2<=w)(hw':w<=40)(hp:O[p]?=some (.dt (tab cur)))(hP:Pri l.length ndN (mvN l w) (fc l) 0 cur)(F:D):∀(qs:List (Nat×Int)) (lo:Nat) (sp:Int) (a7 a8 a9 a10 a11:Option D),Wk l w cur lo qs->∃b7 b8 b9 b10 b11,cV g78 B_w ((pr lo (qs.map (·.1))).map dS) (eK F p l w lo sp a7 a8 a9 a10 a11) O=.nx (eK F p l w l.length (sp+px cur lo) b7 b8 b9 b10 b11) O
 | [],lo,sp,a7,a8,a9,a10,a11,h=>by
  have h':lo=l.length:=h;subst h';refine⟨a7,a8,a9,a10,a11,?_⟩;rw[Nt hl hw hw' hP,Int.add_zero];rfl
 |q::qs,lo,sp,a7,a8,a9,a10,a11,h=>by
  obtain⟨h1,h2,h3,h4,h5⟩:=h;obtain⟨b9,b10,b11,e⟩:=Qvb hl hw hw' hp hP F h1 h2 h3 h4 sp a9 a10 a11;obtain⟨c7,c8,c9,c10,c11,e2⟩:=NT hl hw hw' hp hP F qs q.1 (sp+cst l w q) (some (.int (lo:Int))) (some (.int (q.1:Int))) b9 b10 b11 h5;refine⟨c7,c8,c9,c10,c11,?_⟩;show cV g78 B_w (.tup [.int (lo:Int),.int (q.1:Int)]::(pr q.1 (qs.map (·.1))).map dS) _ O=_;unfold cV;rw[show g78 (.tup [.int (lo:Int),.int (q.1:Int)]) (eK F p l w lo sp a7 a8 a9 a10 a11)=some (eK F p l w lo sp (some (.int (lo:Int))) (some (.int (q.1:Int))) a9 a10 a11) from rfl];dsimp only;rw[e];dsimp only;rw[e2,Int.add_assoc,h3]
theorem wG{O:au}(st:List (Nat×Nat))(h:st.length<=1000):gO [.lst (st.map dS),.lst (st.map dS)] O=.ok (.bl true) O :=
 (show gj 4 [.lst (st.map dS),.lst (st.map dS)] O=.ok (.bl true) O from Qwl (λx hx=>by
  obtain⟨y,_,rfl⟩:=zE.mp hx
  exact Qwh (n:=2) (fa2 (Ng _ _ _) (Ng _ _ _)) (show(2:Nat)<=1000 by decide)) (by rw[ze];exact h))
theorem QsM(hl:l.length<=200)(hw:2<=w)(hw':w<=40)(hp:O[p]?=some (.dt (tab cur)))(hP:Pri l.length ndN (mvN l w) (fc l) 0 cur){qs:List (Nat×Int)}(hk:Wk l w cur 0 qs)(hs:(pr 0 (qs.map (·.1))).length<=1000):vX [.lst ((pr 0 (qs.map (·.1))).map dS),.ob p,.lst (l.map dL),.lst (brk l),.int w] O=.ok (.bl true) O:=by
 obtain⟨b7,b8,b9,b10,b11,e⟩:=NT hl hw hw' hp hP (.lst ((pr 0 (qs.map (·.1))).map dS)) qs 0 0 none none none none none hk
 generalize pr 0 (qs.map (·.1))=st at e hs
 obtain⟨ρ0,hρ0⟩:∃ρ0:aD,ρ0=[some (.lst (st.map dS)),some (.ob p),some (.lst (l.map dL)),some (.lst (brk l)),some (.int w),none,none,none,none,none,none,none]:=⟨_,rfl⟩
 have s1:aZ (dO (cO (bI (cQ "list" (aa 0)))) (cO (bI (aJ gO (aj (aa 0) (aj (dI (cF (aa 0)) 1 [] (mgN 0) dJ (bT (aj (ak gIx (aa 0) (mC (.int 0))) (aj (ak gIx (aa 0) (mC (.int 1))) aq)))) aq)))))) rF bj ρ0 O=.nx ρ0 O:=by
  have v0:aa 0 ρ0 O=.ok (.lst (st.map dS)) O:=by rw[hρ0];rfl
  have i0:cQ "list" (aa 0) ρ0 O=.ok (.bl true) O:=by rw[oZ (t:="list") v0 rfl,QxG]
  have ec:=lg (g:=mgN 0) (t:=dJ) (m:=bT (aj (ak gIx (aa 0) (mC (.int 0))) (aj (ak gIx (aa 0) (mC (.int 1))) aq))) (λρ=>∃a,ρ=[a]) dS dS st [none] O [] ⟨_,rfl⟩ (by
   rintro x hx ρ ⟨a,rfl⟩
   exact⟨_,rfl,⟨_,rfl⟩,rfl,oW (xs:=[.int (x.1:Int),.int (x.2:Int)]) (maS (bO (x:=dS x) (y:=.int 0) rfl rfl rfl) (ma1 (bO (x:=dS x) (y:=.int 1) rfl rfl rfl))) (show 2<=1000000 by decide)⟩)
  rw[zK] at ec;have cm:=oX (own:=1) (cap:=[]) (j4 v0) (by rw[ze];omega) (ρ0:=[none]) (by rw[hρ0];rfl) ec;rw[if_no (or_f (not_tru i0) (not_tru ((cz (maS v0 (ma1 cm))).trans (wG st hs))))];rfl
 show bB (aA (aZ (dO (cO (bI (cQ "list" (aa 0)))) (cO (bI (aJ gO (aj (aa 0) (aj (dI (cF (aa 0)) 1 [] (mgN 0) dJ (bT (aj (ak gIx (aa 0) (mC (.int 0))) (aj (ak gIx (aa 0) (mC (.int 1))) aq)))) aq)))))) rF bj) (aA (aH 5 (mC (.int 0))) (aA (aH 6 (mC (.int 0))) (aA (cu (cF (aa 0)) g78 B_w) (aU (d8 (ak gEq (aa 5) (aX bz (aj (aa 2) aq))) (ak gEq (aa 6) (cG (mG (aa 1)) (bT (aj (mC (.int 0)) (aj (mC (.int 0)) aq)))))))))) [some (.lst (st.map dS)),some (.ob p),some (.lst (l.map dL)),some (.lst (brk l)),some (.int w),none,none,none,none,none,none,none] O)=_
 rw[<-hρ0,sq s1,hρ0,sq (show aH 5 (mC (.int 0)) [some (.lst (st.map dS)),some (.ob p),some (.lst (l.map dL)),some (.lst (brk l)),some (.int w),none,none,none,none,none,none,none] O=.nx [some (.lst (st.map dS)),some (.ob p),some (.lst (l.map dL)),some (.lst (brk l)),some (.int w),some (.int 0),none,none,none,none,none,none] O from rfl),sq (show aH 6 (mC (.int 0)) [some (.lst (st.map dS)),some (.ob p),some (.lst (l.map dL)),some (.lst (brk l)),some (.int w),some (.int 0),none,none,none,none,none,none] O=.nx (eK (.lst (st.map dS)) p l w 0 0 none none none none none) O from rfl),bw,gK,j4 (l:=st.map dS) rfl,gM,e,bA]
 have le:=lC (m:=aa 2) (ρ:=eK (.lst (st.map dS)) p l w l.length (0+px cur 0) b7 b8 b9 b10 b11) (O:=O) (l:=l.map dL) rfl;rw[ze] at le;have q1:=bO (g:=gEq) (a:=aa 5) (x:=.int (l.length:Int)) rfl le uO;rw[zh rfl] at q1;have q2:=bO (g:=gEq) (a:=aa 6) (x:=.int (0+px cur 0)) rfl (qF (mo:=mG (aa 1)) (my:=bT (aj (mC (.int 0)) (aj (mC (.int 0)) aq))) (ρ:=eK (.lst (st.map dS)) p l w l.length (0+px cur 0) b7 b8 b9 b10 b11) (O:=O) (n:=(0,0)) (v:=some (px cur 0)) rfl hp rfl (lG hl hw hw' hP (Nat.zero_le _))) uO;rw[zh (Int.zero_add _)] at q2;rw[eE,oh,q1,aO,n8,if_pos rfl,q2];rfl
end
def A1:MS:=aH 1 (aJ tE (aj (aa 0) (aj (mC (.int 2)) (aj (aJ vU (aj (aa 0) aq)) aq))))
def A2:MS:=aH 2 (aJ vM (aj (aa 0) aq))
def A3:MS:=aH 3 (aJ vO (aj (aa 1) aq))
def A4:MS:=aH 4 (aX lV (aj (aa 1) aq))
def A5:MS:=aH 5 (aJ qe (aj (jV "Even" mJ (aj (aa 4) (aj (aa 2) aq))) aq))
def A6:MS:=aZ (cO (bI (aJ vV (aj (aa 5) (aj (aa 1) (aj (aa 3) (aj (aa 2) aq))))))) rF bj
def A7:MS:=aH 6 (aJ jY (aj (aa 4) (aj (aa 2) aq)))
def A8:MS:=aZ (dN (aK (ak gEq (aa 1) (cg aq))) (cO (bI (aJ gO (aj (aa 6) (aj (cg (aj (bT (aj (mC (.int 0)) (aj (mC (.int 0)) aq))) aq)) aq)))))) rF bj
def A9:MS:=aZ (dN (aK (ak gNe (aa 1) (cg aq))) (cO (bI (aJ vX (aj (aa 6) (aj (aa 5) (aj (aa 1) (aj (aa 3) (aj (aa 2) aq))))))))) rF bj
def A10:MS:=aH 7 (dI (cF (aa 6)) 2 [] (jO 2 (fJ (mgN 0) (fJ (mgN 1) kE))) dJ (bT (aj (aa 0) (aj (aa 1) aq))))
def A11:MS:=dU 6 (bT (aj (mC (.int 0)) (aj (mC (.int 0)) aq)))
def A12:MS:=aU (d8 (aJ gO (aj (aJ qj (aj (aa 4) (aj (aa 2) (aj (mC (.str iQ)) aq)))) (aj (aa 7) aq))) (d8 (aJ gO (aj (aJ jY (aj (aa 4) (aj (aa 2) aq))) (aj (aa 7) aq))) (ak gEq (aa 4) (aa 1))))
def eZ(X L:D)(w:Int)(B:D)(a4 a5 a6 a7:Option D):aD:=[some X,some L,some (.int w),some B,a4,a5,a6,a7]
theorem QsO(xs:List Int)(hx:xs.length<=63):∃O',K3 [.lst (xs.map D.int)] []=.ok (.bl true) O':=by
 obtain⟨X,hX⟩:∃X,X=D.lst (xs.map D.int):=⟨_,rfl⟩;obtain⟨most,hm,em⟩:=QvS xs [];obtain⟨l,hl1,hok,el⟩:=Zv xs 2 most (by decide) (by omega) hx [];obtain⟨w,hw,ew⟩:=ZZ xs []
 have hl:l.length<=200:=by omega
 rw[<-hX] at em el ew ⊢;obtain⟨L,hL⟩:∃L,L=D.lst (l.map dL):=⟨_,rfl⟩;obtain⟨B,hB⟩:∃B,B=D.lst (brk l):=⟨_,rfl⟩
 have s1:A1 [some X,none,none,none,none,none,none,none] []=.nx [some X,some L,none,none,none,none,none,none] []:=by
  refine du ?_;rw[cz (maS (x:=X) rfl (maS (x:=.int ((2:Nat):Int)) rfl (ma1 ((cz (ma1 (x:=X) rfl)).trans em)))),hL];exact el
 have s2:A2 [some X,some L,none,none,none,none,none,none] []=.nx [some X,some L,some (.int w),none,none,none,none,none] []:=du ((cz (ma1 (x:=X) rfl)).trans ew)
 have s3:A3 [some X,some L,some (.int w),none,none,none,none,none] []=.nx (eZ X L w B none none none none) []:=by
  refine du ((cz (ma1 (x:=L) rfl)).trans ?_);rw[hL,hB];exact ZP l (by omega) []
 have s4:A4 (eZ X L w B none none none none) []=.nx (eZ X L w B (some L) none none none) []:=by
  rw[hL];exact du (M6 (d:=.lst (l.map dL)) rfl rfl)
 have T:=qH l w hl hw.1 hw.2 0;obtain⟨O1,cur,e1,g1,_,hP,hcl⟩:=MJ T (O:=[]++[.ins "Even" (fsE l w)]) rfl
 have mk:jV "Even" mJ (aj (aa 4) (aj (aa 2) aq)) (eZ X L w B (some L) none none none) []=.ok (.ob 0) ([]++[.ins "Even" (fsE l w)]):=by
  rw[Jz,maS (x:=L) rfl (ma1 (x:=.int w) rfl),aO,hL];exact(congrArg (λr=>mkF 0 r) (M7 [] l w)).trans rfl
 obtain⟨p,hp⟩:∃p,p=([]++[Ob.ins "Even" (fsE l w)]:au).length:=⟨_,rfl⟩;rw[<-hp] at e1 g1
 have s5:A5 (eZ X L w B (some L) none none none) []=.nx (eZ X L w B (some L) (some (.ob p)) none none) O1:=by
  refine qC ?_;rw[gb,dz,mk,aO,dG,aO,aO,e1]
 have s6:A6 (eZ X L w B (some L) (some (.ob p)) none none) O1=.nx (eZ X L w B (some L) (some (.ob p)) none none) O1:=by
  unfold A6;rw[if_no (not_tru ((cz (maS (x:=.ob p) rfl (maS (x:=L) rfl (maS (x:=B) rfl (ma1 (x:=.int w) rfl))))).trans (by rw[hL,hB];exact QwI hl hw.1 hw.2 g1 hP (QtQ hP hcl))))];rfl
 obtain⟨ps,qs,hPs,hk,ev⟩:=Qvt l w hl hw.1 hw.2
 have pe:∀a,a<=l.length->px cur a=px ps a:=λa ha=>by
  unfold px;rw[Ni T.fw hPs hP (l.length - a) a ((a:Int),0) (by omega) (zm.mpr rfl)]
 have hk':Wk l w cur 0 qs:=by
  have:∀(qs:List (Nat×Int)) (lo:Nat),lo<=l.length->Wk l w ps lo qs->Wk l w cur lo qs:=by
   intro qs
   induction qs with
   |nil=>exact λlo _ h=>h
   |cons q qs ih =>
    rintro lo hlo ⟨h1,h2,h3,h4,h5⟩;have qb:=(gP h1 hw.1 q h2).2.1;refine⟨h1,h2,by rw[pe q.1 qb,pe lo hlo];exact h3,λp' hp' hlt=>?_,ih q.1 qb h5⟩;rw[pe p'.1 (gP h1 hw.1 p' hp').2.1,pe lo hlo];exact h4 p' hp' hlt
  exact this qs 0 (Nat.zero_le _) hk
 have qlen:=hk.len hw.1;obtain⟨st,hst⟩:∃st,st=stE (qs.map (·.1)):=⟨_,rfl⟩
 have prl:∀(es:List Nat) (lo:Nat),(pr lo es).length=es.length:=by
  intro es
  induction es with
  |nil=>exact λ_=>rfl
  |cons e es ih =>
   intro lo;show(pr e es).length+1=_;rw[ih];rfl
 have stl:st.length<=1000:=by
  rw[hst];unfold stE
  split
  ·decide
  ·rw[prl,ze];omega
 rw[<-hst] at ev;obtain⟨O2,e2,k2⟩:=ev O1;have s7:A7 (eZ X L w B (some L) (some (.ob p)) none none) O1=.nx (eZ X L w B (some L) (some (.ob p)) (some (.lst (st.map dS))) none) O2:=qC ((cz (maS (x:=L) rfl (ma1 (x:=.int w) rfl))).trans (by rw[hL];exact e2));have g2:=k2 p _ g1;have okL:=Zx l hok
 have q0:∀ρ:aD,ρ[1]?=some (some L)->aK (ak gEq (aa 1) (cg aq)) ρ O2=.ok (fP (.lst (l.map dL)) (.lst [])) O2:=λρ h=>gk (bO (x:=L) (y:=.lst []) (by rw[cJ,h]) rfl (by rw[hL,dq,dq,yj,okL,show okE (.lst [])=true from rfl,Bool.and_self,if_pos rfl]))
 have q1:∀ρ:aD,ρ[1]?=some (some L)->aK (ak gNe (aa 1) (cg aq)) ρ O2=.ok (!fP (.lst (l.map dL)) (.lst [])) O2:=λρ h=>gk (bO (x:=L) (y:=.lst []) (by rw[cJ,h]) rfl (by rw[hL,dq,dq,Xn,okL,show okE (.lst [])=true from rfl,Bool.and_self,if_pos rfl]))
 have q01:(l=[]/\fP (.lst (l.map dL)) (.lst [])=true/\st=[(0,0)])\/(l≠[]/\fP (.lst (l.map dL)) (.lst [])=false/\st=pr 0 (qs.map (·.1))):=by
  by_cases hz:l=[]
  ·have hq0:qs=[]:=List.eq_nil_of_length_eq_zero (by rw[hz] at qlen;simp at qlen;simp[qlen]);refine .inl ⟨hz,?_,by rw[hst,hq0];rfl⟩;rw[hz];rfl
  ·refine .inr ⟨hz,?_,?_⟩
   ·cases l with
    |nil=>exact absurd rfl hz
    |cons x l=>exact LC _ _
   ·rw[hst];unfold stE;rw[if_neg];intro z
    have:qs=[]:=List.map_eq_nil_iff.mp z
    rw[this] at hk;have h0:0=l.length:=hk;exact hz (List.eq_nil_of_length_eq_zero h0.symm)
 have s8:A8 (eZ X L w B (some L) (some (.ob p)) (some (.lst (st.map dS))) none) O2=.nx (eZ X L w B (some L) (some (.ob p)) (some (.lst (st.map dS))) none) O2:=by
  unfold A8;refine(if_no ?_).trans rfl;rw[gJ,q0 _ rfl,aO]
  rcases q01 with⟨_,h2,h3⟩ | ⟨_,h2,_⟩
  ·rw[h2,if_pos rfl];refine not_tru ((cz (maS (x:=.lst (st.map dS)) rfl (ma1 (x:=.lst ([(0,0)].map dS)) rfl))).trans ?_);rw[h3];exact wG _ (by decide)
  ·rw[h2,if_neg zj]
 have s9:A9 (eZ X L w B (some L) (some (.ob p)) (some (.lst (st.map dS))) none) O2=.nx (eZ X L w B (some L) (some (.ob p)) (some (.lst (st.map dS))) none) O2:=by
  unfold A9;refine(if_no ?_).trans rfl;rw[gJ,q1 _ rfl,aO]
  rcases q01 with⟨_,h2,_⟩ | ⟨_,h2,h3⟩
  ·rw[h2];rfl
  ·rw[h2,Bool.not_false,if_pos rfl];refine not_tru ((cz (maS (x:=.lst (st.map dS)) rfl (maS (x:=.ob p) rfl (maS (x:=L) rfl (maS (x:=B) rfl (ma1 (x:=.int w) rfl)))))).trans ?_);rw[hL,hB,h3];exact QsM hl hw.1 hw.2 g2 hP hk' (by rw[<-h3];exact stl)
 have s10:A10 (eZ X L w B (some L) (some (.ob p)) (some (.lst (st.map dS))) none) O2=.nx (eZ X L w B (some L) (some (.ob p)) (some (.lst (st.map dS))) (some (.lst (st.map dS)))) O2:=by
  have ec:=lg (g:=jO 2 (fJ (mgN 0) (fJ (mgN 1) kE))) (t:=dJ) (m:=bT (aj (aa 0) (aj (aa 1) aq))) (λρ=>∃a b,ρ=[a,b]) dS dS st [none,none] O2 [] ⟨_,_,rfl⟩ (by
   rintro x hx ρ ⟨a,b,rfl⟩
   exact⟨[some (.int (x.1:Int)),some (.int (x.2:Int))],rfl,⟨_,_,rfl⟩,rfl,oW (xs:=[.int (x.1:Int),.int (x.2:Int)]) (maS rfl (ma1 rfl)) (show 2<=1000000 by decide)⟩)
  rw[zK] at ec;exact du (oX (own:=2) (cap:=[]) (j4 (m:=aa 6) (l:=st.map dS) rfl) (by rw[ze];omega) (ρ0:=[none,none]) rfl ec)
 have s11:A11 (eZ X L w B (some L) (some (.ob p)) (some (.lst (st.map dS))) (some (.lst (st.map dS)))) O2=.nx (eZ X L w B (some L) (some (.ob p)) (some (.lst (st.map dS++[dS (0,0)]))) (some (.lst (st.map dS)))) O2:=vY (oW (xs:=[.int 0,.int 0]) (maS rfl (ma1 rfl)) (show 2<=1000000 by decide)) rfl (by rw[ze];omega);obtain⟨ρ,hρ⟩:∃ρ,ρ=eZ X L w B (some L) (some (.ob p)) (some (.lst (st.map dS++[dS (0,0)]))) (some (.lst (st.map dS))):=⟨_,rfl⟩
 have v4:∀O,aa 4 ρ O=.ok L O:=λO=>by rw[hρ];rfl
 have v2:∀O,aa 2 ρ O=.ok (.int w) O:=λO=>by rw[hρ];rfl
 have v7:∀O,aa 7 ρ O=.ok (.lst (st.map dS)) O:=λO=>by rw[hρ];rfl
 have v1:∀O,aa 1 ρ O=.ok L O:=λO=>by rw[hρ];rfl
 obtain⟨O3,e3,_⟩:=ev O2
 obtain⟨O4,e4,_⟩:=Qv2 l w hw (O:=O2) (O':=O3) (st:=st) (λhz=>by
  rcases q01 with⟨_,_,h3⟩ | ⟨h1,_⟩
  ·exact h3
  ·exact absurd hz h1) e3
 obtain⟨O5,e5,_⟩:=ev O4
 have r1:aJ gO (aj (aJ qj (aj (aa 4) (aj (aa 2) (aj (mC (.str iQ)) aq)))) (aj (aa 7) aq)) ρ O2=.ok (.bl true) O4:=by
  rw[gb,dz,cz (maS (v4 O2) (maS (v2 O2) (ma1 (x:=.str iQ) rfl))),hL,e4,aO,ma1 (v7 O4),aO,aO];exact wG st stl
 have r2:aJ gO (aj (aJ jY (aj (aa 4) (aj (aa 2) aq))) (aj (aa 7) aq)) ρ O4=.ok (.bl true) O5:=by
  rw[gb,dz,cz (maS (v4 O4) (ma1 (v2 O4))),hL,e5,aO,ma1 (v7 O5),aO,aO];exact wG st stl
 have r3:ak gEq (aa 4) (aa 1) ρ O5=.ok (.bl true) O5:=bO (v4 O5) (v1 O5) (by rw[hL,dq,yj,okL,Bool.and_self,if_pos rfl,Xy okL]);refine⟨O5,?_⟩;show bB (aA A1 (aA A2 (aA A3 (aA A4 (aA A5 (aA A6 (aA A7 (aA A8 (aA A9 (aA A10 (aA A11 A12)))))))))) [some X,none,none,none,none,none,none,none] [])=_;rw[sq s1,sq s2,sq s3,sq s4,sq s5,sq s6,sq s7,sq s8,sq s9,sq s10,sq s11,<-hρ];unfold A12;rw[eE,oh,r1,aO,n8,if_pos rfl,oh,r2,aO,n8,if_pos rfl,r3];rfl
theorem all_mk{l:PySem.W.OpenLaw}{w:World}{K:PySem.W.Frag}{h:Heap}{mg:Str->Option Value}{fa:Addr}(X:K.In h)(G:h.Ns mainGlobals mg)(hfa:mg "law" = some (.ref fa))
  {j5:Addr}
  {Em:Addr}{Qw5 NZ:Option Addr}{Qvz:Array (Option Value)}{Qvq N5 N6 N7 En N8:Value}
  {ad_WAYS:Addr}{Oa:Value}{QuZ:Option Addr}{it_WAYS:Array Value}{nn_WAYS:Nat}{Qt3:Array (Option Value)}
  (Z_Even:ClsAt K "Even" j5)
  (Qlo:PySem.W.findIn K (.ref j5) "letters" = some none)
  (Qn4:PySem.W.findIn K (.ref j5) "wide" = some none)
  (yx:Def K mg "width_of" yu)
  (yC:Def K mg "cells_of" uV)
  (yE:Def K mg "is_break" yD)
  (yG:Def K mg "reach" yF)
  (yJ:Def K mg "fitting_ends" yH)
  (yO:Def K mg "line_ends" yL)
  (yV:Def K mg "is_whole" yR)
  (yZ:Def K mg "is_within" yW)
  (Aa:Def K mg "cost_over" z8)
  (Ac:Def K mg "least_cost" sH)
  (M_Even_nodes_at:MethAt K j5 "nodes_at" "Even.nodes_at" Ad)
  (M_Even_is_end:MethAt K j5 "is_end" "Even.is_end" Af)
  (M_Even_cost_to:MethAt K j5 "cost_to" "Even.cost_to" Ah)
  (M_Even_moves_from:MethAt K j5 "moves_from" "Even.moves_from" vg)
  (An:Def K mg "price_nodes" Am)
  (M_Even_last_at:MethAt K j5 "last_at" "Even.last_at" Aq)
  (Az:Def K mg "priced" Av)
  (Bc:Def K mg "first_cheapest" vq)
  (M_Even_first_node:MethAt K j5 "first_node" "Even.first_node" Bd)
  (Bg:Def K mg "way_of" Bf)
  (M_Even___init__:MethAt K j5 "__init__" "Even.__init__" Bk)
  (Bq:Def K mg "even" vC)
  (Bu:Def K mg "is_way" Bs)
  (Bx:Def K mg "next_end" Bw)
  (BJ:Def K mg "end_to_end" By)
  (BP:Def K mg "fold" BL)
  (Ce:Def K mg "_law_cell" Ca)
  (Ci:Def K mg "_law_mix" Cg)
  (Ck:Def K mg "_law_whole" Cj)
  (oO:Def K mg "_law_alike" vJ)
  (Cu:Def K mg "_law_stream" Cq)
  (Cv:Def K mg "_law_run" vK)
  (Cy:Def K mg "_law_letters" Cw)
  (CK:Def K mg "_law_wide" CJ)
  (CQ:Def K mg "_law_trimmed" vN)
  (CW:Def K mg "_law_breaks" CT)
  (Dd:Def K mg "_law_taken" CZ)
  (Di:Def K mg "_law_reached" De)
  (Dm:Def K mg "_law_cost" Dk)
  (Do:Def K mg "_law_most" Dn)
  (Dq:Def K mg "_law_fair" Dp)
  (Ds:Def K mg "_law_walked" vW)
  (Eo:PySem.W.nsIn K mainGlobals "law" = some (some (.ref Em))) (Oc:K.lookup Em=some ⟨Qvq,Qw5,.func (PySem.W.fnOf "law" "law" (iz jE) (fB jE) (aY jE) .none N5 N6 N7 NZ En N8),Qvz⟩) (QvI:PySem.W.codeIn K En "law" = true) (QxZ:PySem.W.keepIn K (.ref Em)=true)
  (B:bR mg)
  (NK:bH K=true)
  (BR:∃u,mg "GREATEST_BREADTH" = some u/\RelV (.int 40) u)
  (BV:∃u,mg "LEAST_BREADTH" = some u/\RelV (.int 2) u)
  (QrI:PySem.W.nsIn K mainGlobals "WAYS" = some (some (.ref ad_WAYS))) (Qsz:K.lookup ad_WAYS=some ⟨Oa,QuZ,.seq it_WAYS nn_WAYS,Qt3⟩) (t_c_WAYS:Oa=.type "tuple") (QrJ:it_WAYS.size<=sizeLine) (v_c_WAYS:aR (List.map (λl=>V.str (S l)) [[99,117,116],[99,101,108,108,115],[119,111,114,100,115],[101,118,101,110]]) it_WAYS.toList):
  ∃fd:FuncData,(∀(s:Shared) (v:Value),BindsTo s fd ⟨[v],[]⟩ [("_law_script",v)])/\∀base:Heap,K.In base->base.Ns mainGlobals mg->dH l.prog w K mg base CX0 10 fa fd ["_law_script"] (sp_law K):=by
 have e:=hfa.symm.trans (PySem.W.mg_of X G Eo);cases e;have gh:=Z_Even.kf X G Qlo;have lu:=Z_Even.kf X G Qn4;have Ae:=Z_Even.dm X G M_Even_nodes_at;have Ag:=Z_Even.dm X G M_Even_is_end;have Ai:=Z_Even.dm X G M_Even_cost_to;have Ak:=Z_Even.dm X G M_Even_moves_from;have Ar:=Z_Even.dm X G M_Even_last_at;have Be:=Z_Even.dm X G M_Even_first_node;have Bm:=Z_Even.dc X G M_Even___init__;have Dt:Def K mg "law" jE:=⟨_,_,PySem.W.mg_of X G Eo,w5 (st:=jE) Oc QvI QxZ⟩;have Bv:xR K mg "WAYS" [[99,117,116],[99,101,108,108,115],[119,111,114,100,115],[101,118,101,110]]:=⟨ad_WAYS,_,it_WAYS,nn_WAYS,PySem.W.mg_of X G QrI,Qsz,t_c_WAYS,rfl,QrJ,v_c_WAYS⟩
 refine⟨PySem.W.fnOf "law" "law" (iz jE) (fB jE) (aY jE) .none N5 N6 N7 NZ En N8,λs v=>.of_eq rfl,λbase _ _=>?_⟩;have jW:=@X3 l.prog w K mg base yx B NK;have yQ:=@X5 l.prog w K mg base yC B NK jW;have yK:=@X7 l.prog w K mg base yE B NK;have lq:=@X8 l.prog w K mg base yG B NK jW;have yP:=@Yb l.prog w K mg base yJ B NK jW yK;have p7:=@Yc l.prog w K mg base yO B NK yP lq yQ;have z7:=@Ye l.prog w K mg base yV B NK;have BW:=@Yh l.prog w K mg base yZ B NK z7;have pZ:=@Yi l.prog w K mg base Aa B NK;have qd:=@Yj l.prog w K mg base Ac B NK pZ
 have Ao:=@Yl l.prog w K mg base Ae B NK;have lz:=@Yn l.prog w K mg base Ag B NK gh;have Al:=@Yp l.prog w K mg base Ai B NK gh lu;have p8:=@Yq l.prog w K mg base Ak B NK gh lu lz p7 Al;have Bb:=@Yr l.prog w K mg base An B NK Ao p8 lz qd;have Ba:=@Yt l.prog w K mg base Ar B NK gh;have qg:=@Yu l.prog w K mg base Az B NK Ba Bb;have Bj:=@Yv l.prog w K mg base Bc B NK qd pZ;have Bh:=@Yx l.prog w K mg base Be B NK;have Br:=@Yy l.prog w K mg base Bg B NK qg Bh lz Bj p8;have qi:=@YB l.prog w K mg base Bm B NK gh lu;have oK:=@YC l.prog w K mg base Bq B NK Br qi
 have BX:=@YF l.prog w K mg base Bu B NK Bv;have BK:=@YH l.prog w K mg base Bx B NK p7 lq;have BZ:=@YJ l.prog w K mg base BJ B NK BK;have DK:=@YL l.prog w K mg base BP B NK BR BV BW BX lq oK BZ;have jD:=@YM l.prog w K mg base Ce B NK;have jC:=@YQ l.prog w K mg base Ci B NK;have Dr:=@YT l.prog w K mg base Ck B NK;have jZ:=@YW l.prog w K mg base oO B NK;have Cz:=@YX l.prog w K mg base Cu B NK;have CG:=@YZ l.prog w K mg base Cv B NK;have Du:=@Y0 l.prog w K mg base Cy B NK jC jD Cz CG;have Dw:=@Y4 l.prog w K mg base CK B NK jD jC;have qw:=@Y5 l.prog w K mg base CQ B NK
 have Dy:=@Y6 l.prog w K mg base CW B NK;have Dj:=@Y7 l.prog w K mg base Dd B NK;have qx:=@Y8 l.prog w K mg base Di B NK qw Dj;have oV:=@Y9 l.prog w K mg base Dm B NK qw;have Dv:=@Zb l.prog w K mg base Do B NK jC jD;have Dz:=@Zc l.prog w K mg base Dq B NK Dr qx oV;have DG:=@Zd l.prog w K mg base Ds B NK jZ qx oV;have Qx6:=@Zf l.prog w K mg base Dt B NK Du Dv Dw Dy qg qi Dz oK jZ DG DK;obtain⟨f',fd',hm',hk',hb',F',oc',od',osl',lk'⟩:=Qx6;have e2:=(PySem.W.mg_of X G Eo).symm.trans hm';cases e2;have e3:=Oc.symm.trans lk';cases e3;exact F'.imp (VH QsO)
theorem walk{l:PySem.W.OpenLaw}{q:Program}{loose:List Str}{XP:(Str->Option Value)->Heap->Prop}{YP:World->Heap->Prop}{d:DefRec}{K:Params->PySem.W.Frag}(hn:l.most=some 63)(hdf:d.params.defaults=[])
  (hY:∀(w:World) (h:Heap),YP w h->(K w.params).In h)
  (F:∀(w:World) (mg:Str->Option Value) (fa:Addr) (h:Heap),(K w.params).In h->h.Ns mainGlobals mg->mg d.name=some (.ref fa) ->
   ∃fd:FuncData,(∀(s:Shared) (u:Value),BindsTo s fd ⟨[u],[]⟩ [("_law_script",u)])/\∀base:Heap,(K w.params).In base->base.Ns mainGlobals mg->dH l.prog w (K w.params) mg base CX0 10 fa fd ["_law_script"] (sp_law (K w.params))):
  PySem.W.WalkO q loose XP YP l.row.toRowW d [] (λf vs=>PySem.call f vs):=
 L2.walk_ofR (n:=63) (k:=10) (x:="_law_script") (CX:=λ_=>CX0) (sp:=λw=>sp_law (K w.params)) hn (by decide) hdf ⟨rfl,by decide,by decide⟩ hY F (λ_ _ a ns hl ho hS=>⟨a,ns,rfl,hS,hl,ho,λ_=>rfl⟩) λ_ _ _ _ _ z=>z
end K46
open PySem PySem.W PyProof.Rows L2
set_option maxRecDepth 100000 in
set_option maxHeartbeats 0 in
theorem PySem.Challenge.cw_outweave_k46_whole_even_by_prices_holds : PySem.Challenge.rw_outweave_k46_whole_even_by_prices.Holds := by
 w_on;o_law;k_head;(case hw=>w_witness2)
 k_fill
 refine K46.walk (l:=PySem.Challenge.rw_outweave_k46_whole_even_by_prices) rfl rfl (λw h Y=>PySem.W.kIn_of Y) ?F
 case F =>
  intro w mg fa h KX G hmg
  refine' K46.all_mk KX G hmg ⟨?x1,?x2,?x3,?x4,?x5,?x6,?x7⟩ ?x8 ?x9 (mkD KX G ?x10 ?x11 ?x12 ?x13) (mkD KX G ?x14 ?x15 ?x16 ?x17) (mkD KX G ?x18 ?x19 ?x20 ?x21) (mkD KX G ?x22 ?x23 ?x24 ?x25) (mkD KX G ?x26 ?x27 ?x28 ?x29) (mkD KX G ?x30 ?x31 ?x32 ?x33) (mkD KX G ?x34 ?x35 ?x36 ?x37) (mkD KX G ?x38 ?x39 ?x40 ?x41) (mkD KX G ?x42 ?x43 ?x44 ?x45) (mkD KX G ?x46 ?x47 ?x48 ?x49) (mkM ?x50 ?x51 ?x52 ?x53 ?x54) (mkM ?x55 ?x56 ?x57 ?x58 ?x59) (mkM ?x60 ?x61 ?x62 ?x63 ?x64) (mkM ?x65 ?x66 ?x67 ?x68 ?x69) (mkD KX G ?x70 ?x71 ?x72 ?x73) (mkM ?x74 ?x75 ?x76 ?x77 ?x78) (mkD KX G ?x79 ?x80 ?x81 ?x82) (mkD KX G ?x83 ?x84 ?x85 ?x86) (mkM ?x87 ?x88 ?x89 ?x90 ?x91) (mkD KX G ?x92 ?x93 ?x94 ?x95) (mkM ?x96 ?x97 ?x98 ?x99 ?x100) (mkD KX G ?x101 ?x102 ?x103 ?x104) (mkD KX G ?x105 ?x106 ?x107 ?x108) (mkD KX G ?x109 ?x110 ?x111 ?x112) (mkD KX G ?x113 ?x114 ?x115 ?x116) (mkD KX G ?x117 ?x118 ?x119 ?x120) (mkD KX G ?x121 ?x122 ?x123 ?x124) (mkD KX G ?x125 ?x126 ?x127 ?x128) (mkD KX G ?x129 ?x130 ?x131 ?x132) (mkD KX G ?x133 ?x134 ?x135 ?x136) (mkD KX G ?x137 ?x138 ?x139 ?x140) (mkD KX G ?x141 ?x142 ?x143 ?x144) (mkD KX G ?x145 ?x146 ?x147 ?x148) (mkD KX G ?x149 ?x150 ?x151 ?x152) (mkD KX G ?x153 ?x154 ?x155 ?x156) (mkD KX G ?x157 ?x158 ?x159 ?x160) (mkD KX G ?x161 ?x162 ?x163 ?x164) (mkD KX G ?x165 ?x166 ?x167 ?x168) (mkD KX G ?x169 ?x170 ?x171 ?x172) (mkD KX G ?x173 ?x174 ?x175 ?x176) (mkD KX G ?x177 ?x178 ?x179 ?x180) (mkD KX G ?x181 ?x182 ?x183 ?x184) ?x185 ?x186 ?x187 ?x188 ⟨⟨⟨PySem.W.mg_none_of KX G ?x189,PySem.W.mg_none_of KX G ?x190,PySem.W.mg_none_of KX G ?x191,PySem.W.mg_none_of KX G ?x192,PySem.W.mg_none_of KX G ?x193,PySem.W.mg_none_of KX G ?x194,PySem.W.mg_none_of KX G ?x195,PySem.W.mg_none_of KX G ?x196,PySem.W.mg_none_of KX G ?x197,PySem.W.mg_none_of KX G ?x198,PySem.W.mg_none_of KX G ?x199,PySem.W.mg_none_of KX G ?x200,PySem.W.mg_none_of KX G ?x201,PySem.W.mg_none_of KX G ?x202,PySem.W.mg_none_of KX G ?x203⟩,PySem.W.mg_none_of KX G ?x204⟩,PySem.W.mg_none_of KX G ?x205⟩ ?x206 ⟨_,PySem.W.mg_of KX G ?x207,?x208⟩ ⟨_,PySem.W.mg_of KX G ?x209,?x210⟩ ?x211 ?x212 ?x213 ?x214 ?x215
  (case x1 | x2 | x3 | x4 | x5 | x6 | x7 | x8 | x9 | x10 | x11 | x12 | x13 | x14 | x15 | x16 | x17 | x18 | x19 | x20 | x21 | x22 | x23 | x24 | x25 | x26 | x27 | x28 | x29 | x30 | x31 | x32 | x33 | x34 | x35 | x36 | x37 | x38 | x39 | x40 | x41 | x42 | x43 | x44 | x45 | x46 | x47 | x48 | x49 | x50 | x51 | x52 | x53 | x54 | x55 | x56 | x57 | x58 | x59 | x60 | x61 | x62 | x63 | x64 | x65 | x66 | x67 | x68 | x69 | x70 | x71 | x72 | x73 | x74 | x75 | x76 | x77 | x78 | x79 | x80 | x81 | x82 | x83 | x84 | x85 | x86 | x87 | x88 | x89 | x90 | x91 | x92 | x93 | x94 | x95 | x96 | x97 | x98 | x99 | x100 | x101 | x102 | x103 | x104 | x105 | x106 | x107 | x108 | x109 | x110 | x111 | x112 | x113 | x114 | x115 | x116 | x117 | x118 | x119 | x120 | x121 | x122 | x123 | x124 | x125 | x126 | x127 | x128 | x129 | x130 | x131 | x132 | x133 | x134 | x135 | x136 | x137 | x138 | x139 | x140 | x141 | x142 | x143 | x144 | x145 | x146 | x147 | x148 | x149 | x150 | x151 | x152 | x153 | x154 | x155 | x156 | x157 | x158 | x159 | x160 | x161 | x162 | x163 | x164 | x165 | x166 | x167 | x168 | x169 | x170 | x171 | x172 | x173 | x174 | x175 | x176 | x177 | x178 | x179 | x180 | x181 | x182 | x183 | x184 | x185 | x186 | x187 | x188 | x189 | x190 | x191 | x192 | x193 | x194 | x195 | x196 | x197 | x198 | x199 | x200 | x201 | x202 | x203 | x204 | x205 | x207 | x209 | x211 | x212=>k_is)
  (case x206=>first | kernel_rfl | decide +kernel)
  (case x208 | x210=>exact⟨_,rfl⟩)
  (case x213=>rfl)
  (case x214=>decide +kernel)
  (case x215=>repeat (first | exact .nil | refine .cons ⟨_,rfl⟩ ?_))
